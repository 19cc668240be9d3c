import PyProof.Rows.All
import Wide.All
import OpenK.AllK
import Wide.FinOn
import HandS.ForMost
import HandS.Evl
import PyProof.RulesMatchSeq
import PyProof.Rows.MatchSeqLen
import PySem.Challenge.RW_surfacehall_k16_known_screens
import HandS.Star
import HandS.More
import KE.KSortedM
import HandS.IsInst
import HandS.Walk
import HandS.Zip
import KE.SortKeyHeap
import HandS.SortKw
import KE.KDictCopyH
import KE.KEqSeq
import HandS.SortRule
import HandS.HeadHook3
set_option Elab.async false
set_option linter.all false
set_option maxRecDepth 100000
/-! match over a tuple whose first item is a text -/
namespace SH
open PySem PySem.Spec PyProof.Rows L2

def capSet : List (Option Nat) → List V → L2.St → L2.St
  | some i :: is, v :: vs, σ => capSet is vs (σ.set i (some v))
  | none :: is, _ :: vs, σ => capSet is vs σ
  | _, _, σ => σ

section
variable {X : Cx}
inductive CapOk (X : Cx) : List Pattern → List (Option Nat) → Prop
  | nil : CapOk X [] []
  | wild {ps is pos} : CapOk X ps is → CapOk X (.MatchAs none none pos :: ps) (none :: is)
  | cap {ps is pos i x} (hN : X.N.Nodup) (hi : X.N[i]? = some x) (hx : Loc X.env.scope x) (hf : X.fn x = true ∨ X.env.scope.names.lookup x = some .local) : CapOk X ps is → CapOk X (.MatchAs none (some x) pos :: ps) (some i :: is)

def bnds : List Pattern → List Value → List (Str × Value)
  | .MatchAs none nm _ :: ps, u :: us => (nm.map (·, u)).toList ++ bnds ps us
  | _, _ => []

theorem CapOk.nostar {ps : List Pattern} {is : List (Option Nat)} (c : CapOk X ps is) : ps.findIdx? (·.isStar) = none := by
  induction c with
  | nil => rfl
  | wild _ ih => rw [List.findIdx?_cons, ih]; rfl
  | cap _ _ _ _ _ ih => rw [List.findIdx?_cons, ih]; rfl

theorem caps_each {M : Model} {A : Around} {E : Value → Shared → Prop} {s : Shared} {env : Env} {ps : List Pattern} {is : List (Option Nat)} (c : CapOk X ps is) :
    ∀ {us : List Value}, us.length = ps.length → ∀ {Q : Option (List (Str × Value)) → Shared → Prop}, Q (some (bnds ps us)) s → wpAny M A (matchEach ps env us) Q E s := by
  induction c with
  | nil => intro us hl Q h; exact wpAny_matchEach_nil h
  | @wild ps is pos c ih =>
    intro us hl Q h
    cases us with
    | nil => cases hl
    | cons u us =>
      refine wpAny_matchEach_cons (wpAny_matchPattern_Capture ?_)
      exact ih (by simpa using hl) (by simpa [bnds] using h)
  | @cap ps is pos i x hN hi hx hf c ih =>
    intro us hl Q h
    cases us with
    | nil => cases hl
    | cons u us =>
      refine wpAny_matchEach_cons (wpAny_matchPattern_Capture ?_)
      exact ih (by simpa using hl) (by simpa [bnds] using h)

theorem caps_store {pins : List (Addr × Obj)} {ps : List Pattern} {is : List (Option Nat)} (c : CapOk X ps is) :
    ∀ {us : List Value} {vs : List V} {σ : L2.St} {H : Hp} {s : Shared} {Q : Unit → Shared → Prop}, us.length = ps.length → Vals vs us → Inv X pins σ H s → (∀ s', Inv X pins (capSet is vs σ) H s' → Q () s') →
      wpAny (model X.prog X.w) X.A (assignInOrder ((bnds ps us).map fun (n, _) => bindName X.env n) ((bnds ps us).map (·.2))) Q X.xe s := by
  induction c with
  | nil => intro us vs σ H s Q hl r I h; exact wpAny_assignInOrder_none (h s (by cases vs <;> exact I))
  | @wild ps is pos c ih =>
    intro us vs σ H s Q hl r I h
    cases r with
    | nil => cases hl
    | @cons v u vs us r rs => exact ih (by simpa using hl) rs I h
  | @cap ps is pos i x hN hi hx hf c ih =>
    intro us vs σ H s Q hl r I h
    cases r with
    | nil => cases hl
    | @cons v u vs us r rs =>
      show wpAny _ _ (assignInOrder (bindName X.env x :: ((bnds ps us).map fun (n, _) => bindName X.env n)) (u :: (bnds ps us).map (·.2))) Q X.xe s
      refine wpAny_assignInOrder_more (bindName_ ?_)
      exact store_ok I hN hi hx r (fun s' I' => ih (by simpa using hl) rs I' h) hf

/-- the cases of a match whose subject is a tuple (text, ..) -/
structure PCs (X : Cx) (cs : List MatchCase) (t : Str → List V → TS) : Prop where
  run : ∀ (first : Bool) (pins : List (Addr × Obj)) (s : Shared) (σ : L2.St) (H : Hp) (D : Ends) (a : Addr) (z : Str) (xs : List V), Inv X pins σ H s → SqT X.K H a (.str z :: xs) → t z xs D σ H →
    wpAny (model X.prog X.w) X.A (matchCases cs X.env (.ref a) first) (SP X pins D) X.xe s

def mNil : Str → List V → TS := fun _ _ D σ H => D.nx σ H
theorem pcs_nil : PCs X [] mNil := ⟨fun _ _ _ σ H _ _ _ _ I _ h => wpAny_matchCases_nil ⟨σ, H, I, h⟩⟩
def mAny (tb : TS) : Str → List V → TS := fun _ _ D σ H => tb D σ H
theorem pcs_any {body : List Stmt} {pos : Pos} {rest : List MatchCase} {tb : TS} (hb : PSs X body tb) : PCs X (⟨.MatchAs none none pos, none, body⟩ :: rest) (mAny tb) := by
  refine ⟨fun first pins s σ H D a z xs I hq h => ?_⟩
  refine wpAny_matchCases_cons (wpAny_matchPattern_Capture ?_)
  exact wpAny_assignInOrder_none (hb.run pins s σ H D I h)
def mSeq (lit : Str) (n : Nat) (is : List (Option Nat)) (tb : TS) (tr : Str → List V → TS) : Str → List V → TS := fun z xs D σ H =>
  if z = lit ∧ xs.length = n then tb D (capSet is xs σ) H else tr z xs D σ H
theorem pcs_seq {lit : Str} {j : Nat} {p1 p2 p3 : Pos} {ps : List Pattern} {is : List (Option Nat)} {body : List Stmt} {rest : List MatchCase} {tb : TS} {tr : Str → List V → TS} (hcalm : X.calm = true)
    (c : CapOk X ps is) (hb : PSs X body tb) (hr : PCs X rest tr) :
    PCs X (⟨.MatchSequence (.MatchValue (.Constant (.str lit) j p1) p2 :: ps) p3, none, body⟩ :: rest) (mSeq lit ps.length is tb tr) := by
  refine ⟨fun first pins s σ H D a z xs I hq h => ?_⟩
  obtain ⟨its, rv, ht, hz⟩ := I.tuple hq
  have hlen : its.length = xs.length + 1 := by rw [← rv.length]; rfl
  refine wpAny_matchCases_cons (wpAny_matchPattern_Sequence (wpAny_collectionFlag ht.typeIs flag_seq_tuple ?_) ?_ ?_)
  · simp only [if_true]
    refine pyLen_tuple ht (by simp only [List.size_toArray]; have := line63; simp at hz; omega) ?_
    by_cases hn : xs.length = ps.length
    · have e1 : ((its.toArray.size : Int) != ((Pattern.MatchValue (.Constant (.str lit) j p1) p2 :: ps).length : Int)) = false := by
        simp only [List.size_toArray, List.length_cons, bne_eq_false_iff_eq]; omega
      rw [e1]
      simp only [Bool.false_eq_true, if_false]
      have e2 : (Pattern.MatchValue (.Constant (.str lit) j p1) p2 :: ps).length = its.toArray.size := by simp only [List.size_toArray, List.length_cons]; omega
      rw [e2]
      refine unpackItems_tuple (I.ok.hd hcalm) ht fun h' hx => ?_
      have I1 : Inv X pins σ H { s with heap := h', toks := s.toks + 1 + 1 } := I.kept (t' := s.toks + 1 + 1) fun b o e => hx b o (Nat.ne_of_lt (Heap.lt_size e)) e
      have ea : its.toArray.toList = its := by simp
      rw [ea]
      cases rv with
      | @cons _ u _ us r0 rs =>
        refine wpAny_matchEach_cons (wpAny_matchPattern_Value ?_)
        refine thn (pe_str.run pins _ σ H (fun y H1 => y = .str lit ∧ H1 = H) I1 ⟨rfl, rfl⟩) fun c1 s1 ⟨y, H1, I2, r1, e3, e4⟩ => ?_
        subst e3; subst e4
        refine thn (op_eq pins s1 σ H1 (.str z) (.str lit) u c1 (fun y H2 => y = .bl (decide (z = lit)) ∧ H2 = H1) I2 r0 r1 ⟨rfl, ?_, rfl⟩) fun c2 s2 ⟨y, H2, I3, r2, e3, e4⟩ => ?_
        · congr 1; simp
        subst e3; subst e4
        obtain rfl : c2 = Value.bool (decide (z = lit)) := r2
        refine wpAny_truthy_bool ?_
        by_cases hzl : z = lit
        · rw [decide_eq_true hzl]
          simp only [if_true]
          have hlu : us.length = ps.length := by simp at hlen; omega
          refine caps_each c hlu ?_
          simp only [List.nil_append]
          refine caps_store c hlu rs I3 fun s' I4 => ?_
          have h' : tb D (capSet is xs σ) H2 := by
            have := h; unfold mSeq at this; rwa [if_pos ⟨hzl, hn⟩] at this
          exact hb.run pins s' _ H2 D I4 h'
        · rw [decide_eq_false hzl]
          simp only [Bool.false_eq_true, if_false]
          have h' : tr z xs D σ H2 := by
            have := h; unfold mSeq at this; rwa [if_neg (fun q => hzl q.1)] at this
          exact hr.run false pins s2 σ H2 D a z xs I3 hq h'
    · have e1 : ((its.toArray.size : Int) != ((Pattern.MatchValue (.Constant (.str lit) j p1) p2 :: ps).length : Int)) = true := by
        simp only [List.size_toArray, List.length_cons, bne_iff_ne, ne_eq]; omega
      rw [e1]
      simp only [if_true]
      have h' : tr z xs D σ H := by
        have := h; unfold mSeq at this; rwa [if_neg (fun q => hn q.2)] at this
      exact hr.run false pins _ σ H D a z xs (I.tok _) hq h'
  · rw [List.findIdx?_cons, c.nostar]; rfl
  · rfl

def tMatch (K : PySem.W.Frag) (te : TE) (t : Str → List V → TS) : TS := fun D σ H => te σ H fun x H1 => ∃ a z xs, x = .ref a ∧ SqT K H1 a (.str z :: xs) ∧ t z xs D σ H1
theorem ps_match {e : Expr} {te : TE} {cs : List MatchCase} {t : Str → List V → TS} {pos : Pos} (he : PE X e te) (hc : PCs X cs t) : PS X (.Match e cs pos) (tMatch X.K te t) := by
  refine ⟨fun pins s σ H D I h => ?_⟩
  refine wpAny_Match (thn (he.run pins s σ H _ I h) fun v s1 ⟨x, H1, I1, r1, a, z, xs, e1, hq, q⟩ => ?_)
  subst e1
  obtain rfl : v = Value.ref a := r1
  exact hc.run true pins s1 σ H1 D a z xs I1 hq q
end
end SH
set_option Elab.async false
set_option linter.all false
set_option maxRecDepth 100000
/-! what is tracked, as an ordered list of cells -/
namespace SH
open PySem PySem.Spec PyProof.Rows L2

abbrev Cells := List (Addr × HO)
structure Has (H : Hp) (L : Cells) : Prop where
  ok : ∀ c ∈ L, H c.1 = some c.2
  nd : (L.map (·.1)).Nodup
theorem upd_eq {H : Hp} {p q : Addr} {o : HO} (e : q = p) : upd H p o q = some o := by subst e; exact upd_same
theorem Has.perm {H : Hp} {L L' : Cells} (h : Has H L) (p : L.Perm L') : Has H L' :=
  ⟨fun c hc => h.ok c (p.mem_iff.mpr hc), (p.map (·.1)).nodup_iff.mp h.nd⟩
theorem Has.sub {H : Hp} {L L' : Cells} (h : Has H L) (p : L'.Sublist L) : Has H L' :=
  ⟨fun c hc => h.ok c (p.subset hc), (p.map (·.1)).nodup h.nd⟩
theorem Has.get {H : Hp} {A T : Cells} (h : Has H (A ++ T)) (i : Nat) {p : Addr} {o : HO} (e : T[i]? = some (p, o)) : H p = some o :=
  h.ok (p, o) (List.mem_append_right _ (List.mem_of_getElem? e))
theorem Has.mem {H : Hp} {L : Cells} (h : Has H L) {p : Addr} {o : HO} (e : (p, o) ∈ L) : H p = some o := h.ok _ e
theorem Has.fresh {H : Hp} {L : Cells} (h : Has H L) {p : Addr} (hp : H p = none) : p ∉ L.map (·.1) := fun hm => by
  obtain ⟨c, hc, e⟩ := List.mem_map.mp hm
  have := h.ok c hc
  rw [e, hp] at this; cases this
theorem Has.cons {H : Hp} {L : Cells} (h : Has H L) {p : Addr} (hp : H p = none) (o : HO) : Has (upd H p o) ((p, o) :: L) := by
  refine ⟨fun c hc => ?_, List.nodup_cons.mpr ⟨h.fresh hp, h.nd⟩⟩
  rcases List.mem_cons.mp hc with rfl | hc
  · exact upd_same
  · rw [upd_ne (ne_of_none (h.ok c hc) hp)]; exact h.ok c hc
theorem Has.new {H : Hp} {A T : Cells} (h : Has H (A ++ T)) {p : Addr} (hp : H p = none) (o : HO) : Has (upd H p o) (A ++ (p, o) :: T) :=
  (h.cons hp o).perm List.perm_middle.symm
/-- an object laid that the list doesn't name -/
theorem Has.past {H : Hp} {L : Cells} (h : Has H L) {p : Addr} (hp : H p = none) (o : HO) : Has (upd H p o) L := (h.cons hp o).sub (List.sublist_cons_self _ _)
theorem set_keys : ∀ {T : Cells} {i : Nat} {p : Addr} {o o' : HO}, T[i]? = some (p, o) → (T.set i (p, o')).map (·.1) = T.map (·.1)
  | [], i, p, o, o', e => by simp at e
  | c :: T, 0, p, o, o', e => by
    have e : c = (p, o) := Option.some.inj e
    subst e; rfl
  | c :: T, i + 1, p, o, o', e => by
    have ih := set_keys (T := T) (i := i) (p := p) (o := o) (o' := o') e
    show c.1 :: (T.set i (p, o')).map (·.1) = c.1 :: T.map (·.1)
    rw [ih]
theorem Has.set0 {H : Hp} {T : Cells} (h : Has H T) (i : Nat) {p : Addr} {o : HO} (e : T[i]? = some (p, o)) (o' : HO) : Has (upd H p o') (T.set i (p, o')) := by
  refine ⟨fun c hc => ?_, by rw [set_keys e]; exact h.nd⟩
  obtain ⟨j, hj, ej⟩ := List.getElem_of_mem hc
  by_cases hij : j = i
  · subst hij
    rw [List.getElem_set_self] at ej
    subst ej; exact upd_same
  · rw [List.getElem_set_ne (Ne.symm hij)] at ej
    have hj' : j < T.length := by simpa using hj
    have e1 : T[j]? = some c := by rw [List.getElem?_eq_getElem hj', ej]
    have hne : c.1 ≠ p := fun z => by
      have k1 : (T.map (·.1))[j]? = some c.1 := by rw [List.getElem?_map, e1]; rfl
      have k2 : (T.map (·.1))[i]? = some p := by rw [List.getElem?_map, e]; rfl
      rw [z] at k1
      exact hij (nd_ix h.nd k1 k2)
    rw [upd_ne hne]
    exact h.ok c (List.mem_of_getElem? e1)
theorem set_app {α : Type} {x : α} : ∀ {A T : List α} {i : Nat}, (A ++ T).set (A.length + i) x = A ++ T.set i x
  | [], T, i => by simp
  | a :: A, T, i => by
    have ih := set_app (x := x) (A := A) (T := T) (i := i)
    have e : (a :: A).length + i = (A.length + i) + 1 := by simp; omega
    rw [e]
    show a :: (A ++ T).set (A.length + i) x = _
    rw [ih]; rfl
theorem Has.set {H : Hp} {A T : Cells} (h : Has H (A ++ T)) (i : Nat) {p : Addr} {o : HO} (e : T[i]? = some (p, o)) (o' : HO) : Has (upd H p o') (A ++ T.set i (p, o')) := by
  have e1 : (A ++ T)[A.length + i]? = some (p, o) := by rw [List.getElem?_append_right (by omega)]; simpa using e
  have := h.set0 _ e1 o'
  rwa [set_app] at this
theorem Has.ne {H : Hp} {L : Cells} (h : Has H L) {p q : Addr} {o u : HO} (hp : (p, o) ∈ L) (hq : H q = none) : p ≠ q := ne_of_none (h.mem hp) hq

/-- tuples stay -/
def KeepT (H H' : Hp) : Prop := ∀ b xs, H b = some (.tup xs) → H' b = some (.tup xs)
theorem KeepT.refl (H : Hp) : KeepT H H := fun _ _ e => e
theorem KeepT.trans {H H1 H2 : Hp} (a : KeepT H H1) (b : KeepT H1 H2) : KeepT H H2 := fun c xs e => b c xs (a c xs e)
/-- every promise may be read so: the tuples stay -/
theorem keep_t {P : Program} {w : World} {K : PySem.W.Frag} {mg : Str → Option Value} {base : Heap} {CX : CXT} {k : Nat} {f : Addr} {fd : FuncData} {ps : List Str} {sp : Sp} (F : FnOk P w K mg base CX k f fd ps sp) :
    FnOk P w K mg base CX k f fd ps (fun vs H Q E => sp vs H (fun v H' => KeepT H H' → Q v H') E) := by
  refine ⟨fun vs H Q E q => F.len _ _ _ _ q, fun A outer s H args us vs Q E hr he hb hv hs => ?_⟩
  refine codeAny_mono (F.run A outer s H args us vs _ E hr he hb hv hs) fun r s' q => ?_
  cases r with
  | error e => exact q
  | ok fl =>
    cases fl with
    | ret u =>
      obtain ⟨v, H', e1, e2, un, e3, e4, e5⟩ := q
      exact ⟨v, H', e1, e2, un, e3, e4, e5 un.tups⟩
    | next => exact q
    | brk => exact q
    | cont => exact q
end SH
set_option Elab.async false
set_option linter.all false
set_option maxRecDepth 100000
namespace SH
open PySem PySem.Spec PyProof.Rows L2
def top (i : Nat) : Stmt := PySem.Challenge.pw_surfacehall_k16_known_screens.main.body.getD i (.Pass ⟨0, 0, 0, 0⟩)
abbrev sLInit : Stmt := inClass (top 4) 0
abbrev sLSnap : Stmt := inClass (top 4) 1
abbrev sLMark : Stmt := inClass (top 4) 2
abbrev sLResize : Stmt := inClass (top 4) 3
abbrev sLHas : Stmt := inClass (top 4) 4
abbrev sLFill : Stmt := inClass (top 4) 5

/-- a look's numbers -/
structure LookM where
  a : Addr
  dx : Addr
  ma : Addr
  wide : Int
  high : Int
  rows : List (Addr × List Int)
  x : Int
  y : Int
  rank : Int
  veiled : Bool
abbrev Fl := List (Str × V)
def lookF (ma : Addr) (wide high x y rank : Int) (v : Bool) : Fl :=
  [("wide", .int wide), ("high", .int high), ("marks", .ref ma), ("x", .int x), ("y", .int y), ("rank", .int rank), ("veiled", .bl v)]
section
variable (ma mb : Addr) (wide high x y rank z : Int) (v u : Bool)
theorem lookF_wide : (lookF ma wide high x y rank v).lookup ("wide" : Str) = some (.int wide) := by kernel_rfl
theorem lookF_high : (lookF ma wide high x y rank v).lookup ("high" : Str) = some (.int high) := by kernel_rfl
theorem lookF_marks : (lookF ma wide high x y rank v).lookup ("marks" : Str) = some (.ref ma) := by kernel_rfl
theorem lookF_x : (lookF ma wide high x y rank v).lookup ("x" : Str) = some (.int x) := by kernel_rfl
theorem lookF_y : (lookF ma wide high x y rank v).lookup ("y" : Str) = some (.int y) := by kernel_rfl
theorem lookF_rank : (lookF ma wide high x y rank v).lookup ("rank" : Str) = some (.int rank) := by kernel_rfl
theorem lookF_veiled : (lookF ma wide high x y rank v).lookup ("veiled" : Str) = some (.bl v) := by kernel_rfl
theorem lookF_pwide : putF "wide" (.int z) (lookF ma wide high x y rank v) = lookF ma z high x y rank v := by kernel_rfl
theorem lookF_phigh : putF "high" (.int z) (lookF ma wide high x y rank v) = lookF ma wide z x y rank v := by kernel_rfl
theorem lookF_pmarks : putF "marks" (.ref mb) (lookF ma wide high x y rank v) = lookF mb wide high x y rank v := by kernel_rfl
end

def lookCells (CL : Addr) (l : LookM) : Cells :=
  (l.a, .ins CL l.dx (lookF l.ma l.wide l.high l.x l.y l.rank l.veiled)) :: (l.ma, .lst (l.rows.map fun r => V.ref r.1)) :: l.rows.map fun r => (r.1, HO.lst (r.2.map V.int))
structure LWf (l : LookM) : Prop where
  w1 : 1 ≤ l.wide
  w2 : l.wide ≤ 12
  h1 : 1 ≤ l.high
  h2 : l.high ≤ 8
  rl : (l.rows.length : Int) = l.high
  cl : ∀ r ∈ l.rows, (r.2.length : Int) = l.wide
def markAt (ms : List (List Int)) (x y : Int) : Int := (ms.getD y.toNat []).getD x.toNat 0
def LookM.marks (l : LookM) : List (List Int) := l.rows.map (·.2)

structure TxtL (K : PySem.W.Frag) (mg : Str → Option Value) (CL : Addr) : Prop where
  cl : Cls K CL
  nwide : NoAttr K CL "wide"
  nhigh : NoAttr K CL "high"
  nmarks : NoAttr K CL "marks"
  nx : NoAttr K CL "x"
  ny : NoAttr K CL "y"
  nrank : NoAttr K CL "rank"
  nveiled : NoAttr K CL "veiled"
  mgC : mg "Look" = some (.ref CL)
  range : mg "range" = none
  list : mg "list" = none

section
variable {P : Program} {w : World} {K : PySem.W.Frag} {mg : Str → Option Value} {base : Heap}
theorem scLHas : FnScope ["self", "x", "y", "wide", "high"] ["self", "x", "y", "wide", "high"] (defScope sLHas) := ⟨rfl, rfl, rfl, by decide +kernel, rfl, by decide +kernel, by decide +kernel⟩
def spLHas (CL : Addr) : Sp := fun vs H Q _ => ∃ (A B : Cells) (l : LookM) (x y wd hi : Int), vs = [.ref l.a, .int x, .int y, .int wd, .int hi] ∧ Has H (A ++ (lookCells CL l ++ B)) ∧
  Q (.bl (decide (x + wd ≤ l.wide) && decide (y + hi ≤ l.high))) H
theorem ok_lhas {f CL : Addr} {fd : FuncData} (F : Fun K "has_cells" "Look.has_cells" sLHas f fd) (T : TxtL K mg CL) : FnOk P w K mg base CX0 1 f fd ["self", "x", "y", "wide", "high"] (spLHas CL) := by
  refine F.ok scLHas (fun vs H Q E h => ?_) (fun cdv A outer s H vs Q E hr h => ?_)
  · obtain ⟨A, B, l, x, y, wd, hi, rfl, _⟩ := h
    rfl
  · obtain ⟨A, B, l, x, y, wd, hi, rfl, hh, k⟩ := h
    have h0 := hh.get 0 rfl
    refine ⟨_, pss_one (ps_ret (pe_and (pe_cmpR op_le (pe_op op_add (pv 1) (pv 3)) (pe_fld (pv 0) rfl) (nomark _)) (pe_one (pe_cmpR op_le (pe_op op_add (pv 2) (pv 4)) (pe_fld (pv 0) rfl) (nomark _))))), ?_⟩
    refine ⟨_, rfl, _, rfl, _, _, rfl, rfl, _, rfl, _, CL, _, _, _, rfl, h0, T.cl, T.nwide, lookF_wide _ _ _ _ _ _ _, _, _, rfl, rfl, _, rfl, ?_⟩
    by_cases c : x + wd ≤ l.wide
    · rw [decide_eq_true c] at k ⊢
      refine iteT ?_
      refine ⟨_, rfl, _, rfl, _, _, rfl, rfl, _, rfl, _, CL, _, _, _, rfl, h0, T.cl, T.nhigh, lookF_high _ _ _ _ _ _ _, _, _, rfl, rfl, ?_⟩
      simpa using k
    · rw [decide_eq_false c] at k ⊢
      refine iteF ?_
      simpa using k
theorem scLMark : FnScope ["self", "x", "y"] ["self", "x", "y"] (defScope sLMark) := ⟨rfl, rfl, rfl, by decide +kernel, rfl, by decide +kernel, by decide +kernel⟩
def spLMark (CL : Addr) : Sp := fun vs H Q _ => ∃ (A B : Cells) (l : LookM) (x y : Int), vs = [.ref l.a, .int x, .int y] ∧ Has H (A ++ (lookCells CL l ++ B)) ∧ LWf l ∧ 0 ≤ x ∧ 0 ≤ y ∧
  Q (.int (markAt l.marks x y)) H
theorem ok_lmark {f CL : Addr} {fd : FuncData} (F : Fun K "mark_at" "Look.mark_at" sLMark f fd) (T : TxtL K mg CL) : FnOk P w K mg base CX0 1 f fd ["self", "x", "y"] (spLMark CL) := by
  refine F.ok scLMark (fun vs H Q E h => ?_) (fun cdv A outer s H vs Q E hr h => ?_)
  · obtain ⟨A, B, l, x, y, rfl, _⟩ := h
    rfl
  · obtain ⟨A, B, l, x, y, rfl, hh, wf, hx, hy, k⟩ := h
    have h0 := hh.get 0 rfl
    have h1 := hh.get 1 rfl
    refine ⟨_, pss_cons (ps_if (PW.pt (pw_and (pt_cmpR op_lt (pv 1) (pe_fld (pv 0) rfl) (nomark _)) (pw_and1 (pt_cmpR op_lt (pv 2) (pe_fld (pv 0) rfl) (nomark _)))))
      (pss_one (ps_ret (pe_ix ix_list (pe_ix ix_list (pe_fld (pv 0) rfl) (pv 2) (fun _ _ => rfl)) (pv 1) (fun _ _ => rfl)))) pss_nil) (pss_one (ps_ret pe_int)), ?_⟩
    refine ⟨_, rfl, _, rfl, _, CL, _, _, _, rfl, h0, T.cl, T.nwide, lookF_wide _ _ _ _ _ _ _, _, _, rfl, rfl, _, rfl, ?_⟩
    refine ite2 (fun c => ?_) (fun c => ?_)
    · have c := of_decide_eq_true c
      refine ⟨_, rfl, _, rfl, _, CL, _, _, _, rfl, h0, T.cl, T.nhigh, lookF_high _ _ _ _ _ _ _, _, _, rfl, rfl, _, rfl, ?_⟩
      refine ite2 (fun d => ?_) (fun d => ?_)
      · have d := of_decide_eq_true d
        have hyl : y.toNat < l.rows.length := by have := wf.rl; omega
        have er : l.rows[y.toNat]? = some l.rows[y.toNat] := List.getElem?_eq_getElem hyl
        have hrow : H l.rows[y.toNat].1 = some (.lst (l.rows[y.toNat].2.map V.int)) := hh.get (2 + y.toNat) (by
          show ((_ :: _ :: (l.rows.map _)) ++ B)[2 + y.toNat]? = _
          rw [List.getElem?_append_left (by simp; omega), show 2 + y.toNat = y.toNat + 1 + 1 by omega, List.getElem?_cons_succ, List.getElem?_cons_succ, List.getElem?_map, er]; rfl)
        have hxl : x.toNat < l.rows[y.toNat].2.length := by have := wf.cl _ (List.getElem_mem hyl); omega
        refine ⟨_, rfl, _, CL, _, _, _, rfl, h0, T.cl, T.nmarks, lookF_marks _ _ _ _ _ _ _, _, rfl, _, _, _, V.ref l.rows[y.toNat].1, rfl, rfl, SqL.of h1, at_of (j := y.toNat) (by omega) (by rw [List.getElem?_map, er]; rfl), _, rfl, _, _, _, _, rfl, rfl, SqL.of hrow,
          at_of (j := x.toNat) (by omega) (by rw [List.getElem?_map, List.getElem?_eq_getElem hxl]; rfl), ?_⟩
        have e : markAt l.marks x y = l.rows[y.toNat].2[x.toNat] := by
          unfold markAt LookM.marks
          rw [List.getD_eq_getElem?_getD, List.getD_eq_getElem?_getD, List.getElem?_map, er]
          simp [List.getElem?_eq_getElem hxl]
        rw [e] at k
        exact k
      · have d : ¬ y < l.high := fun z => d (decide_eq_true z)
        have e : markAt l.marks x y = 0 := by
          unfold markAt LookM.marks
          have : l.rows.length ≤ y.toNat := by have := wf.rl; omega
          rw [List.getD_eq_getElem?_getD, List.getD_eq_getElem?_getD, List.getElem?_map, List.getElem?_eq_none this]
          simp
        rw [e] at k
        exact k
    · have c : ¬ x < l.wide := fun z => c (decide_eq_true z)
      refine iteF ?_
      have e : markAt l.marks x y = 0 := by
        unfold markAt LookM.marks
        rw [List.getD_eq_getElem?_getD, List.getD_eq_getElem?_getD, List.getElem?_map]
        cases er : l.rows[y.toNat]? with
        | none => simp
        | some r =>
          have := wf.cl r (List.mem_of_getElem? er)
          simp only [Option.map_some, Option.getD_some]
          rw [List.getElem?_eq_none (by omega)]; rfl
      rw [e] at k
      exact k
end
end SH
set_option Elab.async false
set_option linter.all false
set_option maxRecDepth 100000
namespace SH
open PySem PySem.Spec PyProof.Rows L2
theorem Has.assoc {H : Hp} {A B C : Cells} (h : Has H ((A ++ B) ++ C)) : Has H (A ++ (B ++ C)) := by rwa [List.append_assoc] at h
theorem Has.unassoc {H : Hp} {A B C : Cells} (h : Has H (A ++ (B ++ C))) : Has H ((A ++ B) ++ C) := by rwa [← List.append_assoc] at h
/-- a new instance and its dict -/
theorem Has.made {H : Hp} {A B : Cells} (h : Has H (A ++ B)) {x dx C : Addr} (hx : H x = none) (hd : H dx = none) (ne : dx ≠ x) : Has (upd (upd H dx (.own x)) x (.ins C dx [])) (A ++ (x, .ins C dx []) :: B) :=
  (h.past hd _).new (by rw [upd_ne (Ne.symm ne)]; exact hx) _
theorem few_nil : ([] : Fl).length ≤ 0 := Nat.le_refl _
theorem few_put {n : Nat} {fs : Fl} (h : fs.length ≤ n) {f : Str} {v : V} : (putF f v fs).length ≤ n + 1 := Nat.le_trans (length_putF f v fs) (Nat.succ_le_succ h)
theorem few {n : Nat} {fs : Fl} (h : fs.length ≤ n) (hn : n < 1000 := by decide) : fs.length < 1000 := Nat.lt_of_le_of_lt h hn
theorem lookF_few {ma : Addr} {wide high x y rank : Int} {v : Bool} : (lookF ma wide high x y rank v).length < 1000 := by show 7 < 1000; decide
theorem lookF_init (ma : Addr) : putF "veiled" (.bl false) (putF "rank" (.int 0) (putF "y" (.int 0) (putF "x" (.int 0) (putF "marks" (.ref ma) (putF "high" (.int 1) (putF "wide" (.int 1) [])))))) = lookF ma 1 1 0 0 0 false := by kernel_rfl
theorem small {n : Nat} (h : n ≤ 1000) : n ≤ sizeLine := Nat.le_of_lt (small1000 h)
abbrev rowC (r : Addr × List Int) : Addr × HO := (r.1, HO.lst (r.2.map V.int))
section
variable {P : Program} {w : World} {K : PySem.W.Frag} {mg : Str → Option Value} {base : Heap}
theorem scLInit : FnScope ["self"] ["self"] (defScope sLInit) := ⟨rfl, rfl, rfl, by decide +kernel, rfl, by decide +kernel, by decide +kernel⟩
def spLInit (CL : Addr) : Sp := fun vs H Q _ => ∃ (A B : Cells) (p dx : Addr), vs = [.ref p] ∧ Has H (A ++ ((p, .ins CL dx []) :: B)) ∧
  ∀ ma r H', Has H' (A ++ (lookCells CL ⟨p, dx, ma, 1, 1, [(r, [0])], 0, 0, 0, false⟩ ++ B)) → Q .non H'
theorem ok_linit {f CL : Addr} {fd : FuncData} (F : Fun K "__init__" "Look.__init__" sLInit f fd) (T : TxtL K mg CL) : FnOk P w K mg base CX0 1 f fd ["self"] (spLInit CL) := by
  refine F.ok scLInit (fun vs H Q E h => ?_) (fun cdv A outer s H vs Q E hr h => ?_)
  · obtain ⟨A, B, p, dx, rfl, _⟩ := h
    rfl
  · obtain ⟨A, B, p, dx, rfl, hh, k⟩ := h
    refine ⟨_, pss_cons (ps_fld (pv 0) pe_int rfl) (pss_cons (ps_fld (pv 0) pe_int rfl) (pss_cons (ps_fld (pv 0) (pe_lst (pa_cons (pe_lst (pa_cons pe_int pa_nil)) pa_nil)) rfl)
      (pss_cons (ps_fld (pv 0) pe_int rfl) (pss_cons (ps_fld (pv 0) pe_int rfl) (pss_cons (ps_fld (pv 0) pe_int rfl) (pss_one (ps_fld (pv 0) pe_bl rfl))))))), ?_⟩
    refine ⟨_, rfl, p, CL, dx, _, rfl, hh.get 0 rfl, T.cl, T.nwide, few few_nil, ?_⟩
    have h1 := hh.set 0 rfl (.ins CL dx (putF "wide" (.int 1) []))
    refine ⟨_, rfl, p, CL, dx, _, rfl, h1.get 0 rfl, T.cl, T.nhigh, few (few_put few_nil), ?_⟩
    have h2 := h1.set 0 rfl (.ins CL dx (putF "high" (.int 1) (putF "wide" (.int 1) [])))
    refine ⟨small (by show 1 ≤ 1000; decide), fun r hr0 => ⟨small (by show 1 ≤ 1000; decide), fun ma hma => ?_⟩⟩
    have h3 := (h2.cons hr0 (.lst [.int 0])).cons hma (.lst [.ref r])
    have h3 : Has _ (A ++ ((p, HO.ins CL dx (putF "high" (.int 1) (putF "wide" (.int 1) []))) :: (ma, HO.lst [.ref r]) :: (r, HO.lst [.int 0]) :: B)) := h3.perm (by
      show ((ma, HO.lst [.ref r]) :: (r, HO.lst [.int 0]) :: (A ++ (p, _) :: B)).Perm _
      refine (List.Perm.trans ?_ List.perm_middle.symm)
      refine ((List.perm_middle (l₁ := A)).cons _).cons _ |>.trans ?_
      refine (List.Perm.swap _ _ _).cons _ |>.trans ?_
      refine (List.Perm.swap _ _ _).trans (List.Perm.cons _ ?_)
      show ((ma, HO.lst [.ref r]) :: (r, HO.lst [.int 0]) :: (A ++ B)).Perm (A ++ ((ma, HO.lst [.ref r]) :: (r, HO.lst [.int 0]) :: B))
      exact (List.Perm.trans (List.Perm.cons _ List.perm_middle.symm) List.perm_middle.symm))
    refine ⟨_, rfl, p, CL, dx, _, rfl, h3.get 0 rfl, T.cl, T.nmarks, few (few_put (few_put few_nil)), ?_⟩
    have h4 := h3.set 0 rfl (.ins CL dx (putF "marks" (.ref ma) (putF "high" (.int 1) (putF "wide" (.int 1) []))))
    refine ⟨_, rfl, p, CL, dx, _, rfl, h4.get 0 rfl, T.cl, T.nx, few (few_put (few_put (few_put few_nil))), ?_⟩
    have h5 := h4.set 0 rfl (.ins CL dx (putF "x" (.int 0) (putF "marks" (.ref ma) (putF "high" (.int 1) (putF "wide" (.int 1) [])))))
    refine ⟨_, rfl, p, CL, dx, _, rfl, h5.get 0 rfl, T.cl, T.ny, few (few_put (few_put (few_put (few_put few_nil)))), ?_⟩
    have h6 := h5.set 0 rfl (.ins CL dx (putF "y" (.int 0) (putF "x" (.int 0) (putF "marks" (.ref ma) (putF "high" (.int 1) (putF "wide" (.int 1) []))))))
    refine ⟨_, rfl, p, CL, dx, _, rfl, h6.get 0 rfl, T.cl, T.nrank, few (few_put (few_put (few_put (few_put (few_put few_nil))))), ?_⟩
    have h7 := h6.set 0 rfl (.ins CL dx (putF "rank" (.int 0) (putF "y" (.int 0) (putF "x" (.int 0) (putF "marks" (.ref ma) (putF "high" (.int 1) (putF "wide" (.int 1) [])))))))
    refine ⟨_, rfl, p, CL, dx, _, rfl, h7.get 0 rfl, T.cl, T.nveiled, few (few_put (few_put (few_put (few_put (few_put (few_put few_nil)))))), ?_⟩
    have h8 := h7.set 0 rfl (.ins CL dx (putF "veiled" (.bl false) (putF "rank" (.int 0) (putF "y" (.int 0) (putF "x" (.int 0) (putF "marks" (.ref ma) (putF "high" (.int 1) (putF "wide" (.int 1) []))))))))
    refine k ma r _ ?_
    rw [lookF_init] at h8 ⊢
    exact h8
end
end SH
set_option Elab.async false
set_option linter.all false
set_option maxRecDepth 100000
namespace SH
open PySem PySem.Spec PyProof.Rows L2
/-- what a look is worth -/
structure LookV where
  wide : Int
  high : Int
  marks : List (List Int)
  x : Int
  y : Int
  rank : Int
  veiled : Bool
  deriving DecidableEq
def LookM.v (l : LookM) : LookV := ⟨l.wide, l.high, l.marks, l.x, l.y, l.rank, l.veiled⟩
theorem has_row {CL : Addr} {H : Hp} {A B : Cells} {l : LookM} (h : Has H (A ++ (lookCells CL l ++ B))) {j : Nat} {r : Addr × List Int} (e : l.rows[j]? = some r) : H r.1 = some (.lst (r.2.map V.int)) :=
  h.get (2 + j) (by
    have hj : j < l.rows.length := (List.getElem?_eq_some_iff.mp e).1
    show ((_ :: _ :: (l.rows.map rowC)) ++ B)[2 + j]? = _
    rw [List.getElem?_append_left (by simp; omega), show 2 + j = j + 1 + 1 by omega, List.getElem?_cons_succ, List.getElem?_cons_succ, List.getElem?_map, e]; rfl)
section
variable (ma mb : Addr) (wide high x y rank z : Int) (v u : Bool)
theorem lookF_px : putF "x" (.int z) (lookF ma wide high x y rank v) = lookF ma wide high z y rank v := by kernel_rfl
theorem lookF_py : putF "y" (.int z) (lookF ma wide high x y rank v) = lookF ma wide high x z rank v := by kernel_rfl
theorem lookF_prank : putF "rank" (.int z) (lookF ma wide high x y rank v) = lookF ma wide high x y z v := by kernel_rfl
theorem lookF_pveiled : putF "veiled" (.bl u) (lookF ma wide high x y rank v) = lookF ma wide high x y rank u := by kernel_rfl
end
section
variable {P : Program} {w : World} {K : PySem.W.Frag} {mg : Str → Option Value} {base : Heap}
theorem scLSnap : FnScope ["self", "look", "row"] ["self"] (defScope sLSnap) := ⟨rfl, rfl, rfl, by decide +kernel, rfl, by decide +kernel, by decide +kernel⟩
def spLSnap (CL : Addr) : Sp := fun vs H Q _ => ∃ (A B : Cells) (l : LookM), vs = [.ref l.a] ∧ Has H (A ++ (lookCells CL l ++ B)) ∧ LWf l ∧
  ∀ l' H', l'.v = l.v → Has H' (A ++ (lookCells CL l ++ (lookCells CL l' ++ B))) → Q (.ref l'.a) H'
theorem ok_lsnap {f CL fI : Addr} {fd fdI : FuncData} (F : Fun K "snapshot" "Look.snapshot" sLSnap f fd) (T : TxtL K mg CL) (M : Mk K CL fI) (FI : Fun K "__init__" "Look.__init__" sLInit fI fdI) (bI : Binds K fdI ["self"] []) :
    FnOk P w K mg base CX0 3 f fd ["self"] (spLSnap CL) := by
  have GI : FnOk P w K mg base CX0 1 fI fdI ["self"] (spLInit CL) := ok_linit FI T
  refine F.ok scLSnap (fun vs H Q E h => ?_) (fun cdv A0 outer s H vs Q E hr h => ?_)
  · obtain ⟨A, B, l, rfl, _⟩ := h
    rfl
  · obtain ⟨A, B, l, rfl, hh, wf, k⟩ := h
    refine ⟨_, pss_cons (ps_set (i := 1) scLSnap.nd rfl (Or.inl rfl) (pe_make0 M GI (hr.mono (by decide)) rfl T.mgC bI .nil pass0))
      (pss_cons (ps_fld (pv 1) (pe_fld (pv 0) rfl) rfl) (pss_cons (ps_fld (pv 1) (pe_fld (pv 0) rfl) rfl)
      (pss_cons (ps_fld (pv 1) (pe_lc (own := [("row", 2)]) (g := gName 2) (te := tCB (Evl.rListS K) (tCons (tVar 2) tNil)) (by rfl) scLSnap.nd (pi_list (pe_fld (pv 0) rfl)) (blkOk_by (own := [("row", 2)]) (N := ["self", "look", "row"]) (sc := defScope sLSnap) (by decide +kernel))
        (fun _ _ _ _ _ => pg_name (i := 2) scLSnap.nd rfl (Or.inl rfl)) (fun _ _ _ _ _ => pts_nil) (fun _ _ _ _ _ => pe_callTy call_list_of (by rfl) T.list (show bootBuiltins "list" = some (.type "list") by decide +kernel) (pa_cons (pv 2) pa_nil))) rfl)
      (pss_cons (ps_fld (pv 1) (pe_fld (pv 0) rfl) rfl) (pss_cons (ps_fld (pv 1) (pe_fld (pv 0) rfl) rfl) (pss_cons (ps_fld (pv 1) (pe_fld (pv 0) rfl) rfl) (pss_cons (ps_fld (pv 1) (pe_fld (pv 0) rfl) rfl)
      (pss_one (ps_ret (pv 1)))))))))), ?_⟩
    intro x dx nx ndx nex
    have g0 : Has H ((A ++ lookCells CL l) ++ B) := hh.unassoc
    refine ⟨A ++ lookCells CL l, B, x, dx, rfl, g0.made nx ndx nex, fun ma r H1 g1 => ⟨rfl, ?_⟩⟩
    have a1 := g1.assoc
    refine ⟨_, rfl, l.a, CL, _, _, _, rfl, a1.get 0 rfl, T.cl, T.nwide, lookF_wide _ _ _ _ _ _ _, _, rfl, x, CL, dx, _, rfl, g1.get 0 rfl, T.cl, T.nwide, lookF_few, ?_⟩
    have g2 := g1.set 0 rfl (.ins CL dx (putF "wide" (.int l.wide) (lookF ma 1 1 0 0 0 false)))
    have a2 := g2.assoc
    refine ⟨_, rfl, l.a, CL, _, _, _, rfl, a2.get 0 rfl, T.cl, T.nhigh, lookF_high _ _ _ _ _ _ _, _, rfl, x, CL, dx, _, rfl, g2.get 0 rfl, T.cl, T.nhigh, by rw [lookF_pwide]; exact lookF_few, ?_⟩
    rw [lookF_pwide] at g2 a2 ⊢
    have g3 := g2.set 0 rfl (.ins CL dx (putF "high" (.int l.high) (lookF ma l.wide 1 0 0 0 false)))
    rw [lookF_phigh] at g3 ⊢
    have a3 := g3.assoc
    -- the rows
    refine ⟨_, rfl, l.a, CL, _, _, _, rfl, a3.get 0 rfl, T.cl, T.nmarks, lookF_marks _ _ _ _ _ _ _, l.ma, rfl, ⟨_, SqL.of (a3.get 1 rfl)⟩, fun D hD => ?_⟩
    refine lc_list (K := K) (a := l.ma) (xs := l.rows.map fun r => V.ref r.1) (fun i H2 => ∃ rs : List (Addr × List Int), rs.map (·.2) = (l.rows.take i).map (·.2) ∧
      Has H2 ((A ++ lookCells CL l) ++ ((x, .ins CL dx (lookF ma l.wide l.high 0 0 0 false)) :: (D, .lst (rs.map fun r => V.ref r.1)) :: (rs.map rowC ++ B)))) ?h0 ?hl ?hs ?hd
    case h0 =>
      refine ⟨[], rfl, ?_⟩
      have g4 := g3.sub (L' := (A ++ lookCells CL l) ++ ([(x, HO.ins CL dx (lookF ma l.wide l.high 0 0 0 false))] ++ B)) (List.Sublist.append_left (by
        show List.Sublist (_ :: B) (_ :: _ :: _ :: B)
        exact ((List.sublist_cons_self _ _).trans (List.sublist_cons_self _ _)).cons₂ _) _)
      exact (g4.unassoc.new hD (.lst [])).assoc
    case hl =>
      rintro i H2 hi ⟨rs, _, g⟩
      exact SqL.of (g.assoc.get 1 rfl)
    case hs =>
      rintro i y H2 hi ⟨rs, ers, g⟩
      rw [List.getElem?_map] at hi
      cases er : l.rows[i]? with
      | none => rw [er] at hi; cases hi
      | some r0 =>
        rw [er] at hi
        obtain rfl : V.ref r0.1 = y := Option.some.inj hi
        refine ⟨rfl, ?_⟩
        refine ⟨_, rfl, r0.1, _, rfl, .inl (SqL.of (has_row g.assoc er)), fun q hq => ?_⟩
        have hi' : i < l.rows.length := (List.getElem?_eq_some_iff.mp er).1
        have hlen : rs.length = i := by have := congrArg List.length ers; simp at this; omega
        have g5 : Has (upd H2 q (.lst (r0.2.map V.int))) ((A ++ lookCells CL l) ++ ((x, .ins CL dx (lookF ma l.wide l.high 0 0 0 false)) :: (D, .lst (rs.map fun r => V.ref r.1)) :: (rs.map rowC ++ ((q, HO.lst (r0.2.map V.int)) :: B)))) := by
          have e1 : ((A ++ lookCells CL l) ++ ((x, HO.ins CL dx (lookF ma l.wide l.high 0 0 0 false)) :: (D, HO.lst (rs.map fun r => V.ref r.1)) :: (rs.map rowC ++ B))) = (((A ++ lookCells CL l) ++ ((x, HO.ins CL dx (lookF ma l.wide l.high 0 0 0 false)) :: (D, HO.lst (rs.map fun r => V.ref r.1)) :: rs.map rowC)) ++ B) := by simp
          rw [e1] at g
          have g5 := g.new hq (.lst (r0.2.map V.int))
          have e2 : (((A ++ lookCells CL l) ++ ((x, HO.ins CL dx (lookF ma l.wide l.high 0 0 0 false)) :: (D, HO.lst (rs.map fun r => V.ref r.1)) :: rs.map rowC)) ++ ((q, HO.lst (r0.2.map V.int)) :: B)) = ((A ++ lookCells CL l) ++ ((x, .ins CL dx (lookF ma l.wide l.high 0 0 0 false)) :: (D, .lst (rs.map fun r => V.ref r.1)) :: (rs.map rowC ++ ((q, HO.lst (r0.2.map V.int)) :: B)))) := by simp
          rw [e2] at g5
          exact g5
        refine ⟨rs.map fun r => V.ref r.1, g5.get 1 rfl, ?_, rs ++ [(q, r0.2)], ?_, ?_⟩
        · have := wf.rl; have := wf.h2; rw [List.length_map, hlen]; exact small1000 (by omega)
        · rw [List.map_append, ers, List.take_add_one, er]; simp
        · have g6 := g5.set 1 rfl (.lst ((rs.map fun r => V.ref r.1) ++ [V.ref q]))
          have e3 : ((rs ++ [(q, r0.2)]).map fun r => V.ref r.1) = (rs.map fun r => V.ref r.1) ++ [V.ref q] := by simp
          have e4 : (rs ++ [(q, r0.2)]).map rowC ++ B = rs.map rowC ++ ((q, HO.lst (r0.2.map V.int)) :: B) := by simp [rowC]
          rw [e3, e4]
          exact g6
    case hd =>
      rintro H2 ⟨rs, ers, g⟩
      rw [List.length_map, List.take_length] at ers
      refine ⟨_, rfl, x, CL, dx, _, rfl, g.get 0 rfl, T.cl, T.nmarks, lookF_few, ?_⟩
      have g7 := g.set 0 rfl (.ins CL dx (putF "marks" (.ref D) (lookF ma l.wide l.high 0 0 0 false)))
      rw [lookF_pmarks] at g7 ⊢
      refine ⟨_, rfl, l.a, CL, _, _, _, rfl, g7.assoc.get 0 rfl, T.cl, T.nx, lookF_x _ _ _ _ _ _ _, _, rfl, x, CL, dx, _, rfl, g7.get 0 rfl, T.cl, T.nx, lookF_few, ?_⟩
      have g8 := g7.set 0 rfl (.ins CL dx (putF "x" (.int l.x) (lookF D l.wide l.high 0 0 0 false)))
      rw [lookF_px] at g8 ⊢
      refine ⟨_, rfl, l.a, CL, _, _, _, rfl, g8.assoc.get 0 rfl, T.cl, T.ny, lookF_y _ _ _ _ _ _ _, _, rfl, x, CL, dx, _, rfl, g8.get 0 rfl, T.cl, T.ny, lookF_few, ?_⟩
      have g9 := g8.set 0 rfl (.ins CL dx (putF "y" (.int l.y) (lookF D l.wide l.high l.x 0 0 false)))
      rw [lookF_py] at g9 ⊢
      refine ⟨_, rfl, l.a, CL, _, _, _, rfl, g9.assoc.get 0 rfl, T.cl, T.nrank, lookF_rank _ _ _ _ _ _ _, _, rfl, x, CL, dx, _, rfl, g9.get 0 rfl, T.cl, T.nrank, lookF_few, ?_⟩
      have g10 := g9.set 0 rfl (.ins CL dx (putF "rank" (.int l.rank) (lookF D l.wide l.high l.x l.y 0 false)))
      rw [lookF_prank] at g10 ⊢
      refine ⟨_, rfl, l.a, CL, _, _, _, rfl, g10.assoc.get 0 rfl, T.cl, T.nveiled, lookF_veiled _ _ _ _ _ _ _, _, rfl, x, CL, dx, _, rfl, g10.get 0 rfl, T.cl, T.nveiled, lookF_few, ?_⟩
      have g11 := g10.set 0 rfl (.ins CL dx (putF "veiled" (.bl l.veiled) (lookF D l.wide l.high l.x l.y l.rank false)))
      rw [lookF_pveiled] at g11 ⊢
      refine ⟨_, rfl, ?_⟩
      refine k ⟨x, dx, D, l.wide, l.high, rs, l.x, l.y, l.rank, l.veiled⟩ _ ?_ g11.assoc
      unfold LookM.v LookM.marks
      rw [ers]
end
end SH
set_option Elab.async false
set_option linter.all false
set_option maxRecDepth 100000
namespace SH
open PySem PySem.Spec PyProof.Rows L2
def resizeMs (ms : List (List Int)) (w h : Int) : List (List Int) := (List.range h.toNat).map fun (y : Nat) => (List.range w.toNat).map fun (x : Nat) => markAt ms (x : Int) (y : Int)
theorem Has.newAt {H : Hp} {A B C : Cells} (h : Has H (A ++ (B ++ C))) {p : Addr} (hp : H p = none) (o : HO) : Has (upd H p o) (A ++ (B ++ (p, o) :: C)) := (h.unassoc.new hp o).assoc
section
variable {P : Program} {w : World} {K : PySem.W.Frag} {mg : Str → Option Value} {base : Heap}
theorem scLResize : FnScope ["self", "wide", "high", "y", "x"] ["self", "wide", "high"] (defScope sLResize) := ⟨rfl, rfl, rfl, by decide +kernel, rfl, by decide +kernel, by decide +kernel⟩
def spLResize (CL : Addr) : Sp := fun vs H Q _ => ∃ (A B : Cells) (l : LookM) (wd hi : Int), vs = [.ref l.a, .int wd, .int hi] ∧ Has H (A ++ (lookCells CL l ++ B)) ∧ LWf l ∧ 1 ≤ wd ∧ wd ≤ 12 ∧ 1 ≤ hi ∧ hi ≤ 8 ∧
  ∀ l' H', l'.a = l.a → l'.v = { l.v with wide := wd, high := hi, marks := resizeMs l.marks wd hi } → LWf l' → Has H' (A ++ (lookCells CL l' ++ B)) → Q .non H'
theorem ok_lresize {f CL fM : Addr} {fd fdM : FuncData} (F : Fun K "resize" "Look.resize" sLResize f fd) (T : TxtL K mg CL) (FM : Fun K "mark_at" "Look.mark_at" sLMark fM fdM) (bM : Binds K fdM ["self", "x", "y"] []) (mM : Meth K CL "mark_at" fM) :
    FnOk P w K mg base CX0 2 f fd ["self", "wide", "high"] (spLResize CL) := by
  have GM : FnOk P w K mg base CX0 1 fM fdM ["self", "x", "y"] (spLMark CL) := ok_lmark FM T
  refine F.ok scLResize (fun vs H Q E h => ?_) (fun cdv A0 outer s H vs Q E hr h => ?_)
  · obtain ⟨A, B, l, wd, hi, rfl, _⟩ := h
    rfl
  · obtain ⟨A, B, l, wd, hi, rfl, hh, wf, hw1, hw2, hh1, hh2, k⟩ := h
    refine ⟨_, pss_cons (ps_fld (pv 0) (pe_lc (own := [("y", 3)]) (g := gName 3) (te := tLc (iRng1 (tCons (tVar 1) tNil)) (gName 4) tYes (tMeth CL "mark_at" (spLMark CL) [] E0 (tVar 0) (tCons (tVar 4) (tCons (tVar 3) tNil))) [4])
          (by rfl) scLResize.nd (pi_range1 rfl T.range (pa_cons (pv 2) pa_nil)) (blkOk_by (own := [("y", 3)]) (N := ["self", "wide", "high", "y", "x"]) (sc := defScope sLResize) (by decide +kernel))
          (fun _ _ _ _ _ => pg_name (i := 3) scLResize.nd rfl (Or.inr rfl)) (fun _ _ _ _ _ => pts_nil)
          (fun _ _ _ _ _ => pe_lc (own := [("x", 4)]) (g := gName 4) (by rfl) scLResize.nd (pi_range1 rfl T.range (pa_cons (pv 1) pa_nil)) (blkOk_by (own := [("x", 4)]) (by kernel_rfl))
            (fun _ _ _ _ _ => pg_name (i := 4) scLResize.nd rfl (Or.inl rfl)) (fun _ _ _ _ _ => pts_nil)
            (fun _ _ _ _ _ => pe_meth (pv 0) T.cl mM GM (hr.mono (by decide)) bM .nil pass0 (pa_cons (pv 4) (pa_cons (pv 3) pa_nil))))) rfl)
      (pss_cons (ps_fld (pv 0) (pv 1) rfl) (pss_one (ps_fld (pv 0) (pv 2) rfl))), ?_⟩
    refine ⟨_, rfl, hi, rfl, by omega, by omega, fun D hD => ?_⟩
    refine lc_range (lo := 0) (n := hi.toNat) (fun i H2 => ∃ rs : List (Addr × List Int), rs.map (·.2) = (List.range i).map (fun (y : Nat) => (List.range wd.toNat).map fun (x : Nat) => markAt l.marks (x : Int) (y : Int)) ∧
      Has H2 (A ++ (lookCells CL l ++ ((D, .lst (rs.map fun r => V.ref r.1)) :: (rs.map rowC ++ B))))) ?h0 ?hs ?hd
    case h0 => exact ⟨[], rfl, hh.newAt hD _⟩
    case hs =>
      rintro i H2 hi' ⟨rs, ers, g⟩
      have hlen : rs.length = i := by have := congrArg List.length ers; simpa using this
      refine ⟨rfl, ?_⟩
      refine ⟨_, rfl, wd, rfl, by omega, by omega, fun D2 hD2 => ?_⟩
      refine lc_range (lo := 0) (n := wd.toNat) (fun j H3 => Has H3 (A ++ (lookCells CL l ++ ((D2, .lst ((List.range j).map fun (x : Nat) => V.int (markAt l.marks (x : Int) (i : Int)))) :: (D, .lst (rs.map fun r => V.ref r.1)) :: (rs.map rowC ++ B))))) ?g0 ?gs ?gd
      case g0 => exact g.newAt hD2 _
      case gs =>
        intro j H3 hj g3
        refine ⟨rfl, ?_⟩
        have g3' := g3.unassoc
        refine ⟨_, rfl, l.a, _, _, rfl, g3.get 0 rfl, by kernel_rfl, _, rfl, _, rfl, A, _, l, (0 + (j : Int)), (0 + (i : Int)), rfl, g3, wf, by omega, by omega, ?_⟩
        refine ⟨_, g3'.get 0 rfl, ?_, ?_⟩
        · rw [List.length_map, List.length_range]; exact small1000 (by omega)
        · have g4 := (g3'.set 0 rfl (.lst (((List.range j).map fun (x : Nat) => V.int (markAt l.marks (x : Int) (i : Int))) ++ [V.int (markAt l.marks (0 + (j : Int)) (0 + (i : Int)))]))).assoc
          have e : ((List.range (j + 1)).map fun (x : Nat) => V.int (markAt l.marks (x : Int) (i : Int))) = ((List.range j).map fun (x : Nat) => V.int (markAt l.marks (x : Int) (i : Int))) ++ [V.int (markAt l.marks (0 + (j : Int)) (0 + (i : Int)))] := by
            rw [List.range_succ, List.map_append, Int.zero_add, Int.zero_add]; rfl
          rw [e]
          exact g4
      case gd =>
        intro H3 g3
        have g3' := g3.unassoc
        refine ⟨rs.map fun r => V.ref r.1, g3'.get 1 rfl, ?_, rs ++ [(D2, (List.range wd.toNat).map fun (x : Nat) => markAt l.marks (x : Int) (i : Int))], ?_, ?_⟩
        · rw [List.length_map, hlen]; exact small1000 (by omega)
        · rw [List.map_append, ers, List.range_succ, List.map_append]; rfl
        · have g4 := (g3'.set 1 rfl (.lst ((rs.map fun r => V.ref r.1) ++ [V.ref D2])))
          have e3 : ((rs ++ [(D2, (List.range wd.toNat).map fun (x : Nat) => markAt l.marks (x : Int) (i : Int))]).map fun r => V.ref r.1) = (rs.map fun r => V.ref r.1) ++ [V.ref D2] := by simp
          have e4 : (rs ++ [(D2, (List.range wd.toNat).map fun (x : Nat) => markAt l.marks (x : Int) (i : Int))]).map rowC ++ B = rs.map rowC ++ ((D2, HO.lst ((List.range wd.toNat).map fun (x : Nat) => V.int (markAt l.marks (x : Int) (i : Int)))) :: B) := by simp [rowC]
          rw [e3, e4]
          refine Has.assoc (g4.perm (List.Perm.append_left _ ?_))
          show ((D2, _) :: (D, _) :: (rs.map rowC ++ B)).Perm ((D, _) :: (rs.map rowC ++ (D2, _) :: B))
          exact (List.Perm.swap _ _ _).trans (List.Perm.cons _ List.perm_middle.symm)
    case hd =>
      rintro H2 ⟨rs, ers, g⟩
      have hlen : rs.length = hi.toNat := by have := congrArg List.length ers; simpa using this
      refine ⟨_, rfl, l.a, CL, _, _, rfl, g.get 0 rfl, T.cl, T.nmarks, lookF_few, ?_⟩
      have g1 := g.set 0 rfl (.ins CL l.dx (putF "marks" (.ref D) (lookF l.ma l.wide l.high l.x l.y l.rank l.veiled)))
      rw [lookF_pmarks] at g1 ⊢
      refine ⟨_, rfl, _, rfl, l.a, CL, _, _, rfl, g1.get 0 rfl, T.cl, T.nwide, lookF_few, ?_⟩
      have g2 := g1.set 0 rfl (.ins CL l.dx (putF "wide" (.int wd) (lookF D l.wide l.high l.x l.y l.rank l.veiled)))
      rw [lookF_pwide] at g2 ⊢
      refine ⟨_, rfl, _, rfl, l.a, CL, _, _, rfl, g2.get 0 rfl, T.cl, T.nhigh, lookF_few, ?_⟩
      have g3 := g2.set 0 rfl (.ins CL l.dx (putF "high" (.int hi) (lookF D wd l.high l.x l.y l.rank l.veiled)))
      rw [lookF_phigh] at g3 ⊢
      refine k ⟨l.a, l.dx, D, wd, hi, rs, l.x, l.y, l.rank, l.veiled⟩ _ rfl ?_ ⟨hw1, hw2, hh1, hh2, ?_, ?_⟩ ?_
      · unfold LookM.v LookM.marks resizeMs
        simp only [ers]; rfl
      · show (rs.length : Int) = hi; omega
      · intro r hr'
        have hm : r.2 ∈ rs.map (·.2) := List.mem_map_of_mem hr'
        rw [ers] at hm
        obtain ⟨y, _, e⟩ := List.mem_map.mp hm
        show (r.2.length : Int) = wd
        rw [← e]; simp; omega
      · refine g3.sub (List.Sublist.append_left ?_ A)
        show ((l.a, _) :: (D, _) :: (rs.map rowC ++ B)).Sublist ((l.a, _) :: (l.ma, _) :: (l.rows.map rowC ++ ((D, _) :: (rs.map rowC ++ B))))
        refine List.Sublist.cons₂ _ (List.Sublist.cons _ ?_)
        exact List.sublist_append_right _ _
end
end SH
set_option Elab.async false
set_option linter.all false
set_option maxRecDepth 100000
namespace SH
open PySem PySem.Spec PyProof.Rows L2
theorem has_setrow {CL : Addr} {H : Hp} {A B : Cells} {l : LookM} (h : Has H (A ++ (lookCells CL l ++ B))) {j : Nat} {r : Addr × List Int} (e : l.rows[j]? = some r) (zs : List Int) :
    Has (upd H r.1 (.lst (zs.map V.int))) (A ++ (lookCells CL { l with rows := l.rows.set j (r.1, zs) } ++ B)) := by
  have hj : j < l.rows.length := (List.getElem?_eq_some_iff.mp e).1
  have e1 : (lookCells CL l ++ B)[2 + j]? = some (r.1, .lst (r.2.map V.int)) := by
    show ((_ :: _ :: (l.rows.map rowC)) ++ B)[2 + j]? = _
    rw [List.getElem?_append_left (by simp; omega), show 2 + j = j + 1 + 1 by omega, List.getElem?_cons_succ, List.getElem?_cons_succ, List.getElem?_map, e]; rfl
  have h1 := h.set (2 + j) e1 (.lst (zs.map V.int))
  have e2 : (lookCells CL l ++ B).set (2 + j) (r.1, .lst (zs.map V.int)) = lookCells CL { l with rows := l.rows.set j (r.1, zs) } ++ B := by
    have e3 : (l.rows.set j (r.1, zs)).map (fun r => V.ref r.1) = l.rows.map fun r => V.ref r.1 := by
      apply List.ext_getElem?
      intro n
      rw [List.getElem?_map, List.getElem?_map, List.getElem?_set]
      by_cases hn : j = n
      · subst hn; rw [if_pos rfl, if_pos hj, e]; rfl
      · rw [if_neg hn]
    show (((l.a, _) :: (l.ma, _) :: (l.rows.map rowC)) ++ B).set (2 + j) _ = ((l.a, _) :: (l.ma, HO.lst ((l.rows.set j (r.1, zs)).map fun r => V.ref r.1)) :: (l.rows.set j (r.1, zs)).map rowC) ++ B
    rw [e3, List.set_append_left _ _ (by simp; omega), show 2 + j = j + 1 + 1 by omega, List.set_cons_succ, List.set_cons_succ, List.map_set]
  rwa [e2] at h1
def paintMs (p : Nat → Nat → Bool) (m : Int) (ms : List (List Int)) : List (List Int) := ms.mapIdx fun j r => r.mapIdx fun i c => if p j i = true then m else c
def paintRs (p : Nat → Nat → Bool) (m : Int) (rs : List (Addr × List Int)) : List (Addr × List Int) := rs.mapIdx fun j r => (r.1, r.2.mapIdx fun i c => if p j i = true then m else c)
theorem paintRs_snd (p m) (rs : List (Addr × List Int)) : (paintRs p m rs).map (·.2) = paintMs p m (rs.map (·.2)) := by
  unfold paintRs paintMs
  apply List.ext_getElem?
  intro n
  simp [List.getElem?_mapIdx]
  cases rs[n]? <;> simp
theorem mapIdx_id : ∀ (l : List Int), List.mapIdx (fun _ c => c) l = l := fun l => by
  apply List.ext_getElem?
  intro n
  simp [List.getElem?_mapIdx]
theorem paintRs_none (m) (rs : List (Addr × List Int)) : paintRs (fun _ _ => false) m rs = rs := by
  unfold paintRs
  apply List.ext_getElem?
  intro n
  simp [List.getElem?_mapIdx, mapIdx_id]
theorem paintRs_congr {p q : Nat → Nat → Bool} (h : ∀ j i, p j i = q j i) (m) (rs : List (Addr × List Int)) : paintRs p m rs = paintRs q m rs := by
  have : p = q := by funext j i; exact h j i
  rw [this]
theorem paintRs_set (p : Nat → Nat → Bool) (m : Int) (rs : List (Addr × List Int)) {j i : Nat} {r : Addr × List Int} (e : rs[j]? = some r) :
    (paintRs p m rs).set j (r.1, (r.2.mapIdx fun i c => if p j i = true then m else c).set i m) = paintRs (fun j' i' => p j' i' || (j' == j && i' == i)) m rs := by
  have hj : j < rs.length := (List.getElem?_eq_some_iff.mp e).1
  unfold paintRs
  apply List.ext_getElem?
  intro n
  rw [List.getElem?_set]
  by_cases hn : j = n
  · subst hn
    rw [if_pos rfl, if_pos (by simpa using hj), List.getElem?_mapIdx, e]
    simp only [Option.map_some, Option.some.injEq, Prod.mk.injEq, true_and]
    apply List.ext_getElem?
    intro c
    rw [List.getElem?_set]
    by_cases hc : i = c
    · subst hc
      rw [if_pos rfl]
      simp [List.getElem?_mapIdx]
      cases h : r.2[i]? with
      | none => rw [List.getElem?_eq_none_iff] at h; simp; omega
      | some z => have := (List.getElem?_eq_some_iff.mp h).1; simp [this]
    · rw [if_neg hc]
      have : ¬ c = i := fun z => hc z.symm
      simp [List.getElem?_mapIdx, this]
  · rw [if_neg hn]
    have : ¬ n = j := fun z => hn z.symm
    simp [List.getElem?_mapIdx, this]
def fillMs (ms : List (List Int)) (x y w h m : Int) : List (List Int) := paintMs (fun j i => decide (y ≤ (j : Int) ∧ (j : Int) < y + h ∧ x ≤ (i : Int) ∧ (i : Int) < x + w)) m ms
section
variable {P : Program} {w : World} {K : PySem.W.Frag} {mg : Str → Option Value} {base : Heap}
abbrev nFill : List Str := ["self", "x", "y", "wide", "high", "mark", "row", "column"]
theorem scLFill : FnScope nFill ["self", "x", "y", "wide", "high", "mark"] (defScope sLFill) := ⟨rfl, rfl, rfl, by decide +kernel, rfl, by decide +kernel, by decide +kernel⟩
def spLFill (CL : Addr) : Sp := fun vs H Q _ => ∃ (A B : Cells) (l : LookM) (x y wd hi m : Int), vs = [.ref l.a, .int x, .int y, .int wd, .int hi, .int m] ∧ Has H (A ++ (lookCells CL l ++ B)) ∧ LWf l ∧ 0 ≤ x ∧ 0 ≤ y ∧ 0 ≤ wd ∧ 0 ≤ hi ∧ x + wd ≤ l.wide ∧ y + hi ≤ l.high ∧
  ∀ l' H', l'.a = l.a → l'.v = { l.v with marks := fillMs l.marks x y wd hi m } → LWf l' → Has H' (A ++ (lookCells CL l' ++ B)) → Q .non H'
theorem ok_lfill {f CL : Addr} {fd : FuncData} (F : Fun K "fill" "Look.fill" sLFill f fd) (T : TxtL K mg CL) :
    FnOk P w K mg base CX0 1 f fd ["self", "x", "y", "wide", "high", "mark"] (spLFill CL) := by
  refine F.ok scLFill (fun vs H Q E h => ?_) (fun cdv A0 outer s H vs Q E hr h => ?_)
  · obtain ⟨A, B, l, x, y, wd, hi, m, rfl, _⟩ := h
    rfl
  · obtain ⟨A, B, l, x, y, wd, hi, m, rfl, hh, wf, hx, hy, hwd, hhi, hxw, hyh, k⟩ := h
    refine ⟨_, pss_one (ps_for PassesOwn.never rfl (pi_range2 rfl T.range (pa_cons (pv 2) (pa_cons (pe_op op_add (pv 2) (pv 4)) pa_nil))) (pg_name (i := 6) scLFill.nd rfl (Or.inl rfl))
      (pss_one (ps_for PassesOwn.never rfl (pi_range2 rfl T.range (pa_cons (pv 1) (pa_cons (pe_op op_add (pv 1) (pv 3)) pa_nil))) (pg_name (i := 7) scLFill.nd rfl (Or.inl rfl))
        (pss_one (ps_asg (pv 5) (pg_sub (pe_ix ix_list (pe_fld (pv 0) rfl) (pv 6) (fun _ _ => rfl)) (pv 7) set_list)))))), ?_⟩
    have := wf.w2
    have := wf.h2
    refine ⟨_, rfl, _, rfl, _, rfl, _, _, rfl, rfl, y, y + hi, rfl, ⟨by omega, by omega, by omega, by omega⟩, ?_⟩
    refine for_range (lo := y) (n := (y + hi - y).toNat) (fun i σ H2 => ∃ a b : Option V, σ = [some (.ref l.a), some (.int x), some (.int y), some (.int wd), some (.int hi), some (.int m), a, b] ∧
      Has H2 (A ++ (lookCells CL { l with rows := paintRs (fun j c => decide (y ≤ (j : Int) ∧ (j : Int) < y + i ∧ x ≤ (c : Int) ∧ (c : Int) < x + wd)) m l.rows } ++ B))) ?_ ?_ ?_
    · refine ⟨none, none, rfl, ?_⟩
      rw [paintRs_congr (q := fun _ _ => false) (fun j c => decide_eq_false (by omega)), paintRs_none]
      exact hh
    · rintro i σ H2 hi' ⟨a, b, rfl, g⟩
      refine ⟨_, rfl, _, rfl, _, rfl, _, _, rfl, rfl, x, x + wd, rfl, ⟨by omega, by omega, by omega, by omega⟩, ?_⟩
      refine for_range (lo := x) (n := (x + wd - x).toNat) (fun c0 σ H3 => ∃ b : Option V, σ = [some (.ref l.a), some (.int x), some (.int y), some (.int wd), some (.int hi), some (.int m), some (.int (y + i)), b] ∧
        Has H3 (A ++ (lookCells CL { l with rows := paintRs (fun j c => decide (y ≤ (j : Int) ∧ (j : Int) < y + i ∧ x ≤ (c : Int) ∧ (c : Int) < x + wd) || decide ((j : Int) = y + i ∧ x ≤ (c : Int) ∧ (c : Int) < x + c0)) m l.rows } ++ B))) ?_ ?_ ?_
      · refine ⟨b, rfl, ?_⟩
        rw [paintRs_congr (q := fun j c => decide (y ≤ (j : Int) ∧ (j : Int) < y + i ∧ x ≤ (c : Int) ∧ (c : Int) < x + wd)) (fun j c => by rw [decide_eq_false (p := (j : Int) = y + i ∧ x ≤ (c : Int) ∧ (c : Int) < x + ((0 : Nat) : Int)) (by omega), Bool.or_false])]
        exact g
      · rintro c0 σ H3 hc0 ⟨b, rfl, g3⟩
        have hjl : (y + (i : Int)).toNat < l.rows.length := by have := wf.rl; omega
        have er : l.rows[(y + (i : Int)).toNat]? = some l.rows[(y + (i : Int)).toNat] := List.getElem?_eq_getElem hjl
        have hcl := wf.cl _ (List.getElem_mem hjl)
        generalize hr0 : l.rows[(y + (i : Int)).toNat] = r0 at er hcl
        generalize hj0 : (y + (i : Int)).toNat = j0 at er hjl
        generalize hp : (fun (j c : Nat) => decide (y ≤ (j : Int) ∧ (j : Int) < y + i ∧ x ≤ (c : Int) ∧ (c : Int) < x + wd) || decide ((j : Int) = y + i ∧ x ≤ (c : Int) ∧ (c : Int) < x + c0)) = p at g3
        have er2 : (paintRs p m l.rows)[j0]? = some (r0.1, r0.2.mapIdx fun i c => if p j0 i = true then m else c) := by
          unfold paintRs
          rw [List.getElem?_mapIdx, er]; rfl
        have g4 := has_setrow g3 er2 ((r0.2.mapIdx fun i c => if p j0 i = true then m else c).set (x + (c0 : Int)).toNat m)
        refine ⟨_, rfl, _, rfl, l.a, CL, _, _, _, rfl, g3.get 0 rfl, T.cl, T.nmarks, lookF_marks _ _ _ _ _ _ _, _, rfl, _, _, _, V.ref r0.1, rfl, rfl, SqL.of (g3.get 1 rfl), at_of (j := j0) (by omega) (by show ((paintRs p m l.rows).map fun r => V.ref r.1)[j0]? = _; rw [List.getElem?_map, er2]; rfl),
          _, rfl, _, _, _, (x + (c0 : Int)).toNat, rfl, rfl, has_row g3 (r := (r0.1, r0.2.mapIdx fun i c => if p j0 i = true then m else c)) er2, ?_, ?_⟩
        · rw [List.length_map, List.length_mapIdx]
          unfold ixN
          rw [if_pos (by omega), if_pos (by omega)]
        · refine ⟨some (.int (x + c0)), rfl, ?_⟩
          have e5 : ∀ {xs : List Int} {k : Nat}, (xs.map V.int).set k (V.int m) = (xs.set k m).map V.int := by intro xs k; rw [List.map_set]
          rw [e5]
          have e6 := paintRs_set p m l.rows (i := (x + (c0 : Int)).toNat) er
          simp only [e6] at g4
          rw [paintRs_congr (q := fun (j c : Nat) => decide (y ≤ (j : Int) ∧ (j : Int) < y + i ∧ x ≤ (c : Int) ∧ (c : Int) < x + wd) || decide ((j : Int) = y + i ∧ x ≤ (c : Int) ∧ (c : Int) < x + ((c0 + 1 : Nat) : Int)))] at g4
          · exact g4
          · intro j c
            rw [← hp]
            rw [Bool.eq_iff_iff]
            simp only [Bool.or_eq_true, Bool.and_eq_true, decide_eq_true_eq, beq_iff_eq]
            omega
      · rintro σ H3 ⟨b, rfl, g3⟩
        refine ⟨some (.int (y + i)), b, rfl, ?_⟩
        rw [paintRs_congr (q := fun (j c : Nat) => decide (y ≤ (j : Int) ∧ (j : Int) < y + ((i + 1 : Nat) : Int) ∧ x ≤ (c : Int) ∧ (c : Int) < x + wd))] at g3
        · exact g3
        · intro j c
          rw [Bool.eq_iff_iff]
          simp only [Bool.or_eq_true, decide_eq_true_eq]
          omega
    · rintro σ H2 ⟨a, b, rfl, g⟩
      rw [paintRs_congr (q := fun j i => decide (y ≤ (j : Int) ∧ (j : Int) < y + hi ∧ x ≤ (i : Int) ∧ (i : Int) < x + wd)) (fun j c => by rw [Bool.eq_iff_iff]; simp only [decide_eq_true_eq]; omega)] at g
      refine k { l with rows := paintRs (fun j i => decide (y ≤ (j : Int) ∧ (j : Int) < y + hi ∧ x ≤ (i : Int) ∧ (i : Int) < x + wd)) m l.rows } _ rfl ?_ ⟨wf.w1, wf.w2, wf.h1, wf.h2, ?_, ?_⟩ g
      · unfold LookM.v LookM.marks fillMs
        simp only [paintRs_snd]
      · show ((paintRs _ m l.rows).length : Int) = l.high
        unfold paintRs
        rw [List.length_mapIdx]; exact wf.rl
      · intro r hr'
        unfold paintRs at hr'
        obtain ⟨j, hj, e⟩ := List.getElem_of_mem hr'
        rw [← e, List.getElem_mapIdx]
        show ((List.mapIdx _ _).length : Int) = l.wide
        rw [List.length_mapIdx]
        exact wf.cl _ (List.getElem_mem _)
end
end SH
set_option Elab.async false
set_option linter.all false
set_option maxRecDepth 100000
namespace SH
open PySem PySem.Spec PyProof.Rows L2
def clientF (x0 : Int) (x1 : Bool) (x2 : Addr) (x3 : Addr) (x4 : Addr) : Fl := [("number", .int x0), ("fallen", .bl x1), ("row", .ref x2), ("surfaces", .ref x3), ("notes", .ref x4)]
theorem clientF_number {x0 : Int} {x1 : Bool} {x2 : Addr} {x3 : Addr} {x4 : Addr} : (clientF x0 x1 x2 x3 x4).lookup ("number" : Str) = some (.int x0) := by kernel_rfl
theorem clientF_fallen {x0 : Int} {x1 : Bool} {x2 : Addr} {x3 : Addr} {x4 : Addr} : (clientF x0 x1 x2 x3 x4).lookup ("fallen" : Str) = some (.bl x1) := by kernel_rfl
theorem clientF_row {x0 : Int} {x1 : Bool} {x2 : Addr} {x3 : Addr} {x4 : Addr} : (clientF x0 x1 x2 x3 x4).lookup ("row" : Str) = some (.ref x2) := by kernel_rfl
theorem clientF_surfaces {x0 : Int} {x1 : Bool} {x2 : Addr} {x3 : Addr} {x4 : Addr} : (clientF x0 x1 x2 x3 x4).lookup ("surfaces" : Str) = some (.ref x3) := by kernel_rfl
theorem clientF_notes {x0 : Int} {x1 : Bool} {x2 : Addr} {x3 : Addr} {x4 : Addr} : (clientF x0 x1 x2 x3 x4).lookup ("notes" : Str) = some (.ref x4) := by kernel_rfl
theorem clientF_pnumber {x0 : Int} {x1 : Bool} {x2 : Addr} {x3 : Addr} {x4 : Addr} {z : Int} : putF "number" (.int z) (clientF x0 x1 x2 x3 x4) = clientF z x1 x2 x3 x4 := by kernel_rfl
theorem clientF_pfallen {x0 : Int} {x1 : Bool} {x2 : Addr} {x3 : Addr} {x4 : Addr} {z : Bool} : putF "fallen" (.bl z) (clientF x0 x1 x2 x3 x4) = clientF x0 z x2 x3 x4 := by kernel_rfl
theorem clientF_prow {x0 : Int} {x1 : Bool} {x2 : Addr} {x3 : Addr} {x4 : Addr} {z : Addr} : putF "row" (.ref z) (clientF x0 x1 x2 x3 x4) = clientF x0 x1 z x3 x4 := by kernel_rfl
theorem clientF_psurfaces {x0 : Int} {x1 : Bool} {x2 : Addr} {x3 : Addr} {x4 : Addr} {z : Addr} : putF "surfaces" (.ref z) (clientF x0 x1 x2 x3 x4) = clientF x0 x1 x2 z x4 := by kernel_rfl
theorem clientF_pnotes {x0 : Int} {x1 : Bool} {x2 : Addr} {x3 : Addr} {x4 : Addr} {z : Addr} : putF "notes" (.ref z) (clientF x0 x1 x2 x3 x4) = clientF x0 x1 x2 x3 z := by kernel_rfl
theorem clientF_few {x0 : Int} {x1 : Bool} {x2 : Addr} {x3 : Addr} {x4 : Addr} : (clientF x0 x1 x2 x3 x4).length < 1000 := by show 5 < 1000; decide
def surfF (x0 : Addr) (x1 : Int) (x2 : Bool) (x3 : V) (x4 : Addr) (x5 : Addr) (x6 : V) (x7 : V) (x8 : Bool) (x9 : Int) (x10 : Int) : Fl := [("owner", .ref x0), ("name", .int x1), ("there", .bl x2), ("top", x3), ("parts", .ref x4), ("pending", .ref x5), ("ready", x6), ("shown", x7), ("newly_shown", .bl x8), ("laid_x", .int x9), ("laid_y", .int x10)]
theorem surfF_owner {x0 : Addr} {x1 : Int} {x2 : Bool} {x3 : V} {x4 : Addr} {x5 : Addr} {x6 : V} {x7 : V} {x8 : Bool} {x9 : Int} {x10 : Int} : (surfF x0 x1 x2 x3 x4 x5 x6 x7 x8 x9 x10).lookup ("owner" : Str) = some (.ref x0) := by kernel_rfl
theorem surfF_name {x0 : Addr} {x1 : Int} {x2 : Bool} {x3 : V} {x4 : Addr} {x5 : Addr} {x6 : V} {x7 : V} {x8 : Bool} {x9 : Int} {x10 : Int} : (surfF x0 x1 x2 x3 x4 x5 x6 x7 x8 x9 x10).lookup ("name" : Str) = some (.int x1) := by kernel_rfl
theorem surfF_there {x0 : Addr} {x1 : Int} {x2 : Bool} {x3 : V} {x4 : Addr} {x5 : Addr} {x6 : V} {x7 : V} {x8 : Bool} {x9 : Int} {x10 : Int} : (surfF x0 x1 x2 x3 x4 x5 x6 x7 x8 x9 x10).lookup ("there" : Str) = some (.bl x2) := by kernel_rfl
theorem surfF_top {x0 : Addr} {x1 : Int} {x2 : Bool} {x3 : V} {x4 : Addr} {x5 : Addr} {x6 : V} {x7 : V} {x8 : Bool} {x9 : Int} {x10 : Int} : (surfF x0 x1 x2 x3 x4 x5 x6 x7 x8 x9 x10).lookup ("top" : Str) = some (x3) := by kernel_rfl
theorem surfF_parts {x0 : Addr} {x1 : Int} {x2 : Bool} {x3 : V} {x4 : Addr} {x5 : Addr} {x6 : V} {x7 : V} {x8 : Bool} {x9 : Int} {x10 : Int} : (surfF x0 x1 x2 x3 x4 x5 x6 x7 x8 x9 x10).lookup ("parts" : Str) = some (.ref x4) := by kernel_rfl
theorem surfF_pending {x0 : Addr} {x1 : Int} {x2 : Bool} {x3 : V} {x4 : Addr} {x5 : Addr} {x6 : V} {x7 : V} {x8 : Bool} {x9 : Int} {x10 : Int} : (surfF x0 x1 x2 x3 x4 x5 x6 x7 x8 x9 x10).lookup ("pending" : Str) = some (.ref x5) := by kernel_rfl
theorem surfF_ready {x0 : Addr} {x1 : Int} {x2 : Bool} {x3 : V} {x4 : Addr} {x5 : Addr} {x6 : V} {x7 : V} {x8 : Bool} {x9 : Int} {x10 : Int} : (surfF x0 x1 x2 x3 x4 x5 x6 x7 x8 x9 x10).lookup ("ready" : Str) = some (x6) := by kernel_rfl
theorem surfF_shown {x0 : Addr} {x1 : Int} {x2 : Bool} {x3 : V} {x4 : Addr} {x5 : Addr} {x6 : V} {x7 : V} {x8 : Bool} {x9 : Int} {x10 : Int} : (surfF x0 x1 x2 x3 x4 x5 x6 x7 x8 x9 x10).lookup ("shown" : Str) = some (x7) := by kernel_rfl
theorem surfF_newly_shown {x0 : Addr} {x1 : Int} {x2 : Bool} {x3 : V} {x4 : Addr} {x5 : Addr} {x6 : V} {x7 : V} {x8 : Bool} {x9 : Int} {x10 : Int} : (surfF x0 x1 x2 x3 x4 x5 x6 x7 x8 x9 x10).lookup ("newly_shown" : Str) = some (.bl x8) := by kernel_rfl
theorem surfF_laid_x {x0 : Addr} {x1 : Int} {x2 : Bool} {x3 : V} {x4 : Addr} {x5 : Addr} {x6 : V} {x7 : V} {x8 : Bool} {x9 : Int} {x10 : Int} : (surfF x0 x1 x2 x3 x4 x5 x6 x7 x8 x9 x10).lookup ("laid_x" : Str) = some (.int x9) := by kernel_rfl
theorem surfF_laid_y {x0 : Addr} {x1 : Int} {x2 : Bool} {x3 : V} {x4 : Addr} {x5 : Addr} {x6 : V} {x7 : V} {x8 : Bool} {x9 : Int} {x10 : Int} : (surfF x0 x1 x2 x3 x4 x5 x6 x7 x8 x9 x10).lookup ("laid_y" : Str) = some (.int x10) := by kernel_rfl
theorem surfF_powner {x0 : Addr} {x1 : Int} {x2 : Bool} {x3 : V} {x4 : Addr} {x5 : Addr} {x6 : V} {x7 : V} {x8 : Bool} {x9 : Int} {x10 : Int} {z : Addr} : putF "owner" (.ref z) (surfF x0 x1 x2 x3 x4 x5 x6 x7 x8 x9 x10) = surfF z x1 x2 x3 x4 x5 x6 x7 x8 x9 x10 := by kernel_rfl
theorem surfF_pname {x0 : Addr} {x1 : Int} {x2 : Bool} {x3 : V} {x4 : Addr} {x5 : Addr} {x6 : V} {x7 : V} {x8 : Bool} {x9 : Int} {x10 : Int} {z : Int} : putF "name" (.int z) (surfF x0 x1 x2 x3 x4 x5 x6 x7 x8 x9 x10) = surfF x0 z x2 x3 x4 x5 x6 x7 x8 x9 x10 := by kernel_rfl
theorem surfF_pthere {x0 : Addr} {x1 : Int} {x2 : Bool} {x3 : V} {x4 : Addr} {x5 : Addr} {x6 : V} {x7 : V} {x8 : Bool} {x9 : Int} {x10 : Int} {z : Bool} : putF "there" (.bl z) (surfF x0 x1 x2 x3 x4 x5 x6 x7 x8 x9 x10) = surfF x0 x1 z x3 x4 x5 x6 x7 x8 x9 x10 := by kernel_rfl
theorem surfF_ptop {x0 : Addr} {x1 : Int} {x2 : Bool} {x3 : V} {x4 : Addr} {x5 : Addr} {x6 : V} {x7 : V} {x8 : Bool} {x9 : Int} {x10 : Int} {z : V} : putF "top" (z) (surfF x0 x1 x2 x3 x4 x5 x6 x7 x8 x9 x10) = surfF x0 x1 x2 z x4 x5 x6 x7 x8 x9 x10 := by kernel_rfl
theorem surfF_pparts {x0 : Addr} {x1 : Int} {x2 : Bool} {x3 : V} {x4 : Addr} {x5 : Addr} {x6 : V} {x7 : V} {x8 : Bool} {x9 : Int} {x10 : Int} {z : Addr} : putF "parts" (.ref z) (surfF x0 x1 x2 x3 x4 x5 x6 x7 x8 x9 x10) = surfF x0 x1 x2 x3 z x5 x6 x7 x8 x9 x10 := by kernel_rfl
theorem surfF_ppending {x0 : Addr} {x1 : Int} {x2 : Bool} {x3 : V} {x4 : Addr} {x5 : Addr} {x6 : V} {x7 : V} {x8 : Bool} {x9 : Int} {x10 : Int} {z : Addr} : putF "pending" (.ref z) (surfF x0 x1 x2 x3 x4 x5 x6 x7 x8 x9 x10) = surfF x0 x1 x2 x3 x4 z x6 x7 x8 x9 x10 := by kernel_rfl
theorem surfF_pready {x0 : Addr} {x1 : Int} {x2 : Bool} {x3 : V} {x4 : Addr} {x5 : Addr} {x6 : V} {x7 : V} {x8 : Bool} {x9 : Int} {x10 : Int} {z : V} : putF "ready" (z) (surfF x0 x1 x2 x3 x4 x5 x6 x7 x8 x9 x10) = surfF x0 x1 x2 x3 x4 x5 z x7 x8 x9 x10 := by kernel_rfl
theorem surfF_pshown {x0 : Addr} {x1 : Int} {x2 : Bool} {x3 : V} {x4 : Addr} {x5 : Addr} {x6 : V} {x7 : V} {x8 : Bool} {x9 : Int} {x10 : Int} {z : V} : putF "shown" (z) (surfF x0 x1 x2 x3 x4 x5 x6 x7 x8 x9 x10) = surfF x0 x1 x2 x3 x4 x5 x6 z x8 x9 x10 := by kernel_rfl
theorem surfF_pnewly_shown {x0 : Addr} {x1 : Int} {x2 : Bool} {x3 : V} {x4 : Addr} {x5 : Addr} {x6 : V} {x7 : V} {x8 : Bool} {x9 : Int} {x10 : Int} {z : Bool} : putF "newly_shown" (.bl z) (surfF x0 x1 x2 x3 x4 x5 x6 x7 x8 x9 x10) = surfF x0 x1 x2 x3 x4 x5 x6 x7 z x9 x10 := by kernel_rfl
theorem surfF_plaid_x {x0 : Addr} {x1 : Int} {x2 : Bool} {x3 : V} {x4 : Addr} {x5 : Addr} {x6 : V} {x7 : V} {x8 : Bool} {x9 : Int} {x10 : Int} {z : Int} : putF "laid_x" (.int z) (surfF x0 x1 x2 x3 x4 x5 x6 x7 x8 x9 x10) = surfF x0 x1 x2 x3 x4 x5 x6 x7 x8 z x10 := by kernel_rfl
theorem surfF_plaid_y {x0 : Addr} {x1 : Int} {x2 : Bool} {x3 : V} {x4 : Addr} {x5 : Addr} {x6 : V} {x7 : V} {x8 : Bool} {x9 : Int} {x10 : Int} {z : Int} : putF "laid_y" (.int z) (surfF x0 x1 x2 x3 x4 x5 x6 x7 x8 x9 x10) = surfF x0 x1 x2 x3 x4 x5 x6 x7 x8 x9 z := by kernel_rfl
theorem surfF_few {x0 : Addr} {x1 : Int} {x2 : Bool} {x3 : V} {x4 : Addr} {x5 : Addr} {x6 : V} {x7 : V} {x8 : Bool} {x9 : Int} {x10 : Int} : (surfF x0 x1 x2 x3 x4 x5 x6 x7 x8 x9 x10).length < 1000 := by show 11 < 1000; decide
abbrev sCInit : Stmt := inClass (top 2) 0
abbrev sCHear : Stmt := inClass (top 2) 1
abbrev sSInit : Stmt := inClass (top 5) 0
abbrev sSLet : Stmt := inClass (top 5) 1
abbrev sSFamily : Stmt := inClass (top 5) 2
abbrev sSTie : Stmt := inClass (top 5) 3
abbrev sSShow : Stmt := inClass (top 5) 4
abbrev sSReady : Stmt := inClass (top 5) 5
abbrev sSUnv : Stmt := inClass (top 5) 6
/-- a client without its surfaces -/
structure CliH where
  a : Addr
  dx : Addr
  ra : Addr
  sa : Addr
  na : Addr
  number : Int
  fallen : Bool
  row : List Addr
  sd : List (Int × Addr)
  notes : List Addr
def kvI (l : List (Int × Addr)) : List (Key × V) := l.map fun p => ((Sum.inl p.1 : Key), V.ref p.2)
def cliCells (CC : Addr) (c : CliH) : Cells :=
  [(c.a, .ins CC c.dx (clientF c.number c.fallen c.ra c.sa c.na)), (c.ra, .lst (c.row.map V.ref)), (c.sa, .dK (kvI c.sd)), (c.na, .lst (c.notes.map V.ref))]
/-- a surface with its looks -/
structure SurfR where
  a : Addr
  dx : Addr
  pa : Addr
  owner : Addr
  name : Int
  there : Bool
  top : Option Addr
  parts : List (Int × Addr)
  pend : LookM
  ready : Option LookM
  shown : Option LookM
  newly : Bool
  lx : Int
  ly : Int
def oref : Option Addr → V
  | none => .non
  | some a => .ref a
def olook (CL : Addr) : Option LookM → Cells
  | none => []
  | some l => lookCells CL l
def SurfR.obj (CS : Addr) (s : SurfR) : HO := .ins CS s.dx (surfF s.owner s.name s.there (oref s.top) s.pa s.pend.a (oref (s.ready.map (·.a))) (oref (s.shown.map (·.a))) s.newly s.lx s.ly)
def surfCells (CS CL : Addr) (s : SurfR) : Cells := (s.a, s.obj CS) :: (s.pa, .dK (kvI s.parts)) :: (lookCells CL s.pend ++ (olook CL s.ready ++ olook CL s.shown))
structure TxtC (K : PySem.W.Frag) (mg : Str → Option Value) (C : Addr) : Prop where
  cl : Cls K C
  nnumber : NoAttr K C "number"
  nfallen : NoAttr K C "fallen"
  nrow : NoAttr K C "row"
  nsurfaces : NoAttr K C "surfaces"
  nnotes : NoAttr K C "notes"
  mgC : mg "Client" = some (.ref C)
structure TxtS (K : PySem.W.Frag) (mg : Str → Option Value) (C : Addr) : Prop where
  cl : Cls K C
  nowner : NoAttr K C "owner"
  nname : NoAttr K C "name"
  nthere : NoAttr K C "there"
  ntop : NoAttr K C "top"
  nparts : NoAttr K C "parts"
  npending : NoAttr K C "pending"
  nready : NoAttr K C "ready"
  nshown : NoAttr K C "shown"
  nnewly : NoAttr K C "newly_shown"
  nlx : NoAttr K C "laid_x"
  nly : NoAttr K C "laid_y"
  mgC : mg "Surface" = some (.ref C)
  sorted : mg "sorted" = none
theorem clientF_init (ra sa na : Addr) (n : Int) : putF "notes" (.ref na) (putF "surfaces" (.ref sa) (putF "row" (.ref ra) (putF "fallen" (.bl false) (putF "number" (.int n) [])))) = clientF n false ra sa na := by kernel_rfl
section
variable {P : Program} {w : World} {K : PySem.W.Frag} {mg : Str → Option Value} {base : Heap}
theorem scCInit : FnScope ["self", "number"] ["self", "number"] (defScope sCInit) := ⟨rfl, rfl, rfl, by decide +kernel, rfl, by decide +kernel, by decide +kernel⟩
def spCInit (CC : Addr) : Sp := fun vs H Q _ => ∃ (A B : Cells) (p dx : Addr) (n : Int), vs = [.ref p, .int n] ∧ Has H (A ++ ((p, .ins CC dx []) :: B)) ∧
  ∀ ra sa na H', Has H' (A ++ (cliCells CC ⟨p, dx, ra, sa, na, n, false, [], [], []⟩ ++ B)) → Q .non H'
theorem ok_cinit {f CC : Addr} {fd : FuncData} (F : Fun K "__init__" "Client.__init__" sCInit f fd) (T : TxtC K mg CC) : FnOk P w K mg base CX0 1 f fd ["self", "number"] (spCInit CC) := by
  refine F.ok scCInit (fun vs H Q E h => ?_) (fun cdv A outer s H vs Q E hr h => ?_)
  · obtain ⟨A, B, p, dx, n, rfl, _⟩ := h
    rfl
  · obtain ⟨A, B, p, dx, n, rfl, hh, k⟩ := h
    refine ⟨_, pss_cons (ps_fld (pv 0) (pv 1) rfl) (pss_cons (ps_fld (pv 0) pe_bl rfl) (pss_cons (ps_fld (pv 0) (pe_lst pa_nil) rfl) (pss_cons (ps_fld (pv 0) pe_dnewK rfl) (pss_one (ps_fld (pv 0) (pe_lst pa_nil) rfl))))), ?_⟩
    refine ⟨_, rfl, _, rfl, p, CC, dx, _, rfl, hh.get 0 rfl, T.cl, T.nnumber, few few_nil, ?_⟩
    have h1 := hh.set 0 rfl (.ins CC dx (putF "number" (.int n) []))
    refine ⟨_, rfl, p, CC, dx, _, rfl, h1.get 0 rfl, T.cl, T.nfallen, few (few_put few_nil), ?_⟩
    have h2 := h1.set 0 rfl (.ins CC dx (putF "fallen" (.bl false) (putF "number" (.int n) [])))
    refine ⟨small (by show 0 ≤ 1000; decide), fun ra hra => ?_⟩
    have h3 := (Has.newAt (B := [_]) h2 hra (.lst []))
    refine ⟨_, rfl, p, CC, dx, _, rfl, h3.get 0 rfl, T.cl, T.nrow, few (few_put (few_put few_nil)), ?_⟩
    have h4 := h3.set 0 rfl (.ins CC dx (putF "row" (.ref ra) (putF "fallen" (.bl false) (putF "number" (.int n) []))))
    refine fun sa hsa => ?_
    have h5 := (Has.newAt (B := [_, _]) h4 hsa (.dK []))
    refine ⟨_, rfl, p, CC, dx, _, rfl, h5.get 0 rfl, T.cl, T.nsurfaces, few (few_put (few_put (few_put few_nil))), ?_⟩
    have h6 := h5.set 0 rfl (.ins CC dx (putF "surfaces" (.ref sa) (putF "row" (.ref ra) (putF "fallen" (.bl false) (putF "number" (.int n) [])))))
    refine ⟨small (by show 0 ≤ 1000; decide), fun na hna => ?_⟩
    have h7 := (Has.newAt (B := [_, _, _]) h6 hna (.lst []))
    refine ⟨_, rfl, p, CC, dx, _, rfl, h7.get 0 rfl, T.cl, T.nnotes, few (few_put (few_put (few_put (few_put few_nil)))), ?_⟩
    have h8 := h7.set 0 rfl (.ins CC dx (putF "notes" (.ref na) (putF "surfaces" (.ref sa) (putF "row" (.ref ra) (putF "fallen" (.bl false) (putF "number" (.int n) []))))))
    refine k ra sa na _ ?_
    rw [clientF_init] at h8 ⊢
    exact h8
theorem scCHear : FnScope ["self", "note"] ["self", "note"] (defScope sCHear) := ⟨rfl, rfl, rfl, by decide +kernel, rfl, by decide +kernel, by decide +kernel⟩
def CliH.heard (c : CliH) (t : Addr) : CliH := if c.fallen = true then c else { c with notes := c.notes ++ [t] }
def spCHear (CC : Addr) : Sp := fun vs H Q _ => ∃ (A B : Cells) (c : CliH) (t : Addr), vs = [.ref c.a, .ref t] ∧ Has H (A ++ (cliCells CC c ++ B)) ∧ c.notes.length < 100000 ∧
  ∀ H', Has H' (A ++ (cliCells CC (c.heard t) ++ B)) → Q .non H'
theorem ok_chear {f CC : Addr} {fd : FuncData} (F : Fun K "hear" "Client.hear" sCHear f fd) (T : TxtC K mg CC) : FnOk P w K mg base CX0 1 f fd ["self", "note"] (spCHear CC) := by
  refine F.ok scCHear (fun vs H Q E h => ?_) (fun cdv A outer s H vs Q E hr h => ?_)
  · obtain ⟨A, B, c, t, rfl, _⟩ := h
    rfl
  · obtain ⟨A, B, c, t, rfl, hh, hz, k⟩ := h
    refine ⟨_, pss_one (ps_if (pt_not (pt_val (pe_fld (pv 0) rfl))) (pss_one (ps_expr (pe_bm PySem.F.plainAttrs_list PySem.F.slot_list_append PySem.F.type_list_append mt_append (pe_fld (pv 0) rfl) (pa_cons (pv 1) pa_nil)))) pss_nil), ?_⟩
    refine ⟨_, rfl, c.a, CC, _, _, _, rfl, hh.get 0 rfl, T.cl, T.nfallen, clientF_fallen, _, rfl, ?_⟩
    cases hf : c.fallen with
    | true =>
      have e : c.heard t = c := by unfold CliH.heard; rw [if_pos hf]
      rw [e] at k
      exact k H hh
    | false =>
      have e : c.heard t = { c with notes := c.notes ++ [t] } := by unfold CliH.heard; rw [if_neg (by rw [hf]; exact Bool.false_ne_true)]
      rw [e] at k
      have hn := hh.get 3 rfl
      refine ⟨_, rfl, c.a, CC, _, _, _, rfl, hh.get 0 rfl, T.cl, T.nnotes, clientF_notes, .inl ⟨rfl, _, SqL.of hn⟩, _, rfl, _, _, _, rfl, rfl, hn, ?_, ?_⟩
      · rw [List.length_map]; exact Nat.lt_of_lt_of_le hz (by decide)
      · refine k _ ?_
        have h1 := hh.set 3 rfl (.lst (c.notes.map V.ref ++ [V.ref t]))
        show Has _ (A ++ (cliCells CC { c with notes := c.notes ++ [t] } ++ B))
        unfold cliCells
        rw [List.map_append]
        exact h1
end
end SH
set_option Elab.async false
set_option linter.all false
set_option maxRecDepth 100000
namespace SH
open PySem PySem.Spec PyProof.Rows L2
section
variable {H : Hp} {A B : Cells} {p C dx : Addr} {fs : Fl} {f : Str} {v : V} {o o' : HO}
theorem Has.hd (h : Has H (A ++ (p, o) :: B)) : H p = some o := h.get 0 rfl
theorem Has.wr (h : Has H (A ++ (p, o) :: B)) : Has (upd H p o') (A ++ (p, o') :: B) := h.set 0 rfl o'
theorem Has.put (h : Has H (A ++ (p, .ins C dx fs) :: B)) : Has (upd H p (.ins C dx (putF f v fs))) (A ++ (p, .ins C dx (putF f v fs)) :: B) := h.wr
end
theorem surfF_init (ow : Addr) (n : Int) (pa pe : Addr) : putF "laid_y" (.int 0) (putF "laid_x" (.int 0) (putF "newly_shown" (.bl false) (putF "shown" .non (putF "ready" .non (putF "pending" (.ref pe) (putF "parts" (.ref pa) (putF "top" .non (putF "there" (.bl true) (putF "name" (.int n) (putF "owner" (.ref ow) [])))))))))) = surfF ow n true .non pa pe .non .non false 0 0 := by kernel_rfl
def look0 : LookV := ⟨1, 1, [[0]], 0, 0, 0, false⟩
theorem lwf0 {a dx ma r : Addr} : LWf ⟨a, dx, ma, 1, 1, [(r, [0])], 0, 0, 0, false⟩ := ⟨by show (1 : Int) ≤ 1; decide, by show (1 : Int) ≤ 12; decide, by show (1 : Int) ≤ 1; decide, by show (1 : Int) ≤ 8; decide, rfl, by intro r hr; rcases List.mem_singleton.mp hr with rfl; rfl⟩
section
variable {P : Program} {w : World} {K : PySem.W.Frag} {mg : Str → Option Value} {base : Heap}
theorem scSInit : FnScope ["self", "owner", "name"] ["self", "owner", "name"] (defScope sSInit) := ⟨rfl, rfl, rfl, by decide +kernel, rfl, by decide +kernel, by decide +kernel⟩
def spSInit (CS CL : Addr) : Sp := fun vs H Q _ => ∃ (A B : Cells) (p dx ow : Addr) (n : Int), vs = [.ref p, .ref ow, .int n] ∧ Has H (A ++ ((p, .ins CS dx []) :: B)) ∧
  ∀ pa l H', l.v = look0 → LWf l → Has H' (A ++ (surfCells CS CL ⟨p, dx, pa, ow, n, true, none, [], l, none, none, false, 0, 0⟩ ++ B)) → Q .non H'
theorem ok_sinit {f CS CL fL : Addr} {fd fdL : FuncData} (F : Fun K "__init__" "Surface.__init__" sSInit f fd) (T : TxtS K mg CS) (TL : TxtL K mg CL) (ML : Mk K CL fL) (FL : Fun K "__init__" "Look.__init__" sLInit fL fdL) (bL : Binds K fdL ["self"] []) :
    FnOk P w K mg base CX0 3 f fd ["self", "owner", "name"] (spSInit CS CL) := by
  have GL : FnOk P w K mg base CX0 1 fL fdL ["self"] (spLInit CL) := ok_linit FL TL
  refine F.ok scSInit (fun vs H Q E h => ?_) (fun cdv A outer s H vs Q E hr h => ?_)
  · obtain ⟨A, B, p, dx, ow, n, rfl, _⟩ := h
    rfl
  · obtain ⟨A, B, p, dx, ow, n, rfl, hh, k⟩ := h
    refine ⟨_, pss_cons (ps_fld (pv 0) (pv 1) rfl) (pss_cons (ps_fld (pv 0) (pv 2) rfl) (pss_cons (ps_fld (pv 0) pe_bl rfl) (pss_cons (ps_fld (pv 0) pe_non rfl) (pss_cons (ps_fld (pv 0) pe_dnewK rfl)
      (pss_cons (ps_fld (pv 0) (pe_make0 ML GL (hr.mono (by decide)) rfl TL.mgC bL .nil pass0) rfl) (pss_cons (ps_fld (pv 0) pe_non rfl) (pss_cons (ps_fld (pv 0) pe_non rfl) (pss_cons (ps_fld (pv 0) pe_bl rfl)
      (pss_cons (ps_fld (pv 0) pe_int rfl) (pss_one (ps_fld (pv 0) pe_int rfl))))))))))), ?_⟩
    refine ⟨_, rfl, _, rfl, p, CS, dx, _, rfl, hh.hd, T.cl, T.nowner, few few_nil, ?_⟩
    refine ⟨_, rfl, _, rfl, p, CS, dx, _, rfl, hh.put.hd, T.cl, T.nname, few (few_put few_nil), ?_⟩
    refine ⟨_, rfl, p, CS, dx, _, rfl, hh.put.put.hd, T.cl, T.nthere, few (few_put (few_put few_nil)), ?_⟩
    refine ⟨_, rfl, p, CS, dx, _, rfl, hh.put.put.put.hd, T.cl, T.ntop, few (few_put (few_put (few_put few_nil))), ?_⟩
    refine fun pa hpa => ?_
    have h5 := (Has.newAt (B := [_]) hh.put.put.put.put hpa (.dK []))
    refine ⟨_, rfl, p, CS, dx, _, rfl, h5.hd, T.cl, T.nparts, few (few_put (few_put (few_put (few_put few_nil)))), ?_⟩
    have h6 : Has _ (A ++ (_ :: (pa, HO.dK []) :: B)) := Has.put (f := "parts") (v := .ref pa) h5
    refine fun x dy nx ndx nex => ?_
    have h7 := Has.made (A := A ++ [_, (pa, HO.dK [])]) (B := B) (by rw [List.append_assoc]; exact h6) nx ndx nex (C := CL)
    refine ⟨A ++ [_, _], B, x, dy, rfl, h7, fun ma r H1 h8 => ⟨rfl, ?_⟩⟩
    have h8 := h8.assoc
    refine ⟨_, rfl, p, CS, dx, _, rfl, h8.hd, T.cl, T.npending, few (few_put (few_put (few_put (few_put (few_put few_nil))))), ?_⟩
    refine ⟨_, rfl, p, CS, dx, _, rfl, h8.put.hd, T.cl, T.nready, few (few_put (few_put (few_put (few_put (few_put (few_put few_nil)))))), ?_⟩
    refine ⟨_, rfl, p, CS, dx, _, rfl, h8.put.put.hd, T.cl, T.nshown, few (few_put (few_put (few_put (few_put (few_put (few_put (few_put few_nil))))))), ?_⟩
    refine ⟨_, rfl, p, CS, dx, _, rfl, h8.put.put.put.hd, T.cl, T.nnewly, few (few_put (few_put (few_put (few_put (few_put (few_put (few_put (few_put few_nil)))))))), ?_⟩
    refine ⟨_, rfl, p, CS, dx, _, rfl, h8.put.put.put.put.hd, T.cl, T.nlx, few (few_put (few_put (few_put (few_put (few_put (few_put (few_put (few_put (few_put few_nil))))))))), ?_⟩
    refine ⟨_, rfl, p, CS, dx, _, rfl, h8.put.put.put.put.put.hd, T.cl, T.nly, few (few_put (few_put (few_put (few_put (few_put (few_put (few_put (few_put (few_put (few_put few_nil)))))))))), ?_⟩
    refine k pa ⟨x, dy, ma, 1, 1, [(r, [0])], 0, 0, 0, false⟩ _ rfl lwf0 ?_
    have h9 := h8.put (f := "pending") (v := .ref x) |>.put (f := "ready") (v := .non) |>.put (f := "shown") (v := .non) |>.put (f := "newly_shown") (v := .bl false) |>.put (f := "laid_x") (v := .int 0) |>.put (f := "laid_y") (v := .int 0)
    rw [surfF_init] at h9 ⊢
    exact h9
theorem scSReady : FnScope ["self"] ["self"] (defScope sSReady) := ⟨rfl, rfl, rfl, by decide +kernel, rfl, by decide +kernel, by decide +kernel⟩
/-- what is ready is shown -/
def SurfR.showReady (s : SurfR) : SurfR := match s.ready with
  | none => s
  | some l => { s with shown := some l, ready := none, newly := true }
def spSReady (CS CL : Addr) : Sp := fun vs H Q _ => ∃ (A B : Cells) (s : SurfR), vs = [.ref s.a] ∧ Has H (A ++ (surfCells CS CL s ++ B)) ∧
  ∀ H', Has H' (A ++ (surfCells CS CL s.showReady ++ B)) → Q .non H'
theorem ok_sready {f CS CL : Addr} {fd : FuncData} (F : Fun K "show_ready" "Surface.show_ready" sSReady f fd) (T : TxtS K mg CS) : FnOk P w K mg base CX0 1 f fd ["self"] (spSReady CS CL) := by
  refine F.ok scSReady (fun vs H Q E h => ?_) (fun cdv A outer s H vs Q E hr h => ?_)
  · obtain ⟨A, B, s, rfl, _⟩ := h
    rfl
  · obtain ⟨A, B, s, rfl, hh, k⟩ := h
    refine ⟨_, pss_cons (ps_if (pt_cmpR op_isN (pe_fld (pv 0) rfl) pe_non (nomark _)) (pss_one ps_retN) pss_nil) (pss_cons (ps_fld (pv 0) (pe_fld (pv 0) rfl) rfl) (pss_cons (ps_fld (pv 0) pe_non rfl) (pss_one (ps_fld (pv 0) pe_bl rfl)))), ?_⟩
    have h0 : H s.a = some (s.obj CS) := hh.hd
    refine ⟨_, rfl, s.a, CS, _, _, _, rfl, h0, T.cl, T.nready, surfF_ready, rfl, _, rfl, ?_⟩
    cases e : s.ready with
    | none =>
      have e1 : s.showReady = s := by unfold SurfR.showReady; rw [e]
      rw [e1] at k
      exact k H hh
    | some l =>
      have e1 : s.showReady = { s with shown := some l, ready := none, newly := true } := by unfold SurfR.showReady; rw [e]
      rw [e1] at k
      refine ⟨_, rfl, s.a, CS, _, _, _, rfl, h0, T.cl, T.nready, surfF_ready, _, rfl, s.a, CS, _, _, rfl, h0, T.cl, T.nshown, surfF_few, ?_⟩
      have h1 : Has _ (A ++ ((s.a, HO.ins CS s.dx (putF "shown" (oref (s.ready.map (·.a))) (surfF s.owner s.name s.there (oref s.top) s.pa s.pend.a (oref (s.ready.map (·.a))) (oref (s.shown.map (·.a))) s.newly s.lx s.ly))) :: _)) := Has.put hh
      rw [surfF_pshown] at h1 ⊢
      refine ⟨_, rfl, s.a, CS, _, _, rfl, h1.hd, T.cl, T.nready, surfF_few, ?_⟩
      have h2 := h1.put (f := "ready") (v := .non)
      rw [surfF_pready] at h2 ⊢
      refine ⟨_, rfl, s.a, CS, _, _, rfl, h2.hd, T.cl, T.nnewly, surfF_few, ?_⟩
      have h3 := h2.put (f := "newly_shown") (v := .bl true)
      rw [surfF_pnewly_shown] at h3 ⊢
      refine k _ ?_
      refine h3.sub (List.Sublist.append_left ?_ A)
      have e2 : oref (s.ready.map (·.a)) = V.ref l.a := by rw [e]; rfl
      rw [e2]
      show ((s.a, _) :: (s.pa, _) :: (lookCells CL s.pend ++ ([] ++ lookCells CL l)) ++ B).Sublist ((s.a, _) :: (s.pa, _) :: ((lookCells CL s.pend ++ (olook CL s.ready ++ olook CL s.shown)) ++ B))
      rw [e]
      refine List.Sublist.cons₂ _ (List.Sublist.cons₂ _ ?_)
      show (_ ++ B).Sublist ((lookCells CL s.pend ++ (lookCells CL l ++ olook CL s.shown)) ++ B)
      refine List.Sublist.append_right (List.Sublist.append_left ?_ _) _
      exact List.sublist_append_left _ _
theorem scSUnv : FnScope ["self"] ["self"] (defScope sSUnv) := ⟨rfl, rfl, rfl, by decide +kernel, rfl, by decide +kernel, by decide +kernel⟩
def SurfR.unveiled (s : SurfR) : Bool := match s.shown with
  | none => false
  | some l => !l.veiled
def spSUnv (CS CL : Addr) : Sp := fun vs H Q _ => ∃ (A B : Cells) (s : SurfR), vs = [.ref s.a] ∧ Has H (A ++ (surfCells CS CL s ++ B)) ∧ Q (.bl s.unveiled) H
theorem has_shown {CS CL : Addr} {A B : Cells} {s : SurfR} {H : Hp} {l : LookM} (hh : Has H (A ++ (surfCells CS CL s ++ B))) (e : s.shown = some l) :
    Has H ((A ++ ((s.a, s.obj CS) :: (s.pa, .dK (kvI s.parts)) :: (lookCells CL s.pend ++ olook CL s.ready))) ++ (lookCells CL l ++ B)) := by
  have e1 : A ++ (surfCells CS CL s ++ B) = (A ++ ((s.a, s.obj CS) :: (s.pa, .dK (kvI s.parts)) :: (lookCells CL s.pend ++ olook CL s.ready))) ++ (lookCells CL l ++ B) := by
    unfold surfCells
    rw [e]
    simp [olook, List.append_assoc]
  rwa [e1] at hh
theorem ok_sunv {f CS CL : Addr} {fd : FuncData} (F : Fun K "is_unveiled" "Surface.is_unveiled" sSUnv f fd) (T : TxtS K mg CS) (TL : TxtL K mg CL) : FnOk P w K mg base CX0 1 f fd ["self"] (spSUnv CS CL) := by
  refine F.ok scSUnv (fun vs H Q E h => ?_) (fun cdv A outer s H vs Q E hr h => ?_)
  · obtain ⟨A, B, s, rfl, _⟩ := h
    rfl
  · obtain ⟨A, B, s, rfl, hh, k⟩ := h
    refine ⟨_, pss_one (ps_ret (pe_and (pe_cmpR op_notN (pe_fld (pv 0) rfl) pe_non (nomark _)) (pe_one (pe_not (pe_fld (pe_fld (pv 0) rfl) rfl))))), ?_⟩
    have h0 : H s.a = some (s.obj CS) := hh.hd
    refine ⟨_, rfl, s.a, CS, _, _, _, rfl, h0, T.cl, T.nshown, surfF_shown, rfl, _, rfl, ?_⟩
    cases e : s.shown with
    | none =>
      have e1 : s.unveiled = false := by unfold SurfR.unveiled; rw [e]
      rw [e1] at k
      exact k
    | some l =>
      have e1 : s.unveiled = !l.veiled := by unfold SurfR.unveiled; rw [e]
      rw [e1] at k
      have hl := (has_shown hh e).hd
      refine ⟨_, rfl, s.a, CS, _, _, _, rfl, h0, T.cl, T.nshown, surfF_shown, l.a, CL, _, _, _, by rw [e]; rfl, hl, TL.cl, TL.nveiled, lookF_veiled _ _ _ _ _ _ _, _, rfl, ?_⟩
      exact k
end
end SH
set_option Elab.async false
set_option linter.all false
set_option maxRecDepth 100000
namespace SH
open PySem PySem.Spec PyProof.Rows L2
def lkI (l : List (Int × Addr)) (n : Int) : Option Addr := (l.find? fun p => decide (p.1 = n)).map (·.2)
theorem valV_kvI (l : List (Int × Addr)) (n : Int) : valV (kvI l) (Sum.inl n : Key) = (lkI l n).map V.ref := by
  induction l with
  | nil => rfl
  | cons p l ih =>
    by_cases e : p.1 = n
    · show valV ((Sum.inl p.1, V.ref p.2) :: kvI l) _ = _
      rw [valV_pos (by show (Sum.inl p.1 : Key) = Sum.inl n; rw [e])]
      unfold lkI
      rw [List.find?_cons, decide_eq_true e]; rfl
    · show valV ((Sum.inl p.1, V.ref p.2) :: kvI l) _ = _
      rw [valV_neg (by show ¬ (Sum.inl p.1 : Key) = Sum.inl n; exact fun z => e (Sum.inl.inj z)), ih]
      unfold lkI
      rw [List.find?_cons, decide_eq_false e]
theorem lkI_mem {l : List (Int × Addr)} {n : Int} {b : Addr} (h : lkI l n = some b) : (n, b) ∈ l := by
  unfold lkI at h
  cases e : l.find? (fun p => decide (p.1 = n)) with
  | none => rw [e] at h; cases h
  | some p =>
    rw [e] at h
    have h1 := List.mem_of_find?_eq_some e
    have h2 : p.1 = n := by have := List.find?_some e; simpa using this
    have h3 : p.2 = b := Option.some.inj h
    rw [← h2, ← h3]; exact h1
theorem lkI_some {l : List (Int × Addr)} {n : Int} (h : n ∈ l.map (·.1)) : ∃ b, lkI l n = some b := by
  obtain ⟨p, hp, e⟩ := List.mem_map.mp h
  unfold lkI
  cases q : l.find? (fun p => decide (p.1 = n)) with
  | some r => exact ⟨_, rfl⟩
  | none => exact absurd (decide_eq_true e) (List.find?_eq_none.mp q p hp)
def sortI (l : List Int) : List Int := l.mergeSort (fun a b => decide (a ≤ b))
theorem sortI_perm (l : List Int) : (sortI l).Perm l := List.mergeSort_perm _ _
theorem sortI_pw (l : List Int) : (sortI l).Pairwise (· ≤ ·) := by
  have := List.pairwise_mergeSort (le := fun a b : Int => decide (a ≤ b)) (fun a b c h1 h2 => by simp at *; omega) (fun a b => by simp; omega) l
  exact this.imp (fun h => of_decide_eq_true h)
theorem sortI_of {ys l : List Int} (p : ys.Perm l) (h : ys.Pairwise (· ≤ ·)) : ys = sortI l := PySem.W.ksm_same (p.trans (sortI_perm l).symm) h (sortI_pw l)

def fam (st : Addr → Option SurfR) : Nat → Addr → List Addr
  | 0, a => [a]
  | d + 1, a => a :: (match st a with
    | none => []
    | some s => (sortI (s.parts.map (·.1))).flatMap fun n => match lkI s.parts n with
      | none => []
      | some b => fam st d b)
def FamOk (st : Addr → Option SurfR) : Nat → Addr → Prop
  | 0, a => ∃ s, st a = some s ∧ s.parts = []
  | d + 1, a => ∃ s, st a = some s ∧ s.parts.length ≤ 10 ∧ ∀ p ∈ s.parts, FamOk st d p.2
def famMax : Nat → Nat
  | 0 => 1
  | d + 1 => 1 + 10 * famMax d
theorem flat_le {α β : Type} {f : α → List β} {m : Nat} : ∀ {l : List α}, (∀ x ∈ l, (f x).length ≤ m) → (l.flatMap f).length ≤ l.length * m
  | [], _ => by simp
  | x :: l, h => by
    have h1 := h x List.mem_cons_self
    have h2 := flat_le (f := f) (m := m) (l := l) fun y hy => h y (List.mem_cons_of_mem _ hy)
    rw [List.flatMap_cons, List.length_append, List.length_cons, Nat.succ_mul]
    omega
theorem fam_len {st : Addr → Option SurfR} : ∀ {d : Nat} {a : Addr}, FamOk st d a → (fam st d a).length ≤ famMax d
  | 0, a, _ => Nat.le_refl _
  | d + 1, a, ⟨s, e, hl, hp⟩ => by
    unfold fam famMax
    simp only [e, List.length_cons]
    have h1 := flat_le (f := fun n => match lkI s.parts n with | none => [] | some b => fam st d b) (m := famMax d) (l := sortI (s.parts.map (·.1))) fun n _ => by
      cases q : lkI s.parts n with
      | none => exact Nat.zero_le _
      | some b => exact fam_len (hp _ (lkI_mem q))
    have h2 : (sortI (s.parts.map (·.1))).length ≤ 10 := by rw [(sortI_perm _).length_eq, List.length_map]; exact hl
    have h3 := Nat.mul_le_mul_right (famMax d) h2
    omega
def RS (CS : Addr) (st : Addr → Option SurfR) (H : Hp) : Prop := ∀ a s, st a = some s → s.a = a ∧ H a = some (s.obj CS) ∧ H s.pa = some (.dK (kvI s.parts))
theorem RS.same {CS : Addr} {st : Addr → Option SurfR} {H H' : Hp} (h : RS CS st H) (s : Same H H') : RS CS st H' := fun a u e => ⟨(h a u e).1, s _ _ (h a u e).2.1, s _ _ (h a u e).2.2⟩
theorem Same.new {H : Hp} {p : Addr} (o : HO) (h : H p = none) : Same H (upd H p o) := fun b u e => by rw [upd_ne (ne_of_none e h)]; exact e
theorem Same.mut {H H' : Hp} {p : Addr} (o : HO) (s : Same H H') (h : H p = none) : Same H (upd H' p o) := fun b u e => by rw [upd_ne (ne_of_none e h)]; exact s b u e
theorem Same.has {H H' : Hp} {L : Cells} (s : Same H H') (h : Has H L) : Has H' L := ⟨fun c hc => s _ _ (h.ok c hc), h.nd⟩
section
variable {P : Program} {w : World} {K : PySem.W.Frag} {mg : Str → Option Value} {base : Heap}
theorem scSFamily : FnScope ["self", "found", "name"] ["self"] (defScope sSFamily) := ⟨rfl, rfl, rfl, by decide +kernel, rfl, by decide +kernel, by decide +kernel⟩
def spSFamily (CS : Addr) (d : Nat) : Sp := fun vs H Q _ => ∃ (st : Addr → Option SurfR) (a : Addr), vs = [.ref a] ∧ RS CS st H ∧ FamOk st d a ∧
  ∀ p H', Same H H' → H p = none → H' p = some (.lst ((fam st d a).map V.ref)) → Q (.ref p) H'
theorem ok_sfamily {f CS : Addr} {fd : FuncData} (F : Fun K "family" "Surface.family" sSFamily f fd) (bF : Binds K fd ["self"] []) (T : TxtS K mg CS) (mF : Meth K CS "family" f) :
    ∀ d, famMax d ≤ 2000 → FnOk P w K mg base CX0 (d + 1) f fd ["self"] (spSFamily CS d)
  | 0, _ => by
    refine F.ok scSFamily (fun vs H Q E h => ?_) (fun cdv A outer s H vs Q E hr h => ?_)
    · obtain ⟨st, a, rfl, _⟩ := h
      rfl
    · obtain ⟨st, a, rfl, rs, ⟨s0, e0, ep⟩, k⟩ := h
      obtain ⟨ea, h0, hp⟩ := rs a s0 e0
      refine ⟨_, pss_cons (ps_set (i := 1) scSFamily.nd rfl (Or.inl rfl) (pe_lst (pa_cons (pv 0) pa_nil)))
        (pss_cons (ps_for PassesOwn.never rfl (pi_list (pe_callB (call_sortedDI rfl) (by rfl) T.sorted (by decide +kernel) (pa_cons (pe_fld (pv 0) rfl) pa_nil))) (pg_name (i := 2) scSFamily.nd rfl (Or.inl rfl)) pss_never)
        (pss_one (ps_ret (pv 1)))), ?_⟩
      refine ⟨_, rfl, small (by show 1 ≤ 1000; decide), fun p hp0 => ?_⟩
      have s1 := Same.new (HO.lst [V.ref a]) hp0
      refine ⟨_, rfl, a, CS, _, _, _, rfl, s1 _ _ h0, T.cl, T.nparts, surfF_parts, s0.pa, _, [], rfl, .inl (s1 _ _ hp), by rw [ep]; rfl, by decide, fun ys q hperm hord hq => ?_⟩
      have ey : ys = [] := List.perm_nil.mp hperm
      subst ey
      refine ⟨q, rfl, ⟨_, SqL.of upd_same⟩, for_list (K := K) (a := q) (xs := []) (fun i σ H2 => σ = [some (.ref a), some (.ref p), none] ∧ H2 = upd (upd H p (.lst [V.ref a])) q (.lst [])) ⟨rfl, rfl⟩ (fun i σ H2 _ ⟨_, e⟩ => by rw [e]; exact SqL.of upd_same) (fun i x σ H2 hx _ => by simp at hx) ?_⟩
      rintro σ H2 ⟨rfl, rfl⟩
      refine ⟨_, rfl, k p _ (s1.trans (Same.new _ hq)) hp0 ?_⟩
      rw [upd_ne (ne_of_none (upd_same : upd H p _ p = _) hq)]
      exact upd_same
  | d + 1, hm => by
    have GF := ok_sfamily F bF T mF d (by unfold famMax at hm; omega)
    refine F.ok scSFamily (fun vs H Q E h => ?_) (fun cdv A outer s H vs Q E hr h => ?_)
    · obtain ⟨st, a, rfl, _⟩ := h
      rfl
    · obtain ⟨st, a, rfl, rs, hfam, k⟩ := h
      have hlen := fam_len hfam
      obtain ⟨s0, e0, hl, hparts⟩ := id hfam
      obtain ⟨ea, h0, hp⟩ := rs a s0 e0
      have hu := hu_of hr
      refine ⟨_, pss_cons (ps_set (i := 1) scSFamily.nd rfl (Or.inl rfl) (pe_lst (pa_cons (pv 0) pa_nil)))
        (pss_cons (ps_for PassesOwn.never rfl (pi_list (pe_callB (call_sortedDI rfl) (by rfl) T.sorted (by decide +kernel) (pa_cons (pe_fld (pv 0) rfl) pa_nil))) (pg_name (i := 2) scSFamily.nd rfl (Or.inl rfl))
          (pss_one (ps_expr (pe_bm PySem.F.plainAttrs_list PySem.F.slot_list_extend PySem.F.type_list_extend mt_extend (pv 1) (pa_cons (pe_meth0 (pe_dget hu (pe_fld (pv 0) rfl) (pv 2) (fun _ _ => rfl)) T.cl mF GF hr bF .nil pass0) pa_nil)))))
        (pss_one (ps_ret (pv 1)))), ?_⟩
      refine ⟨_, rfl, small (by show 1 ≤ 1000; decide), fun p hp0 => ?_⟩
      have s1 := Same.new (HO.lst [V.ref a]) hp0
      refine ⟨_, rfl, a, CS, _, _, _, rfl, s1 _ _ h0, T.cl, T.nparts, surfF_parts, s0.pa, _, s0.parts.map (·.1), rfl, .inl (s1 _ _ hp), by unfold kvI; simp, by rw [List.length_map]; omega, fun ys q hperm hord hq => ?_⟩
      have ey : ys = sortI (s0.parts.map (·.1)) := sortI_of hperm hord
      subst ey
      generalize hks : sortI (s0.parts.map (·.1)) = ks at *
      have hq0 : H q = none := s1.free hq
      refine ⟨q, rfl, ⟨_, SqL.of upd_same⟩, for_list (K := K) (a := q) (xs := ks.map V.int) (fun i σ H2 => ∃ v, σ = [some (.ref a), some (.ref p), v] ∧ Same H H2 ∧ H2 q = some (.lst (ks.map V.int)) ∧
        H2 p = some (.lst ((a :: (ks.take i).flatMap fun n => match lkI s0.parts n with | none => [] | some b => fam st d b).map V.ref))) ?_ ?_ ?_ ?_⟩
      · refine ⟨none, rfl, s1.trans (Same.new _ hq), upd_same, ?_⟩
        rw [upd_ne (ne_of_none (upd_same : upd H p _ p = _) hq)]
        exact upd_same
      · rintro i σ H2 _ ⟨v, _, _, hq2, _⟩
        exact SqL.of hq2
      · rintro i x σ H2 hi ⟨v, rfl, s2, hq2, hp2⟩
        rw [List.getElem?_map] at hi
        cases en : ks[i]? with
        | none => rw [en] at hi; cases hi
        | some n =>
          rw [en] at hi
          obtain rfl : V.int n = x := Option.some.inj hi
          have hil : i < ks.length := (List.getElem?_eq_some_iff.mp en).1
          have hn : n ∈ s0.parts.map (·.1) := by
            have : n ∈ ks := List.mem_of_getElem? en
            rw [← hks] at this
            exact (sortI_perm _).mem_iff.mp this
          obtain ⟨b, eb⟩ := lkI_some hn
          have rs2 := rs.same s2
          have fb := hparts _ (lkI_mem eb)
          have eb1 : ∃ sb, st b = some sb := by cases d with | zero => obtain ⟨sb, e, _⟩ := fb; exact ⟨sb, e⟩ | succ d => obtain ⟨sb, e, _⟩ := fb; exact ⟨sb, e⟩
          obtain ⟨sb, esb⟩ := eb1
          refine ⟨_, rfl, .inl ⟨rfl, _, SqL.of hp2⟩, _, rfl, a, CS, _, _, _, rfl, s2 _ _ h0, T.cl, T.nparts, surfF_parts, _, rfl, s0.pa, V.ref b, rfl, ?_, b, _, _, rfl, (rs2 b sb esb).2.1, by kernel_rfl, st, b, rfl, rs2, fb, fun r H3 s3 hr0 hr3 => ?_⟩
          · have := DGet.k (k := (Sum.inl n : Key)) (s2 _ _ hp)
            rw [valV_kvI, eb] at this
            exact this
          · have hp3 := s3 _ _ hp2
            have hq3 := s3 _ _ hq2
            have npq : p ≠ q := ne_of_none (upd_same : upd H p _ p = _) hq
            refine ⟨p, r, _, _, rfl, rfl, hp3, hr3, ?_, ?_⟩
            · rw [List.length_map, List.length_map]
              have h5 : (fam st d b).length ≤ famMax d := fam_len fb
              have h6 := flat_le (f := fun n => match lkI s0.parts n with | none => [] | some b => fam st d b) (m := famMax d) (l := ks.take i) fun n _ => by
                cases q : lkI s0.parts n with
                | none => exact Nat.zero_le _
                | some b => exact fam_len (hparts _ (lkI_mem q))
              have h7 : (ks.take i).length ≤ 10 := by
                have : ks.length ≤ 10 := by rw [← hks, (sortI_perm _).length_eq, List.length_map]; exact hl
                rw [List.length_take]; omega
              have h8 := Nat.mul_le_mul_right (famMax d) h7
              refine Nat.le_trans (m := 4000) ?_ (by decide)
              unfold famMax at hm
              rw [List.length_cons]
              omega
            · refine ⟨_, rfl, ?_, ?_, ?_⟩
              · exact Same.mut _ (s2.trans s3) hp0
              · rw [upd_ne npq.symm]; exact hq3
              · rw [upd_same, List.take_add_one, en]
                simp [List.flatMap_append, eb]
      · rintro σ H2 ⟨v, rfl, s2, hq2, hp2⟩
        refine ⟨_, rfl, k p _ s2 hp0 ?_⟩
        have e9 : fam st (d + 1) a = a :: (ks.flatMap fun n => match lkI s0.parts n with | none => [] | some b => fam st d b) := by
          rw [← hks]
          show a :: _ = _
          rw [e0]
        rw [hp2, List.length_map, List.take_length, e9]
end
end SH
set_option Elab.async false
set_option linter.all false
set_option maxRecDepth 100000
namespace SH
open PySem PySem.Spec PyProof.Rows L2 StX
/-- a def with a star parameter -/
theorem _root_.L2.Fun.star {P : Program} {w : World} {K : PySem.W.Frag} {mg : Str → Option Value} {base : Heap} {x qual : Str} {st : Stmt} {f : Addr} {fd : FuncData} {N ps : List Str} {pv : Str} {k : Nat} {sp : Sp} (F : Fun K x qual st f fd) (S : FnScope N (ps ++ [pv]) (defScope st))
    (hb : ∀ (kV doc pm : Value) (an : Option Addr) (cdv ct : Value) (us rest : List Value), us.length = ps.length → bindArgs (PySem.W.fnOf x qual (defArgs st) (defBody st) (defScope st) .none kV doc pm an cdv ct) ⟨us ++ rest, []⟩ = (newTuple rest >>= fun t => pure (ps.zip us ++ [(pv, t)])))
    (hbody : ∀ (cdv : Value) (A : Around) (outer : List Env) (s : Shared) (H : Hp) (vs : List V) (Q : VK) (E : XK), Room k (A.deeper (envOfC qual (defScope st) s.heap.objs.size f cdv)) → sp vs H Q E →
      ∃ t, PSs (cxOf CX0 P w K mg base N qual (defScope st) f cdv A outer s H E) (defBody st) t ∧ t { nx := fun _ H' => Q .non H', rt := Q } (start N vs) H) :
    FnR P w K mg base CX0 (k + 1) f (fun vs H Q E => ∃ ws rest, vs = ws ++ rest ∧ ws.length = ps.length ∧ rest.length ≤ sizeLine ∧ ∀ p, H p = Option.none → sp (ws ++ [V.ref p]) (upd H p (.tup rest)) Q E) := by
  obtain ⟨oc, od, kV, doc, pm, an, cdv, ct, osl, rfl, lk, hcd⟩ := F.ex
  exact fn_star lk hcd S cxUp_none (hb kV doc pm an cdv ct) fun A outer s H vs Q E hr hsp => hbody cdv A outer s H vs Q E hr hsp
theorem keep_tR {P : Program} {w : World} {K : PySem.W.Frag} {mg : Str → Option Value} {base : Heap} {CX : CXT} {k : Nat} {f : Addr} {sp : Sp} (F : FnR P w K mg base CX k f sp) :
    FnR P w K mg base CX k f (fun vs H Q E => sp vs H (fun v H' => KeepT H H' → Q v H') E) := by
  intro A outer s H us vs Q E hr he hv hs
  refine codeAny_mono (F A outer s H us vs _ E hr he hv hs) fun r s' q => ?_
  cases r with
  | error e => exact q
  | ok fl =>
    cases fl with
    | ret u =>
      obtain ⟨v, H', e1, e2, un, e3, e4, e5⟩ := q
      exact ⟨v, H', e1, e2, un, e3, e4, e5 un.tups⟩
    | next => exact q
    | brk => exact q
    | cont => exact q
section
variable {P : Program} {w : World} {K : PySem.W.Frag} {mg : Str → Option Value} {base : Heap}
theorem scSLet : FnScope ["self", "word", "numbers"] ((["self", "word"] : List Str) ++ (["numbers"] : List Str)) (defScope sSLet) := ⟨rfl, rfl, rfl, by decide +kernel, rfl, by decide +kernel, by decide +kernel⟩
def spSLet (CC CS CL : Addr) : Sp := fun vs H Q _ => ∃ (A B D : Cells) (c : CliH) (s : SurfR) (x : Str) (ns : List V), vs = .ref s.a :: .str x :: ns ∧ Has H (A ++ (cliCells CC c ++ (B ++ (surfCells CS CL s ++ D)))) ∧ s.owner = c.a ∧ ns.length ≤ 10 ∧ c.notes.length < 100000 ∧
  ∀ t H', H' t = some (.tup (.str x :: .int s.name :: ns)) → Has H' (A ++ (cliCells CC (c.heard t) ++ (B ++ (surfCells CS CL s ++ D)))) → Q .non H'
theorem ok_slet {f CC CS CL fH : Addr} {fd fdH : FuncData} (F : Fun K "let_hear" "Surface.let_hear" sSLet f fd) (T : TxtS K mg CS) (TC : TxtC K mg CC) (FH : Fun K "hear" "Client.hear" sCHear fH fdH) (bH : Binds K fdH ["self", "note"] []) (mH : Meth K CC "hear" fH) :
    FnR P w K mg base CX0 2 f (spSLet CC CS CL) := by
  have GH := keep_t (ok_chear (P := P) (w := w) (mg := mg) (base := base) FH TC)
  have G := F.star (P := P) (w := w) (mg := mg) (base := base) (k := 1) (ps := ["self", "word"]) (pv := "numbers") (sp := fun vs H Q _ => ∃ (A B D : Cells) (c : CliH) (s : SurfR) (x : Str) (ns : List V) (p : Addr), vs = [.ref s.a, .str x, .ref p] ∧ H p = some (.tup ns) ∧
      Has H (A ++ (cliCells CC c ++ (B ++ (surfCells CS CL s ++ D)))) ∧ s.owner = c.a ∧ ns.length ≤ 10 ∧ c.notes.length < 100000 ∧
      ∀ t H', H' t = some (.tup (.str x :: .int s.name :: ns)) → Has H' (A ++ (cliCells CC (c.heard t) ++ (B ++ (surfCells CS CL s ++ D)))) → Q .non H') scSLet
    (fun _ _ _ _ _ _ us rest hl => match us, hl, rest with | [_, _], _, [] => rfl | [_, _], _, _ :: _ => rfl) (fun cdv A0 outer s0 H vs Q E hr h => ?_)
  · intro A outer s0 H us vs Q E hr he hv hs
    refine G A outer s0 H us vs Q E hr he hv ?_
    obtain ⟨A, B, D, c, s, x, ns, rfl, hh, ho, hn, hz, k⟩ := hs
    refine ⟨[.ref s.a, .str x], ns, rfl, rfl, small (Nat.le_trans hn (by decide)), fun p hp => ⟨A, B, D, c, s, x, ns, p, rfl, upd_same, hh.past hp _, ho, hn, hz, k⟩⟩
  · obtain ⟨A, B, D, c, s, x, ns, p, rfl, hp, hh, ho, hn, hz, k⟩ := h
    refine ⟨_, pss_one (ps_expr (pe_meth (pe_fld (pv 0) rfl) TC.cl mH GH hr bH .nil pass0 (pa_cons (pe_tup (pa_cons (pv 1) (pa_cons (pe_fld (pv 0) rfl) (pa_star (pv 2) pa_nil)))) pa_nil))), ?_⟩
    have hs0 : H s.a = some (s.obj CS) := (hh.unassoc.unassoc).hd
    refine ⟨_, rfl, s.a, CS, _, _, _, rfl, hs0, T.cl, T.nowner, surfF_owner, c.a, _, _, congrArg V.ref ho, hh.get 0 rfl, by kernel_rfl, _, rfl, _, rfl, s.a, CS, _, _, _, rfl, hs0, T.cl, T.nname, surfF_name, _, rfl, p, ns, rfl, .inl (SqT.of hp), ?_, fun t ht => ?_⟩
    · refine small ?_
      rw [List.length_cons, List.length_cons, List.length_append]
      show ns.length + 0 + 1 + 1 ≤ 1000
      omega
    · refine ⟨A, B ++ (surfCells CS CL s ++ D), c, t, congrArg (fun a => [V.ref a, V.ref t]) ho, hh.past ht _, hz, fun H' h' kt => ?_⟩
      refine k t H' (kt t _ ?_) h'
      rw [upd_same, List.append_nil]
theorem scSTie : FnScope ["self", "other"] ["self", "other"] (defScope sSTie) := ⟨rfl, rfl, rfl, by decide +kernel, rfl, by decide +kernel, by decide +kernel⟩
def spSTie (CS : Addr) : Sp := fun vs H Q _ => ∃ (s t : SurfR), vs = [.ref s.a, .ref t.a] ∧ H s.a = some (s.obj CS) ∧ H t.a = some (t.obj CS) ∧ H t.pa = some (.dK (kvI t.parts)) ∧ s.a ≠ t.a ∧ lkI t.parts s.name = none ∧ t.parts.length ≤ 1000 ∧
  Q .non (upd (upd H s.a ({ s with top := some t.a }.obj CS)) t.pa (.dK (kvI (t.parts ++ [(s.name, s.a)]))))
theorem ok_stie {f CS : Addr} {fd : FuncData} (F : Fun K "tie_to" "Surface.tie_to" sSTie f fd) (T : TxtS K mg CS) : FnOk P w K mg base CX0 1 f fd ["self", "other"] (spSTie CS) := by
  refine F.ok scSTie (fun vs H Q E h => ?_) (fun cdv A outer s H vs Q E hr h => ?_)
  · obtain ⟨s, t, rfl, _⟩ := h
    rfl
  · obtain ⟨s, t, rfl, hs, ht, hp, ne, hl, hz, k⟩ := h
    have hu := hu_of hr
    refine ⟨_, pss_cons (ps_fld (pv 0) (pv 1) rfl) (pss_one (ps_dput hu (pe_fld (pv 1) rfl) (pe_fld (pv 0) rfl) (pv 0) rfl)), ?_⟩
    refine ⟨_, rfl, _, rfl, s.a, CS, _, _, rfl, hs, T.cl, T.ntop, surfF_few, ?_⟩
    have e1 : HO.ins CS s.dx (putF "top" (V.ref t.a) (surfF s.owner s.name s.there (oref s.top) s.pa s.pend.a (oref (s.ready.map (·.a))) (oref (s.shown.map (·.a))) s.newly s.lx s.ly)) = { s with top := some t.a }.obj CS := by
      rw [surfF_ptop]; rfl
    rw [e1]
    have nps : t.pa ≠ s.a := ne_of hp hs (by intro z; cases z)
    refine ⟨_, rfl, _, rfl, t.a, CS, _, _, _, rfl, (upd_ne ne.symm).trans ht, T.cl, T.nparts, surfF_parts, _, rfl, s.a, CS, _, _, _, rfl, upd_same, T.cl, T.nname, surfF_name, t.pa, _, rfl, DPut.k (k := (Sum.inl s.name : Key)) ((upd_ne nps).trans hp) ?_, ?_⟩
    · unfold kvI; rw [List.length_map]; exact small1000 hz
    · rw [putK_new _ (by rw [valV_kvI, hl]; rfl)]
      have e2 : kvI t.parts ++ [((Sum.inl s.name : Key), V.ref s.a)] = kvI (t.parts ++ [(s.name, s.a)]) := by unfold kvI; simp
      rw [e2]
      exact k
end
end SH
set_option Elab.async false
set_option linter.all false
set_option maxRecDepth 100000
namespace SH
open PySem PySem.Spec PyProof.Rows L2
abbrev allCells (CS CL : Addr) (ss : List SurfR) : Cells := ss.flatMap (surfCells CS CL)
theorem split_at {α β : Type} {g : α → List β} {ss : List α} {j : Nat} {u : α} (e : ss[j]? = some u) : ss.flatMap g = (ss.take j).flatMap g ++ (g u ++ (ss.drop (j + 1)).flatMap g) := by
  obtain ⟨h, e⟩ := List.getElem?_eq_some_iff.mp e
  have : ss = ss.take j ++ (u :: ss.drop (j + 1)) := by rw [← e, List.getElem_cons_drop, List.take_append_drop]
  conv => lhs; rw [this]
  rw [List.flatMap_append, List.flatMap_cons]
theorem Has.out {α : Type} {g : α → Cells} {H : Hp} {A B : Cells} {ss : List α} {j : Nat} {u : α} (h : Has H (A ++ (ss.flatMap g ++ B))) (e : ss[j]? = some u) :
    Has H ((A ++ (ss.take j).flatMap g) ++ (g u ++ ((ss.drop (j + 1)).flatMap g ++ B))) := by
  rw [split_at e] at h
  simpa [List.append_assoc] using h
theorem Has.back {α : Type} {g : α → Cells} {H : Hp} {A B : Cells} {ss : List α} {j : Nat} {u v : α} (e : ss[j]? = some u) (h : Has H ((A ++ (ss.take j).flatMap g) ++ (g v ++ ((ss.drop (j + 1)).flatMap g ++ B)))) :
    Has H (A ++ ((ss.set j v).flatMap g ++ B)) := by
  have hj : j < ss.length := (List.getElem?_eq_some_iff.mp e).1
  have e2 : (ss.set j v)[j]? = some v := by rw [List.getElem?_set_self hj]
  rw [split_at e2, List.take_set_of_le (Nat.le_refl _), List.drop_set_of_lt (Nat.lt_succ_self _)]
  simpa [List.append_assoc] using h
def stOf (ss : List SurfR) (a : Addr) : Option SurfR := ss.find? fun s => decide (s.a = a)
theorem stOf_ix {ss : List SurfR} {a : Addr} {s : SurfR} (h : stOf ss a = some s) : s.a = a ∧ ∃ j : Nat, ss[j]? = some s := by
  have h1 := List.mem_of_find?_eq_some h
  have h2 : s.a = a := by have := List.find?_some h; simpa using this
  obtain ⟨j, hj, e⟩ := List.getElem_of_mem h1
  exact ⟨h2, j, by rw [List.getElem?_eq_getElem hj, e]⟩
theorem rs_of {CS CL : Addr} {H : Hp} {A B : Cells} {ss : List SurfR} (h : Has H (A ++ (allCells CS CL ss ++ B))) : RS CS (stOf ss) H := fun a s e => by
  obtain ⟨ea, j, ej⟩ := stOf_ix e
  have g := h.out ej
  exact ⟨ea, by rw [← ea]; exact g.hd, g.get 1 rfl⟩
/-- the same parts at the same places -/
def SameParts (st st' : Addr → Option SurfR) : Prop := ∀ a, (st a).map (·.parts) = (st' a).map (·.parts)
theorem fam_same {st st' : Addr → Option SurfR} (h : SameParts st st') : ∀ d a, fam st d a = fam st' d a
  | 0, _ => rfl
  | d + 1, a => by
    have ha := h a
    show a :: _ = a :: _
    cases e : st a with
    | none =>
      rw [e] at ha
      cases e' : st' a with
      | none => rfl
      | some s' => rw [e'] at ha; cases ha
    | some s =>
      rw [e] at ha
      cases e' : st' a with
      | none => rw [e'] at ha; cases ha
      | some s' =>
        rw [e'] at ha
        have hp : s.parts = s'.parts := Option.some.inj ha
        simp only [hp, fam_same h d]
theorem famOk_same {st st' : Addr → Option SurfR} (h : SameParts st st') : ∀ {d a}, FamOk st d a → FamOk st' d a
  | 0, a, ⟨s, e, hp⟩ => by
    have ha := h a
    rw [e] at ha
    cases e' : st' a with
    | none => rw [e'] at ha; cases ha
    | some s' => rw [e'] at ha; exact ⟨s', e', (Option.some.inj ha).symm.trans hp⟩
  | d + 1, a, ⟨s, e, hl, hp⟩ => by
    have ha := h a
    rw [e] at ha
    cases e' : st' a with
    | none => rw [e'] at ha; cases ha
    | some s' =>
      rw [e'] at ha
      have hq : s.parts = s'.parts := Option.some.inj ha
      exact ⟨s', e', by rw [← hq]; exact hl, fun p hm => famOk_same h (hp p (by rw [hq]; exact hm))⟩
theorem same_set {ss : List SurfR} {j : Nat} {u v : SurfR} (e : ss[j]? = some u) (ha : v.a = u.a) (hp : v.parts = u.parts) : SameParts (stOf ss) (stOf (ss.set j v)) := fun a => by
  induction ss generalizing j with
  | nil => simp at e
  | cons s ss ih =>
    cases j with
    | zero =>
      obtain rfl : s = u := Option.some.inj e
      unfold stOf
      show Option.map _ ((s :: ss).find? _) = Option.map _ ((v :: ss).find? _)
      rw [List.find?_cons, List.find?_cons, ha]
      cases decide (s.a = a) with
      | true => simp [hp]
      | false => rfl
    | succ j =>
      have := ih (j := j) e
      unfold stOf at this ⊢
      show Option.map _ ((s :: ss).find? _) = Option.map _ ((s :: ss.set j v).find? _)
      rw [List.find?_cons, List.find?_cons]
      cases decide (s.a = a) with
      | true => rfl
      | false => exact this
theorem fam_in {st : Addr → Option SurfR} : ∀ {d a}, FamOk st d a → ∀ b ∈ fam st d a, ∃ s, st b = some s
  | 0, a, ⟨s, e, _⟩, b, hb => by rcases List.mem_singleton.mp hb with rfl; exact ⟨s, e⟩
  | d + 1, a, ⟨s, e, _, hp⟩, b, hb => by
    unfold fam at hb
    rw [e] at hb
    rcases List.mem_cons.mp hb with rfl | hb
    · exact ⟨s, e⟩
    · obtain ⟨n, _, hb⟩ := List.mem_flatMap.mp hb
      cases q : lkI s.parts n with
      | none => rw [q] at hb; simp at hb
      | some c => rw [q] at hb; exact fam_in (hp _ (lkI_mem q)) b hb
/-- what show does to a client's surfaces -/
def readyAll (as : List Addr) (ss : List SurfR) : List SurfR := ss.map fun u => if u.a ∈ as then u.showReady else u
def showSS (ss : List SurfR) (i : Nat) (s : SurfR) (l : LookM) : List SurfR :=
  let ss1 := ss.set i { s with ready := some l }
  if s.top = none then readyAll (fam (stOf ss) 2 s.a) ss1 else ss1
theorem showReady_a (s : SurfR) : s.showReady.a = s.a := by unfold SurfR.showReady; split <;> rfl
theorem showReady_idem (s : SurfR) : s.showReady.showReady = s.showReady := by
  unfold SurfR.showReady
  cases h : s.ready with
  | none => simp [h]
  | some l => rfl
theorem readyAll_nil (ss : List SurfR) : readyAll [] ss = ss := by unfold readyAll; simp
theorem readyAll_snoc (as : List Addr) (b : Addr) {ss : List SurfR} (nd : (ss.map (·.a)).Nodup) {j : Nat} {u : SurfR} (e : ss[j]? = some u) (eb : u.a = b) :
    (readyAll as ss).set j (if u.a ∈ as then u.showReady else u).showReady = readyAll (as ++ [b]) ss := by
  have hj : j < ss.length := (List.getElem?_eq_some_iff.mp e).1
  unfold readyAll
  apply List.ext_getElem?
  intro n
  rw [List.getElem?_set]
  by_cases hn : j = n
  · subst hn
    rw [if_pos rfl, if_pos (by simpa using hj), List.getElem?_map, e]
    simp only [Option.map_some, Option.some.injEq, eb, List.mem_append, List.mem_singleton, or_true, if_true]
    split
    · exact showReady_idem u
    · rfl
  · rw [if_neg hn, List.getElem?_map, List.getElem?_map]
    cases en : ss[n]? with
    | none => rfl
    | some v =>
      have hne : v.a ≠ b := fun z => by
        have k1 : (ss.map (·.a))[n]? = some b := by rw [List.getElem?_map, en]; simp [z]
        have k2 : (ss.map (·.a))[j]? = some b := by rw [List.getElem?_map, e]; simp [eb]
        exact hn (nd_ix nd k2 k1)
      simp [hne]
theorem has_nd {CS CL : Addr} {H : Hp} {A B : Cells} : ∀ {ss : List SurfR}, Has H (A ++ (allCells CS CL ss ++ B)) → (ss.map (·.a)).Nodup := fun {ss} h => by
  have h1 : ((allCells CS CL ss).map (·.1)).Nodup := by
    have := h.nd
    rw [List.map_append, List.map_append] at this
    exact (List.nodup_append.mp (List.nodup_append.mp this).2.1).1
  refine List.Sublist.nodup ?_ h1
  clear h h1
  induction ss with
  | nil => exact List.Sublist.slnil
  | cons s ss ih =>
    show (s.a :: ss.map (·.a)).Sublist ((surfCells CS CL s ++ allCells CS CL ss).map (·.1))
    rw [List.map_append]
    show (s.a :: ss.map (·.a)).Sublist (s.a :: (_ ++ _))
    exact List.Sublist.cons₂ _ (ih.trans (List.sublist_append_right _ _))
end SH
set_option Elab.async false
set_option linter.all false
set_option maxRecDepth 100000
namespace SH
open PySem PySem.Spec PyProof.Rows L2
theorem Has.re {H : Hp} {L L' : Cells} (h : Has H L) (e : L = L') : Has H L' := e ▸ h
section
variable {P : Program} {w : World} {K : PySem.W.Frag} {mg : Str → Option Value} {base : Heap}
theorem scSShow : FnScope ["self", "surface"] ["self"] (defScope sSShow) := ⟨rfl, rfl, rfl, by decide +kernel, rfl, by decide +kernel, by decide +kernel⟩
def spSShow (CS CL : Addr) : Sp := fun vs H Q _ => ∃ (A B : Cells) (ss : List SurfR) (i : Nat) (s : SurfR), vs = [.ref s.a] ∧ ss[i]? = some s ∧ Has H (A ++ (allCells CS CL ss ++ B)) ∧ LWf s.pend ∧ (s.top = none → FamOk (stOf ss) 2 s.a) ∧
  ∀ l' H', l'.v = s.pend.v → LWf l' → Has H' (A ++ (allCells CS CL (showSS ss i s l') ++ B)) → Q .non H'
theorem lwf_v {l l' : LookM} (h : l'.v = l.v) (hl : (l.rows.length : Int) = l.high ∧ ∀ r ∈ l.rows, (r.2.length : Int) = l.wide) (wf : LWf l) : LWf l' := by
  have e1 : l'.wide = l.wide := congrArg LookV.wide h
  have e2 : l'.high = l.high := congrArg LookV.high h
  have e3 : l'.marks = l.marks := congrArg LookV.marks h
  refine ⟨by rw [e1]; exact wf.w1, by rw [e1]; exact wf.w2, by rw [e2]; exact wf.h1, by rw [e2]; exact wf.h2, ?_, ?_⟩
  · have := congrArg List.length e3
    unfold LookM.marks at this
    rw [List.length_map, List.length_map] at this
    rw [this, e2]; exact wf.rl
  · intro r hr
    have hm : r.2 ∈ l'.marks := List.mem_map_of_mem hr
    rw [e3] at hm
    obtain ⟨r0, h0, e0⟩ := List.mem_map.mp hm
    rw [← e0, e1]; exact wf.cl r0 h0
theorem ok_sshow {f CS CL fSn fFa fRe fLI : Addr} {fd fdSn fdFa fdRe fdLI : FuncData} (F : Fun K "show" "Surface.show" sSShow f fd) (T : TxtS K mg CS) (TL : TxtL K mg CL)
    (FSn : Fun K "snapshot" "Look.snapshot" sLSnap fSn fdSn) (bSn : Binds K fdSn ["self"] []) (mSn : Meth K CL "snapshot" fSn) (ML : Mk K CL fLI) (FLI : Fun K "__init__" "Look.__init__" sLInit fLI fdLI) (bLI : Binds K fdLI ["self"] [])
    (FFa : Fun K "family" "Surface.family" sSFamily fFa fdFa) (bFa : Binds K fdFa ["self"] []) (mFa : Meth K CS "family" fFa)
    (FRe : Fun K "show_ready" "Surface.show_ready" sSReady fRe fdRe) (bRe : Binds K fdRe ["self"] []) (mRe : Meth K CS "show_ready" fRe) :
    FnOk P w K mg base CX0 4 f fd ["self"] (spSShow CS CL) := by
  have GSn := ok_lsnap (P := P) (w := w) (mg := mg) (base := base) FSn TL ML FLI bLI
  have GFa := ok_sfamily (P := P) (w := w) (mg := mg) (base := base) FFa bFa T mFa 2 (by decide)
  have GRe := ok_sready (P := P) (w := w) (mg := mg) (base := base) (CL := CL) FRe T
  refine F.ok scSShow (fun vs H Q E h => ?_) (fun cdv A0 outer s0 H vs Q E hr h => ?_)
  · obtain ⟨A, B, ss, i, s, rfl, _⟩ := h
    rfl
  · obtain ⟨A, B, ss, i, s, rfl, hi, hh, wf, hfam, k⟩ := h
    refine ⟨_, pss_cons (ps_fld (pv 0) (pe_meth0 (pe_fld (pv 0) rfl) TL.cl mSn GSn hr bSn .nil pass0) rfl)
      (pss_one (ps_if (pt_cmpR op_isN (pe_fld (pv 0) rfl) pe_non (nomark _))
        (pss_one (ps_for PassesOwn.never rfl (pi_list (pe_meth0 (pv 0) T.cl mFa GFa hr bFa .nil pass0)) (pg_name (i := 1) scSShow.nd rfl (Or.inl rfl)) (pss_one (ps_expr (pe_meth0 (pv 1) T.cl mRe GRe (hr.mono (by decide)) bRe .nil pass0))))) pss_nil)), ?_⟩
    have g := hh.out hi
    generalize hA1 : A ++ (ss.take i).flatMap (surfCells CS CL) = A1 at g
    generalize hB1 : (ss.drop (i + 1)).flatMap (surfCells CS CL) ++ B = B1 at g
    have g1 : Has H ((A1 ++ [(s.a, s.obj CS), (s.pa, .dK (kvI s.parts))]) ++ (lookCells CL s.pend ++ ((olook CL s.ready ++ olook CL s.shown) ++ B1))) := g.re (by unfold surfCells; simp [List.append_assoc])
    refine ⟨_, rfl, s.a, CS, _, _, _, rfl, g.hd, T.cl, T.npending, surfF_pending, s.pend.a, _, _, rfl, g1.hd, by kernel_rfl, _, _, s.pend, rfl, g1, wf, fun l' H1 hv g2 => ?_⟩
    have wl : LWf l' := lwf_v hv ⟨wf.rl, wf.cl⟩ wf
    have g3 : Has H1 (A1 ++ ((s.a, s.obj CS) :: (s.pa, .dK (kvI s.parts)) :: (lookCells CL s.pend ++ (lookCells CL l' ++ ((olook CL s.ready ++ olook CL s.shown) ++ B1))))) := g2.re (by simp [List.append_assoc])
    refine ⟨_, rfl, s.a, CS, _, _, rfl, g3.hd, T.cl, T.nready, surfF_few, ?_⟩
    have g4 : Has _ (A1 ++ ((s.a, HO.ins CS s.dx (putF "ready" (V.ref l'.a) (surfF s.owner s.name s.there (oref s.top) s.pa s.pend.a (oref (s.ready.map (·.a))) (oref (s.shown.map (·.a))) s.newly s.lx s.ly))) :: _)) := Has.put g3
    rw [surfF_pready] at g4 ⊢
    have g5 := g4.sub (L' := A1 ++ (surfCells CS CL { s with ready := some l' } ++ B1)) (by
      refine List.Sublist.append_left ?_ A1
      show (_ :: _ :: ((lookCells CL s.pend ++ (lookCells CL l' ++ olook CL s.shown)) ++ B1)).Sublist _
      refine List.Sublist.cons₂ _ (List.Sublist.cons₂ _ ?_)
      simp only [List.append_assoc]
      refine List.Sublist.append_left (List.Sublist.append_left ?_ _) _
      exact List.sublist_append_right _ _)
    have g6 : Has _ (A ++ (allCells CS CL (ss.set i { s with ready := some l' }) ++ B)) := Has.back (v := { s with ready := some l' }) hi (by rw [hA1, hB1]; exact g5)
    refine ⟨_, rfl, s.a, CS, _, _, _, rfl, g5.hd, T.cl, T.ntop, surfF_top, rfl, _, rfl, ?_⟩
    have hsp : SameParts (stOf ss) (stOf (ss.set i { s with ready := some l' })) := same_set hi rfl rfl
    generalize upd H1 s.a _ = H2 at g5 g6 ⊢
    cases et : s.top with
    | some t0 =>
      have e1 : showSS ss i s l' = ss.set i { s with ready := some l' } := by unfold showSS; rw [et]; rfl
      have k := k l'
      rw [e1] at k
      exact k _ hv wl g6
    | none =>
      have e1 : showSS ss i s l' = readyAll (fam (stOf ss) 2 s.a) (ss.set i { s with ready := some l' }) := by unfold showSS; rw [et]; rfl
      have k := k l'
      rw [e1] at k
      have hfam := hfam et
      generalize hss : ss.set i { s with ready := some l' } = ss1 at *
      have hfam1 := famOk_same hsp hfam
      refine ⟨_, rfl, s.a, _, _, rfl, g5.hd, by kernel_rfl, stOf ss1, s.a, rfl, rs_of g6, hfam1, fun p H5 s2 hp0 hp => ?_⟩
      rw [← fam_same hsp] at hp
      generalize hfs : fam (stOf ss) 2 s.a = fs at *
      have nd := has_nd g6
      have g7 : Has H5 ((p, .lst (fs.map V.ref)) :: (A ++ (allCells CS CL ss1 ++ B))) := ⟨fun c hc => by
        rcases List.mem_cons.mp hc with rfl | hc
        · exact hp
        · exact s2 _ _ (g6.ok c hc), List.nodup_cons.mpr ⟨g6.fresh hp0, g6.nd⟩⟩
      refine ⟨p, rfl, ⟨_, SqL.of hp⟩, for_list (K := K) (a := p) (xs := fs.map V.ref) (fun i σ H3 => ∃ v, σ = [some (.ref s.a), v] ∧ Has H3 (((p, .lst (fs.map V.ref)) :: A) ++ (allCells CS CL (readyAll (fs.take i) ss1) ++ B))) ?_ ?_ ?_ ?_⟩
      · refine ⟨none, rfl, ?_⟩
        rw [List.take_zero, readyAll_nil]
        exact g7
      · rintro j σ H3 _ ⟨v, _, h3⟩
        exact SqL.of (h3.ok (p, _) (by simp))
      · rintro j x σ H3 hj ⟨v, rfl, h3⟩
        rw [List.getElem?_map] at hj
        cases ej : fs[j]? with
        | none => rw [ej] at hj; cases hj
        | some b =>
          rw [ej] at hj
          obtain rfl : V.ref b = x := Option.some.inj hj
          have hb : b ∈ fam (stOf ss1) 2 s.a := by rw [← fam_same hsp, hfs]; exact List.mem_of_getElem? ej
          obtain ⟨u, eu⟩ := fam_in hfam1 b hb
          obtain ⟨ea, n, en⟩ := stOf_ix eu
          have en' : (readyAll (fs.take j) ss1)[n]? = some (if u.a ∈ fs.take j then u.showReady else u) := by unfold readyAll; rw [List.getElem?_map, en]; rfl
          have hua : (if u.a ∈ fs.take j then u.showReady else u).a = b := by split <;> simp [showReady_a, ea]
          have h4 := h3.out en'
          refine ⟨_, rfl, b, _, _, rfl, by rw [← hua]; exact h4.hd, by kernel_rfl, _, _, (if u.a ∈ fs.take j then u.showReady else u), congrArg (fun a => [V.ref a]) hua.symm, h4, fun H4 h5 => ⟨_, rfl, ?_⟩⟩
          have h6 := Has.back en' h5
          rw [readyAll_snoc _ b nd en ea] at h6
          rw [List.take_add_one, ej]
          exact h6
      · rintro σ H3 ⟨v, rfl, h3⟩
        refine k H3 hv wl ?_
        rw [List.length_map, List.take_length] at h3
        exact h3.sub (List.sublist_cons_self _ _)
end
end SH
set_option Elab.async false
set_option linter.all false
set_option maxRecDepth 100000
namespace SH
open PySem PySem.Spec PyProof.Rows L2
abbrev sCanTie : Stmt := top 7
abbrev sCanBe : Stmt := top 8
abbrev sChange : Stmt := top 9
abbrev sDrop : Stmt := top 10
abbrev sDo : Stmt := top 11
abbrev sFell : Stmt := top 12
abbrev sFirst : Stmt := top 13
inductive Lt where
  | make (n : Int) | drop (n : Int) | size (n w h : Int) | paint (n x y w h m : Int) | place (n x y : Int) | rank (n r : Int) | veil (n : Int) | unveil (n : Int) | tie (n o : Int) | show (n : Int) | hold (n : Int) | let_
  deriving DecidableEq
def Lt.word : Lt → Str
  | .make _ => "make" | .drop _ => "drop" | .size .. => "size" | .paint .. => "paint" | .place .. => "place" | .rank .. => "rank" | .veil _ => "veil" | .unveil _ => "unveil" | .tie .. => "tie" | .show _ => "show" | .hold _ => "hold" | .let_ => "let"
def Lt.nums : Lt → List Int
  | .make n => [n] | .drop n => [n] | .size n w h => [n, w, h] | .paint n x y w h m => [n, x, y, w, h, m] | .place n x y => [n, x, y] | .rank n r => [n, r] | .veil n => [n] | .unveil n => [n] | .tie n o => [n, o] | .show n => [n] | .hold n => [n] | .let_ => []
def Lt.vals (l : Lt) : List V := .str l.word :: l.nums.map V.int
def Lt.bnds : Lt → List (Int × Int)
  | .make _ => [(0, 9)] | .drop _ => [(0, 9)] | .size .. => [(0, 9), (1, 12), (1, 8)] | .paint .. => [(0, 9), (0, 11), (0, 7), (1, 12), (1, 8), (0, 9)] | .place .. => [(0, 9), (-20, 20), (-20, 20)] | .rank .. => [(0, 9), (0, 9)]
  | .veil _ => [(0, 9)] | .unveil _ => [(0, 9)] | .tie .. => [(0, 9), (0, 9)] | .show _ => [(0, 9)] | .hold _ => [(0, 9)] | .let_ => []
def Lt.ok (l : Lt) : Prop := ∀ p ∈ l.nums.zip l.bnds, p.2.1 ≤ p.1 ∧ p.1 ≤ p.2.2
theorem mNo {lit z : Str} {n : Nat} {is : List (Option Nat)} {tb : TS} {tr : Str → List V → TS} {xs : List V} {D : Ends} {σ : L2.St} {H : Hp} (h : ¬ z = lit) (q : tr z xs D σ H) : mSeq lit n is tb tr z xs D σ H := by
  unfold mSeq; rw [if_neg fun e => h e.1]; exact q
theorem mYes {lit : Str} {n : Nat} {is : List (Option Nat)} {tb : TS} {tr : Str → List V → TS} {xs : List V} {D : Ends} {σ : L2.St} {H : Hp} (h : xs.length = n) (q : tb D (capSet is xs σ) H) : mSeq lit n is tb tr lit xs D σ H := by
  unfold mSeq; rw [if_pos ⟨rfl, h⟩]; exact q
def findN (ss : List SurfR) (n : Int) : Option SurfR := ss.find? fun s => decide (s.name = n)
def sdOf (ss : List SurfR) : List (Int × Addr) := ss.map fun s => (s.name, s.a)
theorem lk_sd (ss : List SurfR) (n : Int) : lkI (sdOf ss) n = (findN ss n).map (·.a) := by
  unfold lkI findN sdOf
  rw [List.find?_map]
  simp [Function.comp_def]
theorem findN_ix {ss : List SurfR} {n : Int} {s : SurfR} (h : findN ss n = some s) : s.name = n ∧ ∃ j : Nat, ss[j]? = some s := by
  have h1 := List.mem_of_find?_eq_some h
  have h2 : s.name = n := by have := List.find?_some h; simpa using this
  obtain ⟨j, hj, e⟩ := List.getElem_of_mem h1
  exact ⟨h2, j, by rw [List.getElem?_eq_getElem hj, e]⟩
def canTieB (ss : List SurfR) (n o : Int) : Bool := if n = o then false else match findN ss o with
  | none => false
  | some ot => match findN ss n with
    | none => false
    | some s => if s.shown.isSome || (s.top.isSome || decide (0 < s.parts.length)) then false else match ot.top with
      | none => true
      | some b => match stOf ss b with
        | some t => t.top.isNone
        | none => false
structure TxtG (mg : Str → Option Value) : Prop where
  len : mg "len" = none
/-- a client and its surfaces are tracked -/
abbrev CHas (CC CS CL : Addr) (H : Hp) (A B : Cells) (c : CliH) (ss : List SurfR) : Prop := Has H (A ++ (cliCells CC c ++ (allCells CS CL ss ++ B)))
def TopsIn (ss : List SurfR) : Prop := ∀ u ∈ ss, ∀ b, u.top = some b → ∃ t, stOf ss b = some t
theorem chas_rs {CC CS CL : Addr} {H : Hp} {A B : Cells} {c : CliH} {ss : List SurfR} (h : CHas CC CS CL H A B c ss) : RS CS (stOf ss) H := rs_of h.unassoc
theorem chas_at {CC CS CL : Addr} {H : Hp} {A B : Cells} {c : CliH} {ss : List SurfR} (h : CHas CC CS CL H A B c ss) {j : Nat} {s : SurfR} (e : ss[j]? = some s) : H s.a = some (s.obj CS) ∧ H s.pa = some (.dK (kvI s.parts)) := by
  have g := h.unassoc.out e
  exact ⟨g.hd, g.get 1 rfl⟩
theorem oref_non (o : Option Addr) : decide (oref o = V.non) = o.isNone := by cases o <;> rfl
theorem dget_sd {H : Hp} {a : Addr} {ss : List SurfR} {n : Int} {s : SurfR} (h : H a = some (.dK (kvI (sdOf ss)))) (e : findN ss n = some s) : DGet H a (.int n) (some (V.ref s.a)) := by
  have := DGet.k (k := (Sum.inl n : Key)) h
  rw [valV_kvI, lk_sd, e] at this
  exact this
section
variable {P : Program} {w : World} {K : PySem.W.Frag} {mg : Str → Option Value} {base : Heap}
abbrev nTie : List Str := ["surfaces", "name", "other", "surface", "above"]
theorem scCanTie : FnScope nTie ["surfaces", "name", "other"] (defScope sCanTie) := ⟨rfl, rfl, rfl, by decide +kernel, rfl, by decide +kernel, by decide +kernel⟩
def spCanTie (CC CS CL : Addr) : Sp := fun vs H Q _ => ∃ (A B : Cells) (c : CliH) (ss : List SurfR) (n o : Int) (s : SurfR), vs = [.ref c.sa, .int n, .int o] ∧ CHas CC CS CL H A B c ss ∧ c.sd = sdOf ss ∧ findN ss n = some s ∧ TopsIn ss ∧
  Q (.bl (canTieB ss n o)) H
theorem ok_canTie {f CC CS CL : Addr} {fd : FuncData} (F : Fun K "can_tie" "can_tie" sCanTie f fd) (T : TxtS K mg CS) (TG : TxtG mg) : FnOk P w K mg base CX0 1 f fd ["surfaces", "name", "other"] (spCanTie CC CS CL) := by
  refine F.ok scCanTie (fun vs H Q E h => ?_) (fun cdv A0 outer s0 H vs Q E hr h => ?_)
  · obtain ⟨A, B, c, ss, n, o, s, rfl, _⟩ := h
    rfl
  · obtain ⟨A, B, c, ss, n, o, s, rfl, hh, hsd, hn, ht, k⟩ := h
    have hu := hu_of hr
    have hd : H c.sa = some (.dK (kvI (sdOf ss))) := by rw [← hsd]; exact hh.get 2 rfl
    obtain ⟨_, js, ejs⟩ := findN_ix hn
    obtain ⟨hs, hp⟩ := chas_at hh ejs
    refine ⟨_, pss_cons (ps_if (PW.pt (pw_or (pt_cmpR op_eq (pv 1) (pv 2) (nomark _)) (pw_or1 (pt_cmp (pc_dnotin hu (pv 2) (pv 0)))))) (pss_one (ps_ret pe_bl)) pss_nil)
      (pss_cons (ps_set (i := 3) scCanTie.nd rfl (Or.inl rfl) (pe_dget hu (pv 0) (pv 1) (fun _ _ => rfl)))
      (pss_cons (ps_if (PW.pt (pw_or (pt_cmpR op_notN (pe_fld (pv 3) rfl) pe_non (nomark _)) (pw_or (pt_cmpR op_notN (pe_fld (pv 3) rfl) pe_non (nomark _)) (pw_or1 (pt_cmpR op_gt (pe_callB call_lenD (by rfl) TG.len PySem.boot_len (pa_cons (pe_fld (pv 3) rfl) pa_nil)) pe_int (nomark _)))))) (pss_one (ps_ret pe_bl)) pss_nil)
      (pss_cons (ps_set (i := 4) scCanTie.nd rfl (Or.inl rfl) (pe_fld (pe_dget hu (pv 0) (pv 2) (fun _ _ => rfl)) rfl))
      (pss_one (ps_ret (pe_or (pe_cmpR op_isN (pv 4) pe_non (nomark _)) (pe_one (pe_cmpR op_isN (pe_fld (pv 4) rfl) pe_non (nomark _))))))))), ?_⟩
    refine ⟨_, rfl, _, rfl, rfl, _, rfl, ?_⟩
    by_cases hno : n = o
    · have e1 : canTieB ss n o = false := by unfold canTieB; rw [if_pos hno]
      rw [e1] at k
      rw [decide_eq_true (by rw [hno])]
      exact k
    · rw [decide_eq_false (p := V.int n = V.int o) (fun z => hno (V.int.inj z))]
      refine iteF ?_
      have hdg := DGet.k (k := (Sum.inl o : Key)) hd
      rw [valV_kvI, lk_sd] at hdg
      refine ⟨_, rfl, _, rfl, c.sa, _, rfl, hdg, _, rfl, ?_⟩
      cases eo : findN ss o with
      | none =>
        have e1 : canTieB ss n o = false := by unfold canTieB; rw [if_neg hno, eo]
        rw [e1] at k
        exact k
      | some ot =>
        have e1 : canTieB ss n o = if s.shown.isSome || (s.top.isSome || decide (0 < s.parts.length)) then false else match ot.top with | none => true | some b => match stOf ss b with | some t => t.top.isNone | none => false := by unfold canTieB; rw [if_neg hno, eo, hn]
        rw [e1] at k
        obtain ⟨_, jo, ejo⟩ := findN_ix eo
        obtain ⟨ho, _⟩ := chas_at hh ejo
        refine iteF ?_
        refine ⟨_, rfl, _, rfl, c.sa, V.ref s.a, rfl, dget_sd hd hn, ?_⟩
        refine ⟨_, rfl, s.a, CS, _, _, _, rfl, hs, T.cl, T.nshown, surfF_shown, rfl, _, rfl, ?_⟩
        rw [oref_non]
        cases es : s.shown with
        | some l =>
          rw [es] at k
          exact k
        | none =>
          rw [es] at k
          refine iteF ?_
          refine ⟨_, rfl, s.a, CS, _, _, _, rfl, hs, T.cl, T.ntop, surfF_top, rfl, _, rfl, ?_⟩
          rw [oref_non]
          cases et : s.top with
          | some l =>
            rw [et] at k
            exact k
          | none =>
            rw [et] at k
            refine iteF ?_
            refine ⟨_, rfl, s.a, CS, _, _, _, rfl, hs, T.cl, T.nparts, surfF_parts, s.pa, kvI s.parts, rfl, hp, _, _, rfl, rfl, _, rfl, ?_⟩
            have ek : (kvI s.parts).length = s.parts.length := by unfold kvI; rw [List.length_map]
            by_cases hp0 : 0 < s.parts.length
            · have e3 : decide ((0 : Int) < ((kvI s.parts).length : Int)) = true := decide_eq_true (by rw [ek]; omega)
              rw [e3]
              rw [decide_eq_true hp0] at k
              exact k
            · have e3 : decide ((0 : Int) < ((kvI s.parts).length : Int)) = false := decide_eq_false (by rw [ek]; omega)
              rw [e3]
              rw [decide_eq_false hp0] at k
              refine iteF ?_
              refine ⟨_, rfl, _, rfl, c.sa, V.ref ot.a, rfl, dget_sd hd eo, ot.a, CS, _, _, _, rfl, ho, T.cl, T.ntop, surfF_top, ?_⟩
              refine ⟨_, rfl, rfl, _, rfl, ?_⟩
              rw [oref_non]
              cases eot : ot.top with
              | none => rw [eot] at k; exact k
              | some b =>
                rw [eot] at k
                refine iteF ?_
                obtain ⟨t, et0⟩ := ht ot (List.mem_of_getElem? ejo) b eot
                obtain ⟨ea, hb, _⟩ := chas_rs hh b t et0
                simp only [et0] at k
                refine ⟨_, rfl, b, CS, _, _, _, rfl, hb, T.cl, T.ntop, surfF_top, rfl, ?_⟩
                rw [oref_non]
                exact k
end
end SH
set_option Elab.async false
set_option linter.all false
set_option maxRecDepth 100000
namespace SH
open PySem PySem.Spec PyProof.Rows L2
def canBeB (ss : List SurfR) : Lt → Bool
  | .let_ => true
  | .make n => (findN ss n).isNone
  | .paint n x y w h _ => match findN ss n with
    | none => false
    | some s => decide (x + w ≤ s.pend.wide) && decide (y + h ≤ s.pend.high)
  | .tie n o => match findN ss n with
    | none => false
    | some _ => canTieB ss n o
  | .drop n => (findN ss n).isSome
  | .size n _ _ => (findN ss n).isSome
  | .place n _ _ => (findN ss n).isSome
  | .rank n _ => (findN ss n).isSome
  | .veil n => (findN ss n).isSome
  | .unveil n => (findN ss n).isSome
  | .show n => (findN ss n).isSome
  | .hold n => (findN ss n).isSome
theorem sq_t {K : PySem.W.Frag} {H : Hp} {t : Addr} {xs : List V} (h : H t = some (.tup xs)) : SqT K H t xs := SqT.of h
/-- the reading of «letter[1] in surfaces» -/
theorem in_sd {H : Hp} {a : Addr} {ss : List SurfR} {n : Int} (h : H a = some (.dK (kvI (sdOf ss)))) : ∃ r, DGet H a (.int n) r ∧ r.isSome = (findN ss n).isSome := by
  have := DGet.k (k := (Sum.inl n : Key)) h
  rw [valV_kvI, lk_sd] at this
  exact ⟨_, this, by cases findN ss n <;> rfl⟩
section
variable {P : Program} {w : World} {K : PySem.W.Frag} {mg : Str → Option Value} {base : Heap}
abbrev nBe : List Str := ["surfaces", "letter", "name", "x", "y", "wide", "high", "other"]
theorem scCanBe : FnScope nBe ["surfaces", "letter"] (defScope sCanBe) := ⟨rfl, rfl, rfl, by decide +kernel, rfl, by decide +kernel, by decide +kernel⟩
def spCanBe (CC CS CL : Addr) : Sp := fun vs H Q _ => ∃ (A B : Cells) (c : CliH) (ss : List SurfR) (t : Addr) (l : Lt), vs = [.ref c.sa, .ref t] ∧ CHas CC CS CL H A B c ss ∧ c.sd = sdOf ss ∧ TopsIn ss ∧ H t = some (.tup l.vals) ∧
  Q (.bl (canBeB ss l)) H
theorem ok_canBe {f CC CS CL fT fH : Addr} {fd fdT fdH : FuncData} (F : Fun K "can_be" "can_be" sCanBe f fd) (T : TxtS K mg CS) (TL : TxtL K mg CL) (TG : TxtG mg)
    (FT : Fun K "can_tie" "can_tie" sCanTie fT fdT) (bT : Binds K fdT ["surfaces", "name", "other"] []) (gT : mg "can_tie" = some (.ref fT))
    (FH : Fun K "has_cells" "Look.has_cells" sLHas fH fdH) (bH : Binds K fdH ["self", "x", "y", "wide", "high"] []) (mH : Meth K CL "has_cells" fH) :
    FnOk P w K mg base CX0 2 f fd ["surfaces", "letter"] (spCanBe CC CS CL) := by
  have GT := ok_canTie (P := P) (w := w) (mg := mg) (base := base) (CC := CC) (CL := CL) FT T TG
  have GH := ok_lhas (P := P) (w := w) (mg := mg) (base := base) FH TL
  refine F.ok scCanBe (fun vs H Q E h => ?_) (fun cdv A0 outer s0 H vs Q E hr h => ?_)
  · obtain ⟨A, B, c, ss, t, l, rfl, _⟩ := h
    rfl
  · obtain ⟨A, B, c, ss, t, l, rfl, hh, hsd, ht, hl, k⟩ := h
    have hu := hu_of hr
    have hd : H c.sa = some (.dK (kvI (sdOf ss))) := by rw [← hsd]; exact hh.get 2 rfl
    refine ⟨_, pss_one (ps_match (pv 1) <| pcs_seq rfl .nil (pss_one (ps_ret pe_bl)) <|
      pcs_seq rfl (.cap (i := 2) scCanBe.nd rfl (Or.inl rfl) (Or.inr rfl) .nil) (pss_one (ps_ret (pe_cmp (pc_dnotin hu (pv 2) (pv 0))))) <|
      pcs_seq rfl (.cap (i := 2) scCanBe.nd rfl (Or.inl rfl) (Or.inr rfl) <| .cap (i := 3) scCanBe.nd rfl (Or.inl rfl) (Or.inr rfl) <| .cap (i := 4) scCanBe.nd rfl (Or.inl rfl) (Or.inr rfl) <| .cap (i := 5) scCanBe.nd rfl (Or.inl rfl) (Or.inr rfl) <| .cap (i := 6) scCanBe.nd rfl (Or.inl rfl) (Or.inr rfl) <| .wild .nil)
        (pss_one (ps_ret (pe_and (pe_cmp (pc_din hu (pv 2) (pv 0))) (pe_one (pe_meth (pe_fld (pe_dget hu (pv 0) (pv 2) (fun _ _ => rfl)) rfl) TL.cl mH GH (hr.mono (by decide)) bH .nil pass0 (pa_cons (pv 3) (pa_cons (pv 4) (pa_cons (pv 5) (pa_cons (pv 6) pa_nil))))))))) <|
      pcs_seq rfl (.cap (i := 2) scCanBe.nd rfl (Or.inl rfl) (Or.inr rfl) <| .cap (i := 7) scCanBe.nd rfl (Or.inl rfl) (Or.inr rfl) .nil)
        (pss_one (ps_ret (pe_and (pe_cmp (pc_din hu (pv 2) (pv 0))) (pe_one (pe_call GT hr rfl gT FT.kp bT .nil pass0 (pa_cons (pv 0) (pa_cons (pv 2) (pa_cons (pv 7) pa_nil)))))))) <|
      pcs_any (rest := []) (pss_one (ps_ret (pe_cmp (pc_din hu (pe_ix ix_tup (pv 1) pe_int (fun _ _ => rfl)) (pv 0)))))), ?_⟩
    refine ⟨_, rfl, t, l.word, l.nums.map V.int, rfl, sq_t hl, ?_⟩
    cases l with
    | let_ => exact mYes rfl k
    | make n =>
      refine mNo (by dsimp only [Lt.word]; decide +kernel) (mYes rfl ?_)
      obtain ⟨r, h1, h2⟩ := in_sd (n := n) hd
      refine ⟨_, rfl, _, rfl, c.sa, r, rfl, h1, ?_⟩
      have e : canBeB ss (.make n) = !r.isSome := by show (findN ss n).isNone = _; rw [h2]; cases findN ss n <;> rfl
      rw [e] at k
      exact k
    | paint n x y wd hi m =>
      refine mNo (by dsimp only [Lt.word]; decide +kernel) (mNo (by dsimp only [Lt.word]; decide +kernel) (mYes rfl ?_))
      obtain ⟨r, h1, h2⟩ := in_sd (n := n) hd
      refine ⟨_, rfl, _, rfl, c.sa, r, rfl, h1, _, rfl, ?_⟩
      rw [h2]
      cases e : findN ss n with
      | none =>
        have e1 : canBeB ss (.paint n x y wd hi m) = false := by unfold canBeB; simp only [e]
        rw [e1] at k
        exact k
      | some s =>
        have e1 : canBeB ss (.paint n x y wd hi m) = (decide (x + wd ≤ s.pend.wide) && decide (y + hi ≤ s.pend.high)) := by show (match findN ss n with | none => false | some s => _) = _; rw [e]
        rw [e1] at k
        refine iteT ?_
        obtain ⟨_, j, ej⟩ := findN_ix e
        have hs := (chas_at hh ej).1
        have g := hh.unassoc.out ej
        have g1 : Has H ((((A ++ cliCells CC c) ++ (ss.take j).flatMap (surfCells CS CL)) ++ [(s.a, s.obj CS), (s.pa, .dK (kvI s.parts))]) ++ (lookCells CL s.pend ++ ((olook CL s.ready ++ olook CL s.shown) ++ ((ss.drop (j + 1)).flatMap (surfCells CS CL) ++ B)))) := g.re (by unfold surfCells; simp [List.append_assoc])
        refine ⟨_, rfl, _, rfl, c.sa, V.ref s.a, rfl, dget_sd hd e, s.a, CS, _, _, _, rfl, hs, T.cl, T.npending, surfF_pending, s.pend.a, _, _, rfl, g1.hd, by kernel_rfl, _, rfl, _, rfl, _, rfl, _, rfl, _, _, s.pend, x, y, wd, hi, rfl, g1, k⟩
    | tie n o =>
      refine mNo (by dsimp only [Lt.word]; decide +kernel) (mNo (by dsimp only [Lt.word]; decide +kernel) (mNo (by dsimp only [Lt.word]; decide +kernel) (mYes rfl ?_)))
      obtain ⟨r, h1, h2⟩ := in_sd (n := n) hd
      refine ⟨_, rfl, _, rfl, c.sa, r, rfl, h1, _, rfl, ?_⟩
      rw [h2]
      cases e : findN ss n with
      | none =>
        have e1 : canBeB ss (.tie n o) = false := by unfold canBeB; simp only [e]
        rw [e1] at k
        exact k
      | some s =>
        have e1 : canBeB ss (.tie n o) = canTieB ss n o := by show (match findN ss n with | none => false | some s => _) = _; rw [e]
        rw [e1] at k
        refine iteT ?_
        exact ⟨_, rfl, _, rfl, _, rfl, A, B, c, ss, n, o, s, rfl, hh, hsd, e, ht, k⟩
    | _ =>
      refine mNo (by dsimp only [Lt.word]; decide +kernel) (mNo (by dsimp only [Lt.word]; decide +kernel) (mNo (by dsimp only [Lt.word]; decide +kernel) (mNo (by dsimp only [Lt.word]; decide +kernel) ?_)))
      obtain ⟨r, h1, h2⟩ := in_sd hd
      refine ⟨_, rfl, _, _, _, _, rfl, rfl, sq_t hl, rfl, _, rfl, c.sa, r, rfl, h1, ?_⟩
      rw [h2]
      exact k
end
end SH
set_option Elab.async false
set_option linter.all false
set_option maxRecDepth 100000
namespace SH
open PySem PySem.Spec PyProof.Rows L2
def chLook : Lt → LookV → LookV
  | .size _ w h, v => { v with wide := w, high := h, marks := resizeMs v.marks w h }
  | .paint _ x y w h m, v => { v with marks := fillMs v.marks x y w h m }
  | .place _ x y, v => { v with x := x, y := y }
  | .rank _ r, v => { v with rank := r }
  | .veil _, v => { v with veiled := true }
  | .unveil _, v => { v with veiled := false }
  | _, v => v
/-- a letter's paint lies within -/
def Fits : Lt → LookV → Prop
  | .paint _ x y w h _, v => x + w ≤ v.wide ∧ y + h ≤ v.high
  | _, _ => True
section
variable {P : Program} {w : World} {K : PySem.W.Frag} {mg : Str → Option Value} {base : Heap}
abbrev nCh : List Str := ["look", "letter", "wide", "high", "x", "y", "mark", "rank"]
theorem scCh : FnScope nCh ["look", "letter"] (defScope sChange) := ⟨rfl, rfl, rfl, by decide +kernel, rfl, by decide +kernel, by decide +kernel⟩
def spCh (CL : Addr) : Sp := fun vs H Q _ => ∃ (A B : Cells) (l : LookM) (t : Addr) (z : Lt), vs = [.ref l.a, .ref t] ∧ Has H (A ++ (lookCells CL l ++ B)) ∧ LWf l ∧ H t = some (.tup z.vals) ∧ z.ok ∧ Fits z l.v ∧
  ∀ l' H', l'.a = l.a → l'.v = chLook z l.v → LWf l' → Has H' (A ++ (lookCells CL l' ++ B)) → Q .non H'
theorem ok_ch {f CL fR fF fM : Addr} {fd fdR fdF fdM : FuncData} (F : Fun K "change_look" "change_look" sChange f fd) (TL : TxtL K mg CL)
    (FR : Fun K "resize" "Look.resize" sLResize fR fdR) (bR : Binds K fdR ["self", "wide", "high"] []) (mR : Meth K CL "resize" fR)
    (FF : Fun K "fill" "Look.fill" sLFill fF fdF) (bF : Binds K fdF ["self", "x", "y", "wide", "high", "mark"] []) (mF : Meth K CL "fill" fF)
    (FM : Fun K "mark_at" "Look.mark_at" sLMark fM fdM) (bM : Binds K fdM ["self", "x", "y"] []) (mM : Meth K CL "mark_at" fM) :
    FnOk P w K mg base CX0 3 f fd ["look", "letter"] (spCh CL) := by
  have GR := ok_lresize (P := P) (w := w) (mg := mg) (base := base) FR TL FM bM mM
  have GF := ok_lfill (P := P) (w := w) (mg := mg) (base := base) FF TL
  refine F.ok scCh (fun vs H Q E h => ?_) (fun cdv A0 outer s0 H vs Q E hr h => ?_)
  · obtain ⟨A, B, l, t, z, rfl, _⟩ := h
    rfl
  · obtain ⟨A, B, l, t, z, rfl, hh, wf, hl, hz, hf, k⟩ := h
    have cap : ∀ {i : Nat} {x : Str}, nCh[i]? = some x → True := fun _ => trivial
    refine ⟨_, pss_one (ps_match (pv 1) <|
      pcs_seq rfl (.wild <| .cap (i := 2) scCh.nd rfl (Or.inl rfl) (Or.inr rfl) <| .cap (i := 3) scCh.nd rfl (Or.inl rfl) (Or.inr rfl) .nil)
        (pss_one (ps_expr (pe_meth (pv 0) TL.cl mR GR hr bR .nil pass0 (pa_cons (pv 2) (pa_cons (pv 3) pa_nil))))) <|
      pcs_seq rfl (.wild <| .cap (i := 4) scCh.nd rfl (Or.inl rfl) (Or.inr rfl) <| .cap (i := 5) scCh.nd rfl (Or.inl rfl) (Or.inr rfl) <| .cap (i := 2) scCh.nd rfl (Or.inl rfl) (Or.inr rfl) <| .cap (i := 3) scCh.nd rfl (Or.inl rfl) (Or.inr rfl) <| .cap (i := 6) scCh.nd rfl (Or.inl rfl) (Or.inr rfl) .nil)
        (pss_one (ps_expr (pe_meth (pv 0) TL.cl mF GF (hr.mono (by decide)) bF .nil pass0 (pa_cons (pv 4) (pa_cons (pv 5) (pa_cons (pv 2) (pa_cons (pv 3) (pa_cons (pv 6) pa_nil)))))))) <|
      pcs_seq rfl (.wild <| .cap (i := 4) scCh.nd rfl (Or.inl rfl) (Or.inr rfl) <| .cap (i := 5) scCh.nd rfl (Or.inl rfl) (Or.inr rfl) .nil)
        (pss_cons (ps_fld (pv 0) (pv 4) rfl) (pss_one (ps_fld (pv 0) (pv 5) rfl))) <|
      pcs_seq rfl (.wild <| .cap (i := 7) scCh.nd rfl (Or.inl rfl) (Or.inr rfl) .nil) (pss_one (ps_fld (pv 0) (pv 7) rfl)) <|
      pcs_seq rfl (.wild .nil) (pss_one (ps_fld (pv 0) pe_bl rfl)) <|
      pcs_seq rfl (.wild .nil) (pss_one (ps_fld (pv 0) pe_bl rfl)) pcs_nil), ?_⟩
    refine ⟨_, rfl, t, z.word, z.nums.map V.int, rfl, sq_t hl, ?_⟩
    cases z with
    | size n wd hi =>
      have b1 := hz (wd, (1, 12)) (by simp [Lt.nums, Lt.bnds])
      have b2 := hz (hi, (1, 8)) (by simp [Lt.nums, Lt.bnds])
      refine mYes rfl ?_
      exact ⟨_, rfl, l.a, _, _, rfl, hh.hd, by kernel_rfl, _, rfl, _, rfl, A, B, l, wd, hi, rfl, hh, wf, b1.1, b1.2, b2.1, b2.2, k⟩
    | paint n x y wd hi m =>
      have b1 := hz (x, (0, 11)) (by simp [Lt.nums, Lt.bnds])
      have b2 := hz (y, (0, 7)) (by simp [Lt.nums, Lt.bnds])
      have b3 := hz (wd, (1, 12)) (by simp [Lt.nums, Lt.bnds])
      have b4 := hz (hi, (1, 8)) (by simp [Lt.nums, Lt.bnds])
      refine mNo (by dsimp only [Lt.word]; decide +kernel) (mYes rfl ?_)
      refine ⟨_, rfl, l.a, _, _, rfl, hh.hd, by kernel_rfl, _, rfl, _, rfl, _, rfl, _, rfl, _, rfl, A, B, l, x, y, wd, hi, m, rfl, hh, wf, b1.1, b2.1, by have := b3.1; simp at this; omega, by have := b4.1; simp at this; omega, hf.1, hf.2, k⟩
    | place n x y =>
      refine mNo (by dsimp only [Lt.word]; decide +kernel) (mNo (by dsimp only [Lt.word]; decide +kernel) (mYes rfl ?_))
      refine ⟨_, rfl, _, rfl, l.a, CL, _, _, rfl, hh.hd, TL.cl, TL.nx, lookF_few, ?_⟩
      have h1 : Has _ (A ++ ((l.a, HO.ins CL l.dx (putF "x" (.int x) (lookF l.ma l.wide l.high l.x l.y l.rank l.veiled))) :: _)) := Has.put hh
      rw [lookF_px] at h1 ⊢
      refine ⟨_, rfl, _, rfl, l.a, CL, _, _, rfl, h1.hd, TL.cl, TL.ny, lookF_few, ?_⟩
      have h2 := h1.put (f := "y") (v := .int y)
      rw [lookF_py] at h2 ⊢
      exact k { l with x := x, y := y } _ rfl rfl ⟨wf.w1, wf.w2, wf.h1, wf.h2, wf.rl, wf.cl⟩ h2
    | rank n r =>
      refine mNo (by dsimp only [Lt.word]; decide +kernel) (mNo (by dsimp only [Lt.word]; decide +kernel) (mNo (by dsimp only [Lt.word]; decide +kernel) (mYes rfl ?_)))
      refine ⟨_, rfl, _, rfl, l.a, CL, _, _, rfl, hh.hd, TL.cl, TL.nrank, lookF_few, ?_⟩
      have h1 : Has _ (A ++ ((l.a, HO.ins CL l.dx (putF "rank" (.int r) (lookF l.ma l.wide l.high l.x l.y l.rank l.veiled))) :: _)) := Has.put hh
      rw [lookF_prank] at h1 ⊢
      exact k { l with rank := r } _ rfl rfl ⟨wf.w1, wf.w2, wf.h1, wf.h2, wf.rl, wf.cl⟩ h1
    | veil n =>
      refine mNo (by dsimp only [Lt.word]; decide +kernel) (mNo (by dsimp only [Lt.word]; decide +kernel) (mNo (by dsimp only [Lt.word]; decide +kernel) (mNo (by dsimp only [Lt.word]; decide +kernel) (mYes rfl ?_))))
      refine ⟨_, rfl, l.a, CL, _, _, rfl, hh.hd, TL.cl, TL.nveiled, lookF_few, ?_⟩
      have h1 : Has _ (A ++ ((l.a, HO.ins CL l.dx (putF "veiled" (.bl true) (lookF l.ma l.wide l.high l.x l.y l.rank l.veiled))) :: _)) := Has.put hh
      rw [lookF_pveiled] at h1 ⊢
      exact k { l with veiled := true } _ rfl rfl ⟨wf.w1, wf.w2, wf.h1, wf.h2, wf.rl, wf.cl⟩ h1
    | unveil n =>
      refine mNo (by dsimp only [Lt.word]; decide +kernel) (mNo (by dsimp only [Lt.word]; decide +kernel) (mNo (by dsimp only [Lt.word]; decide +kernel) (mNo (by dsimp only [Lt.word]; decide +kernel) (mNo (by dsimp only [Lt.word]; decide +kernel) (mYes rfl ?_)))))
      refine ⟨_, rfl, l.a, CL, _, _, rfl, hh.hd, TL.cl, TL.nveiled, lookF_few, ?_⟩
      have h1 : Has _ (A ++ ((l.a, HO.ins CL l.dx (putF "veiled" (.bl false) (lookF l.ma l.wide l.high l.x l.y l.rank l.veiled))) :: _)) := Has.put hh
      rw [lookF_pveiled] at h1 ⊢
      exact k { l with veiled := false } _ rfl rfl ⟨wf.w1, wf.w2, wf.h1, wf.h2, wf.rl, wf.cl⟩ h1
    | _ =>
      refine mNo (by dsimp only [Lt.word]; decide +kernel) (mNo (by dsimp only [Lt.word]; decide +kernel) (mNo (by dsimp only [Lt.word]; decide +kernel) (mNo (by dsimp only [Lt.word]; decide +kernel) (mNo (by dsimp only [Lt.word]; decide +kernel) (mNo (by dsimp only [Lt.word]; decide +kernel) ?_)))))
      exact k l H rfl rfl wf hh
end
end SH
set_option Elab.async false
set_option linter.all false
set_option maxRecDepth 100000
namespace SH
open PySem PySem.Spec PyProof.Rows L2
/-- what a letter that can be does to a client's surfaces (not drop, hold, let) -/
inductive StepR (ow : Addr) (ss : List SurfR) : Lt → List SurfR → Prop
  | make {n : Int} {a dx pa : Addr} {l : LookM} (hv : l.v = look0) (wf : LWf l) : StepR ow ss (.make n) (ss ++ [⟨a, dx, pa, ow, n, true, none, [], l, none, none, false, 0, 0⟩])
  | tie {n o : Int} {i j : Nat} {s t : SurfR} (hi : ss[i]? = some s) (hj : ss[j]? = some t) (hn : findN ss n = some s) (ho : findN ss o = some t) : StepR ow ss (.tie n o) ((ss.set i { s with top := some t.a }).set j { t with parts := t.parts ++ [(s.name, s.a)] })
  | show {n : Int} {i : Nat} {s : SurfR} {l : LookM} (hi : ss[i]? = some s) (hn : findN ss n = some s) (hv : l.v = s.pend.v) (wf : LWf l) : StepR ow ss (.show n) (showSS ss i s l)
  | look {z : Lt} {n : Int} {i : Nat} {s : SurfR} {l : LookM} (hz : ∃ r, z.nums = n :: r) (hw : z.word = "size" ∨ z.word = "paint" ∨ z.word = "place" ∨ z.word = "rank" ∨ z.word = "veil" ∨ z.word = "unveil") (hi : ss[i]? = some s) (hn : findN ss n = some s)
      (ha : l.a = s.pend.a) (hv : l.v = chLook z s.pend.v) (wf : LWf l) : StepR ow ss z (ss.set i { s with pend := l })
structure CWf (c : CliH) (ss : List SurfR) : Prop where
  sd : c.sd = sdOf ss
  pend : ∀ s ∈ ss, LWf s.pend
  tops : TopsIn ss
  fams : ∀ s ∈ ss, s.top = none → FamOk (stOf ss) 2 s.a
  parts : ∀ t ∈ ss, ∀ p ∈ t.parts, ∃ s ∈ ss, s.name = p.1 ∧ s.a = p.2 ∧ s.top = some t.a
  plen : ∀ s ∈ ss, s.parts.length ≤ 10
  slen : ss.length ≤ 10
  nn : (ss.map (·.name)).Nodup
theorem sdOf_set {ss : List SurfR} {i : Nat} {s s' : SurfR} (e : ss[i]? = some s) (h1 : s'.name = s.name) (h2 : s'.a = s.a) : sdOf (ss.set i s') = sdOf ss := by
  unfold sdOf
  apply List.ext_getElem?
  intro n
  rw [List.getElem?_map, List.getElem?_map, List.getElem?_set]
  by_cases hn : i = n
  · subst hn
    rw [if_pos rfl, if_pos (List.getElem?_eq_some_iff.mp e).1, e]
    simp [h1, h2]
  · rw [if_neg hn]
theorem sdOf_readyAll (as : List Addr) (ss : List SurfR) : sdOf (readyAll as ss) = sdOf ss := by
  unfold sdOf readyAll
  rw [List.map_map]
  apply List.map_congr_left
  intro s _
  simp only [Function.comp_def]
  split
  · unfold SurfR.showReady; split <;> rfl
  · rfl
theorem sdOf_show {ss : List SurfR} {i : Nat} {s : SurfR} {l : LookM} (e : ss[i]? = some s) : sdOf (showSS ss i s l) = sdOf ss := by
  unfold showSS
  dsimp only
  split
  · rw [sdOf_readyAll, sdOf_set (s' := { s with ready := some l }) e rfl rfl]
  · exact sdOf_set e rfl rfl
theorem cli_sd {CC : Addr} {c : CliH} {sd : List (Int × Addr)} (h : c.sd = sd) : cliCells CC { c with sd := sd } = cliCells CC c := by subst h; rfl
section
variable {P : Program} {w : World} {K : PySem.W.Frag} {mg : Str → Option Value} {base : Heap}
abbrev nDo : List Str := ["client", "hands", "letter", "surfaces", "name", "other"]
theorem scDo : FnScope nDo ["client", "hands", "letter"] (defScope sDo) := ⟨rfl, rfl, rfl, by decide +kernel, rfl, by decide +kernel, by decide +kernel⟩
def Lt.soft : Lt → Prop
  | .drop _ => False | .hold _ => False | .let_ => False | _ => True
def spDo (CC CS CL : Addr) : Sp := fun vs H Q _ => ∃ (A B : Cells) (c : CliH) (ss : List SurfR) (hd : V) (t : Addr) (z : Lt), vs = [.ref c.a, hd, .ref t] ∧ CHas CC CS CL H A B c ss ∧ CWf c ss ∧ H t = some (.tup z.vals) ∧ z.ok ∧ z.soft ∧ canBeB ss z = true ∧
  ∀ ss' H', StepR c.a ss z ss' → CHas CC CS CL H' A B { c with sd := sdOf ss' } ss' → Q .non H'
structure DoEnv (P : Program) (w : World) (K : PySem.W.Frag) (mg : Str → Option Value) (base : Heap) (CC CS CL : Addr) where
  fSI : Addr
  fdSI : FuncData
  MS : Mk K CS fSI
  GS : FnOk P w K mg base CX0 3 fSI fdSI ["self", "owner", "name"] (spSInit CS CL)
  bS : Binds K fdSI ["self", "owner", "name"] []
  fTi : Addr
  fdTi : FuncData
  GTi : FnOk P w K mg base CX0 1 fTi fdTi ["self", "other"] (spSTie CS)
  bTi : Binds K fdTi ["self", "other"] []
  mTi : Meth K CS "tie_to" fTi
  fSh : Addr
  fdSh : FuncData
  GSh : FnOk P w K mg base CX0 4 fSh fdSh ["self"] (spSShow CS CL)
  bSh : Binds K fdSh ["self"] []
  mSh : Meth K CS "show" fSh
  fCh : Addr
  fdCh : FuncData
  GCh : FnOk P w K mg base CX0 3 fCh fdCh ["look", "letter"] (spCh CL)
  bCh : Binds K fdCh ["look", "letter"] []
  gCh : mg "change_look" = some (.ref fCh)
  kCh : PySem.W.keepIn K (.ref fCh) = true
theorem ok_do {f CC CS CL : Addr} {fd : FuncData} (F : Fun K "do_letter" "do_letter" sDo f fd) (T : TxtS K mg CS) (TC : TxtC K mg CC) (D : DoEnv P w K mg base CC CS CL) :
    FnOk P w K mg base CX0 5 f fd ["client", "hands", "letter"] (spDo CC CS CL) := by
  refine F.ok scDo (fun vs H Q E h => ?_) (fun cdv A0 outer s0 H vs Q E hr h => ?_)
  · obtain ⟨A, B, c, ss, hd, t, z, rfl, _⟩ := h
    rfl
  · obtain ⟨A, B, c, ss, hdv, t, z, rfl, hh, wf, hl, hz, soft, hb, k⟩ := h
    have hu := hu_of hr
    have hd : H c.sa = some (.dK (kvI (sdOf ss))) := by rw [← wf.sd]; exact hh.get 2 rfl
    refine ⟨_, pss_cons (ps_set (i := 3) scDo.nd rfl (Or.inl rfl) (pe_fld (pv 0) rfl)) <| pss_one (ps_match (pv 2) <|
      pcs_seq rfl (.cap (i := 4) scDo.nd rfl (Or.inl rfl) (Or.inr rfl) .nil) (pss_one (ps_dput hu (pv 3) (pv 4) (pe_make D.MS D.GS hr rfl T.mgC D.bS .nil pass0 (pa_cons (pv 0) (pa_cons (pv 4) pa_nil))) rfl)) <|
      pcs_seq rfl (.cap (i := 4) scDo.nd rfl (Or.inl rfl) (Or.inr rfl) .nil) pss_never <|
      pcs_seq rfl (.cap (i := 4) scDo.nd rfl (Or.inl rfl) (Or.inr rfl) <| .cap (i := 5) scDo.nd rfl (Or.inl rfl) (Or.inr rfl) .nil) (pss_one (ps_expr (pe_meth (pe_dget hu (pv 3) (pv 4) (fun _ _ => rfl)) T.cl D.mTi D.GTi (hr.mono (by decide)) D.bTi .nil pass0 (pa_cons (pe_dget hu (pv 3) (pv 5) (fun _ _ => rfl)) pa_nil)))) <|
      pcs_seq rfl (.cap (i := 4) scDo.nd rfl (Or.inl rfl) (Or.inr rfl) .nil) (pss_one (ps_expr (pe_meth0 (pe_dget hu (pv 3) (pv 4) (fun _ _ => rfl)) T.cl D.mSh D.GSh hr D.bSh .nil pass0))) <|
      pcs_seq rfl (.cap (i := 4) scDo.nd rfl (Or.inl rfl) (Or.inr rfl) .nil) pss_never <|
      pcs_seq rfl .nil pss_never <|
      pcs_any (rest := []) (pss_one (ps_expr (pe_call D.GCh (hr.mono (by decide)) rfl D.gCh D.kCh D.bCh .nil pass0 (pa_cons (pe_fld (pe_dget hu (pv 3) (pe_ix ix_tup (pv 2) pe_int (fun _ _ => rfl)) (fun _ _ => rfl)) rfl) (pa_cons (pv 2) pa_nil)))))), ?_⟩
    refine ⟨_, rfl, c.a, CC, _, _, _, rfl, hh.hd, TC.cl, TC.nsurfaces, clientF_surfaces, ?_⟩
    refine ⟨_, rfl, t, z.word, z.nums.map V.int, rfl, sq_t hl, ?_⟩
    have other : ∀ (n : Int) (r : List Int), z.nums = n :: r → (z.word = "size" ∨ z.word = "paint" ∨ z.word = "place" ∨ z.word = "rank" ∨ z.word = "veil" ∨ z.word = "unveil") → canBeB ss z = true → (∃ s, findN ss n = some s ∧ Fits z s.pend.v) →
        ∀ (Qe : L2.St → Hp → Prop) (σ : L2.St), σ = [some (.ref c.a), some hdv, some (.ref t), some (.ref c.sa), none, none] → (∀ σ' H', Q .non H' → Qe σ' H') →
        tDrop (tCall (spCh CL) [] E0 (tCons (tFld K (tDGet (tVar 3) (tOp (rIxT K) (tVar 2) (tC (.int 1)))) "pending") (tCons (tVar 2) tNil))) { nx := Qe, rt := Q } σ H := by
      intro n r en hw _ ⟨s, es, hf⟩ Qe σ hσ hq
      subst hσ
      obtain ⟨_, j, ej⟩ := findN_ix es
      have hs := (chas_at hh ej).1
      have g := hh.unassoc.out ej
      have g1 : Has H ((((A ++ cliCells CC c) ++ (ss.take j).flatMap (surfCells CS CL)) ++ [(s.a, s.obj CS), (s.pa, .dK (kvI s.parts))]) ++ (lookCells CL s.pend ++ ((olook CL s.ready ++ olook CL s.shown) ++ ((ss.drop (j + 1)).flatMap (surfCells CS CL) ++ B)))) := g.re (by unfold surfCells; simp [List.append_assoc])
      refine ⟨_, rfl, _, rfl, _, _, _, V.int n, rfl, rfl, sq_t hl, ?_, c.sa, V.ref s.a, rfl, dget_sd hd es, s.a, CS, _, _, _, rfl, hs, T.cl, T.npending, surfF_pending, _, rfl, _, _, s.pend, t, z, rfl, g1, wf.pend s (List.mem_of_getElem? ej), hl, hz, hf, fun l' H' ha hv wl g2 => ?_⟩
      · show atI (.str z.word :: z.nums.map V.int) 1 = _
        rw [en]; exact at_of (j := 1) rfl rfl
      · refine hq _ _ (k _ H' (StepR.look ⟨r, en⟩ hw ej es ha hv wl) ?_)
        have g3 : Has H' (((A ++ cliCells CC c) ++ (ss.take j).flatMap (surfCells CS CL)) ++ (surfCells CS CL { s with pend := l' } ++ ((ss.drop (j + 1)).flatMap (surfCells CS CL) ++ B))) := g2.re (by unfold surfCells SurfR.obj; simp [List.append_assoc, ha])
        have g4 := (Has.back ej g3).assoc
        show Has H' (A ++ (cliCells CC { c with sd := _ } ++ _))
        rw [cli_sd (by rw [wf.sd, sdOf_set (s' := { s with pend := l' }) ej rfl rfl])]
        exact g4
    cases z with
    | make n =>
      refine mYes rfl ?_
      have hfn : findN ss n = none := by have := hb; unfold canBeB at this; simpa using this
      refine ⟨_, rfl, _, rfl, fun x dx nx ndx nex => ?_⟩
      have e0 : A ++ (cliCells CC c ++ (allCells CS CL ss ++ B)) = (A ++ (cliCells CC c ++ allCells CS CL ss)) ++ B := by simp [List.append_assoc]
      have g1 := Has.made (C := CS) (hh.re e0) nx ndx nex
      refine ⟨_, B, x, dx, c.a, n, rfl, g1, fun pa l H1 hv wl g2 => ⟨rfl, ?_⟩⟩
      have e1 : (A ++ (cliCells CC c ++ allCells CS CL ss)) ++ (surfCells CS CL ⟨x, dx, pa, c.a, n, true, none, [], l, none, none, false, 0, 0⟩ ++ B) = A ++ (cliCells CC c ++ (allCells CS CL (ss ++ [⟨x, dx, pa, c.a, n, true, none, [], l, none, none, false, 0, 0⟩]) ++ B)) := by
        simp [List.append_assoc, allCells]
      have g3 := g2.re e1
      have hd1 : H1 c.sa = some (.dK (kvI (sdOf ss))) := by rw [← wf.sd]; exact g3.get 2 rfl
      refine ⟨_, rfl, _, rfl, c.sa, _, rfl, DPut.k (k := (Sum.inl n : Key)) hd1 ?_, ?_⟩
      · unfold kvI sdOf; rw [List.length_map, List.length_map]; exact small1000 (Nat.le_trans wf.slen (by decide))
      · have g4 := g3.set 2 rfl (.dK (putK (kvI (sdOf ss)) (Sum.inl n : Key) (V.ref x)))
        refine k _ _ (StepR.make (a := x) (dx := dx) (pa := pa) hv wl) ?_
        have e2 : putK (kvI (sdOf ss)) (Sum.inl n : Key) (V.ref x) = kvI (sdOf (ss ++ [⟨x, dx, pa, c.a, n, true, none, [], l, none, none, false, 0, 0⟩])) := by
          rw [putK_new _ (by rw [valV_kvI, lk_sd, hfn]; rfl)]
          unfold kvI sdOf
          simp
        rw [e2] at g4 ⊢
        exact g4
    | tie n o =>
      refine mNo (by dsimp only [Lt.word]; decide +kernel) (mNo (by dsimp only [Lt.word]; decide +kernel) (mYes rfl ?_))
      have hb1 : (match findN ss n with | none => false | some _ => canTieB ss n o) = true := hb
      cases en : findN ss n with
      | none => rw [en] at hb1; cases hb1
      | some s =>
        rw [en] at hb1
        have hb2 : canTieB ss n o = true := hb1
        unfold canTieB at hb2
        by_cases hno : n = o
        · rw [if_pos hno] at hb2; cases hb2
        · rw [if_neg hno, en] at hb2
          cases eo : findN ss o with
          | none => rw [eo] at hb2; cases hb2
          | some u =>
            rw [eo] at hb2
            obtain ⟨hsn, i, ei⟩ := findN_ix en
            obtain ⟨hun, j, ej⟩ := findN_ix eo
            have hnd := has_nd hh.unassoc
            have hij : i ≠ j := fun z => by subst z; rw [ei] at ej; cases ej; exact hno (hsn.symm.trans hun)
            have hne : s.a ≠ u.a := fun z => by
              have k1 : (ss.map (·.a))[i]? = some u.a := by rw [List.getElem?_map, ei]; simp [z]
              have k2 : (ss.map (·.a))[j]? = some u.a := by rw [List.getElem?_map, ej]; rfl
              exact hij (nd_ix hnd k1 k2)
            have hst : s.top = none := by
              cases q : s.top with
              | none => rfl
              | some b => simp [q] at hb2
            obtain ⟨hs, _⟩ := chas_at hh ei
            obtain ⟨hu1, hu2⟩ := chas_at hh ej
            have hlk : lkI u.parts s.name = none := by
              cases q : lkI u.parts s.name with
              | none => rfl
              | some b =>
                obtain ⟨s', hs', h1, _, h3⟩ := wf.parts u (List.mem_of_getElem? ej) _ (lkI_mem q)
                obtain ⟨i', hi', e'⟩ := List.getElem_of_mem hs'
                have k1 : (ss.map (·.name))[i']? = some s.name := by rw [List.getElem?_map, List.getElem?_eq_getElem hi', e']; simpa using h1
                have k2 : (ss.map (·.name))[i]? = some s.name := by rw [List.getElem?_map, ei]; rfl
                have : i' = i := nd_ix wf.nn k1 k2
                subst this
                rw [List.getElem?_eq_getElem hi', e'] at ei
                cases ei
                rw [hst] at h3; cases h3
            refine ⟨_, rfl, _, rfl, c.sa, V.ref s.a, rfl, dget_sd hd en, s.a, _, _, rfl, hs, by kernel_rfl, _, rfl, _, rfl, c.sa, V.ref u.a, rfl, dget_sd hd eo, s, u, rfl, hs, hu1, hu2, hne, hlk, Nat.le_trans (wf.plen u (List.mem_of_getElem? ej)) (by decide), ?_⟩
            refine k _ _ (StepR.tie ei ej en eo) ?_
            have g1 := hh.unassoc.out ei
            have g2 : Has (upd H s.a ({ s with top := some u.a }.obj CS)) _ := g1.wr (o' := { s with top := some u.a }.obj CS)
            have g3 := Has.back (v := { s with top := some u.a }) ei (g := surfCells CS CL) g2
            have ej' : (ss.set i { s with top := some u.a })[j]? = some u := by rw [List.getElem?_set_ne hij]; exact ej
            have g4 := g3.out ej'
            have g5 := g4.set 1 rfl (.dK (kvI (u.parts ++ [(s.name, s.a)])))
            have g6 := Has.back (v := { u with parts := u.parts ++ [(s.name, s.a)] }) ej' (g := surfCells CS CL) g5
            show Has _ (A ++ (cliCells CC { c with sd := _ } ++ _))
            rw [cli_sd (by rw [wf.sd, sdOf_set (s' := { u with parts := u.parts ++ [(s.name, s.a)] }) ej' rfl rfl, sdOf_set (s' := { s with top := some u.a }) ei rfl rfl])]
            exact g6.assoc
    | «show» n =>
      refine mNo (by dsimp only [Lt.word]; decide +kernel) (mNo (by dsimp only [Lt.word]; decide +kernel) (mNo (by dsimp only [Lt.word]; decide +kernel) (mYes rfl ?_)))
      have hb1 : (findN ss n).isSome = true := hb
      obtain ⟨s, es⟩ := Option.isSome_iff_exists.mp hb1
      obtain ⟨_, j, ej⟩ := findN_ix es
      have hs := (chas_at hh ej).1
      refine ⟨_, rfl, _, rfl, c.sa, V.ref s.a, rfl, dget_sd hd es, s.a, _, _, rfl, hs, by kernel_rfl, A ++ cliCells CC c, B, ss, j, s, rfl, ej, hh.unassoc, wf.pend s (List.mem_of_getElem? ej), fun ht => wf.fams s (List.mem_of_getElem? ej) ht, fun l' H' hv wl g => ?_⟩
      refine k _ H' (StepR.show ej es hv wl) ?_
      show Has _ (A ++ (cliCells CC { c with sd := _ } ++ _))
      rw [cli_sd (by rw [wf.sd, sdOf_show ej])]
      exact g.assoc
    | drop n => exact soft.elim
    | hold n => exact soft.elim
    | let_ => exact soft.elim
    | paint n x y wd hi m =>
      refine mNo (by dsimp only [Lt.word]; decide +kernel) (mNo (by dsimp only [Lt.word]; decide +kernel) (mNo (by dsimp only [Lt.word]; decide +kernel) (mNo (by dsimp only [Lt.word]; decide +kernel) (mNo (by dsimp only [Lt.word]; decide +kernel) (mNo (by dsimp only [Lt.word]; decide +kernel) ?_)))))
      have hb1 : (match findN ss n with | none => false | some s => decide (x + wd ≤ s.pend.wide) && decide (y + hi ≤ s.pend.high)) = true := hb
      cases en : findN ss n with
      | none => simp only [en] at hb1; cases hb1
      | some s =>
        simp only [en, Bool.and_eq_true, decide_eq_true_eq] at hb1
        exact other n _ rfl (by dsimp only [Lt.word]; decide +kernel) hb ⟨s, en, hb1⟩ _ _ rfl (fun _ _ q => q)
    | size n wd hi =>
      refine mNo (by dsimp only [Lt.word]; decide +kernel) (mNo (by dsimp only [Lt.word]; decide +kernel) (mNo (by dsimp only [Lt.word]; decide +kernel) (mNo (by dsimp only [Lt.word]; decide +kernel) (mNo (by dsimp only [Lt.word]; decide +kernel) (mNo (by dsimp only [Lt.word]; decide +kernel) ?_)))))
      obtain ⟨s, es⟩ := Option.isSome_iff_exists.mp (show (findN ss n).isSome = true from hb)
      exact other n _ rfl (by dsimp only [Lt.word]; decide +kernel) hb ⟨s, es, trivial⟩ _ _ rfl (fun _ _ q => q)
    | place n x y =>
      refine mNo (by dsimp only [Lt.word]; decide +kernel) (mNo (by dsimp only [Lt.word]; decide +kernel) (mNo (by dsimp only [Lt.word]; decide +kernel) (mNo (by dsimp only [Lt.word]; decide +kernel) (mNo (by dsimp only [Lt.word]; decide +kernel) (mNo (by dsimp only [Lt.word]; decide +kernel) ?_)))))
      obtain ⟨s, es⟩ := Option.isSome_iff_exists.mp (show (findN ss n).isSome = true from hb)
      exact other n _ rfl (by dsimp only [Lt.word]; decide +kernel) hb ⟨s, es, trivial⟩ _ _ rfl (fun _ _ q => q)
    | rank n r =>
      refine mNo (by dsimp only [Lt.word]; decide +kernel) (mNo (by dsimp only [Lt.word]; decide +kernel) (mNo (by dsimp only [Lt.word]; decide +kernel) (mNo (by dsimp only [Lt.word]; decide +kernel) (mNo (by dsimp only [Lt.word]; decide +kernel) (mNo (by dsimp only [Lt.word]; decide +kernel) ?_)))))
      obtain ⟨s, es⟩ := Option.isSome_iff_exists.mp (show (findN ss n).isSome = true from hb)
      exact other n _ rfl (by dsimp only [Lt.word]; decide +kernel) hb ⟨s, es, trivial⟩ _ _ rfl (fun _ _ q => q)
    | veil n =>
      refine mNo (by dsimp only [Lt.word]; decide +kernel) (mNo (by dsimp only [Lt.word]; decide +kernel) (mNo (by dsimp only [Lt.word]; decide +kernel) (mNo (by dsimp only [Lt.word]; decide +kernel) (mNo (by dsimp only [Lt.word]; decide +kernel) (mNo (by dsimp only [Lt.word]; decide +kernel) ?_)))))
      obtain ⟨s, es⟩ := Option.isSome_iff_exists.mp (show (findN ss n).isSome = true from hb)
      exact other n _ rfl (by dsimp only [Lt.word]; decide +kernel) hb ⟨s, es, trivial⟩ _ _ rfl (fun _ _ q => q)
    | unveil n =>
      refine mNo (by dsimp only [Lt.word]; decide +kernel) (mNo (by dsimp only [Lt.word]; decide +kernel) (mNo (by dsimp only [Lt.word]; decide +kernel) (mNo (by dsimp only [Lt.word]; decide +kernel) (mNo (by dsimp only [Lt.word]; decide +kernel) (mNo (by dsimp only [Lt.word]; decide +kernel) ?_)))))
      obtain ⟨s, es⟩ := Option.isSome_iff_exists.mp (show (findN ss n).isSome = true from hb)
      exact other n _ rfl (by dsimp only [Lt.word]; decide +kernel) hb ⟨s, es, trivial⟩ _ _ rfl (fun _ _ q => q)
end
end SH
set_option Elab.async false
set_option linter.all false
set_option maxRecDepth 100000
namespace SH
open PySem PySem.Spec PyProof.Rows L2
/-- a client's surfaces hang together -/
structure SWf (ow : Addr) (ss : List SurfR) : Prop where
  ow : ∀ s ∈ ss, s.owner = ow
  pend : ∀ s ∈ ss, LWf s.pend
  ready : ∀ s ∈ ss, ∀ l, s.ready = some l → LWf l
  shown : ∀ s ∈ ss, ∀ l, s.shown = some l → LWf l
  na : (ss.map (·.a)).Nodup
  nn : (ss.map (·.name)).Nodup
  rng : ∀ s ∈ ss, 0 ≤ s.name ∧ s.name ≤ 9
  parts : ∀ t ∈ ss, ∀ p, p ∈ t.parts ↔ ∃ s ∈ ss, s.name = p.1 ∧ s.a = p.2 ∧ s.top = some t.a
  pn : ∀ t ∈ ss, (t.parts.map (·.1)).Nodup
  tops : ∀ s ∈ ss, ∀ b, s.top = some b → ∃ t ∈ ss, t.a = b
  deep : ∀ s ∈ ss, ∀ t ∈ ss, ∀ u ∈ ss, s.top = some t.a → t.top = some u.a → u.top = none
theorem nodup_le10 {l : List Int} (nd : l.Nodup) (h : ∀ x ∈ l, 0 ≤ x ∧ x ≤ 9) : l.length ≤ 10 := by
  have := nd.length_le_of_subset (l₂ := [0, 1, 2, 3, 4, 5, 6, 7, 8, 9]) (fun x hx => by have := h x hx; simp; omega)
  simpa using this
theorem uni_of {β : Type} {g : SurfR → β} {ss : List SurfR} (nd : (ss.map g).Nodup) {s t : SurfR} (hs : s ∈ ss) (ht : t ∈ ss) (e : g s = g t) : s = t := by
  obtain ⟨i, hi, ei⟩ := List.getElem_of_mem hs
  obtain ⟨j, hj, ej⟩ := List.getElem_of_mem ht
  have k1 : (ss.map g)[i]? = some (g s) := by rw [List.getElem?_map, List.getElem?_eq_getElem hi, ei]; rfl
  have k2 : (ss.map g)[j]? = some (g s) := by rw [List.getElem?_map, List.getElem?_eq_getElem hj, ej, e]; rfl
  have : i = j := nd_ix nd k1 k2
  subst this
  rw [← ei, ← ej]
theorem stOf_mem {ss : List SurfR} (nd : (ss.map (·.a)).Nodup) {t : SurfR} (h : t ∈ ss) : stOf ss t.a = some t := by
  cases e : stOf ss t.a with
  | none => exact absurd (decide_eq_true rfl) (List.find?_eq_none.mp e t h)
  | some u =>
    obtain ⟨ea, j, ej⟩ := stOf_ix e
    rw [uni_of nd (List.mem_of_getElem? ej) h ea]
theorem findN_mem {ss : List SurfR} (nd : (ss.map (·.name)).Nodup) {t : SurfR} (h : t ∈ ss) : findN ss t.name = some t := by
  cases e : findN ss t.name with
  | none => exact absurd (decide_eq_true rfl) (List.find?_eq_none.mp e t h)
  | some u =>
    obtain ⟨ea, j, ej⟩ := findN_ix e
    rw [uni_of nd (List.mem_of_getElem? ej) h ea]
theorem findN_none {ss : List SurfR} {n : Int} (e : findN ss n = none) : ∀ s ∈ ss, s.name ≠ n := fun s hs z => absurd (decide_eq_true z) (List.find?_eq_none.mp e s hs)
theorem lkI_of {l : List (Int × Addr)} (nd : (l.map (·.1)).Nodup) {n : Int} {b : Addr} (h : (n, b) ∈ l) : lkI l n = some b := by
  obtain ⟨c, hc⟩ := lkI_some (l := l) (n := n) (List.mem_map_of_mem h)
  have hm := lkI_mem hc
  obtain ⟨i, hi, ei⟩ := List.getElem_of_mem h
  obtain ⟨j, hj, ej⟩ := List.getElem_of_mem hm
  have k1 : (l.map (·.1))[i]? = some n := by rw [List.getElem?_map, List.getElem?_eq_getElem hi, ei]; rfl
  have k2 : (l.map (·.1))[j]? = some n := by rw [List.getElem?_map, List.getElem?_eq_getElem hj, ej]; rfl
  have : i = j := nd_ix nd k1 k2
  subst this
  rw [ei] at ej
  rw [hc]
  exact congrArg some (congrArg Prod.snd ej).symm
section
variable {ow : Addr} {ss : List SurfR}
theorem SWf.plen (w : SWf ow ss) : ∀ s ∈ ss, s.parts.length ≤ 10 := fun t ht => by
  have := nodup_le10 (w.pn t ht) fun x hx => by
    obtain ⟨p, hp, e⟩ := List.mem_map.mp hx
    obtain ⟨s, hs, h1, _⟩ := (w.parts t ht p).mp hp
    have := w.rng s hs
    omega
  simpa using this
theorem SWf.slen (w : SWf ow ss) : ss.length ≤ 10 := by
  have := nodup_le10 w.nn fun x hx => by
    obtain ⟨s, hs, e⟩ := List.mem_map.mp hx
    have := w.rng s hs
    omega
  simpa using this
theorem SWf.topsIn (w : SWf ow ss) : TopsIn ss := fun u hu b hb => by
  obtain ⟨t, ht, e⟩ := w.tops u hu b hb
  exact ⟨t, by rw [← e]; exact stOf_mem w.na ht⟩
theorem SWf.fam (w : SWf ow ss) : ∀ s ∈ ss, FamOk (stOf ss) 2 s.a := fun s hs => by
  refine ⟨s, stOf_mem w.na hs, w.plen s hs, fun p hp => ?_⟩
  obtain ⟨t, ht, _, ea, et⟩ := (w.parts s hs p).mp hp
  rw [← ea]
  refine ⟨t, stOf_mem w.na ht, w.plen t ht, fun q hq => ?_⟩
  obtain ⟨u, hu, _, eb, eu⟩ := (w.parts t ht q).mp hq
  rw [← eb]
  refine ⟨u, stOf_mem w.na hu, ?_⟩
  cases hp' : u.parts with
  | nil => rfl
  | cons r rs =>
    obtain ⟨x, hx, _, _, ex⟩ := (w.parts u hu r).mp (by rw [hp']; exact List.mem_cons_self)
    have := w.deep x hx u hu t ht ex eu
    rw [et] at this; cases this
theorem SWf.cwf (w : SWf ow ss) {c : CliH} (h : c.sd = sdOf ss) : CWf c ss := ⟨h, w.pend, w.topsIn, fun s hs _ => w.fam s hs, fun t ht p hp => (w.parts t ht p).mp hp, w.plen, w.slen, w.nn⟩
theorem set_map {i : Nat} {s v : SurfR} (nn : (ss.map (·.name)).Nodup) (e : ss[i]? = some s) : ss.set i v = ss.map fun x => if x.name = s.name then v else x := by
  apply List.ext_getElem?
  intro n
  rw [List.getElem?_set, List.getElem?_map]
  by_cases hn : i = n
  · subst hn
    rw [if_pos rfl, if_pos (List.getElem?_eq_some_iff.mp e).1, e]
    simp
  · rw [if_neg hn]
    cases en : ss[n]? with
    | none => rfl
    | some x =>
      have : x.name ≠ s.name := fun z => hn (nd_ix nn (by rw [List.getElem?_map, e]; rfl) (by rw [List.getElem?_map, en]; simp [z]))
      simp [this]
/-- a change that leaves names and places -/
theorem SWf.mapped (w : SWf ow ss) {f : SurfR → SurfR} (hn : ∀ x ∈ ss, (f x).name = x.name) (ha : ∀ x ∈ ss, (f x).a = x.a) (ho : ∀ x ∈ ss, (f x).owner = x.owner) (hp : ∀ x ∈ ss, (f x).parts = x.parts) (ht : ∀ x ∈ ss, (f x).top = x.top)
    (h1 : ∀ x ∈ ss, LWf (f x).pend) (h2 : ∀ x ∈ ss, ∀ l, (f x).ready = some l → LWf l) (h3 : ∀ x ∈ ss, ∀ l, (f x).shown = some l → LWf l) : SWf ow (ss.map f) := by
  have en : (ss.map f).map (·.name) = ss.map (·.name) := by rw [List.map_map]; exact List.map_congr_left fun x hx => hn x hx
  have ea : (ss.map f).map (·.a) = ss.map (·.a) := by rw [List.map_map]; exact List.map_congr_left fun x hx => ha x hx
  refine ⟨?_, ?_, ?_, ?_, by rw [ea]; exact w.na, by rw [en]; exact w.nn, ?_, ?_, ?_, ?_, ?_⟩
  · rintro s hs; obtain ⟨x, hx, rfl⟩ := List.mem_map.mp hs; rw [ho x hx]; exact w.ow x hx
  · rintro s hs; obtain ⟨x, hx, rfl⟩ := List.mem_map.mp hs; exact h1 x hx
  · rintro s hs; obtain ⟨x, hx, rfl⟩ := List.mem_map.mp hs; exact h2 x hx
  · rintro s hs; obtain ⟨x, hx, rfl⟩ := List.mem_map.mp hs; exact h3 x hx
  · rintro s hs; obtain ⟨x, hx, rfl⟩ := List.mem_map.mp hs; rw [hn x hx]; exact w.rng x hx
  · rintro t ht' p
    obtain ⟨x, hx, rfl⟩ := List.mem_map.mp ht'
    rw [hp x hx, w.parts x hx p]
    constructor
    · rintro ⟨s, hs, e1, e2, e3⟩
      exact ⟨f s, List.mem_map_of_mem hs, (hn s hs).trans e1, (ha s hs).trans e2, by rw [ht s hs, ha x hx]; exact e3⟩
    · rintro ⟨s, hs, e1, e2, e3⟩
      obtain ⟨y, hy, rfl⟩ := List.mem_map.mp hs
      exact ⟨y, hy, (hn y hy).symm.trans e1, (ha y hy).symm.trans e2, by rw [ht y hy, ha x hx] at e3; exact e3⟩
  · rintro t ht'; obtain ⟨x, hx, rfl⟩ := List.mem_map.mp ht'; rw [hp x hx]; exact w.pn x hx
  · rintro s hs b hb
    obtain ⟨x, hx, rfl⟩ := List.mem_map.mp hs
    rw [ht x hx] at hb
    obtain ⟨t, ht', e⟩ := w.tops x hx b hb
    exact ⟨f t, List.mem_map_of_mem ht', (ha t ht').trans e⟩
  · rintro s hs t ht' u hu e1 e2
    obtain ⟨x, hx, rfl⟩ := List.mem_map.mp hs
    obtain ⟨y, hy, rfl⟩ := List.mem_map.mp ht'
    obtain ⟨z, hz, rfl⟩ := List.mem_map.mp hu
    rw [ht x hx, ha y hy] at e1
    rw [ht y hy, ha z hz] at e2
    rw [ht z hz]
    exact w.deep x hx y hy z hz e1 e2
end
theorem showReady_parts (s : SurfR) : s.showReady.parts = s.parts := by unfold SurfR.showReady; split <;> rfl
theorem showReady_top (s : SurfR) : s.showReady.top = s.top := by unfold SurfR.showReady; split <;> rfl
theorem showReady_name (s : SurfR) : s.showReady.name = s.name := by unfold SurfR.showReady; split <;> rfl
theorem showReady_owner (s : SurfR) : s.showReady.owner = s.owner := by unfold SurfR.showReady; split <;> rfl
theorem showReady_pend (s : SurfR) : s.showReady.pend = s.pend := by unfold SurfR.showReady; split <;> rfl
theorem SWf.readyAll {ow : Addr} {ss : List SurfR} (w : SWf ow ss) (as : List Addr) : SWf ow (readyAll as ss) := by
  unfold SH.readyAll
  refine w.mapped ?_ ?_ ?_ ?_ ?_ ?_ ?_ ?_ <;> intro x hx
  · split <;> simp [showReady_name]
  · split <;> simp [showReady_a]
  · split <;> simp [showReady_owner]
  · split <;> simp [showReady_parts]
  · split <;> simp [showReady_top]
  · split <;> simp [showReady_pend, w.pend x hx]
  · intro l hl
    split at hl
    · unfold SurfR.showReady at hl
      cases e : x.ready with
      | none => rw [e] at hl; exact w.ready x hx l (by simpa [e] using hl)
      | some q => rw [e] at hl; cases hl
    · exact w.ready x hx l hl
  · intro l hl
    split at hl
    · unfold SurfR.showReady at hl
      cases e : x.ready with
      | none => rw [e] at hl; exact w.shown x hx l hl
      | some q => rw [e] at hl; cases hl; exact w.ready x hx _ e
    · exact w.shown x hx l hl
theorem SWf.set {ow : Addr} {ss : List SurfR} (w : SWf ow ss) {i : Nat} {s v : SurfR} (e : ss[i]? = some s) (h1 : v.name = s.name) (h2 : v.a = s.a) (h3 : v.owner = s.owner) (h4 : v.parts = s.parts) (h5 : v.top = s.top)
    (h6 : LWf v.pend) (h7 : ∀ l, v.ready = some l → LWf l) (h8 : ∀ l, v.shown = some l → LWf l) : SWf ow (ss.set i v) := by
  have hs := List.mem_of_getElem? e
  rw [set_map w.nn e]
  have q : ∀ x ∈ ss, x.name = s.name → x = s := fun x hx h => uni_of w.nn hx hs h
  refine w.mapped ?_ ?_ ?_ ?_ ?_ ?_ ?_ ?_ <;> intro x hx
  · by_cases h : x.name = s.name
    · simp only [h, if_true]; rw [h1]
    · simp only [h, if_false]
  · by_cases h : x.name = s.name
    · simp only [h, if_true]; rw [h2, q x hx h]
    · simp only [h, if_false]
  · by_cases h : x.name = s.name
    · simp only [h, if_true]; rw [h3, q x hx h]
    · simp only [h, if_false]
  · by_cases h : x.name = s.name
    · simp only [h, if_true]; rw [h4, q x hx h]
    · simp only [h, if_false]
  · by_cases h : x.name = s.name
    · simp only [h, if_true]; rw [h5, q x hx h]
    · simp only [h, if_false]
  · by_cases h : x.name = s.name
    · simp only [h, if_true]; exact h6
    · simp only [h, if_false]; exact w.pend x hx
  · by_cases h : x.name = s.name
    · simp only [h, if_true]; exact h7
    · simp only [h, if_false]; exact w.ready x hx
  · by_cases h : x.name = s.name
    · simp only [h, if_true]; exact h8
    · simp only [h, if_false]; exact w.shown x hx
end SH
set_option Elab.async false
set_option linter.all false
set_option maxRecDepth 100000
namespace SH
open PySem PySem.Spec PyProof.Rows L2
theorem canTie_facts {ss : List SurfR} {n o : Int} (h : canTieB ss n o = true) : n ≠ o ∧ ∃ s t, findN ss n = some s ∧ findN ss o = some t ∧ s.shown = none ∧ s.top = none ∧ s.parts = [] ∧ (t.top = none ∨ ∃ b u, t.top = some b ∧ stOf ss b = some u ∧ u.top = none) := by
  unfold canTieB at h
  by_cases hno : n = o
  · rw [if_pos hno] at h; cases h
  · rw [if_neg hno] at h
    cases eo : findN ss o with
    | none => rw [eo] at h; cases h
    | some t =>
      rw [eo] at h
      cases en : findN ss n with
      | none => rw [en] at h; cases h
      | some s =>
        simp only [en] at h
        have h1 : s.shown = none := by cases q : s.shown with | none => rfl | some l => simp [q] at h
        have h2 : s.top = none := by cases q : s.top with | none => rfl | some l => simp [q] at h
        have h3 : s.parts = [] := by cases q : s.parts with | nil => rfl | cons a r => simp [q] at h
        refine ⟨hno, s, t, rfl, rfl, h1, h2, h3, ?_⟩
        simp only [h1, h2, h3] at h
        cases et : t.top with
        | none => exact .inl rfl
        | some b =>
          refine .inr ⟨b, ?_⟩
          simp only [et] at h
          cases eb : stOf ss b with
          | none => simp [eb] at h
          | some u =>
            refine ⟨u, rfl, rfl, ?_⟩
            simp only [eb] at h
            cases eu : u.top with
            | none => rfl
            | some v => simp [eu] at h
theorem find_iff {ss : List SurfR} (nn : (ss.map (·.name)).Nodup) {n : Int} {s : SurfR} : findN ss n = some s ↔ s ∈ ss ∧ s.name = n := by
  constructor
  · intro h
    obtain ⟨e, j, ej⟩ := findN_ix h
    exact ⟨List.mem_of_getElem? ej, e⟩
  · rintro ⟨h, rfl⟩
    exact findN_mem nn h
theorem SWf.step {ow : Addr} {ss ss' : List SurfR} {z : Lt} (w : SWf ow ss) (hz : z.ok) (hb : canBeB ss z = true) (st : StepR ow ss z ss') (nd : (ss'.map (·.a)).Nodup) : SWf ow ss' := by
  cases st with
  | @make n a dx pa l hv wf =>
    have hf : findN ss n = none := by unfold canBeB at hb; simpa using hb
    have hfn := findN_none hf
    have hfa : ∀ s ∈ ss, s.a ≠ a := fun s hs e => by
      rw [List.map_append] at nd
      exact (List.nodup_append.mp nd).2.2 s.a (List.mem_map_of_mem hs) a (by simp) e
    have hnew : ∀ {x : SurfR}, x ∈ ss ++ [⟨a, dx, pa, ow, n, true, none, [], l, none, none, false, 0, 0⟩] → x ∈ ss ∨ x = ⟨a, dx, pa, ow, n, true, none, [], l, none, none, false, 0, 0⟩ := fun h => by
      rcases List.mem_append.mp h with h | h
      · exact .inl h
      · exact .inr (List.mem_singleton.mp h)
    have hold : ∀ {x : SurfR}, x ∈ ss → x ∈ ss ++ [⟨a, dx, pa, ow, n, true, none, [], l, none, none, false, 0, 0⟩] := fun h => List.mem_append_left _ h
    refine ⟨?_, ?_, ?_, ?_, nd, ?_, ?_, ?_, ?_, ?_, ?_⟩
    · intro s hs; rcases hnew hs with h | rfl
      · exact w.ow s h
      · rfl
    · intro s hs; rcases hnew hs with h | rfl
      · exact w.pend s h
      · exact wf
    · intro s hs q hq; rcases hnew hs with h | rfl
      · exact w.ready s h q hq
      · cases hq
    · intro s hs q hq; rcases hnew hs with h | rfl
      · exact w.shown s h q hq
      · cases hq
    · rw [List.map_append]
      refine List.nodup_append.mpr ⟨w.nn, by simp, ?_⟩
      intro x hx y hy e
      obtain ⟨s, hs, rfl⟩ := List.mem_map.mp hx
      have : y = n := by simpa using hy
      exact hfn s hs (e.trans this)
    · intro s hs; rcases hnew hs with h | rfl
      · exact w.rng s h
      · exact hz (n, (0, 9)) (by simp [Lt.nums, Lt.bnds])
    · intro t ht p; rcases hnew ht with h | rfl
      · rw [w.parts t h p]
        constructor
        · rintro ⟨s, hs, e⟩; exact ⟨s, hold hs, e⟩
        · rintro ⟨s, hs, e1, e2, e3⟩
          rcases hnew hs with h' | rfl
          · exact ⟨s, h', e1, e2, e3⟩
          · cases e3
      · constructor
        · intro h; cases h
        · rintro ⟨s, hs, e1, e2, e3⟩
          rcases hnew hs with h' | rfl
          · obtain ⟨t, ht', e⟩ := w.tops s h' a e3
            exact absurd e (hfa t ht')
          · cases e3
    · intro t ht; rcases hnew ht with h | rfl
      · exact w.pn t h
      · exact List.nodup_nil
    · intro s hs b hb'; rcases hnew hs with h | rfl
      · obtain ⟨t, ht, e⟩ := w.tops s h b hb'
        exact ⟨t, hold ht, e⟩
      · cases hb'
    · intro s hs t ht u hu e1 e2
      rcases hnew hs with h | rfl
      · rcases hnew ht with h' | rfl
        · rcases hnew hu with h'' | rfl
          · exact w.deep s h t h' u h'' e1 e2
          · rfl
        · cases e2
      · cases e1
  | @tie n o i j s t hi hj hn ho =>
    have hb' : canTieB ss n o = true := by
      have : (match findN ss n with | none => false | some _ => canTieB ss n o) = true := hb
      rwa [hn] at this
    obtain ⟨hno, s', t', en, eo, hsh, hst, hsp, htt⟩ := canTie_facts hb'
    rw [hn] at en; cases en
    rw [ho] at eo; cases eo
    obtain ⟨hsn, _⟩ := findN_ix hn
    obtain ⟨htn, _⟩ := findN_ix ho
    have hs := List.mem_of_getElem? hi
    have ht := List.mem_of_getElem? hj
    have hij : i ≠ j := fun z => by subst z; rw [hi] at hj; cases hj; exact hno (hsn.symm.trans htn)
    have hst' : s.name ≠ t.name := by rw [hsn, htn]; exact hno
    have e1 : (ss.set i { s with top := some t.a }).set j { t with parts := t.parts ++ [(s.name, s.a)] } = ss.map fun x => if x.name = t.name then { t with parts := t.parts ++ [(s.name, s.a)] } else if x.name = s.name then { s with top := some t.a } else x := by
      have nn1 : ((ss.set i { s with top := some t.a }).map (·.name)).Nodup := by
        rw [set_map w.nn hi, List.map_map]
        have : ss.map ((fun x => x.name) ∘ fun x => if x.name = s.name then { s with top := some t.a } else x) = ss.map (·.name) := List.map_congr_left fun x hx => by
          simp only [Function.comp_def]; split
          · rename_i h; exact h.symm
          · rfl
        rw [this]; exact w.nn
      rw [set_map nn1 (s := t) (by rw [List.getElem?_set_ne hij]; exact hj), set_map w.nn hi, List.map_map]
      apply List.map_congr_left
      intro x hx
      simp only [Function.comp_def]
      by_cases h1 : x.name = s.name
      · simp only [h1, if_true, hst', if_false]
      · simp only [h1, if_false]
    rw [e1] at nd ⊢
    clear e1
    generalize hf : (fun x : SurfR => if x.name = t.name then { t with parts := t.parts ++ [(s.name, s.a)] } else if x.name = s.name then { s with top := some t.a } else x) = f at nd ⊢
    have uq : ∀ x ∈ ss, ∀ y ∈ ss, x.name = y.name → x = y := fun x hx y hy h => uni_of w.nn hx hy h
    have ft : f t = { t with parts := t.parts ++ [(s.name, s.a)] } := by rw [← hf]; simp
    have fs : f s = { s with top := some t.a } := by rw [← hf]; simp [hst']
    have fo : ∀ x ∈ ss, x ≠ s → x ≠ t → f x = x := fun x hx h1 h2 => by
      rw [← hf]
      have n1 : ¬ x.name = s.name := fun h => h1 (uq x hx s hs h)
      have n2 : ¬ x.name = t.name := fun h => h2 (uq x hx t ht h)
      simp [n1, n2]
    have hst2 : s ≠ t := fun h => hst' (by rw [h])
    have cases3 : ∀ x ∈ ss, x = s ∨ x = t ∨ f x = x := fun x hx => by
      by_cases h1 : x = s
      · exact .inl h1
      · by_cases h2 : x = t
        · exact .inr (.inl h2)
        · exact .inr (.inr (fo x hx h1 h2))
    have fname : ∀ x ∈ ss, (f x).name = x.name := fun x hx => by
      rcases cases3 x hx with rfl | rfl | h
      · rw [fs]
      · rw [ft]
      · rw [h]
    have fa : ∀ x ∈ ss, (f x).a = x.a := fun x hx => by
      rcases cases3 x hx with rfl | rfl | h
      · rw [fs]
      · rw [ft]
      · rw [h]
    have ftop : ∀ x ∈ ss, x ≠ s → (f x).top = x.top := fun x hx hxs => by
      rcases cases3 x hx with rfl | rfl | h
      · exact absurd rfl hxs
      · rw [ft]
      · rw [h]
    have fstop : (f s).top = some t.a := by rw [fs]
    have fparts : ∀ x ∈ ss, x ≠ t → (f x).parts = x.parts := fun x hx hxs => by
      rcases cases3 x hx with rfl | rfl | h
      · rw [fs]
      · exact absurd rfl hxs
      · rw [h]
    have ftparts : (f t).parts = t.parts ++ [(s.name, s.a)] := by rw [ft]
    have hsn0 : ∀ x ∈ ss, x.top ≠ some s.a := fun x hx e => by
      have : (x.name, x.a) ∈ s.parts := (w.parts s hs _).mpr ⟨x, hx, rfl, rfl, e⟩
      rw [hsp] at this; cases this
    refine ⟨?_, ?_, ?_, ?_, nd, ?_, ?_, ?_, ?_, ?_, ?_⟩
    · intro y hy; obtain ⟨x, hx, rfl⟩ := List.mem_map.mp hy
      rcases cases3 x hx with rfl | rfl | h
      · rw [fs]; exact w.ow x hx
      · rw [ft]; exact w.ow x hx
      · rw [h]; exact w.ow x hx
    · intro y hy; obtain ⟨x, hx, rfl⟩ := List.mem_map.mp hy
      rcases cases3 x hx with rfl | rfl | h
      · rw [fs]; exact w.pend x hx
      · rw [ft]; exact w.pend x hx
      · rw [h]; exact w.pend x hx
    · intro y hy; obtain ⟨x, hx, rfl⟩ := List.mem_map.mp hy
      rcases cases3 x hx with rfl | rfl | h
      · rw [fs]; exact w.ready x hx
      · rw [ft]; exact w.ready x hx
      · rw [h]; exact w.ready x hx
    · intro y hy; obtain ⟨x, hx, rfl⟩ := List.mem_map.mp hy
      rcases cases3 x hx with rfl | rfl | h
      · rw [fs]; exact w.shown x hx
      · rw [ft]; exact w.shown x hx
      · rw [h]; exact w.shown x hx
    · rw [List.map_map]
      have : ss.map ((fun x => x.name) ∘ f) = ss.map (·.name) := List.map_congr_left fun x hx => fname x hx
      rw [this]; exact w.nn
    · intro y hy; obtain ⟨x, hx, rfl⟩ := List.mem_map.mp hy
      rw [fname x hx]; exact w.rng x hx
    · intro y hy p
      obtain ⟨x, hx, rfl⟩ := List.mem_map.mp hy
      by_cases hxt : x = t
      · subst hxt
        rw [ftparts, List.mem_append, w.parts x hx p]
        constructor
        · rintro (⟨u, hu, e1, e2, e3⟩ | h)
          · have hus : u ≠ s := fun h => by rw [h, hst] at e3; cases e3
            exact ⟨f u, List.mem_map_of_mem hu, (fname u hu).trans e1, (fa u hu).trans e2, by rw [ftop u hu hus, fa x hx]; exact e3⟩
          · have : p = (s.name, s.a) := by simpa using h
            subst this
            exact ⟨f s, List.mem_map_of_mem hs, fname s hs, fa s hs, by rw [fstop, fa x hx]⟩
        · rintro ⟨y, hy', e1, e2, e3⟩
          obtain ⟨u, hu, rfl⟩ := List.mem_map.mp hy'
          by_cases hus : u = s
          · subst hus
            refine .inr ?_
            rw [fname u hu] at e1; rw [fa u hu] at e2
            simp [e1, e2, Prod.ext_iff]
          · refine .inl ⟨u, hu, (fname u hu).symm.trans e1, (fa u hu).symm.trans e2, ?_⟩
            rw [ftop u hu hus, fa x hx] at e3; exact e3
      · rw [fparts x hx hxt, w.parts x hx p]
        constructor
        · rintro ⟨u, hu, e1, e2, e3⟩
          have hus : u ≠ s := fun h => by rw [h, hst] at e3; cases e3
          exact ⟨f u, List.mem_map_of_mem hu, (fname u hu).trans e1, (fa u hu).trans e2, by rw [ftop u hu hus, fa x hx]; exact e3⟩
        · rintro ⟨y, hy', e1, e2, e3⟩
          obtain ⟨u, hu, rfl⟩ := List.mem_map.mp hy'
          by_cases hus : u = s
          · subst hus
            rw [fstop, fa x hx] at e3
            exact absurd (uni_of w.na ht hx (Option.some.inj e3)).symm hxt
          · refine ⟨u, hu, (fname u hu).symm.trans e1, (fa u hu).symm.trans e2, ?_⟩
            rw [ftop u hu hus, fa x hx] at e3; exact e3
    · intro y hy
      obtain ⟨x, hx, rfl⟩ := List.mem_map.mp hy
      by_cases hxt : x = t
      · subst hxt
        rw [ftparts, List.map_append]
        refine List.nodup_append.mpr ⟨w.pn x hx, by simp, ?_⟩
        intro q hq r hr e
        obtain ⟨p, hp, rfl⟩ := List.mem_map.mp hq
        have hr' : r = s.name := by simpa using hr
        obtain ⟨u, hu, e1, _, e3⟩ := (w.parts x hx p).mp hp
        have : u = s := uq u hu s hs (by rw [e1, e, hr'])
        rw [this, hst] at e3; cases e3
      · rw [fparts x hx hxt]; exact w.pn x hx
    · intro y hy b hb2
      obtain ⟨x, hx, rfl⟩ := List.mem_map.mp hy
      by_cases hxs : x = s
      · subst hxs
        rw [fstop] at hb2
        exact ⟨f t, List.mem_map_of_mem ht, (fa t ht).trans (Option.some.inj hb2)⟩
      · rw [ftop x hx hxs] at hb2
        obtain ⟨u, hu, e⟩ := w.tops x hx b hb2
        exact ⟨f u, List.mem_map_of_mem hu, (fa u hu).trans e⟩
    · intro y1 hy1 y2 hy2 y3 hy3 e1 e2
      obtain ⟨x1, h1, rfl⟩ := List.mem_map.mp hy1
      obtain ⟨x2, h2, rfl⟩ := List.mem_map.mp hy2
      obtain ⟨x3, h3, rfl⟩ := List.mem_map.mp hy3
      rw [fa x2 h2] at e1
      rw [fa x3 h3] at e2
      by_cases c3 : x3 = s
      · subst c3
        by_cases c2 : x2 = x3
        · subst c2
          -- t's place is s's
          rw [fstop] at e2
          exact absurd (uni_of w.na ht h2 (Option.some.inj e2)).symm hst2
        · rw [ftop x2 h2 c2] at e2
          exact absurd e2 (hsn0 x2 h2)
      · rw [ftop x3 h3 c3]
        by_cases c2 : x2 = s
        · subst c2
          by_cases c1 : x1 = x2
          · subst c1
            rw [fstop] at e1
            exact absurd (uni_of w.na ht h1 (Option.some.inj e1)).symm hst2
          · rw [ftop x1 h1 c1] at e1
            exact absurd e1 (hsn0 x1 h1)
        · rw [ftop x2 h2 c2] at e2
          by_cases c1 : x1 = s
          · subst c1
            rw [fstop] at e1
            have : t = x2 := uni_of w.na ht h2 (Option.some.inj e1)
            subst this
            rcases htt with h | ⟨b, u, hb3, hu, hu2⟩
            · rw [h] at e2; cases e2
            · rw [hb3] at e2
              obtain ⟨ea, k, ek⟩ := stOf_ix hu
              have : u = x3 := uni_of w.na (List.mem_of_getElem? ek) h3 (by rw [ea]; exact Option.some.inj e2)
              rw [← this]; exact hu2
          · rw [ftop x1 h1 c1] at e1
            exact w.deep x1 h1 x2 h2 x3 h3 e1 e2
  | @«show» n i s l hi hn hv wf =>
    have hs := List.mem_of_getElem? hi
    have w1 : SWf ow (ss.set i { s with ready := some l }) := w.set hi rfl rfl rfl rfl rfl (w.pend s hs) (fun q hq => by cases hq; exact wf) (w.shown s hs)
    unfold showSS
    dsimp only
    split
    · exact w1.readyAll _
    · exact w1
  | @look _ n i s l hz' hw hi hn ha hv wf =>
    have hs := List.mem_of_getElem? hi
    exact w.set hi rfl rfl rfl rfl rfl wf (w.ready s hs) (w.shown s hs)
end SH
set_option Elab.async false
set_option linter.all false
set_option maxRecDepth 100000
namespace SH
open PySem PySem.Spec PyProof.Rows L2
/-- a surface as the document has it -/
structure SurfV where
  name : Int
  top : Option Int
  pend : LookV
  ready : Option LookV
  shown : Option LookV
  newly : Bool
  lx : Int
  ly : Int
  deriving DecidableEq
def vw (ss : List SurfR) (s : SurfR) : SurfV := ⟨s.name, s.top.bind fun b => (stOf ss b).map (·.name), s.pend.v, s.ready.map (·.v), s.shown.map (·.v), s.newly, s.lx, s.ly⟩
def view (ss : List SurfR) : List SurfV := ss.map (vw ss)
def vfind (vs : List SurfV) (n : Int) : Option SurfV := vs.find? fun v => decide (v.name = n)
def SurfV.showReady (v : SurfV) : SurfV := match v.ready with
  | none => v
  | some l => { v with shown := some l, ready := none, newly := true }
def famV (vs : List SurfV) : Nat → Int → List Int
  | 0, n => [n]
  | d + 1, n => n :: (sortI ((vs.filter fun v => decide (v.top = some n)).map (·.name))).flatMap (famV vs d)
def onV (vs : List SurfV) (n : Int) (f : SurfV → SurfV) : List SurfV := vs.map fun v => if v.name = n then f v else v
def showV (vs : List SurfV) (n : Int) : List SurfV :=
  let vs1 := onV vs n fun v => { v with ready := some v.pend }
  if (vfind vs n).bind (·.top) = none then vs1.map fun v => if v.name ∈ famV vs 2 n then v.showReady else v else vs1
def newV (n : Int) : SurfV := ⟨n, none, look0, none, none, false, 0, 0⟩
def stepV (vs : List SurfV) : Lt → List SurfV
  | .make n => vs ++ [newV n]
  | .tie n o => onV vs n fun v => { v with top := some o }
  | .show n => showV vs n
  | .size n w h => onV vs n fun v => { v with pend := chLook (.size n w h) v.pend }
  | .paint n x y w h m => onV vs n fun v => { v with pend := chLook (.paint n x y w h m) v.pend }
  | .place n x y => onV vs n fun v => { v with pend := chLook (.place n x y) v.pend }
  | .rank n r => onV vs n fun v => { v with pend := chLook (.rank n r) v.pend }
  | .veil n => onV vs n fun v => { v with pend := chLook (.veil n) v.pend }
  | .unveil n => onV vs n fun v => { v with pend := chLook (.unveil n) v.pend }
  | _ => vs
def canTieV (vs : List SurfV) (n o : Int) : Bool := if n = o then false else match vfind vs o with
  | none => false
  | some t => match vfind vs n with
    | none => false
    | some s => if s.shown.isSome || (s.top.isSome || vs.any fun u => decide (u.top = some n)) then false else match t.top with
      | none => true
      | some b => match vfind vs b with
        | some u => u.top.isNone
        | none => false
def canBeV (vs : List SurfV) : Lt → Bool
  | .let_ => true
  | .make n => (vfind vs n).isNone
  | .paint n x y w h _ => match vfind vs n with
    | none => false
    | some s => decide (x + w ≤ s.pend.wide) && decide (y + h ≤ s.pend.high)
  | .tie n o => match vfind vs n with
    | none => false
    | some _ => canTieV vs n o
  | .drop n => (vfind vs n).isSome
  | .size n _ _ => (vfind vs n).isSome
  | .place n _ _ => (vfind vs n).isSome
  | .rank n _ => (vfind vs n).isSome
  | .veil n => (vfind vs n).isSome
  | .unveil n => (vfind vs n).isSome
  | .show n => (vfind vs n).isSome
  | .hold n => (vfind vs n).isSome
theorem vfind_view (ss : List SurfR) (n : Int) : vfind (view ss) n = (findN ss n).map (vw ss) := by
  unfold vfind view findN
  rw [List.find?_map]
  rfl
theorem top_view {ow : Addr} {ss : List SurfR} (w : SWf ow ss) {u t : SurfR} (hu : u ∈ ss) (ht : t ∈ ss) : (vw ss u).top = some t.name ↔ u.top = some t.a := by
  constructor
  · intro h
    have h : (u.top.bind fun b => (stOf ss b).map (·.name)) = some t.name := h
    cases e : u.top with
    | none => rw [e] at h; cases h
    | some b =>
      rw [e] at h
      have h : (stOf ss b).map (·.name) = some t.name := h
      cases q : stOf ss b with
      | none => rw [q] at h; cases h
      | some x =>
        rw [q] at h
        obtain ⟨ea, j, ej⟩ := stOf_ix q
        have : x = t := uni_of w.nn (List.mem_of_getElem? ej) ht (Option.some.inj h)
        rw [← ea, this]
  · intro h
    show (u.top.bind fun b => (stOf ss b).map (·.name)) = some t.name
    rw [h]
    show (stOf ss t.a).map (·.name) = _
    rw [stOf_mem w.na ht]; rfl
theorem top_none {ow : Addr} {ss : List SurfR} (w : SWf ow ss) {u : SurfR} (hu : u ∈ ss) : (vw ss u).top = none ↔ u.top = none := by
  constructor
  · intro h
    cases e : u.top with
    | none => rfl
    | some b =>
      obtain ⟨t, ht, eb⟩ := w.tops u hu b e
      rw [← eb] at e
      rw [(top_view w hu ht).mpr e] at h; cases h
  · intro h
    show u.top.bind _ = none
    rw [h]; rfl
theorem canTie_view {ow : Addr} {ss : List SurfR} (w : SWf ow ss) (n o : Int) : canTieV (view ss) n o = canTieB ss n o := by
  unfold canTieV canTieB
  by_cases hno : n = o
  · rw [if_pos hno, if_pos hno]
  · rw [if_neg hno, if_neg hno, vfind_view, vfind_view]
    cases eo : findN ss o with
    | none => rfl
    | some t =>
      cases en : findN ss n with
      | none => rfl
      | some s =>
        obtain ⟨hsn, i, hi⟩ := findN_ix en
        obtain ⟨hto, j, hj⟩ := findN_ix eo
        have hs := List.mem_of_getElem? hi
        have ht := List.mem_of_getElem? hj
        simp only [Option.map_some]
        have e1 : (vw ss s).shown.isSome = s.shown.isSome := by show (s.shown.map _).isSome = _; cases s.shown <;> rfl
        have e2 : (vw ss s).top.isSome = s.top.isSome := by
          rw [Bool.eq_iff_iff, Option.isSome_iff_ne_none, Option.isSome_iff_ne_none, ne_eq, ne_eq, top_none w hs]
        have e3 : ((view ss).any fun u => decide (u.top = some n)) = decide (0 < s.parts.length) := by
          rw [Bool.eq_iff_iff, List.any_eq_true, decide_eq_true_eq]
          constructor
          · rintro ⟨v, hv, hd⟩
            obtain ⟨u, hu, rfl⟩ := List.mem_map.mp hv
            have hd := of_decide_eq_true hd
            rw [← hsn, top_view w hu hs] at hd
            exact List.length_pos_of_mem ((w.parts s hs (u.name, u.a)).mpr ⟨u, hu, rfl, rfl, hd⟩)
          · intro h
            cases hp : s.parts with
            | nil => rw [hp] at h; cases h
            | cons p r =>
              obtain ⟨u, hu, _, _, h3⟩ := (w.parts s hs p).mp (by rw [hp]; exact List.mem_cons_self)
              refine ⟨vw ss u, List.mem_map_of_mem hu, decide_eq_true ?_⟩
              rw [← hsn]; exact (top_view w hu hs).mpr h3
        rw [e1, e2, e3]
        split
        · rfl
        · cases et : t.top with
          | none =>
            have : (vw ss t).top = none := (top_none w ht).mpr et
            rw [this]
          | some b =>
            obtain ⟨u, hu, eb⟩ := w.tops t ht b et
            rw [← eb] at et
            have : (vw ss t).top = some u.name := (top_view w ht hu).mpr et
            rw [this]
            simp only
            rw [vfind_view, findN_mem w.nn hu, ← eb, stOf_mem w.na hu]
            simp only [Option.map_some]
            rw [Bool.eq_iff_iff, Option.isNone_iff_eq_none, Option.isNone_iff_eq_none, top_none w hu]
theorem isSome_map {α β : Type} (o : Option α) (f : α → β) : (o.map f).isSome = o.isSome := by cases o <;> rfl
theorem isNone_map {α β : Type} (o : Option α) (f : α → β) : (o.map f).isNone = o.isNone := by cases o <;> rfl
theorem canBe_view {ow : Addr} {ss : List SurfR} (w : SWf ow ss) (z : Lt) : canBeV (view ss) z = canBeB ss z := by
  cases z with
  | tie n o =>
    simp only [canBeV, canBeB, vfind_view, canTie_view w]
    cases findN ss n <;> rfl
  | paint n x y wd hi m =>
    simp only [canBeV, canBeB, vfind_view]
    cases findN ss n <;> rfl
  | let_ => rfl
  | make n => simp only [canBeV, canBeB, vfind_view, isNone_map]
  | _ => simp only [canBeV, canBeB, vfind_view, isSome_map]
/-- the place of a name -/
def adr (ss : List SurfR) (n : Int) : Addr := ((findN ss n).map (·.a)).getD 0
theorem adr_of {ow : Addr} {ss : List SurfR} (w : SWf ow ss) {s : SurfR} (h : s ∈ ss) : adr ss s.name = s.a := by unfold adr; rw [findN_mem w.nn h]; rfl
theorem perm_sort {l l' : List Int} (p : l.Perm l') : sortI l = sortI l' := sortI_of ((sortI_perm l).trans p) (sortI_pw l)
theorem parts_sorted {ow : Addr} {ss : List SurfR} (w : SWf ow ss) {s : SurfR} (hs : s ∈ ss) : sortI (s.parts.map (·.1)) = sortI (((view ss).filter fun v => decide (v.top = some s.name)).map (·.name)) := by
  refine perm_sort ?_
  have nv : ((view ss).map (·.name)) = ss.map (·.name) := by unfold view; rw [List.map_map]; rfl
  refine (List.perm_ext_iff_of_nodup (w.pn s hs) ?_).mpr fun n => ?_
  · refine List.Sublist.nodup ((List.filter_sublist).map _) ?_
    rw [nv]; exact w.nn
  · constructor
    · intro h
      obtain ⟨p, hp, rfl⟩ := List.mem_map.mp h
      obtain ⟨u, hu, h1, _, h3⟩ := (w.parts s hs p).mp hp
      refine List.mem_map.mpr ⟨vw ss u, List.mem_filter.mpr ⟨List.mem_map_of_mem hu, decide_eq_true ((top_view w hu hs).mpr h3)⟩, h1⟩
    · intro h
      obtain ⟨v, hv, rfl⟩ := List.mem_map.mp h
      obtain ⟨hv, hd⟩ := List.mem_filter.mp hv
      obtain ⟨u, hu, rfl⟩ := List.mem_map.mp hv
      have h3 := (top_view w hu hs).mp (of_decide_eq_true hd)
      exact List.mem_map.mpr ⟨(u.name, u.a), (w.parts s hs _).mpr ⟨u, hu, rfl, rfl, h3⟩, rfl⟩
theorem flatMap_congr' {α β : Type} {f g : α → List β} : ∀ {l : List α}, (∀ x ∈ l, f x = g x) → l.flatMap f = l.flatMap g
  | [], _ => rfl
  | x :: l, h => by rw [List.flatMap_cons, List.flatMap_cons, h x List.mem_cons_self, flatMap_congr' fun y hy => h y (List.mem_cons_of_mem _ hy)]
theorem fam_view {ow : Addr} {ss : List SurfR} (w : SWf ow ss) : ∀ (d : Nat) {s : SurfR}, s ∈ ss → fam (stOf ss) d s.a = (famV (view ss) d s.name).map (adr ss)
  | 0, s, hs => by show [s.a] = [adr ss s.name]; rw [adr_of w hs]
  | d + 1, s, hs => by
    show s.a :: _ = adr ss s.name :: _
    rw [adr_of w hs, stOf_mem w.na hs, List.map_flatMap]
    refine congrArg (List.cons s.a) ?_
    show (sortI (s.parts.map (·.1))).flatMap _ = _
    rw [parts_sorted w hs]
    refine flatMap_congr' fun n hn => ?_
    rw [← parts_sorted w hs] at hn
    have hn' := (sortI_perm _).mem_iff.mp hn
    obtain ⟨p, hp, rfl⟩ := List.mem_map.mp hn'
    rw [lkI_of (w.pn s hs) (b := p.2) hp]
    obtain ⟨u, hu, h1, h2, _⟩ := (w.parts s hs p).mp hp
    rw [← h1, ← h2]
    exact fam_view w d hu
theorem famV_in {ow : Addr} {ss : List SurfR} (w : SWf ow ss) : ∀ (d : Nat) {s : SurfR}, s ∈ ss → ∀ n ∈ famV (view ss) d s.name, ∃ u ∈ ss, u.name = n
  | 0, s, hs, n, hn => by rcases List.mem_singleton.mp hn with rfl; exact ⟨s, hs, rfl⟩
  | d + 1, s, hs, n, hn => by
    rcases List.mem_cons.mp hn with rfl | hn
    · exact ⟨s, hs, rfl⟩
    · obtain ⟨m, hm, hn⟩ := List.mem_flatMap.mp hn
      have hm := (sortI_perm _).mem_iff.mp hm
      obtain ⟨v, hv, rfl⟩ := List.mem_map.mp hm
      obtain ⟨u, hu, rfl⟩ := List.mem_map.mp (List.mem_filter.mp hv).1
      exact famV_in w d hu n hn
theorem mem_fam {ow : Addr} {ss : List SurfR} (w : SWf ow ss) {d : Nat} {s u : SurfR} (hs : s ∈ ss) (hu : u ∈ ss) : u.a ∈ fam (stOf ss) d s.a ↔ u.name ∈ famV (view ss) d s.name := by
  rw [fam_view w d hs]
  constructor
  · intro h
    obtain ⟨n, hn, e⟩ := List.mem_map.mp h
    obtain ⟨x, hx, rfl⟩ := famV_in w d hs n hn
    rw [adr_of w hx] at e
    rw [← uni_of w.na hx hu e]; exact hn
  · intro h
    exact List.mem_map.mpr ⟨u.name, h, adr_of w hu⟩
/-- a change that leaves names and places -/
theorem view_map {ss : List SurfR} {f : SurfR → SurfR} (hn : ∀ x ∈ ss, (f x).name = x.name) (ha : ∀ x ∈ ss, (f x).a = x.a) : view (ss.map f) = ss.map fun x => vw ss (f x) := by
  have e : ∀ b, (stOf (ss.map f) b).map (·.name) = (stOf ss b).map (·.name) := fun b => by
    unfold stOf
    rw [List.find?_map]
    induction ss with
    | nil => rfl
    | cons x ss ih =>
      rw [List.find?_cons, List.find?_cons]
      simp only [Function.comp_def, ha x List.mem_cons_self]
      cases decide (x.a = b) with
      | true => simp [hn x List.mem_cons_self]
      | false => exact ih (fun y hy => hn y (List.mem_cons_of_mem _ hy)) (fun y hy => ha y (List.mem_cons_of_mem _ hy))
  unfold view
  rw [List.map_map]
  refine List.map_congr_left fun x hx => ?_
  unfold vw
  simp only [Function.comp_def, e]
theorem vw_ready (ss : List SurfR) (s : SurfR) : vw ss s.showReady = (vw ss s).showReady := by
  unfold SurfR.showReady SurfV.showReady vw
  cases e : s.ready with
  | none => simp [e]
  | some l => simp
theorem StepR.view {ow : Addr} {ss ss' : List SurfR} {z : Lt} (w : SWf ow ss) (hb : canBeB ss z = true) (st : StepR ow ss z ss') (soft : z.soft) (nd : (ss'.map (·.a)).Nodup) : SH.view ss' = stepV (SH.view ss) z := by
  cases st with
  | @make n a dx pa l hv wf =>
    show (ss ++ [_]).map _ = ss.map _ ++ [newV n]
    rw [List.map_append]
    have hfa : ∀ s ∈ ss, s.a ≠ a := fun s hs e => by
      rw [List.map_append] at nd
      exact (List.nodup_append.mp nd).2.2 s.a (List.mem_map_of_mem hs) a (by simp) e
    congr 1
    · refine List.map_congr_left fun x hx => ?_
      unfold vw
      cases e : x.top with
      | none => rfl
      | some b =>
        obtain ⟨t, ht, eb⟩ := w.tops x hx b e
        have e1 : stOf (ss ++ [⟨a, dx, pa, ow, n, true, none, [], l, none, none, false, 0, 0⟩]) b = some t := by
          unfold stOf
          rw [List.find?_append]
          have := stOf_mem w.na ht
          unfold stOf at this
          rw [eb] at this
          rw [this]; rfl
        have e2 : stOf ss b = some t := by rw [← eb]; exact stOf_mem w.na ht
        simp only [Option.bind_some, e1, e2]
    · show [vw _ _] = _
      unfold vw newV
      rw [hv]
      rfl
  | @tie n o i j s t hi hj hn ho =>
    have hb' : canTieB ss n o = true := by
      have : (match findN ss n with | none => false | some _ => canTieB ss n o) = true := hb
      rwa [hn] at this
    obtain ⟨hno, _⟩ := canTie_facts hb'
    obtain ⟨hsn, _⟩ := findN_ix hn
    obtain ⟨htn, _⟩ := findN_ix ho
    have hs := List.mem_of_getElem? hi
    have ht := List.mem_of_getElem? hj
    have hij : i ≠ j := fun z => by subst z; rw [hi] at hj; cases hj; exact hno (hsn.symm.trans htn)
    have hst' : s.name ≠ t.name := by rw [hsn, htn]; exact hno
    have e1 : (ss.set i { s with top := some t.a }).set j { t with parts := t.parts ++ [(s.name, s.a)] } = ss.map fun x => if x.name = t.name then { t with parts := t.parts ++ [(s.name, s.a)] } else if x.name = s.name then { s with top := some t.a } else x := by
      have nn1 : ((ss.set i { s with top := some t.a }).map (·.name)).Nodup := by
        rw [set_map w.nn hi, List.map_map]
        have : ss.map ((fun x => x.name) ∘ fun x => if x.name = s.name then { s with top := some t.a } else x) = ss.map (·.name) := List.map_congr_left fun x hx => by
          simp only [Function.comp_def]; split
          · rename_i h; exact h.symm
          · rfl
        rw [this]; exact w.nn
      rw [set_map nn1 (s := t) (by rw [List.getElem?_set_ne hij]; exact hj), set_map w.nn hi, List.map_map]
      apply List.map_congr_left
      intro x hx
      simp only [Function.comp_def]
      by_cases h1 : x.name = s.name
      · simp only [h1, if_true, hst', if_false]
      · simp only [h1, if_false]
    rw [e1, view_map]
    · show _ = onV (SH.view ss) n _
      unfold onV SH.view
      rw [List.map_map]
      refine List.map_congr_left fun x hx => ?_
      simp only [Function.comp_def]
      by_cases h1 : x.name = t.name
      · have : x = t := uni_of w.nn hx ht h1
        subst this
        rw [if_pos rfl, if_neg (by show ¬ x.name = n; rw [htn]; exact fun z => hno z.symm)]
        rfl
      · rw [if_neg h1]
        by_cases h2 : x.name = s.name
        · have : x = s := uni_of w.nn hx hs h2
          subst this
          rw [if_pos rfl, if_pos (show (vw ss x).name = n from hsn)]
          unfold vw
          simp only [Option.bind_some, stOf_mem w.na ht, Option.map_some, htn]
        · rw [if_neg h2, if_neg (show ¬ (vw ss x).name = n from fun z => h2 (z.trans hsn.symm))]
    · intro x hx
      by_cases h1 : x.name = t.name
      · rw [if_pos h1]; exact h1.symm
      · rw [if_neg h1]
        by_cases h2 : x.name = s.name
        · rw [if_pos h2]; exact h2.symm
        · rw [if_neg h2]
    · intro x hx
      by_cases h1 : x.name = t.name
      · rw [if_pos h1]; rw [uni_of w.nn hx ht h1]
      · rw [if_neg h1]
        by_cases h2 : x.name = s.name
        · rw [if_pos h2]; rw [uni_of w.nn hx hs h2]
        · rw [if_neg h2]
  | @«show» n i s l hi hn hv wf =>
    have hs := List.mem_of_getElem? hi
    obtain ⟨hsn, _⟩ := findN_ix hn
    have e0 : (SH.view (ss.set i { s with ready := some l })) = onV (SH.view ss) n fun v => { v with ready := some v.pend } := by
      rw [set_map w.nn hi, view_map]
      · unfold onV SH.view
        rw [List.map_map]
        refine List.map_congr_left fun x hx => ?_
        simp only [Function.comp_def]
        by_cases h : x.name = s.name
        · have : x = s := uni_of w.nn hx hs h
          subst this
          rw [if_pos rfl, if_pos (show (vw ss x).name = n from hsn)]
          unfold vw
          simp only [Option.map_some, hv]
        · rw [if_neg h, if_neg (show ¬ (vw ss x).name = n from fun z => h (z.trans hsn.symm))]
      · intro x hx
        by_cases h : x.name = s.name
        · rw [if_pos h]; exact h.symm
        · rw [if_neg h]
      · intro x hx
        by_cases h : x.name = s.name
        · rw [if_pos h, uni_of w.nn hx hs h]
        · rw [if_neg h]
    have et : (vfind (SH.view ss) n).bind (·.top) = (vw ss s).top := by rw [vfind_view, hn]; rfl
    show _ = showV (SH.view ss) n
    unfold showSS showV
    dsimp only
    rw [et]
    by_cases htop : s.top = none
    · rw [if_pos htop, if_pos ((top_none w hs).mpr htop), ← e0]
      unfold readyAll
      rw [view_map]
      · generalize hfv : famV (SH.view ss) 2 n = fv
        have hmm : ∀ x0 ∈ ss, (x0.a ∈ fam (stOf ss) 2 s.a) ↔ x0.name ∈ fv := fun x0 hx0 => by rw [mem_fam w hs hx0, hsn, hfv]
        unfold SH.view
        rw [List.map_map]
        refine List.map_congr_left fun x hx => ?_
        simp only [Function.comp_def]
        have hm : (x.a ∈ fam (stOf ss) 2 s.a) ↔ x.name ∈ fv := by
          obtain ⟨x0, hx0, hxa, hxn⟩ : ∃ x0 ∈ ss, x0.a = x.a ∧ x0.name = x.name := by
            rcases List.mem_or_eq_of_mem_set hx with h | rfl
            · exact ⟨x, h, rfl, rfl⟩
            · exact ⟨s, hs, rfl, rfl⟩
          rw [← hxa, ← hxn]; exact hmm x0 hx0
        by_cases h : x.a ∈ fam (stOf ss) 2 s.a
        · rw [if_pos h, if_pos (show (vw _ x).name ∈ _ from hm.mp h)]
          exact vw_ready _ _
        · rw [if_neg h, if_neg (show ¬ (vw _ x).name ∈ _ from fun z => h (hm.mpr z))]
      · intro x _; split <;> simp [showReady_name]
      · intro x _; split <;> simp [showReady_a]
    · rw [if_neg htop, if_neg (fun z => htop ((top_none w hs).mp z))]
      exact e0
  | @look _ n i s l hz hw hi hn ha hv wf =>
    have hs := List.mem_of_getElem? hi
    obtain ⟨hsn, _⟩ := findN_ix hn
    have e0 : (SH.view (ss.set i { s with pend := l })) = onV (SH.view ss) n fun v => { v with pend := chLook z v.pend } := by
      rw [set_map w.nn hi, view_map]
      · unfold onV SH.view
        rw [List.map_map]
        refine List.map_congr_left fun x hx => ?_
        simp only [Function.comp_def]
        by_cases h : x.name = s.name
        · have : x = s := uni_of w.nn hx hs h
          subst this
          rw [if_pos rfl, if_pos (show (vw ss x).name = n from hsn)]
          unfold vw
          simp only [hv]
        · rw [if_neg h, if_neg (show ¬ (vw ss x).name = n from fun z => h (z.trans hsn.symm))]
      · intro x hx
        by_cases h : x.name = s.name
        · rw [if_pos h]; exact h.symm
        · rw [if_neg h]
      · intro x hx
        by_cases h : x.name = s.name
        · rw [if_pos h, uni_of w.nn hx hs h]
        · rw [if_neg h]
    rw [e0]
    obtain ⟨r, hr⟩ := hz
    cases z with
    | make m => exfalso; revert hw; dsimp only [Lt.word]; decide +kernel
    | tie m o => exfalso; revert hw; dsimp only [Lt.word]; decide +kernel
    | «show» m => exfalso; revert hw; dsimp only [Lt.word]; decide +kernel
    | drop m => exact soft.elim
    | hold m => exact soft.elim
    | let_ => exact soft.elim
    | size m _ _ => have : m = n := by simpa [Lt.nums] using congrArg List.head? hr
                    rw [← this]; rfl
    | paint m _ _ _ _ _ => have : m = n := by simpa [Lt.nums] using congrArg List.head? hr
                           rw [← this]; rfl
    | place m _ _ => have : m = n := by simpa [Lt.nums] using congrArg List.head? hr
                     rw [← this]; rfl
    | rank m _ => have : m = n := by simpa [Lt.nums] using congrArg List.head? hr
                  rw [← this]; rfl
    | veil m => have : m = n := by simpa [Lt.nums] using congrArg List.head? hr
                rw [← this]; rfl
    | unveil m => have : m = n := by simpa [Lt.nums] using congrArg List.head? hr
                  rw [← this]; rfl
end SH
set_option Elab.async false
set_option linter.all false
set_option maxRecDepth 100000
namespace SH
open PySem PySem.Spec PyProof.Rows L2
section
variable {P : Program} {w : World} {K : PySem.W.Frag} {mg : Str → Option Value} {base : Heap}
theorem scFirst : FnScope ["client", "hands", "letter"] ["client", "hands"] (defScope sFirst) := ⟨rfl, rfl, rfl, by decide +kernel, rfl, by decide +kernel, by decide +kernel⟩
def spFirst (CC CS CL : Addr) : Sp := fun vs H Q _ => ∃ (A B : Cells) (c : CliH) (ss : List SurfR) (hd : V) (t : Addr) (r : List Addr) (z : Lt), vs = [.ref c.a, hd] ∧ CHas CC CS CL H A B c ss ∧ SWf c.a ss ∧ c.sd = sdOf ss ∧ c.row = t :: r ∧ H t = some (.tup z.vals) ∧ z.ok ∧ z.soft ∧ canBeB ss z = true ∧
  ∀ ss' H', StepR c.a ss z ss' → CHas CC CS CL H' A B { c with row := r, sd := sdOf ss' } ss' → Q .non H'
theorem ok_first {f CC CS CL fB fD : Addr} {fd fdB fdD : FuncData} (F : Fun K "do_first" "do_first" sFirst f fd) (TC : TxtC K mg CC)
    (GB : FnOk P w K mg base CX0 2 fB fdB ["surfaces", "letter"] (spCanBe CC CS CL)) (bB : Binds K fdB ["surfaces", "letter"] []) (gB : mg "can_be" = some (.ref fB)) (kB : PySem.W.keepIn K (.ref fB) = true)
    (GD : FnOk P w K mg base CX0 5 fD fdD ["client", "hands", "letter"] (spDo CC CS CL)) (bD : Binds K fdD ["client", "hands", "letter"] []) (gD : mg "do_letter" = some (.ref fD)) (kD : PySem.W.keepIn K (.ref fD) = true) :
    FnOk P w K mg base CX0 6 f fd ["client", "hands"] (spFirst CC CS CL) := by
  refine F.ok scFirst (fun vs H Q E h => ?_) (fun cdv A0 outer s0 H vs Q E hr h => ?_)
  · obtain ⟨A, B, c, ss, hd, t, r, z, rfl, _⟩ := h
    rfl
  · obtain ⟨A, B, c, ss, hd, t, r, z, rfl, hh, wf, hsd, hrow, ht, hz, soft, hb, k⟩ := h
    refine ⟨_, pss_cons (ps_set (i := 2) scFirst.nd rfl (Or.inl rfl) (pe_bm PySem.F.plainAttrs_list PySem.F.slot_list_pop PySem.F.type_list_pop mt_popAt (pe_fld (pv 0) rfl) (pa_cons pe_int pa_nil)))
      (pss_one (ps_if (pt_val (pe_call GB (hr.mono (by decide)) rfl gB kB bB .nil pass0 (pa_cons (pe_fld (pv 0) rfl) (pa_cons (pv 2) pa_nil))))
        (pss_one (ps_expr (pe_call GD hr rfl gD kD bD .nil pass0 (pa_cons (pv 0) (pa_cons (pv 1) (pa_cons (pv 2) pa_nil)))))) pss_never)), ?_⟩
    have h1 : H c.ra = some (.lst (V.ref t :: r.map V.ref)) := by have := hh.get 1 rfl; rw [hrow] at this; exact this
    refine ⟨_, rfl, c.a, CC, _, _, _, rfl, hh.hd, TC.cl, TC.nrow, clientF_row, .inl ⟨rfl, _, SqL.of h1⟩, ?_⟩
    refine ⟨c.ra, _, 0, 0, V.ref t, rfl, rfl, h1, by decide, by decide, ?_, rfl, ?_⟩
    · show seqIndex? 0 (r.map V.ref).length.succ = some 0
      unfold seqIndex?
      simp
    have h2 := hh.set 1 (o := .lst (c.row.map V.ref)) rfl (.lst (r.map V.ref))
    have h3 : CHas CC CS CL (upd H c.ra (.lst (r.map V.ref))) A B { c with row := r } ss := h2
    have e1 : (V.ref t :: r.map V.ref).eraseIdx 0 = r.map V.ref := rfl
    rw [e1]
    have ht2 : upd H c.ra (.lst (r.map V.ref)) t = some (.tup z.vals) := by
      rw [upd_ne (ne_of ht h1 (by intro q; cases q))]; exact ht
    refine ⟨_, rfl, c.a, CC, _, _, _, rfl, h3.hd, TC.cl, TC.nsurfaces, clientF_surfaces, _, rfl, A, B, { c with row := r }, ss, t, z, rfl, h3, hsd, wf.topsIn, ht2, _, rfl, ?_⟩
    rw [hb]
    refine iteT ?_
    exact ⟨_, rfl, _, rfl, _, rfl, A, B, { c with row := r }, ss, hd, t, z, rfl, h3, wf.cwf hsd, ht2, hz, soft, hb, fun ss' H' st g => k ss' H' st g⟩
end
end SH
set_option Elab.async false
set_option linter.all false
set_option maxRecDepth 100000
namespace SH
open PySem PySem.Spec PyProof.Rows L2
/-- d.get(k) of a written dict -/
def tKGet (K : PySem.W.Frag) (w : World) (td ty : TE) : TE := fun σ H Q => td σ H fun x H1 => ∃ a es n, x = .ref a ∧ KDict K w a es n ∧ ty σ H1 fun y H2 => ∃ (z : Str) (r : Option Value) (v0 : V), y = .str z ∧ PySem.W.nsIn K a z = some r ∧ RelV v0 (r.getD .none) ∧ Q v0 H2
theorem pe_kget {X : Cx} {o e : Expr} {apos cpos : Pos} {td ty : TE} (ho : PE X o td) (he : PE X e ty) (m : M1 X o "get" apos e cpos) : PE X (.Call (.Attribute o "get" apos) [e] [] cpos) (tKGet X.K X.w td ty) := by
  refine ⟨fun pins s σ H Q I h => ?_⟩
  refine wpAny_Call_method m.base m.few m.line PySem.F.plainAttrs_dict PySem.F.slot_dict_get PySem.F.type_dict_get (thn (ho.run pins s σ H _ I h) fun u s1 ⟨x, H1, I1, rx, a, es, n, ex, D, q1⟩ => ?_)
  subst ex
  obtain rfl : u = Value.ref a := rx
  refine ⟨kd_type D I1, fun b q => ?_, ?_⟩
  · cases q
    exact ⟨_, I1.kIn a _ D.at_, rfl⟩
  rw [m.trees]
  refine Calls.callWith_builtin rfl (Calls.evalArgs_plain (Calls.spliced_cons (thn (he.run pins s1 σ H1 _ I1 q1) fun iv s2 ⟨y, H2, I2, ry, z, r, v0, ey, en, rv, q2⟩ => Calls.spliced_nil ?_)))
  subst ey
  obtain ⟨t, rfl⟩ := ry
  refine call_meetsIn PySem.F.slot_dict_get (kd_type D I2) PySem.F.entry_dict_get (PySem.F.args_dict_get_2 _ _) (meets_dict_get (PySem.strKind X.prog X.w) a (PySem.strKind_is X.prog X.w z t) D.low) ⟨_, PySem.W.mapOf_K (prog := X.prog) I2.kIn D.at_ D.lit, ?_⟩
  refine ⟨v0, H2, I2.tok _, ?_, q2⟩
  rw [PySem.W.find_K D.at_ en]
  exact rv
def KTup (K : PySem.W.Frag) (a : Addr) (xs : List V) : Prop := ∃ (o : Obj) (its : Array Value) (n : Nat), K.lookup a = some o ∧ o.cls = .type "tuple" ∧ o.data = .seq its n ∧ its.size ≤ sizeLine ∧ Vals xs its.toList
theorem KTup.sq {K : PySem.W.Frag} {a : Addr} {xs : List V} (h : KTup K a xs) (H : Hp) : SqT K H a xs := .inr h
/-- the written bounds of a word -/
def KB (K : PySem.W.Frag) (tb : Addr) (l : List (Int × Int)) : Prop := ∃ ts : List Addr, KTup K tb (ts.map V.ref) ∧ Paired (fun (t : Addr) (p : Int × Int) => KTup K t [.int p.1, .int p.2]) ts l
abbrev sWithin : Stmt := top 25
abbrev sAre : Stmt := top 26
abbrev sIsLet : Stmt := top 27
structure TxtF (K : PySem.W.Frag) (w : World) (mg : Str → Option Value) : Prop where
  isinst : mg "isinstance" = none
  bool : mg "bool" = none
  int : mg "int" = none
  tuple : mg "tuple" = none
  len : mg "len" = none
  all : mg "all" = none
  zip : mg "zip" = none
  lets : ∃ d es n, mg "LETTERS" = some (.ref d) ∧ KDict K w d es n ∧ ∀ z : Lt, ∃ tb, PySem.W.nsIn K d z.word = some (some (.ref tb)) ∧ KB K tb z.bnds
section
variable {P : Program} {w : World} {K : PySem.W.Frag} {mg : Str → Option Value} {base : Heap}
theorem scWithin : FnScope ["value", "least", "greatest"] ["value", "least", "greatest"] (defScope sWithin) := ⟨rfl, rfl, rfl, by decide +kernel, rfl, by decide +kernel, by decide +kernel⟩
def spWithin : Sp := fun vs H Q _ => ∃ (v lo hi : Int), vs = [.int v, .int lo, .int hi] ∧ Q (.bl (decide (lo ≤ v) && decide (v ≤ hi))) H
theorem tyInt {K : PySem.W.Frag} {H : Hp} {i : Int} : TyX K H (.int i) (.type "int") := .base (by first | exact TyOf.int _ | constructor)
theorem ok_within {f : Addr} {fd : FuncData} (F : Fun K "is_within" "is_within" sWithin f fd) (T : TxtF K w mg) : FnOk P w K mg base CX0 1 f fd ["value", "least", "greatest"] spWithin := by
  refine F.ok scWithin (fun vs H Q E h => ?_) (fun cdv A0 outer s0 H vs Q E hr h => ?_)
  · obtain ⟨v, lo, hi, rfl, _⟩ := h
    rfl
  · obtain ⟨v, lo, hi, rfl, k⟩ := h
    refine ⟨_, pss_cons (ps_if (PW.pt (pw_or (pt_val (pe_callB call_isi (by rfl) T.isinst (by decide +kernel) (pa_cons (pv 0) (pa_cons (pe_bltn (v := .ty "bool") (by rfl) T.bool (by decide +kernel) rfl) pa_nil))))
      (pw_or1 (pt_not (pt_val (pe_callB call_isi (by rfl) T.isinst (by decide +kernel) (pa_cons (pv 0) (pa_cons (pe_bltn (v := .ty "int") (by rfl) T.int (by decide +kernel) rfl) pa_nil)))))))) (pss_one (ps_ret pe_bl)) pss_nil)
      (pss_one (ps_ret (pe_chain op_le op_le (pv 1) (pv 0) (pv 2)))), ?_⟩
    refine ⟨_, rfl, _, _, _, _, false, rfl, by first | exact .ty _ | constructor, tyInt, kit_ty (by decide +kernel), _, rfl, iteF ?_⟩
    refine ⟨_, rfl, _, _, _, _, true, rfl, by first | exact .ty _ | constructor, tyInt, kit_ty (by decide +kernel), _, rfl, iteF ?_⟩
    refine ⟨_, rfl, _, rfl, _, _, rfl, rfl, _, rfl, ?_⟩
    refine ite2 (fun c => ?_) (fun c => ?_)
    · rw [of_decide_eq_true c |> decide_eq_true] at k
      refine ⟨_, rfl, _, _, rfl, rfl, ?_⟩
      simpa using k
    · have c' : decide (lo ≤ v) = false := by simpa using c
      rw [c'] at k
      exact k
end
end SH
set_option Elab.async false
set_option linter.all false
set_option maxRecDepth 100000
namespace SH
open PySem PySem.Spec PyProof.Rows L2 RZ
theorem walk_zipT {K : PySem.W.Frag} {a b : Addr} {xs ys : List V} {n : Nat} (hn : n = min xs.length ys.length) : Walk (ItzT K a b) n (fun H => SqT K H a xs ∧ SqT K H b ys) (YPair (fun i => xs[i]?) (fun i => ys[i]?)) := by
  subst hn
  refine ⟨fun i _ hi q => ?_, fun _ q => ⟨xs, ys, q.1, q.2, by omega⟩, fun i H v H' _ q y => ?_⟩
  · have h1 : i < xs.length := by omega
    have h2 : i < ys.length := by omega
    exact ⟨xs, ys, xs[i], ys[i], q.1, q.2, by simp [h1], by simp [h2]⟩
  · obtain ⟨T, x, z, h1, h2, h3, h4, h5⟩ := y
    exact ⟨T, x, z, h1, h2, h3, h4 xs q.1, h5 ys q.2⟩
def inB (ns : List Int) (bs : List (Int × Int)) : Bool := decide (ns.length = bs.length) && (ns.zip bs).all fun p => decide (p.2.1 ≤ p.1) && decide (p.1 ≤ p.2.2)
theorem paired_ix {α β : Type} {R : α → β → Prop} : ∀ {xs : List α} {ys : List β} {i : Nat} {x : α} {y : β}, Paired R xs ys → xs[i]? = some x → ys[i]? = some y → R x y
  | _, _, _, _, _, .nil, h, _ => by simp at h
  | _, _, 0, _, _, .cons r _, h, h' => by simp at h h'; subst h; subst h'; exact r
  | _, _, i + 1, _, _, .cons _ t, h, h' => paired_ix (i := i) t (by simpa using h) (by simpa using h')
theorem paired_len {α β : Type} {R : α → β → Prop} : ∀ {xs : List α} {ys : List β}, Paired R xs ys → xs.length = ys.length
  | _, _, .nil => rfl
  | _, _, .cons _ t => by simp [paired_len t]
section
variable {P : Program} {w : World} {K : PySem.W.Frag} {mg : Str → Option Value} {base : Heap}
abbrev nAre : List Str := ["numbers", "bounds", "number", "least", "greatest"]
theorem scAre : FnScope nAre ["numbers", "bounds"] (defScope sAre) := ⟨rfl, rfl, rfl, by decide +kernel, rfl, by decide +kernel, by decide +kernel⟩
def spAre (K : PySem.W.Frag) : Sp := fun vs H Q _ => ∃ (tn tb : Addr) (ns : List Int) (bs : List (Int × Int)), vs = [.ref tn, .ref tb] ∧ H tn = some (.tup (ns.map V.int)) ∧ ns.length ≤ 20 ∧ KB K tb bs ∧ ∀ H', Same H H' → Q (.bl (inB ns bs)) H'
theorem ok_are {f fW : Addr} {fd fdW : FuncData} (F : Fun K "are_within" "are_within" sAre f fd) (T : TxtF K w mg) (FW : Fun K "is_within" "is_within" sWithin fW fdW) (bW : Binds K fdW ["value", "least", "greatest"] []) (gW : mg "is_within" = some (.ref fW)) :
    FnOk P w K mg base CX0 2 f fd ["numbers", "bounds"] (spAre K) := by
  have GW := ok_within (P := P) (w := w) (mg := mg) (base := base) FW T
  refine F.ok scAre (fun vs H Q E h => ?_) (fun cdv A0 outer s0 H vs Q E hr h => ?_)
  · obtain ⟨tn, tb, ns, bs, rfl, _⟩ := h
    rfl
  · obtain ⟨tn, tb, ns, bs, rfl, hn, hnl, ⟨ts, hts, hp⟩, k⟩ := h
    have hpl := paired_len hp
    refine ⟨_, pss_cons (ps_if (pt_cmpR op_ne (pe_callB call_len_seq (by rfl) T.len PySem.boot_len (pa_cons (pv 0) pa_nil)) (pe_callB call_len_seq (by rfl) T.len PySem.boot_len (pa_cons (pv 1) pa_nil)) (nomark _)) (pss_one (ps_ret pe_bl)) pss_nil)
      (pss_one (ps_ret (pe_callB (cr_all rfl) (by rfl) T.all (by decide +kernel) (pa_cons (pe_lc (own := [("number", 2), ("least", 3), ("greatest", 4)])
        (g := gTup K 2 (gCons (gName 2) (gCons (gTup K 2 (gCons (gName 3) (gCons (gName 4) gNil))) gNil))) (te := tCall spWithin [] E0 (tCons (tVar 2) (tCons (tVar 3) (tCons (tVar 4) tNil))))
        (by rfl) scAre.nd (pi_zipA (by rfl) T.zip (pa_cons (pv 0) (pa_cons (pv 1) pa_nil))) (blkOk_by (own := [("number", 2), ("least", 3), ("greatest", 4)]) (N := nAre) (sc := defScope sAre) (by decide +kernel))
        (fun _ _ _ _ _ => pg_tup rfl (pgs_cons (pg_name (i := 2) scAre.nd rfl (Or.inl rfl)) (pgs_cons (pg_tup rfl (pgs_cons (pg_name (i := 3) scAre.nd rfl (Or.inl rfl)) (pgs_cons (pg_name (i := 4) scAre.nd rfl (Or.inl rfl)) pgs_nil))) pgs_nil)))
        (fun _ _ _ _ _ => pts_nil) (fun _ _ _ _ _ => pe_call GW (hr.mono (by decide)) rfl gW FW.kp bW .nil pass0 (pa_cons (pv 2) (pa_cons (pv 3) (pa_cons (pv 4) pa_nil))))) pa_nil)))), ?_⟩
    refine ⟨_, rfl, tn, _, rfl, .inr (SqT.of hn), _, rfl, tb, _, rfl, .inr (hts.sq H), rfl, _, rfl, ?_⟩
    rw [List.length_map, List.length_map, hpl]
    by_cases hl : ns.length = bs.length
    · rw [decide_eq_true (show V.int (ns.length : Int) = V.int (bs.length : Int) by rw [hl])]
      refine iteF ?_
      refine ⟨_, rfl, _, rfl, tn, tb, _, _, rfl, .inr ⟨SqT.of hn, hts.sq H, fun D hD => ?_⟩⟩
      refine lc_it (walk_zipT (xs := ns.map V.int) (ys := ts.map V.ref) (n := ns.length) (by rw [List.length_map, List.length_map, hpl, ← hl]; simp)) (fun i H2 => Same H H2 ∧ H2 D = some (.lst (((ns.zip bs).take i).map fun p => V.bl (decide (p.2.1 ≤ p.1) && decide (p.1 ≤ p.2.2))))) ?_ ?_ ?_ ?_
      · exact ⟨Same.new _ hD, upd_same⟩
      · rintro i H2 _ ⟨s2, _⟩
        exact ⟨SqT.of (s2 _ _ hn), hts.sq H2⟩
      · rintro i x H2 H3 hi ⟨s2, hD2⟩ ⟨Tp, x1, x2, rfl, hT, rfl, e1, e2⟩
        simp only [List.getElem?_map] at e1 e2
        have hib : i < bs.length := by omega
        have hit : i < ts.length := by omega
        rw [List.getElem?_eq_getElem hi] at e1
        rw [List.getElem?_eq_getElem hit] at e2
        obtain rfl : V.int ns[i] = x1 := Option.some.inj e1
        obtain rfl : V.ref ts[i] = x2 := Option.some.inj e2
        have hk := paired_ix hp (List.getElem?_eq_getElem hit) (List.getElem?_eq_getElem hib)
        refine ⟨Tp, _, rfl, SqT.of upd_same, rfl, _, _, rfl, _, _, rfl, ⟨ts[i], _, rfl, hk.sq _, rfl, _, _, rfl, _, _, rfl, rfl, ?_⟩⟩
        refine ⟨rfl, rfl, ?_⟩
        refine ⟨_, rfl, _, rfl, _, rfl, ns[i], bs[i].1, bs[i].2, rfl, ?_⟩
        have hD3 : upd H2 Tp (.tup [V.int ns[i], V.ref ts[i]]) D = some (.lst (((ns.zip bs).take i).map fun p => V.bl (decide (p.2.1 ≤ p.1) && decide (p.1 ≤ p.2.2)))) := by
          rw [upd_ne (ne_of_none hD2 hT)]; exact hD2
        refine ⟨_, hD3, ?_, ?_, ?_⟩
        · rw [List.length_map, List.length_take]; exact small1000 (by omega)
        · exact Same.mut _ (Same.mut _ s2 (s2.free hT)) hD
        · rw [upd_same, List.take_add_one]
          have e3 : (ns.zip bs)[i]? = some (ns[i], bs[i]) := by rw [List.getElem?_zip_eq_some (z := (ns[i], bs[i])) |>.mpr ⟨List.getElem?_eq_getElem hi, (List.getElem?_eq_getElem hib : bs[i]? = some bs[i])⟩]
          rw [e3, List.map_append]; rfl
      · rintro H2 ⟨s2, hD2⟩
        have e4 : (ns.zip bs).take ns.length = ns.zip bs := List.take_of_length_le (by rw [List.length_zip]; omega)
        rw [e4] at hD2
        refine ⟨D, (ns.zip bs).map fun p => decide (p.2.1 ≤ p.1) && decide (p.1 ≤ p.2.2), rfl, SqL.of (by rw [hD2, List.map_map]; rfl), ?_⟩
        have e5 : inB ns bs = ((ns.zip bs).map fun p => decide (p.2.1 ≤ p.1) && decide (p.1 ≤ p.2.2)).all id := by
          unfold inB
          rw [decide_eq_true hl, List.all_map]; rfl
        have k := k H2 s2
        rw [e5] at k
        exact k
    · rw [decide_eq_false (show ¬ V.int (ns.length : Int) = V.int (bs.length : Int) from fun z => hl (by have := V.int.inj z; omega))]
      have e5 : inB ns bs = false := by unfold inB; rw [decide_eq_false hl]; rfl
      have k := k H (Same.refl H)
      rw [e5] at k
      exact k
end
end SH
set_option Elab.async false
set_option linter.all false
set_option maxRecDepth 100000
namespace SH
open PySem PySem.Spec PyProof.Rows L2
theorem Lt.len (z : Lt) : z.nums.length = z.bnds.length := by cases z <;> rfl
theorem Lt.ok_inB {z : Lt} (h : z.ok) : inB z.nums z.bnds = true := by
  unfold inB
  rw [decide_eq_true z.len, Bool.true_and, List.all_eq_true]
  intro p hp
  have := h p hp
  rw [decide_eq_true this.1, decide_eq_true this.2]; rfl
theorem Lt.nlen (z : Lt) : z.nums.length ≤ 6 := by cases z <;> simp [Lt.nums]
section
variable {P : Program} {w : World} {K : PySem.W.Frag} {mg : Str → Option Value} {base : Heap}
theorem scIsLet : FnScope ["letter", "bounds"] ["letter"] (defScope sIsLet) := ⟨rfl, rfl, rfl, by decide +kernel, rfl, by decide +kernel, by decide +kernel⟩
def spIsLet : Sp := fun vs H Q _ => ∃ (t : Addr) (z : Lt), vs = [.ref t] ∧ H t = some (.tup z.vals) ∧ z.ok ∧ ∀ H', Same H H' → Q (.bl true) H'
theorem ok_isLet {f fA : Addr} {fd fdA : FuncData} (F : Fun K "is_letter" "is_letter" sIsLet f fd) (T : TxtF K w mg)
    (GA : FnOk P w K mg base CX0 2 fA fdA ["numbers", "bounds"] (spAre K)) (bA : Binds K fdA ["numbers", "bounds"] []) (gA : mg "are_within" = some (.ref fA)) (kA : PySem.W.keepIn K (.ref fA) = true) :
    FnOk P w K mg base CX0 3 f fd ["letter"] spIsLet := by
  obtain ⟨d, es, n, gL, KD, hL⟩ := T.lets
  refine F.ok scIsLet (fun vs H Q E h => ?_) (fun cdv A0 outer s0 H vs Q E hr h => ?_)
  · obtain ⟨t, z, rfl, _⟩ := h
    rfl
  · obtain ⟨t, z, rfl, ht, hz, k⟩ := h
    obtain ⟨tb, h1, h2⟩ := hL z
    refine ⟨_, pss_cons (ps_if (PW.pt (pw_or (pt_not (pt_val (pe_callB call_isi (by rfl) T.isinst (by decide +kernel) (pa_cons (pv 0) (pa_cons (pe_bltn (v := .ty "tuple") (by rfl) T.tuple (by decide +kernel) rfl) pa_nil)))))
        (pw_or1 (pt_cmpR op_eq (pe_callB call_len_seq (by rfl) T.len PySem.boot_len (pa_cons (pv 0) pa_nil)) pe_int (nomark _))))) (pss_one (ps_ret pe_bl)) pss_nil)
      (pss_cons (ps_set (i := 1) scIsLet.nd rfl (Or.inl rfl) (pe_kget (pe_glob rfl gL (v := .ref d) rfl) (pe_ix ix_tup (pv 0) pe_int (fun _ _ => rfl)) ⟨rfl, rfl, rfl, rfl⟩))
      (pss_one (ps_ret (pe_and (pe_cmpR op_notN (pv 1) pe_non (nomark _)) (pe_one (pe_call GA hr rfl gA kA bA .nil pass0 (pa_cons (pe_slice sl_tup (pv 0) (po_some pe_int) po_none) (pa_cons (pv 1) pa_nil)))))))), ?_⟩
    refine ⟨_, rfl, _, _, _, _, true, rfl, by first | exact .ty _ | constructor, .base (.tup ht), kit_ty (by decide +kernel), _, rfl, iteF ?_⟩
    refine ⟨_, rfl, t, _, rfl, .inr (SqT.of ht), rfl, _, rfl, ?_⟩
    have e0 : decide (V.int ((z.vals.length : Nat) : Int) = V.int 0) = false := decide_eq_false (fun q => by have := V.int.inj q; unfold Lt.vals at this; simp at this; omega)
    rw [e0]
    refine iteF ?_
    refine ⟨d, es, n, rfl, KD, _, rfl, _, _, _, V.str z.word, rfl, rfl, SqT.of ht, at_of (j := 0) rfl rfl, z.word, _, V.ref tb, rfl, h1, rfl, ?_⟩
    refine ⟨_, rfl, rfl, _, rfl, ?_⟩
    refine iteT ?_
    refine ⟨_, rfl, _, rfl, t, _, rfl, SqT.of ht, ?_, fun p hp => ?_⟩
    · intro q
      have := q.1
      revert this
      unfold Lt.vals
      simp [HT.sIx]
    · refine ⟨_, rfl, p, tb, z.nums, z.bnds, rfl, ?_, Nat.le_trans z.nlen (by decide), h2, fun H' s => ?_⟩
      · rw [upd_same]
        congr 2
        cases z <;> rfl
      · rw [Lt.ok_inB hz]
        exact k H' ((Same.new _ hp).trans s)
end
end SH
set_option Elab.async false
set_option linter.all false
set_option maxRecDepth 100000
namespace SH
open PySem PySem.Spec PyProof.Rows L2
/-- an expression that changes nothing but tokens -/
def PX (X : Cx) (e : Expr) (c : L2.St → Hp → V → Prop) : Prop := ∀ (pins : List (Addr × Obj)) (s : Shared) (σ : L2.St) (H : Hp) (v : V) (Q : Value → Shared → Prop), Inv X pins σ H s → c σ H v →
  (∀ u tk, RelV v u → Inv X pins σ H { s with toks := tk } → Q u { s with toks := tk }) → wpAny (model X.prog X.w) X.A (eval e X.env) Q X.xe s
section
variable {X : Cx}
theorem px_var {i : Nat} {x : Str} {pos : Pos} (hN : X.N[i]? = some x) (hv : X.env.scope.names.lookup x = some .local) (hd : (x == ("__debug__" : Str)) = false := by decide) : PX X (.Name x pos) (fun σ _ v => σ[i]? = some (some v)) := by
  intro pins s σ H v Q I e h
  obtain ⟨m, hn, hl⟩ := I.loc
  obtain ⟨u, r, l⟩ := hl i x v hN e (.inl hv)
  rcases l with ⟨hk, hm⟩ | ⟨hk, c, hc, hcell⟩
  · exact wpAny_Name (wpAny_loadName_local I.ok.kind hk hn hm (h u s.toks r I)) hd
  · have hk' : X.env.scope.names.lookup x = some .cell ∨ X.env.scope.names.lookup x = some .free := hk
    rw [hv] at hk'
    rcases hk' with q | q <;> cases q
theorem px_fld {e : Expr} {f : Str} {pos : Pos} {c : L2.St → Hp → V → Prop} (he : PX X e c) (hb : attributeBase e f X.env (eval e X.env) = eval e X.env) :
    PX X (.Attribute e f pos) (fun σ H v => ∃ a C dx fs, c σ H (.ref a) ∧ H a = some (.ins C dx fs) ∧ Cls X.K C ∧ NoAttr X.K C f ∧ fs.lookup f = some v) := by
  intro pins s σ H v Q I hc h
  obtain ⟨a, C, dx, fs, h1, h2, h3, h4, h5⟩ := hc
  refine attr_of hb (he pins s σ H (.ref a) _ I h1 fun u tk ru I1 => ?_)
  obtain rfl : u = Value.ref a := ru
  obtain ⟨mA, O, r, _, _, _⟩ := ins_get I1.hok h2
  obtain ⟨u, hu, ru⟩ := RelO.some_of (v := v) (o := mA f) (by rw [← h5]; exact r f)
  exact get_map I1.kIn O (h3.get f) h3.hd h4 hu (handed_of ru) (h u _ ru (I1.tok _))
end

abbrev sOrder : Stmt := top 33
abbrev sLay : Stmt := top 34
abbrev sLayers : Stmt := top 35
/-- a surface's key -/
def KeyAt (K : PySem.W.Frag) (H : Hp) (a : Addr) (q : Int × Int × Int) : Prop := ∃ CS CL CC dx dl dc fs fl fc l c, H a = some (.ins CS dx fs) ∧ fs.lookup ("shown" : Str) = some (.ref l) ∧ fs.lookup ("owner" : Str) = some (.ref c) ∧ fs.lookup ("name" : Str) = some (.int q.2.2) ∧
  H l = some (.ins CL dl fl) ∧ fl.lookup ("rank" : Str) = some (.int q.1) ∧ H c = some (.ins CC dc fc) ∧ fc.lookup ("number" : Str) = some (.int q.2.1) ∧
  Cls K CS ∧ NoAttr K CS "shown" ∧ NoAttr K CS "owner" ∧ NoAttr K CS "name" ∧ Cls K CL ∧ NoAttr K CL "rank" ∧ Cls K CC ∧ NoAttr K CC "number"
def keyD (q : Int × Int × Int) : PyData := .tuple [.int q.1, .int q.2.1, .int q.2.2]
section
variable {P : Program} {w : World} {K : PySem.W.Frag} {mg : Str → Option Value} {base : Heap}
theorem scOrder : FnScope ["surface"] ["surface"] (defScope sOrder) := ⟨rfl, rfl, rfl, by decide +kernel, rfl, by decide +kernel, by decide +kernel⟩
theorem order_call {f : Addr} {fd : FuncData} (F : Fun K "laying_order" "laying_order" sOrder f fd) (bF : Binds K fd ["surface"] []) {A : Around} {outer : List Env} {s : Shared} {H : Hp} {a : Addr} {q : Int × Int × Int}
    (hr : Room 2 A) (e0 : Env0 P w K mg base A outer s H) (hk : KeyAt K H a q) : wpAny (model P w) A (call (.ref f) [.ref a]) (PySem.W.KeyPure (keyD q) s) (fun _ _ => False) s := by
  obtain ⟨oc, od, kV, doc, pm, an, cdv, ct, osl, rfl, lk, hcd⟩ := F.ex
  have KX : K.In s.heap := e0.mod.kin.keeps fun b o e => (e0.bs b o e).1
  have lim : s.heap.NoLimit := e0.mod.nolimit.keeps fun b o e => (e0.bs b o e).1
  have S := scOrder
  have hkind : ∀ y ∈ (["surface"] : List Str).zip [Value.ref a], (defScope sOrder).names.lookup y.1 = some .local ∨ ((defScope sOrder).names.lookup y.1 = some .cell ∧ ((cellsFrom (s.heap.objs.size + 1) (defScope sOrder).names []).lookup y.1).isSome = true) := fun ⟨n, v⟩ hy => by
    rcases S.par n (List.of_mem_zip hy).1 with q | q
    · exact .inl q
    · exact .inr ⟨q, PySem.W.cellsFrom_some _ _ _ (.inl q)⟩
  have hbt := bF s [Value.ref a] KX rfl
  refine wpAny_call ?_
  refine codeAny_call_function hr.depth (KX _ _ lk) rfl S.co S.gen rfl (PySem.W.codeRec_of KX hcd) (hbt _ _ _ _ ?_)
  refine wpAny_newFunctionEnv_cells S.kind hkind fun env he s1 x => ?_
  subst he
  refine ⟨lim.keeps x.toInCall.keep, codeAny_func ?_⟩
  have I : Inv (cxOf CX0 P w K mg base ["surface"] "laying_order" (defScope sOrder) f cdv A outer s H E0) [] (start ["surface"] [.ref a]) H s1 := inv_start S hr.hd e0 rfl (.cons rfl .nil) x
  obtain ⟨CS, CL, CC, dx, dl, dc, fs, fl, fc, l, c, h1, h2, h3, h4, h5, h6, h7, h8, c1, n1, n2, n3, c2, n4, c3, n5⟩ := hk
  obtain ⟨h1', tk1, es1, kp1⟩ := x.done
  generalize hX : cxOf CX0 P w K mg base ["surface"] "laying_order" (defScope sOrder) f cdv A outer s H E0 = X at I
  have J : Inv X.nox [] (start ["surface"] [.ref a]) H s1 := I.wish _
  subst hX
  have body : wpAny (model P w) (A.deeper (envOfC "laying_order" (defScope sOrder) s.heap.objs.size f cdv)) (execs (defBody sOrder) (envOfC "laying_order" (defScope sOrder) s.heap.objs.size f cdv))
      (fun fl s' => ∃ v, fl = .ret v ∧ PySem.W.KeyPure (keyD q) s1 v s') (fun _ _ => False) s1 := by
    refine wpAny_execs_cons (wpAny_Return_some (wpAny_Tuple_spliced (Calls.spliced_cons ?_)))
    refine px_fld (X := (cxOf CX0 P w K mg base ["surface"] "laying_order" (defScope sOrder) f cdv A outer s H E0).nox) (px_fld (px_var (i := 0) rfl rfl) rfl) rfl [] s1 _ H (.int q.1) _ J ⟨l, CL, dl, fl, ⟨a, CS, dx, fs, rfl, h1, c1, n1, h2⟩, h5, c2, n4, h6⟩ fun u1 t1 r1 J1 => ?_
    refine Calls.spliced_cons ?_
    refine px_fld (X := (cxOf CX0 P w K mg base ["surface"] "laying_order" (defScope sOrder) f cdv A outer s H E0).nox) (px_fld (px_var (i := 0) rfl rfl) rfl) rfl [] _ _ H (.int q.2.1) _ J1 ⟨c, CC, dc, fc, ⟨a, CS, dx, fs, rfl, h1, c1, n2, h3⟩, h7, c3, n5, h8⟩ fun u2 t2 r2 J2 => ?_
    refine Calls.spliced_cons ?_
    refine px_fld (X := (cxOf CX0 P w K mg base ["surface"] "laying_order" (defScope sOrder) f cdv A outer s H E0).nox) (px_var (i := 0) rfl rfl) rfl [] _ _ H (.int q.2.2) _ J2 ⟨a, CS, dx, fs, rfl, h1, c1, n3, h4⟩ fun u3 t3 r3 J3 => ?_
    refine Calls.spliced_nil ⟨by show 3 ≤ sizeLine; exact small (by decide), ?_⟩
    obtain ⟨k1, rfl⟩ := r1
    obtain ⟨k2, rfl⟩ := r2
    obtain ⟨k3, rfl⟩ := r3
    refine ⟨_, rfl, _, _, rfl, fun b o e => Heap.get?_push_of_some _ e, ?_⟩
    exact .tuple (Heap.get?_push_size _ rfl) rfl rfl (.cons (.int _ _) (.cons (.int _ _) (.cons (.int _ _) .nil)))
  refine wpAny_mono body (fun fl s' hs => ?_) fun _ _ hs => False.elim hs
  obtain ⟨v, rfl, h', tk, rfl, kp, rd⟩ := hs
  show PySem.W.KeyPure (keyD q) s v _
  subst es1
  exact ⟨h', tk, rfl, fun b o e => kp b o (kp1 b o e), rd⟩
end
end SH
set_option Elab.async false
set_option linter.all false
set_option maxRecDepth 100000
namespace SH
open PySem PySem.Spec PyProof.Rows L2
def ltO (q p : Int × Int × Int) : Prop := q.1 < p.1 ∨ (q.1 = p.1 ∧ (q.2.1 < p.2.1 ∨ (q.2.1 = p.2.1 ∧ q.2.2 < p.2.2)))
instance (q p : Int × Int × Int) : Decidable (ltO q p) := by unfold ltO; infer_instance
def leO (q p : Int × Int × Int) : Bool := !decide (ltO p q)
theorem dataLt_key (q p : Int × Int × Int) : PySem.W.dataLt (keyD q) (keyD p) = decide (ltO q p) := by
  unfold keyD
  rw [PySem.W.dataLt_tuple, PySem.W.dataLt_cons (by simp [PySem.W.alike]), PySem.W.dataLt_cons (by simp [PySem.W.alike]), PySem.W.dataLt_cons (by simp [PySem.W.alike]), PySem.W.dataLt_int, PySem.W.dataLt_int, PySem.W.dataLt_int]
  have e : PyProof.Rows.lexLt PyProof.Rows.itemOrd (PySem.W.keyToksAll []) (PySem.W.keyToksAll []) = false := PyProof.Rows.lex_irrefl _
  rw [e]
  simp only [PyData.eqv, beq_iff_eq]
  unfold ltO
  by_cases h1 : q.1 = p.1 <;> by_cases h2 : q.2.1 = p.2.1 <;> by_cases h3 : q.2.2 = p.2.2 <;> simp [h1, h2, h3]
theorem dataLe_key {β : Type} (k : β → Int × Int × Int) : PySem.W.dataLe false (fun b => keyD (k b)) = fun a b => leO (k a) (k b) := by
  funext a b
  show (!PySem.W.dataLt (keyD (k b)) (keyD (k a))) = _
  rw [dataLt_key]; rfl
def sortO (as : List (Addr × Int × Int × Int)) : List (Addr × Int × Int × Int) := as.mergeSort fun a b => leO a.2 b.2
def rSortO (K : PySem.W.Frag) (f : Addr) : List V → List V → Hp → VK → Prop := fun vs zs H Q => ∃ (l : Addr) (as : List (Addr × Int × Int × Int)), vs = [.ref l] ∧ zs = [.ref f] ∧ SqL K H l (as.map fun p => V.ref p.1) ∧ as.length ≤ 1000 ∧ (∀ p ∈ as, KeyAt K H p.1 p.2) ∧
  ∀ p, H p = none → Q (.ref p) (upd H p (.lst ((sortO as).map fun p => V.ref p.1)))
theorem each_refs : ∀ {as : List (Addr × Int × Int × Int)} {us : List Value}, Vals (as.map fun p => V.ref p.1) us → PySem.W.EachIs (fun (v : Value) (p : Addr × Int × Int × Int) => v = .ref p.1) us as
  | [], _, r => by cases r; exact .nil
  | p :: as, _, r => by
    cases r with
    | cons r rs => exact .cons r (each_refs rs)
theorem refs_each : ∀ {as : List (Addr × Int × Int × Int)} {us : List Value}, PySem.W.EachIs (fun (v : Value) (p : Addr × Int × Int × Int) => v = .ref p.1) us as → Vals (as.map fun p => V.ref p.1) us
  | [], _, r => by cases r; exact .nil
  | p :: as, _, r => by
    cases r with
    | cons r rs => exact .cons r (refs_each rs)
theorem cr_sortO {X : Cx} (hcalm : X.calm = true) {f : Addr} {fd : FuncData} (F : Fun X.K "laying_order" "laying_order" sOrder f fd) (bF : Binds X.K fd ["surface"] []) (hr : Room 4 X.A) : CallRK X (.builtin "sorted") [Str.ofString "key"] (rSortO X.K f) := by
  intro pins s σ H vs zs us ws Q I r rz h
  obtain ⟨l, as, rfl, rfl, hs, hl, hk, q⟩ := h
  obtain rfl := Vals.ref1 r
  obtain ⟨w1, rfl, e1⟩ := vals1 rz
  obtain rfl : w1 = Value.ref f := e1
  obtain ⟨its, rv, hpl, hz⟩ := I.list hs
  have ea := each_refs rv
  have hlen : as.length ≤ sizeLine := small hl
  refine PySem.W.sorted_key_data (fun p : Addr × Int × Int × Int => keyD p.2) hpl.isList ea (PySem.W.AllAlike.of fun b b' => by simp [keyD, PySem.W.alike, PySem.W.alikeAll]) (PySem.W.Sortable.tuples fun b => ⟨_, _, rfl⟩) hlen
    (fun x _ => ?_) (PyProof.Rows.ksk_s1 _ _) (fun _ => PyProof.Rows.ksk_l1 _ _) (fun x => PyProof.Rows.ksk_t1 f x) (fun v x hR hx h tk kp => ?_) fun out c h' tk kp fresh hD hol eo => ?_
  · have := hr.un
    simp [keyD, PyData.depth, PyData.depthAll]
    omega
  · subst hR
    have e0 := I.env0
    have e1 : Env0 X.prog X.w X.K X.mg X.base X.A X.stack { s with heap := h, toks := tk } H :=
      ⟨e0.frames, e0.mod, fun b o e => ⟨kp b o (e0.bs b o e).1, (e0.bs b o e).2⟩, (by
        obtain ⟨m, ⟨o, es, ep, ho, _⟩, _⟩ := I.loc
        have h1 := Heap.lt_size (kp _ _ ho)
        exact Nat.le_trans I.ok.bsz (Nat.le_trans I.ok.above (Nat.le_of_lt h1))), Heap.FunFrames.of_keeps (fun b x e _ => ⟨x, kp b x e, rfl⟩) e0.funs, e0.frf, e0.hok.kept kp, e0.bare⟩
    exact order_call (q := x.2) F bF (hr.in1.in1) e1.in1.in1 (hk x hx)
  · have eo' : PySem.W.EachIs (fun (v : Value) (p : Addr × Int × Int × Int) => v = .ref p.1) out (sortO as) := by
      rw [dataLe_key (fun p : Addr × Int × Int × Int => p.2)] at eo
      exact eo
    have hp := I.hok.fresh (Nat.le_succ s.heap.objs.size)
    refine ⟨.ref _, upd H (s.heap.objs.size + 1) (.lst ((sortO as).map fun p => V.ref p.1)), I.laid (t' := tk) kp (Nat.le_succ _) ⟨?_, out, c, refs_each eo', hD⟩, rfl, q _ hp⟩
    rw [List.length_map]
    unfold sortO
    rw [List.length_mergeSort]; exact hlen
end SH
set_option Elab.async false
set_option linter.all false
set_option maxRecDepth 100000
namespace SH
open PySem PySem.Spec PyProof.Rows L2
theorem paired_ix' {α β : Type} {R : α → β → Prop} : ∀ {xs : List α} {ys : List β} {i : Nat} {x : α} {y : β}, Paired R xs ys → xs[i]? = some x → ys[i]? = some y → R x y
  | _, _, _, _, _, .nil, h, _ => by simp at h
  | _, _, 0, _, _, .cons r _, h, h' => by simp at h h'; subst h; subst h'; exact r
  | _, _, i + 1, _, _, .cons _ t, h, h' => paired_ix' (i := i) t (by simpa using h) (by simpa using h')
theorem vals_of_ix : ∀ {xs : List V} {us : List Value}, xs.length = us.length → (∀ (j : Nat) x u, xs[j]? = some x → us[j]? = some u → RelV x u) → Vals xs us
  | [], [], _, _ => .nil
  | [], _ :: _, h, _ => by cases h
  | _ :: _, [], h, _ => by cases h
  | x :: xs, u :: us, h, k => .cons (k 0 x u rfl rfl) (vals_of_ix (by simpa using h) fun j x u h1 h2 => k (j + 1) x u (by simpa using h1) (by simpa using h2))
/-- list(e.values()) -/
def tListVals (te : TE) : TE := fun σ H Q => te σ H fun x H1 => ∃ d kvs, x = .ref d ∧ H1 d = some (.dK kvs) ∧ ∀ p, H1 p = none → Q (.ref p) (upd H1 p (.lst (kvs.map (·.2))))
theorem pe_listVals {X : Cx} {e : Expr} {te : TE} {p pos apos cpos : Pos} (hc : X.calm = true) (he : PE X e te) (hg : Gl X "list") (hm : X.mg "list" = none) (hv : bootBuiltins "list" = some (.type "list")) (hbase : attributeBase e "values" X.env (eval e X.env) = eval e X.env := by rfl) (hline : (apos.endLine == cpos.line) = true := by rfl)
    (hs : starEach [.Call (.Attribute e "values" apos) [] [] cpos] X.env = (false, eval (.Call (.Attribute e "values" apos) [] [] cpos) X.env) :: starEach [] X.env := by rfl) :
    PE X (.Call (.Name "list" p) [.Call (.Attribute e "values" apos) [] [] cpos] [] pos) (tListVals te) := by
  refine ⟨fun pins s σ H Q I hq => ?_⟩
  refine wpAny_Call_Name_kw (ld_blt I hg hm hv ?_)
  refine PyProof.Rows.callWith_type1 ?_ hs rfl
  rw [hs]
  show wpAny _ _ (spliced ((false, eval (.Call (.Attribute e "values" apos) [] [] cpos) X.env) :: backTo pos (starEach [] X.env))) _ _ s
  refine Calls.spliced_cons ?_
  refine wpAny_Call_method (T := "dict") (id := "dict.values") hbase rfl hline F.plainAttrs_dict F.slot_dict_values F.type_dict_values (thn (he.run pins s σ H _ I hq) fun u s1 ⟨x, H1, I1, rx, d, kvs, ex, hd, q⟩ => ?_)
  subst ex
  obtain rfl : u = Value.ref d := rx
  obtain ⟨hz, hs0, vs, kv, hdo⟩ := I1.hok d _ hd
  have lk : kvs.length = vs.length := Paired.length kv
  have I2 : Inv X pins σ H1 { s1 with heap := s1.heap.push { cls := .type "dict_values", data := .fields #[.ref d] } } := I1.kept (t' := s1.toks) fun b ob q => Heap.get?_push_of_some _ q
  refine ⟨hdo.typeIs, hdo.mapOf.noDict, ?_⟩
  show wpAny _ _ (callWith cpos (.builtin "dict.values") [.ref d] [] []) _ X.xe s1
  refine method_meetsIn F.slot_dict_values F.entry_dict_values rfl (PySem.evalArgs_none ⟨rfl, hdo.typeIs, F.args_dict_values_1 _, _, meets_dict_values (mixKind X.prog X.w) d hs0, ⟨vs, hdo⟩, ?_⟩)
  refine Calls.spliced_nil ?_
  obtain ⟨es, ep, raw, hsz, hent⟩ := hdo.raw
  have raw2 : (s1.heap.push { cls := .type "dict_values", data := .fields #[.ref d] }).DictRaw d es ep := raw.at fun o q => Heap.get?_push_of_some _ q
  refine PySem.W.kdl_call (KdlSrc.rawValues (r := s1.heap.objs.size) (d := d) (es := es) (ep := ep)) (I1.ok.hd hc) ⟨⟨_, Heap.get?_push_size _ rfl, rfl, rfl⟩, raw2⟩ (by omega) fun h' tk acc c hk hS hacc => ?_
  have hn : H1 (s1.heap.push { cls := .type "dict_values", data := .fields #[.ref d] }).objs.size = none := I2.hok.fresh (Nat.le_refl _)
  refine ⟨.ref _, upd H1 _ (.lst (kvs.map (·.2))), I2.laid (t' := tk) hk (Nat.le_refl _) ⟨by rw [List.length_map]; exact hz, acc.toList, c, ?_, by rw [Array.toArray_toList]; exact hS⟩, rfl, q _ hn⟩
  obtain ⟨hsz2, hit⟩ := hacc
  refine vals_of_ix (by rw [List.length_map]; have h9 : acc.toList.length = acc.size := Array.length_toList; omega) fun j x u h1 h2 => ?_
  rw [Array.getElem?_toList] at h2
  obtain ⟨hj, rfl⟩ := hit j u h2
  rw [List.getElem?_map] at h1
  cases ek : kvs[j]? with
  | none => rw [ek] at h1; cases h1
  | some kx =>
    rw [ek] at h1
    obtain rfl : kx.2 = x := Option.some.inj h1
    have hjv : j < vs.length := by omega
    have ev : vs[j]? = some (vs[j].1, vs[j].2) := List.getElem?_eq_getElem hjv
    have hr := paired_ix' kv ek ev
    have := (hent j hj _ _ ev).2
    rw [this]
    exact hr.2
end SH
set_option Elab.async false
set_option linter.all false
set_option maxRecDepth 100000
namespace SH
open PySem PySem.Spec PyProof.Rows L2
def lookObj (CL : Addr) (l : LookM) : HO := .ins CL l.dx (lookF l.ma l.wide l.high l.x l.y l.rank l.veiled)
/-- what laying reads of the surfaces -/
structure RL1 (CC CS CL : Addr) (num : Addr → Int) (H : Hp) (a : Addr) (s : SurfR) : Prop where
  ea : s.a = a
  ob : H a = some (s.obj CS)
  pa : H s.pa = some (.dK (kvI s.parts))
  lk : ∀ l, s.shown = some l → H l.a = some (lookObj CL l)
  ow : ∃ dc fc, H s.owner = some (.ins CC dc fc) ∧ fc.lookup ("number" : Str) = some (.int (num s.owner))
def RL (CC CS CL : Addr) (num : Addr → Int) (st : Addr → Option SurfR) (H : Hp) : Prop := ∀ a s, st a = some s → RL1 CC CS CL num H a s
/-- all stays but a list -/
def KeepBut (p : Addr) (H H' : Hp) : Prop := ∀ b o, b ≠ p → H b = some o → H' b = some o
theorem KeepBut.refl (p : Addr) (H : Hp) : KeepBut p H H := fun _ _ _ e => e
theorem KeepBut.trans {p : Addr} {H H1 H2 : Hp} (a : KeepBut p H H1) (b : KeepBut p H1 H2) : KeepBut p H H2 := fun c o h e => b c o h (a c o h e)
theorem KeepBut.same {p : Addr} {H H' : Hp} (s : Same H H') : KeepBut p H H' := fun b o _ e => s b o e
theorem KeepBut.wr {p : Addr} {H : Hp} (o : HO) : KeepBut p H (upd H p o) := fun b u h e => by rw [upd_ne h]; exact e
theorem RL.keep {CC CS CL : Addr} {num : Addr → Int} {st : Addr → Option SurfR} {H H' : Hp} {p : Addr} {xs : List V} (r : RL CC CS CL num st H) (hp : H p = some (.lst xs)) (k : KeepBut p H H') : RL CC CS CL num st H' := fun a s e => by
  obtain ⟨ea, ob, pa, lk, dc, fc, ow, nu⟩ := r a s e
  exact ⟨ea, k _ _ (ne_of ob hp (by intro z; cases z)) ob, k _ _ (ne_of pa hp (by intro z; cases z)) pa, fun l hl => k _ _ (ne_of (lk l hl) hp (by intro z; cases z)) (lk l hl), dc, fc, k _ _ (ne_of ow hp (by intro z; cases z)) ow, nu⟩
theorem RL.same {CC CS CL : Addr} {num : Addr → Int} {st : Addr → Option SurfR} {H H' : Hp} (r : RL CC CS CL num st H) (k : Same H H') : RL CC CS CL num st H' := fun a s e => by
  obtain ⟨ea, ob, pa, lk, dc, fc, ow, nu⟩ := r a s e
  exact ⟨ea, k _ _ ob, k _ _ pa, fun l hl => k _ _ (lk l hl), dc, fc, k _ _ ow, nu⟩
def keyT (num : Addr → Int) (s : SurfR) : Int × Int × Int := ((s.shown.map (·.rank)).getD 0, num s.owner, s.name)
def unvT (st : Addr → Option SurfR) (a : Addr) : Bool := match st a with
  | none => false
  | some s => s.unveiled
def keyA (num : Addr → Int) (st : Addr → Option SurfR) (a : Addr) : Int × Int × Int := match st a with
  | none => (0, 0, 0)
  | some s => keyT num s
def ordT (num : Addr → Int) (st : Addr → Option SurfR) (as : List Addr) : List Addr := (sortO ((as.filter (unvT st)).map fun a => (a, keyA num st a))).map (·.1)
def layT (num : Addr → Int) (st : Addr → Option SurfR) : Nat → List Addr → Int → Int → List (Addr × Int × Int)
  | 0, _, _, _ => []
  | d + 1, as, x, y => (ordT num st as).flatMap fun a => match st a with
    | none => []
    | some s => match s.shown with
      | none => []
      | some l => (a, x + l.x, y + l.y) :: layT num st d (s.parts.map (·.2)) (x + l.x) (y + l.y)
def DepOk (st : Addr → Option SurfR) : Nat → List Addr → Prop
  | 0, as => as = []
  | d + 1, as => ∀ a ∈ as, ∃ s, st a = some s ∧ s.parts.length ≤ 10 ∧ DepOk st d (s.parts.map (·.2))
def layMax : Nat → Nat → Nat
  | 0, _ => 0
  | d + 1, n => n * (1 + layMax d 10)
theorem layMax_mono : ∀ (d : Nat) {m n : Nat}, m ≤ n → layMax d m ≤ layMax d n
  | 0, _, _, _ => Nat.le_refl _
  | d + 1, _, _, h => Nat.mul_le_mul_right _ h
theorem ordT_len (num : Addr → Int) (st : Addr → Option SurfR) (as : List Addr) : (ordT num st as).length ≤ as.length := by
  unfold ordT sortO
  rw [List.length_map, List.length_mergeSort, List.length_map]
  exact List.length_filter_le _ _
theorem ordT_mem {num : Addr → Int} {st : Addr → Option SurfR} {as : List Addr} {a : Addr} (h : a ∈ ordT num st as) : a ∈ as ∧ unvT st a = true := by
  unfold ordT sortO at h
  obtain ⟨p, hp, rfl⟩ := List.mem_map.mp h
  have hp := (List.mergeSort_perm _ _).mem_iff.mp hp
  obtain ⟨b, hb, rfl⟩ := List.mem_map.mp hp
  exact List.mem_filter.mp hb
theorem layT_len {num : Addr → Int} {st : Addr → Option SurfR} : ∀ {d : Nat} {as : List Addr} {x y : Int}, DepOk st d as → (layT num st d as x y).length ≤ layMax d as.length
  | 0, _, _, _, _ => Nat.le_refl _
  | d + 1, as, x, y, h => by
    refine Nat.le_trans (flat_le (m := 1 + layMax d 10) fun a ha => ?_) (Nat.mul_le_mul_right _ (ordT_len num st as))
    obtain ⟨s, e, hl, hd⟩ := h a (ordT_mem ha).1
    simp only [e]
    cases s.shown with
    | none => exact Nat.zero_le _
    | some l =>
      rw [List.length_cons]
      have := layT_len (num := num) (x := x + l.x) (y := y + l.y) hd
      have h2 := layMax_mono d (show (s.parts.map (·.2)).length ≤ 10 by rw [List.length_map]; exact hl)
      omega
section
variable {P : Program} {w : World} {K : PySem.W.Frag} {mg : Str → Option Value} {base : Heap}
/-- is_unveiled, by what it reads -/
def spUnv (CS CL : Addr) : Sp := fun vs H Q _ => ∃ (s : SurfR), vs = [.ref s.a] ∧ H s.a = some (s.obj CS) ∧ (∀ l, s.shown = some l → H l.a = some (lookObj CL l)) ∧ Q (.bl s.unveiled) H
theorem ok_unv {f CS CL : Addr} {fd : FuncData} (F : Fun K "is_unveiled" "Surface.is_unveiled" sSUnv f fd) (T : TxtS K mg CS) (TL : TxtL K mg CL) : FnOk P w K mg base CX0 1 f fd ["self"] (spUnv CS CL) := by
  refine F.ok scSUnv (fun vs H Q E h => ?_) (fun cdv A outer s H vs Q E hr h => ?_)
  · obtain ⟨s, rfl, _⟩ := h
    rfl
  · obtain ⟨s, rfl, h0, hl, k⟩ := h
    refine ⟨_, pss_one (ps_ret (pe_and (pe_cmpR op_notN (pe_fld (pv 0) rfl) pe_non (nomark _)) (pe_one (pe_not (pe_fld (pe_fld (pv 0) rfl) rfl))))), ?_⟩
    refine ⟨_, rfl, s.a, CS, _, _, _, rfl, h0, T.cl, T.nshown, surfF_shown, rfl, _, rfl, ?_⟩
    cases e : s.shown with
    | none =>
      have e1 : s.unveiled = false := by unfold SurfR.unveiled; rw [e]
      rw [e1] at k
      exact k
    | some l =>
      have e1 : s.unveiled = !l.veiled := by unfold SurfR.unveiled; rw [e]
      rw [e1] at k
      refine ⟨_, rfl, s.a, CS, _, _, _, rfl, h0, T.cl, T.nshown, surfF_shown, l.a, CL, _, _, _, by rw [e]; rfl, hl l e, TL.cl, TL.nveiled, lookF_veiled _ _ _ _ _ _ _, _, rfl, ?_⟩
      exact k
abbrev nLay : List Str := ["laid", "surfaces", "x", "y", "surface", "left", "top", "each"]
theorem scLay : FnScope nLay ["laid", "surfaces", "x", "y"] (defScope sLay) := ⟨rfl, rfl, rfl, by decide +kernel, rfl, by decide +kernel, by decide +kernel⟩
def TupsAt (H : Hp) (ts : List Addr) (qs : List (Addr × Int × Int)) : Prop := Paired (fun (t : Addr) (q : Addr × Int × Int) => H t = some (.tup [.ref q.1, .int q.2.1, .int q.2.2])) ts qs
theorem TupsAt.keep {H H' : Hp} {ts : List Addr} {qs : List (Addr × Int × Int)} (h : TupsAt H ts qs) (k : ∀ b xs, H b = some (.tup xs) → H' b = some (.tup xs)) : TupsAt H' ts qs := Paired.mapP h fun _ _ e => k _ _ e
theorem TupsAt.app {H : Hp} : ∀ {ts us : List Addr} {qs rs : List (Addr × Int × Int)}, TupsAt H ts qs → TupsAt H us rs → TupsAt H (ts ++ us) (qs ++ rs)
  | [], _, [], _, .nil, h => h
  | _ :: _, _, _ :: _, _, .cons a t, h => .cons a (TupsAt.app t h)
def spLay (CC CS CL : Addr) (d : Nat) : Sp := fun vs H Q _ => ∃ (num : Addr → Int) (st : Addr → Option SurfR) (ld sl : Addr) (as : List Addr) (x y : Int) (items : List V), vs = [.ref ld, .ref sl, .int x, .int y] ∧ RL CC CS CL num st H ∧ H ld = some (.lst items) ∧ H sl = some (.lst (as.map V.ref)) ∧ ld ≠ sl ∧
  DepOk st d as ∧ as.length ≤ 100 ∧ items.length + layMax d as.length ≤ 100000 ∧
  ∀ H' ts, KeepBut ld H H' → H' ld = some (.lst (items ++ ts.map V.ref)) → TupsAt H' ts (layT num st d as x y) → Q .non H'
end
end SH
set_option Elab.async false
set_option linter.all false
set_option maxRecDepth 100000
namespace SH
open PySem PySem.Spec PyProof.Rows L2
theorem key_at {K : PySem.W.Frag} {mg : Str → Option Value} {CC CS CL : Addr} {num : Addr → Int} {H : Hp} {a : Addr} {s : SurfR} {l : LookM} (TC : TxtC K mg CC) (T : TxtS K mg CS) (TL : TxtL K mg CL) (r : RL1 CC CS CL num H a s) (e : s.shown = some l) : KeyAt K H a (keyT num s) := by
  obtain ⟨ea, ob, pa, lk, dc, fc, ow, nu⟩ := r
  refine ⟨CS, CL, CC, s.dx, l.dx, dc, _, _, fc, l.a, s.owner, ob, ?_, surfF_owner, surfF_name, lk l e, ?_, ow, nu, T.cl, T.nshown, T.nowner, T.nname, TL.cl, TL.nrank, TC.cl, TC.nnumber⟩
  · rw [surfF_shown, e]; rfl
  · rw [lookF_rank]
    show _ = some (V.int ((s.shown.map (·.rank)).getD 0))
    rw [e]; rfl
def layStep (num : Addr → Int) (st : Addr → Option SurfR) (d : Nat) (x y : Int) (a : Addr) : List (Addr × Int × Int) := match st a with
    | none => []
    | some s => match s.shown with
      | none => []
      | some l => (a, x + l.x, y + l.y) :: layT num st d (s.parts.map (·.2)) (x + l.x) (y + l.y)
theorem layT_succ (num : Addr → Int) (st : Addr → Option SurfR) (d : Nat) (as : List Addr) (x y : Int) : layT num st (d + 1) as x y = (ordT num st as).flatMap (layStep num st d x y) := rfl
theorem upd_tup {H : Hp} {p : Addr} {o : HO} (h : ∀ xs, H p ≠ some (.tup xs)) : ∀ b xs, H b = some (.tup xs) → upd H p o b = some (.tup xs) := fun b xs e => by
  rw [upd_ne]
  · exact e
  · intro z; rw [z] at e; exact h xs e
section
variable {P : Program} {w : World} {K : PySem.W.Frag} {mg : Str → Option Value} {base : Heap}
theorem ok_lay {f CC CS CL fU fO : Addr} {fd fdU fdO : FuncData} (F : Fun K "lay" "lay" sLay f fd) (bF : Binds K fd ["laid", "surfaces", "x", "y"] []) (gF : mg "lay" = some (.ref f)) (TC : TxtC K mg CC) (T : TxtS K mg CS) (TL : TxtL K mg CL)
    (FU : Fun K "is_unveiled" "Surface.is_unveiled" sSUnv fU fdU) (bU : Binds K fdU ["self"] []) (mU : Meth K CS "is_unveiled" fU)
    (FO : Fun K "laying_order" "laying_order" sOrder fO fdO) (bO : Binds K fdO ["surface"] []) (gO : mg "laying_order" = some (.ref fO)) :
    ∀ d, FnOk P w K mg base CX0 (d + 5) f fd ["laid", "surfaces", "x", "y"] (spLay CC CS CL d) := by
  have GU := ok_unv (P := P) (w := w) (mg := mg) (base := base) FU T TL
  intro d
  induction d with
  | zero =>
    refine F.ok scLay (fun vs H Q E h => ?_) (fun cdv A0 outer s0 H vs Q E hr h => ?_)
    · obtain ⟨num, st, ld, sl, as, x, y, items, rfl, _⟩ := h
      rfl
    · obtain ⟨num, st, ld, sl, as, x, y, items, rfl, rl, hld, hsl, hne, hdep, hal, hbd, k⟩ := h
      have has : as = [] := hdep
      subst has
      refine ⟨_, pss_one (ps_for PassesOwn.never rfl (pi_list (pe_callBK (cr_sortO rfl FO bO hr) (by rfl) T.sorted (by decide +kernel)
        (pa_cons (pe_lc (own := [("each", 7)]) (g := gName 7) (tt := tB (tMeth CS "is_unveiled" (spUnv CS CL) [] E0 (tVar 7) tNil)) (by rfl) scLay.nd (pi_list (pv 1)) (blkOk_by (own := [("each", 7)]) (N := nLay) (sc := defScope sLay) (by decide +kernel))
          (fun _ _ _ _ _ => pg_name (i := 7) scLay.nd rfl (Or.inl rfl)) (fun _ _ _ _ _ => pts_one (pt_val (pe_meth0 (pv 7) T.cl mU GU (hr.mono (by decide)) bU .nil pass0))) (fun _ _ _ _ _ => pv 7)) pa_nil)
        (pk_cons (pe_glob rfl gO (v := .ref fO) rfl) pk_nil))) (pg_name (i := 4) scLay.nd rfl (Or.inl rfl)) pss_never), ?_⟩
      refine ⟨_, rfl, sl, rfl, ⟨_, SqL.of hsl⟩, fun D hD => ?_⟩
      refine lc_list (K := K) (a := sl) (xs := []) (fun i H2 => H2 = upd H D (.lst [])) rfl (fun i H2 _ e => by rw [e]; exact SqL.of (by rw [upd_ne (ne_of_none hsl hD)]; exact hsl)) (fun i x H2 hx _ => by simp at hx) ?_
      rintro H2 rfl
      refine ⟨D, [], rfl, rfl, SqL.of upd_same, by decide, (fun p hp => by cases hp), fun p hp => ?_⟩
      have es : sortO [] = [] := by unfold sortO; simp
      rw [es]
      refine ⟨p, rfl, ⟨_, SqL.of upd_same⟩, for_list (K := K) (a := p) (xs := []) (fun i σ H3 => H3 = upd (upd H D (.lst [])) p (.lst [])) rfl (fun i σ H3 _ e => by rw [e]; exact SqL.of upd_same) (fun i x σ H3 hx _ => by simp at hx) ?_⟩
      rintro σ H3 rfl
      have s2 := (Same.new (HO.lst []) hD).trans (Same.new (HO.lst []) hp)
      refine k _ [] (KeepBut.same s2) ?_ .nil
      rw [List.map_nil, List.append_nil]
      exact s2 _ _ hld
  | succ d ih =>
    refine F.ok scLay (fun vs H Q E h => ?_) (fun cdv A0 outer s0 H vs Q E hr h => ?_)
    · obtain ⟨num, st, ld, sl, as, x, y, items, rfl, _⟩ := h
      rfl
    · obtain ⟨num, st, ld, sl, as, x, y, items, rfl, rl, hld, hsl, hne, hdep, hal, hbd, k⟩ := h
      refine ⟨_, pss_one (ps_for PassesOwn.never rfl (pi_list (pe_callBK (cr_sortO rfl FO bO (hr.mono (by omega))) (by rfl) T.sorted (by decide +kernel)
        (pa_cons (pe_lc (own := [("each", 7)]) (g := gName 7) (tt := tB (tMeth CS "is_unveiled" (spUnv CS CL) [] E0 (tVar 7) tNil)) (by rfl) scLay.nd (pi_list (pv 1)) (blkOk_by (own := [("each", 7)]) (N := nLay) (sc := defScope sLay) (by decide +kernel))
          (fun _ _ _ _ _ => pg_name (i := 7) scLay.nd rfl (Or.inl rfl)) (fun _ _ _ _ _ => pts_one (pt_val (pe_meth0 (pv 7) T.cl mU GU (hr.mono (by omega)) bU .nil pass0))) (fun _ _ _ _ _ => pv 7)) pa_nil)
        (pk_cons (pe_glob rfl gO (v := .ref fO) rfl) pk_nil))) (pg_name (i := 4) scLay.nd rfl (Or.inl rfl))
        (pss_cons (ps_set (i := 5) scLay.nd rfl (Or.inl rfl) (pe_op op_add (pv 2) (pe_fld (pe_fld (pv 4) rfl) rfl)))
        (pss_cons (ps_set (i := 6) scLay.nd rfl (Or.inl rfl) (pe_op op_add (pv 3) (pe_fld (pe_fld (pv 4) rfl) rfl)))
        (pss_cons (ps_expr (pe_bm PySem.F.plainAttrs_list PySem.F.slot_list_append PySem.F.type_list_append mt_append (pv 0) (pa_cons (pe_tup (pa_cons (pv 4) (pa_cons (pv 5) (pa_cons (pv 6) pa_nil)))) pa_nil)))
        (pss_one (ps_expr (pe_call ih hr rfl gF F.kp bF .nil pass0 (pa_cons (pv 0) (pa_cons (pe_listVals rfl (pe_fld (pv 4) rfl) (by rfl) TL.list (by decide +kernel)) (pa_cons (pv 5) (pa_cons (pv 6) pa_nil))))))))))), ?_⟩
      refine ⟨_, rfl, sl, rfl, ⟨_, SqL.of hsl⟩, fun D hD => ?_⟩
      refine lc_list (K := K) (a := sl) (xs := as.map V.ref) (fun i H2 => Same H H2 ∧ H2 D = some (.lst (((as.take i).filter (unvT st)).map V.ref))) ⟨Same.new _ hD, upd_same⟩ (fun i H2 _ e => SqL.of (e.1 _ _ hsl)) ?_ ?_
      · rintro i v H2 hi ⟨s2, hD2⟩
        rw [List.getElem?_map] at hi
        cases ea : as[i]? with
        | none => rw [ea] at hi; cases hi
        | some a =>
          rw [ea] at hi
          obtain rfl : V.ref a = v := Option.some.inj hi
          obtain ⟨s, es, hpl, hds⟩ := hdep a (List.mem_of_getElem? ea)
          have r1 := (rl.same s2) a s es
          have hil : i < as.length := (List.getElem?_eq_some_iff.mp ea).1
          refine ⟨rfl, _, rfl, a, _, _, rfl, r1.ob, by kernel_rfl, s, (by rw [r1.ea]; rfl), by rw [r1.ea]; exact r1.ob, r1.lk, _, rfl, ?_⟩
          have eu : unvT st a = s.unveiled := by unfold unvT; rw [es]
          have etk : (as.take (i + 1)).filter (unvT st) = (as.take i).filter (unvT st) ++ (if s.unveiled = true then [a] else []) := by
            rw [List.take_add_one, ea, List.filter_append]
            cases hu : s.unveiled <;> rw [hu] at eu <;> simp [eu]
          cases hu : s.unveiled with
          | true =>
            refine iteT ?_
            refine ⟨_, rfl, _, hD2, ?_, Same.mut _ s2 hD, ?_⟩
            · rw [List.length_map]
              refine small1000 (Nat.le_trans (List.length_filter_le _ _) ?_)
              rw [List.length_take]; omega
            · rw [upd_same, etk, hu]; simp
          | false =>
            refine iteF ?_
            refine ⟨s2, ?_⟩
            rw [etk, hu]; simpa using hD2
      · rintro H2 ⟨s2, hD2⟩
        rw [List.length_map, List.take_length] at hD2
        have hmem : ∀ a ∈ as.filter (unvT st), ∃ s l, st a = some s ∧ s.shown = some l := fun a ha => by
          obtain ⟨ha1, ha2⟩ := List.mem_filter.mp ha
          obtain ⟨s, es, _, _⟩ := hdep a ha1
          unfold unvT at ha2
          rw [es] at ha2
          cases e : s.shown with
          | none => simp [SurfR.unveiled, e] at ha2
          | some l => exact ⟨s, l, es, e⟩
        refine ⟨D, (as.filter (unvT st)).map fun a => (a, keyA num st a), rfl, rfl, SqL.of (by rw [hD2, List.map_map]; rfl), ?_, fun q hq => ?_, fun p hp => ?_⟩
        · rw [List.length_map]; exact Nat.le_trans (List.length_filter_le _ _) (by omega)
        · obtain ⟨a, ha, rfl⟩ := List.mem_map.mp hq
          obtain ⟨s, l, es, el⟩ := hmem a ha
          have : keyA num st a = keyT num s := by unfold keyA; rw [es]
          show KeyAt K H2 a (keyA num st a)
          rw [this]
          exact key_at TC T TL ((rl.same s2) a s es) el
        · have eord : (sortO ((as.filter (unvT st)).map fun a => (a, keyA num st a))).map (fun p => V.ref p.1) = (ordT num st as).map V.ref := by unfold ordT; rw [List.map_map]; rfl
          rw [eord]
          have hpH : H p = none := s2.free hp
          have npl : p ≠ ld := (ne_of_none hld hpH).symm
          have s3 := s2.trans (Same.new (HO.lst ((ordT num st as).map V.ref)) hp)
          refine ⟨p, rfl, ⟨_, SqL.of upd_same⟩, for_list (K := K) (a := p) (xs := (ordT num st as).map V.ref) (fun i σ H3 => ∃ v4 v5 v6 v7 ts, σ = [some (.ref ld), some (.ref sl), some (.int x), some (.int y), v4, v5, v6, v7] ∧ KeepBut ld H H3 ∧ H3 p = some (.lst ((ordT num st as).map V.ref)) ∧
            H3 ld = some (.lst (items ++ ts.map V.ref)) ∧ TupsAt H3 ts (((ordT num st as).take i).flatMap (layStep num st d x y))) ?_ ?_ ?_ ?_⟩
          · refine ⟨_, _, _, _, [], rfl, KeepBut.same s3, upd_same, ?_, .nil⟩
            rw [List.map_nil, List.append_nil]
            exact s3 _ _ hld
          · rintro i σ H3 _ ⟨_, _, _, _, _, _, _, h, _⟩
            exact SqL.of h
          · rintro i v σ H3 hi ⟨v4, v5, v6, v7, ts, rfl, k3, hp3, hld3, ht3⟩
            rw [List.getElem?_map] at hi
            cases ea : (ordT num st as)[i]? with
            | none => rw [ea] at hi; cases hi
            | some a =>
              rw [ea] at hi
              obtain rfl : V.ref a = v := Option.some.inj hi
              obtain ⟨ha1, ha2⟩ := ordT_mem (List.mem_of_getElem? ea)
              obtain ⟨s, l, es, el⟩ := hmem a (List.mem_filter.mpr ⟨ha1, ha2⟩)
              obtain ⟨s', es', hpl, hds⟩ := hdep a ha1
              rw [es] at es'; cases es'
              have hil : i < (ordT num st as).length := (List.getElem?_eq_some_iff.mp ea).1
              have rl3 := rl.keep hld k3
              have r1 := rl3 a s es
              have hlen3 : ts.length = (((ordT num st as).take i).flatMap (layStep num st d x y)).length := paired_len ht3
              have hst : ∀ b ∈ ordT num st as, (layStep num st d x y b).length ≤ 1 + layMax d 10 := fun b hb => by
                obtain ⟨u, eu, hul, hud⟩ := hdep b (ordT_mem hb).1
                unfold layStep
                simp only [eu]
                cases u.shown with
                | none => exact Nat.zero_le _
                | some m =>
                  rw [List.length_cons]
                  have := layT_len (num := num) (x := x + m.x) (y := y + m.y) hud
                  have h2 := layMax_mono d (show (u.parts.map (·.2)).length ≤ 10 by rw [List.length_map]; exact hul)
                  omega
              have hb1 := flat_le (f := layStep num st d x y) (m := 1 + layMax d 10) (l := (ordT num st as).take i) fun b hb => hst b (List.mem_of_mem_take hb)
              have hb2 : (i + 1) * (1 + layMax d 10) ≤ layMax (d + 1) as.length := Nat.mul_le_mul_right _ (Nat.le_trans hil (ordT_len num st as))
              have hb3 : ((ordT num st as).take i).length = i := by rw [List.length_take]; omega
              rw [hb3] at hb1
              rw [Nat.succ_mul] at hb2
              have hlk := r1.lk l el
              have eshown : (surfF s.owner s.name s.there (oref s.top) s.pa s.pend.a (oref (s.ready.map (·.a))) (oref (s.shown.map (·.a))) s.newly s.lx s.ly).lookup ("shown" : Str) = some (.ref l.a) := by rw [surfF_shown, el]; rfl
              -- left, top
              refine ⟨_, rfl, _, rfl, a, CS, _, _, _, rfl, r1.ob, T.cl, T.nshown, eshown, l.a, CL, _, _, _, rfl, hlk, TL.cl, TL.nx, lookF_x _ _ _ _ _ _ _, _, _, rfl, rfl, ?_⟩
              refine ⟨_, rfl, _, rfl, a, CS, _, _, _, rfl, r1.ob, T.cl, T.nshown, eshown, l.a, CL, _, _, _, rfl, hlk, TL.cl, TL.ny, lookF_y _ _ _ _ _ _ _, _, _, rfl, rfl, ?_⟩
              -- laid.append
              refine ⟨_, rfl, .inl ⟨rfl, _, SqL.of hld3⟩, _, rfl, _, rfl, _, rfl, small (by show 3 ≤ 1000; decide), fun t ht => ?_⟩
              have nlt : ld ≠ t := ne_of_none hld3 ht
              have hld4 : upd H3 t (.tup [V.ref a, V.int (x + l.x), V.int (y + l.y)]) ld = some (.lst (items ++ ts.map V.ref)) := by rw [upd_ne nlt]; exact hld3
              refine ⟨ld, _, _, rfl, rfl, hld4, ?_, ?_⟩
              · refine Nat.lt_of_le_of_lt (m := 100000) ?_ (by decide)
                rw [List.length_append, List.length_map, hlen3]
                omega
              · generalize hH4 : upd (upd H3 t (.tup [V.ref a, V.int (x + l.x), V.int (y + l.y)])) ld (.lst ((items ++ ts.map V.ref) ++ [V.ref t])) = H4
                have k4 : KeepBut ld H3 H4 := by rw [← hH4]; exact (KeepBut.same (Same.new _ ht)).trans (KeepBut.wr _)
                have hld5 : H4 ld = some (.lst (items ++ (ts ++ [t]).map V.ref)) := by rw [← hH4, upd_same]; simp
                have ht4 : H4 t = some (.tup [V.ref a, V.int (x + l.x), V.int (y + l.y)]) := by rw [← hH4, upd_ne nlt.symm, upd_same]
                have tup4 : ∀ b xs, H3 b = some (.tup xs) → H4 b = some (.tup xs) := fun b xs e => k4 b _ (ne_of e hld3 (by intro z; cases z)) e
                have rl4 := rl.keep hld (k3.trans k4)
                have r4 := rl4 a s es
                refine ⟨_, rfl, _, rfl, a, CS, _, _, _, rfl, r4.ob, T.cl, T.nparts, surfF_parts, s.pa, _, rfl, r4.pa, fun p2 hp2 => ?_⟩
                have epv : (kvI s.parts).map (·.2) = (s.parts.map (·.2)).map V.ref := by unfold kvI; simp
                rw [epv]
                have s5 := Same.new (HO.lst ((s.parts.map (·.2)).map V.ref)) hp2
                have nlp : ld ≠ p2 := ne_of_none hld5 hp2
                refine ⟨_, rfl, _, rfl, num, st, ld, p2, s.parts.map (·.2), x + l.x, y + l.y, items ++ (ts ++ [t]).map V.ref, rfl, rl4.same s5, s5 _ _ hld5, upd_same, nlp, hds, by rw [List.length_map]; omega, ?_, fun H6 ts6 k6 hld6 ht6 => ?_⟩
                · have h2 := layMax_mono d (show (s.parts.map (·.2)).length ≤ 10 by rw [List.length_map]; exact hpl)
                  rw [List.length_append, List.length_map, List.length_append, hlen3]
                  show _ + (_ + 1) + _ ≤ _
                  omega
                · have k36 : KeepBut ld H3 H6 := k4.trans ((KeepBut.same s5).trans k6)
                  refine ⟨_, _, _, _, (ts ++ [t]) ++ ts6, rfl, k3.trans k36, k36 p _ npl hp3, ?_, ?_⟩
                  · rw [hld6]; simp
                  · rw [List.take_add_one, ea, List.flatMap_append]
                    have tup6 : ∀ b xs, H3 b = some (.tup xs) → H6 b = some (.tup xs) := fun b xs e => k36 b _ (ne_of e hld3 (by intro z; cases z)) e
                    have e7 : (some a).toList.flatMap (layStep num st d x y) = (a, x + l.x, y + l.y) :: layT num st d (s.parts.map (·.2)) (x + l.x) (y + l.y) := by
                      show layStep num st d x y a ++ [] = _
                      rw [List.append_nil]
                      unfold layStep
                      rw [es]
                      simp only [el]
                    rw [e7]
                    have h6t : H6 t = some (.tup [V.ref a, V.int (x + l.x), V.int (y + l.y)]) := k6 t _ nlt.symm (s5 _ _ ht4)
                    have := (TupsAt.app (ht3.keep tup6) (Paired.cons (b := (a, x + l.x, y + l.y)) h6t ht6) : TupsAt H6 (ts ++ (t :: ts6)) _)
                    rw [List.append_assoc]
                    exact this
          · rintro σ H3 ⟨v4, v5, v6, v7, ts, rfl, k3, hp3, hld3, ht3⟩
            rw [List.length_map, List.take_length] at ht3
            exact k H3 ts k3 hld3 ht3
end
end SH
set_option Elab.async false
set_option linter.all false
set_option maxRecDepth 100000
namespace SH
open PySem PySem.Spec PyProof.Rows L2
/-- walking over it, the turn's body left open: for the outer and the inner of two iterations -/
theorem out_it {J : It} {n : Nat} {G : Hp → Prop} {Y : Nat → Hp → V → Hp → Prop} (w : Walk J n G Y) {B : V → Hp → (Hp → Prop) → Prop} {Qd : Hp → Prop} {H0 : Hp} (Pv : Nat → Hp → Prop) (h0 : Pv 0 H0) (hG : ∀ i H, i ≤ n → Pv i H → G H)
    (hs : ∀ i x H H', i < n → Pv i H → Y i H x H' → B x H' (Pv (i + 1))) (hd : ∀ H, Pv n H → Qd H) :
    ∃ W : Nat → Nat → Hp → Prop, (∃ m, W 0 m H0) ∧ ∀ i m H, W i m H →
      (J.stop i H ∧ Qd H) ∨ (J.go i H ∧ ∃ Nx : Hp → Prop, (∀ H', Nx H' → ∃ m', m' < m ∧ W (i + 1) m' H') ∧ ∀ x H', J.yld i H x H' → B x H' Nx) := by
  refine ⟨fun i m H => m = n - i ∧ i ≤ n ∧ Pv i H, ⟨n, by simp, Nat.zero_le _, h0⟩, ?_⟩
  rintro i m H ⟨rfl, hi, p⟩
  have q := hG i H hi p
  by_cases hlt : i < n
  · refine .inr ⟨w.goes i H hlt q, Pv (i + 1), fun H' p' => ⟨n - (i + 1), by omega, rfl, hlt, p'⟩, fun x H' y => hs i x H H' hlt p (w.yields i H x H' hlt q y)⟩
  · have e : i = n := by omega
    subst e
    exact .inl ⟨w.stops H q, hd H p⟩
def lockN (n : Nat) (t : TE) : TE := match n with
  | 0 => t
  | n + 1 => tLockE (lockN n t)
theorem pe_lockN {X : Cx} {e : Expr} {t : TE} (h : PE X e t) : ∀ n, PE X e (lockN n t)
  | 0 => h
  | n + 1 => pe_lock (pe_lockN h n)
def thaw : List (Addr × HO) → Hp → Hp
  | [], H => H
  | p :: ds, H => upd (thaw ds H) p.1 p.2
theorem thaw_out {ds : List (Addr × HO)} {H : Hp} {b : Addr} (h : b ∉ ds.map (·.1)) : thaw ds H b = H b := by
  induction ds with
  | nil => rfl
  | cons p ds ih =>
    simp only [List.map_cons, List.mem_cons, not_or] at h
    show upd _ _ _ b = _
    rw [upd_ne h.1, ih h.2]
theorem thaw_in {ds : List (Addr × HO)} (nd : (ds.map (·.1)).Nodup) {H : Hp} {p : Addr × HO} (h : p ∈ ds) : thaw ds H p.1 = some p.2 := by
  induction ds with
  | nil => cases h
  | cons q ds ih =>
    simp only [List.map_cons, List.nodup_cons] at nd
    rcases List.mem_cons.mp h with e | e
    · subst e; exact upd_same
    · show upd _ _ _ p.1 = _
      rw [upd_ne, ih nd.2 e]
      intro z
      exact nd.1 (z ▸ List.mem_map_of_mem e)
theorem lockN_of {t : TE} {σ : L2.St} : ∀ (ds : List (Addr × HO)) {H : Hp} {Q : VK}, (ds.map (·.1)).Nodup → (∀ p ∈ ds, H p.1 = some p.2 ∧ Mut (some p.2)) →
    (∀ H1, (∀ b, b ∉ ds.map (·.1) → H1 b = H b) → (∀ p ∈ ds, ∃ od, H1 p.1 = some (.frz od p.2)) → ∀ Q1 : VK, (∀ v H', (∀ p ∈ ds, H' p.1 = H1 p.1) → Q v (thaw ds H') → Q1 v H') → t σ H1 Q1) → lockN ds.length t σ H Q
  | [], H, Q, _, _, k => k H (fun _ _ => rfl) (fun p hp => by cases hp) Q (fun _ _ _ h => h)
  | p :: ds, H, Q, nd, ok, k => by
    simp only [List.map_cons, List.nodup_cons] at nd
    refine ⟨p.1, p.2, (ok p (List.mem_cons_self ..)).1, (ok p (List.mem_cons_self ..)).2, fun od => ?_⟩
    refine lockN_of ds nd.2 (fun q hq => ⟨?_, (ok q (List.mem_cons_of_mem _ hq)).2⟩) (fun H1 same frz Q1 imp => ?_)
    · rw [upd_ne, (ok q (List.mem_cons_of_mem _ hq)).1]
      intro z
      exact nd.1 (z ▸ List.mem_map_of_mem hq)
    · have hp1 : H1 p.1 = some (.frz od p.2) := by rw [same _ nd.1, upd_same]
      refine k H1 (fun b hb => ?_) (fun q hq => ?_) Q1 (fun v H' h1 h2 => imp v H' (fun q hq => h1 q (List.mem_cons_of_mem _ hq)) ⟨?_, h2⟩)
      · simp only [List.map_cons, List.mem_cons, not_or] at hb
        rw [same b hb.2, upd_ne hb.1]
      · rcases List.mem_cons.mp hq with e | e
        · subst e; exact ⟨od, hp1⟩
        · exact frz q e
      · rw [thaw_out nd.1, h1 p (List.mem_cons_self ..), hp1]
structure ClAt (CC : Addr) (H : Hp) (st : Addr → Option SurfR) (c : Addr × Addr × List (Int × Addr)) : Prop where
  ob : ∃ dc fc, H c.1 = some (.ins CC dc fc) ∧ fc.lookup ("surfaces" : Str) = some (.ref c.2.1)
  sd : H c.2.1 = some (.dK (kvI c.2.2))
  ln : c.2.2.length ≤ 10
  ss : ∀ p ∈ c.2.2, ∃ s, st p.2 = some s
def isTop (st : Addr → Option SurfR) (a : Addr) : Bool := match st a with
  | none => false
  | some s => s.top.isNone
def rootsOf (st : Addr → Option SurfR) (c : Addr × Addr × List (Int × Addr)) : List Addr := (c.2.2.map (·.2)).filter (isTop st)
abbrev nLayers : List Str := ["clients", "laid", "client", "each"]
theorem scLayers : FnScope nLayers ["clients"] (defScope sLayers) := ⟨rfl, rfl, rfl, by decide +kernel, rfl, by decide +kernel, by decide +kernel⟩
def spLayers (CC CS CL : Addr) (d : Nat) : Sp := fun vs H Q _ => ∃ (num : Addr → Int) (st : Addr → Option SurfR) (cl : Addr) (cs : List (Addr × Addr × List (Int × Addr))), vs = [.ref cl] ∧ RL CC CS CL num st H ∧ H cl = some (.lst (cs.map fun c => .ref c.1)) ∧ cs.length ≤ 5 ∧
  (∀ c ∈ cs, ClAt CC H st c) ∧ (cs.map (·.2.1)).Nodup ∧ DepOk st d (cs.flatMap (rootsOf st)) ∧ layMax d 50 ≤ 100000 ∧
  ∀ H' l ts, Same H H' → H l = none → H' l = some (.lst (ts.map V.ref)) → TupsAt H' ts (layT num st d (cs.flatMap (rootsOf st)) 0 0) → Q (.ref l) H'
theorem KeepBut.new {p : Addr} {H H' : Hp} (k : KeepBut p H H') (hp : H p = none) : Same H H' := fun b o e => k b o (ne_of_none e hp) e
section
variable {P : Program} {w : World} {K : PySem.W.Frag} {mg : Str → Option Value} {base : Heap}
theorem ok_layers {f fL CC CS CL fU fO : Addr} {fd fdL fdU fdO : FuncData} (F : Fun K "layers" "layers" sLayers f fd) (FL : Fun K "lay" "lay" sLay fL fdL) (bL : Binds K fdL ["laid", "surfaces", "x", "y"] []) (gL : mg "lay" = some (.ref fL)) (TC : TxtC K mg CC) (T : TxtS K mg CS) (TL : TxtL K mg CL)
    (FU : Fun K "is_unveiled" "Surface.is_unveiled" sSUnv fU fdU) (bU : Binds K fdU ["self"] []) (mU : Meth K CS "is_unveiled" fU)
    (FO : Fun K "laying_order" "laying_order" sOrder fO fdO) (bO : Binds K fdO ["surface"] []) (gO : mg "laying_order" = some (.ref fO)) (d : Nat) :
    FnOk P w K mg base CX0 (d + 6) f fd ["clients"] (spLayers CC CS CL d) := by
  have GL := ok_lay (P := P) (w := w) (mg := mg) (base := base) FL bL gL TC T TL FU bU mU FO bO gO d
  refine F.ok scLayers (fun vs H Q E h => ?_) (fun cdv A0 outer s0 H vs Q E hr h => ?_)
  · obtain ⟨num, st, cl, cs, rfl, _⟩ := h
    rfl
  · obtain ⟨num, st, cl, cs, rfl, rl, hcl, hcn, hcs, hnd, hdep, hmx, k⟩ := h
    let ds : List (Addr × HO) := cs.map fun c => (c.2.1, HO.dK (kvI c.2.2))
    refine ⟨_, pss_cons (ps_set (i := 1) scLayers.nd rfl (Or.inl rfl) (pe_lst pa_nil)) (pss_cons (ps_expr (pe_call GL hr rfl gL FL.kp bL .nil pass0 (pa_cons (pv 1) (pa_cons
      (pe_lockN (pe_lc2 (own := [("client", 2), ("each", 3)]) (vs1 := [3]) (g := gName 2) (g1 := gName 3) (tt := tYes) (wi1 := iVals (tFld K (tVar 2) "surfaces")) (tt1 := tTest (tOp (fun x y H Q => y = .non ∧ Q (.bl (decide (x = .non))) H) (tFld K (tVar 3) "top") (tC .non))) (by rfl) scLayers.nd (pi_list (pv 0)) (blkOk_by (own := [("client", 2), ("each", 3)]) (N := nLayers) (sc := defScope sLayers) (by decide +kernel)) (by decide)
        (fun _ _ _ _ _ => pg_name (i := 2) scLayers.nd rfl (Or.inl rfl)) (fun _ _ _ _ _ => pts_nil)
        (fun _ _ _ _ _ => pi_values (pe_fld (pv 2) rfl) rfl rfl)
        (fun _ _ _ _ _ => pg_name (i := 3) scLayers.nd rfl (Or.inl rfl)) (fun _ _ _ _ _ => pts_one (pt_cmpR op_isN (pe_fld (pv 3) rfl) pe_non (nomark _))) (fun _ _ _ _ _ => pv 3)) ds.length)
      (pa_cons pe_int (pa_cons pe_int pa_nil)))))) (pss_one (ps_ret (pv 1)))), ?_⟩
    refine ⟨small (by show 0 ≤ 1000; decide), fun ld hld => ?_⟩
    have S0 : Same H (upd H ld (.lst [])) := Same.new _ hld
    have dsn : (ds.map (·.1)).Nodup := by
      have : ds.map (·.1) = cs.map (·.2.1) := by simp [ds]
      rw [this]; exact hnd
    have dsH : ∀ p ∈ ds, H p.1 = some p.2 := fun p hp => by
      obtain ⟨c, hc, rfl⟩ := List.mem_map.mp hp
      exact (hcs c hc).sd
    refine ⟨_, rfl, ?_⟩
    refine lockN_of ds dsn (fun p hp => ⟨S0 _ _ (dsH p hp), ?_⟩) (fun H1 same frz Q1 imp => ?_)
    · obtain ⟨c, hc, rfl⟩ := List.mem_map.mp hp
      trivial
    · have keepN : ∀ b o, (∀ kv, o ≠ HO.dK kv) → H b = some o → H1 b = some o := fun b o ho e => by
        rw [same, S0 _ _ e]
        intro hb
        obtain ⟨p, hp, rfl⟩ := List.mem_map.mp hb
        have := dsH p hp
        rw [e] at this
        obtain ⟨c, hc, rfl⟩ := List.mem_map.mp hp
        exact ho _ (Option.some.inj this)
      refine ⟨_, rfl, cl, rfl, ⟨_, SqL.of (keepN _ _ (fun _ z => by cases z) hcl)⟩, fun D hD => ?_⟩
      have rlen : ∀ n, ((cs.take n).flatMap (rootsOf st)).length ≤ 50 := fun n => by
        refine Nat.le_trans (flat_le (m := 10) fun c hc => ?_) (by rw [List.length_take]; omega)
        refine Nat.le_trans (List.length_filter_le _ _) ?_
        rw [List.length_map]
        exact (hcs c (List.mem_of_mem_take hc)).ln
      refine out_it (w := walk_list (K := K) (a := cl) (xs := cs.map fun c => V.ref c.1)) (fun i H2 => Same H1 H2 ∧ H2 D = some (.lst (((cs.take i).flatMap (rootsOf st)).map V.ref))) ⟨Same.new _ hD, upd_same⟩
        (fun i H2 _ e => SqL.of (e.1 _ _ (keepN _ _ (fun _ z => by cases z) hcl))) ?_ ?_
      · rintro i x H2 H3 hi ⟨s2, hD2⟩ ⟨rfl, ex⟩
        rw [List.getElem?_map] at ex
        cases ec : cs[i]? with
        | none => rw [ec] at ex; cases ex
        | some c =>
          rw [ec] at ex
          obtain rfl : V.ref c.1 = x := Option.some.inj ex
          have hc := List.mem_of_getElem? ec
          have C := hcs c hc
          obtain ⟨dc, fc, ob, lk⟩ := C.ob
          obtain ⟨od, efz⟩ := frz (c.2.1, HO.dK (kvI c.2.2)) (List.mem_map.mpr ⟨c, hc, rfl⟩)
          refine ⟨rfl, _, rfl, c.1, CC, dc, fc, _, rfl, s2 _ _ (keepN _ _ (fun _ z => by cases z) ob), TC.cl, TC.nsurfaces, lk, c.2.1, od, _, rfl, s2 _ _ efz, ?_⟩
          refine out_it walk_values (fun j H4 => Same H1 H4 ∧ H4 D = some (.lst (((cs.take i).flatMap (rootsOf st) ++ ((c.2.2.take j).map (·.2)).filter (isTop st)).map V.ref))) ⟨s2, by rw [hD2]; simp⟩
            (fun j H4 _ e => e.1 _ _ efz) ?_ ?_
          · rintro j y H4 H5 hj ⟨s4, hD4⟩ ⟨rfl, ky, ey⟩
            unfold kvI at ey
            rw [List.getElem?_map] at ey
            cases ep : c.2.2[j]? with
            | none => rw [ep] at ey; cases ey
            | some p =>
              rw [ep] at ey
              obtain ⟨-, rfl⟩ : _ ∧ V.ref p.2 = y := by simpa using ey
              obtain ⟨s, es⟩ := C.ss p (List.mem_of_getElem? ep)
              have r := rl _ _ es
              have etk : (((c.2.2.take (j + 1)).map (·.2)).filter (isTop st)) = (((c.2.2.take j).map (·.2)).filter (isTop st)) ++ (if s.top.isNone = true then [p.2] else []) := by
                have e1 : isTop st p.2 = s.top.isNone := by unfold isTop; rw [es]
                rw [List.take_add_one, ep, List.map_append, List.filter_append]
                cases hu : s.top.isNone <;> rw [hu] at e1 <;> simp [e1]
              refine ⟨rfl, _, rfl, p.2, CS, _, _, _, rfl, s4 _ _ (keepN _ _ (fun _ z => by cases z) r.ob), T.cl, T.ntop, surfF_top, rfl, _, rfl, ?_⟩
              cases ht : s.top with
              | none =>
                refine iteT ?_
                refine ⟨_, rfl, _, hD4, ?_, Same.mut _ s4 hD, ?_⟩
                · rw [List.length_map, List.length_append]
                  refine small1000 ?_
                  have h1 := rlen i
                  have h2 := List.length_filter_le (isTop st) ((c.2.2.take j).map (·.2))
                  rw [List.length_map, List.length_take] at h2
                  have := C.ln
                  omega
                · rw [upd_same, etk, ht]; simp
              | some b =>
                refine iteF ?_
                refine ⟨s4, ?_⟩
                rw [etk, ht]; simpa using hD4
          · rintro H4 ⟨s4, hD4⟩
            have e1 : (kvI c.2.2).length = c.2.2.length := by unfold kvI; rw [List.length_map]
            rw [e1, List.take_length] at hD4
            refine ⟨s4, ?_⟩
            rw [hD4, List.take_add_one, ec, List.flatMap_append]
            simp [rootsOf]
      · rintro H2 ⟨s2, hD2⟩
        rw [List.length_map, List.take_length] at hD2
        have hDn : D ∉ ds.map (·.1) := fun hb => by
          obtain ⟨p, hp, e⟩ := List.mem_map.mp hb
          obtain ⟨od, ef⟩ := frz p hp
          rw [e, hD] at ef; cases ef
        refine imp _ _ (fun p hp => by obtain ⟨od, ef⟩ := frz p hp; rw [ef]; exact s2 _ _ ef) ?_
        have SS : Same (upd H ld (.lst [])) (thaw ds H2) := fun b o e => by
          by_cases hb : b ∈ ds.map (·.1)
          · obtain ⟨p, hp, rfl⟩ := List.mem_map.mp hb
            rw [thaw_in dsn hp, ← e, S0 _ _ (dsH p hp)]
          · rw [thaw_out hb]
            exact s2 _ _ (by rw [same b hb]; exact e)
        have hld2 := SS _ _ (upd_same : upd H ld (.lst []) ld = some (.lst []))
        have hD3 : thaw ds H2 D = some (.lst ((cs.flatMap (rootsOf st)).map V.ref)) := by rw [thaw_out hDn, hD2]
        generalize hHH : thaw ds H2 = HH at SS hld2 hD3 ⊢
        have nld : ld ≠ D := by
          intro z
          have h1 : H1 ld = some (.lst []) := by
            rw [same, upd_same]
            intro hb
            obtain ⟨p, hp, e⟩ := List.mem_map.mp hb
            have := dsH p hp
            rw [e, hld] at this; cases this
          rw [z, hD] at h1; cases h1
        have r50 : (cs.flatMap (rootsOf st)).length ≤ 50 := by have := rlen cs.length; rwa [List.take_length] at this
        refine ⟨num, st, ld, D, cs.flatMap (rootsOf st), 0, 0, [], rfl, rl.same (S0.trans SS), hld2, hD3, nld, hdep, Nat.le_trans r50 (by decide), ?_, fun H' ts kb hl ht => ?_⟩
        · rw [List.length_nil, Nat.zero_add]
          exact Nat.le_trans (layMax_mono d r50) hmx
        · refine ⟨_, rfl, k H' ld ts (fun b o e => kb b o (ne_of_none e hld) (SS _ _ (S0 _ _ e))) hld ?_ ht⟩
          simpa using hl
end
end SH
set_option Elab.async false
set_option linter.all false
set_option maxRecDepth 100000
namespace SH
open PySem PySem.Spec PyProof.Rows L2
def screenF (x0 : Int) (x1 : Int) (x2 : Addr) (x3 : Addr) : Fl := [("wide", .int x0), ("high", .int x1), ("marks", .ref x2), ("sources", .ref x3)]
theorem screenF_wide {x0 : Int} {x1 : Int} {x2 : Addr} {x3 : Addr} : (screenF x0 x1 x2 x3).lookup ("wide" : Str) = some (.int x0) := by kernel_rfl
theorem screenF_high {x0 : Int} {x1 : Int} {x2 : Addr} {x3 : Addr} : (screenF x0 x1 x2 x3).lookup ("high" : Str) = some (.int x1) := by kernel_rfl
theorem screenF_marks {x0 : Int} {x1 : Int} {x2 : Addr} {x3 : Addr} : (screenF x0 x1 x2 x3).lookup ("marks" : Str) = some (.ref x2) := by kernel_rfl
theorem screenF_sources {x0 : Int} {x1 : Int} {x2 : Addr} {x3 : Addr} : (screenF x0 x1 x2 x3).lookup ("sources" : Str) = some (.ref x3) := by kernel_rfl
theorem screenF_pwide {x0 : Int} {x1 : Int} {x2 : Addr} {x3 : Addr} {z : Int} : putF "wide" (.int z) (screenF x0 x1 x2 x3) = screenF z x1 x2 x3 := by kernel_rfl
theorem screenF_phigh {x0 : Int} {x1 : Int} {x2 : Addr} {x3 : Addr} {z : Int} : putF "high" (.int z) (screenF x0 x1 x2 x3) = screenF x0 z x2 x3 := by kernel_rfl
theorem screenF_pmarks {x0 : Int} {x1 : Int} {x2 : Addr} {x3 : Addr} {z : Addr} : putF "marks" (.ref z) (screenF x0 x1 x2 x3) = screenF x0 x1 z x3 := by kernel_rfl
theorem screenF_psources {x0 : Int} {x1 : Int} {x2 : Addr} {x3 : Addr} {z : Addr} : putF "sources" (.ref z) (screenF x0 x1 x2 x3) = screenF x0 x1 x2 z := by kernel_rfl
theorem screenF_few {x0 : Int} {x1 : Int} {x2 : Addr} {x3 : Addr} : (screenF x0 x1 x2 x3).length < 1000 := by show 4 < 1000; decide
abbrev sNInit : Stmt := inClass (top 37) 0
abbrev sNRep : Stmt := inClass (top 37) 1
abbrev sNStamp : Stmt := inClass (top 37) 2
abbrev sNChg : Stmt := inClass (top 37) 3
structure ScrH where
  a : Addr
  dx : Addr
  wide : Int
  high : Int
  ma : Addr
  rows : List (Addr × List Int)
  so : Addr
  srows : List (Addr × List V)
abbrev rowV (r : Addr × List V) : Addr × HO := (r.1, HO.lst r.2)
def scrCells (CN : Addr) (s : ScrH) : Cells := (s.a, .ins CN s.dx (screenF s.wide s.high s.ma s.so)) :: (s.ma, .lst (s.rows.map fun r => V.ref r.1)) :: (s.so, .lst (s.srows.map fun r => V.ref r.1)) :: (s.rows.map rowC ++ s.srows.map rowV)
structure NWf (s : ScrH) : Prop where
  w1 : 1 ≤ s.wide
  w2 : s.wide ≤ 12
  h1 : 1 ≤ s.high
  h2 : s.high ≤ 8
  rl : (s.rows.length : Int) = s.high
  cl : ∀ r ∈ s.rows, (r.2.length : Int) = s.wide
  sl : (s.srows.length : Int) = s.high
  sc : ∀ r ∈ s.srows, (r.2.length : Int) = s.wide
structure TxtN (K : PySem.W.Frag) (mg : Str → Option Value) (CN : Addr) : Prop where
  cl : Cls K CN
  nwide : NoAttr K CN "wide"
  nhigh : NoAttr K CN "high"
  nmarks : NoAttr K CN "marks"
  nsources : NoAttr K CN "sources"
  mgC : mg "Screen" = some (.ref CN)
  range : mg "range" = none
  max : mg "max" = none
  min : mg "min" = none
section
variable {P : Program} {w : World} {K : PySem.W.Frag} {mg : Str → Option Value} {base : Heap}
theorem grid_lc (i : Nat) {tw : TE} {σ : L2.St} {H : Hp} {L : Cells} {c : V} {W N : Nat} {Qd : Hp → Prop} {D : Addr} (hh : Has H L) (hD : H D = none) (hW : W ≤ 100) (hN : N ≤ 100)
    (htw : ∀ x M H2 Q, Has H2 (L ++ M) → Q (.int (W : Int)) H2 → tw ((wipe σ [i]).set i (some x)) H2 Q)
    (hd : ∀ (rs : List (Addr × List V)) H', rs.length = N → (∀ r ∈ rs, r.2 = List.replicate W c) → Same H H' → Has H' (L ++ ((D, .lst (rs.map fun r => V.ref r.1)) :: rs.map rowV)) → Qd H') :
    ∃ Wn : Nat → Nat → Hp → Prop, (∃ m, Wn 0 m (upd H D (.lst []))) ∧ ∀ k m H, Wn k m H →
      ((Itr 0 N).stop k H ∧ Qd H) ∨ ((Itr 0 N).go k H ∧ ∃ Nx : Hp → Prop, (∀ H', Nx H' → ∃ m', m' < m ∧ Wn (k + 1) m' H') ∧ ∀ x H', (Itr 0 N).yld k H x H' → gName i x (wipe σ [i]) H' fun σ2 H2 => wipe σ2 [i] = wipe σ [i] ∧ tYes σ2 H2 fun b H3 =>
        if b = true then tOp rRep (tLst (tCons (tC c) tNil)) tw σ2 H3 fun y H4 => ∃ acc, H4 D = some (.lst acc) ∧ acc.length < sizeLine ∧ Nx (upd H4 D (.lst (acc ++ [y]))) else Nx H3) := by
  refine lc_range (lo := 0) (n := N) (fun k H2 => ∃ (rs : List (Addr × List V)) (Z : Cells), rs.length = k ∧ (∀ r ∈ rs, r.2 = List.replicate W c) ∧ Same H H2 ∧ Has H2 (L ++ ((D, .lst (rs.map fun r => V.ref r.1)) :: (rs.map rowV ++ Z)))) ?_ ?_ ?_
  · refine ⟨[], [], rfl, fun r hr => by (cases hr), Same.new _ hD, ?_⟩
    exact Has.new (A := L) (T := []) (by rwa [List.append_nil]) hD _
  · rintro k H2 hk ⟨rs, Z, hl, hr, s2, g⟩
    refine ⟨by simp [wipe], ?_⟩
    refine ⟨small (by show 1 ≤ 1000; decide), fun p hp => ?_⟩
    have g1 : Has (upd H2 p (.lst [c])) (L ++ ((D, .lst (rs.map fun r => V.ref r.1)) :: (rs.map rowV ++ (p, .lst [c]) :: Z))) := by
      have := (by simpa using g : Has H2 ((L ++ ((D, .lst (rs.map fun r => V.ref r.1)) :: rs.map rowV)) ++ Z))
      have := this.new hp (.lst [c])
      simpa using this
    refine htw _ _ _ _ g1 ?_
    refine ⟨p, (W : Int), [c], rfl, rfl, g1.mem (by simp), by omega, by omega, small (by simp; omega), fun q hq => ?_⟩
    have g2 : Has (upd (upd H2 p (.lst [c])) q (.lst (List.replicate (W : Int).toNat [c]).flatten)) (L ++ ((D, .lst (rs.map fun r => V.ref r.1)) :: (rs.map rowV ++ (q, .lst (List.replicate (W : Int).toNat [c]).flatten) :: ((p, .lst [c]) :: Z)))) := by
      have := (by simpa using g1 : Has (upd H2 p (.lst [c])) ((L ++ ((D, .lst (rs.map fun r => V.ref r.1)) :: rs.map rowV)) ++ (((p, .lst [c]) :: Z))))
      have := this.new hq (.lst (List.replicate (W : Int).toNat [c]).flatten)
      simpa using this
    refine ⟨_, g2.hd, ?_, rs ++ [(q, List.replicate W c)], (p, .lst [c]) :: Z, by simp [hl], ?_, Same.mut _ ((s2.trans (Same.new _ hp)).trans (Same.new _ hq)) hD, ?_⟩
    · rw [List.length_map, hl]; exact small1000 (by omega)
    · intro r hr'
      rcases List.mem_append.mp hr' with h | h
      · exact hr r h
      · have := List.mem_singleton.mp h; subst this; rfl
    · have g3 := g2.wr (o' := .lst ((rs.map fun r => V.ref r.1) ++ [V.ref q]))
      have e : (List.replicate (W : Int).toNat [c]).flatten = List.replicate W c := by
        rw [Int.toNat_natCast]
        clear hW htw hd g g1 g2 g3 hr
        induction W with
        | zero => rfl
        | succ n ih => rw [List.replicate_succ, List.flatten_cons, ih, List.replicate_succ]; rfl
      rw [e] at g3
      simpa [rowV] using g3
  · rintro H2 ⟨rs, Z, hl, hr, s2, g⟩
    refine hd rs H2 hl hr s2 (g.sub ?_)
    refine List.Sublist.append_left (List.Sublist.cons₂ _ ?_) _
    exact List.sublist_append_left _ _
end
end SH
set_option Elab.async false
set_option linter.all false
set_option maxRecDepth 100000
namespace SH
open PySem PySem.Spec PyProof.Rows L2
theorem few_put' {a b : Nat} (h : a < b) : a < b := h
theorem rows_int {rs : List (Addr × List V)} {W : Nat} (h : ∀ r ∈ rs, r.2 = List.replicate W (.int 0)) : rs.map rowV = (rs.map fun r => (r.1, List.replicate W (0 : Int))).map rowC := by
  rw [List.map_map]
  refine List.map_congr_left fun r hr => ?_
  show (r.1, HO.lst r.2) = (r.1, HO.lst ((List.replicate W (0 : Int)).map V.int))
  rw [h r hr, List.map_replicate]
section
variable {P : Program} {w : World} {K : PySem.W.Frag} {mg : Str → Option Value} {base : Heap}
abbrev nNI : List Str := ["self", "wide", "high", "_"]
theorem scNInit : FnScope nNI ["self", "wide", "high"] (defScope sNInit) := ⟨rfl, rfl, rfl, by decide +kernel, rfl, by decide +kernel, by decide +kernel⟩
def spNInit (CN : Addr) : Sp := fun vs H Q _ => ∃ (A B : Cells) (p dx : Addr) (wd hi : Int), vs = [.ref p, .int wd, .int hi] ∧ Has H (A ++ ((p, .ins CN dx []) :: B)) ∧ 1 ≤ wd ∧ wd ≤ 12 ∧ 1 ≤ hi ∧ hi ≤ 8 ∧
  ∀ (s : ScrH) H', s.a = p → s.wide = wd → s.high = hi → NWf s → (∀ r ∈ s.rows, r.2 = List.replicate wd.toNat 0) → Has H' (A ++ (scrCells CN s ++ B)) → Q .non H'
theorem grid_perm {A B R S : Cells} {p d e : Addr × HO} : (A ++ (p :: ((B ++ (d :: R)) ++ (e :: S)))).Perm (A ++ ((p :: d :: e :: (R ++ S)) ++ B)) := by
  refine List.Perm.append_left _ ?_
  show (p :: ((B ++ (d :: R)) ++ (e :: S))).Perm (p :: ((d :: e :: (R ++ S)) ++ B))
  refine List.Perm.cons _ ?_
  rw [List.append_assoc]
  refine List.perm_append_comm.trans (List.Perm.append_right _ ?_)
  exact List.Perm.cons _ List.perm_middle
theorem ok_ninit {f CN fW : Addr} {fd fdW : FuncData} (F : Fun K "__init__" "Screen.__init__" sNInit f fd) (T : TxtN K mg CN) (TF : TxtF K w mg)
    (FW : Fun K "is_within" "is_within" sWithin fW fdW) (bW : Binds K fdW ["value", "least", "greatest"] []) (gW : mg "is_within" = some (.ref fW)) :
    FnOk P w K mg base CX0 2 f fd ["self", "wide", "high"] (spNInit CN) := by
  have GW := ok_within (P := P) (base := base) FW TF
  refine F.ok scNInit (fun vs H Q E h => ?_) (fun cdv A0 outer s0 H vs Q E hr h => ?_)
  · obtain ⟨A, B, p, dx, wd, hi, rfl, _⟩ := h
    rfl
  · obtain ⟨A, B, p, dx, wd, hi, rfl, hh, w1, w2, h1, h2, k⟩ := h
    obtain ⟨W, rfl⟩ : ∃ W : Nat, wd = (W : Int) := ⟨wd.toNat, by omega⟩
    obtain ⟨N, rfl⟩ : ∃ N : Nat, hi = (N : Int) := ⟨hi.toNat, by omega⟩
    refine ⟨_, pss_cons (ps_if (PW.pt (pw_or (pt_not (pt_val (pe_call GW (hr.mono (by decide)) rfl gW FW.kp bW .nil pass0 (pa_cons (pv 1) (pa_cons pe_int (pa_cons pe_int pa_nil))))))
        (pw_or1 (pt_not (pt_val (pe_call GW (hr.mono (by decide)) rfl gW FW.kp bW .nil pass0 (pa_cons (pv 2) (pa_cons pe_int (pa_cons pe_int pa_nil))))))))) pss_never pss_nil)
      (pss_cons (ps_fld (pv 0) (pv 1) rfl) (pss_cons (ps_fld (pv 0) (pv 2) rfl)
      (pss_cons (ps_fld (pv 0) (pe_lc (own := [("_", 3)]) (g := gName 3) (te := tOp rRep (tLst (tCons (tC (.int 0)) tNil)) (tVar 1)) (by rfl) scNInit.nd (pi_range1 rfl T.range (pa_cons (pv 2) pa_nil)) (blkOk_by (own := [("_", 3)]) (N := nNI) (sc := defScope sNInit) (by decide +kernel))
          (fun _ _ _ _ _ => pg_name (i := 3) scNInit.nd rfl (Or.inl rfl)) (fun _ _ _ _ _ => pts_nil) (fun _ _ _ _ _ => pe_op op_rep (pe_lst (pa_cons pe_int pa_nil)) (pv 1))) rfl)
      (pss_one (ps_fld (pv 0) (pe_lc (own := [("_", 3)]) (g := gName 3) (te := tOp rRep (tLst (tCons (tC .non) tNil)) (tVar 1)) (by rfl) scNInit.nd (pi_range1 rfl T.range (pa_cons (pv 2) pa_nil)) (blkOk_by (own := [("_", 3)]) (N := nNI) (sc := defScope sNInit) (by decide +kernel))
          (fun _ _ _ _ _ => pg_name (i := 3) scNInit.nd rfl (Or.inl rfl)) (fun _ _ _ _ _ => pts_nil) (fun _ _ _ _ _ => pe_op op_rep (pe_lst (pa_cons pe_non pa_nil)) (pv 1))) rfl))))), ?_⟩
    refine ⟨_, rfl, W, 1, 12, rfl, _, rfl, ?_⟩
    rw [decide_eq_true w1, decide_eq_true w2]
    refine iteF ?_
    refine ⟨_, rfl, N, 1, 8, rfl, _, rfl, ?_⟩
    rw [decide_eq_true h1, decide_eq_true h2]
    refine iteF ?_
    refine ⟨_, rfl, _, rfl, p, CN, dx, _, rfl, hh.hd, T.cl, T.nwide, few few_nil, ?_⟩
    have g1 := hh.wr (o' := .ins CN dx (putF "wide" (.int W) []))
    refine ⟨_, rfl, _, rfl, p, CN, dx, _, rfl, g1.hd, T.cl, T.nhigh, few (few_put few_nil), ?_⟩
    have g2 := g1.wr (o' := .ins CN dx (putF "high" (.int N) (putF "wide" (.int W) [])))
    refine ⟨_, rfl, N, rfl, by omega, by omega, fun D hD => ?_⟩
    refine grid_lc 3 (N := N) (W := W) g2 hD (by omega) (by omega) (fun x M H2 Q _ q => ⟨_, rfl, q⟩) (fun rs H3 hl hr3 _ g3 => ?_)
    rw [rows_int hr3] at g3
    refine ⟨_, rfl, p, CN, dx, _, rfl, g3.assoc.hd, T.cl, T.nmarks, few (few_put (few_put few_nil)), ?_⟩
    have g4 := g3.assoc.wr (o' := .ins CN dx (putF "marks" (.ref D) (putF "high" (.int N) (putF "wide" (.int W) []))))
    refine ⟨_, rfl, N, rfl, by omega, by omega, fun D2 hD2 => ?_⟩
    refine grid_lc 3 (N := N) (W := W) g4 hD2 (by omega) (by omega) (fun x M H2 Q _ q => ⟨_, rfl, q⟩) (fun ss H5 hl5 hr5 _ g5 => ?_)
    refine ⟨_, rfl, p, CN, dx, _, rfl, g5.assoc.hd, T.cl, T.nsources, few (few_put (few_put (few_put few_nil))), ?_⟩
    have g6 := g5.assoc.wr (o' := .ins CN dx (putF "sources" (.ref D2) (putF "marks" (.ref D) (putF "high" (.int N) (putF "wide" (.int W) [])))))
    refine k ⟨p, dx, W, N, D, rs.map fun r => (r.1, List.replicate W 0), D2, ss⟩ _ rfl rfl rfl ⟨w1, w2, h1, h2, by simp [hl], ?_, by simp [hl5], ?_⟩ ?_ ?_
    · intro r hr'
      obtain ⟨r, _, rfl⟩ := List.mem_map.mp hr'
      simp
    · intro r hr'
      rw [hr5 r hr']; simp
    · intro r hr'
      obtain ⟨r, _, rfl⟩ := List.mem_map.mp hr'
      simp
    · have e1 : putF "sources" (.ref D2) (putF "marks" (.ref D) (putF "high" (.int N) (putF "wide" (.int W) []))) = screenF W N D D2 := by kernel_rfl
      rw [e1] at g6 ⊢
      have e2 : (rs.map fun r => (r.1, List.replicate W (0 : Int))).map (fun r => V.ref r.1) = rs.map fun r => V.ref r.1 := by rw [List.map_map]; rfl
      refine g6.perm ?_
      show (A ++ (_ :: ((B ++ ((D, _) :: _)) ++ ((D2, _) :: _)))).Perm (A ++ ((_ :: (D, HO.lst ((rs.map fun (r : Addr × List V) => (r.1, List.replicate W (0 : Int))).map fun (r : Addr × List Int) => V.ref r.1)) :: (D2, _) :: (_ ++ _)) ++ B))
      rw [e2]
      exact grid_perm
end
end SH
set_option Elab.async false
set_option linter.all false
set_option maxRecDepth 100000
namespace SH
open PySem PySem.Spec PyProof.Rows L2
def paintG {α : Type} (q : Nat → Nat → Option α) (rs : List (Addr × List α)) : List (Addr × List α) := rs.mapIdx fun j r => (r.1, r.2.mapIdx fun i c => (q j i).getD c)
theorem mapIdx_idG {α : Type} : ∀ (l : List α), List.mapIdx (fun _ c => c) l = l := fun l => by
  apply List.ext_getElem?
  intro n
  simp [List.getElem?_mapIdx]
theorem paintG_none {α : Type} (rs : List (Addr × List α)) : paintG (fun _ _ => none) rs = rs := by
  unfold paintG
  apply List.ext_getElem?
  intro n
  simp [List.getElem?_mapIdx, mapIdx_idG]
theorem paintG_congr {α : Type} {p q : Nat → Nat → Option α} (h : ∀ j i, p j i = q j i) (rs : List (Addr × List α)) : paintG p rs = paintG q rs := by
  have : p = q := by funext j i; exact h j i
  rw [this]
theorem paintG_set {α : Type} {q q' : Nat → Nat → Option α} {m : α} {rs : List (Addr × List α)} {j i : Nat} {r : Addr × List α} (e : rs[j]? = some r) (h1 : q' j i = some m) (h2 : ∀ j' i', ¬ (j' = j ∧ i' = i) → q' j' i' = q j' i') :
    (paintG q rs).set j (r.1, (r.2.mapIdx fun i c => (q j i).getD c).set i m) = paintG q' rs := by
  have hj : j < rs.length := (List.getElem?_eq_some_iff.mp e).1
  unfold paintG
  apply List.ext_getElem?
  intro n
  rw [List.getElem?_set]
  by_cases hn : j = n
  · subst hn
    rw [if_pos rfl, if_pos (by simpa using hj), List.getElem?_mapIdx, e]
    simp only [Option.map_some, Option.some.injEq, Prod.mk.injEq, true_and]
    apply List.ext_getElem?
    intro c
    rw [List.getElem?_set]
    by_cases hc : i = c
    · subst hc
      rw [if_pos rfl]
      simp [List.getElem?_mapIdx]
      cases h : r.2[i]? with
      | none => rw [List.getElem?_eq_none_iff] at h; simp; omega
      | some z => have := (List.getElem?_eq_some_iff.mp h).1; simp [this, h1]
    · rw [if_neg hc]
      have : ¬ c = i := fun z => hc z.symm
      simp [List.getElem?_mapIdx, h2 j c (fun z => this z.2)]
  · rw [if_neg hn]
    have : ¬ n = j := fun z => hn z.symm
    simp [List.getElem?_mapIdx, fun c => h2 n c (fun z => this z.1)]
theorem paintG_get {α : Type} {q : Nat → Nat → Option α} {rs : List (Addr × List α)} {j : Nat} {r : Addr × List α} (e : rs[j]? = some r) : (paintG q rs)[j]? = some (r.1, r.2.mapIdx fun i c => (q j i).getD c) := by
  unfold paintG
  rw [List.getElem?_mapIdx, e]; rfl
theorem paintG_len {α : Type} (q : Nat → Nat → Option α) (rs : List (Addr × List α)) : (paintG q rs).length = rs.length := by unfold paintG; rw [List.length_mapIdx]
theorem paintG_rows {α : Type} {q : Nat → Nat → Option α} {rs : List (Addr × List α)} {n : Int} (h : ∀ r ∈ rs, (r.2.length : Int) = n) : ∀ r ∈ paintG q rs, (r.2.length : Int) = n := by
  intro r hr
  unfold paintG at hr
  obtain ⟨j, hj, e⟩ := List.getElem_of_mem hr
  rw [← e, List.getElem_mapIdx]
  show ((List.mapIdx _ _).length : Int) = n
  rw [List.length_mapIdx]
  exact h _ (List.getElem_mem _)
def stampQ (lm : List (List Int)) (lw lh left top wide high : Int) (j i : Nat) : Option Int :=
  if left ≤ (i : Int) ∧ (i : Int) < left + lw ∧ (i : Int) < wide ∧ top ≤ (j : Int) ∧ (j : Int) < top + lh ∧ (j : Int) < high ∧ markAt lm ((i : Int) - left) ((j : Int) - top) ≠ 0 then some (markAt lm ((i : Int) - left) ((j : Int) - top)) else none
def ScrH.painted (s : ScrH) (f : Nat → Nat → Option Int) (v : V) : ScrH := { s with rows := paintG f s.rows, srows := paintG (fun j i => (f j i).map fun _ => v) s.srows }
theorem NWf.painted {s : ScrH} (h : NWf s) (f : Nat → Nat → Option Int) (v : V) : NWf (s.painted f v) := ⟨h.w1, h.w2, h.h1, h.h2, by show ((paintG _ _).length : Int) = _; rw [paintG_len]; exact h.rl, paintG_rows h.cl, by show ((paintG _ _).length : Int) = _; rw [paintG_len]; exact h.sl, paintG_rows h.sc⟩
theorem map_set_fst {α : Type} {rs : List (Addr × List α)} {j : Nat} {r : Addr × List α} (e : rs[j]? = some r) (zs : List α) : (rs.set j (r.1, zs)).map (fun r => V.ref r.1) = rs.map fun r => V.ref r.1 := by
  have hj : j < rs.length := (List.getElem?_eq_some_iff.mp e).1
  apply List.ext_getElem?
  intro n
  rw [List.getElem?_map, List.getElem?_map, List.getElem?_set]
  by_cases hn : j = n
  · subst hn; rw [if_pos rfl, if_pos hj, e]; rfl
  · rw [if_neg hn]
section
variable {CN : Addr} {H : Hp} {A B : Cells} {s : ScrH}
theorem scr_at (h : Has H (A ++ (scrCells CN s ++ B))) {j : Nat} {r : Addr × List Int} (e : s.rows[j]? = some r) : (scrCells CN s ++ B)[3 + j]? = some (r.1, .lst (r.2.map V.int)) := by
  have hj : j < s.rows.length := (List.getElem?_eq_some_iff.mp e).1
  show ((_ :: _ :: _ :: (s.rows.map rowC ++ s.srows.map rowV)) ++ B)[3 + j]? = _
  rw [List.getElem?_append_left (by simp; omega), show 3 + j = j + 1 + 1 + 1 by omega, List.getElem?_cons_succ, List.getElem?_cons_succ, List.getElem?_cons_succ, List.getElem?_append_left (by simpa using hj), List.getElem?_map, e]; rfl
theorem scr_sat (h : Has H (A ++ (scrCells CN s ++ B))) {j : Nat} {r : Addr × List V} (e : s.srows[j]? = some r) : (scrCells CN s ++ B)[3 + (s.rows.length + j)]? = some (r.1, .lst r.2) := by
  have hj : j < s.srows.length := (List.getElem?_eq_some_iff.mp e).1
  show ((_ :: _ :: _ :: (s.rows.map rowC ++ s.srows.map rowV)) ++ B)[3 + (s.rows.length + j)]? = _
  rw [List.getElem?_append_left (by simp; omega), show 3 + (s.rows.length + j) = (s.rows.length + j) + 1 + 1 + 1 by omega, List.getElem?_cons_succ, List.getElem?_cons_succ, List.getElem?_cons_succ, List.getElem?_append_right (by simp), List.length_map, Nat.add_sub_cancel_left, List.getElem?_map, e]; rfl
theorem scr_row (h : Has H (A ++ (scrCells CN s ++ B))) {j : Nat} {r : Addr × List Int} (e : s.rows[j]? = some r) : H r.1 = some (.lst (r.2.map V.int)) := h.get (3 + j) (scr_at h e)
theorem scr_srow (h : Has H (A ++ (scrCells CN s ++ B))) {j : Nat} {r : Addr × List V} (e : s.srows[j]? = some r) : H r.1 = some (.lst r.2) := h.get (3 + (s.rows.length + j)) (scr_sat h e)
theorem scr_setrow (h : Has H (A ++ (scrCells CN s ++ B))) {j : Nat} {r : Addr × List Int} (e : s.rows[j]? = some r) (zs : List Int) : Has (upd H r.1 (.lst (zs.map V.int))) (A ++ (scrCells CN { s with rows := s.rows.set j (r.1, zs) } ++ B)) := by
  have hj : j < s.rows.length := (List.getElem?_eq_some_iff.mp e).1
  have h1 := h.set (3 + j) (scr_at h e) (.lst (zs.map V.int))
  refine h1.re (congrArg (A ++ ·) ?_)
  show (((s.a, _) :: (s.ma, _) :: (s.so, _) :: (s.rows.map rowC ++ s.srows.map rowV)) ++ B).set (3 + j) _ = ((s.a, _) :: (s.ma, HO.lst ((s.rows.set j (r.1, zs)).map fun r => V.ref r.1)) :: (s.so, _) :: ((s.rows.set j (r.1, zs)).map rowC ++ s.srows.map rowV)) ++ B
  rw [map_set_fst e, List.set_append_left _ _ (by simp; omega), show 3 + j = j + 1 + 1 + 1 by omega, List.set_cons_succ, List.set_cons_succ, List.set_cons_succ, List.set_append_left _ _ (by simpa using hj), List.map_set]
theorem scr_setsrow (h : Has H (A ++ (scrCells CN s ++ B))) {j : Nat} {r : Addr × List V} (e : s.srows[j]? = some r) (zs : List V) : Has (upd H r.1 (.lst zs)) (A ++ (scrCells CN { s with srows := s.srows.set j (r.1, zs) } ++ B)) := by
  have hj : j < s.srows.length := (List.getElem?_eq_some_iff.mp e).1
  have h1 := h.set (3 + (s.rows.length + j)) (scr_sat h e) (.lst zs)
  refine h1.re (congrArg (A ++ ·) ?_)
  show (((s.a, _) :: (s.ma, _) :: (s.so, _) :: (s.rows.map rowC ++ s.srows.map rowV)) ++ B).set (3 + (s.rows.length + j)) _ = ((s.a, _) :: (s.ma, _) :: (s.so, HO.lst ((s.srows.set j (r.1, zs)).map fun r => V.ref r.1)) :: (s.rows.map rowC ++ (s.srows.set j (r.1, zs)).map rowV)) ++ B
  rw [map_set_fst e, List.set_append_left _ _ (by simp; omega), show 3 + (s.rows.length + j) = (s.rows.length + j) + 1 + 1 + 1 by omega, List.set_cons_succ, List.set_cons_succ, List.set_cons_succ, List.set_append_right _ _ (by simp), List.length_map, Nat.add_sub_cancel_left, List.map_set]
end
end SH
set_option Elab.async false
set_option linter.all false
set_option maxRecDepth 100000
namespace SH
open PySem PySem.Spec PyProof.Rows L2
def dn (f : Nat → Nat → Option Int) (D : Nat → Nat → Bool) (j c : Nat) : Option Int := if D j c = true then f j c else none
theorem dn_congr {f : Nat → Nat → Option Int} {D E : Nat → Nat → Bool} (h : ∀ j c, f j c ≠ none → D j c = E j c) : dn f D = dn f E := by
  funext j c
  unfold dn
  by_cases e : f j c = none
  · rw [e]; simp
  · rw [h j c e]
theorem stampQ_some {lm : List (List Int)} {lw lh left top wide high : Int} {j i : Nat} (h : stampQ lm lw lh left top wide high j i ≠ none) : left ≤ (i : Int) ∧ (i : Int) < left + lw ∧ (i : Int) < wide ∧ top ≤ (j : Int) ∧ (j : Int) < top + lh ∧ (j : Int) < high := by
  unfold stampQ at h
  split at h
  · rename_i c; exact ⟨c.1, c.2.1, c.2.2.1, c.2.2.2.1, c.2.2.2.2.1, c.2.2.2.2.2.1⟩
  · exact absurd rfl h
theorem look_of {CS CL : Addr} {u : SurfR} {l : LookM} (h : u.shown = some l) (A X B C : Cells) : ∃ A', A ++ (X ++ (B ++ (surfCells CS CL u ++ C))) = A' ++ (lookCells CL l ++ C) := by
  refine ⟨A ++ X ++ B ++ ((u.a, u.obj CS) :: (u.pa, .dK (kvI u.parts)) :: (lookCells CL u.pend ++ olook CL u.ready)), ?_⟩
  unfold surfCells
  rw [h]
  simp [olook]
section
variable {P : Program} {w : World} {K : PySem.W.Frag} {mg : Str → Option Value} {base : Heap}
abbrev nStamp : List Str := ["self", "surface", "left", "top", "look", "y", "x", "mark"]
theorem scNStamp : FnScope nStamp ["self", "surface", "left", "top"] (defScope sNStamp) := ⟨rfl, rfl, rfl, by decide +kernel, rfl, by decide +kernel, by decide +kernel⟩
def ScrH.stamped (s : ScrH) (u : SurfR) (l : LookM) (left top : Int) : ScrH := s.painted (stampQ l.marks l.wide l.high left top s.wide s.high) (.ref u.a)
def spStamp (CN CS CL : Addr) : Sp := fun vs H Q _ => ∃ (A B C : Cells) (s : ScrH) (u : SurfR) (l : LookM) (left top : Int), vs = [.ref s.a, .ref u.a, .int left, .int top] ∧ Has H (A ++ (scrCells CN s ++ (B ++ (surfCells CS CL u ++ C)))) ∧ NWf s ∧ u.shown = some l ∧ LWf l ∧
  -1000 ≤ left ∧ left ≤ 1000 ∧ -1000 ≤ top ∧ top ≤ 1000 ∧
  ∀ H', Has H' (A ++ (scrCells CN (s.stamped u l left top) ++ (B ++ (surfCells CS CL u ++ C)))) → Q .non H'
theorem ok_stamp {f CN CS CL fM : Addr} {fd fdM : FuncData} (F : Fun K "stamp" "Screen.stamp" sNStamp f fd) (T : TxtN K mg CN) (TS : TxtS K mg CS) (TL : TxtL K mg CL)
    (FM : Fun K "mark_at" "Look.mark_at" sLMark fM fdM) (bM : Binds K fdM ["self", "x", "y"] []) (mM : Meth K CL "mark_at" fM) :
    FnOk P w K mg base CX0 2 f fd ["self", "surface", "left", "top"] (spStamp CN CS CL) := by
  have GM : FnOk P w K mg base CX0 1 fM fdM ["self", "x", "y"] (spLMark CL) := ok_lmark FM TL
  refine F.ok scNStamp (fun vs H Q E h => ?_) (fun cdv A0 outer s0 H vs Q E hr h => ?_)
  · obtain ⟨A, B, C, s, u, l, left, top, rfl, _⟩ := h
    rfl
  · obtain ⟨A, B, C, s, u, l, left, top, rfl, hh, nw, hsh, wf, hl1, hl2, ht1, ht2, k⟩ := h
    refine ⟨_, pss_cons (ps_set (i := 4) scNStamp.nd rfl (Or.inl rfl) (pe_fld (pv 1) rfl))
      (pss_one (ps_for PassesOwn.never rfl (pi_range2 rfl T.range (pa_cons (pe_callB (call_max2 rfl) (by rfl) T.max (by decide +kernel) (pa_cons pe_int (pa_cons (pv 3) pa_nil)))
          (pa_cons (pe_callB (call_min2 rfl) (by rfl) T.min (by decide +kernel) (pa_cons (pe_fld (pv 0) rfl) (pa_cons (pe_op op_add (pv 3) (pe_fld (pv 4) rfl)) pa_nil))) pa_nil))) (pg_name (i := 5) scNStamp.nd rfl (Or.inl rfl))
        (pss_one (ps_for PassesOwn.never rfl (pi_range2 rfl T.range (pa_cons (pe_callB (call_max2 rfl) (by rfl) T.max (by decide +kernel) (pa_cons pe_int (pa_cons (pv 2) pa_nil)))
            (pa_cons (pe_callB (call_min2 rfl) (by rfl) T.min (by decide +kernel) (pa_cons (pe_fld (pv 0) rfl) (pa_cons (pe_op op_add (pv 2) (pe_fld (pv 4) rfl)) pa_nil))) pa_nil))) (pg_name (i := 6) scNStamp.nd rfl (Or.inl rfl))
          (pss_cons (ps_set (i := 7) scNStamp.nd rfl (Or.inl rfl) (pe_meth (pv 4) TL.cl mM GM (hr.mono (by decide)) bM .nil pass0 (pa_cons (pe_op op_sub (pv 6) (pv 2)) (pa_cons (pe_op op_sub (pv 5) (pv 3)) pa_nil))))
          (pss_one (ps_if (pt_cmpR op_ne (pv 7) pe_int (nomark _)) (pss_cons (ps_asg (pv 7) (pg_sub (pe_ix ix_list (pe_fld (pv 0) rfl) (pv 5) (fun _ _ => rfl)) (pv 6) set_list))
            (pss_one (ps_asg (pv 1) (pg_sub (pe_ix ix_list (pe_fld (pv 0) rfl) (pv 5) (fun _ _ => rfl)) (pv 6) set_list)))) pss_nil))))))), ?_⟩
    have hn1 := nw.w2
    have hn2 := nw.h2
    have hlw := wf.w2
    have hlh := wf.h2
    obtain ⟨A', eA⟩ := look_of (CS := CS) (CL := CL) hsh A (scrCells CN s) B C
    have hu : H u.a = some (u.obj CS) := hh.mem (by simp [surfCells])
    have hlo : H l.a = some (lookObj CL l) := by have := hh; rw [eA] at this; exact this.get 0 rfl
    have eshown : (surfF u.owner u.name u.there (oref u.top) u.pa u.pend.a (oref (u.ready.map (·.a))) (oref (u.shown.map (·.a))) u.newly u.lx u.ly).lookup ("shown" : Str) = some (.ref l.a) := by rw [surfF_shown, hsh]; rfl
    refine ⟨_, rfl, u.a, CS, _, _, _, rfl, hu, TS.cl, TS.nshown, eshown, ?_⟩
    refine ⟨_, rfl, _, _, rfl, _, rfl, s.a, CN, _, _, _, rfl, hh.get 0 rfl, T.cl, T.nhigh, screenF_high, _, rfl, _, rfl, l.a, CL, _, _, _, rfl, hlo, TL.cl, TL.nhigh, lookF_high _ _ _ _ _ _ _, _, _, rfl, rfl, _, _, rfl, _, _, rfl, ?_⟩
    generalize hy0 : (if top > 0 then top else 0) = y0
    generalize hy1 : (if top + l.high < s.high then top + l.high else s.high) = y1
    have fy0 : 0 ≤ y0 ∧ top ≤ y0 ∧ (y0 = 0 ∨ y0 = top) := by rw [← hy0]; split <;> omega
    have fy1 : y1 ≤ top + l.high ∧ y1 ≤ s.high ∧ (y1 = top + l.high ∨ y1 = s.high) := by rw [← hy1]; split <;> omega
    have hwf1 := wf.h1
    have hww1 := wf.w1
    have hnh1 := nw.h1
    have hnw1 := nw.w1
    refine ⟨⟨by omega, by omega, by omega, by omega⟩, ?_⟩
    generalize hF : stampQ l.marks l.wide l.high left top s.wide s.high = FQ
    have fS : ∀ j c, FQ j c ≠ none → left ≤ (c : Int) ∧ (c : Int) < left + l.wide ∧ (c : Int) < s.wide ∧ top ≤ (j : Int) ∧ (j : Int) < top + l.high ∧ (j : Int) < s.high := fun j c h => stampQ_some (by rw [hF]; exact h)
    refine for_range (lo := y0) (n := (y1 - y0).toNat) (fun i σ H2 => ∃ a b c : Option V, σ = [some (.ref s.a), some (.ref u.a), some (.int left), some (.int top), some (.ref l.a), a, b, c] ∧
      Has H2 (A ++ (scrCells CN (s.painted (dn FQ fun j _ => decide ((j : Int) < y0 + i)) (.ref u.a)) ++ (B ++ (surfCells CS CL u ++ C))))) ?_ ?_ ?_
    · refine ⟨none, none, none, rfl, ?_⟩
      have e : dn FQ (fun j _ => decide ((j : Int) < y0 + ((0 : Nat) : Int))) = fun _ _ => none := by
        rw [dn_congr (E := fun _ _ => false) fun j c h => decide_eq_false (by have := fS j c h; omega)]
        rfl
      rw [e]
      have e2 : s.painted (fun _ _ => none) (.ref u.a) = s := by
        unfold ScrH.painted
        show { s with rows := paintG (fun _ _ => none) s.rows, srows := paintG (fun _ _ => none) s.srows } = s
        rw [paintG_none, paintG_none]
      rw [e2]
      exact hh
    · rintro i σ H2 hi ⟨a, b, c, rfl, g⟩
      have hu2 : H2 u.a = some (u.obj CS) := g.mem (by simp [surfCells])
      obtain ⟨A2, eA2⟩ := look_of (CS := CS) (CL := CL) hsh A (scrCells CN (s.painted (dn FQ fun j _ => decide ((j : Int) < y0 + i)) (.ref u.a))) B C
      have hlo2 : H2 l.a = some (lookObj CL l) := by have := g; rw [eA2] at this; exact this.get 0 rfl
      refine ⟨_, rfl, _, _, rfl, _, rfl, s.a, CN, _, _, _, rfl, g.get 0 rfl, T.cl, T.nwide, screenF_wide, _, rfl, _, rfl, l.a, CL, _, _, _, rfl, hlo2, TL.cl, TL.nwide, lookF_wide _ _ _ _ _ _ _, _, _, rfl, rfl, _, _, rfl, _, _, rfl, ?_⟩
      have ew : (s.painted (dn FQ fun j _ => decide ((j : Int) < y0 + i)) (.ref u.a)).wide = s.wide := rfl
      rw [ew]
      generalize hx0 : (if left > 0 then left else 0) = x0
      generalize hx1 : (if left + l.wide < s.wide then left + l.wide else s.wide) = x1
      have fx0 : 0 ≤ x0 ∧ left ≤ x0 ∧ (x0 = 0 ∨ x0 = left) := by rw [← hx0]; split <;> omega
      have fx1 : x1 ≤ left + l.wide ∧ x1 ≤ s.wide ∧ (x1 = left + l.wide ∨ x1 = s.wide) := by rw [← hx1]; split <;> omega
      refine ⟨⟨by omega, by omega, by omega, by omega⟩, ?_⟩
      refine for_range (lo := x0) (n := (x1 - x0).toNat) (fun c0 σ H3 => ∃ b c : Option V, σ = [some (.ref s.a), some (.ref u.a), some (.int left), some (.int top), some (.ref l.a), some (.int (y0 + i)), b, c] ∧
        Has H3 (A ++ (scrCells CN (s.painted (dn FQ fun j c => decide ((j : Int) < y0 + i ∨ ((j : Int) = y0 + i ∧ (c : Int) < x0 + c0))) (.ref u.a)) ++ (B ++ (surfCells CS CL u ++ C))))) ?_ ?_ ?_
      · refine ⟨b, c, rfl, ?_⟩
        rw [dn_congr (E := fun j _ => decide ((j : Int) < y0 + i)) fun j c h => by have := fS j c h; rw [decide_eq_decide]; omega]
        exact g
      · rintro c0 σ H3 hc0 ⟨b, c, rfl, g3⟩
        generalize hD : (fun (j c : Nat) => decide ((j : Int) < y0 + i ∨ ((j : Int) = y0 + i ∧ (c : Int) < x0 + c0))) = D at g3
        obtain ⟨A3, eA3⟩ := look_of (CS := CS) (CL := CL) hsh A (scrCells CN (s.painted (dn FQ D) (.ref u.a))) B C
        have g3' := g3
        rw [eA3] at g3'
        have hlo3 : H3 l.a = some (lookObj CL l) := g3'.get 0 rfl
        have hsr := nw.rl
        have hss := nw.sl
        obtain ⟨jj, ejj⟩ : ∃ jj : Nat, y0 + (i : Int) = (jj : Int) := ⟨(y0 + i).toNat, by omega⟩
        obtain ⟨cc, ecc⟩ : ∃ cc : Nat, x0 + (c0 : Int) = (cc : Int) := ⟨(x0 + c0).toNat, by omega⟩
        have hjl : jj < s.rows.length := by omega
        have hjs : jj < s.srows.length := by omega
        have er : s.rows[jj]? = some s.rows[jj] := List.getElem?_eq_getElem hjl
        have ers : s.srows[jj]? = some s.srows[jj] := List.getElem?_eq_getElem hjs
        have hcl := nw.cl _ (List.getElem_mem hjl)
        have hcs := nw.sc _ (List.getElem_mem hjs)
        generalize s.rows[jj] = r0 at er hcl
        generalize s.srows[jj] = q0 at ers hcs
        rw [ejj, ecc]
        have hfq : FQ jj cc = if markAt l.marks ((cc : Int) - left) ((jj : Int) - top) ≠ 0 then some (markAt l.marks ((cc : Int) - left) ((jj : Int) - top)) else none := by
          rw [← hF]
          unfold stampQ
          by_cases z : markAt l.marks ((cc : Int) - left) ((jj : Int) - top) ≠ 0
          · rw [if_pos z, if_pos ⟨by omega, by omega, by omega, by omega, by omega, by omega, z⟩]
          · rw [if_neg z, if_neg fun y => z y.2.2.2.2.2.2]
        generalize hD' : (fun (j c : Nat) => decide ((j : Int) < (jj : Int) ∨ ((j : Int) = (jj : Int) ∧ (c : Int) < x0 + ((c0 + 1 : Nat) : Int)))) = D'
        refine ⟨_, rfl, l.a, _, _, rfl, hlo3, by kernel_rfl, _, rfl, _, rfl, _, _, rfl, rfl, _, rfl, _, rfl, _, _, rfl, rfl, A3, C, l, (cc : Int) - left, (jj : Int) - top, rfl, g3', wf, by omega, by omega, ?_⟩
        generalize hm : markAt l.marks ((cc : Int) - left) ((jj : Int) - top) = m at hfq
        refine ⟨_, rfl, rfl, _, rfl, ?_⟩
        by_cases c0m : m = 0
        · subst c0m
          refine iteF ?_
          refine ⟨_, _, rfl, ?_⟩
          rw [if_neg (fun z => z rfl)] at hfq
          have e : dn FQ D = dn FQ D' := dn_congr fun j c h => by
            have hne : ¬ (j = jj ∧ c = cc) := fun z => h (by rw [z.1, z.2]; exact hfq)
            rw [← hD, ← hD', decide_eq_decide]; omega
          rw [← e]
          exact g3
        · have et : (!decide (V.int m = V.int 0)) = true := by
            rw [decide_eq_false (fun z => c0m (V.int.inj z))]; rfl
          rw [et]
          refine iteT ?_
          rw [if_pos c0m] at hfq
          have em : (s.painted (dn FQ D) (.ref u.a)).rows[jj]? = some (r0.1, r0.2.mapIdx fun i c => (dn FQ D jj i).getD c) := paintG_get er
          have es : (s.painted (dn FQ D) (.ref u.a)).srows[jj]? = some (q0.1, q0.2.mapIdx fun i c => ((dn FQ D jj i).map fun _ => V.ref u.a).getD c) := paintG_get (q := fun j i => (dn FQ D j i).map fun _ => V.ref u.a) ers
          have hd1 : dn FQ D' jj cc = some m := by
            unfold dn
            have : D' jj cc = true := by rw [← hD']; exact decide_eq_true (by omega)
            rw [this, if_pos rfl, hfq]
          have hd2 : ∀ j' i', ¬ (j' = jj ∧ i' = cc) → dn FQ D' j' i' = dn FQ D j' i' := fun j' i' hne => by
            unfold dn
            have : D' j' i' = D j' i' := by rw [← hD, ← hD', decide_eq_decide]; omega
            rw [this]
          have g4 := scr_setrow g3 em ((r0.2.mapIdx fun i c => (dn FQ D jj i).getD c).set cc m)
          have g5 := scr_setsrow g4 es ((q0.2.mapIdx fun i c => ((dn FQ D jj i).map fun _ => V.ref u.a).getD c).set cc (.ref u.a))
          refine ⟨_, rfl, _, rfl, s.a, CN, _, _, _, rfl, g3.get 0 rfl, T.cl, T.nmarks, screenF_marks, _, rfl, _, _, _, V.ref r0.1, rfl, rfl, SqL.of (g3.get 1 rfl), at_of (j := jj) rfl (by show ((paintG _ s.rows).map fun r => V.ref r.1)[jj]? = _; rw [List.getElem?_map, paintG_get er]; rfl),
            _, rfl, _, _, _, cc, rfl, rfl, scr_row g3 (r := (r0.1, r0.2.mapIdx fun i c => (dn FQ D jj i).getD c)) em, ?_, ?_⟩
          · rw [List.length_map, List.length_mapIdx]
            unfold ixN
            rw [if_pos (by omega), if_pos (by omega)]; rfl
          · have e5 : ∀ {xs : List Int} {k : Nat}, (xs.map V.int).set k (V.int m) = (xs.set k m).map V.int := by intro xs k; rw [List.map_set]
            rw [e5]
            refine ⟨_, rfl, _, rfl, s.a, CN, _, _, _, rfl, g4.get 0 rfl, T.cl, T.nsources, screenF_sources, _, rfl, _, _, _, V.ref q0.1, rfl, rfl, SqL.of (g4.get 2 rfl), at_of (j := jj) rfl (by show ((paintG _ s.srows).map fun r => V.ref r.1)[jj]? = _; rw [List.getElem?_map, paintG_get ers]; rfl),
              _, rfl, _, _, _, cc, rfl, rfl, scr_srow g4 (r := (q0.1, q0.2.mapIdx fun i c => ((dn FQ D jj i).map fun _ => V.ref u.a).getD c)) es, ?_, ?_⟩
            · rw [List.length_mapIdx]
              unfold ixN
              rw [if_pos (by omega), if_pos (by omega)]; rfl
            · refine ⟨_, _, rfl, g5.re ?_⟩
              have e6 : (paintG (dn FQ D) s.rows).set jj (r0.1, (r0.2.mapIdx fun i c => (dn FQ D jj i).getD c).set cc m) = paintG (dn FQ D') s.rows := paintG_set er hd1 hd2
              have e7 : (paintG (fun j i => (dn FQ D j i).map fun _ => V.ref u.a) s.srows).set jj (q0.1, (q0.2.mapIdx fun i c => ((dn FQ D jj i).map fun _ => V.ref u.a).getD c).set cc (.ref u.a)) = paintG (fun j i => (dn FQ D' j i).map fun _ => V.ref u.a) s.srows :=
                paintG_set (q := fun j i => (dn FQ D j i).map fun _ => V.ref u.a) ers (by show (dn FQ D' jj cc).map _ = _; rw [hd1]; rfl) (fun j' i' hne => by show (dn FQ D' j' i').map _ = _; rw [hd2 j' i' hne])
              unfold ScrH.painted
              simp only [e6, e7]
      · rintro σ H3 ⟨b, c, rfl, g3⟩
        refine ⟨_, b, c, rfl, ?_⟩
        rw [dn_congr (E := fun j _ => decide ((j : Int) < y0 + ((i + 1 : Nat) : Int))) fun j c h => by have := fS j c h; rw [decide_eq_decide]; omega] at g3
        exact g3
    · rintro σ H2 ⟨a, b, c, rfl, g⟩
      refine k _ ?_
      have e : dn FQ (fun j _ => decide ((j : Int) < y0 + ((y1 - y0).toNat : Int))) = FQ := by
        rw [dn_congr (E := fun _ _ => true) fun j c h => decide_eq_true (by have := fS j c h; omega)]
        rfl
      rw [e] at g
      unfold ScrH.stamped
      rw [hF]
      exact g
end
end SH
set_option Elab.async false
set_option linter.all false
set_option maxRecDepth 100000
namespace SH
open PySem PySem.Spec PyProof.Rows L2
structure GridAt (H : Hp) (la : Addr) (rows : List (Addr × List Int)) : Prop where
  l : H la = some (.lst (rows.map fun r => V.ref r.1))
  r : ∀ r ∈ rows, H r.1 = some (.lst (r.2.map V.int))
theorem GridAt.keep {H H' : Hp} {la : Addr} {rows : List (Addr × List Int)} (g : GridAt H la rows) (s : Same H H') : GridAt H' la rows := ⟨s _ _ g.l, fun r hr => s _ _ (g.r r hr)⟩
def msOf (rows : List (Addr × List Int)) : List (List Int) := rows.map (·.2)
theorem mark_get {rows : List (Addr × List Int)} {y x : Nat} {r : Addr × List Int} {m : Int} (e : rows[y]? = some r) (em : r.2[x]? = some m) : markAt (msOf rows) x y = m := by
  unfold markAt msOf
  rw [List.getD_eq_getElem?_getD, List.getD_eq_getElem?_getD, List.getElem?_map]
  simp [e, em]
def TupsI (H : Hp) (ts : List Addr) (qs : List (Int × Int × Int)) : Prop := Paired (fun (t : Addr) (q : Int × Int × Int) => H t = some (.tup [.int q.1, .int q.2.1, .int q.2.2])) ts qs
theorem TupsI.keep {H H' : Hp} {ts : List Addr} {qs : List (Int × Int × Int)} (h : TupsI H ts qs) (k : ∀ b xs, H b = some (.tup xs) → H' b = some (.tup xs)) : TupsI H' ts qs := Paired.mapP h fun _ _ e => k _ _ e
theorem TupsI.app {H : Hp} : ∀ {ts us : List Addr} {qs rs : List (Int × Int × Int)}, TupsI H ts qs → TupsI H us rs → TupsI H (ts ++ us) (qs ++ rs)
  | [], _, [], _, .nil, h => h
  | _ :: _, _, _ :: _, _, .cons a t, h => .cons a (TupsI.app t h)
def chg1 (ms bs : List (List Int)) (y x : Nat) : List (Int × Int × Int) := if markAt ms x y ≠ markAt bs x y then [((x : Int), (y : Int), markAt ms x y)] else []
def chgs (ms bs : List (List Int)) (wd hi : Nat) : List (Int × Int × Int) := (List.range hi).flatMap fun y => (List.range wd).flatMap fun x => chg1 ms bs y x
section
variable {P : Program} {w : World} {K : PySem.W.Frag} {mg : Str → Option Value} {base : Heap}
abbrev nChg : List Str := ["self", "before", "y", "x"]
theorem scNChg : FnScope nChg ["self", "before"] (defScope sNChg) := ⟨rfl, rfl, rfl, by decide +kernel, rfl, by decide +kernel, by decide +kernel⟩
def spChg (CN : Addr) : Sp := fun vs H Q _ => ∃ (sa dx ma so bl : Addr) (wd hi : Nat) (rows brows : List (Addr × List Int)), vs = [.ref sa, .ref bl] ∧ H sa = some (.ins CN dx (screenF wd hi ma so)) ∧ GridAt H ma rows ∧ GridAt H bl brows ∧ wd ≤ 12 ∧ hi ≤ 8 ∧
  rows.length = hi ∧ (∀ r ∈ rows, r.2.length = wd) ∧ brows.length = hi ∧ (∀ r ∈ brows, r.2.length = wd) ∧
  ∀ H' l ts, Same H H' → H l = none → H' l = some (.lst (ts.map V.ref)) → TupsI H' ts (chgs (msOf rows) (msOf brows) wd hi) → Q (.ref l) H'
theorem chg_len (ms bs : List (List Int)) (y n : Nat) : ((List.range n).flatMap fun x => chg1 ms bs y x).length ≤ n := by
  refine Nat.le_trans (flat_le (m := 1) fun x _ => ?_) (by simp)
  unfold chg1
  split <;> simp
theorem chgs_len (ms bs : List (List Int)) (wd n : Nat) : (chgs ms bs wd n).length ≤ n * wd := by
  refine Nat.le_trans (flat_le (m := wd) fun y _ => chg_len ms bs y wd) (by simp)
theorem ok_chg {f CN : Addr} {fd : FuncData} (F : Fun K "changes" "Screen.changes" sNChg f fd) (T : TxtN K mg CN) :
    FnOk P w K mg base CX0 1 f fd ["self", "before"] (spChg CN) := by
  refine F.ok scNChg (fun vs H Q E h => ?_) (fun cdv A0 outer s0 H vs Q E hr h => ?_)
  · obtain ⟨sa, dx, ma, so, bl, wd, hi, rows, brows, rfl, _⟩ := h
    rfl
  · obtain ⟨sa, dx, ma, so, bl, wd, hi, rows, brows, rfl, hsa, hg, hb, hw, hh, r1, r2, b1, b2, k⟩ := h
    refine ⟨_, pss_one (ps_ret (pe_lc2 (own := [("y", 2), ("x", 3)]) (vs1 := [3]) (g := gName 2) (g1 := gName 3) (tt := tYes) (wi1 := iRng1 (tCons (tFld K (tVar 0) "wide") tNil))
        (tt1 := tTest (tOp rNe (tOp (rIxL K) (tOp (rIxL K) (tFld K (tVar 0) "marks") (tVar 2)) (tVar 3)) (tOp (rIxL K) (tOp (rIxL K) (tVar 1) (tVar 2)) (tVar 3))))
        (te := tTup (tCons (tVar 3) (tCons (tVar 2) (tCons (tOp (rIxL K) (tOp (rIxL K) (tFld K (tVar 0) "marks") (tVar 2)) (tVar 3)) tNil)))) (by rfl) scNChg.nd (pi_range1 rfl T.range (pa_cons (pe_fld (pv 0) rfl) pa_nil)) (blkOk_by (own := [("y", 2), ("x", 3)]) (N := nChg) (sc := defScope sNChg) (by decide +kernel)) (by decide)
        (fun _ _ _ _ _ => pg_name (i := 2) scNChg.nd rfl (Or.inl rfl)) (fun _ _ _ _ _ => pts_nil)
        (fun _ _ _ _ _ => pi_range1 rfl T.range (pa_cons (pe_fld (pv 0) rfl) pa_nil))
        (fun _ _ _ _ _ => pg_name (i := 3) scNChg.nd rfl (Or.inl rfl))
        (fun _ _ _ _ _ => pts_one (pt_cmpR op_ne (pe_ix ix_list (pe_ix ix_list (pe_fld (pv 0) rfl) (pv 2) (fun _ _ => rfl)) (pv 3) (fun _ _ => rfl)) (pe_ix ix_list (pe_ix ix_list (pv 1) (pv 2) (fun _ _ => rfl)) (pv 3) (fun _ _ => rfl)) (nomark _)))
        (fun _ _ _ _ _ => pe_tup (pa_cons (pv 3) (pa_cons (pv 2) (pa_cons (pe_ix ix_list (pe_ix ix_list (pe_fld (pv 0) rfl) (pv 2) (fun _ _ => rfl)) (pv 3) (fun _ _ => rfl)) pa_nil)))))), ?_⟩
    refine ⟨_, rfl, sa, CN, _, _, _, rfl, hsa, T.cl, T.nhigh, screenF_high, hi, rfl, by omega, by omega, fun D hD => ?_⟩
    refine out_it (w := walk_range (lo := 0) (n := (hi : Int).toNat)) (fun i H2 => Same H H2 ∧ ∃ ts, H2 D = some (.lst (ts.map V.ref)) ∧ TupsI H2 ts ((List.range i).flatMap fun y => (List.range wd).flatMap fun x => chg1 (msOf rows) (msOf brows) y x)) ⟨Same.new _ hD, [], upd_same, .nil⟩
      (fun i H2 _ e => trivial) ?_ ?_
    · rintro i x H2 H3 hi' ⟨s2, ts, hD2, ht2⟩ ⟨rfl, ex⟩
      obtain rfl : x = .int (i : Int) := ex.trans (congrArg V.int (Int.zero_add _))
      have hi' : i < hi := by simpa using hi'
      have er : rows[i]? = some rows[i] := List.getElem?_eq_getElem (by omega)
      have eb : brows[i]? = some brows[i] := List.getElem?_eq_getElem (by omega)
      have hrm := List.getElem_mem (l := rows) (n := i) (by omega)
      have hbm := List.getElem_mem (l := brows) (n := i) (by omega)
      have hrl := r2 _ hrm
      have hbl := b2 _ hbm
      have hrr := hg.r _ hrm
      have hbr := hb.r _ hbm
      generalize rows[i] = r at er hrl hrr
      generalize brows[i] = b at eb hbl hbr
      refine ⟨rfl, _, rfl, sa, CN, _, _, _, rfl, s2 _ _ hsa, T.cl, T.nwide, screenF_wide, wd, rfl, by omega, by omega, ?_⟩
      refine out_it (w := walk_range (lo := 0) (n := (wd : Int).toNat)) (fun j H4 => Same H H4 ∧ ∃ ts, H4 D = some (.lst (ts.map V.ref)) ∧ TupsI H4 ts (((List.range i).flatMap fun y => (List.range wd).flatMap fun x => chg1 (msOf rows) (msOf brows) y x) ++ ((List.range j).flatMap fun x => chg1 (msOf rows) (msOf brows) i x))) ⟨s2, ts, hD2, by simpa using ht2⟩
        (fun j H4 _ e => trivial) ?_ ?_
      · rintro j x H4 H5 hj ⟨s4, us, hD4, ht4⟩ ⟨rfl, ex⟩
        obtain rfl : x = .int (j : Int) := ex.trans (congrArg V.int (Int.zero_add _))
        have hj : j < wd := by simpa using hj
        have em : r.2[j]? = some r.2[j] := List.getElem?_eq_getElem (by omega)
        have ebm : b.2[j]? = some b.2[j] := List.getElem?_eq_getElem (by omega)
        generalize r.2[j] = m at em
        generalize b.2[j] = n at ebm
        have e1 := mark_get er em
        have e2 := mark_get eb ebm
        refine ⟨rfl, _, rfl, sa, CN, _, _, _, rfl, s4 _ _ hsa, T.cl, T.nmarks, screenF_marks, _, rfl, _, _, _, V.ref r.1, rfl, rfl, SqL.of (s4 _ _ hg.l), at_of (j := i) rfl (by rw [List.getElem?_map, er]; rfl), _, rfl, _, _, _, V.int m, rfl, rfl, SqL.of (s4 _ _ hrr), at_of (j := j) rfl (by rw [List.getElem?_map, em]; rfl),
          _, rfl, _, rfl, _, _, _, V.ref b.1, rfl, rfl, SqL.of (s4 _ _ hb.l), at_of (j := i) rfl (by rw [List.getElem?_map, eb]; rfl), _, rfl, _, _, _, V.int n, rfl, rfl, SqL.of (s4 _ _ hbr), at_of (j := j) rfl (by rw [List.getElem?_map, ebm]; rfl), rfl, _, rfl, ?_⟩
        have hul := paired_len ht4
        have hl1 := chgs_len (msOf rows) (msOf brows) wd i
        have hl2 := chg_len (msOf rows) (msOf brows) i j
        have hmul : i * wd ≤ 7 * 12 := Nat.mul_le_mul (by omega) hw
        unfold chgs at hl1
        rw [List.length_append] at hul
        rw [List.range_succ, List.flatMap_append]
        by_cases c : m = n
        · have et : (!decide (V.int m = V.int n)) = false := by rw [decide_eq_true (by rw [c])]; rfl
          rw [et]
          refine iteF ?_
          refine ⟨s4, us, hD4, ?_⟩
          have : ([j].flatMap fun x => chg1 (msOf rows) (msOf brows) i x) = [] := by
            show chg1 _ _ i j ++ [] = []
            unfold chg1
            rw [e1, e2, if_neg (fun z => z c)]; rfl
          rw [this, List.append_nil]
          exact ht4
        · have et : (!decide (V.int m = V.int n)) = true := by rw [decide_eq_false (fun z => c (V.int.inj z))]; rfl
          rw [et]
          refine iteT ?_
          refine ⟨_, rfl, _, rfl, _, rfl, sa, CN, _, _, _, rfl, s4 _ _ hsa, T.cl, T.nmarks, screenF_marks, _, rfl, _, _, _, V.ref r.1, rfl, rfl, SqL.of (s4 _ _ hg.l), at_of (j := i) rfl (by rw [List.getElem?_map, er]; rfl), _, rfl, _, _, _, V.int m, rfl, rfl, SqL.of (s4 _ _ hrr), at_of (j := j) rfl (by rw [List.getElem?_map, em]; rfl),
            small (by show 3 ≤ 1000; decide), fun t ht => ?_⟩
          have nDt : D ≠ t := ne_of_none hD4 ht
          refine ⟨us.map V.ref, by rw [upd_ne nDt]; exact hD4, ?_, ?_⟩
          · rw [List.length_map]; exact small1000 (by omega)
          · refine ⟨Same.mut _ (s4.trans (Same.new _ ht)) hD, us ++ [t], ?_, ?_⟩
            · rw [upd_same]; simp
            · have : ([j].flatMap fun x => chg1 (msOf rows) (msOf brows) i x) = [((j : Int), (i : Int), m)] := by
                show chg1 _ _ i j ++ [] = _
                unfold chg1
                rw [e1, e2, if_pos c]; rfl
              rw [this, ← List.append_assoc]
              refine TupsI.app (ht4.keep fun b xs e => ?_) (.cons ?_ .nil)
              · rw [upd_ne, upd_ne (ne_of_none e ht)]
                · exact e
                · intro z; rw [z, hD4] at e; cases e
              · show upd _ D _ t = _
                rw [upd_ne nDt.symm, upd_same]
      · rintro H4 ⟨s4, us, hD4, ht4⟩
        refine ⟨s4, us, hD4, ?_⟩
        rw [List.range_succ, List.flatMap_append]
        have e : (wd : Int).toNat = wd := by omega
        rw [e] at ht4
        simpa using ht4
    · rintro H2 ⟨s2, ts, hD2, ht2⟩
      have e : (hi : Int).toNat = hi := by omega
      rw [e] at ht2
      exact k H2 D ts s2 hD hD2 ht2
end
end SH
set_option Elab.async false
set_option linter.all false
set_option maxRecDepth 100000
namespace SH
open PySem PySem.Spec PyProof.Rows L2
theorem rep_perm {α : Type} (x m s d e : α) (r z R r0 z0 : List α) : ((((x :: m :: s :: (r ++ z)) ++ R) ++ (d :: r0)) ++ (e :: z0)).Perm (((x :: d :: e :: (r0 ++ z0)) ++ ((m :: r) ++ R)) ++ (s :: z)) := by
  classical
  exact List.perm_iff_count.mpr fun c => by simp only [List.count_append, List.count_cons]; omega
def paint1 (lk : Addr → Option LookM) (s : ScrH) (q : Addr × Int × Int) : ScrH := match lk q.1 with
  | some l => s.painted (stampQ l.marks l.wide l.high q.2.1 q.2.2 s.wide s.high) (.ref q.1)
  | none => s
def paintAll (lk : Addr → Option LookM) (s : ScrH) (qs : List (Addr × Int × Int)) : ScrH := qs.foldl (paint1 lk) s
structure SameScr (s t : ScrH) : Prop where
  a : t.a = s.a
  dx : t.dx = s.dx
  wide : t.wide = s.wide
  high : t.high = s.high
theorem SameScr.trans {s t u : ScrH} (h : SameScr s t) (k : SameScr t u) : SameScr s u := ⟨k.a.trans h.a, k.dx.trans h.dx, k.wide.trans h.wide, k.high.trans h.high⟩
theorem paint1_same (lk : Addr → Option LookM) (s : ScrH) (q : Addr × Int × Int) : SameScr s (paint1 lk s q) := by
  unfold paint1
  split <;> exact ⟨rfl, rfl, rfl, rfl⟩
theorem paint1_wf {lk : Addr → Option LookM} {s : ScrH} (h : NWf s) (q : Addr × Int × Int) : NWf (paint1 lk s q) := by
  unfold paint1
  split
  · exact h.painted _ _
  · exact h
theorem paintAll_same (lk : Addr → Option LookM) : ∀ (qs : List (Addr × Int × Int)) (s : ScrH), SameScr s (paintAll lk s qs)
  | [], s => ⟨rfl, rfl, rfl, rfl⟩
  | q :: qs, s => (paint1_same lk s q).trans (paintAll_same lk qs _)
theorem paintAll_wf {lk : Addr → Option LookM} : ∀ (qs : List (Addr × Int × Int)) {s : ScrH}, NWf s → NWf (paintAll lk s qs)
  | [], s, h => h
  | q :: qs, s, h => paintAll_wf qs (paint1_wf h q)
section
variable {P : Program} {w : World} {K : PySem.W.Frag} {mg : Str → Option Value} {base : Heap}
abbrev nRep : List Str := ["self", "laid", "before", "surface", "left", "top", "_"]
theorem scNRep : FnScope nRep ["self", "laid"] (defScope sNRep) := ⟨rfl, rfl, rfl, by decide +kernel, rfl, by decide +kernel, by decide +kernel⟩
def spRep (CN CS CL : Addr) : Sp := fun vs H Q _ => ∃ (A R : Cells) (s : ScrH) (ll : Addr) (ts : List Addr) (qs : List (Addr × Int × Int)) (lk : Addr → Option LookM), vs = [.ref s.a, .ref ll] ∧ Has H (A ++ (scrCells CN s ++ R)) ∧ NWf s ∧
  (ll, HO.lst (ts.map V.ref)) ∈ R ∧ TupsAt H ts qs ∧ (∀ q ∈ qs, (-1000 ≤ q.2.1 ∧ q.2.1 ≤ 1000 ∧ -1000 ≤ q.2.2 ∧ q.2.2 ≤ 1000) ∧ ∃ (B C : Cells) (u : SurfR) (l : LookM), R = B ++ (surfCells CS CL u ++ C) ∧ u.a = q.1 ∧ u.shown = some l ∧ lk q.1 = some l ∧ LWf l) ∧
  ∀ (s0 : ScrH) H' l us, SameScr s s0 → NWf s0 → (∀ r ∈ s0.rows, r.2 = List.replicate s.wide.toNat 0) → (∀ r ∈ s0.srows, r.2 = List.replicate s.wide.toNat V.non) → KeepT H H' → Has H' ((l, .lst (us.map V.ref)) :: (A ++ (scrCells CN (paintAll lk s0 qs) ++ R))) → TupsI H' us (chgs (msOf (paintAll lk s0 qs).rows) (msOf s.rows) s.wide.toNat s.high.toNat) → Q (.ref l) H'
theorem Has.add {H H' : Hp} {L : Cells} (h : Has H L) {l : Addr} {o : HO} (hl : H l = none) (s : ∀ b o, H b = some o → H' b = some o) (e : H' l = some o) : Has H' ((l, o) :: L) := by
  refine ⟨fun p hp => ?_, ?_⟩
  · rcases List.mem_cons.mp hp with z | z
    · subst z; exact e
    · exact s _ _ (h.ok p z)
  · rw [List.map_cons, List.nodup_cons]
    exact ⟨h.fresh hl, h.nd⟩
theorem Has.same {H H' : Hp} {L : Cells} (h : Has H L) (s : Same H H') : Has H' L := ⟨fun p hp => s _ _ (h.ok p hp), h.nd⟩
theorem TupsAt.keepT {H H' : Hp} {ts : List Addr} {qs : List (Addr × Int × Int)} (h : TupsAt H ts qs) (k : KeepT H H') : TupsAt H' ts qs := h.keep k
theorem KeepT.same {H H' : Hp} (s : Same H H') : KeepT H H' := fun b xs e => s _ _ e
theorem KeepT.wr {H : Hp} {p : Addr} {C dx : Addr} {fs : Fl} (h : H p = some (.ins C dx fs)) (o : HO) : KeepT H (upd H p o) := upd_tup fun xs e => by rw [h] at e; cases e
theorem ok_rep {f CN CS CL fS fC fM : Addr} {fd fdS fdC fdM : FuncData} (F : Fun K "repaint" "Screen.repaint" sNRep f fd) (T : TxtN K mg CN) (TS : TxtS K mg CS) (TL : TxtL K mg CL)
    (FM : Fun K "mark_at" "Look.mark_at" sLMark fM fdM) (bM : Binds K fdM ["self", "x", "y"] []) (mM : Meth K CL "mark_at" fM)
    (FS : Fun K "stamp" "Screen.stamp" sNStamp fS fdS) (bS : Binds K fdS ["self", "surface", "left", "top"] []) (mS : Meth K CN "stamp" fS)
    (FC : Fun K "changes" "Screen.changes" sNChg fC fdC) (bC : Binds K fdC ["self", "before"] []) (mC : Meth K CN "changes" fC) :
    FnOk P w K mg base CX0 3 f fd ["self", "laid"] (spRep CN CS CL) := by
  have GS := keep_t (ok_stamp (P := P) (w := w) (mg := mg) (base := base) FS T TS TL FM bM mM)
  have GC := ok_chg (P := P) (w := w) (mg := mg) (base := base) FC T
  refine F.ok scNRep (fun vs H Q E h => ?_) (fun cdv A0 outer s0 H vs Q E hr h => ?_)
  · obtain ⟨A, R, s, ll, ts, qs, lk, rfl, _⟩ := h
    rfl
  · obtain ⟨A, R, s, ll, ts, qs, lk, rfl, hh, nw, hll, hts, hqs, k⟩ := h
    obtain ⟨sa, dx, wide, high, ma, rows, so, srows⟩ := s
    obtain ⟨W, rfl⟩ : ∃ W : Nat, wide = (W : Int) := ⟨wide.toNat, by have := nw.w1; simp only at this; omega⟩
    obtain ⟨N, rfl⟩ : ∃ N : Nat, high = (N : Int) := ⟨high.toNat, by have := nw.h1; simp only at this; omega⟩
    have w2 : W ≤ 12 := by have := nw.w2; simp only at this; omega
    have h2 : N ≤ 8 := by have := nw.h2; simp only at this; omega
    refine ⟨_, pss_cons (ps_set (i := 2) scNRep.nd rfl (Or.inl rfl) (pe_fld (pv 0) rfl))
      (pss_cons (ps_fld (pv 0) (pe_lc (own := [("_", 6)]) (g := gName 6) (te := tOp rRep (tLst (tCons (tC (.int 0)) tNil)) (tFld K (tVar 0) "wide")) (by rfl) scNRep.nd (pi_range1 rfl T.range (pa_cons (pe_fld (pv 0) rfl) pa_nil)) (blkOk_by (own := [("_", 6)]) (N := nRep) (sc := defScope sNRep) (by decide +kernel))
          (fun _ _ _ _ _ => pg_name (i := 6) scNRep.nd rfl (Or.inl rfl)) (fun _ _ _ _ _ => pts_nil) (fun _ _ _ _ _ => pe_op op_rep (pe_lst (pa_cons pe_int pa_nil)) (pe_fld (pv 0) rfl))) rfl)
      (pss_cons (ps_fld (pv 0) (pe_lc (own := [("_", 6)]) (g := gName 6) (te := tOp rRep (tLst (tCons (tC .non) tNil)) (tFld K (tVar 0) "wide")) (by rfl) scNRep.nd (pi_range1 rfl T.range (pa_cons (pe_fld (pv 0) rfl) pa_nil)) (blkOk_by (own := [("_", 6)]) (N := nRep) (sc := defScope sNRep) (by decide +kernel))
          (fun _ _ _ _ _ => pg_name (i := 6) scNRep.nd rfl (Or.inl rfl)) (fun _ _ _ _ _ => pts_nil) (fun _ _ _ _ _ => pe_op op_rep (pe_lst (pa_cons pe_non pa_nil)) (pe_fld (pv 0) rfl))) rfl)
      (pss_cons (ps_for PassesOwn.never rfl (pi_list (pv 1)) (pg_tup rfl (pgs_cons (pg_name (i := 3) scNRep.nd rfl (Or.inl rfl)) (pgs_cons (pg_name (i := 4) scNRep.nd rfl (Or.inl rfl)) (pgs_cons (pg_name (i := 5) scNRep.nd rfl (Or.inl rfl)) pgs_nil))))
        (pss_one (ps_expr (pe_meth (pv 0) T.cl mS GS (hr.mono (by decide)) bS .nil pass0 (pa_cons (pv 3) (pa_cons (pv 4) (pa_cons (pv 5) pa_nil)))))))
      (pss_one (ps_ret (pe_meth (pv 0) T.cl mC GC (hr.mono (by decide)) bC .nil pass0 (pa_cons (pv 2) pa_nil))))))), ?_⟩
    refine ⟨_, rfl, sa, CN, dx, _, _, rfl, hh.get 0 rfl, T.cl, T.nmarks, screenF_marks, ?_⟩
    refine ⟨_, rfl, sa, CN, dx, _, _, rfl, hh.get 0 rfl, T.cl, T.nhigh, screenF_high, N, rfl, by omega, by omega, fun D hD => ?_⟩
    refine grid_lc 6 (N := N) (W := W) hh hD (by omega) (by omega) (fun x M H2 Q hM q => ⟨_, rfl, sa, CN, dx, _, _, rfl, hM.assoc.get 0 rfl, T.cl, T.nwide, screenF_wide, q⟩) (fun rs H3 hl hr3 sm3 g3 => ?_)
    rw [rows_int hr3] at g3
    have g3 := g3.assoc
    refine ⟨_, rfl, sa, CN, dx, _, rfl, g3.get 0 rfl, T.cl, T.nmarks, screenF_few, ?_⟩
    have sm4 := (KeepT.same sm3).trans (KeepT.wr (g3.get 0 rfl) (.ins CN dx (putF "marks" (.ref D) (screenF W N ma so))))
    have g4 := g3.set 0 rfl (.ins CN dx (putF "marks" (.ref D) (screenF W N ma so)))
    rw [screenF_pmarks] at g4 sm4 ⊢
    have g4 : Has _ (A ++ (((sa, HO.ins CN dx (screenF W N D so)) :: (ma, .lst (rows.map fun r => V.ref r.1)) :: (so, .lst (srows.map fun r => V.ref r.1)) :: (rows.map rowC ++ srows.map rowV)) ++ R ++ ((D, .lst (rs.map fun r => V.ref r.1)) :: (rs.map fun r => (r.1, List.replicate W (0 : Int))).map rowC))) := g4
    refine ⟨_, rfl, sa, CN, dx, _, _, rfl, g4.get 0 rfl, T.cl, T.nhigh, screenF_high, N, rfl, by omega, by omega, fun D2 hD2 => ?_⟩
    refine grid_lc 6 (N := N) (W := W) g4 hD2 (by omega) (by omega) (fun x M H2 Q hM q => ⟨_, rfl, sa, CN, dx, _, _, rfl, hM.assoc.get 0 rfl, T.cl, T.nwide, screenF_wide, q⟩) (fun ss H5 hl5 hr5 sm5 g5 => ?_)
    have g5 := g5.assoc
    refine ⟨_, rfl, sa, CN, dx, _, rfl, g5.get 0 rfl, T.cl, T.nsources, screenF_few, ?_⟩
    have sm6 := (sm4.trans (KeepT.same sm5)).trans (KeepT.wr (g5.get 0 rfl) (.ins CN dx (putF "sources" (.ref D2) (screenF W N D so))))
    have g6 := g5.set 0 rfl (.ins CN dx (putF "sources" (.ref D2) (screenF W N D so)))
    rw [screenF_psources] at g6 sm6 ⊢
    generalize hs0 : (⟨sa, dx, W, N, D, rs.map fun r => (r.1, List.replicate W 0), D2, ss⟩ : ScrH) = s0
    generalize upd H5 sa (.ins CN dx (screenF W N D D2)) = H6 at g6 sm6 ⊢
    have g7 : Has H6 (A ++ ((scrCells CN s0 ++ (((ma, HO.lst (rows.map fun r => V.ref r.1)) :: rows.map rowC) ++ R)) ++ ((so, HO.lst (srows.map fun r => V.ref r.1)) :: srows.map rowV))) := by
      refine g6.perm (List.Perm.append_left _ ?_)
      rw [← hs0]
      have e2 : (rs.map fun (r : Addr × List V) => (r.1, List.replicate W (0 : Int))).map (fun (r : Addr × List Int) => V.ref r.1) = rs.map fun r => V.ref r.1 := by rw [List.map_map]; rfl
      unfold scrCells
      rw [e2]
      exact rep_perm _ _ _ _ _ _ _ _ _ _
    have g8 := g7.sub (List.Sublist.append_left (List.sublist_append_left _ _) _)
    have z0 : NWf s0 := by
      rw [← hs0]
      refine ⟨nw.w1, nw.w2, nw.h1, nw.h2, by simp [hl], ?_, by simp [hl5], ?_⟩
      · intro r hr'
        obtain ⟨r, _, rfl⟩ := List.mem_map.mp hr'
        simp
      · intro r hr'
        rw [hr5 r hr']; simp
    have z1 : SameScr ⟨sa, dx, W, N, ma, rows, so, srows⟩ s0 := by rw [← hs0]; exact ⟨rfl, rfl, rfl, rfl⟩
    have z2 : ∀ r ∈ s0.rows, r.2 = List.replicate W 0 := by
      rw [← hs0]
      intro r hr'
      obtain ⟨r, _, rfl⟩ := List.mem_map.mp hr'
      rfl
    have z3 : ∀ r ∈ s0.srows, r.2 = List.replicate W V.non := by
      rw [← hs0]
      exact hr5
    clear hs0 g7 g6
    generalize hold : ((ma, HO.lst (rows.map fun r => V.ref r.1)) :: rows.map rowC) = old at g8
    have hql := paired_len hts
    have hLL : ∀ {H'} {s' : ScrH}, Has H' (A ++ (scrCells CN s' ++ (old ++ R))) → H' ll = some (.lst (ts.map V.ref)) := fun g => g.mem (by simp [hll])
    refine ⟨_, rfl, ll, rfl, ⟨_, SqL.of (hLL g8)⟩, for_list (K := K) (a := ll) (xs := ts.map V.ref) (fun i σ H7 => ∃ a b c : Option V, σ = [some (.ref sa), some (.ref ll), some (.ref ma), a, b, c, none] ∧ KeepT H H7 ∧
      Has H7 (A ++ (scrCells CN (paintAll lk s0 (qs.take i)) ++ (old ++ R)))) ⟨none, none, none, rfl, sm6, g8⟩ ?_ ?_ ?_⟩
    · rintro i σ H7 _ ⟨_, _, _, _, _, g⟩
      exact SqL.of (hLL g)
    · rintro i x σ H7 hx ⟨a, b, c, rfl, k7, g⟩
      rw [List.getElem?_map] at hx
      cases ea : ts[i]? with
      | none => rw [ea] at hx; cases hx
      | some t =>
        rw [ea] at hx
        obtain rfl : V.ref t = x := Option.some.inj hx
        have hil : i < qs.length := by rw [← hql]; exact (List.getElem?_eq_some_iff.mp ea).1
        have eq : qs[i]? = some qs[i] := List.getElem?_eq_getElem hil
        have ht := k7 _ _ (paired_ix (R := fun (t : Addr) (q : Addr × Int × Int) => H t = some (.tup [.ref q.1, .int q.2.1, .int q.2.2])) hts ea eq)
        obtain ⟨⟨i1, i2, i3, i4⟩, B, C, u, l, eR, hua, hus, hlk, hlw⟩ := hqs _ (List.mem_of_getElem? eq)
        generalize qs[i] = q at eq ht i1 i2 i3 i4 hua hlk
        refine ⟨t, _, rfl, SqT.of ht, rfl, _, _, rfl, _, _, rfl, _, _, rfl, rfl, ?_⟩
        have ss := paintAll_same lk (qs.take i) s0
        have nws := paintAll_wf (lk := lk) (qs.take i) z0
        have e1 : paintAll lk s0 (qs.take (i + 1)) = paint1 lk (paintAll lk s0 (qs.take i)) q := by
          unfold paintAll
          rw [List.take_add_one, eq, List.foldl_append]; rfl
        generalize paintAll lk s0 (qs.take i) = s1 at g ss nws e1
        have ea1 : s1.a = sa := ss.a.trans z1.a
        have gB : Has H7 (A ++ (scrCells CN s1 ++ ((old ++ B) ++ (surfCells CS CL u ++ C)))) := by rw [eR, ← List.append_assoc old] at g; exact g
        refine ⟨_, rfl, sa, _, _, rfl, ea1 ▸ gB.get 0 rfl, by kernel_rfl, _, rfl, _, rfl, _, rfl, A, old ++ B, C, s1, u, l, q.2.1, q.2.2, by rw [ea1, hua]; rfl, gB, nws, hus, hlw, i1, i2, i3, i4, fun H8 g9 k8 => ?_⟩
        refine ⟨_, _, _, rfl, k7.trans k8, ?_⟩
        rw [e1]
        have e2 : paint1 lk s1 q = s1.stamped u l q.2.1 q.2.2 := by
          unfold paint1 ScrH.stamped
          rw [hlk, hua]
        rw [e2, eR, ← List.append_assoc old]
        exact g9
    · rintro σ H7 ⟨a, b, c, rfl, k7, g⟩
      have et : qs.take (ts.map V.ref).length = qs := by rw [List.length_map, hql, List.take_length]
      rw [et] at g
      have ss := z1.trans (paintAll_same lk qs s0)
      have nws := paintAll_wf (lk := lk) qs z0
      have k := k s0
      generalize paintAll lk s0 qs = s1 at g ss nws k
      have ob : H7 s1.a = some (.ins CN s1.dx (screenF s1.wide s1.high s1.ma s1.so)) := g.get 0 rfl
      have ea : s1.a = sa := ss.a
      have ew : s1.wide = (W : Int) := ss.wide
      have eh : s1.high = (N : Int) := ss.high
      rw [ea, ew, eh] at ob
      have g1 : GridAt H7 s1.ma s1.rows := ⟨g.get 1 rfl, fun r hr => by
        obtain ⟨j, hj, e⟩ := List.getElem_of_mem hr
        exact scr_row g (by rw [List.getElem?_eq_getElem hj, e])⟩
      have g2 : GridAt H7 ma rows := ⟨g.mem (by rw [← hold]; simp), fun r hr => g.mem (by
        rw [← hold]
        refine List.mem_append_right _ (List.mem_append_right _ (List.mem_append_left _ (List.mem_cons_of_mem _ ?_)))
        exact List.mem_map_of_mem (f := rowC) hr)⟩
      have l1 := nws.rl
      have l2 := nws.cl
      have l3 := nw.rl
      have l4 := nw.cl
      simp only at l3 l4
      rw [ew] at l2
      rw [eh] at l1
      refine ⟨_, rfl, sa, _, _, rfl, ob, by kernel_rfl, _, rfl, sa, s1.dx, s1.ma, s1.so, ma, W, N, s1.rows, rows, rfl, ob, g1, g2, w2, h2, by omega, fun r hr => by have := l2 r hr; omega, by omega, fun r hr => by have := l4 r hr; omega, fun H8 l us s8 hl8 hl9 hu => ?_⟩
      exact k H8 l us z1 z0 z2 z3 (k7.trans (KeepT.same s8)) ((g.sub (List.Sublist.append_left (List.Sublist.append_left (List.sublist_append_right _ _) _) _)).add hl8 s8 hl9) hu
end
end SH
set_option Elab.async false
set_option linter.all false
set_option maxRecDepth 100000
namespace SH
open PySem PySem.Spec PyProof.Rows L2
def handsF (x0 : Addr) (x1 : V) (x2 : V) : Fl := [("fingers", .ref x0), ("focus", x1), ("holder", x2)]
theorem handsF_fingers {x0 : Addr} {x1 : V} {x2 : V} : (handsF x0 x1 x2).lookup ("fingers" : Str) = some (.ref x0) := by kernel_rfl
theorem handsF_focus {x0 : Addr} {x1 : V} {x2 : V} : (handsF x0 x1 x2).lookup ("focus" : Str) = some (x1) := by kernel_rfl
theorem handsF_holder {x0 : Addr} {x1 : V} {x2 : V} : (handsF x0 x1 x2).lookup ("holder" : Str) = some (x2) := by kernel_rfl
theorem handsF_pfingers {x0 : Addr} {x1 : V} {x2 : V} {z : Addr} : putF "fingers" (.ref z) (handsF x0 x1 x2) = handsF z x1 x2 := by kernel_rfl
theorem handsF_pfocus {x0 : Addr} {x1 : V} {x2 : V} {z : V} : putF "focus" (z) (handsF x0 x1 x2) = handsF x0 z x2 := by kernel_rfl
theorem handsF_pholder {x0 : Addr} {x1 : V} {x2 : V} {z : V} : putF "holder" (z) (handsF x0 x1 x2) = handsF x0 x1 z := by kernel_rfl
theorem handsF_few {x0 : Addr} {x1 : V} {x2 : V} : (handsF x0 x1 x2).length < 1000 := by show 3 < 1000; decide
def houseF (x0 : Addr) (x1 : Addr) (x2 : Addr) : Fl := [("_screen", .ref x0), ("_clients", .ref x1), ("_hands", .ref x2)]
theorem houseF__screen {x0 : Addr} {x1 : Addr} {x2 : Addr} : (houseF x0 x1 x2).lookup ("_screen" : Str) = some (.ref x0) := by kernel_rfl
theorem houseF__clients {x0 : Addr} {x1 : Addr} {x2 : Addr} : (houseF x0 x1 x2).lookup ("_clients" : Str) = some (.ref x1) := by kernel_rfl
theorem houseF__hands {x0 : Addr} {x1 : Addr} {x2 : Addr} : (houseF x0 x1 x2).lookup ("_hands" : Str) = some (.ref x2) := by kernel_rfl
theorem houseF_p_screen {x0 : Addr} {x1 : Addr} {x2 : Addr} {z : Addr} : putF "_screen" (.ref z) (houseF x0 x1 x2) = houseF z x1 x2 := by kernel_rfl
theorem houseF_p_clients {x0 : Addr} {x1 : Addr} {x2 : Addr} {z : Addr} : putF "_clients" (.ref z) (houseF x0 x1 x2) = houseF x0 z x2 := by kernel_rfl
theorem houseF_p_hands {x0 : Addr} {x1 : Addr} {x2 : Addr} {z : Addr} : putF "_hands" (.ref z) (houseF x0 x1 x2) = houseF x0 x1 z := by kernel_rfl
theorem houseF_few {x0 : Addr} {x1 : Addr} {x2 : Addr} : (houseF x0 x1 x2).length < 1000 := by show 3 < 1000; decide
abbrev sHDInit : Stmt := inClass (top 31) 0
abbrev sHInit : Stmt := inClass (top 39) 0
abbrev sHJoin : Stmt := inClass (top 39) 1
abbrev sHTell : Stmt := inClass (top 39) 3
abbrev sHRest : Stmt := inClass (top 39) 5
abbrev sHStand : Stmt := inClass (top 39) 8
abbrev sHBeat : Stmt := inClass (top 39) 9
abbrev sHScreen : Stmt := inClass (top 39) 10
abbrev sHKnown : Stmt := inClass (top 39) 14
abbrev sHPresent : Stmt := inClass (top 39) 15
abbrev sHShown : Stmt := inClass (top 39) 16
structure HouH where
  a : Addr
  dx : Addr
  sc : Addr
  cl : Addr
  ca : List Addr
  ha : Addr
  hdx : Addr
  fa : Addr
def houCells (CH CD : Addr) (h : HouH) : Cells := [(h.a, .ins CH h.dx (houseF h.sc h.cl h.ha)), (h.cl, .lst (h.ca.map V.ref)), (h.ha, .ins CD h.hdx (handsF h.fa .non .non)), (h.fa, .dK [])]
structure TxtD (K : PySem.W.Frag) (mg : Str → Option Value) (CD : Addr) : Prop where
  cl : Cls K CD
  nfingers : NoAttr K CD "fingers"
  nfocus : NoAttr K CD "focus"
  nholder : NoAttr K CD "holder"
  mgC : mg "Hands" = some (.ref CD)
structure TxtH (K : PySem.W.Frag) (mg : Str → Option Value) (CH : Addr) : Prop where
  cl : Cls K CH
  nscreen : NoAttr K CH "_screen"
  nclients : NoAttr K CH "_clients"
  nhands : NoAttr K CH "_hands"
  mgC : mg "House" = some (.ref CH)
  len : mg "len" = none
  list : mg "list" = none
  most : ∃ t, mg "MOST_CLIENTS" = some (.int 5 t)
section
variable {P : Program} {w : World} {K : PySem.W.Frag} {mg : Str → Option Value} {base : Heap}
theorem scHDInit : FnScope ["self"] ["self"] (defScope sHDInit) := ⟨rfl, rfl, rfl, by decide +kernel, rfl, by decide +kernel, by decide +kernel⟩
def spHDInit (CD : Addr) : Sp := fun vs H Q _ => ∃ (A B : Cells) (p dx : Addr), vs = [.ref p] ∧ Has H (A ++ ((p, .ins CD dx []) :: B)) ∧
  ∀ fa H', Has H' (A ++ ((p, .ins CD dx (handsF fa .non .non)) :: (fa, .dK []) :: B)) → Q .non H'
theorem handsF_init (fa : Addr) : putF "holder" .non (putF "focus" .non (putF "fingers" (.ref fa) [])) = handsF fa .non .non := by kernel_rfl
theorem houseF_init (sc cl ha : Addr) : putF "_hands" (.ref ha) (putF "_clients" (.ref cl) (putF "_screen" (.ref sc) [])) = houseF sc cl ha := by kernel_rfl
theorem ok_hdinit {f CD : Addr} {fd : FuncData} (F : Fun K "__init__" "Hands.__init__" sHDInit f fd) (T : TxtD K mg CD) : FnOk P w K mg base CX0 1 f fd ["self"] (spHDInit CD) := by
  refine F.ok scHDInit (fun vs H Q E h => ?_) (fun cdv A0 outer s0 H vs Q E hr h => ?_)
  · obtain ⟨A, B, p, dx, rfl, _⟩ := h
    rfl
  · obtain ⟨A, B, p, dx, rfl, hh, k⟩ := h
    refine ⟨_, pss_cons (ps_fld (pv 0) pe_dnewK rfl) (pss_cons (ps_fld (pv 0) pe_non rfl) (pss_one (ps_fld (pv 0) pe_non rfl))), ?_⟩
    refine fun fa hfa => ?_
    have h1 := Has.newAt (B := [_]) hh hfa (.dK [])
    refine ⟨_, rfl, p, CD, dx, _, rfl, h1.hd, T.cl, T.nfingers, few few_nil, ?_⟩
    have h2 : Has _ (A ++ ((p, .ins CD dx (putF "fingers" (.ref fa) [])) :: (fa, HO.dK []) :: B)) := Has.put (f := "fingers") (v := .ref fa) h1
    refine ⟨_, rfl, p, CD, dx, _, rfl, h2.hd, T.cl, T.nfocus, few (few_put few_nil), ?_⟩
    refine ⟨_, rfl, p, CD, dx, _, rfl, h2.put.hd, T.cl, T.nholder, few (few_put (few_put few_nil)), ?_⟩
    have h3 := h2.put (f := "focus") (v := .non) |>.put (f := "holder") (v := .non)
    refine k fa _ ?_
    rw [handsF_init] at h3 ⊢
    exact h3
theorem scHInit : FnScope ["self", "wide", "high"] ["self", "wide", "high"] (defScope sHInit) := ⟨rfl, rfl, rfl, by decide +kernel, rfl, by decide +kernel, by decide +kernel⟩
def spHInit (CH CD CN : Addr) : Sp := fun vs H Q _ => ∃ (A B : Cells) (p dx : Addr) (wd hi : Int), vs = [.ref p, .int wd, .int hi] ∧ Has H (A ++ ((p, .ins CH dx []) :: B)) ∧ 1 ≤ wd ∧ wd ≤ 12 ∧ 1 ≤ hi ∧ hi ≤ 8 ∧
  ∀ (h : HouH) (s : ScrH) H', h.a = p → h.sc = s.a → h.ca = [] → s.wide = wd → s.high = hi → NWf s → (∀ r ∈ s.rows, r.2 = List.replicate wd.toNat 0) → Has H' (A ++ (houCells CH CD h ++ (scrCells CN s ++ B))) → Q .non H'
theorem ok_hinit {f CH CD CN fN fD : Addr} {fd fdN fdD : FuncData} (F : Fun K "__init__" "House.__init__" sHInit f fd) (T : TxtH K mg CH) (TD : TxtD K mg CD) (TN : TxtN K mg CN)
    (MN : Mk K CN fN) (GN : FnOk P w K mg base CX0 2 fN fdN ["self", "wide", "high"] (spNInit CN)) (bN : Binds K fdN ["self", "wide", "high"] [])
    (MD : Mk K CD fD) (GD : FnOk P w K mg base CX0 1 fD fdD ["self"] (spHDInit CD)) (bD : Binds K fdD ["self"] []) :
    FnOk P w K mg base CX0 4 f fd ["self", "wide", "high"] (spHInit CH CD CN) := by
  refine F.ok scHInit (fun vs H Q E h => ?_) (fun cdv A0 outer s0 H vs Q E hr h => ?_)
  · obtain ⟨A, B, p, dx, wd, hi, rfl, _⟩ := h
    rfl
  · obtain ⟨A, B, p, dx, wd, hi, rfl, hh, w1, w2, h1, h2, k⟩ := h
    refine ⟨_, pss_cons (ps_fld (pv 0) (pe_make MN GN hr rfl TN.mgC bN .nil pass0 (pa_cons (pv 1) (pa_cons (pv 2) pa_nil))) rfl) (pss_cons (ps_fld (pv 0) (pe_lst pa_nil) rfl) (pss_one (ps_fld (pv 0) (pe_make0 MD GD (hr.mono (by decide)) rfl TD.mgC bD .nil pass0) rfl))), ?_⟩
    refine ⟨_, rfl, _, rfl, fun x dy nx ndx nex => ?_⟩
    have g1 := Has.made (A := A ++ [(p, HO.ins CH dx [])]) (B := B) (by rw [List.append_assoc]; exact hh) nx ndx nex (C := CN)
    refine ⟨_, B, x, dy, wd, hi, rfl, g1, w1, w2, h1, h2, fun s H1 e1 e2 e3 nw rz g2 => ⟨rfl, ?_⟩⟩
    have g2 := g2.assoc
    refine ⟨_, rfl, p, CH, dx, _, rfl, g2.hd, T.cl, T.nscreen, few few_nil, ?_⟩
    have g3 := g2.put (f := "_screen") (v := .ref x)
    refine ⟨small (by show 0 ≤ 1000; decide), fun cl hcl => ?_⟩
    have g4 := (Has.newAt (B := [_]) g3 hcl (.lst []))
    refine ⟨_, rfl, p, CH, dx, _, rfl, g4.hd, T.cl, T.nclients, few (few_put few_nil), ?_⟩
    have g5 : Has _ (A ++ ((p, .ins CH dx (putF "_clients" (.ref cl) (putF "_screen" (.ref x) []))) :: (cl, HO.lst []) :: (scrCells CN s ++ B))) := Has.put (f := "_clients") (v := .ref cl) g4
    refine fun y dz ny ndz nez => ?_
    have g6 := Has.made (A := A ++ [_, _]) (B := scrCells CN s ++ B) (by rw [List.append_assoc]; exact g5) ny ndz nez (C := CD)
    refine ⟨_, _, y, dz, rfl, g6, fun fa H2 g7 => ⟨rfl, ?_⟩⟩
    have g7 := g7.assoc
    refine ⟨_, rfl, p, CH, dx, _, rfl, g7.hd, T.cl, T.nhands, few (few_put (few_put few_nil)), ?_⟩
    have g8 := g7.put (f := "_hands") (v := .ref y)
    rw [houseF_init] at g8 ⊢
    exact k ⟨p, dx, x, cl, [], y, dz, fa⟩ s _ rfl e1.symm rfl e2 e3 nw rz g8
end
end SH
set_option Elab.async false
set_option linter.all false
set_option maxRecDepth 100000
namespace SH
open PySem PySem.Spec PyProof.Rows L2
section
variable {P : Program} {w : World} {K : PySem.W.Frag} {mg : Str → Option Value} {base : Heap}
theorem scHJoin : FnScope ["self", "number"] ["self"] (defScope sHJoin) := ⟨rfl, rfl, rfl, by decide +kernel, rfl, by decide +kernel, by decide +kernel⟩
def spHJoin (CH CD CC : Addr) : Sp := fun vs H Q _ => ∃ (A B : Cells) (h : HouH), vs = [.ref h.a] ∧ Has H (A ++ (houCells CH CD h ++ B)) ∧ h.ca.length < 5 ∧
  ∀ (p dx ra sa na : Addr) H', Has H' (A ++ (houCells CH CD { h with ca := h.ca ++ [p] } ++ (cliCells CC ⟨p, dx, ra, sa, na, (h.ca.length : Nat), false, [], [], []⟩ ++ B))) → Q (.int (h.ca.length : Nat)) H'
theorem ok_hjoin {f CH CD CC fC : Addr} {fd fdC : FuncData} (F : Fun K "join" "House.join" sHJoin f fd) (T : TxtH K mg CH) (TC : TxtC K mg CC)
    (MC : Mk K CC fC) (GC : FnOk P w K mg base CX0 1 fC fdC ["self", "number"] (spCInit CC)) (bC : Binds K fdC ["self", "number"] []) :
    FnOk P w K mg base CX0 3 f fd ["self"] (spHJoin CH CD CC) := by
  obtain ⟨tk, hmost⟩ := T.most
  refine F.ok scHJoin (fun vs H Q E h => ?_) (fun cdv A0 outer s0 H vs Q E hr h => ?_)
  · obtain ⟨A, B, h, rfl, _⟩ := h
    rfl
  · obtain ⟨A, B, h, rfl, hh, hlen, k⟩ := h
    refine ⟨_, pss_cons (ps_set (i := 1) scHJoin.nd rfl (Or.inl rfl) (pe_callB call_len_seq (by rfl) T.len PySem.boot_len (pa_cons (pe_fld (pv 0) rfl) pa_nil)))
      (pss_cons (ps_if (pt_cmpR op_ge (pv 1) (pe_glob rfl hmost (v := .int 5) ⟨tk, rfl⟩) (nomark _)) pss_never pss_nil)
      (pss_cons (ps_expr (pe_bm PySem.F.plainAttrs_list PySem.F.slot_list_append PySem.F.type_list_append mt_append (pe_fld (pv 0) rfl) (pa_cons (pe_make MC GC hr rfl TC.mgC bC .nil pass0 (pa_cons (pv 1) pa_nil)) pa_nil)))
      (pss_one (ps_ret (pv 1))))), ?_⟩
    refine ⟨_, rfl, h.a, CH, _, _, _, rfl, hh.get 0 rfl, T.cl, T.nclients, houseF__clients, _, _, rfl, .inl (SqL.of (hh.get 1 rfl)), ?_⟩
    rw [List.length_map]
    refine ⟨_, rfl, _, _, rfl, rfl, _, rfl, ?_⟩
    rw [decide_eq_false (by omega)]
    refine iteF ?_
    refine ⟨_, rfl, h.a, CH, _, _, _, rfl, hh.get 0 rfl, T.cl, T.nclients, houseF__clients, .inl ⟨rfl, _, SqL.of (hh.get 1 rfl)⟩, _, rfl, fun x dy nx ndx nex => ?_⟩
    have g1 := Has.made (A := A ++ houCells CH CD h) (B := B) (by rw [List.append_assoc]; exact hh) nx ndx nex (C := CC)
    refine ⟨_, B, x, dy, (h.ca.length : Nat), rfl, g1, fun ra sa na H1 g2 => ⟨rfl, ?_⟩⟩
    have g2 := g2.assoc
    refine ⟨h.cl, _, _, rfl, rfl, g2.get 1 rfl, ?_, _, rfl, ?_⟩
    · rw [List.length_map]; exact small1000 (by omega)
    · refine k x dy ra sa na _ ?_
      have g3 := g2.set 1 (o := .lst (h.ca.map V.ref)) rfl (.lst (h.ca.map V.ref ++ [V.ref x]))
      refine g3.re ?_
      show _ = A ++ ([_, (h.cl, HO.lst ((h.ca ++ [x]).map V.ref)), _, _] ++ _)
      rw [List.map_append]; rfl
theorem scHKnown : FnScope ["self", "client"] ["self", "client"] (defScope sHKnown) := ⟨rfl, rfl, rfl, by decide +kernel, rfl, by decide +kernel, by decide +kernel⟩
theorem scHPresent : FnScope ["self", "client", "who"] ["self", "client"] (defScope sHPresent) := ⟨rfl, rfl, rfl, by decide +kernel, rfl, by decide +kernel, by decide +kernel⟩
def spHKnown (CH : Addr) : Sp := fun vs H Q _ => ∃ (h : HouH) (i : Nat) (c : Addr), vs = [.ref h.a, .int (i : Int)] ∧ H h.a = some (.ins CH h.dx (houseF h.sc h.cl h.ha)) ∧ H h.cl = some (.lst (h.ca.map V.ref)) ∧ h.ca[i]? = some c ∧ h.ca.length ≤ 5 ∧ Q (.ref c) H
theorem ok_hknown {f CH fW : Addr} {fd fdW : FuncData} (F : Fun K "_known" "House._known" sHKnown f fd) (T : TxtH K mg CH) (TF : TxtF K w mg)
    (FW : Fun K "is_within" "is_within" sWithin fW fdW) (bW : Binds K fdW ["value", "least", "greatest"] []) (gW : mg "is_within" = some (.ref fW)) :
    FnOk P w K mg base CX0 2 f fd ["self", "client"] (spHKnown CH) := by
  have GW := ok_within (P := P) (base := base) FW TF
  refine F.ok scHKnown (fun vs H Q E h => ?_) (fun cdv A0 outer s0 H vs Q E hr h => ?_)
  · obtain ⟨h, i, c, rfl, _⟩ := h
    rfl
  · obtain ⟨h, i, c, rfl, h1, h2, hc, hl, k⟩ := h
    have hil : i < h.ca.length := (List.getElem?_eq_some_iff.mp hc).1
    refine ⟨_, pss_cons (ps_if (pt_not (pt_val (pe_call GW hr rfl gW FW.kp bW .nil pass0 (pa_cons (pv 1) (pa_cons pe_int (pa_cons (pe_op op_sub (pe_callB call_len_seq (by rfl) T.len PySem.boot_len (pa_cons (pe_fld (pv 0) rfl) pa_nil)) pe_int) pa_nil)))))) pss_never pss_nil)
      (pss_one (ps_ret (pe_ix ix_list (pe_fld (pv 0) rfl) (pv 1) (fun _ _ => rfl)))), ?_⟩
    refine ⟨_, rfl, _, rfl, h.a, CH, _, _, _, rfl, h1, T.cl, T.nclients, houseF__clients, _, _, rfl, .inl (SqL.of h2), _, _, rfl, rfl, (i : Int), 0, _, rfl, _, rfl, ?_⟩
    rw [List.length_map, decide_eq_true (by omega : (0 : Int) ≤ (i : Int)), decide_eq_true (by omega : (i : Int) ≤ ((h.ca.length : Nat) : Int) - 1)]
    refine iteF ?_
    exact ⟨_, rfl, h.a, CH, _, _, _, rfl, h1, T.cl, T.nclients, houseF__clients, _, rfl, _, _, _, V.ref c, rfl, rfl, SqL.of h2, at_of (j := i) rfl (by rw [List.getElem?_map, hc]; rfl), k⟩
def spHPresent (CH CC : Addr) : Sp := fun vs H Q _ => ∃ (h : HouH) (i : Nat) (c : CliH), vs = [.ref h.a, .int (i : Int)] ∧ H h.a = some (.ins CH h.dx (houseF h.sc h.cl h.ha)) ∧ H h.cl = some (.lst (h.ca.map V.ref)) ∧ h.ca[i]? = some c.a ∧ h.ca.length ≤ 5 ∧ H c.a = some (.ins CC c.dx (clientF c.number c.fallen c.ra c.sa c.na)) ∧ c.fallen = false ∧ Q (.ref c.a) H
theorem ok_hpresent {f CH CC fK : Addr} {fd fdK : FuncData} (F : Fun K "_present" "House._present" sHPresent f fd) (T : TxtH K mg CH) (TC : TxtC K mg CC)
    (GK : FnOk P w K mg base CX0 2 fK fdK ["self", "client"] (spHKnown CH)) (bK : Binds K fdK ["self", "client"] []) (mK : Meth K CH "_known" fK) :
    FnOk P w K mg base CX0 3 f fd ["self", "client"] (spHPresent CH CC) := by
  refine F.ok scHPresent (fun vs H Q E h => ?_) (fun cdv A0 outer s0 H vs Q E hr h => ?_)
  · obtain ⟨h, i, c, rfl, _⟩ := h
    rfl
  · obtain ⟨h, i, c, rfl, h1, h2, hc, hl, h3, hf, k⟩ := h
    refine ⟨_, pss_cons (ps_set (i := 2) scHPresent.nd rfl (Or.inl rfl) (pe_meth (pv 0) T.cl mK GK hr bK .nil pass0 (pa_cons (pv 1) pa_nil)))
      (pss_cons (ps_if (pt_val (pe_fld (pv 2) rfl)) pss_never pss_nil) (pss_one (ps_ret (pv 2)))), ?_⟩
    refine ⟨_, rfl, h.a, _, _, rfl, h1, by kernel_rfl, _, rfl, h, i, c.a, rfl, h1, h2, hc, hl, ?_⟩
    refine ⟨_, rfl, c.a, CC, _, _, _, rfl, h3, TC.cl, TC.nfallen, clientF_fallen, _, rfl, ?_⟩
    rw [hf]
    refine iteF ?_
    exact ⟨_, rfl, k⟩
theorem scHTell : FnScope ["self", "client", "letter", "who"] ["self", "client", "letter"] (defScope sHTell) := ⟨rfl, rfl, rfl, by decide +kernel, rfl, by decide +kernel, by decide +kernel⟩
def spHTell (CH CD CC : Addr) : Sp := fun vs H Q _ => ∃ (A B C : Cells) (h : HouH) (i : Nat) (c : CliH) (t : Addr) (z : Lt), vs = [.ref h.a, .int (i : Int), .ref t] ∧ Has H (A ++ (houCells CH CD h ++ (B ++ (cliCells CC c ++ C)))) ∧ h.ca[i]? = some c.a ∧ h.ca.length ≤ 5 ∧ c.fallen = false ∧ c.row.length < 100000 ∧
  H t = some (.tup z.vals) ∧ z.ok ∧ ∀ H', Has H' (A ++ (houCells CH CD h ++ (B ++ (cliCells CC { c with row := c.row ++ [t] } ++ C)))) → Q .non H'
theorem ok_htell {f CH CD CC fP fL : Addr} {fd fdP fdL : FuncData} (F : Fun K "tell" "House.tell" sHTell f fd) (T : TxtH K mg CH) (TC : TxtC K mg CC)
    (GP : FnOk P w K mg base CX0 3 fP fdP ["self", "client"] (spHPresent CH CC)) (bP : Binds K fdP ["self", "client"] []) (mP : Meth K CH "_present" fP)
    (GL : FnOk P w K mg base CX0 3 fL fdL ["letter"] spIsLet) (bL : Binds K fdL ["letter"] []) (gL : mg "is_letter" = some (.ref fL)) (kL : PySem.W.keepIn K (.ref fL) = true) :
    FnOk P w K mg base CX0 4 f fd ["self", "client", "letter"] (spHTell CH CD CC) := by
  refine F.ok scHTell (fun vs H Q E h => ?_) (fun cdv A0 outer s0 H vs Q E hr h => ?_)
  · obtain ⟨A, B, C, h, i, c, t, z, rfl, _⟩ := h
    rfl
  · obtain ⟨A, B, C, h, i, c, t, z, rfl, hh, hc, hl, hf, hrow, ht, hz, k⟩ := h
    refine ⟨_, pss_cons (ps_set (i := 3) scHTell.nd rfl (Or.inl rfl) (pe_meth (pv 0) T.cl mP GP hr bP .nil pass0 (pa_cons (pv 1) pa_nil)))
      (pss_cons (ps_if (pt_not (pt_val (pe_call GL hr rfl gL kL bL .nil pass0 (pa_cons (pv 2) pa_nil)))) pss_never pss_nil)
      (pss_one (ps_expr (pe_bm PySem.F.plainAttrs_list PySem.F.slot_list_append PySem.F.type_list_append mt_append (pe_fld (pv 3) rfl) (pa_cons (pv 2) pa_nil))))), ?_⟩
    have h1 : H h.a = some (.ins CH h.dx (houseF h.sc h.cl h.ha)) := hh.get 0 rfl
    have h2 : H h.cl = some (.lst (h.ca.map V.ref)) := hh.get 1 rfl
    have e0 : A ++ (houCells CH CD h ++ (B ++ (cliCells CC c ++ C))) = (A ++ houCells CH CD h ++ B) ++ (cliCells CC c ++ C) := by simp [List.append_assoc]
    have hh' := hh
    rw [e0] at hh'
    refine ⟨_, rfl, h.a, _, _, rfl, h1, by kernel_rfl, _, rfl, h, i, c, rfl, h1, h2, hc, hl, hh'.get 0 rfl, hf, ?_⟩
    refine ⟨_, rfl, t, z, rfl, ht, hz, fun H1 s1 => ?_⟩
    refine ⟨_, rfl, iteF ?_⟩
    have g1 := hh'.same s1
    refine ⟨_, rfl, c.a, CC, _, _, _, rfl, g1.get 0 rfl, TC.cl, TC.nrow, clientF_row, .inl ⟨rfl, _, SqL.of (g1.get 1 rfl)⟩, _, rfl, ?_⟩
    refine ⟨c.ra, _, _, rfl, rfl, g1.get 1 rfl, ?_, ?_⟩
    · rw [List.length_map]; exact Nat.lt_of_lt_of_le hrow (by decide)
    · refine k _ ?_
      have g2 := g1.set 1 (o := .lst (c.row.map V.ref)) rfl (.lst (c.row.map V.ref ++ [V.ref t]))
      refine g2.re ?_
      show _ = A ++ (houCells CH CD h ++ (B ++ ([_, (c.ra, HO.lst ((c.row ++ [t]).map V.ref)), _, _] ++ C)))
      rw [List.map_append]
      simp [List.append_assoc]
      rfl
end
end SH
set_option Elab.async false
set_option linter.all false
set_option maxRecDepth 100000
namespace SH
open PySem PySem.Spec PyProof.Rows L2
def RunOk : List SurfV → List Lt → Prop
  | _, [] => True
  | vs, z :: zs => z.ok ∧ z.soft ∧ canBeV vs z = true ∧ RunOk (stepV vs z) zs
def runV (vs : List SurfV) (zs : List Lt) : List SurfV := zs.foldl stepV vs
def RowAt (H : Hp) (row : List Addr) (zs : List Lt) : Prop := Paired (fun (t : Addr) (z : Lt) => H t = some (.tup z.vals)) row zs
theorem RowAt.keep {H H' : Hp} {row : List Addr} {zs : List Lt} (h : RowAt H row zs) (k : KeepT H H') : RowAt H' row zs := Paired.mapP h fun _ _ e => k _ _ e
section
variable {P : Program} {w : World} {K : PySem.W.Frag} {mg : Str → Option Value} {base : Heap}
theorem scHRest : FnScope ["self", "each"] ["self"] (defScope sHRest) := ⟨rfl, rfl, rfl, by decide +kernel, rfl, by decide +kernel, by decide +kernel⟩
abbrev HHas (CH CD CC CS CL : Addr) (H : Hp) (A B C : Cells) (h : HouH) (c : CliH) (ss : List SurfR) : Prop := Has H (A ++ (houCells CH CD h ++ (B ++ (cliCells CC c ++ (allCells CS CL ss ++ C)))))
theorem hhas_c {CH CD CC CS CL : Addr} {H : Hp} {A B C : Cells} {h : HouH} {c : CliH} {ss : List SurfR} : HHas CH CD CC CS CL H A B C h c ss ↔ CHas CC CS CL H (A ++ houCells CH CD h ++ B) C c ss := by
  unfold HHas CHas
  simp [List.append_assoc]
def spHRest (CH CD CC CS CL : Addr) : Sp := fun vs H Q _ => ∃ (A B C : Cells) (h : HouH) (c : CliH) (ss : List SurfR) (zs : List Lt), vs = [.ref h.a] ∧ HHas CH CD CC CS CL H A B C h c ss ∧ h.ca = [c.a] ∧ SWf c.a ss ∧ c.sd = sdOf ss ∧ RowAt H c.row zs ∧ RunOk (view ss) zs ∧
  ∀ ss' H', SWf c.a ss' → view ss' = runV (view ss) zs → HHas CH CD CC CS CL H' A B C h { c with row := [], sd := sdOf ss' } ss' → Q .non H'
def lenAt (H : Hp) (a : Addr) : Nat := match H a with
  | some (.lst xs) => xs.length
  | _ => 0
theorem lenAt_of {H : Hp} {a : Addr} {xs : List V} (h : H a = some (.lst xs)) : lenAt H a = xs.length := by unfold lenAt; rw [h]
theorem ok_hrest {f CH CD CC CS CL fF : Addr} {fd fdF : FuncData} (F : Fun K "rest" "House.rest" sHRest f fd) (T : TxtH K mg CH) (TC : TxtC K mg CC)
    (GF : FnOk P w K mg base CX0 6 fF fdF ["client", "hands"] (spFirst CC CS CL)) (bF : Binds K fdF ["client", "hands"] []) (gF : mg "do_first" = some (.ref fF)) (kF : PySem.W.keepIn K (.ref fF) = true) :
    FnOk P w K mg base CX0 7 f fd ["self"] (spHRest CH CD CC CS CL) := by
  have GF := keep_t GF
  refine F.ok scHRest (fun vs H Q E h => ?_) (fun cdv A0 outer s0 H vs Q E hr h => ?_)
  · obtain ⟨A, B, C, h, c, ss, zs, rfl, _⟩ := h
    rfl
  · obtain ⟨A, B, C, h, c, ss, zs, rfl, hh, hca, wf, hsd, hrow, hrun, k⟩ := h
    refine ⟨_, pss_one (ps_for PassesOwn.never rfl (pi_list (pe_fld (pv 0) rfl)) (pg_name (i := 1) scHRest.nd rfl (Or.inl rfl))
      (pss_one (ps_while PassesOwn.never (pt_cmpR op_gt (pe_callB call_len_seq (by rfl) T.len PySem.boot_len (pa_cons (pe_fld (pv 1) rfl) pa_nil)) pe_int (nomark _))
        (pss_one (ps_expr (pe_call GF hr rfl gF kF bF .nil pass0 (pa_cons (pv 1) (pa_cons (pe_fld (pv 0) rfl) pa_nil)))))))), ?_⟩
    have hc1 : H h.cl = some (.lst [V.ref c.a]) := by have := hh.get 1 rfl; rw [hca] at this; exact this
    refine ⟨_, rfl, h.a, CH, _, _, _, rfl, hh.get 0 rfl, T.cl, T.nclients, houseF__clients, _, rfl, ⟨_, SqL.of hc1⟩, ?_⟩
    refine for_list (K := K) (a := h.cl) (xs := [V.ref c.a]) (fun i σ H1 => H1 h.cl = some (.lst [V.ref c.a]) ∧ ((i = 0 ∧ σ = [some (.ref h.a), none] ∧ H1 = H) ∨ (1 ≤ i ∧ Q .non H1))) ⟨hc1, .inl ⟨rfl, rfl, rfl⟩⟩ (fun i σ H1 _ p => SqL.of p.1) ?_ ?_
    · rintro i x σ H1 hx ⟨hc2, ⟨rfl, rfl, rfl⟩ | ⟨hi, _⟩⟩
      · obtain rfl : V.ref c.a = x := by simpa using hx
        refine while_by (fun σ H2 => σ = [some (.ref h.a), some (.ref c.a)] ∧ ∃ ss1 row1 zs1, SWf c.a ss1 ∧ RowAt H2 row1 zs1 ∧ RunOk (view ss1) zs1 ∧ runV (view ss1) zs1 = runV (view ss) zs ∧ HHas CH CD CC CS CL H2 A B C h { c with row := row1, sd := sdOf ss1 } ss1)
          (fun _ H2 => lenAt H2 c.ra) ⟨rfl, ss, c.row, zs, wf, hrow, hrun, rfl, by rw [← hsd]; exact hh⟩ ?_ ?_
        · rintro σ H2 ⟨rfl, ss1, row1, zs1, wf1, hr1, ru1, ev, g⟩
          have g' := hhas_c.mp g
          have hra : H2 c.ra = some (.lst (row1.map V.ref)) := g'.get 1 rfl
          refine ⟨_, rfl, c.a, CC, _, _, _, rfl, g'.get 0 rfl, TC.cl, TC.nrow, clientF_row, _, _, rfl, .inl (SqL.of hra), _, _, rfl, rfl, _, rfl, ?_⟩
          rw [List.length_map]
          cases row1 with
          | nil =>
            cases hr1
            refine iteF ?_
            refine ⟨?_, .inr ⟨by omega, k ss1 H2 wf1 ev g⟩⟩
            have := g.get 1 rfl
            rw [hca] at this; exact this
          | cons t r =>
            cases hr1 with
            | @cons _ z _ zr ht htl =>
            obtain ⟨zok, zsoft, zcan, zrun⟩ := ru1
            rw [decide_eq_true (by simp only [List.length_cons]; omega)]
            refine iteT ?_
            refine ⟨_, rfl, _, rfl, h.a, CH, _, _, _, rfl, g.get 0 rfl, T.cl, T.nhands, houseF__hands, A ++ houCells CH CD h ++ B, C, { c with row := t :: r, sd := sdOf ss1 }, ss1, .ref h.ha, t, r, z, rfl, g', wf1, rfl, rfl, ht, zok, zsoft, by rw [← canBe_view wf1]; exact zcan, fun ss' H3 st g3 k3 => ?_⟩
            have nd := has_nd (CS := CS) (CL := CL) (A := (A ++ houCells CH CD h ++ B) ++ cliCells CC _) (B := C) g3.unassoc
            have hcb : canBeB ss1 z = true := by rw [← canBe_view wf1]; exact zcan
            have ev2 := StepR.view wf1 hcb st zsoft nd
            refine ⟨⟨rfl, ss', r, zr, wf1.step zok hcb st nd, RowAt.keep htl k3, by rw [ev2]; exact zrun, by rw [ev2]; exact ev, hhas_c.mpr g3⟩, ?_⟩
            have hra3 : H3 c.ra = some (.lst (r.map V.ref)) := g3.get 1 rfl
            show lenAt H3 c.ra < lenAt H2 c.ra
            rw [lenAt_of hra3, lenAt_of hra]
            simp
        · intro σ H2 Q1 Q2 imp hq
          obtain ⟨v, e1, a, C1, dx, fs, v2, e2, e3, e4, e5, e6, l, xs, e7, e8, i, j, e9, e10, b, e11, q⟩ := hq
          exact ⟨v, e1, a, C1, dx, fs, v2, e2, e3, e4, e5, e6, l, xs, e7, e8, i, j, e9, e10, b, e11, imp _ _ q⟩
      · have := (List.getElem?_eq_some_iff.mp hx).1
        simp at this; omega
    · rintro σ H1 ⟨_, ⟨h0, _⟩ | ⟨_, q⟩⟩
      · simp at h0
      · exact q
end
end SH
set_option Elab.async false
set_option linter.all false
set_option maxRecDepth 100000
namespace SH
open PySem PySem.Spec PyProof.Rows L2
def core (s : SurfR) : SurfR := { s with newly := false, lx := 0, ly := 0 }
def CoreEq (ss ss1 : List SurfR) : Prop := ss1.map core = ss.map core
theorem CoreEq.trans {a b c : List SurfR} (h : CoreEq a b) (k : CoreEq b c) : CoreEq a c := Eq.trans k h
theorem CoreEq.set {ss ss1 : List SurfR} (h : CoreEq ss ss1) {j : Nat} {u v : SurfR} (e : ss1[j]? = some u) (hc : core v = core u) : CoreEq ss (ss1.set j v) := by
  refine Eq.trans ?_ h
  apply List.ext_getElem?
  intro n
  rw [List.getElem?_map, List.getElem?_map, List.getElem?_set]
  by_cases hn : j = n
  · subst hn
    rw [if_pos rfl, if_pos (List.getElem?_eq_some_iff.mp e).1, e]
    simp [hc]
  · rw [if_neg hn]
theorem core_swf {ow : Addr} {ss ss1 : List SurfR} (w : SWf ow ss) (e : CoreEq ss ss1) : SWf ow ss1 := by
  have w1 : SWf ow (ss.map core) := w.mapped (f := core) (fun _ _ => rfl) (fun _ _ => rfl) (fun _ _ => rfl) (fun _ _ => rfl) (fun _ _ => rfl) w.pend w.ready w.shown
  rw [← e] at w1
  have m : ∀ {s}, s ∈ ss1 → core s ∈ ss1.map core := fun hs => List.mem_map_of_mem hs
  refine ⟨fun s hs => w1.ow (core s) (m hs), fun s hs => w1.pend (core s) (m hs), fun s hs => w1.ready (core s) (m hs), fun s hs => w1.shown (core s) (m hs), ?_, ?_, fun s hs => w1.rng (core s) (m hs), fun t ht p => ?_, fun t ht => w1.pn (core t) (m ht), fun s hs b hb => ?_, fun s hs t ht u hu a b => w1.deep (core s) (m hs) (core t) (m ht) (core u) (m hu) a b⟩
  · have := w1.na; rw [List.map_map] at this; exact this
  · have := w1.nn; rw [List.map_map] at this; exact this
  · refine (w1.parts (core t) (m ht) p).trans ⟨?_, ?_⟩
    · rintro ⟨s, hs, a, b, c⟩
      obtain ⟨x, hx, rfl⟩ := List.mem_map.mp hs
      exact ⟨x, hx, a, b, c⟩
    · rintro ⟨s, hs, a, b, c⟩
      exact ⟨_, m hs, a, b, c⟩
  · obtain ⟨t, ht, e⟩ := w1.tops (core s) (m hs) b hb
    obtain ⟨x, hx, rfl⟩ := List.mem_map.mp ht
    exact ⟨x, hx, e⟩
theorem stOf_core (ss : List SurfR) (a : Addr) : stOf (ss.map core) a = (stOf ss a).map core := by
  unfold stOf
  rw [List.find?_map]; rfl
theorem core_st {ss ss1 : List SurfR} (e : CoreEq ss ss1) (a : Addr) : (stOf ss1 a).map core = (stOf ss a).map core := by rw [← stOf_core, ← stOf_core, e]
theorem core_sd {ss ss1 : List SurfR} (e : CoreEq ss ss1) : sdOf ss1 = sdOf ss := by
  have h : ∀ ss : List SurfR, sdOf (ss.map core) = sdOf ss := fun ss => by unfold sdOf; rw [List.map_map]; rfl
  rw [← h ss1, e, h]
theorem core_view {ss ss1 : List SurfR} (e : CoreEq ss ss1) : ∀ v1 ∈ view ss1, ∃ v ∈ view ss, v1.name = v.name ∧ v1.top = v.top ∧ v1.pend = v.pend ∧ v1.ready = v.ready ∧ v1.shown = v.shown := by
  intro v1 hv
  obtain ⟨s1, hs1, rfl⟩ := List.mem_map.mp hv
  have : core s1 ∈ ss.map core := e ▸ List.mem_map_of_mem hs1
  obtain ⟨s, hs, ec⟩ := List.mem_map.mp this
  refine ⟨_, List.mem_map_of_mem hs, ?_⟩
  have f : ∀ {β : Type} (g : SurfR → β), g (core s) = g (core s1) := fun g => by rw [ec]
  refine ⟨(f (·.name)).symm, ?_, (f (fun s => s.pend.v)).symm, (f (fun s => s.ready.map fun (l : LookM) => l.v)).symm, (f (fun s => s.shown.map fun (l : LookM) => l.v)).symm⟩
  show (s1.top.bind fun b => (stOf ss1 b).map (·.name)) = (s.top.bind fun b => (stOf ss b).map (·.name))
  have ht : s.top = s1.top := f (·.top)
  rw [ht]
  cases s1.top with
  | none => rfl
  | some b =>
    show (stOf ss1 b).map (·.name) = (stOf ss b).map (·.name)
    have := congrArg (Option.map (·.name)) (core_st e b)
    rw [Option.map_map, Option.map_map] at this
    exact this
/-- laying reads no more than that -/
theorem layT_core {num : Addr → Int} {st st1 : Addr → Option SurfR} (h : ∀ a, (st1 a).map core = (st a).map core) : ∀ (d : Nat) (as : List Addr) (x y : Int), layT num st1 d as x y = layT num st d as x y := by
  have hu : ∀ a, unvT st1 a = unvT st a := fun a => by
    have := h a
    unfold unvT
    cases e1 : st1 a <;> cases e : st a <;> rw [e1, e] at this <;> simp only [Option.map_some, Option.map_none, Option.some.injEq, reduceCtorEq] at this
    · rename_i s1 s
      show s1.unveiled = s.unveiled
      have : (core s1).unveiled = (core s).unveiled := by rw [this]
      exact this
  have hk : ∀ a, keyA num st1 a = keyA num st a := fun a => by
    have := h a
    unfold keyA
    cases e1 : st1 a <;> cases e : st a <;> rw [e1, e] at this <;> simp only [Option.map_some, Option.map_none, Option.some.injEq, reduceCtorEq] at this
    · rename_i s1 s
      show keyT num s1 = keyT num s
      have : keyT num (core s1) = keyT num (core s) := by rw [this]
      exact this
  have ho : ∀ as, ordT num st1 as = ordT num st as := fun as => by
    unfold ordT
    rw [show unvT st1 = unvT st from funext hu, show keyA num st1 = keyA num st from funext hk]
  intro d
  induction d with
  | zero => intro as x y; rfl
  | succ d ih =>
    intro as x y
    rw [layT_succ, layT_succ, ho]
    refine flatMap_congr' fun a _ => ?_
    unfold layStep
    have := h a
    cases e1 : st1 a <;> cases e : st a <;> rw [e1, e] at this <;> simp only [Option.map_some, Option.map_none, Option.some.injEq, reduceCtorEq] at this
    · rename_i s1 s
      have f : ∀ {β : Type} (g : SurfR → β), g (core s1) = g (core s) := fun g => by rw [this]
      have h1 : s1.shown = s.shown := f (·.shown)
      have h2 : s1.parts = s.parts := f (·.parts)
      simp only [h1, h2]
      cases s.shown with
      | none => rfl
      | some l => simp only [ih]
theorem dep_of_fam {st : Addr → Option SurfR} : ∀ (d : Nat) {as : List Addr}, (∀ a ∈ as, FamOk st d a) → DepOk st (d + 1) as
  | 0, as, h => fun a ha => by
    obtain ⟨s, e, hp⟩ := h a ha
    exact ⟨s, e, by rw [hp]; exact Nat.zero_le _, by show s.parts.map (·.2) = []; rw [hp]; rfl⟩
  | d + 1, as, h => fun a ha => by
    obtain ⟨s, e, hl, hp⟩ := h a ha
    refine ⟨s, e, hl, dep_of_fam d fun b hb => ?_⟩
    obtain ⟨p, hp', rfl⟩ := List.mem_map.mp hb
    exact hp p hp'
section
variable {CH CD CC CS CL : Addr} {H : Hp} {A B C : Cells} {h : HouH} {c : CliH} {ss : List SurfR}
theorem hhas_s (g : HHas CH CD CC CS CL H A B C h c ss) {s : SurfR} (hs : s ∈ ss) : ∀ p ∈ surfCells CS CL s, H p.1 = some p.2 := fun p hp => g.ok p (by
  simp only [List.mem_append]
  exact .inr (.inr (.inr (.inr (.inl (List.mem_flatMap.mpr ⟨s, hs, hp⟩))))))
theorem hhas_rl (g : HHas CH CD CC CS CL H A B C h c ss) (w : SWf c.a ss) : RL CC CS CL (fun _ => c.number) (stOf ss) H := fun a s e => by
  obtain ⟨ea, j, ej⟩ := stOf_ix e
  have hs := List.mem_of_getElem? ej
  have m := hhas_s g hs
  refine ⟨ea, ea ▸ m (s.a, s.obj CS) (by simp [surfCells]), m (s.pa, _) (by simp [surfCells]), fun l hl => m (l.a, lookObj CL l) ?_, c.dx, _, by rw [w.ow s hs]; exact (hhas_c.mp g).get 0 rfl, clientF_number⟩
  unfold surfCells
  rw [hl]
  simp [olook, lookCells, lookObj]
theorem hhas_dep (w : SWf c.a ss) (hsd : c.sd = sdOf ss) : DepOk (stOf ss) 3 (rootsOf (stOf ss) (c.a, c.sa, c.sd)) := by
  refine dep_of_fam 2 fun a ha => ?_
  unfold rootsOf at ha
  have ha := (List.mem_filter.mp ha).1
  obtain ⟨p, hp, rfl⟩ := List.mem_map.mp ha
  rw [hsd] at hp
  obtain ⟨s, hs, rfl⟩ := List.mem_map.mp hp
  exact w.fam s hs
theorem hhas_cl (g : HHas CH CD CC CS CL H A B C h c ss) (w : SWf c.a ss) (hsd : c.sd = sdOf ss) : ClAt CC H (stOf ss) (c.a, c.sa, c.sd) := by
  have g' := hhas_c.mp g
  refine ⟨⟨c.dx, _, g'.get 0 rfl, clientF_surfaces⟩, g'.get 2 rfl, ?_, fun p hp => ?_⟩
  · show c.sd.length ≤ 10
    rw [hsd]; unfold sdOf; rw [List.length_map]; exact w.slen
  · have hp : p ∈ c.sd := hp
    rw [hsd] at hp
    obtain ⟨s, hs, rfl⟩ := List.mem_map.mp hp
    exact ⟨s, stOf_mem w.na hs⟩
end
end SH
set_option Elab.async false
set_option linter.all false
set_option maxRecDepth 100000
namespace SH
open PySem PySem.Spec PyProof.Rows L2
theorem core_names {ss ss1 : List SurfR} (e : CoreEq ss ss1) : ss1.map (·.name) = ss.map (·.name) := by
  have h : ∀ ss : List SurfR, (ss.map core).map (·.name) = ss.map (·.name) := fun ss => by rw [List.map_map]; rfl
  rw [← h ss1, e, h]
section
variable {P : Program} {w : World} {K : PySem.W.Frag} {mg : Str → Option Value} {base : Heap}
abbrev nShown : List Str := ["self", "client", "name", "surface"]
theorem scHShown : FnScope nShown ["self", "client"] (defScope sHShown) := ⟨rfl, rfl, rfl, by decide +kernel, rfl, by decide +kernel, by decide +kernel⟩
def spHShown (CC CS CL : Addr) : Sp := fun vs H Q _ => ∃ (A B : Cells) (c : CliH) (ss : List SurfR) (hv : V), vs = [hv, .ref c.a] ∧ CHas CC CS CL H A B c ss ∧ c.sd = sdOf ss ∧ (∀ s ∈ ss, s.owner = c.a) ∧ (ss.map (·.name)).Nodup ∧ ss.length ≤ 10 ∧ c.fallen = false ∧ c.notes.length ≤ 90000 ∧
  ∀ ss' ns H', CoreEq ss ss' → ns.length ≤ c.notes.length + 10 → CHas CC CS CL H' A B { c with notes := ns } ss' → Q .non H'
theorem core_own {ss ss1 : List SurfR} (e : CoreEq ss ss1) {o : Addr} (h : ∀ s ∈ ss, s.owner = o) : ∀ s ∈ ss1, s.owner = o := fun s hs => by
  have : core s ∈ ss.map core := e ▸ List.mem_map_of_mem hs
  obtain ⟨u, hu, eu⟩ := List.mem_map.mp this
  have h3 : (core u).owner = (core s).owner := by rw [eu]
  have h2 : u.owner = s.owner := h3
  rw [← h2]; exact h u hu
theorem ok_hshown {f CC CS CL fH : Addr} {fd : FuncData} (F : Fun K "_tell_shown" "House._tell_shown" sHShown f fd) (T : TxtS K mg CS) (TC : TxtC K mg CC)
    (GL : FnR P w K mg base CX0 2 fH (spSLet CC CS CL)) (mL : Meth K CS "let_hear" fH) :
    FnOk P w K mg base CX0 3 f fd ["self", "client"] (spHShown CC CS CL) := by
  refine F.ok scHShown (fun vs H Q E h => ?_) (fun cdv A0 outer s0 H vs Q E hr h => ?_)
  · obtain ⟨A, B, c, ss, hv, rfl, _⟩ := h
    rfl
  · obtain ⟨A, B, c, ss, hv, rfl, hh, hsd, how, hnn, hsl, hfal, hnl, k⟩ := h
    have hu := hu_of hr
    refine ⟨_, pss_one (ps_for PassesOwn.never rfl (pi_list (pe_callB (call_sortedDI rfl) (by rfl) T.sorted (by decide +kernel) (pa_cons (pe_fld (pv 1) rfl) pa_nil))) (pg_name (i := 2) scHShown.nd rfl (Or.inl rfl))
      (pss_cons (ps_set (i := 3) scHShown.nd rfl (Or.inl rfl) (pe_dget hu (pe_fld (pv 1) rfl) (pv 2) (fun _ _ => rfl)))
      (pss_one (ps_if (pt_val (pe_fld (pv 3) rfl)) (pss_cons (ps_fld (pv 3) pe_bl rfl) (pss_one (ps_expr (pe_methR (pv 3) T.cl mL GL hr pass0 (pa_cons pe_str pa_nil))))) pss_nil)))), ?_⟩
    have hsa : H c.sa = some (.dK (kvI c.sd)) := hh.get 2 rfl
    refine ⟨_, rfl, c.a, CC, _, _, _, rfl, hh.get 0 rfl, TC.cl, TC.nsurfaces, clientF_surfaces, c.sa, _, ss.map (·.name), rfl, .inl hsa, by rw [hsd]; unfold kvI sdOf; simp, by rw [List.length_map]; omega, fun ys q hperm hord hq => ?_⟩
    have hyl : ys.length ≤ 10 := by rw [hperm.length_eq, List.length_map]; exact hsl
    have h1 : CHas CC CS CL (upd H q (.lst (ys.map V.int))) A ((q, .lst (ys.map V.int)) :: B) c ss := ((hh.unassoc.unassoc.new hq _).assoc).assoc
    refine ⟨q, rfl, ⟨_, SqL.of upd_same⟩, for_list (K := K) (a := q) (xs := ys.map V.int) (fun i σ H1 => ∃ v2 v3 ss1 ns, σ = [some hv, some (.ref c.a), v2, v3] ∧ CoreEq ss ss1 ∧ ns.length ≤ c.notes.length + i ∧ CHas CC CS CL H1 A ((q, .lst (ys.map V.int)) :: B) { c with notes := ns } ss1)
      ⟨_, _, ss, c.notes, rfl, rfl, by omega, h1⟩ ?_ ?_ ?_⟩
    · rintro i σ H1 _ ⟨_, _, ss1, ns, _, _, _, g⟩
      exact SqL.of (g.mem (by simp))
    · rintro i x σ H1 hx ⟨v2, v3, ss1, ns, rfl, ce, hns, g⟩
      rw [List.getElem?_map] at hx
      cases en : ys[i]? with
      | none => rw [en] at hx; cases hx
      | some n =>
        rw [en] at hx
        obtain rfl : V.int n = x := Option.some.inj hx
        have hil : i < ys.length := (List.getElem?_eq_some_iff.mp en).1
        have hn : n ∈ ss1.map (·.name) := by rw [core_names ce]; exact hperm.mem_iff.mp (List.mem_of_getElem? en)
        obtain ⟨s, hs, rfl⟩ := List.mem_map.mp hn
        have nn1 : (ss1.map (·.name)).Nodup := by rw [core_names ce]; exact hnn
        have es := findN_mem nn1 hs
        obtain ⟨j, hj, ej'⟩ := List.getElem_of_mem hs
        have ej : ss1[j]? = some s := by rw [List.getElem?_eq_getElem hj, ej']
        have hd : H1 c.sa = some (.dK (kvI (sdOf ss1))) := by rw [core_sd ce, ← hsd]; exact g.get 2 rfl
        have hso := (chas_at g ej).1
        refine ⟨_, rfl, c.a, CC, _, _, _, rfl, g.get 0 rfl, TC.cl, TC.nsurfaces, clientF_surfaces, _, rfl, c.sa, V.ref s.a, rfl, dget_sd hd es, ?_⟩
        refine ⟨_, rfl, s.a, CS, _, _, _, rfl, hso, T.cl, T.nnewly, surfF_newly_shown, _, rfl, ?_⟩
        cases hnw : s.newly with
        | false =>
          refine iteF ?_
          exact ⟨_, _, ss1, ns, rfl, ce, by omega, g⟩
        | true =>
          refine iteT ?_
          refine ⟨_, rfl, s.a, CS, _, _, rfl, hso, T.cl, T.nnewly, surfF_few, ?_⟩
          have g1 := (g.unassoc.out ej).set 0 rfl (.ins CS s.dx (putF "newly_shown" (.bl false) (surfF s.owner s.name s.there (oref s.top) s.pa s.pend.a (oref (s.ready.map (·.a))) (oref (s.shown.map (·.a))) s.newly s.lx s.ly)))
          rw [surfF_pnewly_shown] at g1 ⊢
          have g2 : Has _ (((A ++ cliCells CC { c with notes := ns }) ++ (ss1.take j).flatMap (surfCells CS CL)) ++ (surfCells CS CL { s with newly := false } ++ ((ss1.drop (j + 1)).flatMap (surfCells CS CL) ++ ((q, .lst (ys.map V.int)) :: B)))) := g1
          have g3 := g2.assoc.assoc
          refine ⟨_, rfl, s.a, s.dx, _, rfl, g2.hd, by kernel_rfl, A, _, _, { c with notes := ns }, { s with newly := false }, _, [], rfl, g3, core_own ce how s hs, by simp, by show ns.length < 100000; omega, fun t H2 ht g4 => ?_⟩
          have e1 : CliH.heard { c with notes := ns } t = { c with notes := ns ++ [t] } := by unfold CliH.heard; rw [if_neg (by rw [hfal]; simp)]
          rw [e1] at g4
          have g5 := (Has.back ej (g4.unassoc.unassoc)).assoc
          exact ⟨_, _, ss1.set j { s with newly := false }, ns ++ [t], rfl, ce.set ej rfl, by rw [List.length_append]; simp; omega, g5⟩
    · rintro σ H1 ⟨_, _, ss1, ns, rfl, ce, hns, g⟩
      rw [List.length_map] at hns
      exact k ss1 ns H1 ce (by omega) (g.sub (List.Sublist.append_left (List.Sublist.append_left (List.Sublist.append_left (List.sublist_cons_self _ _) _) _) _))
end
end SH
set_option Elab.async false
set_option linter.all false
set_option maxRecDepth 100000
namespace SH
open PySem PySem.Spec PyProof.Rows L2
theorem layT_mem {num : Addr → Int} {st : Addr → Option SurfR} : ∀ (d : Nat) {as : List Addr} {x y : Int}, DepOk st d as → ∀ q ∈ layT num st d as x y, ∃ s l, st q.1 = some s ∧ s.shown = some l
  | 0, _, _, _, _, q, h => by cases h
  | d + 1, as, x, y, dp, q, h => by
    rw [layT_succ] at h
    obtain ⟨a, ha, hq⟩ := List.mem_flatMap.mp h
    obtain ⟨s, es, _, hd⟩ := dp a (ordT_mem ha).1
    unfold layStep at hq
    simp only [es] at hq
    cases el : s.shown with
    | none => rw [el] at hq; cases hq
    | some l =>
      rw [el] at hq
      rcases List.mem_cons.mp hq with e | e
      · subst e; exact ⟨s, l, es, el⟩
      · exact layT_mem d hd q e
theorem core_get {ss ss1 : List SurfR} (e : CoreEq ss ss1) {a : Addr} {s : SurfR} (h : stOf ss a = some s) : ∃ s1, stOf ss1 a = some s1 ∧ core s1 = core s := by
  have := core_st e a
  rw [h] at this
  cases e1 : stOf ss1 a with
  | none => rw [e1] at this; cases this
  | some s1 => rw [e1] at this; exact ⟨s1, rfl, Option.some.inj this⟩
section
variable {P : Program} {w : World} {K : PySem.W.Frag} {mg : Str → Option Value} {base : Heap}
abbrev nBeat : List Str := ["self", "laid", "surface", "x", "y", "each"]
theorem scHBeat : FnScope nBeat ["self"] (defScope sHBeat) := ⟨rfl, rfl, rfl, by decide +kernel, rfl, by decide +kernel, by decide +kernel⟩
def laidOf (c : CliH) (ss : List SurfR) : List (Addr × Int × Int) := layT (fun _ => c.number) (stOf ss) 3 (rootsOf (stOf ss) (c.a, c.sa, c.sd)) 0 0
def lkOf (ss : List SurfR) (a : Addr) : Option LookM := (stOf ss a).bind (·.shown)
def spHBeat (CH CD CN CC CS CL : Addr) : Sp := fun vs H Q _ => ∃ (A B C : Cells) (h : HouH) (s : ScrH) (c : CliH) (ss : List SurfR), vs = [.ref h.a] ∧ HHas CH CD CC CS CL H A (scrCells CN s ++ B) C h c ss ∧ h.ca = [c.a] ∧ h.sc = s.a ∧ SWf c.a ss ∧ c.sd = sdOf ss ∧ NWf s ∧ c.fallen = false ∧ c.notes.length ≤ 90000 ∧
  (∀ q ∈ laidOf c ss, -1000 ≤ q.2.1 ∧ q.2.1 ≤ 1000 ∧ -1000 ≤ q.2.2 ∧ q.2.2 ≤ 1000) ∧
  ∀ ss' ns (s0 : ScrH) H' l, CoreEq ss ss' → ns.length ≤ c.notes.length + 10 → SameScr s s0 → NWf s0 → (∀ r ∈ s0.rows, r.2 = List.replicate s.wide.toNat 0) → HHas CH CD CC CS CL H' A (scrCells CN (paintAll (lkOf ss) s0 (laidOf c ss)) ++ B) C h { c with notes := ns } ss' → Q (.ref l) H'
theorem ok_hbeat {f CH CD CN CC CS CL fY fT fR : Addr} {fd fdY fdT fdR : FuncData} (F : Fun K "beat" "House.beat" sHBeat f fd) (T : TxtH K mg CH) (TN : TxtN K mg CN) (TC : TxtC K mg CC) (TS : TxtS K mg CS)
    (GY : FnOk P w K mg base CX0 9 fY fdY ["clients"] (spLayers CC CS CL 3)) (bY : Binds K fdY ["clients"] []) (gY : mg "layers" = some (.ref fY)) (kY : PySem.W.keepIn K (.ref fY) = true)
    (GT : FnOk P w K mg base CX0 3 fT fdT ["self", "client"] (spHShown CC CS CL)) (bT : Binds K fdT ["self", "client"] []) (mT : Meth K CH "_tell_shown" fT)
    (GR : FnOk P w K mg base CX0 3 fR fdR ["self", "laid"] (spRep CN CS CL)) (bR : Binds K fdR ["self", "laid"] []) (mR : Meth K CN "repaint" fR) :
    FnOk P w K mg base CX0 10 f fd ["self"] (spHBeat CH CD CN CC CS CL) := by
  have GT := keep_t GT
  refine F.ok scHBeat (fun vs H Q E h => ?_) (fun cdv A0 outer s0 H vs Q E hr h => ?_)
  · obtain ⟨A, B, C, h, s, c, ss, rfl, _⟩ := h
    rfl
  · obtain ⟨A, B, C, h, s, c, ss, rfl, hh, hca, hsc, wf, hsd, nw, hfal, hnl, hbnd, k⟩ := h
    refine ⟨_, pss_cons (ps_set (i := 1) scHBeat.nd rfl (Or.inl rfl) (pe_call GY hr rfl gY kY bY .nil pass0 (pa_cons (pe_fld (pv 0) rfl) pa_nil)))
      (pss_cons (ps_for PassesOwn.never rfl (pi_list (pv 1)) (pg_tup rfl (pgs_cons (pg_name (i := 2) scHBeat.nd rfl (Or.inl rfl)) (pgs_cons (pg_name (i := 3) scHBeat.nd rfl (Or.inl rfl)) (pgs_cons (pg_name (i := 4) scHBeat.nd rfl (Or.inl rfl)) pgs_nil))))
        (pss_cons (ps_fld (pv 2) (pv 3) rfl) (pss_one (ps_fld (pv 2) (pv 4) rfl))))
      (pss_cons (ps_for PassesOwn.never rfl (pi_list (pe_fld (pv 0) rfl)) (pg_name (i := 5) scHBeat.nd rfl (Or.inl rfl))
        (pss_one (ps_expr (pe_meth (pv 0) T.cl mT GT (hr.mono (by decide)) bT .nil pass0 (pa_cons (pv 5) pa_nil)))))
      (pss_one (ps_ret (pe_meth (pe_fld (pv 0) rfl) TN.cl mR GR (hr.mono (by decide)) bR .nil pass0 (pa_cons (pv 1) pa_nil)))))), ?_⟩
    have hcl : H h.cl = some (.lst [V.ref c.a]) := by have := hh.get 1 rfl; rw [hca] at this; exact this
    have hdp := hhas_dep wf hsd
    refine ⟨_, rfl, h.a, CH, _, _, _, rfl, hh.get 0 rfl, T.cl, T.nclients, houseF__clients, fun _ => c.number, stOf ss, h.cl, [(c.a, c.sa, c.sd)], rfl, hhas_rl hh wf, hcl, by show 1 ≤ 5; decide, ?_, by simp, ?_, by decide, fun H1 ll ts s1 hl0 hl1 ht1 => ?_⟩
    · intro x hx
      rw [List.mem_singleton.mp hx]
      exact hhas_cl hh wf hsd
    · show DepOk (stOf ss) 3 (rootsOf _ _ ++ [])
      rw [List.append_nil]; exact hdp
    have ht1 : TupsAt H1 ts (laidOf c ss) := by
      have e : [(c.a, c.sa, c.sd)].flatMap (rootsOf (stOf ss)) = rootsOf (stOf ss) (c.a, c.sa, c.sd) := by show _ ++ [] = _; rw [List.append_nil]
      rw [e] at ht1; exact ht1
    have hmem : ∀ q ∈ laidOf c ss, ∃ s l, stOf ss q.1 = some s ∧ s.shown = some l := layT_mem 3 hdp
    generalize hqs : laidOf c ss = qs at ht1 hmem hbnd k
    have g1 : HHas CH CD CC CS CL H1 ((ll, .lst (ts.map V.ref)) :: A) (scrCells CN s ++ B) C h c ss := hh.add hl0 s1 hl1
    generalize hA' : ((ll, HO.lst (ts.map V.ref)) :: A) = A' at g1
    have hll : ∀ {H2 ss2 c2} , HHas CH CD CC CS CL H2 A' (scrCells CN s ++ B) C h c2 ss2 → H2 ll = some (.lst (ts.map V.ref)) := fun g => g.mem (by rw [← hA']; simp)
    have hql := paired_len ht1
    refine ⟨_, rfl, ll, rfl, ⟨_, SqL.of hl1⟩, for_list (K := K) (a := ll) (xs := ts.map V.ref) (fun i σ H2 => ∃ a b d ss1, σ = [some (.ref h.a), some (.ref ll), a, b, d, none] ∧ CoreEq ss ss1 ∧ KeepT H1 H2 ∧ HHas CH CD CC CS CL H2 A' (scrCells CN s ++ B) C h c ss1)
      ⟨_, _, _, ss, rfl, rfl, KeepT.refl _, g1⟩ ?_ ?_ ?_⟩
    · rintro i σ H2 _ ⟨_, _, _, ss1, _, _, _, g⟩
      exact SqL.of (hll g)
    · rintro i x σ H2 hx ⟨a, b, d, ss1, rfl, ce, k2, g⟩
      rw [List.getElem?_map] at hx
      cases ea : ts[i]? with
      | none => rw [ea] at hx; cases hx
      | some t =>
        rw [ea] at hx
        obtain rfl : V.ref t = x := Option.some.inj hx
        have hil : i < qs.length := by rw [← hql]; exact (List.getElem?_eq_some_iff.mp ea).1
        have eq : qs[i]? = some qs[i] := List.getElem?_eq_getElem hil
        have ht := k2 _ _ (paired_ix (R := fun (t : Addr) (q : Addr × Int × Int) => H1 t = some (.tup [.ref q.1, .int q.2.1, .int q.2.2])) ht1 ea eq)
        obtain ⟨s', l', es', _⟩ := hmem _ (List.mem_of_getElem? eq)
        generalize qs[i] = q at eq ht es'
        obtain ⟨q1, q2, q3⟩ := q
        obtain ⟨u, eu, ecu⟩ := core_get ce es'
        obtain ⟨eua, j, ej⟩ := stOf_ix eu
        have eua : u.a = q1 := eua
        subst eua
        have g' := hhas_c.mp g
        have hso := (chas_at g' ej).1
        refine ⟨t, _, rfl, SqT.of ht, rfl, _, _, rfl, _, _, rfl, _, _, rfl, rfl, ?_⟩
        refine ⟨_, rfl, _, rfl, u.a, CS, _, _, rfl, hso, TS.cl, TS.nlx, surfF_few, ?_⟩
        have g2 := (g'.unassoc.out ej).set 0 rfl (.ins CS u.dx (putF "laid_x" (.int q2) (surfF u.owner u.name u.there (oref u.top) u.pa u.pend.a (oref (u.ready.map (·.a))) (oref (u.shown.map (·.a))) u.newly u.lx u.ly)))
        have k3 := k2.trans (KeepT.wr hso (.ins CS u.dx (putF "laid_x" (.int q2) (surfF u.owner u.name u.there (oref u.top) u.pa u.pend.a (oref (u.ready.map (·.a))) (oref (u.shown.map (·.a))) u.newly u.lx u.ly))))
        rw [surfF_plaid_x] at g2 k3 ⊢
        refine ⟨_, rfl, _, rfl, u.a, CS, _, _, rfl, g2.hd, TS.cl, TS.nly, surfF_few, ?_⟩
        have k4 := k3.trans (KeepT.wr g2.hd (.ins CS u.dx (putF "laid_y" (.int q3) (surfF u.owner u.name u.there (oref u.top) u.pa u.pend.a (oref (u.ready.map (·.a))) (oref (u.shown.map (·.a))) u.newly q2 u.ly))))
        have g3 := g2.set 0 rfl (.ins CS u.dx (putF "laid_y" (.int q3) (surfF u.owner u.name u.there (oref u.top) u.pa u.pend.a (oref (u.ready.map (·.a))) (oref (u.shown.map (·.a))) u.newly q2 u.ly)))
        rw [surfF_plaid_y] at g3 k4 ⊢
        have g4 := Has.back (v := { u with lx := q2, ly := q3 }) (g := surfCells CS CL) ej g3
        exact ⟨_, _, _, ss1.set j { u with lx := q2, ly := q3 }, rfl, ce.set ej rfl, k4, hhas_c.mpr g4.assoc⟩
    · rintro σ H2 ⟨a, b, d, ss1, rfl, ce1, k2, g2⟩
      have hcl2 : H2 h.cl = some (.lst [V.ref c.a]) := by have := g2.get 1 rfl; rw [hca] at this; exact this
      refine ⟨_, rfl, h.a, CH, _, _, _, rfl, g2.get 0 rfl, T.cl, T.nclients, houseF__clients, _, rfl, ⟨_, SqL.of hcl2⟩, for_list (K := K) (a := h.cl) (xs := [V.ref c.a]) (fun i σ H3 => H3 h.cl = some (.lst [V.ref c.a]) ∧
        ((i = 0 ∧ σ = [some (.ref h.a), some (.ref ll), a, b, d, none] ∧ H3 = H2) ∨ (1 ≤ i ∧ ∃ a b d e ss2 ns, σ = [some (.ref h.a), some (.ref ll), a, b, d, e] ∧ CoreEq ss ss2 ∧ ns.length ≤ c.notes.length + 10 ∧ KeepT H1 H3 ∧ HHas CH CD CC CS CL H3 A' (scrCells CN s ++ B) C h { c with notes := ns } ss2)))
        ⟨hcl2, .inl ⟨rfl, rfl, rfl⟩⟩ (fun i σ H3 _ p => SqL.of p.1) ?_ ?_⟩
      · rintro i x σ H3 hx ⟨hc2, ⟨rfl, rfl, rfl⟩ | ⟨hi, _⟩⟩
        · obtain rfl : V.ref c.a = x := by simpa using hx
          have wf1 := core_swf wf ce1
          refine ⟨_, rfl, h.a, _, _, rfl, g2.get 0 rfl, by kernel_rfl, _, rfl, A' ++ houCells CH CD h ++ (scrCells CN s ++ B), C, c, ss1, .ref h.a, rfl, hhas_c.mp g2, hsd.trans (core_sd ce1).symm, wf1.ow, wf1.nn, wf1.slen, hfal, hnl, fun ss2 ns H4 ce2 hns g4 k4 => ?_⟩
          have g5 := hhas_c.mpr g4
          refine ⟨?_, .inr ⟨by omega, a, b, d, _, ss2, ns, rfl, ce1.trans ce2, hns, k2.trans k4, g5⟩⟩
          have := g5.get 1 rfl
          rw [hca] at this; exact this
        · have := (List.getElem?_eq_some_iff.mp hx).1
          simp at this; omega
      · rintro σ H3 ⟨_, ⟨h0, _⟩ | ⟨_, a, b, d, e, ss2, ns, rfl, ce2, hns, k3, g3⟩⟩
        · simp at h0
        · have wf2 := core_swf wf ce2
          generalize hcc : ({ c with notes := ns } : CliH) = c2 at g3
          have gp : Has H3 ([] ++ (scrCells CN s ++ ((A' ++ houCells CH CD h) ++ (B ++ (cliCells CC c2 ++ (allCells CS CL ss2 ++ C)))))) := by
            refine Has.perm g3 ?_
            show (A' ++ (houCells CH CD h ++ ((scrCells CN s ++ B) ++ (cliCells CC c2 ++ (allCells CS CL ss2 ++ C))))).Perm (scrCells CN s ++ ((A' ++ houCells CH CD h) ++ (B ++ (cliCells CC c2 ++ (allCells CS CL ss2 ++ C)))))
            rw [← List.append_assoc, List.append_assoc (scrCells CN s)]
            exact List.perm_append_comm_assoc _ _ _
          have hsa : H3 s.a = some (.ins CN s.dx (screenF s.wide s.high s.ma s.so)) := gp.get 0 rfl
          refine ⟨_, rfl, h.a, CH, _, _, _, rfl, g3.get 0 rfl, T.cl, T.nscreen, houseF__screen, s.a, _, _, congrArg V.ref hsc, hsa, by kernel_rfl, _, rfl, [], _, s, ll, ts, qs, lkOf ss, congrArg (fun x => [V.ref x, V.ref ll]) hsc, gp, nw, by rw [← hA']; simp, ht1.keepT k3, fun q hq => ⟨hbnd q hq, ?_⟩, fun z0 H4 l us z1 z2 z3 _ _ g4 _ => ?_⟩
          · obtain ⟨s', l', es', el'⟩ := hmem q hq
            obtain ⟨u, eu, ecu⟩ := core_get ce2 es'
            obtain ⟨eua, j, ej⟩ := stOf_ix eu
            have hu1 : (core u).shown = (core s').shown := by rw [ecu]
            have hu1 : u.shown = s'.shown := hu1
            refine ⟨(A' ++ houCells CH CD h) ++ (B ++ (cliCells CC c2 ++ (ss2.take j).flatMap (surfCells CS CL))), (ss2.drop (j + 1)).flatMap (surfCells CS CL) ++ C, u, l', ?_, eua, hu1.trans el', ?_, wf2.shown u (List.mem_of_getElem? ej) l' (hu1.trans el')⟩
            · rw [show allCells CS CL ss2 = _ from split_at (g := surfCells CS CL) ej]
              simp [List.append_assoc]
            · unfold lkOf
              rw [es']; exact el'
          · have ek := k ss2 ns z0 H4 l ce2 hns z1 z2 z3
            refine ek ?_
            rw [hcc]
            have g5 := g4.sub (List.sublist_cons_self _ _)
            have g6 : Has H4 (A' ++ (houCells CH CD h ++ ((scrCells CN (paintAll (lkOf ss) z0 qs) ++ B) ++ (cliCells CC c2 ++ (allCells CS CL ss2 ++ C))))) := by
              refine Has.perm g5 ?_
              show (scrCells CN (paintAll (lkOf ss) z0 qs) ++ ((A' ++ houCells CH CD h) ++ (B ++ (cliCells CC c2 ++ (allCells CS CL ss2 ++ C))))).Perm _
              rw [← List.append_assoc A', List.append_assoc (scrCells CN _) B]
              exact List.perm_append_comm_assoc _ _ _
            rw [← hA'] at g6
            exact g6.sub (List.sublist_cons_self _ _)
end
end SH
set_option Elab.async false
set_option linter.all false
set_option maxRecDepth 100000
namespace SH
open PySem PySem.Spec PyProof.Rows L2
def TupsL (H : Hp) (ts : List Addr) (rs : List (List Int)) : Prop := Paired (fun (t : Addr) (r : List Int) => H t = some (.tup (r.map V.int))) ts rs
theorem TupsL.keep {H H' : Hp} {ts : List Addr} {rs : List (List Int)} (h : TupsL H ts rs) (k : KeepT H H') : TupsL H' ts rs := Paired.mapP h fun _ _ e => k _ _ e
theorem TupsL.snoc {H : Hp} : ∀ {ts : List Addr} {rs : List (List Int)} {t : Addr} {r : List Int}, TupsL H ts rs → H t = some (.tup (r.map V.int)) → TupsL H (ts ++ [t]) (rs ++ [r])
  | [], [], _, _, .nil, h => .cons h .nil
  | _ :: _, _ :: _, _, _, .cons a t, h => .cons a (TupsL.snoc t h)
def standRow (c : CliH) (ss : List SurfR) (q : Addr × Int × Int) : List Int := match stOf ss q.1 with
  | none => []
  | some s => match s.shown with
    | none => []
    | some l => [c.number, s.name, q.2.1, q.2.2, l.wide, l.high]
section
variable {P : Program} {w : World} {K : PySem.W.Frag} {mg : Str → Option Value} {base : Heap}
theorem scHScreen : FnScope ["self", "row"] ["self"] (defScope sHScreen) := ⟨rfl, rfl, rfl, by decide +kernel, rfl, by decide +kernel, by decide +kernel⟩
def spHScreen (CH CN : Addr) : Sp := fun vs H Q _ => ∃ (h : HouH) (s : ScrH), vs = [.ref h.a] ∧ H h.a = some (.ins CH h.dx (houseF h.sc h.cl h.ha)) ∧ h.sc = s.a ∧ H s.a = some (.ins CN s.dx (screenF s.wide s.high s.ma s.so)) ∧ GridAt H s.ma s.rows ∧ s.rows.length ≤ 100 ∧
  ∀ H' l rs, Same H H' → (∀ L, Has H L → Has H' ((l, .lst (rs.map fun (r : Addr × List Int) => V.ref r.1)) :: (rs.map rowC ++ L))) → msOf rs = msOf s.rows → Q (.ref l) H'
theorem ok_hscreen {f CH CN : Addr} {fd : FuncData} (F : Fun K "screen" "House.screen" sHScreen f fd) (T : TxtH K mg CH) (TN : TxtN K mg CN) :
    FnOk P w K mg base CX0 1 f fd ["self"] (spHScreen CH CN) := by
  refine F.ok scHScreen (fun vs H Q E h => ?_) (fun cdv A0 outer s0 H vs Q E hr h => ?_)
  · obtain ⟨h, s, rfl, _⟩ := h
    rfl
  · obtain ⟨h, s, rfl, h1, hsc, h2, hg, hl, k⟩ := h
    refine ⟨_, pss_one (ps_ret (pe_lc (own := [("row", 1)]) (g := gName 1) (te := tCB (Evl.rListS K) (tCons (tVar 1) tNil)) (by rfl) scHScreen.nd (pi_list (pe_fld (pe_fld (pv 0) rfl) rfl)) (blkOk_by (own := [("row", 1)]) (N := ["self", "row"]) (sc := defScope sHScreen) (by decide +kernel))
        (fun _ _ _ _ _ => pg_name (i := 1) scHScreen.nd rfl (Or.inl rfl)) (fun _ _ _ _ _ => pts_nil) (fun _ _ _ _ _ => pe_callTy call_list_of (by rfl) T.list (show bootBuiltins "list" = some (.type "list") by decide +kernel) (pa_cons (pv 1) pa_nil)))), ?_⟩
    refine ⟨_, rfl, h.a, CH, _, _, _, rfl, h1, T.cl, T.nscreen, houseF__screen, s.a, CN, _, _, _, congrArg V.ref hsc, h2, TN.cl, TN.nmarks, screenF_marks, s.ma, rfl, ⟨_, SqL.of hg.l⟩, fun D hD => ?_⟩
    refine lc_list (K := K) (a := s.ma) (xs := s.rows.map fun r => V.ref r.1) (fun i H2 => Same H H2 ∧ ∃ rs : List (Addr × List Int), rs.map (·.2) = (s.rows.take i).map (·.2) ∧ ∀ L, Has H L → Has H2 ((D, .lst (rs.map fun r => V.ref r.1)) :: (rs.map rowC ++ L))) ⟨Same.new _ hD, [], rfl, fun L hL => hL.cons hD _⟩ ?_ ?_ ?_
    · rintro i H2 _ ⟨s2, _⟩
      exact SqL.of (s2 _ _ hg.l)
    · rintro i y H2 hi ⟨s2, rs, ers, g⟩
      rw [List.getElem?_map] at hi
      cases er : s.rows[i]? with
      | none => rw [er] at hi; cases hi
      | some r0 =>
        rw [er] at hi
        obtain rfl : V.ref r0.1 = y := Option.some.inj hi
        have hr0 := s2 _ _ (hg.r r0 (List.mem_of_getElem? er))
        have hi' : i < s.rows.length := (List.getElem?_eq_some_iff.mp er).1
        have hlen : rs.length = i := by have := congrArg List.length ers; simp at this; omega
        refine ⟨rfl, ?_⟩
        refine ⟨_, rfl, r0.1, _, rfl, .inl (SqL.of hr0), fun q hq => ?_⟩
        have gD : H2 D = some (.lst (rs.map fun r => V.ref r.1)) := (g [] ⟨(fun c hc => by cases hc), List.nodup_nil⟩).get (A := []) 0 rfl
        have nDq : D ≠ q := ne_of_none gD hq
        refine ⟨rs.map fun r => V.ref r.1, by rw [upd_ne nDq]; exact gD, ?_, Same.mut _ (s2.trans (Same.new _ hq)) hD, rs ++ [(q, r0.2)], ?_, fun L hL => ?_⟩
        · rw [List.length_map, hlen]; exact small1000 (by omega)
        · rw [List.map_append, ers, List.take_add_one, er, List.map_append]; rfl
        · have g1 := (g L hL).cons hq (.lst (r0.2.map V.int))
          have g2 := Has.set (A := []) g1 1 (o := .lst (rs.map fun r => V.ref r.1)) rfl (.lst ((rs.map fun r => V.ref r.1) ++ [V.ref q]))
          refine Has.perm g2 ?_
          show ((q, HO.lst (r0.2.map V.int)) :: (D, HO.lst ((rs.map fun r => V.ref r.1) ++ [V.ref q])) :: (rs.map rowC ++ L)).Perm _
          rw [List.map_append, List.map_append, List.append_assoc]
          exact (List.Perm.swap _ _ _).trans (List.Perm.cons _ List.perm_middle.symm)
    · rintro H2 ⟨s2, rs, ers, g⟩
      rw [List.length_map, List.take_length] at ers
      exact k H2 D rs s2 g ers
end
end SH
set_option Elab.async false
set_option linter.all false
set_option maxRecDepth 100000
namespace SH
open PySem PySem.Spec PyProof.Rows L2
abbrev sMix : Stmt := top 43
abbrev sNext : Stmt := top 44
structure MixH where
  a : Addr
  cl : Addr
  m : Int
  cells : List Int
  pos : Int
def mixCells (m : MixH) : Cells := [(m.a, .lst [.int m.m, .ref m.cl, .int m.pos]), (m.cl, .lst (m.cells.map V.int))]
structure MixOk (m : MixH) : Prop where
  m0 : 0 ≤ m.m
  m1 : m.m < 2147483648
  len : m.cells.length ≤ 63
  pos : 0 ≤ m.pos
structure TxtM (mg : Str → Option Value) : Prop where
  list : mg "list" = none
  max : mg "max" = none
  len : mg "len" = none
section
variable {P : Program} {w : World} {K : PySem.W.Frag} {mg : Str → Option Value} {base : Heap}
abbrev nMix : List Str := ["_law_script", "_law_seed", "_law_mixed", "_law_cell"]
theorem scMix : FnScope nMix ["_law_script", "_law_seed"] (defScope sMix) := ⟨rfl, rfl, rfl, by decide +kernel, rfl, by decide +kernel, by decide +kernel⟩
def spMix : Sp := fun vs H Q _ => ∃ (sa : Addr) (ns : List Int) (seed : Int), vs = [.ref sa, .int seed] ∧ SqL K H sa (ns.map V.int) ∧ ns.length ≤ 63 ∧ 0 ≤ seed ∧ seed < 2147483648 ∧
  ∀ m H', MixOk m → Has H' (mixCells m) → Q (.ref m.a) H'
theorem ok_mix {f : Addr} {fd : FuncData} (F : Fun K "_law_mix" "_law_mix" sMix f fd) (T : TxtM mg) : FnOk P w K mg base CX0 1 f fd ["_law_script", "_law_seed"] (spMix (K := K)) := by
  refine F.ok scMix (fun vs H Q E h => ?_) (fun cdv A0 outer s0 H vs Q E hr h => ?_)
  · obtain ⟨sa, ns, seed, rfl, _⟩ := h
    rfl
  · obtain ⟨sa, ns, seed, rfl, hs, hl, s0, s1, k⟩ := h
    refine ⟨_, pss_cons (ps_set (i := 2) scMix.nd rfl (Or.inl rfl) (pv 1))
      (pss_cons (ps_for PassesOwn.never rfl (pi_list (pv 0)) (pg_name (i := 3) scMix.nd rfl (Or.inl rfl))
        (pss_one (ps_set (i := 2) scMix.nd rfl (Or.inl rfl) (pe_op op_mod (pe_op op_add (pe_op op_add (pe_op op_mul (pv 2) pe_int) (pe_op op_mod (pv 3) pe_int)) pe_int) pe_int))))
      (pss_one (ps_ret (pe_lst (pa_cons (pv 2) (pa_cons (pe_callTy call_list_of (by rfl) T.list (show bootBuiltins "list" = some (.type "list") by decide +kernel) (pa_cons (pv 0) pa_nil)) (pa_cons pe_int pa_nil))))))), ?_⟩
    refine ⟨_, rfl, ?_⟩
    refine ⟨_, rfl, sa, rfl, ⟨_, hs⟩, for_list (K := K) (a := sa) (xs := ns.map V.int) (fun i σ H1 => H1 = H ∧ ∃ mm c, σ = [some (.ref sa), some (.int seed), some (.int mm), c] ∧ 0 ≤ mm ∧ mm < 2147483648) ⟨rfl, _, _, rfl, s0, s1⟩ (fun i σ H1 _ p => by rw [p.1]; exact hs) ?_ ?_⟩
    · rintro i x σ H1 hx ⟨rfl, mm, c, rfl, m0, m1⟩
      rw [List.getElem?_map] at hx
      cases en : ns[i]? with
      | none => rw [en] at hx; cases hx
      | some n =>
        rw [en] at hx
        obtain rfl : V.int n = x := Option.some.inj hx
        refine ⟨_, rfl, _, _, rfl, rfl, .inl ⟨by omega, by omega⟩, _, rfl, _, _, rfl, rfl, (by show (0 : Int) < 2147483629; decide), _, _, rfl, rfl, _, _, rfl, rfl, _, _, rfl, rfl, (by show (0 : Int) < 2147483647; decide), ?_⟩
        refine ⟨rfl, _, _, rfl, Int.emod_nonneg _ (by decide), Int.lt_trans (Int.emod_lt_of_pos _ (by decide)) (by decide)⟩
    · rintro σ H1 ⟨rfl, mm, c, rfl, m0, m1⟩
      refine ⟨_, rfl, _, rfl, sa, _, rfl, .inl hs, fun cl hcl => ⟨small (by show 3 ≤ 1000; decide), fun a ha => ?_⟩⟩
      refine k ⟨a, cl, mm, ns, 0⟩ _ ⟨m0, m1, hl, by show (0 : Int) ≤ 0; decide⟩ ?_
      have nn : cl ≠ a := ne_of_none upd_same ha
      refine ⟨fun p hp => ?_, ?_⟩
      · rcases List.mem_cons.mp hp with e | e
        · subst e; exact upd_same
        · rw [List.mem_singleton.mp e]
          show upd _ a _ cl = _
          rw [upd_ne nn, upd_same]
      · show [a, cl].Nodup
        simp [nn.symm]
abbrev nNext : List Str := ["_law_h", "_law_many", "_law_at", "_law_cell"]
theorem scNext : FnScope nNext ["_law_h", "_law_many"] (defScope sNext) := ⟨rfl, rfl, rfl, by decide +kernel, rfl, by decide +kernel, by decide +kernel⟩
def spNext : Sp := fun vs H Q _ => ∃ (A B : Cells) (m : MixH) (many : Int), vs = [.ref m.a, .int many] ∧ Has H (A ++ (mixCells m ++ B)) ∧ MixOk m ∧ 1 ≤ many ∧ many ≤ 1000 ∧
  ∀ (r : Int) m' H', 0 ≤ r → r < many → m'.a = m.a → MixOk m' → Has H' (A ++ (mixCells m' ++ B)) → Q (.int r) H'
theorem eqv_nil : ∀ ns : List Int, PyData.eqv (.list (ns.map PyData.int)) (.list []) = decide (ns = []) := fun ns => by
  cases ns with
  | nil => rfl
  | cons n ns => rfl
theorem p18n {c : Int} (h : c < 1000000000000000000) : ¬ (((10 : Int) ^ (18 : Int).toNat) ≤ c) := by
  have : ((10 : Int) ^ (18 : Int).toNat) = 1000000000000000000 := by decide
  omega
theorem p18y {c : Int} (h : 1000000000000000000 ≤ c) : ((10 : Int) ^ (18 : Int).toNat) ≤ c := by
  have : ((10 : Int) ^ (18 : Int).toNat) = 1000000000000000000 := by decide
  omega
theorem dp_ints {H : Hp} : ∀ ns : List Int, DpAll K H (ns.map V.int) (ns.map PyData.int)
  | [] => .nil
  | n :: ns => .cons (.int n) (dp_ints ns)
theorem ok_next {f : Addr} {fd : FuncData} (F : Fun K "_law_next" "_law_next" sNext f fd) (T : TxtM mg) : FnOk P w K mg base CX0 1 f fd ["_law_h", "_law_many"] spNext := by
  refine F.ok scNext (fun vs H Q E h => ?_) (fun cdv A0 outer s0 H vs Q E hr h => ?_)
  · obtain ⟨A, B, m, many, rfl, _⟩ := h
    rfl
  · obtain ⟨A, B, m, many, rfl, hh, ok, y1, y2, k⟩ := h
    refine ⟨_, pss_cons (ps_set (i := 2) scNext.nd rfl (Or.inl rfl) (pe_op op_mod (pe_ix ix_list (pv 0) pe_int (fun _ _ => rfl)) (pe_callB (call_max2 rfl) (by rfl) T.max (by decide +kernel) (pa_cons pe_int (pa_cons (pe_callB call_len_seq (by rfl) T.len PySem.boot_len (pa_cons (pe_ix ix_list (pv 0) pe_int (fun _ _ => rfl)) pa_nil)) pa_nil)))))
      (pss_cons (ps_set (i := 3) scNext.nd rfl (Or.inl rfl) (pe_ifExp (pt_cmpR (op_neD hr.units) (pe_ix ix_list (pv 0) pe_int (fun _ _ => rfl)) (pe_lst pa_nil) (nomark _)) (pe_ix ix_list (pe_ix ix_list (pv 0) pe_int (fun _ _ => rfl)) (pv 2) (fun _ _ => rfl)) pe_int))
      (pss_cons (ps_if (pt_cmpR op_ge (pv 3) (pe_op op_pow pe_int pe_int) (nomark _))
        (pss_cons (ps_asg (pe_op op_fdiv (pv 3) (pv 1)) (pg_sub (pe_ix ix_list (pv 0) pe_int (fun _ _ => rfl)) (pv 2) set_list)) (pss_one (ps_ret (pe_op op_mod (pv 3) (pv 1))))) pss_nil)
      (pss_cons (ps_asg (pe_op op_mod (pe_op op_add (pe_op op_add (pe_op op_mul (pe_ix ix_list (pv 0) pe_int (fun _ _ => rfl)) pe_int) (pe_op op_mul (pv 3) pe_int)) pe_int) pe_int) (pg_sub (pv 0) pe_int set_list))
      (pss_cons (ps_asg (pe_op op_add (pe_ix ix_list (pv 0) pe_int (fun _ _ => rfl)) pe_int) (pg_sub (pv 0) pe_int set_list))
      (pss_one (ps_ret (pe_op op_mod (pe_op op_fdiv (pe_ix ix_list (pv 0) pe_int (fun _ _ => rfl)) pe_int) (pv 1)))))))), ?_⟩
    obtain ⟨ma, mcl, mm, cells, pos⟩ := m
    obtain ⟨m0, m1, hlen, hpos⟩ := ok
    simp only at m0 m1 hlen hpos
    have h0 : H ma = some (.lst [.int mm, .ref mcl, .int pos]) := hh.get 0 rfl
    have h1 : H mcl = some (.lst (cells.map V.int)) := hh.get 1 rfl
    refine ⟨_, rfl, _, _, _, .int pos, rfl, rfl, SqL.of h0, at_of (j := 2) rfl rfl, _, rfl, _, _, _, .ref mcl, rfl, rfl, SqL.of h0, at_of (j := 1) rfl rfl, _, _, rfl, .inl (SqL.of h1), _, _, rfl, _, _, rfl, rfl, ?_, ?_⟩
    · show 0 < (if ((cells.map V.int).length : Int) > 1 then ((cells.map V.int).length : Int) else 1)
      split <;> omega
    generalize hL : (if ((cells.map V.int).length : Int) > 1 then ((cells.map V.int).length : Int) else 1) = L
    have hL1 : 1 ≤ L ∧ (cells ≠ [] → L = (cells.length : Int)) := by
      rw [← hL, List.length_map]
      refine ⟨by split <;> omega, fun hne => ?_⟩
      have : 0 < cells.length := List.length_pos_iff.mpr hne
      split <;> omega
    have ha0 : 0 ≤ pos % L := Int.emod_nonneg _ (by omega)
    have ha1 : pos % L < L := Int.emod_lt_of_pos _ (by omega)
    generalize hat : pos % L = at_ at ha0 ha1
    simp only [hat]
    refine ⟨_, rfl, _, _, _, .ref mcl, rfl, rfl, SqL.of h0, at_of (j := 1) rfl rfl, small (by show 0 ≤ 1000; decide), fun q hq => ?_⟩
    have hh1 := hh.past hq (.lst [])
    have h0' : upd H q (.lst []) ma = some (.lst [.int mm, .ref mcl, .int pos]) := hh1.get 0 rfl
    have h1' : upd H q (.lst []) mcl = some (.lst (cells.map V.int)) := hh1.get 1 rfl
    refine ⟨.list (cells.map PyData.int), .list [], .lst (SqL.of h1') (dp_ints cells), .lst (SqL.of upd_same) .nil, PySem.W.ke_shaped_ints _, PySem.W.ke_shaped_ints [], ?_⟩
    rw [eqv_nil]
    generalize upd H q (.lst []) = H1 at hh1 h0' h1'
    by_cases hne : cells = []
    · rw [decide_eq_true hne]
      refine ⟨_, rfl, iteF ?_⟩
      refine ⟨_, rfl, _, _, rfl, rfl, (by show CPow 10 18; unfold CPow; decide), _, _, rfl, rfl, _, rfl, ?_⟩
      rw [decide_eq_false (show ¬ (((10 : Int) ^ (18 : Int).toNat) ≤ (0 : Int)) from p18n (by omega))]
      refine iteF ?_
      refine ⟨_, rfl, _, _, _, .int mm, rfl, rfl, SqL.of h0', at_of (j := 0) rfl rfl, _, _, rfl, rfl, .inr ⟨by omega, by omega⟩, _, rfl, _, _, rfl, rfl, .inr ⟨by omega, by omega⟩, _, _, rfl, rfl, _, _, rfl, rfl, _, _, rfl, rfl, (by show (0 : Int) < 2147483647; decide), ?_⟩
      have m20 : 0 ≤ ((mm * 48271 + (0 : Int) * 69621 + 11) % 2147483647) := Int.emod_nonneg _ (by decide)
      have m21 : ((mm * 48271 + (0 : Int) * 69621 + 11) % 2147483647) < 2147483647 := Int.emod_lt_of_pos _ (by decide)
      refine ⟨_, rfl, _, _, _, 0, rfl, rfl, h0', rfl, ?_⟩
      have g2 := hh1.set 0 (o := .lst [.int mm, .ref mcl, .int pos]) rfl (.lst [.int ((mm * 48271 + (0 : Int) * 69621 + 11) % 2147483647), .ref mcl, .int pos])
      refine ⟨_, rfl, _, _, _, .int pos, rfl, rfl, SqL.of (g2.get 0 rfl), at_of (j := 2) rfl rfl, _, _, rfl, rfl, ?_⟩
      refine ⟨_, rfl, _, _, _, 2, rfl, rfl, g2.get 0 rfl, rfl, ?_⟩
      have g3 := g2.set 0 (o := .lst [.int ((mm * 48271 + (0 : Int) * 69621 + 11) % 2147483647), .ref mcl, .int pos]) rfl (.lst [.int ((mm * 48271 + (0 : Int) * 69621 + 11) % 2147483647), .ref mcl, .int (pos + 1)])
      refine ⟨_, rfl, _, _, _, .int ((mm * 48271 + (0 : Int) * 69621 + 11) % 2147483647), rfl, rfl, SqL.of (g3.get 0 rfl), at_of (j := 0) rfl rfl, _, _, rfl, rfl, (by show (0 : Int) < 7 ∧ (7 : Int) < 1073741824; decide), _, rfl, _, _, rfl, rfl, (by show (0 : Int) < many; omega), ?_⟩
      exact k _ ⟨ma, mcl, ((mm * 48271 + (0 : Int) * 69621 + 11) % 2147483647), cells, pos + 1⟩ _ (Int.emod_nonneg _ (by omega)) (Int.emod_lt_of_pos _ (by omega)) rfl ⟨m20, by show ((mm * 48271 + (0 : Int) * 69621 + 11) % 2147483647) < _; omega, hlen, by show 0 ≤ pos + 1; omega⟩ g3
    · rw [decide_eq_false hne]
      refine ⟨_, rfl, iteT ?_⟩
      have hL2 := hL1.2 hne
      have hal : at_.toNat < cells.length := by omega
      have ea : cells[at_.toNat]? = some cells[at_.toNat] := List.getElem?_eq_getElem hal
      generalize cells[at_.toNat] = cell at ea
      refine ⟨_, rfl, _, _, _, .ref mcl, rfl, rfl, SqL.of h0', at_of (j := 1) rfl rfl, _, rfl, _, _, _, .int cell, rfl, rfl, SqL.of h1', at_of (j := at_.toNat) (by omega) (by rw [List.getElem?_map, ea]; rfl), ?_⟩
      refine ⟨_, rfl, _, _, rfl, rfl, (by show CPow 10 18; unfold CPow; decide), _, _, rfl, rfl, _, rfl, ?_⟩
      by_cases hc : (1000000000000000000 : Int) ≤ cell
      · rw [decide_eq_true (show ((10 : Int) ^ (18 : Int).toNat) ≤ cell from p18y (by omega))]
        refine iteT ?_
        refine ⟨_, rfl, _, rfl, _, _, rfl, rfl, ⟨by omega, by omega⟩, _, rfl, _, _, _, .ref mcl, rfl, rfl, SqL.of h0', at_of (j := 1) rfl rfl, _, rfl, _, _, _, at_.toNat, rfl, rfl, h1', ?_, ?_⟩
        · rw [List.length_map]
          unfold ixN
          rw [if_pos (by omega), if_pos (by omega)]
        · have g2 := hh1.set 1 (o := .lst (cells.map V.int)) rfl (.lst ((cells.set at_.toNat (cell / many)).map V.int))
          rw [← List.map_set] 
          refine ⟨_, rfl, _, rfl, _, _, rfl, rfl, (by show (0 : Int) < many; omega), ?_⟩
          exact k _ ⟨ma, mcl, mm, cells.set at_.toNat (cell / many), pos⟩ _ (Int.emod_nonneg _ (by omega)) (Int.emod_lt_of_pos _ (by omega)) rfl ⟨m0, m1, by show (cells.set _ _).length ≤ 63; rw [List.length_set]; exact hlen, hpos⟩ g2
      · skip
        rw [decide_eq_false (show ¬ (((10 : Int) ^ (18 : Int).toNat) ≤ cell) from p18n (by omega))]
        refine iteF ?_
        refine ⟨_, rfl, _, _, _, .int mm, rfl, rfl, SqL.of h0', at_of (j := 0) rfl rfl, _, _, rfl, rfl, .inr ⟨by omega, by omega⟩, _, rfl, _, _, rfl, rfl, .inr ⟨by omega, by omega⟩, _, _, rfl, rfl, _, _, rfl, rfl, _, _, rfl, rfl, (by show (0 : Int) < 2147483647; decide), ?_⟩
        have m20 : 0 ≤ ((mm * 48271 + cell * 69621 + 11) % 2147483647) := Int.emod_nonneg _ (by decide)
        have m21 : ((mm * 48271 + cell * 69621 + 11) % 2147483647) < 2147483647 := Int.emod_lt_of_pos _ (by decide)
        refine ⟨_, rfl, _, _, _, 0, rfl, rfl, h0', rfl, ?_⟩
        have g2 := hh1.set 0 (o := .lst [.int mm, .ref mcl, .int pos]) rfl (.lst [.int ((mm * 48271 + cell * 69621 + 11) % 2147483647), .ref mcl, .int pos])
        refine ⟨_, rfl, _, _, _, .int pos, rfl, rfl, SqL.of (g2.get 0 rfl), at_of (j := 2) rfl rfl, _, _, rfl, rfl, ?_⟩
        refine ⟨_, rfl, _, _, _, 2, rfl, rfl, g2.get 0 rfl, rfl, ?_⟩
        have g3 := g2.set 0 (o := .lst [.int ((mm * 48271 + cell * 69621 + 11) % 2147483647), .ref mcl, .int pos]) rfl (.lst [.int ((mm * 48271 + cell * 69621 + 11) % 2147483647), .ref mcl, .int (pos + 1)])
        refine ⟨_, rfl, _, _, _, .int ((mm * 48271 + cell * 69621 + 11) % 2147483647), rfl, rfl, SqL.of (g3.get 0 rfl), at_of (j := 0) rfl rfl, _, _, rfl, rfl, (by show (0 : Int) < 7 ∧ (7 : Int) < 1073741824; decide), _, rfl, _, _, rfl, rfl, (by show (0 : Int) < many; omega), ?_⟩
        exact k _ ⟨ma, mcl, ((mm * 48271 + cell * 69621 + 11) % 2147483647), cells, pos + 1⟩ _ (Int.emod_nonneg _ (by omega)) (Int.emod_lt_of_pos _ (by omega)) rfl ⟨m20, by show ((mm * 48271 + cell * 69621 + 11) % 2147483647) < _; omega, hlen, by show 0 ≤ pos + 1; omega⟩ g3
end
end SH
set_option Elab.async false
set_option linter.all false
set_option maxRecDepth 100000
namespace SH
open PySem PySem.Spec PyProof.Rows L2 PySem.SeqAt HN
section
variable {M : Model} {prog : Program} {w : World} {A : Around} {E : Value → Shared → Prop} {s : Shared} {K : PySem.W.Frag} {x y C : Addr} {ox oy : Obj} {odx ody : Option Obj}
theorem isSame_ref {R : Bool → Shared → Prop} (hx : s.heap.get? x = some ox) (hy : s.heap.get? y = some oy) (hnt : ox.cls ≠ .type "tuple") (h : R (decide (x = y)) s) : wpAny M A (isSame (.ref x) (.ref y)) R E s := by
  by_cases e : x = y
  · subst e
    rw [decide_eq_true rfl] at h
    exact wpAny_isSame_ref_self h
  · rw [decide_eq_false e] at h
    exact wpAny_isSame_ref_other e hx hy hnt h
theorem entry_ref {Q : Fin → Shared → Prop} (hx : s.heap.get? x = some ox) (hy : s.heap.get? y = some oy) (hnt : ox.cls ≠ .type "tuple") (hq : Q (.done (.ret (if x = y then .bool true else .notImplemented))) s) : wpAny M A (Builtin.«object.__eq__» ⟨[.ref x, .ref y], []⟩) Q E s := by
  unfold Builtin.«object.__eq__»
  repeat (first | with_reducible refine isSame_ref hx hy hnt ?_ | wp_step)
  by_cases e : x = y
  · rw [decide_eq_true e, if_pos rfl]
    rw [if_pos e] at hq
    repeat wp_step
    exact hq
  · rw [decide_eq_false e, if_neg Bool.false_ne_true]
    rw [if_neg e] at hq
    repeat wp_step
    exact hq
theorem call_objEqR {Q : Value → Shared → Prop} (X : K.In s.heap) (I : PySem.W.InstAt s.heap x ox C odx) (hm : PySem.W.mroIn K C (.type "object") = some true) (hx : s.heap.get? x = some ox) (hy : s.heap.get? y = some oy) (hnt : ox.cls ≠ .type "tuple")
    (hq : Q (if x = y then .bool true else .notImplemented) s) :
    wpAny (model prog w) A (call (.builtin "object.__eq__") [.ref x, .ref y]) Q E s :=
  wpAny_call (codeAny_call_builtin F.cmp_object.eq.plain F.cmpEntry_eq (PySem.W.check_slot F.cmpKind_eq F.cmpSplit_eq (I.type.andThen (PySem.W.looks_mroIn X hm)) (F.cmpArgs_eq _ _) (entry_ref hx hy hnt hq)))
theorem rc_refs (hu : A.units < cLine) (X : K.In s.heap) (Ix : PySem.W.InstAt s.heap x ox C odx) (Iy : PySem.W.InstAt s.heap y oy C ody) (hm : PySem.W.mroIn K C (.type "object") = some true)
    (hs : PySem.W.findIn K (.ref C) "__eq__" = some (some (.builtin "object.__eq__"))) (hx : s.heap.get? x = some ox) (hy : s.heap.get? y = some oy) (ntx : ox.cls ≠ .type "tuple") (nty : oy.cls ≠ .type "tuple") :
    RcAt A s (.ref x) (.ref y) (decide (x = y)) := fun prog w E Q h => by
  have one : wpAny (model prog w) A (tryCompare (.ref x) "__eq__" (.ref y)) (fun r s' => r = (if x = y then some (.bool true) else none) ∧ s' = s) E s := by
    unfold tryCompare
    refine wpAny_bind (ifBound_objEq X Ix hs (call_objEqR X Ix hm hx hy ntx ?_))
    by_cases e : x = y
    · rw [if_pos e, if_pos e]; exact wpAny_pure ⟨rfl, rfl⟩
    · rw [if_neg e, if_neg e]; exact wpAny_pure ⟨rfl, rfl⟩
  have two : wpAny (model prog w) A (tryCompare (.ref y) "__eq__" (.ref x)) (fun r s' => r = (if y = x then some (.bool true) else none) ∧ s' = s) E s := by
    unfold tryCompare
    refine wpAny_bind (ifBound_objEq X Iy hs (call_objEqR X Iy hm hy hx nty ?_))
    by_cases e : y = x
    · rw [if_pos e, if_pos e]; exact wpAny_pure ⟨rfl, rfl⟩
    · rw [if_neg e, if_neg e]; exact wpAny_pure ⟨rfl, rfl⟩
  simp only [richCompare, cmpInfo_Eq, oneThing_ref]
  refine wpAny_holding (wpAny_bind (wpAny_cRoomFor hu ?_))
  refine wpAny_bind (Ix.type.here ?_)
  refine wpAny_bind (Iy.type.here ?_)
  rw [if_neg (by simp)]
  refine wpAny_bind (wpAny_pure ?_)
  rw [if_neg Bool.false_ne_true]
  refine wpAny_bind (m := tryCompare (.ref x) _ (.ref y)) (wpAny_mono one (fun r s1 z => ?_) fun _ _ e => e)
  obtain ⟨z1, z2⟩ := z
  subst z2
  by_cases e : x = y
  · rw [if_pos e] at z1
    subst z1
    rw [decide_eq_true e] at h
    exact wpAny_pure h
  · rw [if_neg e] at z1
    subst z1
    rw [decide_eq_false e] at h
    refine wpAny_bind (m := tryCompare (.ref y) _ (.ref x)) (wpAny_mono two (fun r s2 z => ?_) fun _ _ e => e)
    obtain ⟨z1, z2⟩ := z
    subst z2
    rw [if_neg (fun q => e q.symm)] at z1
    subst z1
    refine wpAny_bind (wpAny_rule (wpAny_bind (isSame_ref hx hy ntx ?_)))
    rw [decide_eq_false e]
    exact wpAny_pure h
theorem rc_noneL (hu : A.units < cLine) (X : K.In s.heap) (I : PySem.W.InstAt s.heap x ox C odx) (hm : PySem.W.mroIn K C (.type "object") = some true) (hs : PySem.W.findIn K (.ref C) "__eq__" = some (some (.builtin "object.__eq__"))) (hb : PySem.W.subIn K (.ref C) (.type "NoneType") = some false) :
    RcAt A s .none (.ref x) false := fun prog w E Q h => by
  have one : wpAny (model prog w) A (tryCompare (.ref x) "__eq__" .none) (fun r s' => r = none ∧ s' = s) E s := by
    unfold tryCompare
    exact wpAny_bind (ifBound_objEq X I hs (call_objEq X I hm (wpAny_pure ⟨rfl, rfl⟩)))
  have two : wpAny (model prog w) A (tryCompare .none "__eq__" (.ref x)) (fun r s' => r = none ∧ s' = s) E s :=
    wpAny_tryCompare_declines (show s.TypeIs .none "NoneType" from rfl) F.slot_NoneType_eq_refl (call_gives F.slot_NoneType_eq_refl rfl F.entry_NoneType_eq (F.args_NoneType_eq_2 _ _) (NoneType___eq___none_ref_0 x) ⟨rfl, rfl, rfl⟩)
  simp only [richCompare, cmpInfo_Eq]
  refine wpAny_holding (wpAny_bind (wpAny_cRoomFor hu ?_))
  rw [show oneThing? CmpOp.Eq Value.none (Value.ref x) = none from rfl]
  refine wpAny_bind (wpAny_typeOf (show s.TypeIs .none "NoneType" from rfl) ?_)
  refine wpAny_bind (I.type.here ?_)
  split
  · refine wpAny_bind ((PySem.W.looks_subIn X hb).here ?_)
    simp only [Bool.false_eq_true, if_false, Bool.not_false, if_true]
    refine wpAny_bind (m := tryCompare .none _ (.ref x)) (wpAny_mono two (fun r s1 z => ?_) fun _ _ e => e)
    obtain ⟨z1, z2⟩ := z
    subst z1
    subst z2
    refine wpAny_bind (m := tryCompare (.ref x) _ .none) (wpAny_mono one (fun r s2 z => ?_) fun _ _ e => e)
    obtain ⟨z1, z2⟩ := z
    subst z1
    subst z2
    exact wpAny_bind (wpAny_rule (wpAny_bind (wpAny_of_eq (rfl : isSame .none (.ref x) = pure false) (wpAny_pure h))))
  · rename_i q
    exact absurd (by simp) q
end
/-- what a class must have that its instances are equal to themselves alone -/
structure IdEq (K : PySem.W.Frag) (C : Addr) : Prop where
  obj : PySem.W.mroIn K C (.type "object") = some true
  eq : PySem.W.findIn K (.ref C) "__eq__" = some (some (.builtin "object.__eq__"))
  sub : PySem.W.subIn K (.ref C) (.type "NoneType") = some false
def rEqI (K : PySem.W.Frag) : R2 := fun x y H Q => ∃ C a b, x = oref a ∧ y = oref b ∧ IdEq K C ∧ (∀ p, a = some p → ∃ dx fs, H p = some (.ins C dx fs)) ∧ (∀ p, b = some p → ∃ dx fs, H p = some (.ins C dx fs)) ∧ Q (.bl (decide (a = b))) H
theorem op_eqI {X : Cx} (hu : X.A.units < cLine) : OpR X (compareOp .Eq) (rEqI X.K) := by
  intro pins s σ H x y v u Q I rx ry h
  obtain ⟨C, a, b, rfl, rfl, id, ha, hb, q⟩ := h
  have look : ∀ p, (∃ dx fs, H p = some (.ins C dx fs)) → ∃ od o, PySem.W.InstAt s.heap p o C od ∧ s.heap.get? p = some o ∧ o.cls ≠ .type "tuple" := by
    rintro p ⟨dx, fs, e⟩
    obtain ⟨mA, O, _⟩ := ins_get I.hok e
    obtain ⟨od, J, _⟩ := O.look
    exact ⟨_, _, J, O.obj, by intro z; cases z⟩
  show wpAny (model X.prog X.w) X.A (richCompare .Eq v u) (EP X pins σ Q) X.xe s
  cases a with
  | none =>
    cases rx
    cases b with
    | none =>
      cases ry
      exact op_eq pins s σ H .non .non .none .none Q I rfl rfl ⟨rfl, q⟩
    | some p =>
      cases ry
      obtain ⟨od, o, J, _⟩ := look p (hb p rfl)
      exact rc_noneL hu I.kIn J id.obj id.eq id.sub _ _ _ _ ⟨.bl false, H, I, rfl, q⟩
  | some p =>
    cases rx
    obtain ⟨od, o, J, e1, e2⟩ := look p (ha p rfl)
    cases b with
    | none =>
      cases ry
      exact rc_none hu I.kIn J id.obj id.eq _ _ _ _ ⟨.bl false, H, I, rfl, q⟩
    | some p' =>
      cases ry
      obtain ⟨od', o', J', e1', e2'⟩ := look p' (hb p' rfl)
      refine rc_refs hu I.kIn J J' id.obj id.eq e1 e1' e2 e2' _ _ _ _ ⟨.bl (decide (p = p')), H, I, rfl, ?_⟩
      have : decide (some p = some p') = decide (p = p') := decide_eq_decide.mpr ⟨fun h => Option.some.inj h, fun h => by rw [h]⟩
      rw [← this]; exact q
end SH
set_option Elab.async false
set_option linter.all false
set_option maxRecDepth 100000
namespace SH
open PySem PySem.Spec PyProof.Rows L2 RZ
theorem _root_.L2.SqT.sm {K : PySem.W.Frag} {H H' : Hp} {a : Addr} {xs : List V} (h : SqT K H a xs) (s : Same H H') : SqT K H' a xs := by
  rcases h with h | h
  · refine .inl ?_
    rcases h with h | ⟨o, h⟩
    · exact .inl (s _ _ h)
    · exact .inr ⟨o, s _ _ h⟩
  · exact .inr h
def BH (K : PySem.W.Frag) (H : Hp) (tb : Addr) (l : List (Int × Int)) : Prop := ∃ ts : List Addr, SqT K H tb (ts.map V.ref) ∧ Paired (fun (t : Addr) (p : Int × Int) => SqT K H t [.int p.1, .int p.2]) ts l
section
variable {P : Program} {w : World} {K : PySem.W.Frag} {mg : Str → Option Value} {base : Heap}
def spAreH (K : PySem.W.Frag) : Sp := fun vs H Q _ => ∃ (tn tb : Addr) (ns : List Int) (bs : List (Int × Int)), vs = [.ref tn, .ref tb] ∧ H tn = some (.tup (ns.map V.int)) ∧ ns.length ≤ 20 ∧ BH K H tb bs ∧ ∀ H', Same H H' → Q (.bl (inB ns bs)) H'
theorem ok_areH {f fW : Addr} {fd fdW : FuncData} (F : Fun K "are_within" "are_within" sAre f fd) (T : TxtF K w mg) (FW : Fun K "is_within" "is_within" sWithin fW fdW) (bW : Binds K fdW ["value", "least", "greatest"] []) (gW : mg "is_within" = some (.ref fW)) :
    FnOk P w K mg base CX0 2 f fd ["numbers", "bounds"] (spAreH K) := by
  have GW := ok_within (P := P) (w := w) (mg := mg) (base := base) FW T
  refine F.ok scAre (fun vs H Q E h => ?_) (fun cdv A0 outer s0 H vs Q E hr h => ?_)
  · obtain ⟨tn, tb, ns, bs, rfl, _⟩ := h
    rfl
  · obtain ⟨tn, tb, ns, bs, rfl, hn, hnl, ⟨ts, hts, hp⟩, k⟩ := h
    have hpl := paired_len hp
    refine ⟨_, pss_cons (ps_if (pt_cmpR op_ne (pe_callB call_len_seq (by rfl) T.len PySem.boot_len (pa_cons (pv 0) pa_nil)) (pe_callB call_len_seq (by rfl) T.len PySem.boot_len (pa_cons (pv 1) pa_nil)) (nomark _)) (pss_one (ps_ret pe_bl)) pss_nil)
      (pss_one (ps_ret (pe_callB (cr_all rfl) (by rfl) T.all (by decide +kernel) (pa_cons (pe_lc (own := [("number", 2), ("least", 3), ("greatest", 4)])
        (g := gTup K 2 (gCons (gName 2) (gCons (gTup K 2 (gCons (gName 3) (gCons (gName 4) gNil))) gNil))) (te := tCall spWithin [] E0 (tCons (tVar 2) (tCons (tVar 3) (tCons (tVar 4) tNil))))
        (by rfl) scAre.nd (pi_zipA (by rfl) T.zip (pa_cons (pv 0) (pa_cons (pv 1) pa_nil))) (blkOk_by (own := [("number", 2), ("least", 3), ("greatest", 4)]) (N := nAre) (sc := defScope sAre) (by decide +kernel))
        (fun _ _ _ _ _ => pg_tup rfl (pgs_cons (pg_name (i := 2) scAre.nd rfl (Or.inl rfl)) (pgs_cons (pg_tup rfl (pgs_cons (pg_name (i := 3) scAre.nd rfl (Or.inl rfl)) (pgs_cons (pg_name (i := 4) scAre.nd rfl (Or.inl rfl)) pgs_nil))) pgs_nil)))
        (fun _ _ _ _ _ => pts_nil) (fun _ _ _ _ _ => pe_call GW (hr.mono (by decide)) rfl gW FW.kp bW .nil pass0 (pa_cons (pv 2) (pa_cons (pv 3) (pa_cons (pv 4) pa_nil))))) pa_nil)))), ?_⟩
    refine ⟨_, rfl, tn, _, rfl, .inr (SqT.of hn), _, rfl, tb, _, rfl, .inr (hts), rfl, _, rfl, ?_⟩
    rw [List.length_map, List.length_map, hpl]
    by_cases hl : ns.length = bs.length
    · rw [decide_eq_true (show V.int (ns.length : Int) = V.int (bs.length : Int) by rw [hl])]
      refine iteF ?_
      refine ⟨_, rfl, _, rfl, tn, tb, _, _, rfl, .inr ⟨SqT.of hn, hts, fun D hD => ?_⟩⟩
      refine lc_it (walk_zipT (xs := ns.map V.int) (ys := ts.map V.ref) (n := ns.length) (by rw [List.length_map, List.length_map, hpl, ← hl]; simp)) (fun i H2 => Same H H2 ∧ H2 D = some (.lst (((ns.zip bs).take i).map fun p => V.bl (decide (p.2.1 ≤ p.1) && decide (p.1 ≤ p.2.2))))) ?_ ?_ ?_ ?_
      · exact ⟨Same.new _ hD, upd_same⟩
      · rintro i H2 _ ⟨s2, _⟩
        exact ⟨SqT.of (s2 _ _ hn), hts.sm s2⟩
      · rintro i x H2 H3 hi ⟨s2, hD2⟩ ⟨Tp, x1, x2, rfl, hT, rfl, e1, e2⟩
        simp only [List.getElem?_map] at e1 e2
        have hib : i < bs.length := by omega
        have hit : i < ts.length := by omega
        rw [List.getElem?_eq_getElem hi] at e1
        rw [List.getElem?_eq_getElem hit] at e2
        obtain rfl : V.int ns[i] = x1 := Option.some.inj e1
        obtain rfl : V.ref ts[i] = x2 := Option.some.inj e2
        have hk := paired_ix hp (List.getElem?_eq_getElem hit) (List.getElem?_eq_getElem hib)
        refine ⟨Tp, _, rfl, SqT.of upd_same, rfl, _, _, rfl, _, _, rfl, ⟨ts[i], _, rfl, (hk.sm (s2.trans (Same.new _ hT))), rfl, _, _, rfl, _, _, rfl, rfl, ?_⟩⟩
        refine ⟨rfl, rfl, ?_⟩
        refine ⟨_, rfl, _, rfl, _, rfl, ns[i], bs[i].1, bs[i].2, rfl, ?_⟩
        have hD3 : upd H2 Tp (.tup [V.int ns[i], V.ref ts[i]]) D = some (.lst (((ns.zip bs).take i).map fun p => V.bl (decide (p.2.1 ≤ p.1) && decide (p.1 ≤ p.2.2)))) := by
          rw [upd_ne (ne_of_none hD2 hT)]; exact hD2
        refine ⟨_, hD3, ?_, ?_, ?_⟩
        · rw [List.length_map, List.length_take]; exact small1000 (by omega)
        · exact Same.mut _ (Same.mut _ s2 (s2.free hT)) hD
        · rw [upd_same, List.take_add_one]
          have e3 : (ns.zip bs)[i]? = some (ns[i], bs[i]) := by rw [List.getElem?_zip_eq_some (z := (ns[i], bs[i])) |>.mpr ⟨List.getElem?_eq_getElem hi, (List.getElem?_eq_getElem hib : bs[i]? = some bs[i])⟩]
          rw [e3, List.map_append]; rfl
      · rintro H2 ⟨s2, hD2⟩
        have e4 : (ns.zip bs).take ns.length = ns.zip bs := List.take_of_length_le (by rw [List.length_zip]; omega)
        rw [e4] at hD2
        refine ⟨D, (ns.zip bs).map fun p => decide (p.2.1 ≤ p.1) && decide (p.1 ≤ p.2.2), rfl, SqL.of (by rw [hD2, List.map_map]; rfl), ?_⟩
        have e5 : inB ns bs = ((ns.zip bs).map fun p => decide (p.2.1 ≤ p.1) && decide (p.1 ≤ p.2.2)).all id := by
          unfold inB
          rw [decide_eq_true hl, List.all_map]; rfl
        have k := k H2 s2
        rw [e5] at k
        exact k
    · rw [decide_eq_false (show ¬ V.int (ns.length : Int) = V.int (bs.length : Int) from fun z => hl (by have := V.int.inj z; omega))]
      have e5 : inB ns bs = false := by unfold inB; rw [decide_eq_false hl]; rfl
      have k := k H (Same.refl H)
      rw [e5] at k
      exact k
end
end SH
set_option Elab.async false
set_option linter.all false
set_option maxRecDepth 100000
namespace SH
open PySem PySem.Spec PyProof.Rows L2 RZ
/-- a touch: down, up -/
inductive Tc where
  | down (f x y : Int) | up (f : Int)
def Tc.word : Tc → Str
  | .down .. => "down" | .up _ => "up"
def Tc.nums : Tc → List Int
  | .down f x y => [f, x, y] | .up f => [f]
def Tc.vals (c : Tc) : List V := .str c.word :: c.nums.map V.int
def Tc.bnds (wd hi : Int) : Tc → List (Int × Int)
  | .down .. => [(0, 4), (0, wd - 1), (0, hi - 1)] | .up _ => [(0, 4)]
def Tc.ok (c : Tc) (wd hi : Int) : Prop := inB c.nums (c.bnds wd hi) = true
abbrev sTB : Stmt := top 28
abbrev sIT : Stmt := top 29
section
variable {P : Program} {w : World} {K : PySem.W.Frag} {mg : Str → Option Value} {base : Heap}
theorem scTB : FnScope ["word", "wide", "high"] ["word", "wide", "high"] (defScope sTB) := ⟨rfl, rfl, rfl, by decide +kernel, rfl, by decide +kernel, by decide +kernel⟩
def spTB (K : PySem.W.Frag) : Sp := fun vs H Q _ => ∃ (c : Tc) (wd hi : Int), vs = [.str c.word, .int wd, .int hi] ∧ ∀ tb H', Same H H' → BH K H' tb (c.bnds wd hi) → Q (.ref tb) H'
theorem ok_tb {f : Addr} {fd : FuncData} (F : Fun K "touch_bounds" "touch_bounds" sTB f fd) (hF : ∃ t, mg "LAST_FINGER" = some (.int 4 t)) : FnOk P w K mg base CX0 1 f fd ["word", "wide", "high"] (spTB K) := by
  obtain ⟨tF, hLF⟩ := hF
  refine F.ok scTB (fun vs H Q E h => ?_) (fun cdv A0 outer s0 H vs Q E hr h => ?_)
  · obtain ⟨c, wd, hi, rfl, _⟩ := h
    rfl
  · obtain ⟨c, wd, hi, rfl, k⟩ := h
    have sm : ∀ {n : Nat}, n ≤ 1000 → n ≤ sizeLine := small
    refine ⟨_, (pss_cons (ps_if (pt_cmpR op_eq (pv 0) pe_str (nomark _)) (pss_one (ps_ret (pe_tup (pa_cons (pe_tup (pa_cons pe_int (pa_cons (pe_glob rfl hLF (v := .int 4) ⟨tF, rfl⟩) pa_nil))) pa_nil)))) pss_nil) (pss_cons (ps_if (PW.pt (pw_or (pt_cmpR op_eq (pv 0) pe_str (nomark _)) (pw_or1 (pt_cmpR op_eq (pv 0) pe_str (nomark _))))) (pss_one (ps_ret (pe_tup (pa_cons (pe_tup (pa_cons pe_int (pa_cons (pe_glob rfl hLF (v := .int 4) ⟨tF, rfl⟩) pa_nil))) (pa_cons (pe_tup (pa_cons pe_int (pa_cons (pe_op op_sub (pv 1) pe_int) pa_nil))) (pa_cons (pe_tup (pa_cons pe_int (pa_cons (pe_op op_sub (pv 2) pe_int) pa_nil))) pa_nil)))))) pss_nil) (pss_one (ps_ret pe_non)))), ?_⟩
    cases c with
    | up f =>
      refine ⟨_, rfl, rfl, _, rfl, ?_⟩
      rw [decide_eq_true (show V.str (Tc.up f).word = V.str "up" from rfl)]
      refine iteT ⟨sm (by show 2 ≤ 1000; decide), fun p hp => ⟨sm (by show 1 ≤ 1000; decide), fun q hq => ?_⟩⟩
      have s1 := Same.new (HO.tup [V.int 0, .int 4]) hp
      have s2 := Same.new (HO.tup [V.ref p]) hq
      exact k q _ (s1.trans s2) ⟨[p], SqT.of upd_same, .cons (SqT.of (s2 _ _ upd_same)) .nil⟩
    | down f x y =>
      refine ⟨_, rfl, rfl, _, rfl, ?_⟩
      rw [decide_eq_false (show ¬ V.str (Tc.down f x y).word = V.str "up" from fun z => absurd (show ("down" : Str) = "up" from V.str.inj z) (by decide +kernel))]
      refine iteF ?_
      refine ⟨_, rfl, rfl, _, rfl, ?_⟩
      rw [decide_eq_true (show V.str (Tc.down f x y).word = V.str "down" from rfl)]
      refine iteT ⟨sm (by show 2 ≤ 1000; decide), fun p hp => ⟨_, rfl, _, _, rfl, rfl, sm (by show 2 ≤ 1000; decide), fun p2 hp2 => ⟨_, rfl, _, _, rfl, rfl, sm (by show 2 ≤ 1000; decide), fun p3 hp3 => ⟨sm (by show 3 ≤ 1000; decide), fun q hq => ?_⟩⟩⟩⟩
      have s1 := Same.new (HO.tup [V.int 0, .int 4]) hp
      have s2 := Same.new (HO.tup [V.int 0, .int (wd - 1)]) hp2
      have s3 := Same.new (HO.tup [V.int 0, .int (hi - 1)]) hp3
      have s4 := Same.new (HO.tup [V.ref p, .ref p2, .ref p3]) hq
      exact k q _ (s1.trans (s2.trans (s3.trans s4))) ⟨[p, p2, p3], SqT.of upd_same, .cons (SqT.of ((s2.trans (s3.trans s4)) _ _ upd_same)) (.cons (SqT.of ((s3.trans s4) _ _ upd_same)) (.cons (SqT.of (s4 _ _ upd_same)) .nil))⟩
theorem scIT : FnScope ["what", "wide", "high", "bounds"] ["what", "wide", "high"] (defScope sIT) := ⟨rfl, rfl, rfl, by decide +kernel, rfl, by decide +kernel, by decide +kernel⟩
def spIT : Sp := fun vs H Q _ => ∃ (t : Addr) (c : Tc) (wd hi : Int), vs = [.ref t, .int wd, .int hi] ∧ H t = some (.tup c.vals) ∧ c.ok wd hi ∧ ∀ H', Same H H' → Q (.bl true) H'
theorem ok_it {f fA fB : Addr} {fd fdA fdB : FuncData} (F : Fun K "is_touch" "is_touch" sIT f fd) (T : TxtF K w mg)
    (GA : FnOk P w K mg base CX0 2 fA fdA ["numbers", "bounds"] (spAreH K)) (bA : Binds K fdA ["numbers", "bounds"] []) (gA : mg "are_within" = some (.ref fA)) (kA : PySem.W.keepIn K (.ref fA) = true)
    (GB : FnOk P w K mg base CX0 1 fB fdB ["word", "wide", "high"] (spTB K)) (bB : Binds K fdB ["word", "wide", "high"] []) (gB : mg "touch_bounds" = some (.ref fB)) (kB : PySem.W.keepIn K (.ref fB) = true) :
    FnOk P w K mg base CX0 3 f fd ["what", "wide", "high"] spIT := by
  refine F.ok scIT (fun vs H Q E h => ?_) (fun cdv A0 outer s0 H vs Q E hr h => ?_)
  · obtain ⟨t, c, wd, hi, rfl, _⟩ := h
    rfl
  · obtain ⟨t, c, wd, hi, rfl, ht, hc, k⟩ := h
    refine ⟨_, (pss_cons (ps_if (PW.pt (pw_or (pt_not (pt_val (pe_callB call_isi (by rfl) T.isinst (by decide +kernel) (pa_cons (pv 0) (pa_cons (pe_bltn (v := .ty "tuple") (by rfl) T.tuple (by decide +kernel) rfl) pa_nil))))) (pw_or1 (pt_cmpR op_eq (pe_callB call_len_seq (by rfl) T.len PySem.boot_len (pa_cons (pv 0) pa_nil)) pe_int (nomark _))))) (pss_one (ps_ret pe_bl)) pss_nil) (pss_cons (ps_set (i := 3) scIT.nd rfl (Or.inl rfl) (pe_call GB (hr.mono (by decide)) rfl gB kB bB .nil pass0 (pa_cons (pe_ix ix_tup (pv 0) pe_int (fun _ _ => rfl)) (pa_cons (pv 1) (pa_cons (pv 2) pa_nil))))) (pss_one (ps_ret (pe_and (pe_cmpR op_notN (pv 3) pe_non (nomark _)) (pe_one (pe_call GA hr rfl gA kA bA .nil pass0 (pa_cons (pe_slice sl_tup (pv 0) (po_some pe_int) po_none) (pa_cons (pv 3) pa_nil))))))))), ?_⟩
    have hcl : c.nums.length ≤ 3 := by cases c <;> simp [Tc.nums]
    refine ⟨_, rfl, _, _, _, _, true, rfl, by first | exact .ty _ | constructor, .base (.tup ht), kit_ty (by decide +kernel), _, rfl, iteF ?_⟩
    refine ⟨_, rfl, t, _, rfl, .inr (SqT.of ht), rfl, _, rfl, ?_⟩
    have e0 : decide (V.int ((c.vals.length : Nat) : Int) = V.int 0) = false := decide_eq_false (fun q => by have := V.int.inj q; unfold Tc.vals at this; simp at this; omega)
    rw [e0]
    refine iteF ?_
    refine ⟨_, rfl, _, _, _, V.str c.word, rfl, rfl, SqT.of ht, at_of (j := 0) rfl rfl, _, rfl, _, rfl, c, wd, hi, rfl, fun tb H1 s1 hb => ?_⟩
    refine ⟨_, rfl, rfl, _, rfl, iteT ?_⟩
    refine ⟨_, rfl, _, rfl, t, _, rfl, SqT.of (s1 _ _ ht), ?_, fun p hp => ?_⟩
    · intro q
      have := q.1
      revert this
      unfold Tc.vals
      simp [HT.sIx]
    · have s2 := Same.new (HO.tup (cutV c.vals (some 1) none)) hp
      refine ⟨_, rfl, p, tb, c.nums, c.bnds wd hi, rfl, ?_, by omega, ?_, fun H' s => ?_⟩
      · rw [upd_same]
        congr 2
        cases c <;> rfl
      · obtain ⟨ts, h1, h2⟩ := hb
        exact ⟨ts, h1.sm s2, Paired.mapP h2 fun _ _ e => e.sm s2⟩
      · rw [show inB c.nums (c.bnds wd hi) = true from hc]
        exact k H' (s1.trans (s2.trans s))
end
end SH
set_option Elab.async false
set_option linter.all false
set_option maxRecDepth 100000
namespace SH
open PySem PySem.Spec PyProof.Rows L2
def kpR (sp : Sp) : Sp := fun vs H Q E => sp vs H (fun v H' => KeepT H H' → Q v H') E
theorem keep_tQ {P : Program} {w : World} {K : PySem.W.Frag} {mg : Str → Option Value} {base : Heap} {CX : CXT} {k : Nat} {f : Addr} {sp : Sp} (F : FnR P w K mg base CX k f sp) : FnR P w K mg base CX k f (kpR sp) := fun A outer s H us vs Q E hr he hv hs => by
  refine codeAny_mono (F A outer s H us vs _ E hr he hv hs) fun r s' q => ?_
  cases r with
  | error e => exact q
  | ok fl =>
    cases fl with
    | ret u =>
      obtain ⟨v, H', e1, e2, un, e3, e4, e5⟩ := q
      exact ⟨v, H', e1, e2, un, e3, e4, e5 un.tups⟩
    | next => exact q
    | brk => exact q
    | cont => exact q
/-! many clients -/
abbrev Ps := List (CliH × List SurfR)
def pCells (CC CS CL : Addr) (p : CliH × List SurfR) : Cells := cliCells CC p.1 ++ allCells CS CL p.2
abbrev cliAll (CC CS CL : Addr) (ps : Ps) : Cells := ps.flatMap (pCells CC CS CL)
structure Loc (ps : Ps) (a : Addr) (j i : Nat) (c : CliH) (ss : List SurfR) (u : SurfR) : Prop where
  hj : ps[j]? = some (c, ss)
  hi : ss[i]? = some u
  ha : u.a = a
  ow : u.owner = c.a
def PsOk (ps : Ps) (n : Nat) : Prop := ∀ p ∈ ps, p.1.fallen = false ∧ p.1.notes.length ≤ n
theorem loc_has {CC CS CL : Addr} {H : Hp} {A B : Cells} {ps : Ps} {a : Addr} {j i : Nat} {c : CliH} {ss : List SurfR} {u : SurfR} (g : Has H (A ++ (cliAll CC CS CL ps ++ B))) (L : Loc ps a j i c ss u) :
    Has H ((A ++ (ps.take j).flatMap (pCells CC CS CL)) ++ (cliCells CC c ++ ((ss.take i).flatMap (surfCells CS CL) ++ (surfCells CS CL u ++ ((ss.drop (i + 1)).flatMap (surfCells CS CL) ++ ((ps.drop (j + 1)).flatMap (pCells CC CS CL) ++ B)))))) := by
  refine (g.out L.hj).re ?_
  congr 1
  show (cliCells CC c ++ allCells CS CL ss) ++ _ = _
  rw [show allCells CS CL ss = _ from split_at (g := surfCells CS CL) L.hi]
  simp [List.append_assoc]
theorem loc_back {CC CS CL : Addr} {H : Hp} {A B : Cells} {ps : Ps} {a : Addr} {j i : Nat} {c c' : CliH} {ss : List SurfR} {u : SurfR} (L : Loc ps a j i c ss u)
    (g : Has H ((A ++ (ps.take j).flatMap (pCells CC CS CL)) ++ (cliCells CC c' ++ ((ss.take i).flatMap (surfCells CS CL) ++ (surfCells CS CL u ++ ((ss.drop (i + 1)).flatMap (surfCells CS CL) ++ ((ps.drop (j + 1)).flatMap (pCells CC CS CL) ++ B))))))) :
    Has H (A ++ (cliAll CC CS CL (ps.set j (c', ss)) ++ B)) := by
  refine Has.back (g := pCells CC CS CL) (v := (c', ss)) L.hj (g.re ?_)
  congr 1
  show _ = (cliCells CC c' ++ allCells CS CL ss) ++ _
  rw [show allCells CS CL ss = _ from split_at (g := surfCells CS CL) L.hi]
  simp [List.append_assoc]
theorem loc_obj {CC CS CL : Addr} {H : Hp} {A B : Cells} {ps : Ps} {a : Addr} {j i : Nat} {c : CliH} {ss : List SurfR} {u : SurfR} (g : Has H (A ++ (cliAll CC CS CL ps ++ B))) (L : Loc ps a j i c ss u) : H a = some (u.obj CS) := by
  have := (loc_has g L).mem (p := u.a) (o := u.obj CS) (by
    refine List.mem_append_right _ (List.mem_append_right _ (List.mem_append_right _ (List.mem_append_left _ ?_)))
    exact List.mem_cons_self)
  rw [L.ha] at this; exact this
/-- what was heard -/
def Hears (H : Hp) (ps ps' : Ps) (ex : Nat → List (List V)) : Prop := ps'.length = ps.length ∧ ∀ (j : Nat) c ss, ps[j]? = some (c, ss) → ∃ ts, ps'[j]? = some ({ c with notes := c.notes ++ ts }, ss) ∧ Paired (fun (t : Addr) (vs : List V) => H t = some (.tup vs)) ts (ex j)
theorem Hears.refl (H : Hp) (ps : Ps) : Hears H ps ps fun _ => [] := ⟨rfl, fun j c ss e => ⟨[], by rw [List.append_nil]; exact e, .nil⟩⟩
theorem paired_cat {α β : Type} {R : α → β → Prop} {xs xs' : List α} {ys ys' : List β} (h : Paired R xs ys) (k : Paired R xs' ys') : Paired R (xs ++ xs') (ys ++ ys') := by
  induction h with
  | nil => exact k
  | cons r _ ih => exact .cons r ih
theorem Hears.trans {H H' : Hp} {ps ps' ps2 : Ps} {ex ex' : Nat → List (List V)} (a : Hears H ps ps' ex) (b : Hears H' ps' ps2 ex') (k : KeepT H H') : Hears H' ps ps2 fun j => ex j ++ ex' j := by
  refine ⟨b.1.trans a.1, fun j c ss e => ?_⟩
  obtain ⟨ts, e1, p1⟩ := a.2 j c ss e
  obtain ⟨us, e2, p2⟩ := b.2 j _ ss e1
  exact ⟨ts ++ us, by rw [e2, List.append_assoc], paired_cat (Paired.mapP p1 fun _ _ h => k _ _ h) p2⟩
theorem Hears.one {H : Hp} {ps : Ps} {a : Addr} {j i : Nat} {c : CliH} {ss : List SurfR} {u : SurfR} {t : Addr} {vs : List V} (L : Loc ps a j i c ss u) (ht : H t = some (.tup vs)) : Hears H ps (ps.set j ({ c with notes := c.notes ++ [t] }, ss)) fun j' => if j' = j then [vs] else [] := by
  refine ⟨by simp, fun j' c' ss' e => ?_⟩
  by_cases q : j' = j
  · subst q
    rw [L.hj] at e
    obtain ⟨rfl, rfl⟩ := Prod.mk.inj (Option.some.inj e)
    refine ⟨[t], ?_, ?_⟩
    · rw [List.getElem?_set_self (List.getElem?_eq_some_iff.mp L.hj).1]
    · show Paired _ _ (if j' = j' then [vs] else [])
      rw [if_pos rfl]; exact .cons ht .nil
  · refine ⟨[], ?_, ?_⟩
    · rw [List.getElem?_set_ne (Ne.symm q), e, List.append_nil]
    · show Paired _ _ (if j' = j then [vs] else [])
      rw [if_neg q]; exact .nil
theorem Hears.ok {H : Hp} {ps ps' : Ps} {ex : Nat → List (List V)} {n m : Nat} (h : Hears H ps ps' ex) (ok : PsOk ps n) (hm : ∀ j, (ex j).length ≤ m) : PsOk ps' (n + m) := by
  intro p hp
  obtain ⟨j, hj, q⟩ := List.getElem_of_mem hp
  have e' : ps'[j]? = some p := by rw [List.getElem?_eq_getElem hj, q]
  have hl : j < ps.length := by have := h.1; omega
  obtain ⟨ts, e1, p1⟩ := h.2 j _ _ (List.getElem?_eq_getElem hl)
  rw [e'] at e1
  have e1 := Option.some.inj e1
  have hk := ok ps[j] (List.getElem_mem hl)
  have hl2 := paired_len p1
  have hm' := hm j
  rw [e1]
  refine ⟨hk.1, ?_⟩
  show (ps[j].1.notes ++ ts).length ≤ n + m
  rw [List.length_append]
  have := hk.2
  omega
theorem Loc.hears {H : Hp} {ps ps' : Ps} {ex : Nat → List (List V)} {a : Addr} {j i : Nat} {c : CliH} {ss : List SurfR} {u : SurfR} (L : Loc ps a j i c ss u) (h : Hears H ps ps' ex) : ∃ c', Loc ps' a j i c' ss u := by
  obtain ⟨ts, e, _⟩ := h.2 j c ss L.hj
  exact ⟨_, e, L.hi, L.ha, L.ow⟩
def AtS (ps : Ps) (sa : Option Addr) (who : Option (Nat × SurfR)) : Prop := match sa, who with
  | none, none => True
  | some a, some w => ∃ i c ss, Loc ps a w.1 i c ss w.2
  | _, _ => False
theorem AtS.hears {H : Hp} {ps ps' : Ps} {ex : Nat → List (List V)} {sa : Option Addr} {who : Option (Nat × SurfR)} (h : AtS ps sa who) (e : Hears H ps ps' ex) : AtS ps' sa who := by
  cases sa with
  | none => cases who with
    | none => trivial
    | some w => exact h
  | some a => cases who with
    | none => exact h
    | some w =>
      obtain ⟨i, c, ss, L⟩ := h
      obtain ⟨c', L'⟩ := L.hears e
      exact ⟨i, c', ss, L'⟩
def exOf (who : Option (Nat × SurfR)) (f : SurfR → List V) : Nat → List (List V) := fun j' => match who with
  | none => []
  | some w => if j' = w.1 then [f w.2] else []
theorem exOf_len (who : Option (Nat × SurfR)) (f : SurfR → List V) (j : Nat) : (exOf who f j).length ≤ 1 := by
  unfold exOf
  cases who with
  | none => exact Nat.zero_le _
  | some w => by_cases e : j = w.1 <;> simp [e]
theorem let_at {CC CS CL : Addr} {H : Hp} {A B : Cells} {ps : Ps} {a : Addr} {j i : Nat} {c : CliH} {ss : List SurfR} {u : SurfR} {x : Str} {ns : List V} {Q : VK} {E : XK} {n : Nat} (g : Has H (A ++ (cliAll CC CS CL ps ++ B))) (L : Loc ps a j i c ss u) (ok : PsOk ps n) (hn : n < 100000) (hl : ns.length ≤ 10)
    (k : ∀ ps' H', KeepT H H' → Hears H' ps ps' (fun j' => if j' = j then [.str x :: .int u.name :: ns] else []) → Has H' (A ++ (cliAll CC CS CL ps' ++ B)) → Q .non H') : kpR (spSLet CC CS CL) (.ref a :: .str x :: ns) H Q E := by
  have hc := ok _ (List.mem_of_getElem? L.hj)
  refine ⟨_, _, _, c, u, x, ns, by rw [L.ha], loc_has g L, L.ow, hl, Nat.lt_of_le_of_lt hc.2 hn, fun t H' ht g' kt => ?_⟩
  have eh : c.heard t = { c with notes := c.notes ++ [t] } := by
    unfold CliH.heard
    rw [if_neg (by rw [hc.1]; exact Bool.false_ne_true)]
  rw [eh] at g'
  exact k _ H' kt (Hears.one L ht) (loc_back L g')
def fgK (fing : List (Int × Option Addr)) : List (Key × V) := fing.map fun p => ((Sum.inl p.1 : Key), oref p.2)
structure HandH where
  a : Addr
  dx : Addr
  fa : Addr
def handCells (CD : Addr) (h : HandH) (foc : Option Addr) (fing : List (Int × Option Addr)) : Cells := [(h.a, .ins CD h.dx (handsF h.fa (oref foc) .non)), (h.fa, .dK (fgK fing))]
abbrev HW (CD CC CS CL : Addr) (H : Hp) (A : Cells) (h : HandH) (foc : Option Addr) (fing : List (Int × Option Addr)) (ps : Ps) (B : Cells) : Prop := Has H ((A ++ handCells CD h foc fing) ++ (cliAll CC CS CL ps ++ B))
theorem hw_h {CD CC CS CL : Addr} {H : Hp} {A B : Cells} {h : HandH} {foc : Option Addr} {fing : List (Int × Option Addr)} {ps : Ps} (g : HW CD CC CS CL H A h foc fing ps B) : H h.a = some (.ins CD h.dx (handsF h.fa (oref foc) .non)) ∧ H h.fa = some (.dK (fgK fing)) :=
  ⟨g.assoc.get 0 rfl, g.assoc.get 1 rfl⟩
abbrev sHaRep : Stmt := inClass (top 31) 3
abbrev sHaLift : Stmt := inClass (top 31) 4
abbrev sHaTurn : Stmt := inClass (top 31) 5
abbrev sHaPut : Stmt := inClass (top 31) 2
abbrev sHaDown : Stmt := inClass (top 31) 1
section
variable {P : Program} {w : World} {K : PySem.W.Frag} {mg : Str → Option Value} {base : Heap}
theorem scRep4 : FnScope ["self", "word", "finger", "x", "y", "surface"] ["self", "word", "finger", "x", "y"] (defScope sHaRep) := ⟨rfl, rfl, rfl, by decide +kernel, rfl, by decide +kernel, by decide +kernel⟩
def spHaRep (CD CC CS CL : Addr) : Sp := fun vs H Q _ => ∃ (A B : Cells) (h : HandH) (foc : Option Addr) (fing : List (Int × Option Addr)) (ps : Ps) (n : Nat) (x : Str) (f px py : Int) (sa : Option Addr) (who : Option (Nat × SurfR)),
  vs = [.ref h.a, .str x, .int f, .int px, .int py] ∧ HW CD CC CS CL H A h foc fing ps B ∧ PsOk ps n ∧ n < 100000 ∧ valV (fgK fing) (Sum.inl f : Key) = some (oref sa) ∧ AtS ps sa who ∧
  ∀ ps' H', Hears H' ps ps' (exOf who fun u => [.str x, .int u.name, .int f, .int (px - u.lx), .int (py - u.ly)]) → HW CD CC CS CL H' A h foc fing ps' B → Q .non H'
theorem ok_harep {f CD CC CS CL fL : Addr} {fd : FuncData} (F : Fun K "report" "Hands.report" sHaRep f fd) (TD : TxtD K mg CD) (TS : TxtS K mg CS) (GL0 : FnR P w K mg base CX0 2 fL (spSLet CC CS CL)) (mL : Meth K CS "let_hear" fL) :
    FnOk P w K mg base CX0 3 f fd ["self", "word", "finger", "x", "y"] (spHaRep CD CC CS CL) := by
  have GL := keep_tQ GL0
  refine F.ok scRep4 (fun vs H Q E h => ?_) (fun cdv A0 outer s0 H vs Q E hr h => ?_)
  · obtain ⟨A, B, h, foc, fing, ps, n, x, f, px, py, sa, who, rfl, _⟩ := h
    rfl
  · obtain ⟨A, B, h, foc, fing, ps, n, x, f, px, py, sa, who, rfl, g, ok, hn, hf, hat, k⟩ := h
    have hu := hu_of hr
    refine ⟨_, (pss_cons (ps_set (i := 5) scRep4.nd rfl (Or.inl rfl) (pe_dget hu (pe_fld (pv 0) rfl) (pv 2) (fun _ _ => rfl))) (pss_one (ps_if (pt_cmpR op_notN (pv 5) pe_non (nomark _)) (pss_one (ps_expr (pe_methR (pv 5) TS.cl mL GL hr pass0 (pa_cons (pv 1) (pa_cons (pv 2) (pa_cons (pe_op op_sub (pv 3) (pe_fld (pv 5) rfl)) (pa_cons (pe_op op_sub (pv 4) (pe_fld (pv 5) rfl)) pa_nil))))))) pss_nil))), ?_⟩
    obtain ⟨h1, h2⟩ := hw_h g
    refine ⟨_, rfl, h.a, CD, _, _, _, rfl, h1, TD.cl, TD.nfingers, handsF_fingers, _, rfl, h.fa, oref sa, rfl, ?_, ?_⟩
    · have := DGet.k (k := (Sum.inl f : Key)) h2
      rw [hf] at this; exact this
    cases sa with
    | none =>
      cases who with
      | some w => exact (show False from hat).elim
      | none =>
        refine ⟨_, rfl, rfl, _, rfl, iteF ?_⟩
        exact k ps H (Hears.refl H ps) g
    | some a =>
      cases who with
      | none => exact (show False from hat).elim
      | some wh =>
        obtain ⟨i, c, ss, L⟩ := hat
        have ho := loc_obj g L
        refine ⟨_, rfl, rfl, _, rfl, iteT ?_⟩
        refine ⟨_, rfl, a, _, _, rfl, ho, by kernel_rfl, _, rfl, _, rfl, _, rfl, _, rfl, a, CS, _, _, _, rfl, ho, TS.cl, TS.nlx, surfF_laid_x, _, _, rfl, rfl, _, rfl, _, rfl, a, CS, _, _, _, rfl, ho, TS.cl, TS.nly, surfF_laid_y, _, _, rfl, rfl, ?_⟩
        refine let_at g L ok hn (by simp) fun ps' H' kt hh g' => ?_
        exact k ps' H' hh g'
theorem scLift : FnScope ["self", "finger", "surface"] ["self", "finger"] (defScope sHaLift) := ⟨rfl, rfl, rfl, by decide +kernel, rfl, by decide +kernel, by decide +kernel⟩
def spHaLift (CD CC CS CL : Addr) : Sp := fun vs H Q _ => ∃ (A B : Cells) (h : HandH) (foc : Option Addr) (ps : Ps) (n : Nat) (f : Int) (sa : Option Addr) (who : Option (Nat × SurfR)),
  vs = [.ref h.a, .int f] ∧ HW CD CC CS CL H A h foc [(f, sa)] ps B ∧ PsOk ps n ∧ n < 100000 ∧ AtS ps sa who ∧
  ∀ ps' H', Hears H' ps ps' (exOf who fun u => [.str "up", .int u.name, .int f]) → HW CD CC CS CL H' A h foc [] ps' B → Q .non H'
theorem ok_halift {f CD CC CS CL fL : Addr} {fd : FuncData} (F : Fun K "lift" "Hands.lift" sHaLift f fd) (TD : TxtD K mg CD) (TS : TxtS K mg CS) (GL0 : FnR P w K mg base CX0 2 fL (spSLet CC CS CL)) (mL : Meth K CS "let_hear" fL) :
    FnOk P w K mg base CX0 3 f fd ["self", "finger"] (spHaLift CD CC CS CL) := by
  have GL := keep_tQ GL0
  refine F.ok scLift (fun vs H Q E h => ?_) (fun cdv A0 outer s0 H vs Q E hr h => ?_)
  · obtain ⟨A, B, h, foc, ps, n, f, sa, who, rfl, _⟩ := h
    rfl
  · obtain ⟨A, B, h, foc, ps, n, f, sa, who, rfl, g, ok, hn, hat, k⟩ := h
    refine ⟨_, (pss_cons (ps_set (i := 2) scLift.nd rfl (Or.inl rfl) (pe_dpop1 (pe_fld (pv 0) rfl) (pv 1) ⟨rfl, rfl, rfl, rfl⟩)) (pss_one (ps_if (pt_cmpR op_notN (pv 2) pe_non (nomark _)) (pss_one (ps_expr (pe_methR (pv 2) TS.cl mL GL hr pass0 (pa_cons pe_str (pa_cons (pv 1) pa_nil))))) pss_nil))), ?_⟩
    obtain ⟨h1, h2⟩ := hw_h g
    have hv : valV (fgK [(f, sa)]) (Sum.inl f : Key) = some (oref sa) := valV_pos rfl
    have hd : dropK (fgK [(f, sa)]) (Sum.inl f : Key) = fgK [] := by unfold dropK fgK; simp
    refine ⟨_, rfl, h.a, CD, _, _, _, rfl, h1, TD.cl, TD.nfingers, handsF_fingers, h.fa, rfl, .inl ⟨_, .inl h2⟩, _, rfl, _, (Sum.inl f : Key), oref sa, h2, rfl, hv, ?_⟩
    rw [hd]
    have g2 : HW CD CC CS CL (upd H h.fa (.dK (fgK []))) A h foc [] ps B := (g.assoc.set 1 (p := h.fa) (o := .dK (fgK [(f, sa)])) rfl (.dK (fgK []))).unassoc
    cases sa with
    | none =>
      cases who with
      | some w => exact (show False from hat).elim
      | none =>
        refine ⟨_, rfl, rfl, _, rfl, iteF ?_⟩
        exact k ps _ (Hears.refl _ ps) g2
    | some a =>
      cases who with
      | none => exact (show False from hat).elim
      | some wh =>
        obtain ⟨i, c, ss, L⟩ := hat
        have ho := loc_obj g2 L
        refine ⟨_, rfl, rfl, _, rfl, iteT ?_⟩
        refine ⟨_, rfl, a, _, _, rfl, ho, by kernel_rfl, _, rfl, ?_⟩
        refine let_at g2 L ok hn (by simp) fun ps' H' kt hh g' => ?_
        exact k ps' H' hh g'
end
end SH
set_option Elab.async false
set_option linter.all false
set_option maxRecDepth 100000
namespace SH
open PySem PySem.Spec PyProof.Rows L2
def NoDown (ex : Nat → List (List V)) : Prop := ∀ j, ∀ v ∈ ex j, ∃ x r, v = V.str x :: r ∧ x ≠ "down"
theorem exOf_no {who : Option (Nat × SurfR)} {x : Str} {r : SurfR → List V} (h : x ≠ "down") : NoDown (exOf who fun u => .str x :: r u) := by
  intro j v hv
  unfold exOf at hv
  cases who with
  | none => cases hv
  | some w =>
    by_cases e : j = w.1
    · simp only [e, if_true] at hv
      rw [List.mem_singleton.mp hv]; exact ⟨x, _, rfl, h⟩
    · simp only [e, if_false] at hv; cases hv
theorem NoDown.app {a b : Nat → List (List V)} (h : NoDown a) (k : NoDown b) : NoDown fun j => a j ++ b j := fun j v hv => by
  rcases List.mem_append.mp hv with q | q
  · exact h j v q
  · exact k j v q
section
variable {P : Program} {w : World} {K : PySem.W.Frag} {mg : Str → Option Value} {base : Heap}
theorem scTurn : FnScope ["self", "surface"] ["self", "surface"] (defScope sHaTurn) := ⟨rfl, rfl, rfl, by decide +kernel, rfl, by decide +kernel, by decide +kernel⟩
def spHaTurn (CD CC CS CL : Addr) : Sp := fun vs H Q _ => ∃ (A B : Cells) (h : HandH) (foc : Option Addr) (fing : List (Int × Option Addr)) (ps : Ps) (n : Nat) (sa : Option Addr) (who whoF : Option (Nat × SurfR)),
  vs = [.ref h.a, oref sa] ∧ HW CD CC CS CL H A h foc fing ps B ∧ PsOk ps n ∧ n + 2 < 100000 ∧ AtS ps sa who ∧ AtS ps foc whoF ∧
  ∀ ex ps' H', NoDown ex → (∀ j, (ex j).length ≤ 2) → Hears H' ps ps' ex → HW CD CC CS CL H' A h sa fing ps' B → Q .non H'
theorem oref_ins {CC CS CL : Addr} {H : Hp} {A B : Cells} {ps : Ps} (g : Has H (A ++ (cliAll CC CS CL ps ++ B))) {sa : Option Addr} {who : Option (Nat × SurfR)} (h : AtS ps sa who) : ∀ p, sa = some p → ∃ dx fs, H p = some (.ins CS dx fs) := by
  rintro p rfl
  cases who with
  | none => exact (show False from h).elim
  | some w =>
    obtain ⟨i, c, ss, L⟩ := h
    exact ⟨_, _, loc_obj g L⟩
theorem tstr1 {x : Str} {σ : L2.St} {H : Hp} {Q : List V → Hp → Prop} (h : Q [.str x] H) : tCons (tC (.str x)) tNil σ H Q := h
theorem ok_haturn {f CD CC CS CL fL : Addr} {fd : FuncData} (F : Fun K "turn_focus" "Hands.turn_focus" sHaTurn f fd) (TD : TxtD K mg CD) (TS : TxtS K mg CS) (ID : IdEq K CS) (GL0 : FnR P w K mg base CX0 2 fL (spSLet CC CS CL)) (mL : Meth K CS "let_hear" fL) :
    FnOk P w K mg base CX0 3 f fd ["self", "surface"] (spHaTurn CD CC CS CL) := by
  have GL := keep_tQ GL0
  refine F.ok scTurn (fun vs H Q E h => ?_) (fun cdv A0 outer s0 H vs Q E hr h => ?_)
  · obtain ⟨A, B, h, foc, fing, ps, n, sa, who, whoF, rfl, _⟩ := h
    rfl
  · obtain ⟨A, B, h, foc, fing, ps, n, sa, who, whoF, rfl, g, ok, hn, hat, haf, k⟩ := h
    refine ⟨_, (pss_cons (ps_if (pt_cmpR (op_eqI (Nat.lt_of_le_of_lt (Nat.le_add_right _ _) hr.units)) (pv 1) (pe_fld (pv 0) rfl) (nomark _)) (pss_one ps_retN) pss_nil) (pss_cons (ps_if (pt_cmpR op_notN (pe_fld (pv 0) rfl) pe_non (nomark _)) (pss_one (ps_expr (pe_methR (pe_fld (pv 0) rfl) TS.cl mL GL hr pass0 (pa_cons pe_str pa_nil)))) pss_nil) (pss_cons (ps_if (pt_cmpR op_notN (pv 1) pe_non (nomark _)) (pss_one (ps_expr (pe_methR (pv 1) TS.cl mL GL hr pass0 (pa_cons pe_str pa_nil)))) pss_nil) (pss_one (ps_fld (pv 0) (pv 1) rfl))))), ?_⟩
    obtain ⟨h1, h2⟩ := hw_h g
    refine ⟨_, rfl, _, rfl, h.a, CD, _, _, _, rfl, h1, TD.cl, TD.nfocus, handsF_focus, CS, sa, foc, rfl, rfl, ID, oref_ins g hat, oref_ins g haf, _, rfl, ?_⟩
    by_cases c : sa = foc
    · rw [decide_eq_true c]
      refine iteT ?_
      exact k (fun _ => []) ps H (fun _ _ h => (by cases h)) (fun _ => Nat.zero_le _) (Hears.refl H ps) (by rw [c]; exact g)
    rw [decide_eq_false c]
    refine iteF ?_
    have fin : ∀ (ps1 ps2 : Ps) (ex1 ex2 : Nat → List (List V)) (H1 H2 : Hp), Hears H1 ps ps1 ex1 → NoDown ex1 → (∀ j, (ex1 j).length ≤ 1) → KeepT H1 H2 → Hears H2 ps1 ps2 ex2 → NoDown ex2 → (∀ j, (ex2 j).length ≤ 1) → HW CD CC CS CL H2 A h foc fing ps2 B →
        ∃ v, oref sa = v ∧ H2 h.a = some (.ins CD h.dx (handsF h.fa (oref foc) .non)) ∧ Q .non (upd H2 h.a (.ins CD h.dx (handsF h.fa v .non))) := by
      intro ps1 ps2 ex1 ex2 H1 H2 a1 n1 l1 kt a2 n2 l2 g2
      refine ⟨_, rfl, (hw_h g2).1, ?_⟩
      have g3 : HW CD CC CS CL (upd H2 h.a (.ins CD h.dx (handsF h.fa (oref sa) .non))) A h sa fing ps2 B := (g2.assoc.set 0 (p := h.a) (o := .ins CD h.dx (handsF h.fa (oref foc) .non)) rfl (.ins CD h.dx (handsF h.fa (oref sa) .non))).unassoc
      have kt3 : KeepT H2 (upd H2 h.a (.ins CD h.dx (handsF h.fa (oref sa) .non))) := KeepT.wr (hw_h g2).1 _
      have a3 := a1.trans a2 kt
      refine k _ ps2 _ (n1.app n2) (fun j => ?_) ⟨a3.1, fun j c ss e => ?_⟩ g3
      · have := l1 j; have := l2 j
        show (ex1 j ++ ex2 j).length ≤ 2
        rw [List.length_append]; omega
      · obtain ⟨ts, e1, p1⟩ := a3.2 j c ss e
        exact ⟨ts, e1, Paired.mapP p1 fun _ _ q => kt3 _ _ q⟩
    refine ⟨_, rfl, h.a, CD, _, _, _, rfl, h1, TD.cl, TD.nfocus, handsF_focus, rfl, _, rfl, ?_⟩
    have lone : ∀ (q : Nat) (v : List V) (j : Nat), (if j = q then [v] else []).length ≤ 1 := fun q v j => by by_cases e : j = q <;> simp [e]
    have none1 : ∀ (q : Nat) (x : Str) (r : List V), x ≠ "down" → NoDown (fun j => if j = q then [V.str x :: r] else []) := fun q x r hx j v hv => by
      by_cases e : j = q
      · simp only [e, if_true] at hv
        rw [List.mem_singleton.mp hv]; exact ⟨x, r, rfl, hx⟩
      · simp only [e, if_false] at hv; cases hv
    cases foc with
    | none =>
      refine iteF ?_
      cases sa with
      | none => exact absurd rfl c
      | some a =>
        cases who with
        | none => exact (show False from hat).elim
        | some wh =>
          obtain ⟨i, c1, ss, L⟩ := id hat
          refine ⟨_, rfl, rfl, _, rfl, iteT ?_⟩
          refine ⟨_, rfl, a, _, _, rfl, loc_obj g L, by kernel_rfl, ?_⟩
          refine tstr1 ?_
          refine let_at (ns := []) g L ok (by omega) (Nat.zero_le _) fun ps2 H2 kt a2 g2 => ?_
          obtain ⟨v, e1, e2, e3⟩ := fin ps ps2 (fun _ => []) _ H H2 (Hears.refl H ps) (fun _ _ h => (by cases h)) (fun _ => Nat.zero_le _) kt a2 (none1 _ _ _ (by decide +kernel)) (lone _ _) g2
          subst e1
          exact ⟨_, rfl, _, rfl, h.a, CD, h.dx, _, rfl, e2, TD.cl, TD.nfocus, handsF_few, by rw [handsF_pfocus]; exact e3⟩
    | some b =>
      cases whoF with
      | none => exact (show False from haf).elim
      | some wf =>
        obtain ⟨i, c1, ss, L⟩ := id haf
        refine iteT ?_
        refine ⟨_, rfl, h.a, CD, _, _, _, rfl, h1, TD.cl, TD.nfocus, handsF_focus, b, _, _, rfl, loc_obj g L, by kernel_rfl, ?_⟩
        refine tstr1 ?_
        refine let_at (ns := []) g L ok (by omega) (Nat.zero_le _) fun ps1 H1 kt1 a1 g1 => ?_
        cases sa with
        | none =>
          refine ⟨_, rfl, rfl, _, rfl, iteF ?_⟩
          obtain ⟨v, e1, e2, e3⟩ := fin ps1 ps1 _ (fun _ => []) H1 H1 a1 (none1 _ _ _ (by decide +kernel)) (lone _ _) (KeepT.refl H1) (Hears.refl H1 ps1) (fun _ _ h => (by cases h)) (fun _ => Nat.zero_le _) g1
          subst e1
          exact ⟨_, rfl, _, rfl, h.a, CD, h.dx, _, rfl, e2, TD.cl, TD.nfocus, handsF_few, by rw [handsF_pfocus]; exact e3⟩
        | some a =>
          cases who with
          | none => exact (show False from hat).elim
          | some wh =>
            have hat1 := hat.hears a1
            obtain ⟨i2, c2, ss2, L2⟩ := hat1
            refine ⟨_, rfl, rfl, _, rfl, iteT ?_⟩
            refine ⟨_, rfl, a, _, _, rfl, loc_obj g1 L2, by kernel_rfl, ?_⟩
            refine tstr1 ?_
            refine let_at (ns := []) g1 L2 (a1.ok ok (lone _ _)) (by omega) (Nat.zero_le _) fun ps2 H2 kt a2 g2 => ?_
            obtain ⟨v, e1, e2, e3⟩ := fin ps1 ps2 _ _ H1 H2 a1 (none1 _ _ _ (by decide +kernel)) (lone _ _) kt a2 (none1 _ _ _ (by decide +kernel)) (lone _ _) g2
            subst e1
            exact ⟨_, rfl, _, rfl, h.a, CD, h.dx, _, rfl, e2, TD.cl, TD.nfocus, handsF_few, by rw [handsF_pfocus]; exact e3⟩
theorem scPut : FnScope ["self", "finger", "seen", "x", "y"] ["self", "finger", "seen", "x", "y"] (defScope sHaPut) := ⟨rfl, rfl, rfl, by decide +kernel, rfl, by decide +kernel, by decide +kernel⟩
def spHaPut (CD CC CS CL : Addr) : Sp := fun vs H Q _ => ∃ (A B : Cells) (h : HandH) (foc : Option Addr) (ps : Ps) (n : Nat) (f px py : Int) (sa : Option Addr) (who whoF : Option (Nat × SurfR)),
  vs = [.ref h.a, .int f, oref sa, .int px, .int py] ∧ HW CD CC CS CL H A h foc [] ps B ∧ PsOk ps n ∧ n + 3 < 100000 ∧ AtS ps sa who ∧ AtS ps foc whoF ∧
  ∀ ex ps' H', NoDown ex → (∀ j, (ex j).length ≤ 2) → Hears H' ps ps' (fun j => ex j ++ exOf who (fun u => [.str "down", .int u.name, .int f, .int (px - u.lx), .int (py - u.ly)]) j) → HW CD CC CS CL H' A h sa [(f, sa)] ps' B → Q .non H'
theorem ok_haput {f CD CC CS CL fT fR : Addr} {fd fdT fdR : FuncData} (F : Fun K "put_down" "Hands.put_down" sHaPut f fd) (TD : TxtD K mg CD)
    (GT0 : FnOk P w K mg base CX0 3 fT fdT ["self", "surface"] (spHaTurn CD CC CS CL)) (bT : Binds K fdT ["self", "surface"] []) (mT : Meth K CD "turn_focus" fT)
    (GR0 : FnOk P w K mg base CX0 3 fR fdR ["self", "word", "finger", "x", "y"] (spHaRep CD CC CS CL)) (bR : Binds K fdR ["self", "word", "finger", "x", "y"] []) (mR : Meth K CD "report" fR) :
    FnOk P w K mg base CX0 4 f fd ["self", "finger", "seen", "x", "y"] (spHaPut CD CC CS CL) := by
  have GT := keep_t GT0
  have GR := keep_t GR0
  refine F.ok scPut (fun vs H Q E h => ?_) (fun cdv A0 outer s0 H vs Q E hr h => ?_)
  · obtain ⟨A, B, h, foc, ps, n, f, px, py, sa, who, whoF, rfl, _⟩ := h
    rfl
  · obtain ⟨A, B, h, foc, ps, n, f, px, py, sa, who, whoF, rfl, g, ok, hn, hat, haf, k⟩ := h
    have hu := hu_of hr
    refine ⟨_, (pss_cons (ps_if (pt_cmpR op_isN (pe_fld (pv 0) rfl) pe_non (nomark _)) (pss_cons (ps_expr (pe_meth (pv 0) TD.cl mT GT (hr.mono (by decide)) bT .nil pass0 (pa_cons (pv 2) pa_nil))) (pss_one (ps_dput hu (pe_fld (pv 0) rfl) (pv 1) (pv 2) rfl))) pss_never) (pss_one (ps_expr (pe_meth (pv 0) TD.cl mR GR (hr.mono (by decide)) bR .nil pass0 (pa_cons pe_str (pa_cons (pv 1) (pa_cons (pv 3) (pa_cons (pv 4) pa_nil)))))))), ?_⟩
    obtain ⟨h1, h2⟩ := hw_h g
    refine ⟨_, rfl, h.a, CD, _, _, _, rfl, h1, TD.cl, TD.nholder, handsF_holder, rfl, _, rfl, ?_⟩
    refine iteT ?_
    refine ⟨_, rfl, h.a, _, _, rfl, h1, by kernel_rfl, _, rfl, A, B, h, foc, [], ps, n, sa, who, whoF, rfl, g, ok, by omega, hat, haf, fun ex ps1 H1 nd l1 a1 g1 k1 => ?_⟩
    obtain ⟨h11, h12⟩ := hw_h g1
    refine ⟨_, rfl, _, rfl, h.a, CD, _, _, _, rfl, h11, TD.cl, TD.nfingers, handsF_fingers, _, rfl, h.fa, _, rfl, DPut.k (k := (Sum.inl f : Key)) h12 (by show 0 < sizeLine; exact small1000 (by decide)), ?_⟩
    have ek : putK (fgK []) (Sum.inl f : Key) (oref sa) = fgK [(f, sa)] := rfl
    rw [ek]
    have g2 : HW CD CC CS CL (upd H1 h.fa (.dK (fgK [(f, sa)]))) A h sa [(f, sa)] ps1 B := (g1.assoc.set 1 (p := h.fa) (o := .dK (fgK [])) rfl (.dK (fgK [(f, sa)]))).unassoc
    have kt2 : KeepT H1 (upd H1 h.fa (.dK (fgK [(f, sa)]))) := upd_tup fun xs e => by rw [h12] at e; cases e
    obtain ⟨h21, h22⟩ := hw_h g2
    refine ⟨_, rfl, h.a, _, _, rfl, h21, by kernel_rfl, _, rfl, _, rfl, _, rfl, A, B, h, sa, [(f, sa)], ps1, n + 2, "down", f, px, py, sa, who, rfl, g2, a1.ok ok l1, by omega, valV_pos rfl, hat.hears a1, fun ps2 H2 a2 g3 k3 => ?_⟩
    exact k ex ps2 H2 nd l1 (a1.trans a2 (kt2.trans k3)) g3
theorem scDown : FnScope ["self", "finger"] ["self", "finger"] (defScope sHaDown) := ⟨rfl, rfl, rfl, by decide +kernel, rfl, by decide +kernel, by decide +kernel⟩
def spHaDown (CD : Addr) : Sp := fun vs H Q _ => ∃ (h : HandH) (foc : V) (fing : List (Int × Option Addr)) (f : Int), vs = [.ref h.a, .int f] ∧ H h.a = some (.ins CD h.dx (handsF h.fa foc .non)) ∧ H h.fa = some (.dK (fgK fing)) ∧ Q (.bl (valV (fgK fing) (Sum.inl f : Key)).isSome) H
theorem ok_hadown {f CD : Addr} {fd : FuncData} (F : Fun K "is_down" "Hands.is_down" sHaDown f fd) (TD : TxtD K mg CD) : FnOk P w K mg base CX0 1 f fd ["self", "finger"] (spHaDown CD) := by
  refine F.ok scDown (fun vs H Q E h => ?_) (fun cdv A0 outer s0 H vs Q E hr h => ?_)
  · obtain ⟨h, foc, fing, f, rfl, _⟩ := h
    rfl
  · obtain ⟨h, foc, fing, f, rfl, h1, h2, k⟩ := h
    have hu := hu_of hr
    refine ⟨_, (pss_one (ps_ret (pe_cmp (pc_din hu (pv 1) (pe_fld (pv 0) rfl)) rfl))), ?_⟩
    exact ⟨_, rfl, _, rfl, h.a, CD, _, _, _, rfl, h1, TD.cl, TD.nfingers, handsF_fingers, h.fa, _, rfl, DGet.k (k := (Sum.inl f : Key)) h2, k⟩
abbrev sNSeen : Stmt := inClass (top 37) 4
theorem scSeen : FnScope ["self", "x", "y", "surface"] ["self", "x", "y"] (defScope sNSeen) := ⟨rfl, rfl, rfl, by decide +kernel, rfl, by decide +kernel, by decide +kernel⟩
def spNSeen (CN CS : Addr) : Sp := fun vs H Q _ => ∃ (s : ScrH) (px py : Int) (r : Addr × List V) (sa : Option Addr), vs = [.ref s.a, .int px, .int py] ∧ H s.a = some (.ins CN s.dx (screenF s.wide s.high s.ma s.so)) ∧ H s.so = some (.lst (s.srows.map fun r => V.ref r.1)) ∧ 0 ≤ px ∧ 0 ≤ py ∧
  s.srows[py.toNat]? = some r ∧ H r.1 = some (.lst r.2) ∧ r.2[px.toNat]? = some (oref sa) ∧ (∀ a, sa = some a → ∃ u : SurfR, u.a = a ∧ H a = some (u.obj CS) ∧ u.there = true) ∧ Q (oref sa) H
theorem ok_nseen {f CN CS : Addr} {fd : FuncData} (F : Fun K "seen_at" "Screen.seen_at" sNSeen f fd) (TN : TxtN K mg CN) (TS : TxtS K mg CS) : FnOk P w K mg base CX0 1 f fd ["self", "x", "y"] (spNSeen CN CS) := by
  refine F.ok scSeen (fun vs H Q E h => ?_) (fun cdv A0 outer s0 H vs Q E hr h => ?_)
  · obtain ⟨s, px, py, r, sa, rfl, _⟩ := h
    rfl
  · obtain ⟨s, px, py, r, sa, rfl, h1, h2, x0, y0, e1, h3, e2, hs, k⟩ := h
    refine ⟨_, (pss_cons (ps_set (i := 3) scSeen.nd rfl (Or.inl rfl) (pe_ix ix_list (pe_ix ix_list (pe_fld (pv 0) rfl) (pv 2) (fun _ _ => rfl)) (pv 1) (fun _ _ => rfl))) (pss_cons (ps_if (PW.pt (pw_or (pt_cmpR op_isN (pv 3) pe_non (nomark _)) (pw_or1 (pt_not (pt_val (pe_fld (pv 3) rfl)))))) (pss_one (ps_ret pe_non)) pss_nil) (pss_one (ps_ret (pv 3))))), ?_⟩
    refine ⟨_, rfl, s.a, CN, _, _, _, rfl, h1, TN.cl, TN.nsources, screenF_sources, _, rfl, _, _, _, V.ref r.1, rfl, rfl, SqL.of h2, at_of (j := py.toNat) (by omega) (by rw [List.getElem?_map, e1]; rfl), _, rfl, _, _, _, oref sa, rfl, rfl, SqL.of h3, at_of (j := px.toNat) (by omega) e2, ?_⟩
    cases sa with
    | none =>
      refine ⟨_, rfl, rfl, _, rfl, iteT ?_⟩
      exact k
    | some a =>
      obtain ⟨u, rfl, ho, ht⟩ := hs a rfl
      refine ⟨_, rfl, rfl, _, rfl, iteF ?_⟩
      refine ⟨_, rfl, u.a, CS, _, _, _, rfl, ho, TS.cl, TS.nthere, surfF_there, _, rfl, ?_⟩
      rw [ht]
      exact iteF ⟨_, rfl, k⟩
end
end SH
set_option Elab.async false
set_option linter.all false
set_option maxRecDepth 100000
namespace SH
open PySem PySem.Spec PyProof.Rows L2
abbrev sHTake : Stmt := inClass (top 39) 4
abbrev sHHeard : Stmt := inClass (top 39) 11
abbrev MH (CH CD CC CS CL : Addr) (H : Hp) (A : Cells) (h : HouH) (ps : Ps) (B : Cells) : Prop := Has H (A ++ (houCells CH CD h ++ (cliAll CC CS CL ps ++ B)))
abbrev mhA (CH CD CC CS CL : Addr) (A : Cells) (h : HouH) (ps : Ps) (j : Nat) : Cells := (A ++ houCells CH CD h) ++ (ps.take j).flatMap (pCells CC CS CL)
abbrev mhB (CC CS CL : Addr) (ps : Ps) (B : Cells) (j : Nat) : Cells := (ps.drop (j + 1)).flatMap (pCells CC CS CL) ++ B
theorem mh_out {CH CD CC CS CL : Addr} {H : Hp} {A B : Cells} {h : HouH} {ps : Ps} {j : Nat} {c : CliH} {ss : List SurfR} (g : MH CH CD CC CS CL H A h ps B) (e : ps[j]? = some (c, ss)) : CHas CC CS CL H (mhA CH CD CC CS CL A h ps j) (mhB CC CS CL ps B j) c ss := by
  have g1 := (g.unassoc.out e).re (L' := mhA CH CD CC CS CL A h ps j ++ (cliCells CC c ++ (allCells CS CL ss ++ mhB CC CS CL ps B j))) (by
    show _ ++ ((cliCells CC c ++ allCells CS CL ss) ++ _) = _
    rw [List.append_assoc (cliCells CC c)])
  exact g1
theorem mh_back {CH CD CC CS CL : Addr} {H : Hp} {A B : Cells} {h : HouH} {ps : Ps} {j : Nat} {p : CliH × List SurfR} {c : CliH} {ss : List SurfR} (e : ps[j]? = some p) (g : CHas CC CS CL H (mhA CH CD CC CS CL A h ps j) (mhB CC CS CL ps B j) c ss) : MH CH CD CC CS CL H A h (ps.set j (c, ss)) B := by
  refine (Has.back (g := pCells CC CS CL) (v := (c, ss)) e (g.re ?_)).assoc
  show _ = _ ++ ((cliCells CC c ++ allCells CS CL ss) ++ _)
  rw [List.append_assoc (cliCells CC c)]
theorem mh_h {CH CD CC CS CL : Addr} {H : Hp} {A B : Cells} {h : HouH} {ps : Ps} (g : MH CH CD CC CS CL H A h ps B) : H h.a = some (.ins CH h.dx (houseF h.sc h.cl h.ha)) ∧ H h.cl = some (.lst (h.ca.map V.ref)) := ⟨g.get 0 rfl, g.get 1 rfl⟩
section
variable {P : Program} {w : World} {K : PySem.W.Frag} {mg : Str → Option Value} {base : Heap}
theorem scHTake : FnScope ["self", "client", "who"] ["self", "client"] (defScope sHTake) := ⟨rfl, rfl, rfl, by decide +kernel, rfl, by decide +kernel, by decide +kernel⟩
def spHTake (CH CD CC CS CL : Addr) : Sp := fun vs H Q _ => ∃ (A B : Cells) (h : HouH) (ps : Ps) (j : Nat) (c : CliH) (ss : List SurfR) (t : Addr) (r : List Addr) (z : Lt), vs = [.ref h.a, .int (j : Int)] ∧ MH CH CD CC CS CL H A h ps B ∧ h.ca = ps.map (·.1.a) ∧ ps.length ≤ 5 ∧ ps[j]? = some (c, ss) ∧
  c.fallen = false ∧ SWf c.a ss ∧ c.sd = sdOf ss ∧ c.row = t :: r ∧ H t = some (.tup z.vals) ∧ z.ok ∧ z.soft ∧ canBeB ss z = true ∧
  ∀ ss' H', StepR c.a ss z ss' → MH CH CD CC CS CL H' A h (ps.set j ({ c with row := r, sd := sdOf ss' }, ss')) B → Q (.bl true) H'
theorem ok_htake {f CH CD CC CS CL fP fF : Addr} {fd fdP fdF : FuncData} (F : Fun K "take" "House.take" sHTake f fd) (T : TxtH K mg CH) (TC : TxtC K mg CC)
    (GP : FnOk P w K mg base CX0 3 fP fdP ["self", "client"] (spHPresent CH CC)) (bP : Binds K fdP ["self", "client"] []) (mP : Meth K CH "_present" fP)
    (GF : FnOk P w K mg base CX0 6 fF fdF ["client", "hands"] (spFirst CC CS CL)) (bF : Binds K fdF ["client", "hands"] []) (gF : mg "do_first" = some (.ref fF)) (kF : PySem.W.keepIn K (.ref fF) = true) :
    FnOk P w K mg base CX0 7 f fd ["self", "client"] (spHTake CH CD CC CS CL) := by
  refine F.ok scHTake (fun vs H Q E h => ?_) (fun cdv A0 outer s0 H vs Q E hr h => ?_)
  · obtain ⟨A, B, h, ps, j, c, ss, t, r, z, rfl, _⟩ := h
    rfl
  · obtain ⟨A, B, h, ps, j, c, ss, t, r, z, rfl, hh, hca, hpl, hj, hf, wf, hsd, hrow, ht, hz, hso, hb, k⟩ := h
    refine ⟨_, pss_cons (ps_set (i := 2) scHTake.nd rfl (Or.inl rfl) (pe_meth (pv 0) T.cl mP GP (hr.mono (by decide)) bP .nil pass0 (pa_cons (pv 1) pa_nil)))
      (pss_cons (ps_if (pt_cmpR op_eq (pe_callB call_len_seq (by rfl) T.len PySem.boot_len (pa_cons (pe_fld (pv 2) rfl) pa_nil)) pe_int (nomark _)) (pss_one (ps_ret pe_bl)) pss_nil)
      (pss_cons (ps_expr (pe_call GF hr rfl gF kF bF .nil pass0 (pa_cons (pv 2) (pa_cons (pe_fld (pv 0) rfl) pa_nil))))
      (pss_one (ps_ret pe_bl)))), ?_⟩
    obtain ⟨h1, h2⟩ := mh_h hh
    have g := mh_out hh hj
    have hcj : h.ca[j]? = some c.a := by rw [hca, List.getElem?_map, hj]; rfl
    have hl : h.ca.length ≤ 5 := by rw [hca, List.length_map]; exact hpl
    have hra : H c.ra = some (.lst (c.row.map V.ref)) := g.get 1 rfl
    refine ⟨_, rfl, h.a, _, _, rfl, h1, by kernel_rfl, _, rfl, h, j, c, rfl, h1, h2, hcj, hl, g.get 0 rfl, hf, ?_⟩
    refine ⟨_, rfl, c.a, CC, _, _, _, rfl, g.get 0 rfl, TC.cl, TC.nrow, clientF_row, _, _, rfl, .inl (SqL.of hra), rfl, _, rfl, ?_⟩
    rw [List.length_map, hrow, decide_eq_false (show ¬ V.int (((t :: r).length : Nat) : Int) = V.int 0 from fun q => by have := V.int.inj q; simp at this; omega)]
    refine iteF ?_
    refine ⟨_, rfl, _, rfl, h.a, CH, _, _, _, rfl, h1, T.cl, T.nhands, houseF__hands, _, _, c, ss, .ref h.ha, t, r, z, rfl, g, wf, hsd, hrow, ht, hz, hso, hb, fun ss' H' st g' => ?_⟩
    exact k ss' H' st (mh_back hj g')
theorem scHHeard : FnScope ["self", "client"] ["self", "client"] (defScope sHHeard) := ⟨rfl, rfl, rfl, by decide +kernel, rfl, by decide +kernel, by decide +kernel⟩
def spHHeard (CH CC : Addr) : Sp := fun vs H Q _ => ∃ (h : HouH) (i : Nat) (c : CliH), vs = [.ref h.a, .int (i : Int)] ∧ H h.a = some (.ins CH h.dx (houseF h.sc h.cl h.ha)) ∧ H h.cl = some (.lst (h.ca.map V.ref)) ∧ h.ca[i]? = some c.a ∧ h.ca.length ≤ 5 ∧
  H c.a = some (.ins CC c.dx (clientF c.number c.fallen c.ra c.sa c.na)) ∧ H c.na = some (.lst (c.notes.map V.ref)) ∧ ∀ q, H q = none → Q (.ref q) (upd H q (.lst (c.notes.map V.ref)))
theorem ok_hheard {f CH CC fK : Addr} {fd fdK : FuncData} (F : Fun K "heard" "House.heard" sHHeard f fd) (T : TxtH K mg CH) (TC : TxtC K mg CC)
    (GK : FnOk P w K mg base CX0 2 fK fdK ["self", "client"] (spHKnown CH)) (bK : Binds K fdK ["self", "client"] []) (mK : Meth K CH "_known" fK) :
    FnOk P w K mg base CX0 3 f fd ["self", "client"] (spHHeard CH CC) := by
  refine F.ok scHHeard (fun vs H Q E h => ?_) (fun cdv A0 outer s0 H vs Q E hr h => ?_)
  · obtain ⟨h, i, c, rfl, _⟩ := h
    rfl
  · obtain ⟨h, i, c, rfl, h1, h2, hc, hl, h3, h4, k⟩ := h
    refine ⟨_, pss_one (ps_ret (pe_callTy call_list_of (by rfl) T.list (show bootBuiltins "list" = some (.type "list") by decide +kernel) (pa_cons (pe_fld (pe_meth (pv 0) T.cl mK GK hr bK .nil pass0 (pa_cons (pv 1) pa_nil)) rfl) pa_nil))), ?_⟩
    refine ⟨_, rfl, h.a, _, _, rfl, h1, by kernel_rfl, _, rfl, h, i, c.a, rfl, h1, h2, hc, hl, c.a, CC, _, _, _, rfl, h3, TC.cl, TC.nnotes, clientF_notes, c.na, _, rfl, .inl (SqL.of h4), fun q hq => k q hq⟩
/-- all rows taken -/
def RestR (p p' : CliH × List SurfR) (zs : List Lt) : Prop := p'.1 = { p.1 with row := [], sd := sdOf p'.2 } ∧ SWf p.1.a p'.2 ∧ view p'.2 = runV (view p.2) zs
def spHRestM (CH CD CC CS CL : Addr) : Sp := fun vs H Q _ => ∃ (A B : Cells) (h : HouH) (ps : Ps) (zss : Nat → List Lt), vs = [.ref h.a] ∧ MH CH CD CC CS CL H A h ps B ∧ h.ca = ps.map (·.1.a) ∧
  (∀ j p, ps[j]? = some p → SWf p.1.a p.2 ∧ p.1.sd = sdOf p.2 ∧ RowAt H p.1.row (zss j) ∧ RunOk (view p.2) (zss j)) ∧
  ∀ ps' H', ps'.length = ps.length → (∀ j p, ps[j]? = some p → ∃ p', ps'[j]? = some p' ∧ RestR p p' (zss j)) → MH CH CD CC CS CL H' A h ps' B → Q .non H'
theorem ok_hrestM {f CH CD CC CS CL fF : Addr} {fd fdF : FuncData} (F : Fun K "rest" "House.rest" sHRest f fd) (T : TxtH K mg CH) (TC : TxtC K mg CC)
    (GF : FnOk P w K mg base CX0 6 fF fdF ["client", "hands"] (spFirst CC CS CL)) (bF : Binds K fdF ["client", "hands"] []) (gF : mg "do_first" = some (.ref fF)) (kF : PySem.W.keepIn K (.ref fF) = true) :
    FnOk P w K mg base CX0 7 f fd ["self"] (spHRestM CH CD CC CS CL) := by
  have GF := keep_t GF
  refine F.ok scHRest (fun vs H Q E h => ?_) (fun cdv A0 outer s0 H vs Q E hr h => ?_)
  · obtain ⟨A, B, h, ps, zss, rfl, _⟩ := h
    rfl
  · obtain ⟨A, B, h, ps, zss, rfl, hh, hca, hps, k⟩ := h
    refine ⟨_, pss_one (ps_for PassesOwn.never rfl (pi_list (pe_fld (pv 0) rfl)) (pg_name (i := 1) scHRest.nd rfl (Or.inl rfl))
      (pss_one (ps_while PassesOwn.never (pt_cmpR op_gt (pe_callB call_len_seq (by rfl) T.len PySem.boot_len (pa_cons (pe_fld (pv 1) rfl) pa_nil)) pe_int (nomark _))
        (pss_one (ps_expr (pe_call GF hr rfl gF kF bF .nil pass0 (pa_cons (pv 1) (pa_cons (pe_fld (pv 0) rfl) pa_nil)))))))), ?_⟩
    obtain ⟨h1, h2⟩ := mh_h hh
    refine ⟨_, rfl, h.a, CH, _, _, _, rfl, h1, T.cl, T.nclients, houseF__clients, _, rfl, ⟨_, SqL.of h2⟩, ?_⟩
    refine for_list (K := K) (a := h.cl) (xs := h.ca.map V.ref) (fun i σ H1 => ∃ e pi, σ = [some (.ref h.a), e] ∧ KeepT H H1 ∧ MH CH CD CC CS CL H1 A h pi B ∧ pi.length = ps.length ∧ ∀ j p, ps[j]? = some p → ∃ p', pi[j]? = some p' ∧ (j < i → RestR p p' (zss j)) ∧ (i ≤ j → p' = p))
      ⟨_, ps, rfl, KeepT.refl H, hh, rfl, fun j p e => ⟨p, e, fun z => absurd z (Nat.not_lt_zero _), fun _ => rfl⟩⟩ (fun i σ H1 _ p => by obtain ⟨_, _, _, _, g, _⟩ := p; exact SqL.of (mh_h g).2) ?_ ?_
    · rintro i x σ H1 hx ⟨e, pi, rfl, k1, g, hl, hp⟩
      rw [List.getElem?_map, hca, List.getElem?_map] at hx
      cases ep : ps[i]? with
      | none => rw [ep] at hx; cases hx
      | some p =>
        rw [ep] at hx
        obtain rfl : V.ref p.1.a = x := Option.some.inj hx
        obtain ⟨p', ep', _, hp'⟩ := hp i p ep
        obtain rfl := hp' (Nat.le_refl _)
        obtain ⟨c, ss⟩ := p'
        obtain ⟨wf, hsd, hrow, hrun⟩ := hps i _ ep
        have gc := mh_out g ep'
        refine while_by (fun σ H2 => σ = [some (.ref h.a), some (.ref c.a)] ∧ ∃ ss1 row1 zs1, SWf c.a ss1 ∧ RowAt H2 row1 zs1 ∧ RunOk (view ss1) zs1 ∧ runV (view ss1) zs1 = runV (view ss) (zss i) ∧ KeepT H H2 ∧ CHas CC CS CL H2 (mhA CH CD CC CS CL A h pi i) (mhB CC CS CL pi B i) { c with row := row1, sd := sdOf ss1 } ss1)
          (fun _ H2 => lenAt H2 c.ra) ⟨rfl, ss, c.row, zss i, wf, hrow.keep k1, hrun, rfl, k1, by rw [← hsd]; exact gc⟩ ?_ ?_
        · rintro σ H2 ⟨rfl, ss1, row1, zs1, wf1, hr1, ru1, ev, k2, g'⟩
          have hra : H2 c.ra = some (.lst (row1.map V.ref)) := g'.get 1 rfl
          have hho : H2 h.a = some (.ins CH h.dx (houseF h.sc h.cl h.ha)) := (mh_h (mh_back ep' g')).1
          refine ⟨_, rfl, c.a, CC, _, _, _, rfl, g'.get 0 rfl, TC.cl, TC.nrow, clientF_row, _, _, rfl, .inl (SqL.of hra), _, _, rfl, rfl, _, rfl, ?_⟩
          rw [List.length_map]
          cases row1 with
          | nil =>
            cases hr1
            refine iteF ?_
            refine ⟨_, pi.set i ({ c with row := [], sd := sdOf ss1 }, ss1), rfl, k2, mh_back ep' g', by rw [List.length_set]; exact hl, fun j p ej => ?_⟩
            by_cases q : i = j
            · subst q
              rw [ep] at ej
              cases ej
              refine ⟨({ c with row := [], sd := sdOf ss1 }, ss1), by rw [List.getElem?_set_self (List.getElem?_eq_some_iff.mp ep').1], fun _ => ⟨rfl, wf1, ev⟩, fun z => absurd z (by omega)⟩
            · obtain ⟨p', e1, e2, e3⟩ := hp j p ej
              refine ⟨p', by rw [List.getElem?_set_ne q]; exact e1, fun z => e2 (by omega), fun z => e3 (by omega)⟩
          | cons t r =>
            cases hr1 with
            | @cons _ z _ zr ht htl =>
            obtain ⟨zok, zsoft, zcan, zrun⟩ := ru1
            rw [decide_eq_true (by simp only [List.length_cons]; omega)]
            refine iteT ?_
            refine ⟨_, rfl, _, rfl, h.a, CH, _, _, _, rfl, hho, T.cl, T.nhands, houseF__hands, _, _, { c with row := t :: r, sd := sdOf ss1 }, ss1, .ref h.ha, t, r, z, rfl, g', wf1, rfl, rfl, ht, zok, zsoft, by rw [← canBe_view wf1]; exact zcan, fun ss' H3 st g3 k3 => ?_⟩
            have nd := has_nd (CS := CS) (CL := CL) (A := mhA CH CD CC CS CL A h pi i ++ cliCells CC _) (B := mhB CC CS CL pi B i) g3.unassoc
            have hcb : canBeB ss1 z = true := by rw [← canBe_view wf1]; exact zcan
            have ev2 := StepR.view wf1 hcb st zsoft nd
            refine ⟨⟨rfl, ss', r, zr, wf1.step zok hcb st nd, RowAt.keep htl k3, by rw [ev2]; exact zrun, by rw [ev2]; exact ev, k2.trans k3, g3⟩, ?_⟩
            have hra3 : H3 c.ra = some (.lst (r.map V.ref)) := g3.get 1 rfl
            show lenAt H3 c.ra < lenAt H2 c.ra
            rw [lenAt_of hra3, lenAt_of hra]
            simp
        · intro σ H2 Q1 Q2 imp hq
          obtain ⟨v, e1, a, C1, dx, fs, v2, e2, e3, e4, e5, e6, l, xs, e7, e8, i, j, e9, e10, b, e11, q⟩ := hq
          exact ⟨v, e1, a, C1, dx, fs, v2, e2, e3, e4, e5, e6, l, xs, e7, e8, i, j, e9, e10, b, e11, imp _ _ q⟩
    · rintro σ H1 ⟨e, pi, rfl, k1, g, hl, hp⟩
      refine k pi H1 hl (fun j p ej => ?_) g
      obtain ⟨p', e1, e2, _⟩ := hp j p ej
      refine ⟨p', e1, e2 ?_⟩
      have := (List.getElem?_eq_some_iff.mp ej).1
      rw [List.length_map, hca, List.length_map]; exact this
end
end SH
set_option Elab.async false
set_option linter.all false
set_option maxRecDepth 100000
namespace SH
open PySem PySem.Spec PyProof.Rows L2
def surfs (ps : Ps) : List SurfR := ps.flatMap (·.2)
def stM (ps : Ps) : Addr → Option SurfR := stOf (surfs ps)
def numM (ps : Ps) (o : Addr) : Int := ((ps.find? fun p => decide (p.1.a = o)).map (·.1.number)).getD 0
theorem surfs_cells (CC CS CL : Addr) : ∀ ps : Ps, List.Sublist ((surfs ps).map fun s => (s.a, s.obj CS)) (cliAll CC CS CL ps)
  | [] => List.Sublist.slnil
  | p :: ps => by
    show List.Sublist ((p.2 ++ surfs ps).map _) ((cliCells CC p.1 ++ allCells CS CL p.2) ++ cliAll CC CS CL ps)
    rw [List.map_append]
    refine List.Sublist.append ?_ (surfs_cells CC CS CL ps)
    refine List.Sublist.trans ?_ (List.sublist_append_right _ _)
    generalize p.2 = ss
    induction ss with
    | nil => exact List.Sublist.slnil
    | cons s ss ih =>
      show List.Sublist ((s.a, s.obj CS) :: ss.map _) ((s.a, s.obj CS) :: _)
      refine List.Sublist.cons₂ _ (ih.trans ?_)
      exact List.Sublist.cons _ (List.sublist_append_right _ _)
theorem clis_cells (CC CS CL : Addr) : ∀ ps : Ps, List.Sublist (ps.map fun p => (p.1.a, HO.ins CC p.1.dx (clientF p.1.number p.1.fallen p.1.ra p.1.sa p.1.na))) (cliAll CC CS CL ps)
  | [] => List.Sublist.slnil
  | p :: ps => by
    show List.Sublist (_ :: ps.map _) (((_ :: _) ++ allCells CS CL p.2) ++ cliAll CC CS CL ps)
    rw [List.cons_append, List.cons_append]
    exact List.Sublist.cons₂ _ ((clis_cells CC CS CL ps).trans (List.sublist_append_right _ _))
theorem clis_sa (CC CS CL : Addr) : ∀ ps : Ps, List.Sublist (ps.map fun p => (p.1.sa, HO.dK (kvI p.1.sd))) (cliAll CC CS CL ps)
  | [] => List.Sublist.slnil
  | p :: ps => by
    show List.Sublist (_ :: ps.map _) (((_ :: _ :: _ :: _) ++ allCells CS CL p.2) ++ cliAll CC CS CL ps)
    rw [List.cons_append, List.cons_append, List.cons_append, List.cons_append, List.cons_append, List.cons_append]
    exact List.Sublist.cons _ (List.Sublist.cons _ (List.Sublist.cons₂ _ ((clis_sa CC CS CL ps).trans (List.sublist_append_right _ _))))
theorem hasK {H : Hp} {A B C : Cells} {α : Type} {l : List α} {f : α → Addr} {g : α → HO} (h : Has H (A ++ (C ++ B))) (s : List.Sublist (l.map fun x => (f x, g x)) C) : (l.map f).Nodup ∧ ∀ x ∈ l, H (f x) = some (g x) := by
  have h1 := h.sub (L' := l.map fun x => (f x, g x)) (s.trans ((List.sublist_append_left _ _).trans (List.sublist_append_right _ _)))
  refine ⟨?_, fun x hx => h1.mem (List.mem_map_of_mem (f := fun x => (f x, g x)) hx)⟩
  have := h1.nd
  rw [List.map_map] at this
  exact this
theorem mh_in {CH CD CC CS CL : Addr} {H : Hp} {A B : Cells} {h : HouH} {ps : Ps} (g : MH CH CD CC CS CL H A h ps B) : Has H ((A ++ houCells CH CD h) ++ (cliAll CC CS CL ps ++ B)) := g.unassoc
theorem surf_nd {CC CS CL : Addr} {H : Hp} {A B : Cells} {ps : Ps} (g : Has H (A ++ (cliAll CC CS CL ps ++ B))) : ((surfs ps).map (·.a)).Nodup := (hasK g (surfs_cells CC CS CL ps)).1
theorem cli_nd {CC CS CL : Addr} {H : Hp} {A B : Cells} {ps : Ps} (g : Has H (A ++ (cliAll CC CS CL ps ++ B))) : (ps.map fun p => p.1.a).Nodup := (hasK g (clis_cells CC CS CL ps)).1
theorem stM_mem {ps : Ps} (nd : ((surfs ps).map (·.a)).Nodup) {p : CliH × List SurfR} (hp : p ∈ ps) {s : SurfR} (hs : s ∈ p.2) : stM ps s.a = some s := stOf_mem nd (List.mem_flatMap.mpr ⟨p, hp, hs⟩)
theorem stM_up {ps : Ps} (nd : ((surfs ps).map (·.a)).Nodup) {p : CliH × List SurfR} (hp : p ∈ ps) {a : Addr} {s : SurfR} (e : stOf p.2 a = some s) : stM ps a = some s := by
  obtain ⟨ea, j, ej⟩ := stOf_ix e
  rw [← ea]
  exact stM_mem nd hp (List.mem_of_getElem? ej)
theorem stM_get {ps : Ps} {a : Addr} {s : SurfR} (e : stM ps a = some s) : s.a = a ∧ ∃ p ∈ ps, s ∈ p.2 := by
  obtain ⟨ea, j, ej⟩ := stOf_ix e
  obtain ⟨p, hp, hs⟩ := List.mem_flatMap.mp (List.mem_of_getElem? ej)
  exact ⟨ea, p, hp, hs⟩
theorem numM_mem {ps : Ps} (nd : (ps.map fun p => p.1.a).Nodup) {p : CliH × List SurfR} (hp : p ∈ ps) : numM ps p.1.a = p.1.number := by
  unfold numM
  cases e : ps.find? fun q => decide (q.1.a = p.1.a) with
  | none => exact absurd (decide_eq_true rfl) (List.find?_eq_none.mp e p hp)
  | some q =>
    have h1 := List.mem_of_find?_eq_some e
    have h2 : q.1.a = p.1.a := by have := List.find?_some e; simpa using this
    obtain ⟨i, hi, ei⟩ := List.getElem_of_mem h1
    obtain ⟨j, hj, ej⟩ := List.getElem_of_mem hp
    have k1 : (ps.map fun p => p.1.a)[i]? = some p.1.a := by rw [List.getElem?_map, List.getElem?_eq_getElem hi, ei]; simp [h2]
    have k2 : (ps.map fun p => p.1.a)[j]? = some p.1.a := by rw [List.getElem?_map, List.getElem?_eq_getElem hj, ej]; rfl
    have : i = j := nd_ix nd k1 k2
    subst this
    rw [ei] at ej
    subst ej; rfl
theorem famOk_mono {st st' : Addr → Option SurfR} (h : ∀ a s, st a = some s → st' a = some s) : ∀ (d : Nat) {a : Addr}, FamOk st d a → FamOk st' d a
  | 0, a, ⟨s, e, q⟩ => ⟨s, h a s e, q⟩
  | d + 1, a, ⟨s, e, l, q⟩ => ⟨s, h a s e, l, fun p hp => famOk_mono h d (q p hp)⟩
/-- the clients hang together -/
def PsW (ps : Ps) : Prop := ∀ p ∈ ps, SWf p.1.a p.2 ∧ p.1.sd = sdOf p.2
def csOf (ps : Ps) : List (Addr × Addr × List (Int × Addr)) := ps.map fun p => (p.1.a, p.1.sa, p.1.sd)
def laidM (ps : Ps) : List (Addr × Int × Int) := layT (numM ps) (stM ps) 3 ((csOf ps).flatMap (rootsOf (stM ps))) 0 0
def lkM (ps : Ps) (a : Addr) : Option LookM := (stM ps a).bind (·.shown)
theorem mem_surf {CC CS CL : Addr} {H : Hp} {A B : Cells} {ps : Ps} (g : Has H (A ++ (cliAll CC CS CL ps ++ B))) {p : CliH × List SurfR} (hp : p ∈ ps) {s : SurfR} (hs : s ∈ p.2) : ∀ c ∈ surfCells CS CL s, H c.1 = some c.2 := fun c hc => g.ok c (by
  refine List.mem_append_right _ (List.mem_append_left _ (List.mem_flatMap.mpr ⟨p, hp, List.mem_append_right _ (List.mem_flatMap.mpr ⟨s, hs, hc⟩)⟩)))
theorem mem_cli {CC CS CL : Addr} {H : Hp} {A B : Cells} {ps : Ps} (g : Has H (A ++ (cliAll CC CS CL ps ++ B))) {p : CliH × List SurfR} (hp : p ∈ ps) : ∀ c ∈ cliCells CC p.1, H c.1 = some c.2 := fun c hc => g.ok c (by
  refine List.mem_append_right _ (List.mem_append_left _ (List.mem_flatMap.mpr ⟨p, hp, List.mem_append_left _ hc⟩)))
section
variable {CC CS CL : Addr} {H : Hp} {A B : Cells} {ps : Ps}
theorem m_rl (g : Has H (A ++ (cliAll CC CS CL ps ++ B))) (w : PsW ps) : RL CC CS CL (numM ps) (stM ps) H := fun a s e => by
  obtain ⟨ea, p, hp, hs⟩ := stM_get e
  have m := mem_surf g hp hs
  have ow := (w p hp).1.ow s hs
  refine ⟨ea, ea ▸ m (s.a, s.obj CS) (by simp [surfCells]), m (s.pa, _) (by simp [surfCells]), fun l hl => m (l.a, lookObj CL l) ?_, p.1.dx, clientF p.1.number p.1.fallen p.1.ra p.1.sa p.1.na, by rw [ow]; exact mem_cli g hp (p.1.a, .ins CC p.1.dx (clientF p.1.number p.1.fallen p.1.ra p.1.sa p.1.na)) (by simp [cliCells]), ?_⟩
  · unfold surfCells
    rw [hl]
    simp [olook, lookCells, lookObj]
  · rw [ow, numM_mem (cli_nd g) hp]; exact clientF_number
theorem m_roots (g : Has H (A ++ (cliAll CC CS CL ps ++ B))) (w : PsW ps) : DepOk (stM ps) 3 ((csOf ps).flatMap (rootsOf (stM ps))) := by
  refine dep_of_fam 2 fun a ha => ?_
  obtain ⟨c, hc, ha⟩ := List.mem_flatMap.mp ha
  obtain ⟨p, hp, rfl⟩ := List.mem_map.mp hc
  unfold rootsOf at ha
  have ha := (List.mem_filter.mp ha).1
  obtain ⟨q, hq, rfl⟩ := List.mem_map.mp ha
  have hq : q ∈ p.1.sd := hq
  rw [(w p hp).2] at hq
  obtain ⟨s, hs, rfl⟩ := List.mem_map.mp hq
  exact famOk_mono (fun a s e => stM_up (surf_nd g) hp e) 2 ((w p hp).1.fam s hs)
theorem m_cl (g : Has H (A ++ (cliAll CC CS CL ps ++ B))) (w : PsW ps) : ∀ c ∈ csOf ps, ClAt CC H (stM ps) c := fun c hc => by
  obtain ⟨p, hp, rfl⟩ := List.mem_map.mp hc
  have m := mem_cli g hp
  refine ⟨⟨p.1.dx, clientF p.1.number p.1.fallen p.1.ra p.1.sa p.1.na, m (p.1.a, .ins CC p.1.dx (clientF p.1.number p.1.fallen p.1.ra p.1.sa p.1.na)) (by simp [cliCells]), clientF_surfaces⟩, m (p.1.sa, .dK (kvI p.1.sd)) (by simp [cliCells]), ?_, fun q hq => ?_⟩
  · show p.1.sd.length ≤ 10
    rw [(w p hp).2]; unfold sdOf; rw [List.length_map]; exact (w p hp).1.slen
  · have hq : q ∈ p.1.sd := hq
    rw [(w p hp).2] at hq
    obtain ⟨s, hs, rfl⟩ := List.mem_map.mp hq
    exact ⟨s, stM_mem (surf_nd g) hp hs⟩
theorem m_sa (g : Has H (A ++ (cliAll CC CS CL ps ++ B))) : ((csOf ps).map (·.2.1)).Nodup := by
  have := (hasK g (clis_sa CC CS CL ps)).1
  unfold csOf
  rw [List.map_map]
  exact this
theorem loc_backS {a : Addr} {j i : Nat} {c : CliH} {ss : List SurfR} {u u' : SurfR} (L : Loc ps a j i c ss u)
    (g : Has H ((A ++ (ps.take j).flatMap (pCells CC CS CL)) ++ (cliCells CC c ++ ((ss.take i).flatMap (surfCells CS CL) ++ (surfCells CS CL u' ++ ((ss.drop (i + 1)).flatMap (surfCells CS CL) ++ ((ps.drop (j + 1)).flatMap (pCells CC CS CL) ++ B))))))) :
    Has H (A ++ (cliAll CC CS CL (ps.set j (c, ss.set i u')) ++ B)) := by
  refine Has.back (g := pCells CC CS CL) (v := (c, ss.set i u')) L.hj (g.re ?_)
  congr 1
  have hi : i < ss.length := (List.getElem?_eq_some_iff.mp L.hi).1
  have e2 : (ss.set i u')[i]? = some u' := by rw [List.getElem?_set_self hi]
  show _ = (cliCells CC c ++ allCells CS CL (ss.set i u')) ++ _
  rw [show allCells CS CL (ss.set i u') = _ from split_at (g := surfCells CS CL) e2, List.take_set_of_le (Nat.le_refl _), List.drop_set_of_lt (Nat.lt_succ_self _)]
  simp [List.append_assoc]
end
/-- the same clients, but for what the last beats made of them -/
structure BeatR (p p' : CliH × List SurfR) (n : Nat) : Prop where
  c : ∃ ns, p'.1 = { p.1 with notes := ns } ∧ ns.length ≤ p.1.notes.length + n
  s : CoreEq p.2 p'.2
def BeatP (ps ps' : Ps) (n : Nat) : Prop := ps'.length = ps.length ∧ ∀ (j : Nat) p, ps[j]? = some p → ∃ p', ps'[j]? = some p' ∧ BeatR p p' n
theorem BeatR.refl (p : CliH × List SurfR) : BeatR p p 0 := ⟨⟨p.1.notes, rfl, Nat.le_refl _⟩, rfl⟩
theorem BeatP.refl (ps : Ps) : BeatP ps ps 0 := ⟨rfl, fun j p e => ⟨p, e, BeatR.refl p⟩⟩
theorem BeatP.coreEq {ps ps' : Ps} {n : Nat} (h : BeatP ps ps' n) : CoreEq (surfs ps) (surfs ps') := by
  have : ps'.map (fun p => p.2.map core) = ps.map (fun p => p.2.map core) := by
    apply List.ext_getElem?
    intro j
    rw [List.getElem?_map, List.getElem?_map]
    cases e : ps[j]? with
    | none =>
      have : ps'[j]? = none := by
        have := List.getElem?_eq_none_iff.mp e
        exact List.getElem?_eq_none_iff.mpr (by rw [h.1]; exact this)
      rw [this]
    | some p =>
      obtain ⟨p', e', r⟩ := h.2 j p e
      rw [e']
      exact congrArg some r.s
  unfold CoreEq surfs
  rw [List.map_flatMap, List.map_flatMap, List.flatMap_def, List.flatMap_def, this]
theorem BeatP.back {ps ps' : Ps} {n : Nat} (h : BeatP ps ps' n) {p' : CliH × List SurfR} (hp' : p' ∈ ps') : ∃ p ∈ ps, BeatR p p' n := by
  obtain ⟨j, hj, e⟩ := List.getElem_of_mem hp'
  have e' : ps'[j]? = some p' := by rw [List.getElem?_eq_getElem hj, e]
  have hl : j < ps.length := by have := h.1; omega
  obtain ⟨q, e2, r⟩ := h.2 j _ (List.getElem?_eq_getElem hl)
  rw [e'] at e2
  cases e2
  exact ⟨_, List.getElem_mem hl, r⟩
theorem BeatP.psw {ps ps' : Ps} {n : Nat} (h : BeatP ps ps' n) (w : PsW ps) : PsW ps' := fun p' hp' => by
  obtain ⟨p, hp, r⟩ := h.back hp'
  obtain ⟨ns, ec, _⟩ := r.c
  have w1 := w p hp
  refine ⟨?_, ?_⟩
  · rw [ec]; exact core_swf w1.1 r.s
  · rw [ec]; show p.1.sd = _
    rw [w1.2]; exact (core_sd r.s).symm
end SH
set_option Elab.async false
set_option linter.all false
set_option maxRecDepth 100000
namespace SH
open PySem PySem.Spec PyProof.Rows L2
def lk3 (s : SurfR) : Addr × Int × Int := (s.a, s.lx, s.ly)
def LaidEq (ss ss1 : List SurfR) : Prop := ss1.map lk3 = ss.map lk3
theorem LaidEq.set {ss ss1 : List SurfR} (h : LaidEq ss ss1) {j : Nat} {u v : SurfR} (e : ss1[j]? = some u) (h1 : v.a = u.a) (h2 : v.lx = u.lx) (h3 : v.ly = u.ly) : LaidEq ss (ss1.set j v) := by
  refine Eq.trans ?_ h
  apply List.ext_getElem?
  intro n
  rw [List.getElem?_map, List.getElem?_map, List.getElem?_set]
  by_cases hn : j = n
  · subst hn
    rw [if_pos rfl, if_pos (List.getElem?_eq_some_iff.mp e).1, e]
    simp [lk3, h1, h2, h3]
  · rw [if_neg hn]
theorem LaidEq.back {ss ss1 : List SurfR} (h : LaidEq ss ss1) {s1 : SurfR} (hs : s1 ∈ ss1) : ∃ s ∈ ss, s.a = s1.a ∧ s.lx = s1.lx ∧ s.ly = s1.ly := by
  have : lk3 s1 ∈ ss.map lk3 := h ▸ List.mem_map_of_mem hs
  obtain ⟨s, hs', e⟩ := List.mem_map.mp this
  exact ⟨s, hs', congrArg (·.1) e, congrArg (·.2.1) e, congrArg (·.2.2) e⟩
theorem BeatP.set {ps pi : Ps} {n : Nat} (h : BeatP ps pi n) {j i : Nat} {c : CliH} {ss : List SurfR} {u v : SurfR} (e : pi[j]? = some (c, ss)) (ei : ss[i]? = some u) (hc : core v = core u) : BeatP ps (pi.set j (c, ss.set i v)) n := by
  refine ⟨by rw [List.length_set]; exact h.1, fun j' p ej => ?_⟩
  obtain ⟨p', e', r⟩ := h.2 j' p ej
  by_cases q : j = j'
  · subst q
    rw [e] at e'
    cases e'
    exact ⟨_, List.getElem?_set_self (List.getElem?_eq_some_iff.mp e).1, r.c, r.s.set ei hc⟩
  · exact ⟨p', by rw [List.getElem?_set_ne q]; exact e', r⟩
/-- what is laid knows where -/
def LaidAt (ps : Ps) (qs : List (Addr × Int × Int)) : Prop := ∀ q ∈ qs, ∀ p ∈ ps, ∀ s ∈ p.2, s.a = q.1 → s.lx = q.2.1 ∧ s.ly = q.2.2
section
variable {P : Program} {w : World} {K : PySem.W.Frag} {mg : Str → Option Value} {base : Heap}
def spHShown2 (CC CS CL : Addr) : Sp := fun vs H Q _ => ∃ (A B : Cells) (c : CliH) (ss : List SurfR) (hv : V), vs = [hv, .ref c.a] ∧ CHas CC CS CL H A B c ss ∧ c.sd = sdOf ss ∧ (∀ s ∈ ss, s.owner = c.a) ∧ (ss.map (·.name)).Nodup ∧ ss.length ≤ 10 ∧ c.fallen = false ∧ c.notes.length ≤ 90000 ∧
  ∀ ss' ns H', CoreEq ss ss' → LaidEq ss ss' → ns.length ≤ c.notes.length + 10 → CHas CC CS CL H' A B { c with notes := ns } ss' → Q .non H'
theorem ok_hshown2 {f CC CS CL fH : Addr} {fd : FuncData} (F : Fun K "_tell_shown" "House._tell_shown" sHShown f fd) (T : TxtS K mg CS) (TC : TxtC K mg CC)
    (GL : FnR P w K mg base CX0 2 fH (spSLet CC CS CL)) (mL : Meth K CS "let_hear" fH) :
    FnOk P w K mg base CX0 3 f fd ["self", "client"] (spHShown2 CC CS CL) := by
  refine F.ok scHShown (fun vs H Q E h => ?_) (fun cdv A0 outer s0 H vs Q E hr h => ?_)
  · obtain ⟨A, B, c, ss, hv, rfl, _⟩ := h
    rfl
  · obtain ⟨A, B, c, ss, hv, rfl, hh, hsd, how, hnn, hsl, hfal, hnl, k⟩ := h
    have hu := hu_of hr
    refine ⟨_, pss_one (ps_for PassesOwn.never rfl (pi_list (pe_callB (call_sortedDI rfl) (by rfl) T.sorted (by decide +kernel) (pa_cons (pe_fld (pv 1) rfl) pa_nil))) (pg_name (i := 2) scHShown.nd rfl (Or.inl rfl))
      (pss_cons (ps_set (i := 3) scHShown.nd rfl (Or.inl rfl) (pe_dget hu (pe_fld (pv 1) rfl) (pv 2) (fun _ _ => rfl)))
      (pss_one (ps_if (pt_val (pe_fld (pv 3) rfl)) (pss_cons (ps_fld (pv 3) pe_bl rfl) (pss_one (ps_expr (pe_methR (pv 3) T.cl mL GL hr pass0 (pa_cons pe_str pa_nil))))) pss_nil)))), ?_⟩
    have hsa : H c.sa = some (.dK (kvI c.sd)) := hh.get 2 rfl
    refine ⟨_, rfl, c.a, CC, _, _, _, rfl, hh.get 0 rfl, TC.cl, TC.nsurfaces, clientF_surfaces, c.sa, _, ss.map (·.name), rfl, .inl hsa, by rw [hsd]; unfold kvI sdOf; simp, by rw [List.length_map]; omega, fun ys q hperm hord hq => ?_⟩
    have hyl : ys.length ≤ 10 := by rw [hperm.length_eq, List.length_map]; exact hsl
    have h1 : CHas CC CS CL (upd H q (.lst (ys.map V.int))) A ((q, .lst (ys.map V.int)) :: B) c ss := ((hh.unassoc.unassoc.new hq _).assoc).assoc
    refine ⟨q, rfl, ⟨_, SqL.of upd_same⟩, for_list (K := K) (a := q) (xs := ys.map V.int) (fun i σ H1 => ∃ v2 v3 ss1 ns, σ = [some hv, some (.ref c.a), v2, v3] ∧ CoreEq ss ss1 ∧ LaidEq ss ss1 ∧ ns.length ≤ c.notes.length + i ∧ CHas CC CS CL H1 A ((q, .lst (ys.map V.int)) :: B) { c with notes := ns } ss1)
      ⟨_, _, ss, c.notes, rfl, rfl, rfl, by omega, h1⟩ ?_ ?_ ?_⟩
    · rintro i σ H1 _ ⟨_, _, ss1, ns, _, _, _, _, g⟩
      exact SqL.of (g.mem (by simp))
    · rintro i x σ H1 hx ⟨v2, v3, ss1, ns, rfl, ce, le, hns, g⟩
      rw [List.getElem?_map] at hx
      cases en : ys[i]? with
      | none => rw [en] at hx; cases hx
      | some n =>
        rw [en] at hx
        obtain rfl : V.int n = x := Option.some.inj hx
        have hil : i < ys.length := (List.getElem?_eq_some_iff.mp en).1
        have hn : n ∈ ss1.map (·.name) := by rw [core_names ce]; exact hperm.mem_iff.mp (List.mem_of_getElem? en)
        obtain ⟨s, hs, rfl⟩ := List.mem_map.mp hn
        have nn1 : (ss1.map (·.name)).Nodup := by rw [core_names ce]; exact hnn
        have es := findN_mem nn1 hs
        obtain ⟨j, hj, ej'⟩ := List.getElem_of_mem hs
        have ej : ss1[j]? = some s := by rw [List.getElem?_eq_getElem hj, ej']
        have hd : H1 c.sa = some (.dK (kvI (sdOf ss1))) := by rw [core_sd ce, ← hsd]; exact g.get 2 rfl
        have hso := (chas_at g ej).1
        refine ⟨_, rfl, c.a, CC, _, _, _, rfl, g.get 0 rfl, TC.cl, TC.nsurfaces, clientF_surfaces, _, rfl, c.sa, V.ref s.a, rfl, dget_sd hd es, ?_⟩
        refine ⟨_, rfl, s.a, CS, _, _, _, rfl, hso, T.cl, T.nnewly, surfF_newly_shown, _, rfl, ?_⟩
        cases hnw : s.newly with
        | false =>
          refine iteF ?_
          exact ⟨_, _, ss1, ns, rfl, ce, le, by omega, g⟩
        | true =>
          refine iteT ?_
          refine ⟨_, rfl, s.a, CS, _, _, rfl, hso, T.cl, T.nnewly, surfF_few, ?_⟩
          have g1 := (g.unassoc.out ej).set 0 rfl (.ins CS s.dx (putF "newly_shown" (.bl false) (surfF s.owner s.name s.there (oref s.top) s.pa s.pend.a (oref (s.ready.map (·.a))) (oref (s.shown.map (·.a))) s.newly s.lx s.ly)))
          rw [surfF_pnewly_shown] at g1 ⊢
          have g2 : Has _ (((A ++ cliCells CC { c with notes := ns }) ++ (ss1.take j).flatMap (surfCells CS CL)) ++ (surfCells CS CL { s with newly := false } ++ ((ss1.drop (j + 1)).flatMap (surfCells CS CL) ++ ((q, .lst (ys.map V.int)) :: B)))) := g1
          have g3 := g2.assoc.assoc
          refine ⟨_, rfl, s.a, s.dx, _, rfl, g2.hd, by kernel_rfl, A, _, _, { c with notes := ns }, { s with newly := false }, _, [], rfl, g3, core_own ce how s hs, by simp, by show ns.length < 100000; omega, fun t H2 ht g4 => ?_⟩
          have e1 : CliH.heard { c with notes := ns } t = { c with notes := ns ++ [t] } := by unfold CliH.heard; rw [if_neg (by rw [hfal]; simp)]
          rw [e1] at g4
          have g5 := (Has.back ej (g4.unassoc.unassoc)).assoc
          exact ⟨_, _, ss1.set j { s with newly := false }, ns ++ [t], rfl, ce.set ej rfl, le.set ej rfl rfl rfl, by rw [List.length_append]; simp; omega, g5⟩
    · rintro σ H1 ⟨_, _, ss1, ns, rfl, ce, le, hns, g⟩
      rw [List.length_map] at hns
      exact k ss1 ns H1 ce le (by omega) (g.sub (List.Sublist.append_left (List.Sublist.append_left (List.Sublist.append_left (List.sublist_cons_self _ _) _) _) _))
end
end SH
set_option Elab.async false
set_option linter.all false
set_option maxRecDepth 100000
namespace SH
open PySem PySem.Spec PyProof.Rows L2
theorem loc_of {ps : Ps} {p : CliH × List SurfR} {s : SurfR} (w : SWf p.1.a p.2) (hp : p ∈ ps) (hs : s ∈ p.2) : ∃ j i, Loc ps s.a j i p.1 p.2 s := by
  obtain ⟨j, hj, ej⟩ := List.getElem_of_mem hp
  obtain ⟨i, hi, ei⟩ := List.getElem_of_mem hs
  exact ⟨j, i, by rw [List.getElem?_eq_getElem hj, ej], by rw [List.getElem?_eq_getElem hi, ei], rfl, w.ow s hs⟩
theorem BeatP.as {ps pi : Ps} {n : Nat} (h : BeatP ps pi n) : pi.map (·.1.a) = ps.map (·.1.a) := by
  apply List.ext_getElem?
  intro j
  rw [List.getElem?_map, List.getElem?_map]
  cases e : ps[j]? with
  | none =>
    have : pi[j]? = none := List.getElem?_eq_none_iff.mpr (by rw [h.1]; exact List.getElem?_eq_none_iff.mp e)
    rw [this]
  | some p =>
    obtain ⟨p', e', r⟩ := h.2 j p e
    obtain ⟨ns, ec, _⟩ := r.c
    rw [e']
    exact congrArg some (show p'.1.a = p.1.a by rw [ec])
theorem laidM_mem {CC CS CL : Addr} {H : Hp} {A B : Cells} {ps : Ps} (g : Has H (A ++ (cliAll CC CS CL ps ++ B))) (w : PsW ps) : ∀ q ∈ laidM ps, ∃ s l, stM ps q.1 = some s ∧ s.shown = some l := layT_mem 3 (m_roots g w)
section
variable {P : Program} {w : World} {K : PySem.W.Frag} {mg : Str → Option Value} {base : Heap}
def spHBeatM (CH CD CN CC CS CL : Addr) : Sp := fun vs H Q _ => ∃ (A B : Cells) (h : HouH) (s : ScrH) (ps : Ps), vs = [.ref h.a] ∧ MH CH CD CC CS CL H A h ps (scrCells CN s ++ B) ∧ h.ca = ps.map (·.1.a) ∧ ps.length ≤ 5 ∧ h.sc = s.a ∧ PsW ps ∧ NWf s ∧ (∀ p ∈ ps, p.1.fallen = false ∧ p.1.notes.length ≤ 90000) ∧
  (∀ q ∈ laidM ps, -1000 ≤ q.2.1 ∧ q.2.1 ≤ 1000 ∧ -1000 ≤ q.2.2 ∧ q.2.2 ≤ 1000) ∧ ((laidM ps).map (·.1)).Nodup ∧
  ∀ ps' (s0 : ScrH) H' l, BeatP ps ps' 10 → LaidAt ps' (laidM ps) → SameScr s s0 → NWf s0 → (∀ r ∈ s0.rows, r.2 = List.replicate s.wide.toNat 0) → (∀ r ∈ s0.srows, r.2 = List.replicate s.wide.toNat V.non) → MH CH CD CC CS CL H' A h ps' (scrCells CN (paintAll (lkM ps) s0 (laidM ps)) ++ B) → Q (.ref l) H'
theorem ok_hbeatM {f CH CD CN CC CS CL fY fT fR : Addr} {fd fdY fdT fdR : FuncData} (F : Fun K "beat" "House.beat" sHBeat f fd) (T : TxtH K mg CH) (TN : TxtN K mg CN) (TC : TxtC K mg CC) (TS : TxtS K mg CS)
    (GY : FnOk P w K mg base CX0 9 fY fdY ["clients"] (spLayers CC CS CL 3)) (bY : Binds K fdY ["clients"] []) (gY : mg "layers" = some (.ref fY)) (kY : PySem.W.keepIn K (.ref fY) = true)
    (GT : FnOk P w K mg base CX0 3 fT fdT ["self", "client"] (spHShown2 CC CS CL)) (bT : Binds K fdT ["self", "client"] []) (mT : Meth K CH "_tell_shown" fT)
    (GR : FnOk P w K mg base CX0 3 fR fdR ["self", "laid"] (spRep CN CS CL)) (bR : Binds K fdR ["self", "laid"] []) (mR : Meth K CN "repaint" fR) :
    FnOk P w K mg base CX0 10 f fd ["self"] (spHBeatM CH CD CN CC CS CL) := by
  have GT := keep_t GT
  refine F.ok scHBeat (fun vs H Q E h => ?_) (fun cdv A0 outer s0 H vs Q E hr h => ?_)
  · obtain ⟨A, B, h, s, ps, rfl, _⟩ := h
    rfl
  · obtain ⟨A, B, h, s, ps, rfl, hh, hca, hpl, hsc, pw, nw, hnt, hbnd, hnd, k⟩ := h
    refine ⟨_, pss_cons (ps_set (i := 1) scHBeat.nd rfl (Or.inl rfl) (pe_call GY hr rfl gY kY bY .nil pass0 (pa_cons (pe_fld (pv 0) rfl) pa_nil)))
      (pss_cons (ps_for PassesOwn.never rfl (pi_list (pv 1)) (pg_tup rfl (pgs_cons (pg_name (i := 2) scHBeat.nd rfl (Or.inl rfl)) (pgs_cons (pg_name (i := 3) scHBeat.nd rfl (Or.inl rfl)) (pgs_cons (pg_name (i := 4) scHBeat.nd rfl (Or.inl rfl)) pgs_nil))))
        (pss_cons (ps_fld (pv 2) (pv 3) rfl) (pss_one (ps_fld (pv 2) (pv 4) rfl))))
      (pss_cons (ps_for PassesOwn.never rfl (pi_list (pe_fld (pv 0) rfl)) (pg_name (i := 5) scHBeat.nd rfl (Or.inl rfl))
        (pss_one (ps_expr (pe_meth (pv 0) T.cl mT GT (hr.mono (by decide)) bT .nil pass0 (pa_cons (pv 5) pa_nil)))))
      (pss_one (ps_ret (pe_meth (pe_fld (pv 0) rfl) TN.cl mR GR (hr.mono (by decide)) bR .nil pass0 (pa_cons (pv 1) pa_nil)))))), ?_⟩
    obtain ⟨h1, h2⟩ := mh_h hh
    have hin := mh_in hh
    have hcl : H h.cl = some (.lst ((csOf ps).map fun c => .ref c.1)) := by rw [h2, hca]; unfold csOf; rw [List.map_map, List.map_map]; rfl
    refine ⟨_, rfl, h.a, CH, _, _, _, rfl, h1, T.cl, T.nclients, houseF__clients, numM ps, stM ps, h.cl, csOf ps, rfl, m_rl hin pw, hcl, by unfold csOf; rw [List.length_map]; exact hpl, m_cl hin pw, m_sa hin, m_roots hin pw, by decide, fun H1 ll ts s1 hl0 hl1 ht1 => ?_⟩
    have ht1 : TupsAt H1 ts (laidM ps) := ht1
    have hmem := laidM_mem hin pw
    generalize hqs : laidM ps = qs at ht1 hmem hbnd hnd k
    have g1 : MH CH CD CC CS CL H1 ((ll, .lst (ts.map V.ref)) :: A) h ps (scrCells CN s ++ B) := hh.add hl0 s1 hl1
    generalize hA' : ((ll, HO.lst (ts.map V.ref)) :: A) = A' at g1
    have hll : ∀ {H2 ps2}, MH CH CD CC CS CL H2 A' h ps2 (scrCells CN s ++ B) → H2 ll = some (.lst (ts.map V.ref)) := fun g => g.mem (by rw [← hA']; simp)
    have hql := paired_len ht1
    refine ⟨_, rfl, ll, rfl, ⟨_, SqL.of hl1⟩, for_list (K := K) (a := ll) (xs := ts.map V.ref) (fun i σ H2 => ∃ a b d pi, σ = [some (.ref h.a), some (.ref ll), a, b, d, none] ∧ BeatP ps pi 0 ∧ LaidAt pi (qs.take i) ∧ KeepT H1 H2 ∧ MH CH CD CC CS CL H2 A' h pi (scrCells CN s ++ B))
      ⟨_, _, _, ps, rfl, BeatP.refl ps, (by intro q hq; simp at hq), KeepT.refl _, g1⟩ ?_ ?_ ?_⟩
    · rintro i σ H2 _ ⟨_, _, _, pi, _, _, _, _, g⟩
      exact SqL.of (hll g)
    · rintro i x σ H2 hx ⟨a, b, d, pi, rfl, bp, la, k2, g⟩
      rw [List.getElem?_map] at hx
      cases ea : ts[i]? with
      | none => rw [ea] at hx; cases hx
      | some t =>
        rw [ea] at hx
        obtain rfl : V.ref t = x := Option.some.inj hx
        have hil : i < qs.length := by rw [← hql]; exact (List.getElem?_eq_some_iff.mp ea).1
        have eq : qs[i]? = some qs[i] := List.getElem?_eq_getElem hil
        have ht := k2 _ _ (paired_ix (R := fun (t : Addr) (q : Addr × Int × Int) => H1 t = some (.tup [.ref q.1, .int q.2.1, .int q.2.2])) ht1 ea eq)
        obtain ⟨s', l', es', _⟩ := hmem _ (List.mem_of_getElem? eq)
        generalize hq : qs[i] = q at eq ht es'
        obtain ⟨q1, q2, q3⟩ := q
        obtain ⟨u, eu, ecu⟩ := core_get bp.coreEq es'
        obtain ⟨eua, ⟨c, ss⟩, hp, hu⟩ := stM_get (ps := pi) eu
        have eua : u.a = q1 := eua
        subst eua
        have pw1 := bp.psw pw
        obtain ⟨j, iu, L⟩ := loc_of (pw1 _ hp).1 hp hu
        have g' := loc_has (mh_in g) L
        have g'' := g'.unassoc.unassoc
        have hso := loc_obj (mh_in g) L
        refine ⟨t, _, rfl, SqT.of ht, rfl, _, _, rfl, _, _, rfl, _, _, rfl, rfl, ?_⟩
        refine ⟨_, rfl, _, rfl, u.a, CS, _, _, rfl, hso, TS.cl, TS.nlx, surfF_few, ?_⟩
        have g2 := g''.set 0 rfl (.ins CS u.dx (putF "laid_x" (.int q2) (surfF u.owner u.name u.there (oref u.top) u.pa u.pend.a (oref (u.ready.map (·.a))) (oref (u.shown.map (·.a))) u.newly u.lx u.ly)))
        have k3 := k2.trans (KeepT.wr hso (.ins CS u.dx (putF "laid_x" (.int q2) (surfF u.owner u.name u.there (oref u.top) u.pa u.pend.a (oref (u.ready.map (·.a))) (oref (u.shown.map (·.a))) u.newly u.lx u.ly))))
        rw [surfF_plaid_x] at g2 k3 ⊢
        refine ⟨_, rfl, _, rfl, u.a, CS, _, _, rfl, g2.hd, TS.cl, TS.nly, surfF_few, ?_⟩
        have k4 := k3.trans (KeepT.wr g2.hd (.ins CS u.dx (putF "laid_y" (.int q3) (surfF u.owner u.name u.there (oref u.top) u.pa u.pend.a (oref (u.ready.map (·.a))) (oref (u.shown.map (·.a))) u.newly q2 u.ly))))
        have g3 := g2.set 0 rfl (.ins CS u.dx (putF "laid_y" (.int q3) (surfF u.owner u.name u.there (oref u.top) u.pa u.pend.a (oref (u.ready.map (·.a))) (oref (u.shown.map (·.a))) u.newly q2 u.ly)))
        rw [surfF_plaid_y] at g3 k4 ⊢
        have g4 := loc_backS (u' := { u with lx := q2, ly := q3 }) L (g3.assoc.assoc)
        have bp' : BeatP ps (pi.set j (c, ss.set iu { u with lx := q2, ly := q3 })) 0 := bp.set L.hj L.hi rfl
        have hjl := (List.getElem?_eq_some_iff.mp L.hj).1
        have hil2 := (List.getElem?_eq_some_iff.mp L.hi).1
        refine ⟨_, _, _, pi.set j (c, ss.set iu { u with lx := q2, ly := q3 }), rfl, bp', ?_, k4, g4.assoc⟩
        have nd := surf_nd g4
        have hmu : ({ u with lx := q2, ly := q3 } : SurfR) ∈ surfs (pi.set j (c, ss.set iu { u with lx := q2, ly := q3 })) := by
          refine List.mem_flatMap.mpr ⟨(c, ss.set iu { u with lx := q2, ly := q3 }), List.mem_of_getElem? (List.getElem?_set_self hjl), ?_⟩
          exact List.mem_of_getElem? (List.getElem?_set_self hil2)
        intro q hq p2 hp2 s2 hs2 e2
        have hs2' : s2 ∈ surfs (pi.set j (c, ss.set iu { u with lx := q2, ly := q3 })) := List.mem_flatMap.mpr ⟨p2, hp2, hs2⟩
        by_cases z : s2.a = u.a
        · have : s2 = { u with lx := q2, ly := q3 } := uni_of nd hs2' hmu z
          have qm : q ∈ qs := List.mem_of_mem_take hq
          have : q = (u.a, q2, q3) := by
            obtain ⟨i1, hi1, ei1⟩ := List.getElem_of_mem qm
            have : i1 = i := nd_ix hnd (by rw [List.getElem?_map, List.getElem?_eq_getElem hi1, ei1]; rfl) (by rw [List.getElem?_map, eq]; show some u.a = some q.1; rw [← e2, z])
            subst this
            rw [List.getElem?_eq_getElem hi1, ei1] at eq
            exact Option.some.inj eq
          subst this
          rw [‹s2 = _›]
          exact ⟨rfl, rfl⟩
        · rw [List.take_add_one, eq, List.mem_append] at hq
          rcases hq with hq | hq
          · rcases List.mem_or_eq_of_mem_set hp2 with h | h
            · exact la q hq p2 h s2 hs2 e2
            · subst h
              rcases List.mem_or_eq_of_mem_set hs2 with h | h
              · exact la q hq _ (List.mem_of_getElem? L.hj) s2 h e2
              · rw [h] at z; exact absurd rfl z
          · have : q = (u.a, q2, q3) := by simpa using hq
            subst this
            exact absurd e2 z
    · rintro σ H2 ⟨a, b, d, pi, rfl, bp1, la1, k2, g2⟩
      rw [List.length_map, hql, List.take_length] at la1
      have hcl2 : H2 h.cl = some (.lst (h.ca.map V.ref)) := (mh_h g2).2
      refine ⟨_, rfl, h.a, CH, _, _, _, rfl, (mh_h g2).1, T.cl, T.nclients, houseF__clients, _, rfl, ⟨_, SqL.of hcl2⟩, for_list (K := K) (a := h.cl) (xs := h.ca.map V.ref) (fun i σ H3 => ∃ a b d e pk, σ = [some (.ref h.a), some (.ref ll), a, b, d, e] ∧ BeatP ps pk 10 ∧ LaidAt pk qs ∧ (∀ (j : Nat) p p', i ≤ j → ps[j]? = some p → pk[j]? = some p' → p'.1.notes.length ≤ 90000 ∧ ∃ ns, p'.1 = { p.1 with notes := ns } ∧ ns.length ≤ p.1.notes.length) ∧ KeepT H1 H3 ∧ MH CH CD CC CS CL H3 A' h pk (scrCells CN s ++ B))
        ⟨_, _, _, _, pi, rfl, ⟨bp1.1, fun j p e => ?_⟩, la1, ?_, k2, g2⟩ (fun i σ H3 _ p => ?_) ?_ ?_⟩
      · obtain ⟨p', e', r⟩ := bp1.2 j p e
        obtain ⟨ns, ec, hl⟩ := r.c
        exact ⟨p', e', ⟨ns, ec, by omega⟩, r.s⟩
      · intro j p p' _ e e'
        obtain ⟨p2, e2, r⟩ := bp1.2 j p e
        rw [e'] at e2
        cases e2
        obtain ⟨ns, ec, hl⟩ := r.c
        have := (hnt p (List.mem_of_getElem? e)).2
        exact ⟨by rw [ec]; show ns.length ≤ 90000; omega, ns, ec, by omega⟩
      · obtain ⟨_, _, _, _, _, _, _, _, _, _, g⟩ := p
        exact SqL.of (mh_h g).2
      · rintro i x σ H3 hx ⟨a, b, d, e, pk, rfl, bp, la, un, k3, g⟩
        rw [List.getElem?_map, hca, List.getElem?_map] at hx
        cases ep : ps[i]? with
        | none => rw [ep] at hx; cases hx
        | some p =>
          rw [ep] at hx
          obtain rfl : V.ref p.1.a = x := Option.some.inj hx
          obtain ⟨⟨c, ss⟩, ek, r⟩ := bp.2 i p ep
          obtain ⟨hn9, ns, ec, hns⟩ := un i p _ (Nat.le_refl _) ep ek
          have ec : c = { p.1 with notes := ns } := ec
          have w1 := (bp.psw pw) _ (List.mem_of_getElem? ek)
          have hca2 : c.a = p.1.a := by rw [ec]
          have hfal : c.fallen = false := by rw [ec]; exact (hnt p (List.mem_of_getElem? ep)).1
          refine ⟨_, rfl, h.a, _, _, rfl, (mh_h g).1, by kernel_rfl, _, rfl, _, _, c, ss, .ref h.a, congrArg (fun z => [V.ref h.a, V.ref z]) hca2.symm, mh_out g ek, w1.2, w1.1.ow, w1.1.nn, w1.1.slen, hfal, hn9, fun ss2 ns2 H4 ce2 le2 hn2 g4 k4 => ?_⟩
          have g5 := mh_back ek g4
          refine ⟨_, _, _, _, pk.set i ({ c with notes := ns2 }, ss2), rfl, ⟨by rw [List.length_set]; exact bp.1, fun j p2 ej => ?_⟩, ?_, ?_, k3.trans k4, g5⟩
          · by_cases q : i = j
            · subst q
              rw [ep] at ej
              cases ej
              refine ⟨_, List.getElem?_set_self (List.getElem?_eq_some_iff.mp ek).1, ⟨ns2, by rw [ec], ?_⟩, r.s.trans ce2⟩
              have hn2 : ns2.length ≤ c.notes.length + 10 := hn2
              rw [ec] at hn2
              have hn2 : ns2.length ≤ ns.length + 10 := hn2
              omega
            · obtain ⟨p', e', r'⟩ := bp.2 j p2 ej
              exact ⟨p', by rw [List.getElem?_set_ne q]; exact e', r'⟩
          · intro q hq p2 hp2 s2 hs2 e2
            rcases List.mem_or_eq_of_mem_set hp2 with z | z
            · exact la q hq p2 z s2 hs2 e2
            · subst z
              obtain ⟨s3, hs3, e3, e4, e5⟩ := le2.back hs2
              have := la q hq _ (List.mem_of_getElem? ek) s3 hs3 (e3.trans e2)
              rw [← e4, ← e5]; exact this
          · intro j p2 p3 hij e2 e3
            rw [List.getElem?_set_ne (by omega)] at e3
            exact un j p2 p3 (by omega) e2 e3
      · rintro σ H3 ⟨a, b, d, e, pk, rfl, bp, la, _, k3, g3⟩
        have pw2 := bp.psw pw
        have gp : Has H3 ([] ++ (scrCells CN s ++ ((A' ++ houCells CH CD h) ++ (cliAll CC CS CL pk ++ B)))) := by
          refine Has.perm g3 ?_
          show (A' ++ (houCells CH CD h ++ (cliAll CC CS CL pk ++ (scrCells CN s ++ B)))).Perm _
          rw [← List.append_assoc]
          exact (List.Perm.append_left _ (List.perm_append_comm_assoc _ _ _)).trans (List.perm_append_comm_assoc _ _ _)
        have hsa : H3 s.a = some (.ins CN s.dx (screenF s.wide s.high s.ma s.so)) := gp.get 0 rfl
        refine ⟨_, rfl, h.a, CH, _, _, _, rfl, (mh_h g3).1, T.cl, T.nscreen, houseF__screen, s.a, _, _, congrArg V.ref hsc, hsa, by kernel_rfl, _, rfl, [], _, s, ll, ts, qs, lkM ps, congrArg (fun x => [V.ref x, V.ref ll]) hsc, gp, nw, by rw [← hA']; simp, ht1.keepT k3, fun q hq => ⟨hbnd q hq, ?_⟩, fun z0 H4 l us z1 z2 z3 z4 _ g4 _ => ?_⟩
        · obtain ⟨s', l', es', el'⟩ := hmem q hq
          obtain ⟨u, eu, ecu⟩ := core_get bp.coreEq es'
          obtain ⟨eua, ⟨c, ss⟩, hp, hu⟩ := stM_get (ps := pk) eu
          have hu1 : (core u).shown = (core s').shown := by rw [ecu]
          have hu1 : u.shown = s'.shown := hu1
          obtain ⟨j, iu, L⟩ := loc_of (pw2 _ hp).1 hp hu
          refine ⟨((A' ++ houCells CH CD h) ++ ((pk.take j).flatMap (pCells CC CS CL) ++ (cliCells CC c ++ (ss.take iu).flatMap (surfCells CS CL)))), (ss.drop (iu + 1)).flatMap (surfCells CS CL) ++ ((pk.drop (j + 1)).flatMap (pCells CC CS CL) ++ B), u, l', ?_, eua, hu1.trans el', ?_, (pw2 _ hp).1.shown u hu l' (hu1.trans el')⟩
          · have e1 : cliAll CC CS CL pk = (pk.take j).flatMap (pCells CC CS CL) ++ ((cliCells CC c ++ allCells CS CL ss) ++ (pk.drop (j + 1)).flatMap (pCells CC CS CL)) := split_at (g := pCells CC CS CL) L.hj
            rw [e1, show allCells CS CL ss = _ from split_at (g := surfCells CS CL) L.hi]
            simp [List.append_assoc]
          · unfold lkM
            rw [es']; exact el'
        · refine k pk z0 H4 l bp la z1 z2 z3 z4 ?_
          have g5 := g4.sub (List.sublist_cons_self _ _)
          have g6 : Has H4 (A' ++ (houCells CH CD h ++ (cliAll CC CS CL pk ++ (scrCells CN (paintAll (lkM ps) z0 qs) ++ B)))) := by
            refine Has.perm g5 ?_
            show (scrCells CN (paintAll (lkM ps) z0 qs) ++ ((A' ++ houCells CH CD h) ++ (cliAll CC CS CL pk ++ B))).Perm _
            refine List.Perm.trans (List.perm_append_comm_assoc _ _ _) ?_
            rw [List.append_assoc]
            refine List.Perm.append_left _ (List.Perm.append_left _ (List.perm_append_comm_assoc _ _ _))
          rw [← hA'] at g6
          exact g6.sub (List.sublist_cons_self _ _)
end
end SH
set_option Elab.async false
set_option linter.all false
set_option maxRecDepth 100000
namespace SH
open PySem PySem.Spec PyProof.Rows L2
abbrev sHTouch : Stmt := inClass (top 39) 12
abbrev houA (CH : Addr) (h : HouH) : Cells := [(h.a, .ins CH h.dx (houseF h.sc h.cl h.ha)), (h.cl, .lst (h.ca.map V.ref))]
def hnd (h : HouH) : HandH := ⟨h.ha, h.hdx, h.fa⟩
abbrev TW (CH CD CN CC CS CL : Addr) (H : Hp) (A : Cells) (h : HouH) (s : ScrH) (foc : Option Addr) (fing : List (Int × Option Addr)) (ps : Ps) (B : Cells) : Prop := HW CD CC CS CL H (A ++ (houA CH h ++ scrCells CN s)) (hnd h) foc fing ps B
theorem tw_of {CH CD CN CC CS CL : Addr} {H : Hp} {A B : Cells} {h : HouH} {s : ScrH} {ps : Ps} (g : MH CH CD CC CS CL H A h ps (scrCells CN s ++ B)) : TW CH CD CN CC CS CL H A h s none [] ps B := by
  refine Has.perm g ?_
  show (A ++ ((houA CH h ++ handCells CD (hnd h) none []) ++ (cliAll CC CS CL ps ++ (scrCells CN s ++ B)))).Perm ((((A ++ (houA CH h ++ scrCells CN s)) ++ handCells CD (hnd h) none [])) ++ (cliAll CC CS CL ps ++ B))
  classical
  exact List.perm_iff_count.mpr fun c => by simp only [List.count_append]; omega
theorem tw_h {CH CD CN CC CS CL : Addr} {H : Hp} {A B : Cells} {h : HouH} {s : ScrH} {foc : Option Addr} {fing : List (Int × Option Addr)} {ps : Ps} (g : TW CH CD CN CC CS CL H A h s foc fing ps B) :
    H h.a = some (.ins CH h.dx (houseF h.sc h.cl h.ha)) ∧ H h.cl = some (.lst (h.ca.map V.ref)) ∧ H s.a = some (.ins CN s.dx (screenF s.wide s.high s.ma s.so)) ∧ H s.so = some (.lst (s.srows.map fun r => V.ref r.1)) ∧ (∀ r ∈ s.srows, H r.1 = some (.lst r.2)) :=
  ⟨g.mem (by simp), g.mem (by simp), g.mem (by simp [scrCells]), g.mem (by simp [scrCells]), fun r hr => g.mem (by
    refine List.mem_append_left _ (List.mem_append_left _ (List.mem_append_right _ (List.mem_append_right _ ?_)))
    refine List.mem_cons_of_mem _ (List.mem_cons_of_mem _ (List.mem_cons_of_mem _ (List.mem_append_right _ ?_)))
    exact List.mem_map_of_mem (f := rowV) hr)⟩
section
variable {P : Program} {w : World} {K : PySem.W.Frag} {mg : Str → Option Value} {base : Heap}
theorem scHTouch : FnScope ["self", "what", "finger", "x", "y"] ["self", "what"] (defScope sHTouch) := ⟨rfl, rfl, rfl, by decide +kernel, rfl, by decide +kernel, by decide +kernel⟩
def spHTouch (CH CD CN CC CS CL : Addr) : Sp := fun vs H Q _ => ∃ (A B : Cells) (h : HouH) (s : ScrH) (foc : Option Addr) (ps : Ps) (n : Nat) (t : Addr) (f : Int) (sa : Option Addr) (who whoF : Option (Nat × SurfR)), vs = [.ref h.a, .ref t] ∧ h.sc = s.a ∧ PsOk ps n ∧ n + 3 < 100000 ∧ AtS ps sa who ∧
  ((∃ (px py : Int) (r : Addr × List V), TW CH CD CN CC CS CL H A h s foc [] ps B ∧ H t = some (.tup (Tc.down f px py).vals) ∧ (Tc.down f px py).ok s.wide s.high ∧ 0 ≤ px ∧ 0 ≤ py ∧ AtS ps foc whoF ∧ s.srows[py.toNat]? = some r ∧ r.2[px.toNat]? = some (oref sa) ∧ (∀ wh, who = some wh → wh.2.there = true) ∧
      ∀ ex ps' H', NoDown ex → (∀ j, (ex j).length ≤ 2) → Hears H' ps ps' (fun j => ex j ++ exOf who (fun u => [.str "down", .int u.name, .int f, .int (px - u.lx), .int (py - u.ly)]) j) → TW CH CD CN CC CS CL H' A h s sa [(f, sa)] ps' B → Q .non H') ∨
   (TW CH CD CN CC CS CL H A h s foc [(f, sa)] ps B ∧ H t = some (.tup (Tc.up f).vals) ∧ (Tc.up f).ok s.wide s.high ∧
      ∀ ps' H', Hears H' ps ps' (exOf who fun u => [.str "up", .int u.name, .int f]) → TW CH CD CN CC CS CL H' A h s foc [] ps' B → Q .non H'))
theorem ok_htouch {f CH CD CN CC CS CL fI fD fP fL fS : Addr} {fd fdI fdD fdP fdL fdS : FuncData} (F : Fun K "touch" "House.touch" sHTouch f fd) (T : TxtH K mg CH) (TN : TxtN K mg CN) (TD : TxtD K mg CD)
    (GI : FnOk P w K mg base CX0 3 fI fdI ["what", "wide", "high"] spIT) (bI : Binds K fdI ["what", "wide", "high"] []) (gI : mg "is_touch" = some (.ref fI)) (kI : PySem.W.keepIn K (.ref fI) = true)
    (GD : FnOk P w K mg base CX0 1 fD fdD ["self", "finger"] (spHaDown CD)) (bD : Binds K fdD ["self", "finger"] []) (mD : Meth K CD "is_down" fD)
    (GP : FnOk P w K mg base CX0 4 fP fdP ["self", "finger", "seen", "x", "y"] (spHaPut CD CC CS CL)) (bP : Binds K fdP ["self", "finger", "seen", "x", "y"] []) (mP : Meth K CD "put_down" fP)
    (GL : FnOk P w K mg base CX0 3 fL fdL ["self", "finger"] (spHaLift CD CC CS CL)) (bL : Binds K fdL ["self", "finger"] []) (mL : Meth K CD "lift" fL)
    (GS : FnOk P w K mg base CX0 1 fS fdS ["self", "x", "y"] (spNSeen CN CS)) (bS : Binds K fdS ["self", "x", "y"] []) (mS : Meth K CN "seen_at" fS) :
    FnOk P w K mg base CX0 5 f fd ["self", "what"] (spHTouch CH CD CN CC CS CL) := by
  refine F.ok scHTouch (fun vs H Q E h => ?_) (fun cdv A0 outer s0 H vs Q E hr h => ?_)
  · obtain ⟨A, B, h, s, foc, ps, n, t, f, sa, who, whoF, rfl, _⟩ := h
    rfl
  · obtain ⟨A, B, h, s, foc, ps, n, t, f, sa, who, whoF, rfl, hsc, ok, hn, hat, hD⟩ := h
    refine ⟨_, pss_cons (ps_if (pt_not (pt_val (pe_call GI (hr.mono (by decide)) rfl gI kI bI .nil pass0 (pa_cons (pv 1) (pa_cons (pe_fld (pe_fld (pv 0) rfl) rfl) (pa_cons (pe_fld (pe_fld (pv 0) rfl) rfl) pa_nil)))))) pss_never pss_nil)
      (pss_cons (ps_set (i := 2) scHTouch.nd rfl (Or.inl rfl) (pe_ix ix_tup (pv 1) pe_int (fun _ _ => rfl)))
      (pss_cons (ps_if (pt_cmpR op_eq (pe_meth (pe_fld (pv 0) rfl) TD.cl mD GD (hr.mono (by decide)) bD .nil pass0 (pa_cons (pv 2) pa_nil)) (pe_cmpR op_eq (pe_ix ix_tup (pv 1) pe_int (fun _ _ => rfl)) pe_str (nomark _)) (nomark _)) pss_never pss_nil)
      (pss_one (ps_match (pv 1) <|
        pcs_seq rfl (.wild <| .cap (i := 3) scHTouch.nd rfl (Or.inl rfl) (Or.inr rfl) <| .cap (i := 4) scHTouch.nd rfl (Or.inl rfl) (Or.inr rfl) .nil)
          (pss_one (ps_expr (pe_meth (pe_fld (pv 0) rfl) TD.cl mP GP hr bP .nil pass0 (pa_cons (pv 2) (pa_cons (pe_meth (pe_fld (pv 0) rfl) TN.cl mS GS (hr.mono (by decide)) bS .nil pass0 (pa_cons (pv 3) (pa_cons (pv 4) pa_nil))) (pa_cons (pv 3) (pa_cons (pv 4) pa_nil))))))) <|
        pcs_seq rfl (.wild <| .cap (i := 3) scHTouch.nd rfl (Or.inl rfl) (Or.inr rfl) <| .cap (i := 4) scHTouch.nd rfl (Or.inl rfl) (Or.inr rfl) .nil) pss_never <|
        pcs_any (rest := []) (pss_one (ps_expr (pe_meth (pe_fld (pv 0) rfl) TD.cl mL GL (hr.mono (by decide)) bL .nil pass0 (pa_cons (pv 2) pa_nil)))))))), ?_⟩
    have go : ∀ (c : Tc) (fing : List (Int × Option Addr)), TW CH CD CN CC CS CL H A h s foc fing ps B → H t = some (.tup c.vals) → c.ok s.wide s.high → True := fun _ _ _ _ _ => trivial
    rcases hD with ⟨px, py, r, g, ht, hc, x0, y0, haf, e1, e2, hth, k⟩ | ⟨g, ht, hc, k⟩
    · obtain ⟨h1, h2, h3, h4, h5⟩ := tw_h g
      refine ⟨_, rfl, _, rfl, h.a, CH, _, _, _, rfl, h1, T.cl, T.nscreen, houseF__screen, s.a, CN, _, _, _, congrArg V.ref hsc, h3, TN.cl, TN.nwide, screenF_wide, _, rfl, h.a, CH, _, _, _, rfl, h1, T.cl, T.nscreen, houseF__screen, s.a, CN, _, _, _, congrArg V.ref hsc, h3, TN.cl, TN.nhigh, screenF_high, t, Tc.down f px py, _, _, rfl, ht, hc, fun H1 s1 => ?_⟩
      refine ⟨_, rfl, iteF ?_⟩
      have g1 : TW CH CD CN CC CS CL H1 A h s foc [] ps B := Has.same g s1
      obtain ⟨h1, h2, h3, h4, h5⟩ := tw_h g1
      obtain ⟨d1, d2⟩ := hw_h g1
      have ht1 := s1 _ _ ht
      refine ⟨_, rfl, _, _, _, V.int f, rfl, rfl, SqT.of ht1, at_of (j := 1) rfl rfl, ?_⟩
      refine ⟨_, rfl, h.a, CH, _, _, _, rfl, h1, T.cl, T.nhands, houseF__hands, h.ha, _, _, rfl, d1, by kernel_rfl, _, rfl, hnd h, _, [], f, rfl, d1, d2, ?_⟩
      refine ⟨_, rfl, _, _, _, V.str (Tc.down f px py).word, rfl, rfl, SqT.of ht1, at_of (j := 0) rfl rfl, rfl, rfl, _, rfl, ?_⟩
      refine iteF ?_
      refine ⟨_, rfl, t, _, _, rfl, sq_t ht1, ?_⟩
      refine mYes rfl ?_
      refine ⟨_, rfl, h.a, CH, _, _, _, rfl, h1, T.cl, T.nhands, houseF__hands, h.ha, _, _, rfl, d1, by kernel_rfl, _, rfl, _, rfl, h.a, CH, _, _, _, rfl, h1, T.cl, T.nscreen, houseF__screen, s.a, _, _, congrArg V.ref hsc, h3, by kernel_rfl, _, rfl, _, rfl, s, px, py, r, sa, congrArg (fun z => [V.ref z, V.int px, V.int py]) hsc, h3, h4, x0, y0, e1, h5 r (List.mem_of_getElem? e1), e2, fun a ea => ?_, ?_⟩
      · subst ea
        cases who with
        | none => exact (show False from hat).elim
        | some wh =>
          obtain ⟨i, c, ss, L⟩ := id hat
          exact ⟨wh.2, L.ha, loc_obj g1 L, hth wh rfl⟩
      · refine ⟨_, rfl, _, rfl, A ++ (houA CH h ++ scrCells CN s), B, hnd h, foc, ps, n, f, px, py, sa, who, whoF, rfl, g1, ok, hn, hat, haf, fun ex ps' H' nd l2 hh g2 => ?_⟩
        exact k ex ps' H' nd l2 hh g2
    · obtain ⟨h1, h2, h3, h4, h5⟩ := tw_h g
      refine ⟨_, rfl, _, rfl, h.a, CH, _, _, _, rfl, h1, T.cl, T.nscreen, houseF__screen, s.a, CN, _, _, _, congrArg V.ref hsc, h3, TN.cl, TN.nwide, screenF_wide, _, rfl, h.a, CH, _, _, _, rfl, h1, T.cl, T.nscreen, houseF__screen, s.a, CN, _, _, _, congrArg V.ref hsc, h3, TN.cl, TN.nhigh, screenF_high, t, Tc.up f, _, _, rfl, ht, hc, fun H1 s1 => ?_⟩
      refine ⟨_, rfl, iteF ?_⟩
      have g1 : TW CH CD CN CC CS CL H1 A h s foc [(f, sa)] ps B := Has.same g s1
      obtain ⟨h1, h2, h3, h4, h5⟩ := tw_h g1
      obtain ⟨d1, d2⟩ := hw_h g1
      have ht1 := s1 _ _ ht
      refine ⟨_, rfl, _, _, _, V.int f, rfl, rfl, SqT.of ht1, at_of (j := 1) rfl rfl, ?_⟩
      refine ⟨_, rfl, h.a, CH, _, _, _, rfl, h1, T.cl, T.nhands, houseF__hands, h.ha, _, _, rfl, d1, by kernel_rfl, _, rfl, hnd h, _, [(f, sa)], f, rfl, d1, d2, ?_⟩
      refine ⟨_, rfl, _, _, _, V.str (Tc.up f).word, rfl, rfl, SqT.of ht1, at_of (j := 0) rfl rfl, rfl, rfl, _, rfl, ?_⟩
      have hv : (valV (fgK [(f, sa)]) (Sum.inl f : Key)).isSome = true := by rw [show valV (fgK [(f, sa)]) (Sum.inl f : Key) = some (oref sa) from valV_pos rfl]; rfl
      rw [hv]
      refine iteF ?_
      refine ⟨_, rfl, t, _, _, rfl, sq_t ht1, ?_⟩
      refine mNo (by dsimp only [Tc.word]; decide +kernel) (mNo (by dsimp only [Tc.word]; decide +kernel) ?_)
      refine ⟨_, rfl, h.a, CH, _, _, _, rfl, h1, T.cl, T.nhands, houseF__hands, h.ha, _, _, rfl, d1, by kernel_rfl, _, rfl, A ++ (houA CH h ++ scrCells CN s), B, hnd h, foc, ps, n, f, sa, who, rfl, g1, ok, by omega, hat, fun ps' H' hh g2 => ?_⟩
      exact k ps' H' hh g2
end
end SH
set_option Elab.async false
set_option linter.all false
set_option maxRecDepth 100000
namespace SH
open PySem PySem.Spec PyProof.Rows L2
abbrev sAtRest : Stmt := top 41
/-- a client that joined as number k and told nothing that was done -/
structure Fresh (p : CliH × List SurfR) (k : Nat) (row : List Addr) : Prop where
  ss : p.2 = []
  num : p.1.number = (k : Int)
  fal : p.1.fallen = false
  sd : p.1.sd = []
  notes : p.1.notes = []
  row : p.1.row = row
def FreshP (ps : Ps) (rows : Nat → List Addr) : Prop := ∀ (k : Nat) p, ps[k]? = some p → Fresh p k (rows k)
theorem join_perm {CH CD CC CS CL : Addr} {H : Hp} {A B : Cells} {h : HouH} {ps : Ps} {c : CliH} (g : Has H (A ++ (houCells CH CD h ++ (cliCells CC c ++ (cliAll CC CS CL ps ++ B))))) : MH CH CD CC CS CL H A h (ps ++ [(c, [])]) B := by
  refine Has.perm g ?_
  have e : cliAll CC CS CL (ps ++ [(c, [])]) = cliAll CC CS CL ps ++ cliCells CC c := by
    show (ps ++ [(c, [])]).flatMap _ = _
    rw [List.flatMap_append]
    show _ ++ ((cliCells CC c ++ []) ++ []) = _
    rw [List.append_nil, List.append_nil]
  rw [e, List.append_assoc]
  exact List.Perm.append_left _ (List.Perm.append_left _ (List.perm_append_comm_assoc _ _ _))
theorem freshP_join {ps : Ps} {rows : Nat → List Addr} (h : FreshP ps rows) {p dx ra sa na : Addr} (e : rows ps.length = []) : FreshP (ps ++ [(⟨p, dx, ra, sa, na, (ps.length : Nat), false, [], [], []⟩, [])]) rows := by
  intro k q eq
  by_cases hk : k < ps.length
  · rw [List.getElem?_append_left hk] at eq
    exact h k q eq
  · have : k = ps.length := by
      have := (List.getElem?_eq_some_iff.mp eq).1
      simp at this; omega
    subst this
    rw [List.getElem?_append_right (Nat.le_refl _)] at eq
    simp at eq
    subst eq
    exact ⟨rfl, rfl, rfl, rfl, rfl, e.symm⟩
theorem mh_outT {CH CD CC CS CL : Addr} {H : Hp} {A B : Cells} {h : HouH} {ps : Ps} {j : Nat} {c : CliH} {ss : List SurfR} (g : MH CH CD CC CS CL H A h ps B) (e : ps[j]? = some (c, ss)) :
    Has H (A ++ (houCells CH CD h ++ ((ps.take j).flatMap (pCells CC CS CL) ++ (cliCells CC c ++ (allCells CS CL ss ++ mhB CC CS CL ps B j))))) := by
  have := mh_out g e
  exact this.re (by simp [List.append_assoc])
theorem mh_backT {CH CD CC CS CL : Addr} {H : Hp} {A B : Cells} {h : HouH} {ps : Ps} {j : Nat} {p : CliH × List SurfR} {c : CliH} {ss : List SurfR} (e : ps[j]? = some p)
    (g : Has H (A ++ (houCells CH CD h ++ ((ps.take j).flatMap (pCells CC CS CL) ++ (cliCells CC c ++ (allCells CS CL ss ++ mhB CC CS CL ps B j)))))) : MH CH CD CC CS CL H A h (ps.set j (c, ss)) B :=
  mh_back e (g.re (by simp [List.append_assoc]))
abbrev bkRow (b : Addr × List Addr) : Addr × HO := (b.1, HO.lst (b.2.map V.ref))
def bookCells (bl : Addr) (bk : List (Addr × List Addr)) : Cells := (bl, .lst (bk.map fun b => V.ref b.1)) :: bk.map bkRow
theorem book_row {H : Hp} {bl : Addr} {bk : List (Addr × List Addr)} {L : Cells} (g : ∀ c ∈ bookCells bl bk, c ∈ L) (h : Has H L) : H bl = some (.lst (bk.map fun b => V.ref b.1)) ∧ ∀ b ∈ bk, H b.1 = some (.lst (b.2.map V.ref)) :=
  ⟨h.mem (g _ List.mem_cons_self), fun b hb => h.mem (g _ (List.mem_cons_of_mem _ (List.mem_map_of_mem (f := bkRow) hb)))⟩
/-- what the screen comes to, by plain reckoning -/
def ReckM (n : Nat) (zss : Nat → List Lt) (wd hi : Int) (ms : List (List Int)) : Prop := ∀ (ps : Ps), ps.length = n → PsW ps → ((surfs ps).map (·.a)).Nodup → (ps.map (·.1.a)).Nodup → (∀ (k : Nat) p, ps[k]? = some p → p.1.number = (k : Int) ∧ view p.2 = runV [] (zss k)) →
  (∀ q ∈ laidM ps, -1000 ≤ q.2.1 ∧ q.2.1 ≤ 1000 ∧ -1000 ≤ q.2.2 ∧ q.2.2 ≤ 1000) ∧ ((laidM ps).map (·.1)).Nodup ∧
  ∀ s0 : ScrH, NWf s0 → s0.wide = wd → s0.high = hi → (∀ r ∈ s0.rows, r.2 = List.replicate wd.toNat 0) → msOf (paintAll (lkM ps) s0 (laidM ps)).rows = ms
theorem swf_nil (a : Addr) : SWf a [] := ⟨(by simp), (by simp), (by simp), (by simp), by simp, by simp, (by simp), (by simp), (by simp), (by simp), (by simp)⟩
section
variable {P : Program} {w : World} {K : PySem.W.Frag} {mg : Str → Option Value} {base : Heap}
abbrev nRst : List Str := ["wide", "high", "books", "house", "_", "client", "letters", "letter"]
theorem scAtRest : FnScope nRst ["wide", "high", "books"] (defScope sAtRest) := ⟨rfl, rfl, rfl, by decide +kernel, rfl, by decide +kernel, by decide +kernel⟩
def spAtRest : Sp := fun vs H Q _ => ∃ (A : Cells) (bl : Addr) (bk : List (Addr × List Addr)) (zss : Nat → List Lt) (wd hi : Int) (ms : List (List Int)), vs = [.int wd, .int hi, .ref bl] ∧ Has H (bookCells bl bk ++ A) ∧ bk.length ≤ 5 ∧ 1 ≤ wd ∧ wd ≤ 12 ∧ 1 ≤ hi ∧ hi ≤ 8 ∧
  (∀ (k : Nat) b, bk[k]? = some b → RowAt H b.2 (zss k) ∧ RunOk [] (zss k) ∧ b.2.length ≤ 1000) ∧ ReckM bk.length zss wd hi ms ∧
  ∀ H' l (rs : List (Addr × List Int)), Has H' ((l, .lst (rs.map fun r => V.ref r.1)) :: (rs.map rowC ++ (bookCells bl bk ++ A))) → msOf rs = ms → Q (.ref l) H'
theorem ok_atrest {f CH CD CN CC CS CL fH fJ fT fR fB fS : Addr} {fd fdH fdJ fdT fdR fdB fdS : FuncData} (F : Fun K "at_rest" "at_rest" sAtRest f fd) (TH : TxtH K mg CH) (hEn : mg "enumerate" = none)
    (MkH : Mk K CH fH) (GH : FnOk P w K mg base CX0 4 fH fdH ["self", "wide", "high"] (spHInit CH CD CN)) (bH : Binds K fdH ["self", "wide", "high"] [])
    (GJ : FnOk P w K mg base CX0 3 fJ fdJ ["self"] (spHJoin CH CD CC)) (bJ : Binds K fdJ ["self"] []) (mJ : Meth K CH "join" fJ)
    (GT : FnOk P w K mg base CX0 4 fT fdT ["self", "client", "letter"] (spHTell CH CD CC)) (bT : Binds K fdT ["self", "client", "letter"] []) (mT : Meth K CH "tell" fT)
    (GR : FnOk P w K mg base CX0 7 fR fdR ["self"] (spHRestM CH CD CC CS CL)) (bR : Binds K fdR ["self"] []) (mR : Meth K CH "rest" fR)
    (GB : FnOk P w K mg base CX0 10 fB fdB ["self"] (spHBeatM CH CD CN CC CS CL)) (bB : Binds K fdB ["self"] []) (mB : Meth K CH "beat" fB)
    (GS : FnOk P w K mg base CX0 1 fS fdS ["self"] (spHScreen CH CN)) (bS : Binds K fdS ["self"] []) (mS : Meth K CH "screen" fS) :
    FnOk P w K mg base CX0 11 f fd ["wide", "high", "books"] spAtRest := by
  have GH := keep_t GH
  have GJ := keep_t GJ
  have GT := keep_t GT
  refine F.ok scAtRest (fun vs H Q E h => ?_) (fun cdv A0 outer s0 H vs Q E hr h => ?_)
  · obtain ⟨A, bl, bk, zss, wd, hi, ms, rfl, _⟩ := h
    rfl
  · obtain ⟨A, bl, bk, zss, wd, hi, ms, rfl, hh, hbl, w1, w2, h1, h2, hbk, RK, k⟩ := h
    have hm3 : Room 4 _ := hr.mono (by decide)
    refine ⟨_, (pss_cons (ps_set (i := 3) scAtRest.nd rfl (Or.inl rfl) (pe_make MkH GH (hr.mono (by decide)) rfl TH.mgC bH .nil pass0 (pa_cons (pv 0) (pa_cons (pv 1) pa_nil))))
      (pss_cons (ps_for PassesOwn.never rfl (pi_list (pv 2)) (pg_name (i := 4) scAtRest.nd rfl (Or.inl rfl)) (pss_one (ps_expr (pe_meth0 (pv 3) TH.cl mJ GJ (hr.mono (by decide)) bJ .nil pass0))))
      (pss_cons (ps_for PassesOwn.never rfl (pi_enum (by rfl) hEn (pa_cons (pv 2) pa_nil)) (pg_tup (by rfl) (pgs_cons (pg_name (i := 5) scAtRest.nd rfl (Or.inl rfl)) (pgs_cons (pg_name (i := 6) scAtRest.nd rfl (Or.inl rfl)) pgs_nil)))
        (pss_one (ps_for PassesOwn.never rfl (pi_list (pv 6)) (pg_name (i := 7) scAtRest.nd rfl (Or.inl rfl)) (pss_one (ps_expr (pe_meth (pv 3) TH.cl mT GT (hr.mono (by decide)) bT .nil pass0 (pa_cons (pv 5) (pa_cons (pv 7) pa_nil))))))))
      (pss_cons (ps_expr (pe_meth0 (pv 3) TH.cl mR GR (hr.mono (by decide)) bR .nil pass0))
      (pss_cons (ps_expr (pe_meth0 (pv 3) TH.cl mB GB hr bB .nil pass0))
      (pss_one (ps_ret (pe_meth0 (pv 3) TH.cl mS GS (hr.mono (by decide)) bS .nil pass0)))))))), ?_⟩
    have hB : ∀ c ∈ bookCells bl bk, c ∈ bookCells bl bk ++ A := fun c hc => List.mem_append_left _ hc
    generalize hAA : bookCells bl bk ++ A = AA at hh hB k
    have hbkl : ∀ {H2 : Hp} {L : Cells}, Has H2 (AA ++ L) → H2 bl = some (.lst (bk.map fun b => V.ref b.1)) ∧ ∀ b ∈ bk, H2 b.1 = some (.lst (b.2.map V.ref)) := fun g => book_row (fun c hc => List.mem_append_left _ (hB c hc)) g
    refine ⟨_, rfl, _, rfl, fun x dx nx ndx nex => ?_⟩
    have gm := Has.made (A := AA) (B := []) (by rw [List.append_nil]; exact hh) nx ndx nex (C := CH)
    have km : KeepT H (upd (upd H dx (.own x)) x (.ins CH dx [])) := KeepT.same ((Same.new _ ndx).trans (Same.new _ (by rw [upd_ne nex.symm]; exact nx)))
    refine ⟨_, [], x, dx, wd, hi, rfl, gm, w1, w2, h1, h2, fun h s H4 ha hsc hca hw hh4 nw rz g4 k4 => ⟨rfl, ?_⟩⟩
    subst ha
    have k4 := km.trans k4
    have g4 : MH CH CD CC CS CL H4 AA h [] (scrCells CN s ++ []) := g4
    -- join
    refine ⟨_, rfl, bl, rfl, ⟨_, SqL.of (hbkl g4).1⟩, for_list (K := K) (a := bl) (xs := bk.map fun b => V.ref b.1) (fun i σ H5 => ∃ e h' ps, σ = [some (.int wd), some (.int hi), some (.ref bl), some (.ref h.a), e, none, none, none] ∧ h'.a = h.a ∧ h'.sc = s.a ∧ h'.ca = ps.map (·.1.a) ∧ ps.length = i ∧ FreshP ps (fun _ => []) ∧ KeepT H H5 ∧ MH CH CD CC CS CL H5 AA h' ps (scrCells CN s ++ []))
      ⟨_, h, [], rfl, rfl, hsc, hca, rfl, (fun k p e => by simp at e), k4, g4⟩ (fun i σ H5 _ p => by obtain ⟨_, _, _, _, _, _, _, _, _, _, g⟩ := p; exact SqL.of (hbkl g).1) ?_ ?_⟩
    · rintro i v σ H5 hv ⟨e, h', ps, rfl, e1, e2, e3, e4, fr, k5, g⟩
      have hil : i < bk.length := by have := (List.getElem?_eq_some_iff.mp hv).1; simpa using this
      refine ⟨_, rfl, h.a, _, _, rfl, e1 ▸ (mh_h g).1, by kernel_rfl, _, _, h', congrArg (fun z => [V.ref z]) e1.symm, g, by rw [e3, List.length_map]; omega, fun p dx2 ra sa na H6 g6 k6 => ?_⟩
      have g7 := join_perm g6
      have e5 : h'.ca.length = ps.length := by rw [e3, List.length_map]
      rw [e5] at g7
      refine ⟨_, { h' with ca := h'.ca ++ [p] }, _, rfl, e1, e2, ?_, ?_, freshP_join fr rfl, k5.trans k6, g7⟩
      · show h'.ca ++ [p] = _
        rw [e3, List.map_append]; rfl
      · rw [List.length_append, e4]; rfl
    rintro σ H5 ⟨e, h', ps, rfl, e1, e2, e3, e4, fr, k5, g5⟩
    have e4 : ps.length = bk.length := by rw [e4, List.length_map]
    clear hca hsc g4 k4 gm km
    -- tell
    refine ⟨_, rfl, bl, _, rfl, SqL.of (hbkl g5).1, ?_⟩
    refine for_it (w := walk_enum (K := K) (a := bl) (xs := bk.map fun b => V.ref b.1)) (fun i σ H6 => ∃ v5 v6 v7 ps2, σ = [some (.int wd), some (.int hi), some (.ref bl), some (.ref h.a), e, v5, v6, v7] ∧ h'.ca = ps2.map (·.1.a) ∧ ps2.length = bk.length ∧ FreshP ps2 (fun j => if j < i then (bk[j]?.map (·.2)).getD [] else []) ∧ KeepT H H6 ∧ MH CH CD CC CS CL H6 AA h' ps2 (scrCells CN s ++ []))
      ⟨_, _, _, ps, rfl, e3, e4, (fun j p ej => by have := fr j p ej; simpa using this), k5, g5⟩ (fun i σ H6 _ p => by obtain ⟨_, _, _, _, _, _, _, _, _, g⟩ := p; exact SqL.of (hbkl g).1) ?_ ?_
    · rintro i v σ H6 H7 hi2 ⟨v5, v6, v7, ps2, rfl, f1, f2, fr2, k6, g6⟩ ⟨Tp, x1, x2, rfl, hT, rfl, ex1, ex2⟩
      obtain rfl : V.int (i : Nat) = x1 := Option.some.inj ex1
      have hil : i < bk.length := by simpa using hi2
      have eb : bk[i]? = some bk[i] := List.getElem?_eq_getElem hil
      have ex2 : (bk.map fun b => V.ref b.1)[i]? = some x2 := ex2
      rw [List.getElem?_map, eb] at ex2
      obtain rfl : V.ref bk[i].1 = x2 := Option.some.inj ex2
      obtain ⟨hrow, hrun, hlen⟩ := hbk i _ eb
      have hbm := List.getElem_mem hil
      generalize hbi : bk[i] = b at eb hrow hlen hbm ex2
      have g7 : MH CH CD CC CS CL (upd H6 Tp (.tup [.int (i : Nat), .ref b.1])) AA h' ps2 (scrCells CN s ++ []) := g6.past hT _
      have k7 : KeepT H (upd H6 Tp (.tup [.int (i : Nat), .ref b.1])) := k6.trans (KeepT.same (Same.new _ hT))
      refine ⟨Tp, _, rfl, SqT.of upd_same, rfl, _, _, rfl, _, _, rfl, rfl, ?_⟩
      have hbl2 := (hbkl g7).2 b hbm
      refine ⟨_, rfl, b.1, rfl, ⟨_, SqL.of hbl2⟩, for_list (K := K) (a := b.1) (xs := b.2.map V.ref) (fun m σ H8 => ∃ v7 ps3, σ = [some (.int wd), some (.int hi), some (.ref bl), some (.ref h.a), e, some (.int (i : Nat)), some (.ref b.1), v7] ∧ h'.ca = ps3.map (·.1.a) ∧ ps3.length = bk.length ∧ FreshP ps3 (fun j => if j < i then (bk[j]?.map (·.2)).getD [] else if j = i then b.2.take m else []) ∧ KeepT H H8 ∧ MH CH CD CC CS CL H8 AA h' ps3 (scrCells CN s ++ []))
        ⟨_, ps2, rfl, f1, f2, (fun j p ej => ?_), k7, g7⟩ (fun m σ H8 _ p => by obtain ⟨_, _, _, _, _, _, _, g⟩ := p; exact SqL.of ((hbkl g).2 b hbm)) ?_ ?_⟩
      · have := fr2 j p ej
        by_cases q : j < i
        · simp only [q, if_true] at this ⊢; exact this
        · simp only [q, if_false] at this ⊢
          by_cases q2 : j = i
          · simp only [q2, if_true, List.take_zero] at this ⊢; exact this
          · simp only [q2, if_false] at this ⊢; exact this
      · rintro m tv σ H8 htv ⟨v7, ps3, rfl, f3, f4, fr3, k8, g8⟩
        rw [List.getElem?_map] at htv
        cases et : b.2[m]? with
        | none => rw [et] at htv; cases htv
        | some t =>
          rw [et] at htv
          obtain rfl : V.ref t = tv := Option.some.inj htv
          have hml : m < b.2.length := (List.getElem?_eq_some_iff.mp et).1
          have hzl := paired_len hrow
          have hz : (zss i)[m]? = some (zss i)[m] := List.getElem?_eq_getElem (by omega)
          have ht := k8 _ _ (paired_ix (R := fun (t : Addr) (z : Lt) => H t = some (.tup z.vals)) hrow et hz)
          have hzo : (zss i)[m].ok := by
            have : ∀ (zs : List Lt) (vs : List SurfV), RunOk vs zs → ∀ z ∈ zs, z.ok := fun zs => by
              induction zs with
              | nil => intro _ _ z hz; cases hz
              | cons a r ih =>
                rintro vs ⟨q1, _, _, q2⟩ z hz
                rcases List.mem_cons.mp hz with q | q
                · subst q; exact q1
                · exact ih _ q2 z q
            exact this _ _ hrun _ (List.getElem_mem _)
          generalize (zss i)[m] = z at ht hzo
          have hp3 : ps3[i]? = some ps3[i] := List.getElem?_eq_getElem (by omega)
          generalize ps3[i] = p3 at hp3
          obtain ⟨c, ss⟩ := p3
          have fc := fr3 i _ hp3
          have g9 := mh_outT g8 hp3
          have hci : h'.ca[i]? = some c.a := by rw [f3, List.getElem?_map, hp3]; rfl
          have hrw : c.row = b.2.take m := by have := fc.row; simpa using this
          refine ⟨_, rfl, h.a, _, _, rfl, e1 ▸ (mh_h g8).1, by kernel_rfl, _, rfl, _, rfl, AA, _, _, h', i, c, t, z, congrArg (fun q => [V.ref q, V.int (i : Nat), V.ref t]) e1.symm, g9, hci, by rw [f3, List.length_map]; omega, fc.fal, by rw [hrw, List.length_take]; omega, ht, hzo, fun H9 g10 k9 => ?_⟩
          refine ⟨_, ps3.set i ({ c with row := c.row ++ [t] }, ss), rfl, ?_, by rw [List.length_set]; exact f4, fun j p ej => ?_, k8.trans k9, mh_backT hp3 g10⟩
          · rw [f3]
            apply List.ext_getElem?
            intro j
            rw [List.getElem?_map, List.getElem?_map, List.getElem?_set]
            by_cases q : i = j
            · subst q
              rw [if_pos rfl, if_pos (by omega), hp3]; rfl
            · rw [if_neg q]
          · by_cases q : i = j
            · subst q
              rw [List.getElem?_set_self (by omega)] at ej
              cases ej
              refine ⟨fc.ss, fc.num, fc.fal, fc.sd, fc.notes, ?_⟩
              show c.row ++ [t] = _
              rw [hrw]
              simp [List.take_add_one, et]
            · rw [List.getElem?_set_ne q] at ej
              have := fr3 j p ej
              have q' : ¬ j = i := fun z => q z.symm
              simp only [q', if_false] at this ⊢
              exact this
      · rintro σ H8 ⟨v7, ps3, rfl, f3, f4, fr3, k8, g8⟩
        rw [List.length_map, List.take_length] at fr3
        refine ⟨_, _, _, ps3, rfl, f3, f4, fun j p ej => ?_, k8, g8⟩
        have := fr3 j p ej
        by_cases q : j < i
        · simp only [q, if_true, show j < i + 1 by omega] at this ⊢; exact this
        · simp only [q, if_false] at this ⊢
          by_cases q2 : j = i
          · subst q2
            simp only [if_true, show j < j + 1 by omega, eb] at this ⊢; exact this
          · simp only [q2, if_false, show ¬ j < i + 1 by omega] at this ⊢; exact this
    rintro σ H6 ⟨v5, v6, v7, ps2, rfl, f1, f2, fr2, k6, g6⟩
    have fr2 : FreshP ps2 (fun j => (bk[j]?.map (·.2)).getD []) := fun j p ej => by
      have := fr2 j p ej
      have hj : j < (bk.map fun b => V.ref b.1).length := by rw [List.length_map, ← f2]; exact (List.getElem?_eq_some_iff.mp ej).1
      simp only [hj, if_true] at this
      exact this
    -- rest
    refine ⟨_, rfl, h.a, _, _, rfl, e1 ▸ (mh_h g6).1, by kernel_rfl, AA, _, h', ps2, zss, congrArg (fun z => [V.ref z]) e1.symm, g6, f1, fun j p ej => ?_, fun ps3 H7 l3 r3 g7 => ?_⟩
    · have fj := fr2 j p ej
      have hjl : j < bk.length := by rw [← f2]; exact (List.getElem?_eq_some_iff.mp ej).1
      obtain ⟨q1, q2, _⟩ := hbk j _ (List.getElem?_eq_getElem hjl)
      refine ⟨by rw [fj.ss]; exact swf_nil _, by rw [fj.sd, fj.ss]; rfl, ?_, by rw [fj.ss]; exact q2⟩
      rw [fj.row]
      show RowAt H6 ((bk[j]?.map (·.2)).getD []) (zss j)
      rw [List.getElem?_eq_getElem hjl]
      exact q1.keep k6
    -- beat
    have fin : ∀ (j : Nat) p', ps3[j]? = some p' → ∃ p, ps2[j]? = some p ∧ RestR p p' (zss j) := fun j p' ej => by
      have hjl : j < ps2.length := by rw [← l3]; exact (List.getElem?_eq_some_iff.mp ej).1
      obtain ⟨q, eq, rr⟩ := r3 j _ (List.getElem?_eq_getElem hjl)
      rw [ej] at eq
      cases eq
      exact ⟨_, List.getElem?_eq_getElem hjl, rr⟩
    have pw3 : PsW ps3 := fun p' hp' => by
      obtain ⟨j, hj, ej⟩ := List.getElem_of_mem hp'
      obtain ⟨p, ep, r1, r2, _⟩ := fin j p' (by rw [List.getElem?_eq_getElem hj, ej])
      exact ⟨by rw [r1]; exact r2, by rw [r1]⟩
    have g7i := mh_in g7
    obtain ⟨b1, b2, b3⟩ := RK ps3 (l3.trans f2) pw3 (surf_nd g7i) (cli_nd g7i) fun j p' ej => by
      obtain ⟨p, ep, r1, _, r2⟩ := fin j p' ej
      have fj := fr2 j p ep
      refine ⟨by rw [r1]; exact fj.num, ?_⟩
      rw [r2, fj.ss]; rfl
    have hca3 : h'.ca = ps3.map (·.1.a) := by
      rw [f1]
      apply List.ext_getElem?
      intro j
      rw [List.getElem?_map, List.getElem?_map]
      cases ej : ps3[j]? with
      | none =>
        have : ps2[j]? = none := List.getElem?_eq_none_iff.mpr (by rw [← l3]; exact List.getElem?_eq_none_iff.mp ej)
        rw [this]
      | some p' =>
        obtain ⟨p, ep, r1, _⟩ := fin j p' ej
        rw [ep]
        show some p.1.a = some p'.1.a
        rw [r1]
    refine ⟨_, rfl, h.a, _, _, rfl, e1 ▸ (mh_h g7).1, by kernel_rfl, AA, [], h', s, ps3, congrArg (fun z => [V.ref z]) e1.symm, g7, hca3, by omega, e2, pw3, nw, fun p' hp' => ?_, b1, b2, fun ps4 z0 H8 lb bp la z1 z2 z3 z4 g8 => ?_⟩
    · obtain ⟨j, hj, ej⟩ := List.getElem_of_mem hp'
      obtain ⟨p, ep, r1, _⟩ := fin j p' (by rw [List.getElem?_eq_getElem hj, ej])
      have fj := fr2 j p ep
      rw [r1]
      exact ⟨fj.fal, by show p.1.notes.length ≤ 90000; rw [fj.notes]; exact Nat.zero_le _⟩
    have b4 := b3 z0 z2 (z1.wide.trans hw) (z1.high.trans hh4) (by rw [← hw]; exact z3)
    have wf5 := paintAll_wf (lk := lkM ps3) (laidM ps3) z2
    have ss5 := z1.trans (paintAll_same (lkM ps3) (laidM ps3) z0)
    generalize paintAll (lkM ps3) z0 (laidM ps3) = s5 at g8 b4 wf5 ss5
    -- screen
    have gs : Has H8 ((AA ++ (houCells CH CD h' ++ cliAll CC CS CL ps4)) ++ (scrCells CN s5 ++ [])) := g8.re (by simp [List.append_assoc])
    refine ⟨_, rfl, h.a, _, _, rfl, e1 ▸ (mh_h g8).1, by kernel_rfl, h', s5, congrArg (fun z => [V.ref z]) e1.symm, (mh_h g8).1, e2.trans ss5.a.symm, gs.get 0 rfl, ⟨gs.get 1 rfl, fun r hr => gs.mem ?_⟩, ?_, fun H9 l rs s9 g9 ers => ?_⟩
    · refine List.mem_append_right _ (List.mem_append_left _ ?_)
      exact List.mem_cons_of_mem _ (List.mem_cons_of_mem _ (List.mem_cons_of_mem _ (List.mem_append_left _ (List.mem_map_of_mem (f := rowC) hr))))
    · have := wf5.rl; have := wf5.h2; omega
    · exact k H9 l rs (g9 AA (gs.sub ((List.sublist_append_left _ _).trans (List.sublist_append_left _ _)))) (ers.trans b4)
end
end SH
set_option Elab.async false
set_option linter.all false
set_option maxRecDepth 100000
namespace SH
open PySem PySem.Spec PyProof.Rows L2
abbrev sWin : Stmt := top 46
abbrev nWin : List Str := ["_law_k", "_law_x", "_law_y", "_law_rank", "_law_found"]
theorem scWin : FnScope nWin ["_law_k", "_law_x", "_law_y", "_law_rank"] (defScope sWin) := ⟨rfl, rfl, rfl, by decide +kernel, rfl, by decide +kernel, by decide +kernel⟩
def winZ (k x y r : Int) : List Lt := [.make 0, .size 0 4 3, .paint 0 0 0 4 3 k, .place 0 x y, .rank 0 r, .make 1, .tie 1 0, .paint 1 0 0 1 1 (k + 4), .place 1 2 1, .show 1, .show 0, .paint 0 0 0 1 1 0]
theorem RowAt.new {H : Hp} {ts : List Addr} {zs : List Lt} {p : Addr} {z : Lt} (h : RowAt H ts zs) (hp : H p = none) : RowAt (upd H p (.tup z.vals)) (ts ++ [p]) (zs ++ [z]) :=
  paired_cat (Paired.mapP h fun _ _ e => (Same.new _ hp) _ _ e) (.cons upd_same .nil)
theorem RowAt.same {H H' : Hp} {ts : List Addr} {zs : List Lt} (h : RowAt H ts zs) (s : Same H H') : RowAt H' ts zs := Paired.mapP h fun _ _ e => s _ _ e
section
variable {P : Program} {w : World} {K : PySem.W.Frag} {mg : Str → Option Value} {base : Heap}
def spWin : Sp := fun vs H Q _ => ∃ (kk x y r : Int), vs = [.int kk, .int x, .int y, .int r] ∧ ∀ l ts H', Same H H' → H l = none → H' l = some (.lst (ts.map V.ref)) → RowAt H' ts (winZ kk x y r) → Q (.ref l) H'
theorem ok_win {f : Addr} {fd : FuncData} (F : Fun K "_law_window" "_law_window" sWin f fd) : FnOk P w K mg base CX0 1 f fd ["_law_k", "_law_x", "_law_y", "_law_rank"] spWin := by
  refine F.ok scWin (fun vs H Q E h => ?_) (fun cdv A0 outer s0 H vs Q E hr h => ?_)
  · obtain ⟨kk, x, y, r, rfl, _⟩ := h
    rfl
  · obtain ⟨kk, x, y, r, rfl, k⟩ := h
    refine ⟨_, (pss_cons (ps_set (i := 4) scWin.nd rfl (Or.inl rfl) (pe_lst (pa_cons (pe_tup (pa_cons pe_str (pa_cons pe_int pa_nil))) (pa_cons (pe_tup (pa_cons pe_str (pa_cons pe_int (pa_cons pe_int (pa_cons pe_int pa_nil))))) (pa_cons (pe_tup (pa_cons pe_str (pa_cons pe_int (pa_cons pe_int (pa_cons pe_int (pa_cons pe_int (pa_cons pe_int (pa_cons (pv 0) pa_nil)))))))) (pa_cons (pe_tup (pa_cons pe_str (pa_cons pe_int (pa_cons (pv 1) (pa_cons (pv 2) pa_nil))))) (pa_cons (pe_tup (pa_cons pe_str (pa_cons pe_int (pa_cons (pv 3) pa_nil)))) pa_nil))))))) (pss_cons (ps_set (i := 4) scWin.nd rfl (Or.inl rfl) (pe_op op_cat (pv 4) (pe_lst (pa_cons (pe_tup (pa_cons pe_str (pa_cons pe_int pa_nil))) (pa_cons (pe_tup (pa_cons pe_str (pa_cons pe_int (pa_cons pe_int pa_nil)))) (pa_cons (pe_tup (pa_cons pe_str (pa_cons pe_int (pa_cons pe_int (pa_cons pe_int (pa_cons pe_int (pa_cons pe_int (pa_cons (pe_op op_add (pv 0) pe_int) pa_nil)))))))) (pa_cons (pe_tup (pa_cons pe_str (pa_cons pe_int (pa_cons pe_int (pa_cons pe_int pa_nil))))) (pa_cons (pe_tup (pa_cons pe_str (pa_cons pe_int pa_nil))) pa_nil)))))))) (pss_one (ps_ret (pe_op op_cat (pv 4) (pe_lst (pa_cons (pe_tup (pa_cons pe_str (pa_cons pe_int pa_nil))) (pa_cons (pe_tup (pa_cons pe_str (pa_cons pe_int (pa_cons pe_int (pa_cons pe_int (pa_cons pe_int (pa_cons pe_int (pa_cons pe_int pa_nil)))))))) pa_nil)))))))), ?_⟩
    have R0 : RowAt H [] [] := .nil
    refine ⟨small (by show 2 ≤ 1000; decide), fun qz0 hqz0 => ⟨small (by show 4 ≤ 1000; decide), fun qz1 hqz1 => ⟨_, rfl, small (by show 7 ≤ 1000; decide), fun qz2 hqz2 => ⟨_, rfl, _, rfl, small (by show 4 ≤ 1000; decide), fun qz3 hqz3 => ⟨_, rfl, small (by show 3 ≤ 1000; decide), fun qz4 hqz4 => ⟨small (by show 5 ≤ 1000; decide), fun b1 hb1 => ?_⟩⟩⟩⟩⟩⟩
    have R1 := ((((((R0.new (z := .make 0) hqz0).new (z := .size 0 4 3) hqz1).new (z := .paint 0 0 0 4 3 kk) hqz2).new (z := .place 0 x y) hqz3).new (z := .rank 0 r) hqz4).same (Same.new (.lst [.ref qz0, .ref qz1, .ref qz2, .ref qz3, .ref qz4]) hb1))
    have s1 : Same H (upd (upd (upd (upd (upd (upd H qz0 (.tup (Lt.vals (.make 0)))) qz1 (.tup (Lt.vals (.size 0 4 3)))) qz2 (.tup (Lt.vals (.paint 0 0 0 4 3 kk)))) qz3 (.tup (Lt.vals (.place 0 x y)))) qz4 (.tup (Lt.vals (.rank 0 r)))) b1 (.lst [.ref qz0, .ref qz1, .ref qz2, .ref qz3, .ref qz4])) := (((((Same.new (.tup (Lt.vals (.make 0))) hqz0).trans (Same.new (.tup (Lt.vals (.size 0 4 3))) hqz1)).trans (Same.new (.tup (Lt.vals (.paint 0 0 0 4 3 kk))) hqz2)).trans (Same.new (.tup (Lt.vals (.place 0 x y))) hqz3)).trans (Same.new (.tup (Lt.vals (.rank 0 r))) hqz4)).trans (Same.new (.lst [.ref qz0, .ref qz1, .ref qz2, .ref qz3, .ref qz4]) hb1)
    have eb1 : (upd (upd (upd (upd (upd (upd H qz0 (.tup (Lt.vals (.make 0)))) qz1 (.tup (Lt.vals (.size 0 4 3)))) qz2 (.tup (Lt.vals (.paint 0 0 0 4 3 kk)))) qz3 (.tup (Lt.vals (.place 0 x y)))) qz4 (.tup (Lt.vals (.rank 0 r)))) b1 (.lst [.ref qz0, .ref qz1, .ref qz2, .ref qz3, .ref qz4])) b1 = some (.lst [.ref qz0, .ref qz1, .ref qz2, .ref qz3, .ref qz4]) := upd_same
    refine ⟨_, rfl, ?_⟩
    refine ⟨small (by show 2 ≤ 1000; decide), fun qz5 hqz5 => ⟨small (by show 3 ≤ 1000; decide), fun qz6 hqz6 => ⟨_, rfl, _, _, rfl, rfl, small (by show 7 ≤ 1000; decide), fun qz7 hqz7 => ⟨small (by show 4 ≤ 1000; decide), fun qz8 hqz8 => ⟨small (by show 2 ≤ 1000; decide), fun qz9 hqz9 => ⟨small (by show 5 ≤ 1000; decide), fun b2 hb2 => ?_⟩⟩⟩⟩⟩⟩
    have R2 := ((((((R1.new (z := .make 1) hqz5).new (z := .tie 1 0) hqz6).new (z := .paint 1 0 0 1 1 (kk + 4)) hqz7).new (z := .place 1 2 1) hqz8).new (z := .show 1) hqz9).same (Same.new (.lst [.ref qz5, .ref qz6, .ref qz7, .ref qz8, .ref qz9]) hb2))
    have s2 : Same (upd (upd (upd (upd (upd (upd H qz0 (.tup (Lt.vals (.make 0)))) qz1 (.tup (Lt.vals (.size 0 4 3)))) qz2 (.tup (Lt.vals (.paint 0 0 0 4 3 kk)))) qz3 (.tup (Lt.vals (.place 0 x y)))) qz4 (.tup (Lt.vals (.rank 0 r)))) b1 (.lst [.ref qz0, .ref qz1, .ref qz2, .ref qz3, .ref qz4])) (upd (upd (upd (upd (upd (upd (upd (upd (upd (upd (upd (upd H qz0 (.tup (Lt.vals (.make 0)))) qz1 (.tup (Lt.vals (.size 0 4 3)))) qz2 (.tup (Lt.vals (.paint 0 0 0 4 3 kk)))) qz3 (.tup (Lt.vals (.place 0 x y)))) qz4 (.tup (Lt.vals (.rank 0 r)))) b1 (.lst [.ref qz0, .ref qz1, .ref qz2, .ref qz3, .ref qz4])) qz5 (.tup (Lt.vals (.make 1)))) qz6 (.tup (Lt.vals (.tie 1 0)))) qz7 (.tup (Lt.vals (.paint 1 0 0 1 1 (kk + 4))))) qz8 (.tup (Lt.vals (.place 1 2 1)))) qz9 (.tup (Lt.vals (.show 1)))) b2 (.lst [.ref qz5, .ref qz6, .ref qz7, .ref qz8, .ref qz9])) := (((((Same.new (.tup (Lt.vals (.make 1))) hqz5).trans (Same.new (.tup (Lt.vals (.tie 1 0))) hqz6)).trans (Same.new (.tup (Lt.vals (.paint 1 0 0 1 1 (kk + 4)))) hqz7)).trans (Same.new (.tup (Lt.vals (.place 1 2 1))) hqz8)).trans (Same.new (.tup (Lt.vals (.show 1))) hqz9)).trans (Same.new (.lst [.ref qz5, .ref qz6, .ref qz7, .ref qz8, .ref qz9]) hb2)
    have eb2 : (upd (upd (upd (upd (upd (upd (upd (upd (upd (upd (upd (upd H qz0 (.tup (Lt.vals (.make 0)))) qz1 (.tup (Lt.vals (.size 0 4 3)))) qz2 (.tup (Lt.vals (.paint 0 0 0 4 3 kk)))) qz3 (.tup (Lt.vals (.place 0 x y)))) qz4 (.tup (Lt.vals (.rank 0 r)))) b1 (.lst [.ref qz0, .ref qz1, .ref qz2, .ref qz3, .ref qz4])) qz5 (.tup (Lt.vals (.make 1)))) qz6 (.tup (Lt.vals (.tie 1 0)))) qz7 (.tup (Lt.vals (.paint 1 0 0 1 1 (kk + 4))))) qz8 (.tup (Lt.vals (.place 1 2 1)))) qz9 (.tup (Lt.vals (.show 1)))) b2 (.lst [.ref qz5, .ref qz6, .ref qz7, .ref qz8, .ref qz9])) b2 = some (.lst [.ref qz5, .ref qz6, .ref qz7, .ref qz8, .ref qz9]) := upd_same
    have eb1' := s2 _ _ eb1
    refine ⟨b1, b2, _, _, rfl, rfl, eb1', eb2, small (by show 10 ≤ 1000; decide), fun c1 hc1 => ?_⟩
    have R3 := R2.same (Same.new (.lst ([.ref qz0, .ref qz1, .ref qz2, .ref qz3, .ref qz4] ++ [.ref qz5, .ref qz6, .ref qz7, .ref qz8, .ref qz9])) hc1)
    have s3 : Same (upd (upd (upd (upd (upd (upd (upd (upd (upd (upd (upd (upd H qz0 (.tup (Lt.vals (.make 0)))) qz1 (.tup (Lt.vals (.size 0 4 3)))) qz2 (.tup (Lt.vals (.paint 0 0 0 4 3 kk)))) qz3 (.tup (Lt.vals (.place 0 x y)))) qz4 (.tup (Lt.vals (.rank 0 r)))) b1 (.lst [.ref qz0, .ref qz1, .ref qz2, .ref qz3, .ref qz4])) qz5 (.tup (Lt.vals (.make 1)))) qz6 (.tup (Lt.vals (.tie 1 0)))) qz7 (.tup (Lt.vals (.paint 1 0 0 1 1 (kk + 4))))) qz8 (.tup (Lt.vals (.place 1 2 1)))) qz9 (.tup (Lt.vals (.show 1)))) b2 (.lst [.ref qz5, .ref qz6, .ref qz7, .ref qz8, .ref qz9])) (upd (upd (upd (upd (upd (upd (upd (upd (upd (upd (upd (upd (upd H qz0 (.tup (Lt.vals (.make 0)))) qz1 (.tup (Lt.vals (.size 0 4 3)))) qz2 (.tup (Lt.vals (.paint 0 0 0 4 3 kk)))) qz3 (.tup (Lt.vals (.place 0 x y)))) qz4 (.tup (Lt.vals (.rank 0 r)))) b1 (.lst [.ref qz0, .ref qz1, .ref qz2, .ref qz3, .ref qz4])) qz5 (.tup (Lt.vals (.make 1)))) qz6 (.tup (Lt.vals (.tie 1 0)))) qz7 (.tup (Lt.vals (.paint 1 0 0 1 1 (kk + 4))))) qz8 (.tup (Lt.vals (.place 1 2 1)))) qz9 (.tup (Lt.vals (.show 1)))) b2 (.lst [.ref qz5, .ref qz6, .ref qz7, .ref qz8, .ref qz9])) c1 (.lst ([.ref qz0, .ref qz1, .ref qz2, .ref qz3, .ref qz4] ++ [.ref qz5, .ref qz6, .ref qz7, .ref qz8, .ref qz9]))) := Same.new _ hc1
    have ec1 : (upd (upd (upd (upd (upd (upd (upd (upd (upd (upd (upd (upd (upd H qz0 (.tup (Lt.vals (.make 0)))) qz1 (.tup (Lt.vals (.size 0 4 3)))) qz2 (.tup (Lt.vals (.paint 0 0 0 4 3 kk)))) qz3 (.tup (Lt.vals (.place 0 x y)))) qz4 (.tup (Lt.vals (.rank 0 r)))) b1 (.lst [.ref qz0, .ref qz1, .ref qz2, .ref qz3, .ref qz4])) qz5 (.tup (Lt.vals (.make 1)))) qz6 (.tup (Lt.vals (.tie 1 0)))) qz7 (.tup (Lt.vals (.paint 1 0 0 1 1 (kk + 4))))) qz8 (.tup (Lt.vals (.place 1 2 1)))) qz9 (.tup (Lt.vals (.show 1)))) b2 (.lst [.ref qz5, .ref qz6, .ref qz7, .ref qz8, .ref qz9])) c1 (.lst ([.ref qz0, .ref qz1, .ref qz2, .ref qz3, .ref qz4] ++ [.ref qz5, .ref qz6, .ref qz7, .ref qz8, .ref qz9]))) c1 = some (.lst ([.ref qz0, .ref qz1, .ref qz2, .ref qz3, .ref qz4] ++ [.ref qz5, .ref qz6, .ref qz7, .ref qz8, .ref qz9])) := upd_same
    refine ⟨_, rfl, ?_⟩
    refine ⟨small (by show 2 ≤ 1000; decide), fun qz10 hqz10 => ⟨small (by show 7 ≤ 1000; decide), fun qz11 hqz11 => ⟨small (by show 2 ≤ 1000; decide), fun b3 hb3 => ?_⟩⟩⟩
    have R4 := (((R3.new (z := .show 0) hqz10).new (z := .paint 0 0 0 1 1 0) hqz11).same (Same.new (.lst [.ref qz10, .ref qz11]) hb3))
    have s4 : Same (upd (upd (upd (upd (upd (upd (upd (upd (upd (upd (upd (upd (upd H qz0 (.tup (Lt.vals (.make 0)))) qz1 (.tup (Lt.vals (.size 0 4 3)))) qz2 (.tup (Lt.vals (.paint 0 0 0 4 3 kk)))) qz3 (.tup (Lt.vals (.place 0 x y)))) qz4 (.tup (Lt.vals (.rank 0 r)))) b1 (.lst [.ref qz0, .ref qz1, .ref qz2, .ref qz3, .ref qz4])) qz5 (.tup (Lt.vals (.make 1)))) qz6 (.tup (Lt.vals (.tie 1 0)))) qz7 (.tup (Lt.vals (.paint 1 0 0 1 1 (kk + 4))))) qz8 (.tup (Lt.vals (.place 1 2 1)))) qz9 (.tup (Lt.vals (.show 1)))) b2 (.lst [.ref qz5, .ref qz6, .ref qz7, .ref qz8, .ref qz9])) c1 (.lst ([.ref qz0, .ref qz1, .ref qz2, .ref qz3, .ref qz4] ++ [.ref qz5, .ref qz6, .ref qz7, .ref qz8, .ref qz9]))) (upd (upd (upd (upd (upd (upd (upd (upd (upd (upd (upd (upd (upd (upd (upd (upd H qz0 (.tup (Lt.vals (.make 0)))) qz1 (.tup (Lt.vals (.size 0 4 3)))) qz2 (.tup (Lt.vals (.paint 0 0 0 4 3 kk)))) qz3 (.tup (Lt.vals (.place 0 x y)))) qz4 (.tup (Lt.vals (.rank 0 r)))) b1 (.lst [.ref qz0, .ref qz1, .ref qz2, .ref qz3, .ref qz4])) qz5 (.tup (Lt.vals (.make 1)))) qz6 (.tup (Lt.vals (.tie 1 0)))) qz7 (.tup (Lt.vals (.paint 1 0 0 1 1 (kk + 4))))) qz8 (.tup (Lt.vals (.place 1 2 1)))) qz9 (.tup (Lt.vals (.show 1)))) b2 (.lst [.ref qz5, .ref qz6, .ref qz7, .ref qz8, .ref qz9])) c1 (.lst ([.ref qz0, .ref qz1, .ref qz2, .ref qz3, .ref qz4] ++ [.ref qz5, .ref qz6, .ref qz7, .ref qz8, .ref qz9]))) qz10 (.tup (Lt.vals (.show 0)))) qz11 (.tup (Lt.vals (.paint 0 0 0 1 1 0)))) b3 (.lst [.ref qz10, .ref qz11])) := ((Same.new (.tup (Lt.vals (.show 0))) hqz10).trans (Same.new (.tup (Lt.vals (.paint 0 0 0 1 1 0))) hqz11)).trans (Same.new (.lst [.ref qz10, .ref qz11]) hb3)
    have eb3 : (upd (upd (upd (upd (upd (upd (upd (upd (upd (upd (upd (upd (upd (upd (upd (upd H qz0 (.tup (Lt.vals (.make 0)))) qz1 (.tup (Lt.vals (.size 0 4 3)))) qz2 (.tup (Lt.vals (.paint 0 0 0 4 3 kk)))) qz3 (.tup (Lt.vals (.place 0 x y)))) qz4 (.tup (Lt.vals (.rank 0 r)))) b1 (.lst [.ref qz0, .ref qz1, .ref qz2, .ref qz3, .ref qz4])) qz5 (.tup (Lt.vals (.make 1)))) qz6 (.tup (Lt.vals (.tie 1 0)))) qz7 (.tup (Lt.vals (.paint 1 0 0 1 1 (kk + 4))))) qz8 (.tup (Lt.vals (.place 1 2 1)))) qz9 (.tup (Lt.vals (.show 1)))) b2 (.lst [.ref qz5, .ref qz6, .ref qz7, .ref qz8, .ref qz9])) c1 (.lst ([.ref qz0, .ref qz1, .ref qz2, .ref qz3, .ref qz4] ++ [.ref qz5, .ref qz6, .ref qz7, .ref qz8, .ref qz9]))) qz10 (.tup (Lt.vals (.show 0)))) qz11 (.tup (Lt.vals (.paint 0 0 0 1 1 0)))) b3 (.lst [.ref qz10, .ref qz11])) b3 = some (.lst [.ref qz10, .ref qz11]) := upd_same
    have ec1' := s4 _ _ ec1
    refine ⟨c1, b3, _, _, rfl, rfl, ec1', eb3, small (by show 12 ≤ 1000; decide), fun c2 hc2 => ?_⟩
    have st := ((s1.trans s2).trans s3).trans s4
    refine k c2 _ _ (st.trans (Same.new _ hc2)) (st.free hc2) upd_same (R4.same (Same.new _ hc2))
end
end SH
set_option Elab.async false
set_option linter.all false
set_option maxRecDepth 100000
namespace SH
open PySem PySem.Spec PyProof.Rows L2
abbrev sKn : Stmt := top 47
def knCells (ml : Addr) (rs : List (Addr × List V)) : Cells := (ml, .lst (rs.map fun r => V.ref r.1)) :: rs.map rowV
def gridV (f : Nat → Nat → V) : List (List V) := (List.range 8).map fun y => (List.range 12).map fun x => f y x
theorem gridV_congr {f g : Nat → Nat → V} (h : ∀ y x, y < 8 → x < 12 → f y x = g y x) : gridV f = gridV g := by
  unfold gridV
  refine List.map_congr_left fun y hy => List.map_congr_left fun x hx => h y x (List.mem_range.mp hy) (List.mem_range.mp hx)
theorem gridV_row {rs : List (Addr × List V)} {f : Nat → Nat → V} (h : rs.map (·.2) = gridV f) {y : Nat} (hy : y < 8) : ∃ r, rs[y]? = some r ∧ r.2 = (List.range 12).map (f y) := by
  have hl : rs.length = 8 := by have := congrArg List.length h; simpa [gridV] using this
  have e : rs[y]? = some rs[y] := List.getElem?_eq_getElem (by omega)
  refine ⟨_, e, ?_⟩
  have := congrArg (·[y]?) h
  simp only [List.getElem?_map, e, gridV, List.getElem?_range hy, Option.map_some] at this
  exact Option.some.inj this
theorem row_set {f : Nat → V} {x : Nat} {v : V} : ((List.range 12).map f).set x v = (List.range 12).map fun x' => if x' = x then v else f x' := by
  apply List.ext_getElem?
  intro n
  rw [List.getElem?_set, List.getElem?_map, List.length_map, List.length_range, List.getElem?_map]
  by_cases hn : x = n
  · subst hn
    rw [if_pos rfl]
    by_cases hx : x < 12
    · rw [if_pos hx, List.getElem?_range hx]; simp
    · rw [if_neg hx, List.getElem?_eq_none (by simp; omega)]; rfl
  · rw [if_neg hn]
    cases e : (List.range 12)[n]? with
    | none => rfl
    | some m =>
      have : m = n := by
        have h1 := List.getElem?_eq_some_iff.mp e
        obtain ⟨h2, h3⟩ := h1
        rw [List.getElem_range] at h3; exact h3.symm
      subst this
      simp [Ne.symm hn]
theorem gridV_set {rs : List (Addr × List V)} {f : Nat → Nat → V} (h : rs.map (·.2) = gridV f) {y x : Nat} {r : Addr × List V} (e : rs[y]? = some r) (er : r.2 = (List.range 12).map (f y)) (v : V) :
    (rs.set y (r.1, r.2.set x v)).map (·.2) = gridV fun y' x' => if y' = y ∧ x' = x then v else f y' x' := by
  rw [List.map_set, h, er, row_set]
  unfold gridV
  apply List.ext_getElem?
  intro n
  have hl : y < 8 := by
    have := congrArg List.length h
    have := (List.getElem?_eq_some_iff.mp e).1
    simp [gridV] at *; omega
  rw [List.getElem?_set, List.getElem?_map, List.length_map, List.length_range, List.getElem?_map]
  by_cases hn : y = n
  · subst hn
    rw [if_pos rfl, if_pos hl, List.getElem?_range hl]
    simp
  · rw [if_neg hn]
    cases e : (List.range 8)[n]? with
    | none => rfl
    | some m =>
      have : m = n := by
        obtain ⟨h2, h3⟩ := List.getElem?_eq_some_iff.mp e
        rw [List.getElem_range] at h3; exact h3.symm
      subst this
      simp [Ne.symm hn]
theorem KeepT.lst {H : Hp} {p : Addr} {xs : List V} (h : H p = some (.lst xs)) (o : HO) : KeepT H (upd H p o) := upd_tup fun ys e => by rw [h] at e; cases e
theorem perm_pair {α : Type} {a b : α} {ys : List α} (h : ys.Perm [a, b]) : ys = [a, b] ∨ ys = [b, a] := by
  match ys, h.length_eq with
  | [x, y], _ =>
    have hx : x = a ∨ x = b := by simpa using h.mem_iff.mp (show x ∈ [x, y] by simp)
    rcases hx with rfl | rfl
    · have := List.perm_singleton.mp ((List.perm_cons x).mp h)
      rw [this]; exact .inl rfl
    · have h2 := h.trans (List.Perm.swap x a [])
      have := List.perm_singleton.mp ((List.perm_cons x).mp h2)
      rw [this]; exact .inr rfl
theorem kn_snoc (D D2 : Addr) (rs : List (Addr × List V)) (zs : List V) (L : Cells) : ((D2, HO.lst zs) :: (D, HO.lst ((rs.map fun r => V.ref r.1) ++ [V.ref D2])) :: (rs.map rowV ++ L)).Perm (knCells D (rs ++ [(D2, zs)]) ++ L) := by
  unfold knCells
  rw [List.map_append, List.map_append, List.cons_append, List.append_assoc]
  exact (List.Perm.swap _ _ _).trans (List.Perm.cons _ List.perm_middle.symm)
theorem kn_row {H : Hp} {A B : Cells} {ml : Addr} {rs : List (Addr × List V)} (g : Has H (A ++ (knCells ml rs ++ B))) {y : Nat} {r : Addr × List V} (e : rs[y]? = some r) : H r.1 = some (.lst r.2) :=
  g.mem (List.mem_append_right _ (List.mem_append_left _ (List.mem_cons_of_mem _ (List.mem_map_of_mem (f := rowV) (List.mem_of_getElem? e)))))
theorem kn_top {H : Hp} {A B : Cells} {ml : Addr} {rs : List (Addr × List V)} (g : Has H (A ++ (knCells ml rs ++ B))) : H ml = some (.lst (rs.map fun r => V.ref r.1)) := g.mem (by simp [knCells])
theorem kn_set {H : Hp} {A B : Cells} {ml : Addr} {rs : List (Addr × List V)} (g : Has H (A ++ (knCells ml rs ++ B))) {y : Nat} {r : Addr × List V} (e : rs[y]? = some r) (zs : List V) : Has (upd H r.1 (.lst zs)) (A ++ (knCells ml (rs.set y (r.1, zs)) ++ B)) := by
  have hy := (List.getElem?_eq_some_iff.mp e).1
  have e1 : (knCells ml rs ++ B)[y + 1]? = some (r.1, HO.lst r.2) := by
    unfold knCells
    rw [List.cons_append, List.getElem?_cons_succ, List.getElem?_append_left (by rw [List.length_map]; exact hy), List.getElem?_map, e]; rfl
  have g1 := g.set (y + 1) e1 (.lst zs)
  refine g1.re ?_
  congr 1
  unfold knCells
  rw [List.cons_append, List.set_cons_succ, List.set_append_left _ _ (by rw [List.length_map]; exact hy), List.map_set (f := rowV), List.cons_append]
  congr 1
  · congr 2
    apply List.ext_getElem?
    intro n
    rw [List.getElem?_map, List.getElem?_map, List.getElem?_set]
    by_cases hn : y = n
    · subst hn; rw [if_pos rfl, if_pos hy, e]; rfl
    · rw [if_neg hn]
/-- the desk, and a window over what there is -/
def desk0 (y x : Nat) : V := if y = 7 then .int 0 else .int 9
def own0 (y x : Nat) : V := if y = 7 then .non else .int 0
def inW (l t : Int) (y x : Nat) : Prop := t ≤ (y : Int) ∧ (y : Int) < t + 3 ∧ l ≤ (x : Int) ∧ (x : Int) < l + 4
instance (l t : Int) (y x : Nat) : Decidable (inW l t y x) := by unfold inW; infer_instance
def mkW (k l t : Int) (y x : Nat) : Int := k + 4 * (if (x : Int) - l = 2 ∧ (y : Int) - t = 1 then 1 else 0)
def stM' (f : Nat → Nat → V) (w : Int × Int × Int) (y x : Nat) : V := if inW w.2.1 w.2.2 y x then .int (mkW w.1 w.2.1 w.2.2 y x) else f y x
def stO' (f : Nat → Nat → V) (w : Int × Int × Int) (y x : Nat) : V := if inW w.2.1 w.2.2 y x then .int w.1 else f y x
structure Spot where
  x : Int
  y : Int
  r : Int
structure Spot.ok (s : Spot) : Prop where
  x0 : 0 ≤ s.x
  x1 : s.x ≤ 8
  y0 : 0 ≤ s.y
  y1 : s.y ≤ 5
  r0 : 1 ≤ s.r
  r1 : s.r ≤ 9
def Spot.vals (s : Spot) : List V := [.int s.x, .int s.y, .int s.r]
def wOrd (a b : Spot) : List (Int × Int × Int) := if b.r < a.r then [(2, b.x, b.y), (1, a.x, a.y)] else [(1, a.x, a.y), (2, b.x, b.y)]
def knM (a b : Spot) : Nat → Nat → V := (wOrd a b).foldl stM' desk0
def knO (a b : Spot) : Nat → Nat → V := (wOrd a b).foldl stO' own0
structure TxtK (mg : Str → Option Value) : Prop where
  int : mg "int" = none
  range : mg "range" = none
  sorted : mg "sorted" = none
  min : mg "min" = none
section
variable {P : Program} {w : World} {K : PySem.W.Frag} {mg : Str → Option Value} {base : Heap}
abbrev nKn : List Str := ["_law_spots", "_law_y", "_law_x", "_law_marks", "_law_owners", "_law_rank", "_law_k", "_law_left", "_law_top"]
theorem scKn : FnScope nKn ["_law_spots"] (defScope sKn) := ⟨rfl, rfl, rfl, by decide +kernel, rfl, by decide +kernel, by decide +kernel⟩
def spKn : Sp := fun vs H Q _ => ∃ (A : Cells) (pl p0 p1 : Addr) (a b : Spot), vs = [.ref pl] ∧ Has H ((pl, .lst [.ref p0, .ref p1]) :: A) ∧ H p0 = some (.tup a.vals) ∧ H p1 = some (.tup b.vals) ∧ a.ok ∧ b.ok ∧
  ∀ H' t ml ol mr or, H' t = some (.tup [.ref ml, .ref ol]) → Has H' (knCells ml mr ++ (knCells ol or ++ ((pl, .lst [.ref p0, .ref p1]) :: A))) → mr.map (·.2) = gridV (knM a b) → or.map (·.2) = gridV (knO a b) → Q (.ref t) H'
theorem ok_kn {f : Addr} {fd : FuncData} (F : Fun K "_law_known" "_law_known" sKn f fd) (T : TxtK mg) : FnOk P w K mg base CX0 1 f fd ["_law_spots"] spKn := by
  refine F.ok scKn (fun vs H Q E h => ?_) (fun cdv A0 outer s0 H vs Q E hr h => ?_)
  · obtain ⟨A, pl, p0, p1, a, b, rfl, _⟩ := h
    rfl
  · obtain ⟨A, pl, p0, p1, a, b, rfl, hh, hp0, hp1, ao, bo, k⟩ := h
    refine ⟨_, (pss_cons (ps_setLc (i := 3) (own := [("_law_y", 1)]) (g := gName 1) (te := (tLc (iRng1 (tCons (tC (.int 12)) tNil)) (gName 2) tYes (tOp (rIxL K) (tLst (tCons (tC (.int 9)) (tCons (tC (.int 0)) tNil))) (tCB (fun xs H Q => (∃ i, xs = [V.int i] ∧ Q (V.int i) H) ∨ ∃ k, xs = [V.bl k] ∧ Q (V.int (if k = true then 1 else 0)) H) (tCons (tOp rEq (tVar 1) (tC (.int 7))) tNil))) [2])) (by rfl) scKn.nd rfl rfl (sw_true rfl rfl rfl (by decide +kernel)) (pi_range1 rfl T.range (pa_cons pe_int pa_nil)) (blkOk_by (own := [("_law_y", 1)]) (N := nKn) (sc := defScope sKn) (by decide +kernel)) (fun _ _ _ _ _ => (pg_name (i := 1) scKn.nd rfl (Or.inr rfl))) (fun _ _ _ _ _ => pts_nil) (fun _ _ _ _ _ => (pe_lc (own := [("_law_x", 2)]) (g := gName 2) (by rfl) scKn.nd (pi_range1 rfl T.range (pa_cons pe_int pa_nil)) (blkOk_by (own := [("_law_x", 2)]) (by kernel_rfl)) (fun _ _ _ _ _ => (pg_name (i := 2) scKn.nd rfl (Or.inl rfl))) (fun _ _ _ _ _ => pts_nil) (fun _ _ _ _ _ => (pe_ix ix_list (pe_lst (pa_cons pe_int (pa_cons pe_int pa_nil))) (pe_callTy call_int1 (by rfl) T.int (show bootBuiltins "int" = some (.type "int") by decide +kernel) (pa_cons (pe_cmpR op_eq (pv 1) pe_int (nomark _)) pa_nil)) (fun _ _ => rfl)))))) (pss_cons (ps_setLc (i := 4) (own := [("_law_y", 1)]) (g := gName 1) (te := (tLc (iRng1 (tCons (tC (.int 12)) tNil)) (gName 2) tYes (tOp (rIxL K) (tLst (tCons (tC (.int 0)) (tCons (tC .non) tNil))) (tCB (fun xs H Q => (∃ i, xs = [V.int i] ∧ Q (V.int i) H) ∨ ∃ k, xs = [V.bl k] ∧ Q (V.int (if k = true then 1 else 0)) H) (tCons (tOp rEq (tVar 1) (tC (.int 7))) tNil))) [2])) (by rfl) scKn.nd rfl rfl (sw_true rfl rfl rfl (by decide +kernel)) (pi_range1 rfl T.range (pa_cons pe_int pa_nil)) (blkOk_by (own := [("_law_y", 1)]) (N := nKn) (sc := defScope sKn) (by decide +kernel)) (fun _ _ _ _ _ => (pg_name (i := 1) scKn.nd rfl (Or.inr rfl))) (fun _ _ _ _ _ => pts_nil) (fun _ _ _ _ _ => (pe_lc (own := [("_law_x", 2)]) (g := gName 2) (by rfl) scKn.nd (pi_range1 rfl T.range (pa_cons pe_int pa_nil)) (blkOk_by (own := [("_law_x", 2)]) (by kernel_rfl)) (fun _ _ _ _ _ => (pg_name (i := 2) scKn.nd rfl (Or.inl rfl))) (fun _ _ _ _ _ => pts_nil) (fun _ _ _ _ _ => (pe_ix ix_list (pe_lst (pa_cons pe_int (pa_cons pe_non pa_nil))) (pe_callTy call_int1 (by rfl) T.int (show bootBuiltins "int" = some (.type "int") by decide +kernel) (pa_cons (pe_cmpR op_eq (pv 1) pe_int (nomark _)) pa_nil)) (fun _ _ => rfl)))))) (pss_cons (ps_for PassesOwn.never rfl (pi_list (pe_callB cr_sortedPO (by rfl) T.sorted (by decide +kernel) (pa_cons (pe_lst (pa_cons (pe_tup (pa_cons (pe_ix ix_tup (pe_ix ix_list (pv 0) pe_int (fun _ _ => rfl)) pe_int (fun _ _ => rfl)) (pa_cons pe_int pa_nil))) (pa_cons (pe_tup (pa_cons (pe_ix ix_tup (pe_ix ix_list (pv 0) pe_int (fun _ _ => rfl)) pe_int (fun _ _ => rfl)) (pa_cons pe_int pa_nil))) pa_nil))) pa_nil))) (pg_tup (by rfl) (pgs_cons (pg_name (i := 5) scKn.nd rfl (Or.inl rfl)) (pgs_cons (pg_name (i := 6) scKn.nd rfl (Or.inl rfl)) pgs_nil))) (pss_cons (ps_asg (pe_slice sl_tup (pe_ix ix_list (pv 0) (pe_op op_sub (pv 6) pe_int) (fun _ _ => rfl)) po_none (po_some pe_int)) (pg_tup (by rfl) (pgs_cons (pg_name (i := 7) scKn.nd rfl (Or.inl rfl)) (pgs_cons (pg_name (i := 8) scKn.nd rfl (Or.inl rfl)) pgs_nil)))) (pss_one (ps_for PassesOwn.never rfl (pi_range2 rfl T.range (pa_cons (pv 8) (pa_cons (pe_callB (call_min2 rfl) (by rfl) T.min (by decide +kernel) (pa_cons pe_int (pa_cons (pe_op op_add (pv 8) pe_int) pa_nil))) pa_nil))) (pg_name (i := 1) scKn.nd rfl (Or.inl rfl)) (pss_one (ps_for PassesOwn.never rfl (pi_range2 rfl T.range (pa_cons (pv 7) (pa_cons (pe_callB (call_min2 rfl) (by rfl) T.min (by decide +kernel) (pa_cons pe_int (pa_cons (pe_op op_add (pv 7) pe_int) pa_nil))) pa_nil))) (pg_name (i := 2) scKn.nd rfl (Or.inl rfl)) (pss_cons (ps_asg (pe_op op_add (pv 6) (pe_op op_mul pe_int (pe_callTy call_int1 (by rfl) T.int (show bootBuiltins "int" = some (.type "int") by decide +kernel) (pa_cons (pe_cmpR (op_eqD hr.units) (pe_tup (pa_cons (pe_op op_sub (pv 2) (pv 7)) (pa_cons (pe_op op_sub (pv 1) (pv 8)) pa_nil))) (pe_tup (pa_cons pe_int (pa_cons pe_int pa_nil))) (nomark _)) pa_nil)))) (pg_sub (pe_ix ix_list (pv 3) (pv 1) (fun _ _ => rfl)) (pv 2) set_list)) (pss_one (ps_asg (pv 6) (pg_sub (pe_ix ix_list (pv 4) (pv 1) (fun _ _ => rfl)) (pv 2) set_list)))))))))) (pss_one (ps_ret (pe_tup (pa_cons (pv 3) (pa_cons (pv 4) pa_nil)))))))), ?_⟩
    generalize hL : ((pl, HO.lst [.ref p0, .ref p1]) :: A) = L at hh k
    have hpl : ∀ {H2 : Hp} {M : Cells}, Has H2 (M ++ L) → H2 pl = some (.lst [.ref p0, .ref p1]) := fun g => g.mem (by rw [← hL]; simp)
    refine ⟨8, rfl, by decide, by decide, fun ml hml => ?_⟩
    refine lc_range (lo := 0) (n := (8 : Int).toNat) (fun i H2 => KeepT H H2 ∧ ∃ rs : List (Addr × List V), rs.map (·.2) = (List.range i).map (fun y => (List.range 12).map fun x => desk0 y x) ∧ Has H2 (knCells ml rs ++ L)) ⟨(KeepT.refl H).trans (KeepT.same (Same.new _ hml)), [], rfl, hh.cons hml _⟩ ?_ ?_
    · rintro i H2 hi ⟨k2, rs, ers, g⟩
      have hlen : rs.length = i := by have := congrArg List.length ers; simpa using this
      have hi8 : i < 8 := hi
      refine ⟨rfl, ?_⟩
      refine ⟨12, rfl, by decide, by decide, fun D2 hD2 => ?_⟩
      refine lc_range (lo := 0) (n := (12 : Int).toNat) (fun j H3 => KeepT H H3 ∧ Has H3 ((D2, .lst ((List.range j).map fun x => desk0 i x)) :: (knCells ml rs ++ L))) ⟨k2.trans (KeepT.same (Same.new _ hD2)), g.cons hD2 _⟩ ?_ ?_
      · rintro j H3 hj ⟨k3, g3⟩
        refine ⟨rfl, ?_⟩
        refine ⟨small (by show 2 ≤ 1000; decide), fun q hq => ?_⟩
        refine ⟨_, rfl, rfl, .inr ⟨_, rfl, ?_⟩⟩
        have g4 := g3.past hq (.lst [.int 9, .int 0])
        refine ⟨_, _, _, desk0 i j, rfl, rfl, SqL.of upd_same, ?_, ?_⟩
        · by_cases c : i = 7
          · subst c
            exact at_of (j := 1) rfl rfl
          · rw [decide_eq_false (show ¬ V.int (0 + (i : Int)) = V.int 7 from fun z => c (by have := V.int.inj z; omega))]
            refine at_of (j := 0) rfl ?_
            unfold desk0; rw [if_neg c]; rfl
        · have e4 := Has.get (A := []) g4 0 rfl
          refine ⟨_, e4, ?_, (k3.trans (KeepT.same (Same.new _ hq))).trans (KeepT.lst e4 _), ?_⟩
          · rw [List.length_map, List.length_range]; exact small1000 (by have : j < 12 := hj; omega)
          · have g5 := Has.set (A := []) g4 0 rfl (.lst (((List.range j).map fun x => desk0 i x) ++ [desk0 i j]))
            rw [List.range_succ, List.map_append]
            exact g5
      · rintro H3 ⟨k3, g3⟩
        have e4 := Has.get (A := []) g3 1 rfl
        refine ⟨_, e4, ?_, k3.trans (KeepT.lst e4 _), rs ++ [(D2, (List.range 12).map fun x => desk0 i x)], ?_, ?_⟩
        · rw [List.length_map, hlen]; exact small1000 (by omega)
        · rw [List.map_append, ers, List.range_succ (n := i), List.map_append]; rfl
        · have g5 := Has.set (A := []) g3 1 rfl (.lst ((rs.map fun r => V.ref r.1) ++ [V.ref D2]))
          refine Has.perm g5 ?_
          exact kn_snoc _ _ _ _ _
    rintro H5 ⟨k5, mr, emr, g5⟩
    have emr : mr.map (·.2) = gridV desk0 := emr
    clear hml
    refine ⟨8, rfl, by decide, by decide, fun ol hol => ?_⟩
    refine lc_range (lo := 0) (n := (8 : Int).toNat) (fun i H2 => KeepT H H2 ∧ ∃ rs : List (Addr × List V), rs.map (·.2) = (List.range i).map (fun y => (List.range 12).map fun x => own0 y x) ∧ Has H2 (knCells ol rs ++ (knCells ml mr ++ L))) ⟨k5.trans (KeepT.same (Same.new _ hol)), [], rfl, g5.cons hol _⟩ ?_ ?_
    · rintro i H2 hi ⟨k2, rs, ers, g⟩
      have hlen : rs.length = i := by have := congrArg List.length ers; simpa using this
      have hi8 : i < 8 := hi
      refine ⟨rfl, ?_⟩
      refine ⟨12, rfl, by decide, by decide, fun D3 hD2 => ?_⟩
      refine lc_range (lo := 0) (n := (12 : Int).toNat) (fun j H3 => KeepT H H3 ∧ Has H3 ((D3, .lst ((List.range j).map fun x => own0 i x)) :: (knCells ol rs ++ (knCells ml mr ++ L)))) ⟨k2.trans (KeepT.same (Same.new _ hD2)), g.cons hD2 _⟩ ?_ ?_
      · rintro j H3 hj ⟨k3, g3⟩
        refine ⟨rfl, ?_⟩
        refine ⟨small (by show 2 ≤ 1000; decide), fun q hq => ?_⟩
        refine ⟨_, rfl, rfl, .inr ⟨_, rfl, ?_⟩⟩
        have g4 := g3.past hq (.lst [.int 0, .non])
        refine ⟨_, _, _, own0 i j, rfl, rfl, SqL.of upd_same, ?_, ?_⟩
        · by_cases c : i = 7
          · subst c
            exact at_of (j := 1) rfl rfl
          · rw [decide_eq_false (show ¬ V.int (0 + (i : Int)) = V.int 7 from fun z => c (by have := V.int.inj z; omega))]
            refine at_of (j := 0) rfl ?_
            unfold own0; rw [if_neg c]; rfl
        · have e4 := Has.get (A := []) g4 0 rfl
          refine ⟨_, e4, ?_, (k3.trans (KeepT.same (Same.new _ hq))).trans (KeepT.lst e4 _), ?_⟩
          · rw [List.length_map, List.length_range]; exact small1000 (by have : j < 12 := hj; omega)
          · have g5 := Has.set (A := []) g4 0 rfl (.lst (((List.range j).map fun x => own0 i x) ++ [own0 i j]))
            rw [List.range_succ, List.map_append]
            exact g5
      · rintro H3 ⟨k3, g3⟩
        have e4 := Has.get (A := []) g3 1 rfl
        refine ⟨_, e4, ?_, k3.trans (KeepT.lst e4 _), rs ++ [(D3, (List.range 12).map fun x => own0 i x)], ?_, ?_⟩
        · rw [List.length_map, hlen]; exact small1000 (by omega)
        · rw [List.map_append, ers, List.range_succ (n := i), List.map_append]; rfl
        · have g5 := Has.set (A := []) g3 1 rfl (.lst ((rs.map fun r => V.ref r.1) ++ [V.ref D3]))
          refine Has.perm g5 ?_
          exact kn_snoc _ _ _ _ _
    rintro H6 ⟨k6, or, eor, g6⟩
    have eor : or.map (·.2) = gridV own0 := eor
    have g6 : Has H6 (knCells ml mr ++ (knCells ol or ++ L)) := Has.perm g6 (List.perm_append_comm_assoc _ _ _)
    have q0 := k6 _ _ hp0
    have q1 := k6 _ _ hp1
    clear hol k5 g5 hp0 hp1 hh
    have e6 := hpl (M := knCells ml mr ++ knCells ol or) (g6.re (by simp [List.append_assoc]))
    refine ⟨_, rfl, _, _, _, .ref p0, rfl, rfl, SqL.of e6, at_of (j := 0) rfl rfl, _, _, _, .int a.r, rfl, rfl, SqT.of q0, at_of (j := 2) rfl rfl, small (by show 2 ≤ 1000; decide), fun t1 ht1 => ?_⟩
    have g7 := Has.past g6 ht1 (.tup [.int a.r, .int 1])
    have k7 : KeepT H6 (upd H6 t1 (.tup [.int a.r, .int 1])) := KeepT.same (Same.new _ ht1)
    have hT1 : upd H6 t1 (.tup [.int a.r, .int 1]) t1 = some (.tup [.int a.r, .int 1]) := upd_same
    generalize upd H6 t1 (.tup [.int a.r, .int 1]) = H7 at g7 k7 hT1 ⊢
    have e7 := hpl (M := knCells ml mr ++ knCells ol or) (g7.re (by simp [List.append_assoc]))
    refine ⟨_, rfl, _, _, _, .ref p1, rfl, rfl, SqL.of e7, at_of (j := 1) rfl rfl, _, _, _, .int b.r, rfl, rfl, SqT.of (k7 _ _ q1), at_of (j := 2) rfl rfl, small (by show 2 ≤ 1000; decide), fun t2 ht2 => ?_⟩
    have g8 := Has.past g7 ht2 (.tup [.int b.r, .int 2])
    have k8 : KeepT H7 (upd H7 t2 (.tup [.int b.r, .int 2])) := KeepT.same (Same.new _ ht2)
    have hT2 : upd H7 t2 (.tup [.int b.r, .int 2]) t2 = some (.tup [.int b.r, .int 2]) := upd_same
    have nt : t1 ≠ t2 := ne_of_none hT1 ht2
    generalize upd H7 t2 (.tup [.int b.r, .int 2]) = H8 at g8 k8 hT2 ⊢
    refine ⟨small (by show 2 ≤ 1000; decide), fun tl htl => ?_⟩
    have g9 := Has.past g8 htl (.lst [.ref t1, .ref t2])
    have k9 : KeepT H8 (upd H8 tl (.lst [.ref t1, .ref t2])) := KeepT.same (Same.new _ htl)
    have etl : upd H8 tl (.lst [.ref t1, .ref t2]) tl = some (.lst [.ref t1, .ref t2]) := upd_same
    generalize upd H8 tl (.lst [.ref t1, .ref t2]) = H9 at g9 k9 etl ⊢
    have hT1 := (k8.trans k9) _ _ hT1
    have hT2 := k9 _ _ hT2
    have kf : ∀ x ∈ [V.ref t1, V.ref t2], ∃ t, x = V.ref t ∧ H9 t = some (.tup [.int ((fun v => if v = V.ref t1 then (a.r, (1 : Int)) else (b.r, 2)) x).1, .int ((fun v => if v = V.ref t1 then (a.r, (1 : Int)) else (b.r, 2)) x).2]) := by
      intro x hx
      rcases List.mem_cons.mp hx with rfl | hx
      · exact ⟨t1, rfl, by simp only [if_true]; exact hT1⟩
      · rw [List.mem_singleton.mp hx]
        have : ¬ V.ref t2 = V.ref t1 := fun z => nt (V.ref.inj z).symm
        exact ⟨t2, rfl, by simp only [this, if_false]; exact hT2⟩
    refine ⟨tl, [.ref t1, .ref t2], fun v => if v = V.ref t1 then (a.r, (1 : Int)) else (b.r, 2), rfl, SqL.of etl, kf, fun ys sl hsr hst hsl => ?_⟩
    obtain ⟨wl, ey, ew, hw⟩ : ∃ wl : List (Addr × Spot × Int), ys = wl.map (fun q => V.ref q.1) ∧ wl.map (fun q => (q.2.2, q.2.1.x, q.2.1.y)) = wOrd a b ∧ ∀ q ∈ wl, H9 q.1 = some (.tup [.int q.2.1.r, .int q.2.2]) ∧ ((q.2.2 = 1 ∧ q.2.1 = a) ∨ (q.2.2 = 2 ∧ q.2.1 = b)) := by
      have n21 : ¬ V.ref t2 = V.ref t1 := fun z => nt (V.ref.inj z).symm
      rcases perm_pair hst.perm with rfl | rfl
      · have h1 := (List.pairwise_cons.mp hsr).1 (V.ref t2) (by simp)
        refine ⟨[(t1, a, 1), (t2, b, 2)], rfl, ?_, fun q hq => by
          rcases List.mem_cons.mp hq with rfl | hq
          · exact ⟨hT1, .inl ⟨rfl, rfl⟩⟩
          · rw [List.mem_singleton.mp hq]; exact ⟨hT2, .inr ⟨rfl, rfl⟩⟩⟩
        have : ¬ b.r < a.r := fun z => by
          have h2 : SrtO.lexB (b.r, 2) (a.r, 1) = false := by
            have e1 : (if V.ref t2 = V.ref t1 then (a.r, (1 : Int)) else (b.r, 2)) = (b.r, 2) := if_neg n21
            have e2 : (if V.ref t1 = V.ref t1 then (a.r, (1 : Int)) else (b.r, 2)) = (a.r, 1) := if_pos rfl
            have h3 : SrtO.lexB (if V.ref t2 = V.ref t1 then (a.r, (1 : Int)) else (b.r, 2)) (if V.ref t1 = V.ref t1 then (a.r, (1 : Int)) else (b.r, 2)) = false := h1
            rw [e1, e2] at h3; exact h3
          simp [SrtO.lexB] at h2; omega
        unfold wOrd; rw [if_neg this]; rfl
      · have h1 := (List.pairwise_cons.mp hsr).1 (V.ref t1) (by simp)
        refine ⟨[(t2, b, 2), (t1, a, 1)], rfl, ?_, fun q hq => by
          rcases List.mem_cons.mp hq with rfl | hq
          · exact ⟨hT2, .inr ⟨rfl, rfl⟩⟩
          · rw [List.mem_singleton.mp hq]; exact ⟨hT1, .inl ⟨rfl, rfl⟩⟩⟩
        have : b.r < a.r := by
          have h2 : SrtO.lexB (a.r, 1) (b.r, 2) = false := by
            have e1 : (if V.ref t2 = V.ref t1 then (a.r, (1 : Int)) else (b.r, 2)) = (b.r, 2) := if_neg n21
            have e2 : (if V.ref t1 = V.ref t1 then (a.r, (1 : Int)) else (b.r, 2)) = (a.r, 1) := if_pos rfl
            have h3 : SrtO.lexB (if V.ref t1 = V.ref t1 then (a.r, (1 : Int)) else (b.r, 2)) (if V.ref t2 = V.ref t1 then (a.r, (1 : Int)) else (b.r, 2)) = false := h1
            rw [e1, e2] at h3; exact h3
          simp [SrtO.lexB] at h2; omega
        unfold wOrd; rw [if_pos this]; rfl
    subst ey
    have g10 := Has.cons g9 hsl (.lst (wl.map fun q => V.ref q.1))
    have k10 : KeepT H9 (upd H9 sl (.lst (wl.map fun q => V.ref q.1))) := KeepT.same (Same.new _ hsl)
    generalize upd H9 sl (.lst (wl.map fun q => V.ref q.1)) = H10 at g10 k10 ⊢
    have hw : ∀ q ∈ wl, H10 q.1 = some (.tup [.int q.2.1.r, .int q.2.2]) ∧ ((q.2.2 = 1 ∧ q.2.1 = a) ∨ (q.2.2 = 2 ∧ q.2.1 = b)) := fun q hq => ⟨k10 _ _ (hw q hq).1, (hw q hq).2⟩
    have q0 := (((k7.trans k8).trans k9).trans k10) _ _ q0
    have q1 := (((k7.trans k8).trans k9).trans k10) _ _ q1
    clear hsr hst kf k7 k8 k9 g6 g7 g8 g9 htl etl ht1 ht2 hT1 hT2 e6 e7 nt
    generalize hLL : ((sl, HO.lst (wl.map fun q => V.ref q.1)) :: L) = LL
    have toLL : ∀ {H2 : Hp} {mr or : List (Addr × List V)}, Has H2 ((sl, HO.lst (wl.map fun q => V.ref q.1)) :: (knCells ml mr ++ (knCells ol or ++ L))) → Has H2 (knCells ml mr ++ (knCells ol or ++ LL)) := fun g => by
      rw [← hLL]
      refine Has.perm g ?_
      rw [← List.append_assoc, ← List.append_assoc]
      exact List.perm_middle.symm
    have ofLL : ∀ {H2 : Hp} {M : Cells}, Has H2 (M ++ LL) → H2 sl = some (.lst (wl.map fun q => V.ref q.1)) ∧ H2 pl = some (.lst [.ref p0, .ref p1]) := fun g => ⟨g.mem (by rw [← hLL]; simp), g.mem (by rw [← hLL, ← hL]; simp)⟩
    have g11 := toLL g10
    refine ⟨sl, rfl, ⟨_, SqL.of (ofLL (M := knCells ml mr ++ knCells ol or) (g11.re (by simp [List.append_assoc]))).1⟩, for_list (K := K) (a := sl) (xs := wl.map fun q => V.ref q.1) (fun i σ H2 => ∃ v1 v2 v5 v6 v7 v8 mr or, σ = [some (.ref pl), v1, v2, some (.ref ml), some (.ref ol), v5, v6, v7, v8] ∧ KeepT H10 H2 ∧ mr.map (·.2) = gridV (((wOrd a b).take i).foldl stM' desk0) ∧ or.map (·.2) = gridV (((wOrd a b).take i).foldl stO' own0) ∧ Has H2 (knCells ml mr ++ (knCells ol or ++ LL)))
      ⟨_, _, _, _, _, _, mr, or, rfl, KeepT.refl _, emr, eor, g11⟩ (fun i σ H2 _ p => by obtain ⟨_, _, _, _, _, _, mr, or, _, _, _, _, g⟩ := p; exact SqL.of (ofLL (M := knCells ml mr ++ knCells ol or) (g.re (by simp [List.append_assoc]))).1) ?_ ?_⟩
    · rintro i x σ H2 hx ⟨v1, v2, v5, v6, v7, v8, mr, or, rfl, k2, em, eo, g⟩
      rw [List.getElem?_map] at hx
      cases eq : wl[i]? with
      | none => rw [eq] at hx; cases hx
      | some q =>
        rw [eq] at hx
        obtain rfl : V.ref q.1 = x := Option.some.inj hx
        have hwq := hw q (List.mem_of_getElem? eq)
        have ew1 : (wOrd a b)[i]? = some (q.2.2, q.2.1.x, q.2.1.y) := by rw [← ew, List.getElem?_map, eq]; rfl
        have etk : (wOrd a b).take (i + 1) = (wOrd a b).take i ++ [(q.2.2, q.2.1.x, q.2.1.y)] := by rw [List.take_add_one, ew1]; rfl
        rw [etk, List.foldl_append, List.foldl_append]
        generalize ((wOrd a b).take i).foldl stM' desk0 = fm at em ⊢
        generalize ((wOrd a b).take i).foldl stO' own0 = fo at eo ⊢
        obtain ⟨tq, sp, kk⟩ := q
        have hso : sp.ok ∧ (kk = 1 ∨ kk = 2) := by
          rcases hwq.2 with ⟨h1, h2⟩ | ⟨h1, h2⟩
          · have h2 : sp = a := h2
            exact ⟨h2 ▸ ao, .inl h1⟩
          · have h2 : sp = b := h2
            exact ⟨h2 ▸ bo, .inr h1⟩
        obtain ⟨pq, jq, hpq, hjq, hkj⟩ : ∃ (pq : Addr) (jq : Nat), H10 pq = some (.tup sp.vals) ∧ ([V.ref p0, V.ref p1] : List V)[jq]? = some (.ref pq) ∧ kk - 1 = (jq : Int) := by
          rcases hwq.2 with ⟨h1, h2⟩ | ⟨h1, h2⟩
          · have h1 : kk = 1 := h1
            have h2 : sp = a := h2
            exact ⟨p0, 0, h2 ▸ q0, rfl, by rw [h1]; rfl⟩
          · have h1 : kk = 2 := h1
            have h2 : sp = b := h2
            exact ⟨p1, 1, h2 ▸ q1, rfl, by rw [h1]; rfl⟩
        have hwq1 := k2 _ _ hwq.1
        have hpq2 := k2 _ _ hpq
        have epl := (ofLL (M := knCells ml mr ++ knCells ol or) (g.re (by simp [List.append_assoc]))).2
        refine ⟨tq, _, rfl, SqT.of hwq1, rfl, _, _, rfl, _, _, rfl, rfl, ?_⟩
        refine ⟨_, rfl, _, rfl, _, _, rfl, rfl, _, _, _, .ref pq, rfl, rfl, SqL.of epl, at_of (j := jq) hkj hjq, ?_⟩
        obtain ⟨l, tt, rr⟩ := sp
        obtain ⟨b1, b2, b3, b4, _, _⟩ := hso.1
        simp only at b1 b2 b3 b4
        refine ⟨_, rfl, pq, _, rfl, SqT.of hpq2, (by simp [Spot.vals, HT.sIx]), fun p hp => ?_⟩
        have g3 : Has (upd H2 p (.tup [.int l, .int tt])) (knCells ml mr ++ (knCells ol or ++ LL)) := g.past hp _
        have k3 : KeepT H10 (upd H2 p (.tup [.int l, .int tt])) := k2.trans (KeepT.same (Same.new _ hp))
        rw [show cutV (Spot.vals ⟨l, tt, rr⟩) none (some 2) = [.int l, .int tt] from rfl]
        refine ⟨p, [.int l, .int tt], rfl, SqT.of upd_same, rfl, _, _, rfl, _, _, rfl, rfl, ?_⟩
        generalize upd H2 p (.tup [.int l, .int tt]) = H3 at g3 k3 ⊢
        have m8 : (if tt + 3 < 8 then tt + 3 else 8) = tt + 3 := by split <;> omega
        have m12 : (if l + 4 < 12 then l + 4 else 12) = l + 4 := by split <;> omega
        refine ⟨_, rfl, _, rfl, _, _, rfl, rfl, 8, tt + 3, rfl, tt, tt + 3, by rw [m8], ⟨by omega, by omega, by omega, by omega⟩, ?_⟩
        refine for_range (lo := tt) (n := (tt + 3 - tt).toNat) (fun iy σ H4 => ∃ v1 v2 mr or, σ = [some (.ref pl), v1, v2, some (.ref ml), some (.ref ol), some (.int rr), some (.int kk), some (.int l), some (.int tt)] ∧ KeepT H10 H4 ∧
          mr.map (·.2) = gridV (fun y x => if inW l tt y x ∧ (y : Int) < tt + iy then .int (mkW kk l tt y x) else fm y x) ∧ or.map (·.2) = gridV (fun y x => if inW l tt y x ∧ (y : Int) < tt + iy then .int kk else fo y x) ∧ Has H4 (knCells ml mr ++ (knCells ol or ++ LL))) ?_ ?_ ?_
        · refine ⟨_, _, mr, or, rfl, k3, ?_, ?_, g3⟩
          · rw [em]
            refine gridV_congr fun y x _ _ => ?_
            rw [if_neg (by unfold inW; omega)]
          · rw [eo]
            refine gridV_congr fun y x _ _ => ?_
            rw [if_neg (by unfold inW; omega)]
        · rintro iy σ H4 hiy ⟨v1, v2, mr, or, rfl, k4, em, eo, g4⟩
          refine ⟨_, rfl, _, rfl, _, _, rfl, rfl, 12, l + 4, rfl, l, l + 4, by rw [m12], ⟨by omega, by omega, by omega, by omega⟩, ?_⟩
          refine for_range (lo := l) (n := (l + 4 - l).toNat) (fun ix σ H4 => ∃ v2 mr or, σ = [some (.ref pl), some (.int (tt + iy)), v2, some (.ref ml), some (.ref ol), some (.int rr), some (.int kk), some (.int l), some (.int tt)] ∧ KeepT H10 H4 ∧
            mr.map (·.2) = gridV (fun y x => if inW l tt y x ∧ ((y : Int) < tt + iy ∨ ((y : Int) = tt + iy ∧ (x : Int) < l + ix)) then .int (mkW kk l tt y x) else fm y x) ∧ or.map (·.2) = gridV (fun y x => if inW l tt y x ∧ ((y : Int) < tt + iy ∨ ((y : Int) = tt + iy ∧ (x : Int) < l + ix)) then .int kk else fo y x) ∧ Has H4 (knCells ml mr ++ (knCells ol or ++ LL))) ?_ ?_ ?_
          · refine ⟨_, mr, or, rfl, k4, ?_, ?_, g4⟩
            · rw [em]
              refine gridV_congr fun y x _ _ => ?_
              have : (inW l tt y x ∧ ((y : Int) < tt + iy ∨ ((y : Int) = tt + iy ∧ (x : Int) < l + (0 : Nat)))) ↔ (inW l tt y x ∧ (y : Int) < tt + iy) := by unfold inW; omega
              simp only [this]
            · rw [eo]
              refine gridV_congr fun y x _ _ => ?_
              have : (inW l tt y x ∧ ((y : Int) < tt + iy ∨ ((y : Int) = tt + iy ∧ (x : Int) < l + (0 : Nat)))) ↔ (inW l tt y x ∧ (y : Int) < tt + iy) := by unfold inW; omega
              simp only [this]
          · rintro ix σ H5 hix ⟨v2, mr, or, rfl, k5, em, eo, g5⟩
            have hy8 : (tt + (iy : Int)).toNat < 8 := by omega
            have hx12 : (l + (ix : Int)).toNat < 12 := by omega
            obtain ⟨r, er, er2⟩ := gridV_row em hy8
            refine ⟨_, rfl, _, rfl, _, rfl, _, _, rfl, rfl, _, rfl, _, rfl, _, _, rfl, rfl, small (by show 2 ≤ 1000; decide), fun q1 hq1 => ⟨small (by show 2 ≤ 1000; decide), fun q2 hq2 => ?_⟩⟩
            have g6 := Has.past (Has.past g5 hq1 (.tup [.int (l + ix - l), .int (tt + iy - tt)])) hq2 (.tup [.int 2, .int 1])
            have k6 : KeepT H5 _ := (KeepT.same (Same.new (.tup [.int (l + ix - l), .int (tt + iy - tt)]) hq1)).trans (KeepT.same (Same.new (.tup [.int 2, .int 1]) hq2))
            have n12 : q1 ≠ q2 := ne_of_none (upd_same : upd H5 q1 (.tup [.int (l + ix - l), .int (tt + iy - tt)]) q1 = _) hq2
            have eq1 : upd (upd H5 q1 (.tup [.int (l + ix - l), .int (tt + iy - tt)])) q2 (.tup [.int 2, .int 1]) q1 = some (.tup [.int (l + ix - l), .int (tt + iy - tt)]) := by rw [upd_ne n12, upd_same]
            refine ⟨_, _, Dp.tup (SqT.of eq1) (.cons (.int _) (.cons (.int _) .nil)), Dp.tup (SqT.of upd_same) (.cons (.int _) (.cons (.int _) .nil)), rfl, rfl, ?_⟩
            refine .inr ⟨_, rfl, ?_⟩
            refine ⟨_, _, rfl, rfl, .inl ⟨by decide, by decide⟩, _, _, rfl, rfl, ?_⟩
            generalize upd (upd H5 q1 (.tup [.int (l + ix - l), .int (tt + iy - tt)])) q2 (.tup [.int 2, .int 1]) = H6 at g6 k6 ⊢
            have hev : PyData.eqv (.tuple [.int (l + ix - l), .int (tt + iy - tt)]) (.tuple [.int 2, .int 1]) = decide ((l + ix - l) = 2 ∧ (tt + iy - tt) = 1) := by
              rw [Bool.decide_and]
              simp [PyData.eqv, PyData.eqvAll]
              rfl
            rw [hev]
            have hval : (kk + 4 * (if decide ((l + ix - l) = 2 ∧ (tt + iy - tt) = 1) = true then 1 else 0) : Int) = mkW kk l tt (tt + iy).toNat (l + ix).toNat := by
              unfold mkW
              have : (((tt + (iy : Int)).toNat : Nat) : Int) = tt + iy := by omega
              rw [this]
              have : (((l + (ix : Int)).toNat : Nat) : Int) = l + ix := by omega
              rw [this]
              simp only [decide_eq_true_eq]
            dsimp only
            rw [hval]
            have nx : ixN 12 (l + (ix : Int)) = some (l + (ix : Int)).toNat := by unfold ixN; rw [if_pos (by omega), if_pos (by omega)]
            have rl : r.2.length = 12 := by rw [er2]; simp
            refine ⟨_, rfl, _, rfl, _, _, _, .ref r.1, rfl, rfl, SqL.of (kn_top (A := []) g6), at_of (j := (tt + (iy : Int)).toNat) (by omega) (by rw [List.getElem?_map, er]; rfl), _, rfl, _, _, _, (l + (ix : Int)).toNat, rfl, rfl, kn_row (A := []) g6 er, by rw [rl]; exact nx, ?_⟩
            have g7 := kn_set (A := []) g6 er (r.2.set (l + (ix : Int)).toNat (.int (mkW kk l tt (tt + iy).toNat (l + ix).toNat)))
            have k7 : KeepT H6 _ := KeepT.lst (kn_row (A := []) g6 er) (.lst (r.2.set (l + (ix : Int)).toNat (.int (mkW kk l tt (tt + iy).toNat (l + ix).toNat))))
            have em7 := gridV_set em er er2 (.int (mkW kk l tt (tt + iy).toNat (l + ix).toNat)) (x := (l + (ix : Int)).toNat)
            generalize upd H6 r.1 (.lst (r.2.set (l + (ix : Int)).toNat (.int (mkW kk l tt (tt + iy).toNat (l + ix).toNat)))) = H7 at g7 k7 ⊢
            generalize mr.set (tt + (iy : Int)).toNat (r.1, r.2.set (l + (ix : Int)).toNat (.int (mkW kk l tt (tt + iy).toNat (l + ix).toNat))) = mr7 at g7 em7
            obtain ⟨s, es, es2⟩ := gridV_row eo hy8
            have sl2 : s.2.length = 12 := by rw [es2]; simp
            have g7 : Has H7 (knCells ml mr7 ++ (knCells ol or ++ LL)) := g7
            refine ⟨_, rfl, _, rfl, _, rfl, _, _, _, .ref s.1, rfl, rfl, SqL.of (kn_top g7), at_of (j := (tt + (iy : Int)).toNat) (by omega) (by rw [List.getElem?_map, es]; rfl), _, rfl, _, _, _, (l + (ix : Int)).toNat, rfl, rfl, kn_row g7 es, by rw [sl2]; exact nx, ?_⟩
            have g8 := kn_set g7 es (s.2.set (l + (ix : Int)).toNat (.int kk))
            have k8 : KeepT H7 _ := KeepT.lst (kn_row g7 es) (.lst (s.2.set (l + (ix : Int)).toNat (.int kk)))
            have eo8 := gridV_set eo es es2 (.int kk) (x := (l + (ix : Int)).toNat)
            have inn : ∀ y x : Nat, y < 8 → x < 12 → ((inW l tt y x ∧ ((y : Int) < tt + iy ∨ ((y : Int) = tt + iy ∧ (x : Int) < l + ((ix + 1 : Nat) : Int)))) ↔ ((y = (tt + (iy : Int)).toNat ∧ x = (l + (ix : Int)).toNat) ∨ (inW l tt y x ∧ ((y : Int) < tt + iy ∨ ((y : Int) = tt + iy ∧ (x : Int) < l + ix))))) := by
              intro y x _ _
              unfold inW
              omega
            refine ⟨_, mr7, _, rfl, ((k5.trans k6).trans k7).trans k8, ?_, ?_, g8⟩
            · rw [em7]
              refine gridV_congr fun y x hy hx => ?_
              by_cases c : y = (tt + (iy : Int)).toNat ∧ x = (l + (ix : Int)).toNat
              · rw [if_pos c, if_pos ((inn y x hy hx).mpr (.inl c)), c.1, c.2]
              · rw [if_neg c]
                have := inn y x hy hx
                simp only [c, false_or] at this
                simp only [this]
            · rw [eo8]
              refine gridV_congr fun y x hy hx => ?_
              by_cases c : y = (tt + (iy : Int)).toNat ∧ x = (l + (ix : Int)).toNat
              · rw [if_pos c, if_pos ((inn y x hy hx).mpr (.inl c))]
              · rw [if_neg c]
                have := inn y x hy hx
                simp only [c, false_or] at this
                simp only [this]
          · rintro σ H5 ⟨v2, mr, or, rfl, k5, em, eo, g5⟩
            have inn : ∀ y x : Nat, (inW l tt y x ∧ ((y : Int) < tt + iy ∨ ((y : Int) = tt + iy ∧ (x : Int) < l + (((l + 4 - l).toNat : Nat) : Int)))) ↔ (inW l tt y x ∧ (y : Int) < tt + ((iy + 1 : Nat) : Int)) := by
              intro y x; unfold inW; omega
            refine ⟨_, v2, mr, or, rfl, k5, ?_, ?_, g5⟩
            · rw [em]
              refine gridV_congr fun y x _ _ => ?_
              simp only [inn y x]
            · rw [eo]
              refine gridV_congr fun y x _ _ => ?_
              simp only [inn y x]
        · rintro σ H4 ⟨v1, v2, mr, or, rfl, k4, em, eo, g4⟩
          have inn : ∀ y x : Nat, (inW l tt y x ∧ (y : Int) < tt + (((tt + 3 - tt).toNat : Nat) : Int)) ↔ inW l tt y x := by
            intro y x; unfold inW; omega
          refine ⟨v1, v2, _, _, _, _, mr, or, rfl, k4, ?_, ?_, g4⟩
          · rw [em]
            refine gridV_congr fun y x _ _ => ?_
            simp only [inn y x]; rfl
          · rw [eo]
            refine gridV_congr fun y x _ _ => ?_
            simp only [inn y x]; rfl
    · rintro σ H2 ⟨v1, v2, v5, v6, v7, v8, mr, or, rfl, k2, em, eo, g⟩
      have el : (wl.map fun q => V.ref q.1).length = (wOrd a b).length := by rw [← ew, List.length_map, List.length_map]
      rw [el, List.take_length] at em eo
      refine ⟨_, rfl, _, rfl, small (by show 2 ≤ 1000; decide), fun t ht => ?_⟩
      refine k _ t ml ol mr or upd_same ?_ em eo
      have g2 := Has.past g ht (.tup [.ref ml, .ref ol])
      rw [← hLL] at g2
      refine g2.sub (List.Sublist.append_left (List.Sublist.append_left (List.sublist_cons_self _ _) _) _)
end
end SH
set_option Elab.async false
set_option linter.all false
set_option maxRecDepth 100000
set_option maxHeartbeats 0
namespace SH
open PySem PySem.Spec PyProof.Rows L2
abbrev sHd : Stmt := top 48
theorem cut_tail (xs ys : List V) : cutV (xs ++ ys) (some (xs.length : Int)) none = ys := by
  unfold cutV HT.sIx
  have : ¬ ((xs.length : Nat) : Int) < 0 := by omega
  simp [this]
/-- who is seen at each cell, and that the law has it so -/
def CellOk (ps : Ps) (s : ScrH) (a b : Spot) (y x : Nat) : Prop := ∃ r sa who, s.srows[y]? = some r ∧ r.2[x]? = some (oref sa) ∧ AtS ps sa who ∧ match who with
  | none => knO a b y x = .non
  | some (j, u) => u.there = true ∧ j < 3 ∧ knO a b y x = .int (j : Nat) ∧ (j ≠ 0 → ∃ m : Int, knM a b y x = .int m ∧ u.name = (if 4 < m then 1 else 0) ∧ ∃ sp : Spot, (if j = 1 then a else b) = sp ∧ u.lx = sp.x + 2 * u.name ∧ u.ly = sp.y + u.name)
def SeenOk (ps : Ps) (s : ScrH) (a b : Spot) : Prop := ∀ y x, y < 8 → x < 12 → CellOk ps s a b y x
theorem SeenOk.hears {H : Hp} {ps ps' : Ps} {s : ScrH} {a b : Spot} {ex : Nat → List (List V)} (h : SeenOk ps s a b) (e : Hears H ps ps' ex) : SeenOk ps' s a b := fun y x hy hx => by
  obtain ⟨r, sa, who, e1, e2, e3, e4⟩ := h y x hy hx
  exact ⟨r, sa, who, e1, e2, e3.hears e, e4⟩
def spHHeardK (CH CC : Addr) : Sp := fun vs H Q E => spHHeard CH CC vs H (fun v H' => KeepT H H' → Q v H') E
def isDown (vs : List V) : Bool := decide (vs.head? = some (.str "down"))
theorem down_no {ex : Nat → List (List V)} (h : NoDown ex) (j : Nat) : (ex j).filter isDown = [] := by
  rw [List.filter_eq_nil_iff]
  intro v hv
  obtain ⟨x, r, rfl, hx⟩ := h j v hv
  unfold isDown
  simp only [List.head?_cons, decide_eq_true_eq]
  intro z
  have z : some (V.str x) = some (V.str "down") := by simpa using z
  exact hx (V.str.inj (Option.some.inj z))
theorem down_all (who : Option (Nat × SurfR)) (r : SurfR → List V) (j : Nat) : (exOf who (fun u => .str "down" :: r u) j).filter isDown = exOf who (fun u => .str "down" :: r u) j := by
  rw [List.filter_eq_self]
  intro v hv
  unfold exOf at hv
  cases who with
  | none => cases hv
  | some w =>
    by_cases e : j = w.1
    · simp only [e, if_true] at hv
      rw [List.mem_singleton.mp hv]; rfl
    · simp only [e, if_false] at hv; cases hv
section
variable {P : Program} {w : World} {K : PySem.W.Frag} {mg : Str → Option Value} {base : Heap}
abbrev nHd : List Str := ["_law_house", "_law_marks", "_law_owners", "_law_spots", "_law_x", "_law_y", "_law_k", "_law_ahead", "_law_more", "_law_name", "_law_left", "_law_top", "_law_one"]
theorem scHd : FnScope nHd ["_law_house", "_law_marks", "_law_owners", "_law_spots", "_law_x", "_law_y"] (defScope sHd) := ⟨rfl, rfl, rfl, by decide +kernel, rfl, by decide +kernel, by decide +kernel⟩
def spHd (CH CD CN CC CS CL : Addr) : Sp := fun vs H Q _ => ∃ (A B : Cells) (h : HouH) (s : ScrH) (foc : Option Addr) (whoF : Option (Nat × SurfR)) (ps : Ps) (n : Nat) (ml ol pl p0 p1 : Addr) (mr or : List (Addr × List V)) (a b : Spot) (px py : Nat), vs = [.ref h.a, .ref ml, .ref ol, .ref pl, .int (px : Int), .int (py : Int)] ∧
  TW CH CD CN CC CS CL H A h s foc [] ps (knCells ml mr ++ (knCells ol or ++ ((pl, .lst [.ref p0, .ref p1]) :: B))) ∧ H p0 = some (.tup a.vals) ∧ H p1 = some (.tup b.vals) ∧ mr.map (·.2) = gridV (knM a b) ∧ or.map (·.2) = gridV (knO a b) ∧ px < 12 ∧ py < 8 ∧ ps.length = 3 ∧ h.ca = ps.map (·.1.a) ∧ h.sc = s.a ∧ s.wide = 12 ∧ s.high = 8 ∧
  PsOk ps n ∧ n + 8 < 90000 ∧ AtS ps foc whoF ∧ SeenOk ps s a b ∧
  ∀ H' ps' foc' whoF', ps'.length = 3 → h.ca = ps'.map (·.1.a) → PsOk ps' (n + 4) → AtS ps' foc' whoF' → SeenOk ps' s a b → TW CH CD CN CC CS CL H' A h s foc' [] ps' (knCells ml mr ++ (knCells ol or ++ ((pl, .lst [.ref p0, .ref p1]) :: B))) → Q (.bl true) H'
theorem hears_as {H : Hp} {ps ps' : Ps} {ex : Nat → List (List V)} (h : Hears H ps ps' ex) : ps'.map (·.1.a) = ps.map (·.1.a) := by
  apply List.ext_getElem?
  intro j
  rw [List.getElem?_map, List.getElem?_map]
  cases e : ps[j]? with
  | none =>
    have : ps'[j]? = none := List.getElem?_eq_none_iff.mpr (by rw [h.1]; exact List.getElem?_eq_none_iff.mp e)
    rw [this]
  | some p =>
    obtain ⟨ts, e', _⟩ := h.2 j p.1 p.2 e
    rw [e']; rfl
theorem tw_cli {CH CD CN CC CS CL : Addr} {H : Hp} {A B : Cells} {h : HouH} {s : ScrH} {foc : Option Addr} {fing : List (Int × Option Addr)} {ps : Ps} (g : TW CH CD CN CC CS CL H A h s foc fing ps B) {j : Nat} {p : CliH × List SurfR} (e : ps[j]? = some p) :
    H p.1.a = some (.ins CC p.1.dx (clientF p.1.number p.1.fallen p.1.ra p.1.sa p.1.na)) ∧ H p.1.na = some (.lst (p.1.notes.map V.ref)) :=
  ⟨mem_cli g (List.mem_of_getElem? e) (p.1.a, .ins CC p.1.dx (clientF p.1.number p.1.fallen p.1.ra p.1.sa p.1.na)) (by simp [cliCells]), mem_cli g (List.mem_of_getElem? e) (p.1.na, .lst (p.1.notes.map V.ref)) (by simp [cliCells])⟩
theorem tw_mem {CH CD CN CC CS CL : Addr} {H : Hp} {A B : Cells} {h : HouH} {s : ScrH} {foc : Option Addr} {fing : List (Int × Option Addr)} {ps : Ps} (g : TW CH CD CN CC CS CL H A h s foc fing ps B) {p : Addr} {o : HO} (e : (p, o) ∈ B) : H p = some o := g.mem (List.mem_append_right _ (List.mem_append_right _ e))
theorem tw_new {CH CD CN CC CS CL : Addr} {H : Hp} {A B : Cells} {h : HouH} {s : ScrH} {foc : Option Addr} {fing : List (Int × Option Addr)} {ps : Ps} (g : TW CH CD CN CC CS CL H A h s foc fing ps B) {p : Addr} (e : H p = none) (o : HO) : TW CH CD CN CC CS CL (upd H p o) A h s foc fing ps ((p, o) :: B) := Has.newAt g e o
theorem tw_set {CH CD CN CC CS CL : Addr} {H : Hp} {A B : Cells} {h : HouH} {s : ScrH} {foc : Option Addr} {fing : List (Int × Option Addr)} {ps : Ps} {p : Addr} {o : HO} (g : TW CH CD CN CC CS CL H A h s foc fing ps ((p, o) :: B)) (o' : HO) : TW CH CD CN CC CS CL (upd H p o') A h s foc fing ps ((p, o') :: B) := ((g.unassoc.set 0 rfl o').assoc)
theorem tw_perm {CH CD CN CC CS CL : Addr} {H : Hp} {A B B' : Cells} {h : HouH} {s : ScrH} {foc : Option Addr} {fing : List (Int × Option Addr)} {ps : Ps} (g : TW CH CD CN CC CS CL H A h s foc fing ps B) (e : B.Perm B') : TW CH CD CN CC CS CL H A h s foc fing ps B' := Has.perm g (List.Perm.append_left _ (List.Perm.append_left _ e))
theorem tw_sub {CH CD CN CC CS CL : Addr} {H : Hp} {A B B' : Cells} {h : HouH} {s : ScrH} {foc : Option Addr} {fing : List (Int × Option Addr)} {ps : Ps} (g : TW CH CD CN CC CS CL H A h s foc fing ps B) (e : B'.Sublist B) : TW CH CD CN CC CS CL H A h s foc fing ps B' := Has.sub g (List.Sublist.append_left (List.Sublist.append_left e _) _)
theorem shp1 (n1 n2 n3 n4 : Int) : SeqAt.shaped (PyData.list [PyData.tuple [PyData.str "down", PyData.int n1, PyData.int n2, PyData.int n3, PyData.int n4]]) = true := by
  first | rfl | kernel_rfl | (simp [SeqAt.shaped, PyData.canLay0, PyData.depth, PyData.depthAll]; done)
theorem shp2 {ns : List Int} (h : ns.length ≤ 1) : SeqAt.shaped (PyData.list (ns.map PyData.int)) = true := by
  match ns, h with
  | [], _ => rfl
  | [x], _ => first | rfl | kernel_rfl | simp [SeqAt.shaped, PyData.canLay0, PyData.depth, PyData.depthAll]
def noteN (ps : Ps) (j : Nat) : Int := ((ps[j]?.map fun p => p.1.notes.length).getD 0 : Nat)
theorem noteN_of {ps : Ps} {j : Nat} {p : CliH × List SurfR} (e : ps[j]? = some p) : noteN ps j = (p.1.notes.length : Nat) := by unfold noteN; rw [e]; rfl
theorem ok_hd {f CH CD CN CC CS CL fHe fTo : Addr} {fd fdHe fdTo : FuncData} (F : Fun K "_law_is_heard" "_law_is_heard" sHd f fd) (T : TxtK mg) (TH : TxtH K mg CH)
    (GHe0 : FnOk P w K mg base CX0 3 fHe fdHe ["self", "client"] (spHHeard CH CC)) (bHe : Binds K fdHe ["self", "client"] []) (mHe : Meth K CH "heard" fHe)
    (GTo0 : FnOk P w K mg base CX0 5 fTo fdTo ["self", "what"] (spHTouch CH CD CN CC CS CL)) (bTo : Binds K fdTo ["self", "what"] []) (mTo : Meth K CH "touch" fTo) :
    FnOk P w K mg base CX0 6 f fd ["_law_house", "_law_marks", "_law_owners", "_law_spots", "_law_x", "_law_y"] (spHd CH CD CN CC CS CL) := by
  have GHe : FnOk P w K mg base CX0 3 fHe fdHe ["self", "client"] (spHHeardK CH CC) := keep_t GHe0
  have GTo := keep_t GTo0
  refine F.ok scHd (fun vs H Q E h => ?_) (fun cdv A0 outer s0 H vs Q E hr h => ?_)
  · obtain ⟨A, B, h, s, foc, whoF, ps, n, ml, ol, pl, p0, p1, mr, or, a, b, px, py, rfl, _⟩ := h
    rfl
  · obtain ⟨A, B, h, s, foc, whoF, ps, n, ml, ol, pl, p0, p1, mr, or, a, b, px, py, rfl, g, hp0, hp1, em, eo, hx, hy, hpl, hca, hsc, hwd, hhi, ok, hn, haf, hse, k⟩ := h
    have hu2 := hr.units
    refine ⟨_, (pss_cons (ps_set (i := 7) scHd.nd rfl (Or.inr rfl) (pe_lc (own := [("_law_k", 6)]) (g := gName 6) (te := (tCB (fun xs H Q => ∃ p ys, xs = [V.ref p] ∧ (SqL K H p ys ∨ SqT K H p ys) ∧ Q (V.int (ys.length : Nat)) H) (tCons (tMeth CH "heard" (spHHeardK CH CC) [] E0 (tVar 0) (tCons (tVar 6) tNil)) tNil))) (by rfl) scHd.nd (pi_range1 rfl T.range (pa_cons pe_int pa_nil)) (blkOk_by (own := [("_law_k", 6)]) (N := nHd) (sc := defScope sHd) (by decide +kernel)) (fun _ _ _ _ _ => (pg_name (i := 6) scHd.nd rfl (Or.inl rfl))) (fun _ _ _ _ _ => pts_nil) (fun _ _ _ _ _ => (pe_callB call_len_seq (by rfl) TH.len PySem.boot_len (pa_cons (pe_meth (pv 0) TH.cl mHe GHe (hr.mono (by decide)) bHe .nil pass0 (pa_cons (pv 6) pa_nil)) pa_nil))))) (pss_cons (ps_expr (pe_meth (pv 0) TH.cl mTo GTo hr bTo .nil pass0 (pa_cons (pe_tup (pa_cons pe_str (pa_cons pe_int (pa_cons (pv 4) (pa_cons (pv 5) pa_nil))))) pa_nil))) (pss_cons (ps_expr (pe_meth (pv 0) TH.cl mTo GTo hr bTo .nil pass0 (pa_cons (pe_tup (pa_cons pe_str (pa_cons pe_int pa_nil))) pa_nil))) (pss_cons (ps_set (i := 8) scHd.nd rfl (Or.inr rfl) (pe_lc (own := [("_law_k", 6)]) (g := gName 6) (te := (tLc (iList K (tSl (rSlL K) (tMeth CH "heard" (spHHeardK CH CC) [] E0 (tVar 0) (tCons (tVar 6) tNil)) (tPart (tOp (rIxL K) (tVar 7) (tVar 6))) tNoPart)) (gName 12) (tTest (tOp rEq (tOp (rIxT K) (tVar 12) (tC (.int 0))) (tC (.str "down")))) (tVar 12) [12])) (by rfl) scHd.nd (pi_range1 rfl T.range (pa_cons pe_int pa_nil)) (blkOk_by (own := [("_law_k", 6)]) (N := nHd) (sc := defScope sHd) (by decide +kernel)) (fun _ _ _ _ _ => (pg_name (i := 6) scHd.nd rfl (Or.inl rfl))) (fun _ _ _ _ _ => pts_nil) (fun _ _ _ _ _ => (pe_lc (own := [("_law_one", 12)]) (g := gName 12) (tt := tTest (tOp rEq (tOp (rIxT K) (tVar 12) (tC (.int 0))) (tC (.str "down")))) (te := tVar 12) (by rfl) scHd.nd (pi_list (pe_slice sl_list (pe_meth (pv 0) TH.cl mHe GHe (hr.mono (by decide)) bHe .nil pass0 (pa_cons (pv 6) pa_nil)) (po_some (pe_ix ix_list (pv 7) (pv 6) (fun _ _ => rfl))) po_none)) (blkOk_by (own := [("_law_one", 12)]) (by kernel_rfl)) (fun _ _ _ _ _ => (pg_name (i := 12) scHd.nd rfl (Or.inl rfl))) (fun _ _ _ _ _ => pts_one (pt_cmpR op_eq (pe_ix ix_tup (pv 12) pe_int (fun _ _ => rfl)) pe_str (nomark _))) (fun _ _ _ _ _ => (pv 12)))))) (pss_cons (ps_set (i := 6) scHd.nd rfl (Or.inl rfl) (pe_ix ix_list (pe_ix ix_list (pv 2) (pv 5) (fun _ _ => rfl)) (pv 4) (fun _ _ => rfl))) (pss_cons (ps_if (pt_cmpR (op_neD hu2) (pe_lc (own := [("_law_one", 12)]) (g := gName 12) (tt := tTest (tOp (rNeD K) (tOp (rIxL K) (tVar 8) (tVar 12)) (tLst tNil))) (te := tVar 12) (by rfl) scHd.nd (pi_range1 rfl T.range (pa_cons pe_int pa_nil)) (blkOk_by (own := [("_law_one", 12)]) (N := nHd) (sc := defScope sHd) (by decide +kernel)) (fun _ _ _ _ _ => (pg_name (i := 12) scHd.nd rfl (Or.inl rfl))) (fun _ _ _ _ _ => pts_one (pt_cmpR (op_neD hu2) (pe_ix ix_list (pv 8) (pv 12) (fun _ _ => rfl)) (pe_lst pa_nil) (nomark _))) (fun _ _ _ _ _ => (pv 12))) (pe_lc (own := [("_law_one", 12)]) (g := gName 12) (tt := tTest (tOp (fun x y H Q => y = V.non ∧ Q (V.bl !decide (x = V.non)) H) (tVar 12) (tC .non))) (te := tVar 12) (by rfl) scHd.nd (pi_list (pe_lst (pa_cons (pv 6) pa_nil))) (blkOk_by (own := [("_law_one", 12)]) (N := nHd) (sc := defScope sHd) (by decide +kernel)) (fun _ _ _ _ _ => (pg_name (i := 12) scHd.nd rfl (Or.inl rfl))) (fun _ _ _ _ _ => pts_one (pt_cmpR op_notN (pv 12) pe_non (nomark _))) (fun _ _ _ _ _ => (pv 12))) (nomark _)) (pss_one (ps_ret pe_bl)) pss_nil) (pss_cons (ps_if (PW.pt (pw_or (pt_cmpR op_isN (pv 6) pe_non (nomark _)) (pw_or1 (pt_cmpR op_eq (pv 6) pe_int (nomark _))))) (pss_one (ps_ret pe_bl)) pss_nil) (pss_cons (ps_set (i := 9) scHd.nd rfl (Or.inl rfl) (pe_callTy call_int1 (by rfl) T.int (show bootBuiltins "int" = some (.type "int") by decide +kernel) (pa_cons (pe_cmpR op_gt (pe_ix ix_list (pe_ix ix_list (pv 1) (pv 5) (fun _ _ => rfl)) (pv 4) (fun _ _ => rfl)) pe_int (nomark _)) pa_nil))) (pss_cons (ps_par (i := 10) (j := 11) rfl scHd.nd rfl rfl (by decide) rfl rfl (pa_cons (pe_op op_add (pe_ix ix_tup (pe_ix ix_list (pv 3) (pe_op op_sub (pv 6) pe_int) (fun _ _ => rfl)) pe_int (fun _ _ => rfl)) (pe_op op_mul pe_int (pv 9))) (pa_cons (pe_op op_add (pe_ix ix_tup (pe_ix ix_list (pv 3) (pe_op op_sub (pv 6) pe_int) (fun _ _ => rfl)) pe_int (fun _ _ => rfl)) (pv 9)) pa_nil)) rfl) (pss_one (ps_ret (pe_cmpR (op_eqD hu2) (pe_ix ix_list (pv 8) (pv 6) (fun _ _ => rfl)) (pe_lst (pa_cons (pe_tup (pa_cons pe_str (pa_cons (pv 9) (pa_cons pe_int (pa_cons (pe_op op_sub (pv 4) (pv 10)) (pa_cons (pe_op op_sub (pv 5) (pv 11)) pa_nil)))))) pa_nil)) (nomark _))))))))))))), ?_⟩
    generalize hB1 : knCells ml mr ++ (knCells ol or ++ ((pl, HO.lst [.ref p0, .ref p1]) :: B)) = B1 at g k
    have rdB : ∀ {H2 : Hp} {foc2 fing2 ps2 X}, TW CH CD CN CC CS CL H2 A h s foc2 fing2 ps2 (X ++ B1) → H2 ml = some (.lst (mr.map fun r => V.ref r.1)) ∧ (∀ r ∈ mr, H2 r.1 = some (.lst r.2)) ∧ H2 ol = some (.lst (or.map fun r => V.ref r.1)) ∧ (∀ r ∈ or, H2 r.1 = some (.lst r.2)) ∧ H2 pl = some (.lst [.ref p0, .ref p1]) := by
      intro H2 foc2 fing2 ps2 X g2
      have m : ∀ {p : Addr} {o : HO}, (p, o) ∈ B1 → H2 p = some o := fun e => tw_mem g2 (List.mem_append_right _ e)
      refine ⟨m (by rw [← hB1]; simp [knCells]), fun r hr => m ?_, m (by rw [← hB1]; simp [knCells]), fun r hr => m ?_, m (by rw [← hB1]; simp)⟩
      · rw [← hB1]
        exact List.mem_append_left _ (List.mem_cons_of_mem _ (List.mem_map_of_mem (f := rowV) hr))
      · rw [← hB1]
        exact List.mem_append_right _ (List.mem_append_left _ (List.mem_cons_of_mem _ (List.mem_map_of_mem (f := rowV) hr)))
    have hle : h.ca.length ≤ 5 := by rw [hca, List.length_map, hpl]; decide
    -- heard so far
    refine ⟨3, rfl, by decide, by decide, fun al hal => ?_⟩
    refine lc_range (lo := 0) (n := (3 : Int).toNat) (fun i H2 => KeepT H H2 ∧ TW CH CD CN CC CS CL H2 A h s foc [] ps ((al, .lst ((List.range i).map fun j => V.int (noteN ps j))) :: B1)) ⟨KeepT.same (Same.new _ hal), tw_new g hal _⟩ ?_ ?_
    · rintro i H2 hi ⟨k2, g2⟩
      have hi3 : i < 3 := hi
      refine ⟨rfl, ?_⟩
      have ep : ps[i]? = some ps[i] := List.getElem?_eq_getElem (by omega)
      generalize ps[i] = p at ep
      obtain ⟨c1, c2⟩ := tw_cli g2 ep
      obtain ⟨h1, h2, _⟩ := tw_h g2
      refine ⟨_, rfl, h.a, _, _, rfl, h1, by kernel_rfl, _, rfl, h, i, p.1, congrArg (fun z => [V.ref h.a, V.int z]) (Int.zero_add _), h1, h2, by rw [hca, List.getElem?_map, ep]; rfl, hle, c1, c2, fun q hq kq => ?_⟩
      refine ⟨q, _, rfl, .inl (SqL.of upd_same), ?_⟩
      have g3 : TW CH CD CN CC CS CL (upd H2 q (.lst (p.1.notes.map V.ref))) A h s foc [] ps ((al, .lst ((List.range i).map fun j => V.int (noteN ps j))) :: B1) := Has.past g2 hq _
      have e3 := tw_mem g3 List.mem_cons_self
      refine ⟨_, e3, ?_, (k2.trans kq).trans (KeepT.lst e3 _), ?_⟩
      · rw [List.length_map, List.length_range]; exact small1000 (by omega)
      · have g4 := tw_set g3 (.lst (((List.range i).map fun j => V.int (noteN ps j)) ++ [.int ((p.1.notes.map V.ref).length : Nat)]))
        rw [List.range_succ, List.map_append]
        rw [List.length_map, ← noteN_of ep] at g4 ⊢
        exact g4
    rintro H2 ⟨k2, g2⟩
    clear hal
    obtain ⟨r, sa, who, es1, es2, hat, hwho⟩ := hse py px hy hx
    have hth : ∀ wh, who = some wh → wh.2.there = true := by
      intro wh e
      subst e
      exact hwho.1
    -- down
    obtain ⟨h1, h2, _⟩ := tw_h g2
    refine ⟨_, rfl, h.a, _, _, rfl, h1, by kernel_rfl, _, rfl, _, rfl, small (by show 4 ≤ 1000; decide), fun t ht => ?_⟩
    have g3 : TW CH CD CN CC CS CL (upd H2 t (.tup [.str "down", .int 0, .int (px : Int), .int (py : Int)])) A h s foc [] ps ((al, .lst ((List.range 3).map fun j => V.int (noteN ps j))) :: B1) := Has.past g2 ht _
    have k3 : KeepT H (upd H2 t (.tup [.str "down", .int 0, .int (px : Int), .int (py : Int)])) := k2.trans (KeepT.same (Same.new _ ht))
    refine ⟨A, _, h, s, foc, ps, n, t, 0, sa, who, whoF, rfl, hsc, ok, by omega, hat, .inl ⟨(px : Int), (py : Int), r, g3, upd_same, ?_, by omega, by omega, haf, by rw [Int.toNat_natCast]; exact es1, by rw [Int.toNat_natCast]; exact es2, hth, fun ex ps1 H4 nd l2 hh4 g4 k4 => ?_⟩⟩
    · unfold Tc.ok
      rw [hwd, hhi]
      simp [Tc.nums, Tc.bnds, inB]
      omega
    have k4 := k3.trans k4
    -- up
    obtain ⟨h1, h2, _⟩ := tw_h g4
    refine ⟨_, rfl, h.a, _, _, rfl, h1, by kernel_rfl, small (by show 2 ≤ 1000; decide), fun t2 ht2 => ?_⟩
    have g5 : TW CH CD CN CC CS CL (upd H4 t2 (.tup [.str "up", .int 0])) A h s sa [(0, sa)] ps1 ((al, .lst ((List.range 3).map fun j => V.int (noteN ps j))) :: B1) := Has.past g4 ht2 _
    have hh5 : Hears (upd H4 t2 (.tup [.str "up", .int 0])) ps ps1 _ := ⟨hh4.1, fun j c ss e => by
      obtain ⟨ts, e1, e2⟩ := hh4.2 j c ss e
      exact ⟨ts, e1, Paired.mapP e2 fun _ _ z => (Same.new _ ht2) _ _ z⟩⟩
    have k5 : KeepT H (upd H4 t2 (.tup [.str "up", .int 0])) := k4.trans (KeepT.same (Same.new _ ht2))
    have l3 : ∀ j, (ex j ++ exOf who (fun u => [.str "down", .int u.name, .int 0, .int ((px : Int) - u.lx), .int ((py : Int) - u.ly)]) j).length ≤ 3 := fun j => by
      have := l2 j
      have := exOf_len who (fun u => [.str "down", .int u.name, .int 0, .int ((px : Int) - u.lx), .int ((py : Int) - u.ly)]) j
      rw [List.length_append]; omega
    have ok5 := hh5.ok ok l3
    have hat5 := hat.hears hh5
    refine ⟨A, _, h, s, sa, ps1, n + 3, t2, 0, sa, who, who, rfl, hsc, ok5, by omega, hat5, .inr ⟨g5, upd_same, ?_, fun ps2 H6 hh6 g6 k6 => ?_⟩⟩
    · unfold Tc.ok
      simp [Tc.nums, Tc.bnds, inB]
    have hhT := hh5.trans hh6 k6
    have ok6 := hh6.ok ok5 (exOf_len who _)
    have hat6 := hat5.hears hh6
    have hse6 := (hse.hears hh5).hears hh6
    have hca6 : h.ca = ps2.map (·.1.a) := by rw [hears_as hh6, hears_as hh5]; exact hca
    have hpl6 : ps2.length = 3 := by rw [hh6.1, hh5.1, hpl]
    have k6 := k5.trans k6
    generalize hdn : exOf who (fun u => [.str "down", .int u.name, .int 0, .int ((px : Int) - u.lx), .int ((py : Int) - u.ly)]) = dn at hhT
    have hfil : ∀ j, (((ex j ++ dn j) ++ exOf who (fun u => [.str "up", .int u.name, .int 0]) j).filter isDown) = dn j := fun j => by
      rw [List.filter_append, List.filter_append, down_no nd j, down_no (exOf_no (r := fun u => [.int u.name, .int 0]) (by decide +kernel)) j, List.nil_append, List.append_nil, ← hdn]
      exact down_all who (fun u => [.int u.name, .int 0, .int ((px : Int) - u.lx), .int ((py : Int) - u.ly)]) j
    have hshape : ∀ j, ∀ v ∈ ((ex j ++ dn j) ++ exOf who (fun u => [.str "up", .int u.name, .int 0]) j), ∃ x r, v = V.str x :: r := by
      intro j v hv
      rcases List.mem_append.mp hv with hv | hv
      · rcases List.mem_append.mp hv with hv | hv
        · obtain ⟨x, r, e, _⟩ := nd j v hv
          exact ⟨x, r, e⟩
        · rw [← hdn] at hv
          unfold exOf at hv
          cases who with
          | none => cases hv
          | some w =>
            by_cases e : j = w.1
            · simp only [e, if_true] at hv
              rw [List.mem_singleton.mp hv]; exact ⟨_, _, rfl⟩
            · simp only [e, if_false] at hv; cases hv
      · obtain ⟨x, r, e, _⟩ := exOf_no (who := who) (r := fun u => [.int u.name, .int 0]) (show ("up" : Str) ≠ "down" by decide +kernel) j v hv
        exact ⟨x, r, e⟩
    generalize hexT : (fun j => (ex j ++ dn j) ++ exOf who (fun u => [.str "up", .int u.name, .int 0]) j) = exT at hhT
    have hfil : ∀ j, (exT j).filter isDown = dn j := fun j => by rw [← hexT]; exact hfil j
    have hshape : ∀ j, ∀ v ∈ exT j, ∃ x r, v = V.str x :: r := fun j => by rw [← hexT]; exact hshape j
    have hlenT : ∀ j, (exT j).length ≤ 4 := fun j => by
      rw [← hexT]
      have h1 := l3 j
      rw [hdn] at h1
      have h2 := exOf_len who (fun u => [.str "up", .int u.name, .int 0]) j
      simp only [List.length_append] at h1 ⊢
      omega
    clear hexT hh5 hh6 hh4 l3 g5 g4 g3
    -- more
    refine ⟨3, rfl, by decide, by decide, fun mo hmo => ?_⟩
    refine lc_range (lo := 0) (n := (3 : Int).toNat) (fun i H7 => KeepT H6 H7 ∧ ∃ rs : List (Addr × List Addr), rs.length = i ∧ (∀ (j : Nat) r, rs[j]? = some r → Paired (fun (t : Addr) (vs : List V) => H6 t = some (.tup vs)) r.2 (dn j)) ∧ TW CH CD CN CC CS CL H7 A h s sa [] ps2 ((mo, .lst (rs.map fun r => V.ref r.1)) :: (rs.map bkRow ++ ((al, .lst ((List.range 3).map fun j => V.int (noteN ps j))) :: B1)))) ⟨KeepT.same (Same.new _ hmo), [], rfl, (fun j r e => by simp at e), tw_new g6 hmo _⟩ ?_ ?_
    · rintro i H7 hi ⟨k7, rs, hrl, hrs, g7⟩
      have hi3 : i < 3 := hi
      refine ⟨rfl, ?_⟩
      have ep : ps[i]? = some ps[i] := List.getElem?_eq_getElem (by omega)
      generalize ps[i] = p at ep
      obtain ⟨c, ss⟩ := p
      obtain ⟨ts, ep2, hpr⟩ := hhT.2 i c ss ep
      obtain ⟨c1, c2⟩ := tw_cli g7 ep2
      obtain ⟨h1, h2, _⟩ := tw_h g7
      refine ⟨_, rfl, h.a, _, _, rfl, h1, by kernel_rfl, _, rfl, h, i, { c with notes := c.notes ++ ts }, congrArg (fun z => [V.ref h.a, V.int z]) (Int.zero_add _), h1, h2, by rw [hca6, List.getElem?_map, ep2]; rfl, hle, c1, c2, fun q hq kq => ?_⟩
      have g8 : TW CH CD CN CC CS CL (upd H7 q (.lst ((c.notes ++ ts).map V.ref))) A h s sa [] ps2 _ := Has.past g7 hq _
      have eal := tw_mem g8 (List.mem_cons_of_mem _ (List.mem_append_right _ List.mem_cons_self))
      refine ⟨_, rfl, _, rfl, _, _, _, V.int (noteN ps i), rfl, rfl, SqL.of eal, at_of (j := i) (by omega) (by rw [List.getElem?_map, List.getElem?_range hi3]; rfl), _, rfl, ?_⟩
      refine ⟨q, _, rfl, SqL.of upd_same, fun q2 hq2 => ?_⟩
      have ecut : cutV ((c.notes ++ ts).map V.ref) (some (noteN ps i)) none = ts.map V.ref := by
        rw [noteN_of ep, List.map_append]
        have := cut_tail (c.notes.map V.ref) (ts.map V.ref)
        rw [List.length_map] at this
        exact this
      rw [ecut]
      have g9 := tw_new g8 hq2 (.lst (ts.map V.ref))
      have k9 := (k7.trans kq).trans (KeepT.same (Same.new (.lst (ts.map V.ref)) hq2))
      refine ⟨q2, rfl, ⟨_, SqL.of upd_same⟩, fun D2 hD2 => ?_⟩
      generalize hBB : ((q2, HO.lst (ts.map V.ref)) :: (mo, .lst (rs.map fun r => V.ref r.1)) :: (rs.map bkRow ++ ((al, .lst ((List.range 3).map fun j => V.int (noteN ps j))) :: B1))) = BB at g9
      have htl := paired_len hpr
      refine lc_list (K := K) (a := q2) (xs := ts.map V.ref) (fun m H3 => KeepT H6 H3 ∧ ∃ us : List Addr, us.length ≤ m ∧ Paired (fun (t : Addr) (vs : List V) => H6 t = some (.tup vs)) us (((exT i).take m).filter isDown) ∧ TW CH CD CN CC CS CL H3 A h s sa [] ps2 ((D2, .lst (us.map V.ref)) :: BB)) ⟨k9.trans (KeepT.same (Same.new _ hD2)), [], Nat.le_refl _, .nil, tw_new g9 hD2 _⟩ ?_ ?_ ?_
      · rintro m H3 _ ⟨_, us, _, _, g3⟩
        exact SqL.of (tw_mem g3 (List.mem_cons_of_mem _ (by rw [← hBB]; exact List.mem_cons_self)))
      · rintro m x H3 hm ⟨k3, us, hul, hus, g3⟩
        rw [List.getElem?_map] at hm
        cases et : ts[m]? with
        | none => rw [et] at hm; cases hm
        | some t =>
          rw [et] at hm
          obtain rfl : V.ref t = x := Option.some.inj hm
          have hml : m < ts.length := (List.getElem?_eq_some_iff.mp et).1
          have ev : (exT i)[m]? = some (exT i)[m] := List.getElem?_eq_getElem (by omega)
          have htv := paired_ix (R := fun (t : Addr) (vs : List V) => H6 t = some (.tup vs)) hpr et ev
          obtain ⟨wd, rr, evs⟩ := hshape i _ (List.getElem_mem (by omega : m < (exT i).length))
          rw [evs] at ev htv
          have etk : (exT i).take (m + 1) = (exT i).take m ++ [V.str wd :: rr] := by rw [List.take_add_one, ev]; rfl
          refine ⟨rfl, ?_⟩
          refine ⟨_, rfl, _, _, _, V.str wd, rfl, rfl, SqT.of (k3 _ _ htv), at_of (j := 0) rfl rfl, rfl, _, rfl, ?_⟩
          by_cases cw : wd = "down"
          · rw [decide_eq_true (show V.str wd = V.str "down" by rw [cw])]
            refine iteT ?_
            have e3 := tw_mem g3 List.mem_cons_self
            refine ⟨_, rfl, _, e3, ?_, k3.trans (KeepT.lst e3 _), us ++ [t], by simp; omega, ?_, ?_⟩
            · rw [List.length_map]; exact small1000 (by have := hlenT i; omega)
            · rw [etk, List.filter_append]
              refine paired_cat hus ?_
              rw [show [V.str wd :: rr].filter isDown = [V.str wd :: rr] by rw [List.filter_cons, if_pos (by unfold isDown; rw [cw]; rfl), List.filter_nil]]
              exact .cons htv .nil
            · rw [List.map_append]
              exact tw_set g3 _
          · rw [decide_eq_false (show ¬ V.str wd = V.str "down" from fun z => cw (V.str.inj z))]
            refine iteF ?_
            refine ⟨k3, us, by omega, ?_, g3⟩
            rw [etk, List.filter_append]
            rw [show [V.str wd :: rr].filter isDown = [] by
              rw [List.filter_cons, if_neg, List.filter_nil]
              unfold isDown
              simp only [List.head?_cons, decide_eq_true_eq]
              intro z
              have z : some (V.str wd) = some (V.str "down") := by simpa using z
              exact cw (V.str.inj (Option.some.inj z)), List.append_nil]
            exact hus
      · rintro H3 ⟨k3, us, hul, hus, g3⟩
        rw [List.length_map, htl, List.take_length, hfil] at hus
        rw [← hBB] at g3
        have g4 := tw_perm g3 (B' := (mo, .lst (rs.map fun r => V.ref r.1)) :: (q2, HO.lst (ts.map V.ref)) :: (D2, .lst (us.map V.ref)) :: (rs.map bkRow ++ ((al, .lst ((List.range 3).map fun j => V.int (noteN ps j))) :: B1))) (by
          refine (List.Perm.cons _ (List.Perm.swap _ _ _)).trans ((List.Perm.swap _ _ _).trans (List.Perm.cons _ (List.Perm.swap _ _ _)))
          )
        have e4 := tw_mem g4 List.mem_cons_self
        refine ⟨_, e4, ?_, k3.trans (KeepT.lst e4 _), rs ++ [(D2, us)], by rw [List.length_append, hrl]; rfl, fun j r er => ?_, ?_⟩
        · rw [List.length_map, hrl]; exact small1000 (by omega)
        · by_cases hj : j < rs.length
          · rw [List.getElem?_append_left hj] at er
            exact hrs j r er
          · have : j = rs.length := by
              have := (List.getElem?_eq_some_iff.mp er).1
              simp at this; omega
            subst this
            rw [List.getElem?_append_right (Nat.le_refl _)] at er
            simp at er
            subst er
            rw [hrl]; exact hus
        · have g5 := tw_set g4 (.lst ((rs.map fun r => V.ref r.1) ++ [V.ref D2]))
          refine tw_perm (tw_sub g5 (B' := (mo, .lst ((rs.map fun r => V.ref r.1) ++ [V.ref D2])) :: (D2, .lst (us.map V.ref)) :: (rs.map bkRow ++ ((al, .lst ((List.range 3).map fun j => V.int (noteN ps j))) :: B1))) (List.Sublist.cons₂ _ (List.sublist_cons_self _ _))) ?_
          rw [List.map_append, List.map_append, List.append_assoc]
          exact List.Perm.cons _ List.perm_middle.symm
    rintro H7 ⟨k7, rs, hrl, hrs, g7⟩
    have hrl : rs.length = 3 := hrl
    generalize hB3 : ((mo, HO.lst (rs.map fun r => V.ref r.1)) :: (rs.map bkRow ++ ((al, .lst ((List.range 3).map fun j => V.int (noteN ps j))) :: B1))) = B3 at g7
    have rd3 : ∀ {H2 : Hp} {X}, TW CH CD CN CC CS CL H2 A h s sa [] ps2 (X ++ B3) → H2 mo = some (.lst (rs.map fun r => V.ref r.1)) ∧ (∀ r ∈ rs, H2 r.1 = some (.lst (r.2.map V.ref))) ∧ H2 ml = some (.lst (mr.map fun r => V.ref r.1)) ∧ (∀ r ∈ mr, H2 r.1 = some (.lst r.2)) ∧ H2 ol = some (.lst (or.map fun r => V.ref r.1)) ∧ (∀ r ∈ or, H2 r.1 = some (.lst r.2)) ∧ H2 pl = some (.lst [.ref p0, .ref p1]) := by
      intro H2 X g2
      refine ⟨tw_mem g2 (List.mem_append_right _ (by rw [← hB3]; exact List.mem_cons_self)), fun r hr => tw_mem g2 (List.mem_append_right _ (by rw [← hB3]; exact List.mem_cons_of_mem _ (List.mem_append_left _ (List.mem_map_of_mem (f := bkRow) hr)))), ?_⟩
      rw [← hB3] at g2
      exact rdB (foc2 := sa) (fing2 := []) (ps2 := ps2) (X := X ++ ((mo, HO.lst (rs.map fun r => V.ref r.1)) :: (rs.map bkRow ++ [(al, .lst ((List.range 3).map fun j => V.int (noteN ps j)))]))) (by
        refine g2.re ?_
        simp only [List.append_assoc, List.cons_append, List.nil_append])
    have fin : ∀ {H2 : Hp} {X}, TW CH CD CN CC CS CL H2 A h s sa [] ps2 (X ++ B3) → Q (.bl true) H2 := by
      intro H2 X g2
      refine k H2 ps2 sa who hpl6 hca6 ok6 hat6 hse6 (tw_sub g2 ?_)
      rw [← hB3]
      refine List.Sublist.trans ?_ (List.sublist_append_right _ _)
      refine List.Sublist.cons _ (List.Sublist.trans ?_ (List.sublist_append_right _ _))
      exact List.sublist_cons_self _ _
    have hdn4 : ∀ j, dn j = [] ∨ ∃ n1 n2 n3 n4 : Int, dn j = [[.str "down", .int n1, .int n2, .int n3, .int n4]] := fun j => by
      rw [← hdn]
      unfold exOf
      cases who with
      | none => exact .inl rfl
      | some w =>
        by_cases e : j = w.1
        · simp only [e, if_true]; exact .inr ⟨_, _, _, _, rfl⟩
        · exact .inl (if_neg e)
    obtain ⟨ro, ero, ero2⟩ := gridV_row eo hy
    obtain ⟨f1, f2, f3, f4, f5, f6, f7⟩ := rd3 (X := []) g7
    refine ⟨_, rfl, _, rfl, _, _, _, .ref ro.1, rfl, rfl, SqL.of f5, at_of (j := py) rfl (by rw [List.getElem?_map, ero]; rfl), _, rfl, _, _, _, knO a b py px, rfl, rfl, SqL.of (f6 ro (List.mem_of_getElem? ero)), at_of (j := px) rfl (by rw [ero2, List.getElem?_map, List.getElem?_range hx]; rfl), ?_⟩
    -- who heard
    refine ⟨3, rfl, by decide, by decide, fun d1 hd1 => ?_⟩
    refine lc_range (lo := 0) (n := (3 : Int).toNat) (fun i H8 => KeepT H6 H8 ∧ TW CH CD CN CC CS CL H8 A h s sa [] ps2 ((d1, .lst ((((List.range i).filter fun k => !(dn k).isEmpty).map fun (k : Nat) => (k : Int)).map V.int)) :: B3)) ⟨k7.trans (KeepT.same (Same.new _ hd1)), tw_new g7 hd1 _⟩ ?_ ?_
    · rintro i H8 hi ⟨k8, g8⟩
      have hi3 : i < 3 := hi
      refine ⟨rfl, ?_⟩
      have er : rs[i]? = some rs[i] := List.getElem?_eq_getElem (by omega)
      generalize rs[i] = r1 at er
      have hus := hrs i r1 er
      obtain ⟨f1, f2, _⟩ := rd3 (X := [_]) g8
      have hrow := f2 r1 (List.mem_of_getElem? er)
      refine ⟨_, rfl, _, rfl, _, _, _, .ref r1.1, rfl, rfl, SqL.of f1, at_of (j := i) (by omega) (by rw [List.getElem?_map, er]; rfl), small (by show 0 ≤ 1000; decide), fun q hq => ?_⟩
      have g9 : TW CH CD CN CC CS CL (upd H8 q (.lst [])) A h s sa [] ps2 _ := Has.past g8 hq _
      have k9 := k8.trans (KeepT.same (Same.new (.lst []) hq))
      have hrow9 : upd H8 q (.lst []) r1.1 = some (.lst (r1.2.map V.ref)) := by rw [upd_ne (ne_of_none hrow hq)]; exact hrow
      have esucc : (List.range (i + 1)).filter (fun k => !(dn k).isEmpty) = (List.range i).filter (fun k => !(dn k).isEmpty) ++ (if (dn i).isEmpty then [] else [i]) := by
        rw [List.range_succ, List.filter_append]
        congr 1
        rw [List.filter_cons]
        cases (dn i).isEmpty <;> rfl
      rw [esucc]
      rcases hdn4 i with e | ⟨n1, n2, n3, n4, e⟩
      · rw [e] at hus ⊢
        have eu : r1.2 = [] := by cases h : r1.2 with
          | nil => rfl
          | cons a b => rw [h] at hus; cases hus
        rw [eu] at hrow9
        refine ⟨_, _, Dp.lst (SqL.of hrow9) .nil, Dp.lst (SqL.of upd_same) .nil, rfl, rfl, _, rfl, ?_⟩
        refine iteF ⟨k9, ?_⟩
        rw [show (if ([] : List (List V)).isEmpty = true then [] else [i]) = [] from rfl, List.append_nil]
        exact g9
      · rw [e] at hus ⊢
        obtain ⟨u1, eu, hu1⟩ : ∃ u1, r1.2 = [u1] ∧ H6 u1 = some (.tup [.str "down", .int n1, .int n2, .int n3, .int n4]) := by
          cases h : r1.2 with
          | nil => rw [h] at hus; cases hus
          | cons a b =>
            rw [h] at hus
            cases hus with
            | cons h1 h2 => cases h2; exact ⟨a, rfl, h1⟩
        rw [eu] at hrow9
        refine ⟨_, _, Dp.lst (SqL.of hrow9) (.cons (Dp.tup (SqT.of (k9 _ _ hu1)) (.cons (.str _) (.cons (.int _) (.cons (.int _) (.cons (.int _) (.cons (.int _) .nil)))))) .nil), Dp.lst (SqL.of upd_same) .nil, shp1 _ _ _ _, rfl, _, rfl, ?_⟩
        refine iteT ?_
        have e8 := tw_mem g9 List.mem_cons_self
        refine ⟨_, rfl, _, e8, ?_, k9.trans (KeepT.lst e8 _), ?_⟩
        · rw [List.length_map, List.length_map]
          refine small1000 (Nat.le_trans (List.length_filter_le _ _) ?_)
          rw [List.length_range]; omega
        · have g10 := tw_set g9 (.lst (((((List.range i).filter fun k => !(dn k).isEmpty).map fun (k : Nat) => (k : Int)).map V.int) ++ [V.int (0 + (i : Int))]))
          rw [Int.zero_add] at g10 ⊢
          rw [List.map_append, List.map_append]
          exact g10
    rintro H8 ⟨k8, g8⟩
    have g8 : TW CH CD CN CC CS CL H8 A h s sa [] ps2 ((d1, .lst ((((List.range 3).filter fun k => !(dn k).isEmpty).map fun (k : Nat) => (k : Int)).map V.int)) :: B3) := g8
    -- who is to
    refine ⟨_, rfl, small (by show 1 ≤ 1000; decide), fun l2' hl2' => ?_⟩
    have g9 := tw_new g8 hl2' (.lst [knO a b py px])
    have k9 := k8.trans (KeepT.same (Same.new (.lst [knO a b py px]) hl2'))
    refine ⟨l2', rfl, ⟨_, SqL.of upd_same⟩, fun d2 hd2 => ?_⟩
    refine lc_list (K := K) (a := l2') (xs := [knO a b py px]) (fun m H9 => KeepT H6 H9 ∧ TW CH CD CN CC CS CL H9 A h s sa [] ps2 ((d2, .lst (if m = 0 ∨ knO a b py px = .non then [] else [knO a b py px])) :: (l2', .lst [knO a b py px]) :: (d1, .lst ((((List.range 3).filter fun k => !(dn k).isEmpty).map fun (k : Nat) => (k : Int)).map V.int)) :: B3)) ⟨k9.trans (KeepT.same (Same.new _ hd2)), by rw [if_pos (Or.inl rfl)]; exact tw_new g9 hd2 _⟩ ?_ ?_ ?_
    · rintro m H9 _ ⟨_, g9⟩
      exact SqL.of (tw_mem g9 (List.mem_cons_of_mem _ List.mem_cons_self))
    · rintro m x H9 hm ⟨k9, g9⟩
      have hm0 : m = 0 := by
        have := (List.getElem?_eq_some_iff.mp hm).1
        simp at this; omega
      subst hm0
      obtain rfl : knO a b py px = x := by simpa using hm
      refine ⟨rfl, ?_⟩
      refine ⟨_, rfl, rfl, _, rfl, ?_⟩
      rw [if_pos (Or.inl rfl)] at g9
      by_cases cn : knO a b py px = .non
      · rw [decide_eq_true cn]
        refine iteF ⟨k9, ?_⟩
        rw [if_pos (Or.inr cn)]; exact g9
      · rw [decide_eq_false cn]
        refine iteT ?_
        have e9 := tw_mem g9 List.mem_cons_self
        refine ⟨_, rfl, _, e9, small1000 (by show 0 ≤ 1000; decide), k9.trans (KeepT.lst e9 _), ?_⟩
        rw [if_neg (by rintro (z | z) <;> first | exact absurd z (by decide) | exact cn z)]
        exact tw_set g9 _
    rintro H9 ⟨k9, g9⟩
    have hwant : ∃ want : List Int, ((List.range 3).filter fun k => !(dn k).isEmpty).map (fun (k : Nat) => (k : Int)) = want ∧ (if [knO a b py px].length = 0 ∨ knO a b py px = .non then [] else [knO a b py px]) = want.map V.int ∧ want.length ≤ 1 := by
      cases who with
      | none =>
        have hk : knO a b py px = .non := hwho
        refine ⟨[], ?_, by rw [if_pos (Or.inr hk)]; rfl, Nat.zero_le _⟩
        rw [← hdn]; rfl
      | some w =>
        obtain ⟨j, u⟩ := w
        obtain ⟨_, hj3, hk, _⟩ := hwho
        refine ⟨[(j : Int)], ?_, by rw [hk, if_neg (by simp)]; rfl, Nat.le_refl _⟩
        rw [← hdn]
        have : j = 0 ∨ j = 1 ∨ j = 2 := by omega
        rcases this with rfl | rfl | rfl <;> rfl
    obtain ⟨want, ew1, ew2, ew3⟩ := hwant
    rw [ew1, ew2] at g9
    refine ⟨_, _, Dp.lst (SqL.of (tw_mem g9 (List.mem_cons_of_mem _ (List.mem_cons_of_mem _ List.mem_cons_self)))) (dp_ints want), Dp.lst (SqL.of (tw_mem g9 List.mem_cons_self)) (dp_ints want), shp2 ew3, shp2 ew3, _, rfl, ?_⟩
    have ewq : PyData.eqv (.list (want.map PyData.int)) (.list (want.map PyData.int)) = true := by
      match want, ew3 with
      | [], _ => rfl
      | [x], _ => simp [PyData.eqv, PyData.eqvAll]
    rw [ewq]
    refine iteF ?_
    have g9 : TW CH CD CN CC CS CL H9 A h s sa [] ps2 ([(d2, .lst (want.map V.int)), (l2', .lst [knO a b py px]), (d1, .lst (want.map V.int))] ++ B3) := g9
    cases who with
    | none =>
      have hk : knO a b py px = .non := hwho
      rw [hk]
      refine ⟨_, rfl, rfl, _, rfl, iteT ?_⟩
      exact fin g9
    | some w =>
      obtain ⟨j, u⟩ := w
      obtain ⟨hthu, hj3, hk, hrest⟩ := hwho
      rw [hk]
      refine ⟨_, rfl, rfl, _, rfl, iteF ?_⟩
      refine ⟨_, rfl, rfl, _, rfl, ?_⟩
      by_cases j0 : j = 0
      · rw [decide_eq_true (show V.int (j : Int) = V.int 0 by rw [j0]; rfl)]
        refine iteT ?_
        exact fin g9
      rw [decide_eq_false (show ¬ V.int (j : Int) = V.int 0 from fun z => j0 (by have := V.int.inj z; omega))]
      refine iteF ?_
      obtain ⟨mm, emm, hnm, sp, esp, hlx, hly⟩ := hrest j0
      obtain ⟨rm, erm, erm2⟩ := gridV_row em hy
      obtain ⟨f1, f2, f3, f4, f5, f6, f7⟩ := rd3 g9
      refine ⟨_, rfl, _, rfl, _, _, _, .ref rm.1, rfl, rfl, SqL.of f3, at_of (j := py) rfl (by rw [List.getElem?_map, erm]; rfl), _, rfl, _, _, _, .int mm, rfl, rfl, SqL.of (f4 rm (List.mem_of_getElem? erm)), at_of (j := px) rfl (by rw [erm2, List.getElem?_map, List.getElem?_range hx]; exact congrArg some emm), _, _, rfl, rfl, .inr ⟨_, rfl, ?_⟩⟩
      have enm : (if decide (4 < mm) = true then (1 : Int) else 0) = u.name := by rw [hnm]; simp only [decide_eq_true_eq]
      rw [enm]
      obtain ⟨psj, hpsj, hpj, hjm⟩ : ∃ psj, ([V.ref p0, V.ref p1] : List V)[j - 1]? = some (.ref psj) ∧ H psj = some (.tup sp.vals) ∧ (j : Int) - 1 = ((j - 1 : Nat) : Int) := by
        have : j = 1 ∨ j = 2 := by omega
        rcases this with rfl | rfl
        · exact ⟨p0, rfl, by rw [← esp]; exact hp0, rfl⟩
        · exact ⟨p1, rfl, by rw [← esp]; exact hp1, rfl⟩
      have hpj := (k6.trans k9) _ _ hpj
      refine ⟨_, rfl, _, rfl, _, _, rfl, rfl, _, _, _, .ref psj, rfl, rfl, SqL.of f7, at_of (j := j - 1) hjm hpsj, _, _, _, .int sp.x, rfl, rfl, SqT.of hpj, at_of (j := 0) rfl rfl, _, rfl, _, _, rfl, rfl, .inl ⟨by decide, by decide⟩, _, _, rfl, rfl, ?_⟩
      refine ⟨_, rfl, _, rfl, _, _, rfl, rfl, _, _, _, .ref psj, rfl, rfl, SqL.of f7, at_of (j := j - 1) hjm hpsj, _, _, _, .int sp.y, rfl, rfl, SqT.of hpj, at_of (j := 1) rfl rfl, _, rfl, _, _, rfl, rfl, _, _, rfl, ?_⟩
      have er : rs[j]? = some rs[j] := List.getElem?_eq_getElem (by omega)
      generalize rs[j] = r1 at er
      have hus := hrs j r1 er
      have edj : dn j = [[.str "down", .int u.name, .int 0, .int ((px : Int) - u.lx), .int ((py : Int) - u.ly)]] := by
        rw [← hdn]
        unfold exOf
        simp only [if_true]
      rw [edj] at hus
      obtain ⟨u1, eu, hu1⟩ : ∃ u1, r1.2 = [u1] ∧ H6 u1 = some (.tup [.str "down", .int u.name, .int 0, .int ((px : Int) - u.lx), .int ((py : Int) - u.ly)]) := by
        cases h : r1.2 with
        | nil => rw [h] at hus; cases hus
        | cons a b =>
          rw [h] at hus
          cases hus with
          | cons h1 h2 => cases h2; exact ⟨a, rfl, h1⟩
      have hrow := f2 r1 (List.mem_of_getElem? er)
      rw [eu] at hrow
      refine ⟨_, rfl, _, rfl, _, _, _, .ref r1.1, rfl, rfl, SqL.of f1, at_of (j := j) rfl (by rw [List.getElem?_map, er]; rfl), _, rfl, _, rfl, _, rfl, _, _, rfl, rfl, _, rfl, _, rfl, _, _, rfl, rfl, small (by show 5 ≤ 1000; decide), fun t3 ht3 => ⟨small (by show 1 ≤ 1000; decide), fun l3' hl3' => ?_⟩⟩
      have s11 := (Same.new (.tup [.str "down", .int u.name, .int 0, .int ((px : Int) - (sp.x + 2 * u.name)), .int ((py : Int) - (sp.y + u.name))]) ht3).trans (Same.new (.lst [.ref t3]) hl3')
      have g11 := Has.same g9 s11
      refine ⟨_, _, Dp.lst (SqL.of (s11 _ _ hrow)) (.cons (Dp.tup (SqT.of (s11 _ _ (k9 _ _ hu1))) (.cons (.str _) (.cons (.int _) (.cons (.int _) (.cons (.int _) (.cons (.int _) .nil)))))) .nil), Dp.lst (SqL.of upd_same) (.cons (Dp.tup (SqT.of ((Same.new (.lst [.ref t3]) hl3') _ _ upd_same)) (.cons (.str _) (.cons (.int _) (.cons (.int _) (.cons (.int _) (.cons (.int _) .nil)))))) .nil), shp1 _ _ _ _, shp1 _ _ _ _, ?_⟩
      have efin : PyData.eqv (.list [.tuple [.str "down", .int u.name, .int 0, .int ((px : Int) - u.lx), .int ((py : Int) - u.ly)]]) (.list [.tuple [.str "down", .int u.name, .int 0, .int ((px : Int) - (sp.x + 2 * u.name)), .int ((py : Int) - (sp.y + u.name))]]) = true := by
        rw [hlx, hly]
        simp [PyData.eqv, PyData.eqvAll]
      rw [show PyData.eqv _ _ = true from efin]
      exact fin g11
end
end SH
set_option Elab.async false
set_option linter.all false
set_option maxRecDepth 100000
namespace SH
open PySem PySem.Spec PyProof.Rows L2 StX TL
abbrev sAlike : Stmt := top 45
theorem eqNil {K : PySem.W.Frag} {H : Hp} {l q : Addr} {ks : List Int} {Q : VK} (h : H l = some (.lst (ks.map V.int))) (e : H q = some (.lst [])) (k : Q (.bl (decide (ks = []))) H) : rEqD K (.ref l) (.ref q) H Q := by
  refine ⟨.list (ks.map PyData.int), .list [], .lst (SqL.of h) (dp_ints ks), .lst (SqL.of e) .nil, PySem.W.ke_shaped_ints _, PySem.W.ke_shaped_ints [], ?_⟩
  rw [eqv_nil]; exact k
/-- the same data, d deep -/
def R0 (v u : V) : Prop := (∃ i, v = .int i ∧ u = .int i) ∨ ∃ a, v = .str a ∧ u = .str a
def RD (H : Hp) : Nat → V → V → Prop
  | 0, v, u => R0 v u
  | d + 1, v, u => R0 v u ∨ ∃ (a b : Addr) (xs ys : List V), v = .ref a ∧ u = .ref b ∧ ((H a = some (.tup xs) ∧ H b = some (.tup ys)) ∨ (H a = some (.lst xs) ∧ H b = some (.lst ys))) ∧ xs.length = ys.length ∧ ys.length ≤ 1000 ∧ ∀ (i : Nat) x y, xs[i]? = some x → ys[i]? = some y → RD H d x y
theorem RD.same {H H' : Hp} (s : Same H H') : ∀ {d : Nat} {v u : V}, RD H d v u → RD H' d v u
  | 0, _, _, h => h
  | d + 1, _, _, h => by
    rcases h with h | ⟨a, b, xs, ys, e1, e2, h1, h2, h3, h4⟩
    · exact .inl h
    · refine .inr ⟨a, b, xs, ys, e1, e2, ?_, h2, h3, fun i x y q1 q2 => (h4 i x y q1 q2).same s⟩
      rcases h1 with ⟨p, q⟩ | ⟨p, q⟩
      · exact .inl ⟨s _ _ p, s _ _ q⟩
      · exact .inr ⟨s _ _ p, s _ _ q⟩
theorem kit2 {K : PySem.W.Frag} {a b c : String} {r1 r2 : Bool} (h1 : kitB a b = some r1) (h2 : kitB a c = some r2) : PySem.W.kitAny K (.type a) [.type b, .type c] = some (r1 || r2) := by
  refine kitAny_cons (kit_ty h1) (fun e => ?_) (fun e => by rw [e]; rfl)
  rw [e, Bool.false_or]
  refine kitAny_cons (kit_ty h2) (fun e => by rw [e]; rfl) (fun e => e)
structure TxtA (mg : Str → Option Value) : Prop where
  bool : mg "bool" = none
  int : mg "int" = none
  isinst : mg "isinstance" = none
  len : mg "len" = none
  list : mg "list" = none
  range : mg "range" = none
  str : mg "str" = none
  tuple : mg "tuple" = none
section
variable {P : Program} {w : World} {K : PySem.W.Frag} {mg : Str → Option Value} {base : Heap}
abbrev nAlike : List Str := ["_law_found", "_law_due", "_law_k"]
theorem scAlike : FnScope nAlike ["_law_found", "_law_due"] (defScope sAlike) := ⟨rfl, rfl, rfl, by decide +kernel, rfl, by decide +kernel, by decide +kernel⟩
def spAlike (d : Nat) : Sp := fun vs H Q _ => ∃ v u, vs = [v, u] ∧ RD H d v u ∧ ∀ H', Same H H' → Q (.bl true) H'
theorem ok_alike {f : Addr} {fd : FuncData} (F : Fun K "_law_alike" "_law_alike" sAlike f fd) (bF : Binds K fd ["_law_found", "_law_due"] []) (gF : mg "_law_alike" = some (.ref f)) (T : TxtA mg) :
    ∀ d, FnOk P w K mg base CX0 (d + 1) f fd ["_law_found", "_law_due"] (spAlike d)
  | 0 => by
    refine F.ok scAlike (fun vs H Q E h => ?_) (fun cdv A0 outer s0 H vs Q E hr h => ?_)
    · obtain ⟨v, u, rfl, _⟩ := h
      rfl
    · obtain ⟨v, u, rfl, hR, k⟩ := h
      have sm : ∀ {n : Nat}, n ≤ 1000 → n ≤ sizeLine := small
      refine ⟨_, (pss_cons (ps_if (pt_val (pe_callB call_isiT (by rfl) T.isinst (by decide +kernel) (pa_cons (pv 1) (pa_cons (pe_tup (pa_cons (pe_bltn (v := .ty "tuple") (by rfl) T.tuple (by decide +kernel) rfl) (pa_cons (pe_bltn (v := .ty "list") (by rfl) T.list (by decide +kernel) rfl) pa_nil))) pa_nil)))) pss_never pss_nil) (pss_cons (ps_if (pt_cmpR op_isN (pv 1) pe_non (nomark _)) (pss_one (ps_ret (pe_cmpR op_isN (pv 0) pe_non (nomark _)))) pss_nil) (pss_cons (ps_if (pt_val (pe_callB call_isi (by rfl) T.isinst (by decide +kernel) (pa_cons (pv 1) (pa_cons (pe_bltn (v := .ty "str") (by rfl) T.str (by decide +kernel) rfl) pa_nil)))) (pss_one (ps_ret (pe_and (pe_callB call_isi (by rfl) T.isinst (by decide +kernel) (pa_cons (pv 0) (pa_cons (pe_bltn (v := .ty "str") (by rfl) T.str (by decide +kernel) rfl) pa_nil))) (pe_one (pe_cmpR op_eq (pv 0) (pv 1) (nomark _)))))) pss_nil) (pss_cons (ps_if (PW.pt (pw_or (pt_val (pe_callB call_isi (by rfl) T.isinst (by decide +kernel) (pa_cons (pv 1) (pa_cons (pe_bltn (v := .ty "bool") (by rfl) T.bool (by decide +kernel) rfl) pa_nil)))) (pw_or1 (pt_val (pe_callB call_isi (by rfl) T.isinst (by decide +kernel) (pa_cons (pv 0) (pa_cons (pe_bltn (v := .ty "bool") (by rfl) T.bool (by decide +kernel) rfl) pa_nil))))))) pss_never pss_nil) (pss_one (ps_ret (pe_and (pe_callB call_isi (by rfl) T.isinst (by decide +kernel) (pa_cons (pv 0) (pa_cons (pe_bltn (v := .ty "int") (by rfl) T.int (by decide +kernel) rfl) pa_nil))) (pe_one (pe_cmpR op_eq (pv 0) (pv 1) (nomark _)))))))))), ?_⟩
      rcases hR with ⟨i, rfl, rfl⟩ | ⟨a, rfl, rfl⟩
      · refine ⟨_, rfl, sm (by show 2 ≤ 1000; decide), fun q hq => ?_⟩
        refine ⟨V.int i, q, _, _, _, false, rfl, upd_same, .cons (.ty _) (.cons (.ty _) .nil), tyInt, kit2 (a := "int") (b := "tuple") (c := "list") (r1 := false) (r2 := false) (by decide +kernel) (by decide +kernel), _, rfl, iteF ?_⟩
        have s1 := Same.new (HO.tup [V.ty "tuple", V.ty "list"]) hq
        refine ⟨_, rfl, rfl, _, rfl, iteF ?_⟩
        refine ⟨_, rfl, _, _, _, _, false, rfl, by first | exact .ty _ | constructor, tyInt, kit_ty (by decide +kernel), _, rfl, iteF ?_⟩
        refine ⟨_, rfl, _, _, _, _, false, rfl, by first | exact .ty _ | constructor, tyInt, kit_ty (by decide +kernel), _, rfl, iteF ?_⟩
        refine ⟨_, rfl, _, _, _, _, false, rfl, by first | exact .ty _ | constructor, tyInt, kit_ty (by decide +kernel), _, rfl, iteF ?_⟩
        refine ⟨_, rfl, _, _, _, _, true, rfl, by first | exact .ty _ | constructor, tyInt, kit_ty (by decide +kernel), _, rfl, iteT ?_⟩
        refine ⟨_, rfl, _, rfl, rfl, ?_⟩
        rw [decide_eq_true (show V.int i = V.int i from rfl)]
        exact k _ s1
      · refine ⟨_, rfl, sm (by show 2 ≤ 1000; decide), fun q hq => ?_⟩
        refine ⟨V.str a, q, _, _, _, false, rfl, upd_same, .cons (.ty _) (.cons (.ty _) .nil), .base (.str a), kit2 (a := "str") (b := "tuple") (c := "list") (r1 := false) (r2 := false) (by decide +kernel) (by decide +kernel), _, rfl, iteF ?_⟩
        have s1 := Same.new (HO.tup [V.ty "tuple", V.ty "list"]) hq
        refine ⟨_, rfl, rfl, _, rfl, iteF ?_⟩
        refine ⟨_, rfl, _, _, _, _, true, rfl, by first | exact .ty _ | constructor, .base (.str a), kit_ty (by decide +kernel), _, rfl, iteT ?_⟩
        refine ⟨_, rfl, _, _, _, _, true, rfl, by first | exact .ty _ | constructor, .base (.str a), kit_ty (by decide +kernel), _, rfl, iteT ?_⟩
        refine ⟨_, rfl, _, rfl, rfl, ?_⟩
        rw [decide_eq_true (show V.str a = V.str a from rfl)]
        exact k _ s1
  | d + 1 => by
    have GF := ok_alike F bF gF T d
    refine F.ok scAlike (fun vs H Q E h => ?_) (fun cdv A0 outer s0 H vs Q E hr h => ?_)
    · obtain ⟨v, u, rfl, _⟩ := h
      rfl
    · obtain ⟨v, u, rfl, hR, k⟩ := h
      have sm : ∀ {n : Nat}, n ≤ 1000 → n ≤ sizeLine := small
      refine ⟨_, (pss_cons (ps_if (pt_val (pe_callB call_isiT (by rfl) T.isinst (by decide +kernel) (pa_cons (pv 1) (pa_cons (pe_tup (pa_cons (pe_bltn (v := .ty "tuple") (by rfl) T.tuple (by decide +kernel) rfl) (pa_cons (pe_bltn (v := .ty "list") (by rfl) T.list (by decide +kernel) rfl) pa_nil))) pa_nil)))) (pss_cons (ps_if (PW.pt (pw_or (pt_not (pt_val (pe_callB call_isiT (by rfl) T.isinst (by decide +kernel) (pa_cons (pv 0) (pa_cons (pe_tup (pa_cons (pe_bltn (v := .ty "tuple") (by rfl) T.tuple (by decide +kernel) rfl) (pa_cons (pe_bltn (v := .ty "list") (by rfl) T.list (by decide +kernel) rfl) pa_nil))) pa_nil))))) (pw_or1 (pt_cmpR op_ne (pe_callB call_isi (by rfl) T.isinst (by decide +kernel) (pa_cons (pv 0) (pa_cons (pe_bltn (v := .ty "list") (by rfl) T.list (by decide +kernel) rfl) pa_nil))) (pe_callB call_isi (by rfl) T.isinst (by decide +kernel) (pa_cons (pv 1) (pa_cons (pe_bltn (v := .ty "list") (by rfl) T.list (by decide +kernel) rfl) pa_nil))) (nomark _))))) (pss_one (ps_ret pe_bl)) pss_nil) (pss_cons (ps_if (pt_cmpR op_ne (pe_callB call_len_seq (by rfl) T.len PySem.boot_len (pa_cons (pv 0) pa_nil)) (pe_callB call_len_seq (by rfl) T.len PySem.boot_len (pa_cons (pv 1) pa_nil)) (nomark _)) (pss_one (ps_ret pe_bl)) pss_nil) (pss_one (ps_ret (pe_cmpR (op_eqD hr.units) (pe_lc (own := [("_law_k", 2)]) (g := gName 2) (te := tVar 2) (tt := tNot (tB (tCall (spAlike d) [] E0 (tCons (tOp (rIx K) (tVar 0) (tVar 2)) (tCons (tOp (rIx K) (tVar 1) (tVar 2)) tNil))))) (by rfl) scAlike.nd (pi_range1 rfl T.range (pa_cons (pe_callB call_len_seq (by rfl) T.len PySem.boot_len (pa_cons (pv 1) pa_nil)) pa_nil)) (blkOk_by (own := [("_law_k", 2)]) (N := nAlike) (sc := defScope sAlike) (by decide +kernel)) (fun _ _ _ _ _ => (pg_name (i := 2) scAlike.nd rfl (Or.inl rfl))) (fun _ _ _ _ _ => pts_one (pt_not (pt_val (pe_call GF hr rfl gF F.kp bF .nil pass0 (pa_cons (pe_ix ix_seq (pv 0) (pv 2) (fun _ _ => rfl)) (pa_cons (pe_ix ix_seq (pv 1) (pv 2) (fun _ _ => rfl)) pa_nil)))))) (fun _ _ _ _ _ => pv 2)) (pe_lst pa_nil) (nomark _)))))) pss_nil) (pss_cons (ps_if (pt_cmpR op_isN (pv 1) pe_non (nomark _)) (pss_one (ps_ret (pe_cmpR op_isN (pv 0) pe_non (nomark _)))) pss_nil) (pss_cons (ps_if (pt_val (pe_callB call_isi (by rfl) T.isinst (by decide +kernel) (pa_cons (pv 1) (pa_cons (pe_bltn (v := .ty "str") (by rfl) T.str (by decide +kernel) rfl) pa_nil)))) (pss_one (ps_ret (pe_and (pe_callB call_isi (by rfl) T.isinst (by decide +kernel) (pa_cons (pv 0) (pa_cons (pe_bltn (v := .ty "str") (by rfl) T.str (by decide +kernel) rfl) pa_nil))) (pe_one (pe_cmpR op_eq (pv 0) (pv 1) (nomark _)))))) pss_nil) (pss_cons (ps_if (PW.pt (pw_or (pt_val (pe_callB call_isi (by rfl) T.isinst (by decide +kernel) (pa_cons (pv 1) (pa_cons (pe_bltn (v := .ty "bool") (by rfl) T.bool (by decide +kernel) rfl) pa_nil)))) (pw_or1 (pt_val (pe_callB call_isi (by rfl) T.isinst (by decide +kernel) (pa_cons (pv 0) (pa_cons (pe_bltn (v := .ty "bool") (by rfl) T.bool (by decide +kernel) rfl) pa_nil))))))) pss_never pss_nil) (pss_one (ps_ret (pe_and (pe_callB call_isi (by rfl) T.isinst (by decide +kernel) (pa_cons (pv 0) (pa_cons (pe_bltn (v := .ty "int") (by rfl) T.int (by decide +kernel) rfl) pa_nil))) (pe_one (pe_cmpR op_eq (pv 0) (pv 1) (nomark _)))))))))), ?_⟩
      rcases hR with (⟨i, rfl, rfl⟩ | ⟨a, rfl, rfl⟩) | ⟨a, b, xs, ys, rfl, rfl, hab, hl, hl2, hR⟩
      · refine ⟨_, rfl, sm (by show 2 ≤ 1000; decide), fun q hq => ?_⟩
        refine ⟨V.int i, q, _, _, _, false, rfl, upd_same, .cons (.ty _) (.cons (.ty _) .nil), tyInt, kit2 (a := "int") (b := "tuple") (c := "list") (r1 := false) (r2 := false) (by decide +kernel) (by decide +kernel), _, rfl, iteF ?_⟩
        have s1 := Same.new (HO.tup [V.ty "tuple", V.ty "list"]) hq
        refine ⟨_, rfl, rfl, _, rfl, iteF ?_⟩
        refine ⟨_, rfl, _, _, _, _, false, rfl, by first | exact .ty _ | constructor, tyInt, kit_ty (by decide +kernel), _, rfl, iteF ?_⟩
        refine ⟨_, rfl, _, _, _, _, false, rfl, by first | exact .ty _ | constructor, tyInt, kit_ty (by decide +kernel), _, rfl, iteF ?_⟩
        refine ⟨_, rfl, _, _, _, _, false, rfl, by first | exact .ty _ | constructor, tyInt, kit_ty (by decide +kernel), _, rfl, iteF ?_⟩
        refine ⟨_, rfl, _, _, _, _, true, rfl, by first | exact .ty _ | constructor, tyInt, kit_ty (by decide +kernel), _, rfl, iteT ?_⟩
        refine ⟨_, rfl, _, rfl, rfl, ?_⟩
        rw [decide_eq_true (show V.int i = V.int i from rfl)]
        exact k _ s1
      · refine ⟨_, rfl, sm (by show 2 ≤ 1000; decide), fun q hq => ?_⟩
        refine ⟨V.str a, q, _, _, _, false, rfl, upd_same, .cons (.ty _) (.cons (.ty _) .nil), .base (.str a), kit2 (a := "str") (b := "tuple") (c := "list") (r1 := false) (r2 := false) (by decide +kernel) (by decide +kernel), _, rfl, iteF ?_⟩
        have s1 := Same.new (HO.tup [V.ty "tuple", V.ty "list"]) hq
        refine ⟨_, rfl, rfl, _, rfl, iteF ?_⟩
        refine ⟨_, rfl, _, _, _, _, true, rfl, by first | exact .ty _ | constructor, .base (.str a), kit_ty (by decide +kernel), _, rfl, iteT ?_⟩
        refine ⟨_, rfl, _, _, _, _, true, rfl, by first | exact .ty _ | constructor, .base (.str a), kit_ty (by decide +kernel), _, rfl, iteT ?_⟩
        refine ⟨_, rfl, _, rfl, rfl, ?_⟩
        rw [decide_eq_true (show V.str a = V.str a from rfl)]
        exact k _ s1
      · refine ⟨_, rfl, sm (by show 2 ≤ 1000; decide), fun q hq => ?_⟩
        have s1 := Same.new (HO.tup [V.ty "tuple", V.ty "list"]) hq
        have hq1 : upd H q (.tup [V.ty "tuple", V.ty "list"]) q = some (.tup [V.ty "tuple", V.ty "list"]) := upd_same
        generalize upd H q (.tup [V.ty "tuple", V.ty "list"]) = H1 at s1 hq1
        obtain ⟨tn, tb, kb, h1⟩ : ∃ (tn : String) (tb : Bool), PySem.W.kitAny K (.type tn) [.type "tuple", .type "list"] = some true ∧ (PySem.W.kitOne K (.type tn) (.type "list") = some tb ∧ ∀ H2, Same H H2 → TyX K H2 (.ref a) (.type tn) ∧ TyX K H2 (.ref b) (.type tn)) := by
          rcases hab with ⟨ha, hb⟩ | ⟨ha, hb⟩
          · exact ⟨"tuple", false, kit2 (r1 := true) (r2 := false) (by decide +kernel) (by decide +kernel), kit_ty (by decide +kernel), fun H2 s => ⟨.base (.tup (s _ _ ha)), .base (.tup (s _ _ hb))⟩⟩
          · exact ⟨"list", true, kit2 (r1 := false) (r2 := true) (by decide +kernel) (by decide +kernel), kit_ty (by decide +kernel), fun H2 s => ⟨.base (.lst (s _ _ ha)), .base (.lst (s _ _ hb))⟩⟩
        have sq : ∀ H2, Same H H2 → (SqL K H2 a xs ∨ SqT K H2 a xs) ∧ (SqL K H2 b ys ∨ SqT K H2 b ys) := fun H2 s => by
          rcases hab with ⟨ha, hb⟩ | ⟨ha, hb⟩
          · exact ⟨.inr (SqT.of (s _ _ ha)), .inr (SqT.of (s _ _ hb))⟩
          · exact ⟨.inl (SqL.of (s _ _ ha)), .inl (SqL.of (s _ _ hb))⟩
        refine ⟨V.ref b, q, _, _, _, true, rfl, hq1, .cons (.ty _) (.cons (.ty _) .nil), (h1.2 H1 s1).2, kb, _, rfl, iteT ?_⟩
        refine ⟨_, rfl, sm (by show 2 ≤ 1000; decide), fun q2 hq2 => ?_⟩
        have s2 := s1.trans (Same.new (HO.tup [V.ty "tuple", V.ty "list"]) hq2)
        have hq22 : upd H1 q2 (.tup [V.ty "tuple", V.ty "list"]) q2 = some (.tup [V.ty "tuple", V.ty "list"]) := upd_same
        generalize upd H1 q2 (.tup [V.ty "tuple", V.ty "list"]) = H2 at s2 hq22
        refine ⟨V.ref a, q2, _, _, _, true, rfl, hq22, .cons (.ty _) (.cons (.ty _) .nil), (h1.2 H2 s2).1, kb, _, rfl, iteF ?_⟩
        refine ⟨_, rfl, _, _, _, _, tb, rfl, by first | exact .ty _ | constructor, (h1.2 H2 s2).1, h1.1, _, rfl, _, _, _, _, tb, rfl, by first | exact .ty _ | constructor, (h1.2 H2 s2).2, h1.1, rfl, _, rfl, ?_⟩
        rw [decide_eq_true (show V.bl tb = V.bl tb from rfl)]
        refine iteF ?_
        refine ⟨_, rfl, a, xs, rfl, (sq H2 s2).1, _, rfl, b, ys, rfl, (sq H2 s2).2, rfl, _, rfl, ?_⟩
        rw [hl, decide_eq_true (show V.int (ys.length : Nat) = V.int (ys.length : Nat) from rfl)]
        refine iteF ?_
        refine ⟨_, rfl, b, ys, rfl, (sq H2 s2).2, (ys.length : Nat), rfl, by omega, by omega, fun D hD => ?_⟩
        have hD0 := s2.free hD
        refine lc_range (lo := 0) (n := ((ys.length : Nat) : Int).toNat) (fun j H3 => Same H H3 ∧ H3 D = some (.lst (([] : List Int).map V.int))) ⟨s2.trans (Same.new _ hD), upd_same⟩ ?_ ?_
        · rintro j H3 hj ⟨s3, hD3⟩
          rw [Int.zero_add]
          have hj : j < ys.length := by simpa using hj
          have ey : ys[j]? = some ys[j] := List.getElem?_eq_getElem hj
          have ex : xs[j]? = some xs[j] := List.getElem?_eq_getElem (by omega)
          have hr := hR j _ _ ex ey
          refine ⟨rfl, ?_⟩
          have fin : ∀ H4, Same H3 H4 → ∃ kk, V.bl true = .bl kk ∧ (if (!kk) = true then tVar 2 (wipe ([some (V.ref a), some (V.ref b), none] : L2.St) [2] |>.set 2 (some (V.int (j : Nat)))) H4 (fun y H5 => ∃ acc, H5 D = some (.lst acc) ∧ acc.length < sizeLine ∧ (Same H (upd H5 D (.lst (acc ++ [y]))) ∧ (upd H5 D (.lst (acc ++ [y]))) D = some (.lst (([] : List Int).map V.int)))) else (Same H H4 ∧ H4 D = some (.lst (([] : List Int).map V.int)))) := fun H4 s4 =>
            ⟨true, rfl, iteF ⟨s3.trans s4, s4 _ _ hD3⟩⟩
          have ia : ∀ {Q : VK}, Q xs[j] H3 → rIx K (.ref a) (.int (j : Nat)) H3 Q := fun {Q} hQ => by
            rcases (sq H3 s3).1 with h | h
            · exact .inl ⟨_, _, _, _, rfl, rfl, h, at_of (j := j) rfl ex, hQ⟩
            · exact .inr (.inl ⟨_, _, _, _, rfl, rfl, h, at_of (j := j) rfl ex, hQ⟩)
          have ib : ∀ {Q : VK}, Q ys[j] H3 → rIx K (.ref b) (.int (j : Nat)) H3 Q := fun {Q} hQ => by
            rcases (sq H3 s3).2 with h | h
            · exact .inl ⟨_, _, _, _, rfl, rfl, h, at_of (j := j) rfl ey, hQ⟩
            · exact .inr (.inl ⟨_, _, _, _, rfl, rfl, h, at_of (j := j) rfl ey, hQ⟩)
          refine ⟨_, rfl, _, rfl, ia ⟨_, rfl, _, rfl, ib ?_⟩⟩
          exact ⟨xs[j], ys[j], rfl, hr.same s3, fin⟩
        · rintro H3 ⟨s3, hD3⟩
          refine ⟨sm (by show 0 ≤ 1000; decide), fun q4 hq4 => ?_⟩
          have s4 := Same.new (HO.lst []) hq4
          refine eqNil (s4 _ _ hD3) upd_same ?_
          exact k _ (s3.trans s4)
end
end SH
set_option linter.all false
set_option Elab.async false
set_option maxRecDepth 100000
namespace SH
open PySem PySem.Spec PyProof.Rows L2
def deskZ : List Lt := [.make 5, .size 5 12 8, .paint 5 0 0 12 8 9, .paint 5 0 7 12 1 0, .show 5]
def deskL : LookV := ⟨12, 8, (List.range 8).map fun y => (List.range 12).map fun _ => if y = 7 then 0 else 9, 0, 0, 0, false⟩
def deskV : List SurfV := [⟨5, none, deskL, none, some deskL, true, 0, 0⟩]
theorem sortI1 (a : Int) : sortI [a] = [a] := (sortI_of (List.Perm.refl _) (by simp)).symm
theorem sortI0 : sortI [] = [] := (sortI_of (List.Perm.refl _) (by simp)).symm
def deskV0 : List SurfV := [⟨5, none, deskL, none, none, false, 0, 0⟩]
theorem desk_run0 : runV [] [.make 5, .size 5 12 8, .paint 5 0 0 12 8 9, .paint 5 0 7 12 1 0] = deskV0 := by kernel_rfl
theorem famV_one {vs : List SurfV} {n : Int} {ns : List Int} {d : Nat} (e : (vs.filter fun v => decide (v.top = some n)).map (·.name) = ns) : famV vs (d + 1) n = n :: (sortI ns).flatMap (famV vs d) := by rw [← e]; rfl
theorem desk_fam : famV deskV0 2 5 = [5] := by
  rw [famV_one (ns := []) (by kernel_rfl), sortI0]; rfl
theorem desk_show : stepV deskV0 (.show 5) = deskV := by
  show showV deskV0 5 = deskV
  unfold showV
  rw [show vfind deskV0 5 = some ⟨5, none, deskL, none, none, false, 0, 0⟩ from by kernel_rfl, desk_fam]
  kernel_rfl
theorem desk_run : runV [] deskZ = deskV := by
  rw [← desk_show, ← desk_run0]
  rfl
def winL (k x y r : Int) : LookV := ⟨4, 3, List.replicate 3 (List.replicate 4 k), x, y, r, false⟩
def winL' (k x y r : Int) : LookV := ⟨4, 3, [[0, k, k, k], [k, k, k, k], [k, k, k, k]], x, y, r, false⟩
def butL (k : Int) : LookV := ⟨1, 1, [[k + 4]], 2, 1, 0, false⟩
def winV0 (k x y r : Int) : List SurfV := [⟨0, none, winL k x y r, none, none, false, 0, 0⟩, ⟨1, some 0, butL k, none, none, false, 0, 0⟩]
def winV1 (k x y r : Int) : List SurfV := [⟨0, none, winL k x y r, none, none, false, 0, 0⟩, ⟨1, some 0, butL k, some (butL k), none, false, 0, 0⟩]
def winV2 (k x y r : Int) : List SurfV := [⟨0, none, winL k x y r, none, some (winL k x y r), true, 0, 0⟩, ⟨1, some 0, butL k, none, some (butL k), true, 0, 0⟩]
def winV (k x y r : Int) : List SurfV := [⟨0, none, winL' k x y r, none, some (winL k x y r), true, 0, 0⟩, ⟨1, some 0, butL k, none, some (butL k), true, 0, 0⟩]
theorem win_run0 (k x y r : Int) : runV [] [.make 0, .size 0 4 3, .paint 0 0 0 4 3 k, .place 0 x y, .rank 0 r, .make 1, .tie 1 0, .paint 1 0 0 1 1 (k + 4), .place 1 2 1] = winV0 k x y r := by kernel_rfl
theorem win_show1 (k x y r : Int) : stepV (winV0 k x y r) (.show 1) = winV1 k x y r := by
  show showV (winV0 k x y r) 1 = _
  unfold showV
  rw [show vfind (winV0 k x y r) 1 = some ⟨1, some 0, butL k, none, none, false, 0, 0⟩ from by kernel_rfl]
  rfl
theorem win_fam (k x y r : Int) : famV (winV1 k x y r) 2 0 = [0, 1] := by
  rw [famV_one (ns := [1]) (by kernel_rfl), sortI1, List.flatMap_cons, List.flatMap_nil, famV_one (ns := []) (by kernel_rfl), sortI0]; rfl
theorem win_show0 (k x y r : Int) : stepV (winV1 k x y r) (.show 0) = winV2 k x y r := by
  show showV (winV1 k x y r) 0 = _
  unfold showV
  rw [show vfind (winV1 k x y r) 0 = some ⟨0, none, winL k x y r, none, none, false, 0, 0⟩ from by kernel_rfl, win_fam]
  kernel_rfl
theorem win_last (k x y r : Int) : stepV (winV2 k x y r) (.paint 0 0 0 1 1 0) = winV k x y r := by kernel_rfl
theorem win_run (k x y r : Int) : runV [] (winZ k x y r) = winV k x y r := by
  rw [← win_last, ← win_show0, ← win_show1, ← win_run0]
  rfl
theorem ok_of {z : Lt} (h : ∀ p ∈ z.nums.zip z.bnds, p.2.1 ≤ p.1 ∧ p.1 ≤ p.2.2) : z.ok := h
theorem desk_ok : RunOk [] deskZ := by
  refine ⟨ok_of (by decide), trivial, by kernel_rfl, ok_of (by decide), trivial, by kernel_rfl, ok_of (by decide), trivial, by kernel_rfl, ok_of (by decide), trivial, by kernel_rfl, ok_of (by decide), trivial, by kernel_rfl, trivial⟩
theorem win_ok {k x y r : Int} (hk : 1 ≤ k ∧ k ≤ 5) (hx : 0 ≤ x ∧ x ≤ 8) (hy : 0 ≤ y ∧ y ≤ 5) (hr : 1 ≤ r ∧ r ≤ 9) : RunOk [] (winZ k x y r) := by
  have e8 : ∀ (z : Lt) (vs : List SurfV), True := fun _ _ => trivial
  have rec0 : ∀ (xs ys : List Lt) (vs : List SurfV), RunOk vs xs → RunOk (runV vs xs) ys → RunOk vs (xs ++ ys) := by
    intro xs
    induction xs with
    | nil => intro ys vs _ h; exact h
    | cons z zs ih => rintro ys vs ⟨a, b, c, d⟩ h; exact ⟨a, b, c, ih ys _ d h⟩
  have h1 : RunOk [] [.make 0, .size 0 4 3, .paint 0 0 0 4 3 k, .place 0 x y, .rank 0 r, .make 1, .tie 1 0, .paint 1 0 0 1 1 (k + 4), .place 1 2 1] := by
    refine ⟨ok_of (by decide), trivial, by kernel_rfl, ok_of (by decide), trivial, by kernel_rfl, ?_, trivial, by kernel_rfl, ?_, trivial, by kernel_rfl, ?_, trivial, by kernel_rfl, ok_of (by decide), trivial, by kernel_rfl, ok_of (by decide), trivial, by kernel_rfl, ?_, trivial, by kernel_rfl, ok_of (by decide), trivial, by kernel_rfl, trivial⟩ <;>
      (refine ok_of ?_; simp [Lt.nums, Lt.bnds]; omega)
  refine rec0 _ [.show 1, .show 0, .paint 0 0 0 1 1 0] [] h1 ?_
  rw [win_run0]
  refine ⟨ok_of (by decide), trivial, by kernel_rfl, ?_⟩
  rw [win_show1]
  refine ⟨ok_of (by decide), trivial, by kernel_rfl, ?_⟩
  rw [win_show0]
  exact ⟨ok_of (by decide), trivial, by kernel_rfl, trivial⟩
end SH
set_option Elab.async false
set_option linter.all false
set_option maxRecDepth 100000
namespace SH
open PySem PySem.Spec PyProof.Rows L2
theorem leO_iff (a b : Int × Int × Int) : leO a b = true ↔ ¬ ltO b a := by unfold leO; simp
theorem leO_trans (a b c : Int × Int × Int) (h1 : leO a b = true) (h2 : leO b c = true) : leO a c = true := by
  rw [leO_iff] at *
  unfold ltO at *
  omega
theorem leO_total (a b : Int × Int × Int) : (leO a b || leO b a) = true := by
  rw [Bool.or_eq_true, leO_iff, leO_iff]
  unfold ltO
  omega
theorem leO_anti {a b : Int × Int × Int} (h1 : leO a b = true) (h2 : leO b a = true) : a = b := by
  rw [leO_iff] at *
  unfold ltO at *
  obtain ⟨a1, a2, a3⟩ := a
  obtain ⟨b1, b2, b3⟩ := b
  simp only at *
  have e1 : a1 = b1 := by omega
  have e2 : a2 = b2 := by omega
  have e3 : a3 = b3 := by omega
  rw [e1, e2, e3]
theorem ordT_eq {num : Addr → Int} {st : Addr → Option SurfR} {as bs : List Addr} (p : bs.Perm (as.filter (unvT st))) (h : bs.Pairwise fun a b => leO (keyA num st a) (keyA num st b) = true) (inj : ∀ a ∈ bs, ∀ b ∈ bs, keyA num st a = keyA num st b → a = b) : ordT num st as = bs := by
  unfold ordT sortO
  have e : (((as.filter (unvT st)).map fun a => (a, keyA num st a)).mergeSort fun a b => leO a.2 b.2) = bs.map fun a => (a, keyA num st a) := by
    refine List.Perm.eq_of_pairwise (le := fun a b => leO a.2 b.2 = true) (fun a b ha hb h1 h2 => ?_) (List.pairwise_mergeSort (fun a b c => leO_trans a.2 b.2 c.2) (fun a b => leO_total a.2 b.2) _) ?_ ?_
    · have ha := (List.mergeSort_perm _ _).mem_iff.mp ha
      obtain ⟨x, hx, rfl⟩ := List.mem_map.mp ha
      obtain ⟨y, hy, rfl⟩ := List.mem_map.mp hb
      have := inj x (p.mem_iff.mpr hx) y hy (leO_anti h1 h2)
      rw [this]
    · exact List.pairwise_map.mpr h
    · exact (List.mergeSort_perm _ _).trans (p.symm.map _)
  rw [e, List.map_map]
  show bs.map (fun a => a) = bs
  simp
theorem ordT_one {num : Addr → Int} {st : Addr → Option SurfR} {a : Addr} (h : unvT st a = true) : ordT num st [a] = [a] := ordT_eq (by rw [List.filter_cons, if_pos h]; exact List.Perm.refl _) (by simp) (by simp)
theorem ordT_nil {num : Addr → Int} {st : Addr → Option SurfR} : ordT num st [] = [] := ordT_eq (List.Perm.refl _) (by simp) (by simp)
theorem layT_nil {num : Addr → Int} {st : Addr → Option SurfR} (d : Nat) (x y : Int) : layT num st d [] x y = [] := by
  cases d with
  | zero => rfl
  | succ d => rw [layT_succ, ordT_nil]; rfl
theorem layStep_of {num : Addr → Int} {st : Addr → Option SurfR} {d : Nat} {x y : Int} {a : Addr} {s : SurfR} {l : LookM} (e : st a = some s) (el : s.shown = some l) : layStep num st d x y a = (a, x + l.x, y + l.y) :: layT num st d (s.parts.map (·.2)) (x + l.x) (y + l.y) := by
  unfold layStep; rw [e]; simp only [el]
structure DeskS (s : SurfR) (l : LookM) : Prop where
  nm : s.name = 5
  top : s.top = none
  parts : s.parts = []
  sh : s.shown = some l
  v : l.v = deskL
structure WinS (k x y r : Int) (s0 s1 : SurfR) (l0 l1 : LookM) : Prop where
  n0 : s0.name = 0
  n1 : s1.name = 1
  t0 : s0.top = none
  t1 : s1.top = some s0.a
  p0 : s0.parts = [(1, s1.a)]
  p1 : s1.parts = []
  sh0 : s0.shown = some l0
  sh1 : s1.shown = some l1
  v0 : l0.v = winL k x y r
  v1 : l1.v = butL k
theorem shown_of {ss : List SurfR} {s : SurfR} {v : SurfV} (h : vw ss s = v) {q : LookV} (e : v.shown = some q) : ∃ l, s.shown = some l ∧ l.v = q := by
  have : s.shown.map (·.v) = some q := by rw [← e, ← h]; rfl
  cases es : s.shown with
  | none => rw [es] at this; cases this
  | some l => rw [es] at this; exact ⟨l, rfl, Option.some.inj this⟩
theorem one_of {α : Type} {l : List α} (h : l.length = 1) : ∃ a, l = [a] := by
  match l, h with
  | [a], _ => exact ⟨a, rfl⟩
theorem two_of {α : Type} {l : List α} (h : l.length = 2) : ∃ a b, l = [a, b] := by
  match l, h with
  | [a, b], _ => exact ⟨a, b, rfl⟩
theorem three_list {α : Type} {l : List α} (h : l.length = 3) : ∃ a b c, l = [a, b, c] := by
  match l, h with
  | [a, b, c], _ => exact ⟨a, b, c, rfl⟩
theorem desk_ss {ow : Addr} {ss : List SurfR} (w : SWf ow ss) (h : view ss = deskV) : ∃ s l, ss = [s] ∧ DeskS s l := by
  have hl : ss.length = 1 := by have := congrArg List.length h; simpa [view, deskV] using this
  obtain ⟨s, rfl⟩ := one_of hl
  · have hv : vw [s] s = ⟨5, none, deskL, none, some deskL, true, 0, 0⟩ := (List.cons.inj h).1
    have ht : s.top = none := (top_none w List.mem_cons_self).mp (by rw [hv])
    obtain ⟨l, e1, e2⟩ := shown_of hv rfl
    refine ⟨s, l, rfl, congrArg SurfV.name hv, ht, ?_, e1, e2⟩
    cases hp : s.parts with
    | nil => rfl
    | cons p r =>
      obtain ⟨x, hx, _, _, ex⟩ := (w.parts s List.mem_cons_self p).mp (by rw [hp]; exact List.mem_cons_self)
      rw [List.mem_singleton.mp hx, ht] at ex; cases ex
theorem win_ss {ow : Addr} {ss : List SurfR} {k x y r : Int} (w : SWf ow ss) (h : view ss = winV k x y r) : ∃ s0 s1 l0 l1, ss = [s0, s1] ∧ WinS k x y r s0 s1 l0 l1 := by
  have hl : ss.length = 2 := by have := congrArg List.length h; simpa [view, winV] using this
  obtain ⟨s0, s1, rfl⟩ := two_of hl
  · have hv0 : vw [s0, s1] s0 = ⟨0, none, winL' k x y r, none, some (winL k x y r), true, 0, 0⟩ := (List.cons.inj h).1
    have hv1 : vw [s0, s1] s1 = ⟨1, some 0, butL k, none, some (butL k), true, 0, 0⟩ := (List.cons.inj (List.cons.inj h).2).1
    have m0 : s0 ∈ [s0, s1] := List.mem_cons_self
    have m1 : s1 ∈ [s0, s1] := List.mem_cons_of_mem _ List.mem_cons_self
    have n0 : s0.name = 0 := congrArg SurfV.name hv0
    have n1 : s1.name = 1 := congrArg SurfV.name hv1
    have ht0 : s0.top = none := (top_none w m0).mp (by rw [hv0])
    have ht1 : s1.top = some s0.a := (top_view w m1 m0).mp (by rw [hv1, n0])
    obtain ⟨l0, e1, e2⟩ := shown_of hv0 rfl
    obtain ⟨l1, e3, e4⟩ := shown_of hv1 rfl
    have na : s0.a ≠ s1.a := by have := w.na; simp at this; exact this
    refine ⟨s0, s1, l0, l1, rfl, n0, n1, ht0, ht1, ?_, ?_, e1, e3, e2, e4⟩
    · have hm : ((1 : Int), s1.a) ∈ s0.parts := (w.parts s0 m0 _).mpr ⟨s1, m1, n1, rfl, ht1⟩
      have hall : ∀ p ∈ s0.parts, p = ((1 : Int), s1.a) := by
        intro p hp
        obtain ⟨x, hx, e1, e2, ex⟩ := (w.parts s0 m0 p).mp hp
        rcases List.mem_cons.mp hx with rfl | hx
        · rw [ht0] at ex; cases ex
        · rw [List.mem_singleton.mp hx] at e1 e2
          exact Prod.ext (by rw [← e1, n1]) e2.symm
      have hn := w.pn s0 m0
      match hq : s0.parts, hm, hall, hn with
      | [p], _, hall, _ => rw [hall p List.mem_cons_self]
      | p :: q :: t, _, hall, hn =>
        have e1 := hall p List.mem_cons_self
        have e2 := hall q (List.mem_cons_of_mem _ List.mem_cons_self)
        rw [e1, e2] at hn
        simp at hn
    · cases hp : s1.parts with
      | nil => rfl
      | cons p r =>
        obtain ⟨x, hx, _, _, ex⟩ := (w.parts s1 m1 p).mp (by rw [hp]; exact List.mem_cons_self)
        rcases List.mem_cons.mp hx with rfl | hx
        · rw [ht0] at ex; cases ex
        · rw [List.mem_singleton.mp hx, ht1] at ex
          exact absurd (Option.some.inj ex) na
/-- the three clients of this law -/
structure Three (a b : Spot) (ps : Ps) (c0 c1 c2 : CliH) (d s10 s11 s20 s21 : SurfR) (ld l10 l11 l20 l21 : LookM) : Prop where
  ps : ps = [(c0, [d]), (c1, [s10, s11]), (c2, [s20, s21])]
  d : DeskS d ld
  w1 : WinS 1 a.x a.y a.r s10 s11 l10 l11
  w2 : WinS 2 b.x b.y b.r s20 s21 l20 l21
  n0 : c0.number = 0
  n1 : c1.number = 1
  n2 : c2.number = 2
def booksZ (a b : Spot) : Nat → List Lt
  | 0 => deskZ
  | 1 => winZ 1 a.x a.y a.r
  | _ => winZ 2 b.x b.y b.r
theorem three_of {a b : Spot} {ps : Ps} (hl : ps.length = 3) (w : PsW ps) (h : ∀ (k : Nat) p, ps[k]? = some p → p.1.number = (k : Int) ∧ view p.2 = runV [] (booksZ a b k)) : ∃ c0 c1 c2 d s10 s11 s20 s21 ld l10 l11 l20 l21, Three a b ps c0 c1 c2 d s10 s11 s20 s21 ld l10 l11 l20 l21 := by
  obtain ⟨⟨c0, ss0⟩, ⟨c1, ss1⟩, ⟨c2, ss2⟩, rfl⟩ := three_list hl
  · obtain ⟨n0, v0⟩ := h 0 _ rfl
    obtain ⟨n1, v1⟩ := h 1 _ rfl
    obtain ⟨n2, v2⟩ := h 2 _ rfl
    have v0 : view ss0 = deskV := v0.trans desk_run
    have v1 : view ss1 = winV 1 a.x a.y a.r := v1.trans (win_run _ _ _ _)
    have v2 : view ss2 = winV 2 b.x b.y b.r := v2.trans (win_run _ _ _ _)
    obtain ⟨d, ld, rfl, hd⟩ := desk_ss (w (c0, ss0) (by simp)).1 v0
    obtain ⟨s10, s11, l10, l11, rfl, hw1⟩ := win_ss (w (c1, ss1) (by simp)).1 v1
    obtain ⟨s20, s21, l20, l21, rfl, hw2⟩ := win_ss (w (c2, ss2) (by simp)).1 v2
    exact ⟨c0, c1, c2, d, s10, s11, s20, s21, ld, l10, l11, l20, l21, rfl, hd, hw1, hw2, n0, n1, n2⟩
def win2 (p q : Addr) (x y : Int) : List (Addr × Int × Int) := [(p, x, y), (q, x + 2, y + 1)]
theorem lay_win {num : Addr → Int} {st : Addr → Option SurfR} {k x y r : Int} {s0 s1 : SurfR} {l0 l1 : LookM} (W : WinS k x y r s0 s1 l0 l1) (e0 : st s0.a = some s0) (e1 : st s1.a = some s1) : layStep num st 2 0 0 s0.a = win2 s0.a s1.a x y := by
  have hx : l0.x = x := congrArg LookV.x W.v0
  have hy : l0.y = y := congrArg LookV.y W.v0
  have hx1 : l1.x = 2 := congrArg LookV.x W.v1
  have hy1 : l1.y = 1 := congrArg LookV.y W.v1
  have hv1 : l1.veiled = false := congrArg LookV.veiled W.v1
  rw [layStep_of e0 W.sh0, W.p0]
  simp only [List.map_cons, List.map_nil]
  rw [layT_succ, ordT_one (by unfold unvT; rw [e1]; show s1.unveiled = true; unfold SurfR.unveiled; rw [W.sh1]; simp [hv1]), List.flatMap_cons, List.flatMap_nil, layStep_of e1 W.sh1, W.p1, List.map_nil, layT_nil, hx, hy, hx1, hy1]
  unfold win2
  simp
theorem three_laid {a b : Spot} {ps : Ps} {c0 c1 c2 : CliH} {d s10 s11 s20 s21 : SurfR} {ld l10 l11 l20 l21 : LookM} (T : Three a b ps c0 c1 c2 d s10 s11 s20 s21 ld l10 l11 l20 l21) (w : PsW ps) (nd : ((surfs ps).map (·.a)).Nodup) (nc : (ps.map (·.1.a)).Nodup) (ao : a.ok) (bo : b.ok) :
    laidM ps = (d.a, 0, 0) :: (if b.r < a.r then win2 s20.a s21.a b.x b.y ++ win2 s10.a s11.a a.x a.y else win2 s10.a s11.a a.x a.y ++ win2 s20.a s21.a b.x b.y) := by
  have hps := T.ps
  have m0 : ((c0, [d]) : CliH × List SurfR) ∈ ps := by rw [hps]; simp
  have m1 : ((c1, [s10, s11]) : CliH × List SurfR) ∈ ps := by rw [hps]; simp
  have m2 : ((c2, [s20, s21]) : CliH × List SurfR) ∈ ps := by rw [hps]; simp
  have ed : stM ps d.a = some d := stM_mem nd m0 (by simp)
  have e10 : stM ps s10.a = some s10 := stM_mem nd m1 (by simp)
  have e11 : stM ps s11.a = some s11 := stM_mem nd m1 (by simp)
  have e20 : stM ps s20.a = some s20 := stM_mem nd m2 (by simp)
  have e21 : stM ps s21.a = some s21 := stM_mem nd m2 (by simp)
  have o0 : d.owner = c0.a := (w _ m0).1.ow d (by simp)
  have o1 : s10.owner = c1.a := (w _ m1).1.ow s10 (by simp)
  have o2 : s20.owner = c2.a := (w _ m2).1.ow s20 (by simp)
  have k0 : numM ps d.owner = 0 := by rw [o0, numM_mem nc m0]; exact T.n0
  have k1 : numM ps s10.owner = 1 := by rw [o1, numM_mem nc m1]; exact T.n1
  have k2 : numM ps s20.owner = 2 := by rw [o2, numM_mem nc m2]; exact T.n2
  have roots : (csOf ps).flatMap (rootsOf (stM ps)) = [d.a, s10.a, s20.a] := by
    have i0 : isTop (stM ps) d.a = true := by unfold isTop; rw [ed]; show d.top.isNone = true; rw [T.d.top]; rfl
    have i10 : isTop (stM ps) s10.a = true := by unfold isTop; rw [e10]; show s10.top.isNone = true; rw [T.w1.t0]; rfl
    have i11 : isTop (stM ps) s11.a = false := by unfold isTop; rw [e11]; show s11.top.isNone = false; rw [T.w1.t1]; rfl
    have i20 : isTop (stM ps) s20.a = true := by unfold isTop; rw [e20]; show s20.top.isNone = true; rw [T.w2.t0]; rfl
    have i21 : isTop (stM ps) s21.a = false := by unfold isTop; rw [e21]; show s21.top.isNone = false; rw [T.w2.t1]; rfl
    have q0 : c0.sd = [(d.name, d.a)] := (w _ m0).2
    have q1 : c1.sd = [(s10.name, s10.a), (s11.name, s11.a)] := (w _ m1).2
    have q2 : c2.sd = [(s20.name, s20.a), (s21.name, s21.a)] := (w _ m2).2
    have ec : csOf ps = [(c0.a, c0.sa, c0.sd), (c1.a, c1.sa, c1.sd), (c2.a, c2.sa, c2.sd)] := by rw [hps]; rfl
    rw [ec, q0, q1, q2]
    simp only [List.flatMap_cons, List.flatMap_nil, rootsOf, List.map_cons, List.map_nil, List.filter_cons, List.filter_nil, i0, i10, i11, i20, i21, if_true, if_false, Bool.false_eq_true]
    rfl
  have vd : ld.veiled = false := congrArg LookV.veiled T.d.v
  have v1 : l10.veiled = false := congrArg LookV.veiled T.w1.v0
  have v2 : l20.veiled = false := congrArg LookV.veiled T.w2.v0
  have ud : unvT (stM ps) d.a = true := by unfold unvT; rw [ed]; show d.unveiled = true; unfold SurfR.unveiled; rw [T.d.sh]; simp [vd]
  have u1 : unvT (stM ps) s10.a = true := by unfold unvT; rw [e10]; show s10.unveiled = true; unfold SurfR.unveiled; rw [T.w1.sh0]; simp [v1]
  have u2 : unvT (stM ps) s20.a = true := by unfold unvT; rw [e20]; show s20.unveiled = true; unfold SurfR.unveiled; rw [T.w2.sh0]; simp [v2]
  have rd : ld.rank = 0 := congrArg LookV.rank T.d.v
  have r1 : l10.rank = a.r := congrArg LookV.rank T.w1.v0
  have r2 : l20.rank = b.r := congrArg LookV.rank T.w2.v0
  have kd : keyA (numM ps) (stM ps) d.a = (0, 0, 5) := by unfold keyA; rw [ed]; show keyT _ d = _; unfold keyT; rw [T.d.sh, k0, T.d.nm]; show (ld.rank, _, _) = _; rw [rd]
  have ka : keyA (numM ps) (stM ps) s10.a = (a.r, 1, 0) := by unfold keyA; rw [e10]; show keyT _ s10 = _; unfold keyT; rw [T.w1.sh0, k1, T.w1.n0]; show (l10.rank, _, _) = _; rw [r1]
  have kb : keyA (numM ps) (stM ps) s20.a = (b.r, 2, 0) := by unfold keyA; rw [e20]; show keyT _ s20 = _; unfold keyT; rw [T.w2.sh0, k2, T.w2.n0]; show (l20.rank, _, _) = _; rw [r2]
  have filt : [d.a, s10.a, s20.a].filter (unvT (stM ps)) = [d.a, s10.a, s20.a] := by simp [ud, u1, u2]
  have a1 := ao.r0
  have b1 := bo.r0
  have inj : ∀ x ∈ [d.a, s10.a, s20.a], ∀ y ∈ [d.a, s10.a, s20.a], keyA (numM ps) (stM ps) x = keyA (numM ps) (stM ps) y → x = y := by
    intro x hx y hy e
    simp only [List.mem_cons, List.mem_nil_iff, or_false] at hx hy
    rcases hx with rfl | rfl | rfl <;> rcases hy with rfl | rfl | rfl <;> first | rfl | (simp only [kd, ka, kb, Prod.mk.injEq] at e; omega)
  have sd : layStep (numM ps) (stM ps) 2 0 0 d.a = [(d.a, 0, 0)] := by
    have hx : ld.x = 0 := congrArg LookV.x T.d.v
    have hy : ld.y = 0 := congrArg LookV.y T.d.v
    rw [layStep_of ed T.d.sh, T.d.parts, List.map_nil, layT_nil, hx, hy]
    rfl
  have s1 := lay_win (num := numM ps) T.w1 e10 e11
  have s2 := lay_win (num := numM ps) T.w2 e20 e21
  have sw : ∀ x ∈ [d.a, s20.a, s10.a], x ∈ [d.a, s10.a, s20.a] := fun x hx => by
    simp only [List.mem_cons, List.mem_nil_iff, or_false] at hx ⊢
    rcases hx with h | h | h
    · exact .inl h
    · exact .inr (.inr h)
    · exact .inr (.inl h)
  unfold laidM
  rw [roots, layT_succ]
  by_cases c : b.r < a.r
  · rw [if_pos c, ordT_eq (num := numM ps) (st := stM ps) (bs := [d.a, s20.a, s10.a]) (by rw [filt]; exact List.Perm.cons _ (List.Perm.swap _ _ _)) (by
      simp only [List.pairwise_cons, List.mem_cons, List.mem_nil_iff, or_false, forall_eq_or_imp, forall_eq, kd, ka, kb, leO_iff, ltO]
      refine ⟨⟨by omega, by omega⟩, by omega, by simp⟩) (fun x hx y hy => inj x (sw x hx) y (sw y hy))]
    simp only [List.flatMap_cons, List.flatMap_nil, sd, s1, s2, List.append_nil]
    rfl
  · rw [if_neg c, ordT_eq (num := numM ps) (st := stM ps) (bs := [d.a, s10.a, s20.a]) (by rw [filt]) (by
      simp only [List.pairwise_cons, List.mem_cons, List.mem_nil_iff, or_false, forall_eq_or_imp, forall_eq, kd, ka, kb, leO_iff, ltO]
      refine ⟨⟨by omega, by omega⟩, by omega, by simp⟩) inj]
    simp only [List.flatMap_cons, List.flatMap_nil, sd, s1, s2, List.append_nil]
    rfl
end SH
set_option Elab.async false
set_option linter.all false
set_option maxRecDepth 100000
namespace SH
open PySem PySem.Spec PyProof.Rows L2
def gridA {α : Type} (f : Nat → Nat → α) : List (List α) := (List.range 8).map fun y => (List.range 12).map fun x => f y x
theorem gridA_congr {α : Type} {f g : Nat → Nat → α} (h : ∀ y x, y < 8 → x < 12 → f y x = g y x) : gridA f = gridA g := by
  unfold gridA
  refine List.map_congr_left fun y hy => List.map_congr_left fun x hx => h y x (List.mem_range.mp hy) (List.mem_range.mp hx)
theorem paint_grid {α : Type} {q : Nat → Nat → Option α} {rs : List (Addr × List α)} {f : Nat → Nat → α} (h : rs.map (·.2) = gridA f) : (paintG q rs).map (·.2) = gridA fun y x => (q y x).getD (f y x) := by
  apply List.ext_getElem?
  intro n
  have hn := congrArg (·[n]?) h
  simp only [List.getElem?_map] at hn
  unfold paintG gridA at *
  rw [List.getElem?_map, List.getElem?_mapIdx, List.getElem?_map]
  rw [List.getElem?_map] at hn
  cases er : rs[n]? with
  | none =>
    rw [er] at hn
    cases e8 : (List.range 8)[n]? with
    | none => rfl
    | some m => rw [e8] at hn; cases hn
  | some r =>
    rw [er] at hn
    cases e8 : (List.range 8)[n]? with
    | none => rw [e8] at hn; cases hn
    | some m =>
      rw [e8] at hn
      have hm : m = n := by
        obtain ⟨h2, h3⟩ := List.getElem?_eq_some_iff.mp e8
        rw [List.getElem_range] at h3; exact h3.symm
      subst hm
      have hr : r.2 = (List.range 12).map fun x => f m x := Option.some.inj hn
      show some (r.2.mapIdx fun i c => (q m i).getD c) = some ((List.range 12).map fun x => (q m x).getD (f m x))
      rw [hr]
      congr 1
structure GridF (s : ScrH) (fm : Nat → Nat → Int) : Prop where
  w : s.wide = 12
  h : s.high = 8
  m : s.rows.map (·.2) = gridA fm
theorem gridF_paint {lk : Addr → Option LookM} {s : ScrH} {fm : Nat → Nat → Int} (g : GridF s fm) {a : Addr} {x y : Int} {l : LookM} (e : lk a = some l) : GridF (paint1 lk s (a, x, y)) fun j i => (stampQ l.marks l.wide l.high x y 12 8 j i).getD (fm j i) := by
  unfold paint1
  simp only [e]
  refine ⟨g.w, g.h, ?_⟩
  show (paintG _ s.rows).map (·.2) = _
  rw [g.w, g.h]
  exact paint_grid g.m
theorem src_paint {lk : Addr → Option LookM} {s : ScrH} {fs : Nat → Nat → V} (hw : s.wide = 12) (hh : s.high = 8) (g : s.srows.map (·.2) = gridA fs) {a : Addr} {x y : Int} {l : LookM} (e : lk a = some l) : (paint1 lk s (a, x, y)).srows.map (·.2) = gridA fun j i => ((stampQ l.marks l.wide l.high x y 12 8 j i).map fun _ => V.ref a).getD (fs j i) := by
  unfold paint1
  simp only [e]
  show (paintG _ s.srows).map (·.2) = _
  rw [hw, hh]
  exact paint_grid g
theorem stamp_desk {l : LookM} (e : l.v = deskL) {j i : Nat} (hj : j < 8) (hi : i < 12) : stampQ l.marks l.wide l.high 0 0 12 8 j i = if j = 7 then none else some 9 := by
  have em : l.marks = deskL.marks := congrArg LookV.marks e
  have ew : l.wide = 12 := congrArg LookV.wide e
  have eh : l.high = 8 := congrArg LookV.high e
  have mk : markAt deskL.marks ((i : Int) - 0) ((j : Int) - 0) = if j = 7 then 0 else 9 := by
    unfold markAt deskL
    rw [Int.sub_zero, Int.sub_zero, Int.toNat_natCast, Int.toNat_natCast]
    simp only [List.getD_eq_getElem?_getD, List.getElem?_map, List.getElem?_range hj, Option.map_some, Option.getD_some, List.getElem?_range hi]
  unfold stampQ
  rw [em, ew, eh, mk]
  by_cases c : j = 7
  · rw [if_neg (by simp [c]), if_pos c]
  · simp only [c, if_false]
    rw [if_pos (by omega)]
theorem stamp_win {k x y r : Int} {l : LookM} (e : l.v = winL k x y r) (hk : k ≠ 0) {lx ty : Int} {j i : Nat} (hj : j < 8) (hi : i < 12) : stampQ l.marks l.wide l.high lx ty 12 8 j i = if inW lx ty j i then some k else none := by
  have em : l.marks = List.replicate 3 (List.replicate 4 k) := congrArg LookV.marks e
  have ew : l.wide = 4 := congrArg LookV.wide e
  have eh : l.high = 3 := congrArg LookV.high e
  unfold stampQ
  rw [em, ew, eh]
  by_cases c : inW lx ty j i
  · have mk : markAt (List.replicate 3 (List.replicate 4 k)) ((i : Int) - lx) ((j : Int) - ty) = k := by
      unfold inW at c
      unfold markAt
      have h1 : (List.replicate 3 (List.replicate 4 k)).getD ((j : Int) - ty).toNat [] = List.replicate 4 k := by
        rw [List.getD_eq_getElem?_getD, List.getElem?_replicate, if_pos (by omega)]; rfl
      rw [h1]
      rw [List.getD_eq_getElem?_getD, List.getElem?_replicate, if_pos (by omega)]
      rfl
    rw [mk, if_pos c]
    unfold inW at c
    rw [if_pos (by omega)]
  · rw [if_neg c]
    unfold inW at c
    rw [if_neg (by omega)]
def inB' (lx ty : Int) (j i : Nat) : Prop := (i : Int) - lx = 2 ∧ (j : Int) - ty = 1
instance (lx ty : Int) (j i : Nat) : Decidable (inB' lx ty j i) := by unfold inB'; infer_instance
theorem stamp_but {k : Int} {l : LookM} (e : l.v = butL k) (hk : k + 4 ≠ 0) {lx ty : Int} {j i : Nat} (hj : j < 8) (hi : i < 12) : stampQ l.marks l.wide l.high (lx + 2) (ty + 1) 12 8 j i = if inB' lx ty j i then some (k + 4) else none := by
  have em : l.marks = [[k + 4]] := congrArg LookV.marks e
  have ew : l.wide = 1 := congrArg LookV.wide e
  have eh : l.high = 1 := congrArg LookV.high e
  unfold stampQ
  rw [em, ew, eh]
  by_cases c : inB' lx ty j i
  · have mk : markAt [[k + 4]] ((i : Int) - (lx + 2)) ((j : Int) - (ty + 1)) = k + 4 := by
      unfold inB' at c
      rw [show (i : Int) - (lx + 2) = 0 by omega, show (j : Int) - (ty + 1) = 0 by omega]
      rfl
    rw [mk, if_pos c]
    unfold inB' at c
    rw [if_pos (by omega)]
  · rw [if_neg c]
    unfold inB' at c
    rw [if_neg (by omega)]
def fmW (f : Nat → Nat → Int) (w : Int × Int × Int) (y x : Nat) : Int := if inW w.2.1 w.2.2 y x then mkW w.1 w.2.1 w.2.2 y x else f y x
def fsW (f : Nat → Nat → V) (p q : Addr) (w : Int × Int × Int) (y x : Nat) : V := if inB' w.2.1 w.2.2 y x then .ref q else if inW w.2.1 w.2.2 y x then .ref p else f y x
def desk0I (y x : Nat) : Int := if y = 7 then 0 else 9
def src0 (d : Addr) (y x : Nat) : V := if y = 7 then .non else .ref d
def knI (a b : Spot) : Nat → Nat → Int := (wOrd a b).foldl fmW desk0I
theorem knI_M (a b : Spot) (y x : Nat) : knM a b y x = .int (knI a b y x) := by
  have st : ∀ (ws : List (Int × Int × Int)) (f : Nat → Nat → V) (g : Nat → Nat → Int), (∀ y x, f y x = .int (g y x)) → ∀ y x, ws.foldl stM' f y x = .int (ws.foldl fmW g y x) := by
    intro ws
    induction ws with
    | nil => intro f g h; exact h
    | cons w ws ih =>
      intro f g h
      refine ih _ _ fun y x => ?_
      unfold stM' fmW
      split
      · rfl
      · exact h y x
  refine st _ _ _ (fun y x => ?_) y x
  unfold desk0 desk0I
  split <;> rfl
theorem win_paint {lk : Addr → Option LookM} {s : ScrH} {fm : Nat → Nat → Int} (g : GridF s fm) {k x y r : Int} {s0 s1 : SurfR} {l0 l1 : LookM} (W : WinS k x y r s0 s1 l0 l1) (hk : 1 ≤ k) (e0 : lk s0.a = some l0) (e1 : lk s1.a = some l1) :
    GridF ((win2 s0.a s1.a x y).foldl (paint1 lk) s) (fmW fm (k, x, y)) ∧ ∀ fs, s.srows.map (·.2) = gridA fs → ((win2 s0.a s1.a x y).foldl (paint1 lk) s).srows.map (·.2) = gridA (fsW fs s0.a s1.a (k, x, y)) := by
  have g1 := gridF_paint (lk := lk) (x := x) (y := y) g e0
  have g2 := gridF_paint (lk := lk) (x := x + 2) (y := y + 1) g1 e1
  refine ⟨⟨g2.w, g2.h, ?_⟩, fun fs hs => ?_⟩
  · refine g2.m.trans (gridA_congr fun j i hj hi => ?_)
    rw [stamp_but W.v1 (by omega) hj hi, stamp_win W.v0 (by omega) hj hi]
    unfold fmW mkW
    by_cases c : inB' x y j i
    · rw [if_pos c]
      have c2 : inW x y j i := by unfold inB' at c; unfold inW; omega
      simp only [c2, if_true]
      unfold inB' at c
      simp only [c.1, c.2]
      rfl
    · rw [if_neg c]
      by_cases c2 : inW x y j i
      · simp only [c2, if_true]
        unfold inB' at c
        rw [if_neg c]
        simp
      · simp only [c2, if_false]; rfl
  · have h1 := src_paint (lk := lk) (x := x) (y := y) g.w g.h hs e0
    have h2 := src_paint (lk := lk) (x := x + 2) (y := y + 1) g1.w g1.h h1 e1
    refine h2.trans (gridA_congr fun j i hj hi => ?_)
    rw [stamp_but W.v1 (by omega) hj hi, stamp_win W.v0 (by omega) hj hi]
    unfold fsW
    by_cases c : inB' x y j i
    · simp only [c, if_true]; rfl
    · simp only [c, if_false]
      by_cases c2 : inW x y j i
      · simp only [c2, if_true]; rfl
      · simp only [c2, if_false]; rfl
def srcF (a b : Spot) (d s10 s11 s20 s21 : Addr) : Nat → Nat → V := if b.r < a.r then fsW (fsW (src0 d) s20 s21 (2, b.x, b.y)) s10 s11 (1, a.x, a.y) else fsW (fsW (src0 d) s10 s11 (1, a.x, a.y)) s20 s21 (2, b.x, b.y)
theorem rep_grid {α : Type} {rs : List (Addr × List α)} {c : α} (hl : rs.length = 8) (h : ∀ r ∈ rs, r.2 = List.replicate 12 c) : rs.map (·.2) = gridA fun _ _ => c := by
  apply List.ext_getElem?
  intro n
  unfold gridA
  rw [List.getElem?_map, List.getElem?_map]
  by_cases hn : n < 8
  · rw [List.getElem?_range hn, List.getElem?_eq_getElem (by omega)]
    show some (rs[n]).2 = some _
    rw [h _ (List.getElem_mem _)]
    rfl
  · rw [List.getElem?_eq_none (by omega), List.getElem?_eq_none (by simp; omega)]
    rfl
theorem three_paint {a b : Spot} {ps : Ps} {c0 c1 c2 : CliH} {d s10 s11 s20 s21 : SurfR} {ld l10 l11 l20 l21 : LookM} (T : Three a b ps c0 c1 c2 d s10 s11 s20 s21 ld l10 l11 l20 l21) (w : PsW ps) (nd : ((surfs ps).map (·.a)).Nodup) (nc : (ps.map (·.1.a)).Nodup) (ao : a.ok) (bo : b.ok)
    {s0 : ScrH} (n0 : NWf s0) (hw : s0.wide = 12) (hh : s0.high = 8) (hz : ∀ r ∈ s0.rows, r.2 = List.replicate 12 0) :
    msOf (paintAll (lkM ps) s0 (laidM ps)).rows = gridA (knI a b) ∧ ((∀ r ∈ s0.srows, r.2 = List.replicate 12 V.non) → (paintAll (lkM ps) s0 (laidM ps)).srows.map (·.2) = gridA (srcF a b d.a s10.a s11.a s20.a s21.a)) := by
  have hps := T.ps
  have m0 : ((c0, [d]) : CliH × List SurfR) ∈ ps := by rw [hps]; simp
  have m1 : ((c1, [s10, s11]) : CliH × List SurfR) ∈ ps := by rw [hps]; simp
  have m2 : ((c2, [s20, s21]) : CliH × List SurfR) ∈ ps := by rw [hps]; simp
  have lk : ∀ {p : CliH × List SurfR} {s : SurfR} {l : LookM}, p ∈ ps → s ∈ p.2 → s.shown = some l → lkM ps s.a = some l := fun hp hs e => by
    unfold lkM
    rw [stM_mem nd hp hs]; exact e
  have ed := lk m0 (show d ∈ [d] by simp) T.d.sh
  have e10 := lk m1 (show s10 ∈ [s10, s11] by simp) T.w1.sh0
  have e11 := lk m1 (show s11 ∈ [s10, s11] by simp) T.w1.sh1
  have e20 := lk m2 (show s20 ∈ [s20, s21] by simp) T.w2.sh0
  have e21 := lk m2 (show s21 ∈ [s20, s21] by simp) T.w2.sh1
  have rl : s0.rows.length = 8 := by have := n0.rl; omega
  have sl : s0.srows.length = 8 := by have := n0.sl; omega
  have g0 : GridF s0 fun _ _ => 0 := ⟨hw, hh, rep_grid rl hz⟩
  have g1 := gridF_paint (lk := lkM ps) (x := 0) (y := 0) g0 ed
  have g1 : GridF (paint1 (lkM ps) s0 (d.a, 0, 0)) desk0I := ⟨g1.w, g1.h, g1.m.trans (gridA_congr fun j i hj hi => by
    rw [stamp_desk T.d.v hj hi]
    unfold desk0I
    split <;> rfl)⟩
  have gs1 : (∀ r ∈ s0.srows, r.2 = List.replicate 12 V.non) → (paint1 (lkM ps) s0 (d.a, 0, 0)).srows.map (·.2) = gridA (src0 d.a) := fun hs => by
    refine (src_paint (lk := lkM ps) (x := 0) (y := 0) hw hh (rep_grid sl hs) ed).trans (gridA_congr fun j i hj hi => ?_)
    rw [stamp_desk T.d.v hj hi]
    unfold src0
    split <;> rfl
  rw [three_laid T w nd nc ao bo]
  unfold paintAll
  rw [List.foldl_cons]
  generalize paint1 (lkM ps) s0 (d.a, 0, 0) = s1 at g1 gs1 ⊢
  unfold knI wOrd srcF
  by_cases c : b.r < a.r
  · simp only [c, if_true]
    rw [List.foldl_append]
    obtain ⟨g2, h2⟩ := win_paint (lk := lkM ps) g1 T.w2 (by decide) e20 e21
    obtain ⟨g3, h3⟩ := win_paint (lk := lkM ps) g2 T.w1 (by decide) e10 e11
    exact ⟨g3.m, fun hs => h3 _ (h2 _ (gs1 hs))⟩
  · simp only [c, if_false]
    rw [List.foldl_append]
    obtain ⟨g2, h2⟩ := win_paint (lk := lkM ps) g1 T.w1 (by decide) e10 e11
    obtain ⟨g3, h3⟩ := win_paint (lk := lkM ps) g2 T.w2 (by decide) e20 e21
    exact ⟨g3.m, fun hs => h3 _ (h2 _ (gs1 hs))⟩
end SH
set_option Elab.async false
set_option linter.all false
set_option maxRecDepth 100000
namespace SH
open PySem PySem.Spec PyProof.Rows L2
theorem three_nd {a b : Spot} {ps : Ps} {c0 c1 c2 : CliH} {d s10 s11 s20 s21 : SurfR} {ld l10 l11 l20 l21 : LookM} (T : Three a b ps c0 c1 c2 d s10 s11 s20 s21 ld l10 l11 l20 l21) (nd : ((surfs ps).map (·.a)).Nodup) : [d.a, s10.a, s11.a, s20.a, s21.a].Nodup := by
  rw [T.ps] at nd
  exact nd
theorem reck_m {a b : Spot} (ao : a.ok) (bo : b.ok) : ReckM 3 (booksZ a b) 12 8 (gridA (knI a b)) := by
  intro ps hl w nd nc h
  obtain ⟨c0, c1, c2, d, s10, s11, s20, s21, ld, l10, l11, l20, l21, T⟩ := three_of hl w h
  have hn := three_nd T nd
  have el := three_laid T w nd nc ao bo
  refine ⟨?_, ?_, fun s0 n0 hw hh hz => (three_paint T w nd nc ao bo n0 hw hh (fun r hr => hz r hr)).1⟩
  · have := ao.x0; have := ao.x1; have := ao.y0; have := ao.y1
    have := bo.x0; have := bo.x1; have := bo.y0; have := bo.y1
    rw [el]
    intro q hq
    have : q = (d.a, 0, 0) ∨ q = (s10.a, a.x, a.y) ∨ q = (s11.a, a.x + 2, a.y + 1) ∨ q = (s20.a, b.x, b.y) ∨ q = (s21.a, b.x + 2, b.y + 1) := by
      split at hq <;> simp only [win2, List.mem_cons, List.mem_append, List.mem_nil_iff, or_false] at hq <;> rcases hq with h | (h | h) | (h | h) <;> simp [h]
    rcases this with rfl | rfl | rfl | rfl | rfl <;> refine ⟨?_, ?_, ?_, ?_⟩ <;> simp only <;> omega
  · rw [el]
    split
    · show [d.a, s20.a, s21.a, s10.a, s11.a].Nodup
      have p : [d.a, s10.a, s11.a, s20.a, s21.a].Perm [d.a, s20.a, s21.a, s10.a, s11.a] := List.Perm.cons _ (List.perm_append_comm (l₁ := [s10.a, s11.a]) (l₂ := [s20.a, s21.a]))
      exact p.nodup_iff.mp hn
    · exact hn
/-- what is seen at a cell, and what the law says of it -/
def SrcOk (ps : Ps) (a b : Spot) (v : V) (m : Int) (o : V) : Prop := ∃ sa who, v = oref sa ∧ AtS ps sa who ∧ match who with
  | none => o = .non
  | some (j, u) => u.there = true ∧ j < 3 ∧ o = .int (j : Nat) ∧ (j ≠ 0 → u.name = (if 4 < m then 1 else 0) ∧ ∃ sp : Spot, (if j = 1 then a else b) = sp ∧ u.lx = sp.x + 2 * u.name ∧ u.ly = sp.y + u.name)
theorem src_step {ps : Ps} {a b sp : Spot} {k : Nat} {c : CliH} {u0 u1 : SurfR} (hk : k = 1 ∨ k = 2) (hsp : (if k = 1 then a else b) = sp) (L0 : Loc ps u0.a k 0 c [u0, u1] u0) (L1 : Loc ps u1.a k 1 c [u0, u1] u1) (t0 : u0.there = true) (t1 : u1.there = true) (n0 : u0.name = 0) (n1 : u1.name = 1)
    (x0 : u0.lx = sp.x) (y0 : u0.ly = sp.y) (x1 : u1.lx = sp.x + 2) (y1 : u1.ly = sp.y + 1) {fs fo : Nat → Nat → V} {fm : Nat → Nat → Int} {y x : Nat} (h : SrcOk ps a b (fs y x) (fm y x) (fo y x)) :
    SrcOk ps a b (fsW fs u0.a u1.a ((k : Int), sp.x, sp.y) y x) (fmW fm ((k : Int), sp.x, sp.y) y x) (stO' fo ((k : Int), sp.x, sp.y) y x) := by
  have hk3 : k < 3 := by omega
  by_cases cb : inB' sp.x sp.y y x
  · have cw : inW sp.x sp.y y x := by unfold inB' at cb; unfold inW; omega
    refine ⟨some u1.a, some (k, u1), ?_, ⟨1, c, _, L1⟩, t1, hk3, ?_, fun _ => ⟨?_, sp, hsp, ?_, ?_⟩⟩
    · unfold fsW; simp only [cb, if_true]; rfl
    · unfold stO'; simp only [cw, if_true]
    · unfold fmW; simp only [cw, if_true]
      unfold mkW
      unfold inB' at cb
      rw [if_pos cb, n1, if_pos (by omega)]
    · rw [x1, n1]; omega
    · rw [y1, n1]
  · by_cases cw : inW sp.x sp.y y x
    · refine ⟨some u0.a, some (k, u0), ?_, ⟨0, c, _, L0⟩, t0, hk3, ?_, fun _ => ⟨?_, sp, hsp, ?_, ?_⟩⟩
      · unfold fsW; simp only [cb, cw, if_true, if_false]; rfl
      · unfold stO'; simp only [cw, if_true]
      · unfold fmW; simp only [cw, if_true]
        unfold mkW
        unfold inB' at cb
        rw [if_neg cb, n0, if_neg (by omega)]
      · rw [x0, n0]; omega
      · rw [y0, n0]; omega
    · have e1 : fsW fs u0.a u1.a ((k : Int), sp.x, sp.y) y x = fs y x := by unfold fsW; simp only [cb, cw, if_false]
      have e2 : fmW fm ((k : Int), sp.x, sp.y) y x = fm y x := by unfold fmW; simp only [cw, if_false]
      have e3 : stO' fo ((k : Int), sp.x, sp.y) y x = fo y x := by unfold stO'; simp only [cw, if_false]
      rw [e1, e2, e3]; exact h
def There (ps : Ps) : Prop := ∀ p ∈ ps, ∀ s ∈ p.2, s.there = true
theorem beat_one {ps ps' : Ps} {n : Nat} (bp : BeatP ps ps' n) {j : Nat} {c : CliH} {s : SurfR} (e : ps[j]? = some (c, [s])) : ∃ c' u, ps'[j]? = some (c', [u]) ∧ core u = core s ∧ c'.a = c.a := by
  obtain ⟨p', e', r⟩ := bp.2 j _ e
  have h : p'.2.map core = [core s] := r.s
  have hl : p'.2.length = 1 := by have := congrArg List.length h; simpa using this
  obtain ⟨u, eu⟩ := one_of hl
  obtain ⟨ns, ec, _⟩ := r.c
  rw [eu] at h
  exact ⟨p'.1, u, by rw [e', ← eu], (List.cons.inj h).1, by rw [ec]⟩
theorem beat_two {ps ps' : Ps} {n : Nat} (bp : BeatP ps ps' n) {j : Nat} {c : CliH} {s t : SurfR} (e : ps[j]? = some (c, [s, t])) : ∃ c' u v, ps'[j]? = some (c', [u, v]) ∧ core u = core s ∧ core v = core t ∧ c'.a = c.a := by
  obtain ⟨p', e', r⟩ := bp.2 j _ e
  have h : p'.2.map core = [core s, core t] := r.s
  have hl : p'.2.length = 2 := by have := congrArg List.length h; simpa using this
  obtain ⟨u, v, eu⟩ := two_of hl
  obtain ⟨ns, ec, _⟩ := r.c
  rw [eu] at h
  exact ⟨p'.1, u, v, by rw [e', ← eu], (List.cons.inj h).1, (List.cons.inj (List.cons.inj h).2).1, by rw [ec]⟩
theorem core_fld {β : Type} {u s : SurfR} (e : core u = core s) (g : SurfR → β) (hg : ∀ s, g (core s) = g s) : g u = g s := by rw [← hg u, e, hg]
theorem seen_ok {a b : Spot} {ps ps' : Ps} {c0 c1 c2 : CliH} {d s10 s11 s20 s21 : SurfR} {ld l10 l11 l20 l21 : LookM} (T : Three a b ps c0 c1 c2 d s10 s11 s20 s21 ld l10 l11 l20 l21) (w : PsW ps) (nd : ((surfs ps).map (·.a)).Nodup) (nc : (ps.map (·.1.a)).Nodup) (ao : a.ok) (bo : b.ok) (th : There ps)
    {n : Nat} (bp : BeatP ps ps' n) (la : LaidAt ps' (laidM ps)) {s : ScrH} (hs : s.srows.map (·.2) = gridA (srcF a b d.a s10.a s11.a s20.a s21.a)) : SeenOk ps' s a b := by
  have hps := T.ps
  have m0 : ps[0]? = some (c0, [d]) := by rw [hps]; rfl
  have m1 : ps[1]? = some (c1, [s10, s11]) := by rw [hps]; rfl
  have m2 : ps[2]? = some (c2, [s20, s21]) := by rw [hps]; rfl
  obtain ⟨c0', d', e0, k0, a0⟩ := beat_one bp m0
  obtain ⟨c1', u0, u1, e1, k10, k11, a1⟩ := beat_two bp m1
  obtain ⟨c2', v0, v1, e2, k20, k21, a2⟩ := beat_two bp m2
  have fa : ∀ {u s : SurfR}, core u = core s → u.a = s.a := fun e => core_fld e (·.a) (fun _ => rfl)
  have fo : ∀ {u s : SurfR}, core u = core s → u.owner = s.owner := fun e => core_fld e (·.owner) (fun _ => rfl)
  have fn : ∀ {u s : SurfR}, core u = core s → u.name = s.name := fun e => core_fld e (·.name) (fun _ => rfl)
  have ft : ∀ {u s : SurfR}, core u = core s → u.there = s.there := fun e => core_fld e (·.there) (fun _ => rfl)
  have q0 := List.mem_of_getElem? m0
  have q1 := List.mem_of_getElem? m1
  have q2 := List.mem_of_getElem? m2
  have L0 : Loc ps' d'.a 0 0 c0' [d'] d' := ⟨e0, rfl, rfl, by rw [fo k0, a0]; exact (w _ q0).1.ow d (by simp)⟩
  have L10 : Loc ps' u0.a 1 0 c1' [u0, u1] u0 := ⟨e1, rfl, rfl, by rw [fo k10, a1]; exact (w _ q1).1.ow s10 (by simp)⟩
  have L11 : Loc ps' u1.a 1 1 c1' [u0, u1] u1 := ⟨e1, rfl, rfl, by rw [fo k11, a1]; exact (w _ q1).1.ow s11 (by simp)⟩
  have L20 : Loc ps' v0.a 2 0 c2' [v0, v1] v0 := ⟨e2, rfl, rfl, by rw [fo k20, a2]; exact (w _ q2).1.ow s20 (by simp)⟩
  have L21 : Loc ps' v1.a 2 1 c2' [v0, v1] v1 := ⟨e2, rfl, rfl, by rw [fo k21, a2]; exact (w _ q2).1.ow s21 (by simp)⟩
  have td : d'.there = true := by rw [ft k0]; exact th _ q0 d (by simp)
  have t10 : u0.there = true := by rw [ft k10]; exact th _ q1 s10 (by simp)
  have t11 : u1.there = true := by rw [ft k11]; exact th _ q1 s11 (by simp)
  have t20 : v0.there = true := by rw [ft k20]; exact th _ q2 s20 (by simp)
  have t21 : v1.there = true := by rw [ft k21]; exact th _ q2 s21 (by simp)
  have el := three_laid T w nd nc ao bo
  have pos : ∀ q, q ∈ [(s10.a, a.x, a.y), (s11.a, a.x + 2, a.y + 1), (s20.a, b.x, b.y), (s21.a, b.x + 2, b.y + 1)] → q ∈ laidM ps := by
    intro q hq
    rw [el]
    simp only [List.mem_cons, List.mem_nil_iff, or_false] at hq
    split <;> simp only [win2, List.mem_cons, List.mem_append, List.mem_nil_iff, or_false] <;> rcases hq with h | h | h | h <;> simp [h]
  have p1 := List.mem_of_getElem? e1
  have p2 := List.mem_of_getElem? e2
  obtain ⟨x10, y10⟩ := la _ (pos (s10.a, a.x, a.y) (by simp)) _ p1 u0 (by simp) (fa k10)
  obtain ⟨x11, y11⟩ := la _ (pos (s11.a, a.x + 2, a.y + 1) (by simp)) _ p1 u1 (by simp) (fa k11)
  obtain ⟨x20, y20⟩ := la _ (pos (s20.a, b.x, b.y) (by simp)) _ p2 v0 (by simp) (fa k20)
  obtain ⟨x21, y21⟩ := la _ (pos (s21.a, b.x + 2, b.y + 1) (by simp)) _ p2 v1 (by simp) (fa k21)
  have base : ∀ y x, SrcOk ps' a b (src0 d.a y x) (desk0I y x) (own0 y x) := by
    intro y x
    by_cases c : y = 7
    · exact ⟨none, none, by unfold src0; rw [if_pos c]; rfl, trivial, by unfold own0; rw [if_pos c]⟩
    · refine ⟨some d.a, some (0, d'), by unfold src0; rw [if_neg c]; rfl, ⟨0, c0', [d'], by rw [← fa k0]; exact L0⟩, td, by decide, by unfold own0; rw [if_neg c]; rfl, fun z => absurd rfl z⟩
  have st1 : ∀ {fs fo : Nat → Nat → V} {fm : Nat → Nat → Int}, (∀ y x, SrcOk ps' a b (fs y x) (fm y x) (fo y x)) → ∀ y x, SrcOk ps' a b (fsW fs s10.a s11.a (1, a.x, a.y) y x) (fmW fm (1, a.x, a.y) y x) (stO' fo (1, a.x, a.y) y x) := fun h y x => by
    rw [← fa k10, ← fa k11]
    exact src_step (k := 1) (.inl rfl) rfl L10 L11 t10 t11 ((fn k10).trans T.w1.n0) ((fn k11).trans T.w1.n1) x10 y10 x11 y11 (h y x)
  have st2 : ∀ {fs fo : Nat → Nat → V} {fm : Nat → Nat → Int}, (∀ y x, SrcOk ps' a b (fs y x) (fm y x) (fo y x)) → ∀ y x, SrcOk ps' a b (fsW fs s20.a s21.a (2, b.x, b.y) y x) (fmW fm (2, b.x, b.y) y x) (stO' fo (2, b.x, b.y) y x) := fun h y x => by
    rw [← fa k20, ← fa k21]
    exact src_step (k := 2) (.inr rfl) rfl L20 L21 t20 t21 ((fn k20).trans T.w2.n0) ((fn k21).trans T.w2.n1) x20 y20 x21 y21 (h y x)
  have all : ∀ y x, SrcOk ps' a b (srcF a b d.a s10.a s11.a s20.a s21.a y x) (knI a b y x) (knO a b y x) := by
    unfold srcF knI knO wOrd
    by_cases c : b.r < a.r
    · simp only [c, if_true]
      exact st1 (st2 base)
    · simp only [c, if_false]
      exact st2 (st1 base)
  intro y x hy hx
  obtain ⟨r, er, er2⟩ := gridV_row hs hy
  obtain ⟨sa, who, ev, hat, hw⟩ := all y x
  refine ⟨r, sa, who, er, ?_, hat, ?_⟩
  · rw [er2, List.getElem?_map, List.getElem?_range hx]
    exact congrArg some ev
  · cases who with
    | none => exact hw
    | some wj =>
      obtain ⟨j, u⟩ := wj
      obtain ⟨h1, h2, h3, h4⟩ := hw
      exact ⟨h1, h2, h3, fun z => ⟨_, knI_M a b y x, h4 z⟩⟩
end SH
set_option Elab.async false
set_option linter.all false
set_option maxRecDepth 100000
namespace SH
open PySem PySem.Spec PyProof.Rows L2
def ltD (z : Lt) : PyData := .tuple (.str z.word :: z.nums.map PyData.int)
theorem ints_shape : ∀ ns : List Int, PyData.canLayAll0 (ns.map PyData.int) = true ∧ PyData.depthAll (ns.map PyData.int) = 0
  | [] => by simp [PyData.canLayAll0, PyData.depthAll]
  | n :: ns => by
    have := ints_shape ns
    simp [PyData.canLayAll0, PyData.depthAll, PyData.canLay0, PyData.depth, this]
theorem ltD_shape (z : Lt) : (ltD z).canLay0 = true ∧ (ltD z).depth = 1 := by
  have := ints_shape z.nums
  have hw : PyData.strOk z.word = true := by cases z <;> dsimp only [Lt.word] <;> decide +kernel
  unfold ltD
  simp [PyData.canLayAll0, PyData.depthAll, PyData.canLay0, PyData.depth, this, hw]
theorem row_shape : ∀ zs : List Lt, PyData.canLayAll0 (zs.map ltD) = true ∧ PyData.depthAll (zs.map ltD) ≤ 1
  | [] => by simp [PyData.canLayAll0, PyData.depthAll]
  | z :: zs => by
    have h1 := ltD_shape z
    have h2 := row_shape zs
    simp only [List.map_cons, PyData.canLayAll0, PyData.depthAll, h1.1, h1.2, h2.1, Bool.and_self, true_and]
    omega
theorem shp_row (zs : List Lt) : SeqAt.shaped (.list (zs.map ltD)) = true := by
  have h := row_shape zs
  unfold SeqAt.shaped
  simp only [PyData.canLay0, PyData.depth, h.1, Bool.true_and, decide_eq_true_eq]
  have := h.2
  refine decide_eq_true ?_
  omega
theorem shp_left (x y z : List Lt) : SeqAt.shaped (.list [.list (x.map ltD), .list (y.map ltD), .list (z.map ltD)]) = true := by
  have h1 := row_shape x
  have h2 := row_shape y
  have h3 := row_shape z
  unfold SeqAt.shaped
  simp only [PyData.canLay0, PyData.canLayAll0, PyData.depth, PyData.depthAll, h1.1, h2.1, h3.1, Bool.and_self, Bool.true_and]
  refine decide_eq_true ?_
  omega
theorem shp_nil3 : SeqAt.shaped (.list [.list [], .list [], .list []]) = true := shp_left [] [] []
theorem eqv_left (x y z : List Lt) : PyData.eqv (.list [.list (x.map ltD), .list (y.map ltD), .list (z.map ltD)]) (.list [.list [], .list [], .list []]) = (x.isEmpty && y.isEmpty && z.isEmpty) := by
  cases x <;> cases y <;> cases z <;> simp [PyData.eqv, PyData.eqvAll]
theorem eqv_row (x : List Lt) : PyData.eqv (.list (x.map ltD)) (.list []) = x.isEmpty := by
  cases x <;> simp [PyData.eqv, PyData.eqvAll]
theorem dp_row {K : PySem.W.Frag} {H : Hp} : ∀ {ts : List Addr} {zs : List Lt}, RowAt H ts zs → DpAll K H (ts.map V.ref) (zs.map ltD)
  | [], [], .nil => .nil
  | t :: ts, z :: zs, .cons h r => .cons (Dp.tup (SqT.of h) (.cons (.str _) (dp_ints z.nums))) (dp_row r)
theorem RowAt.drop {H : Hp} : ∀ {ts : List Addr} {zs : List Lt} (n : Nat), RowAt H ts zs → RowAt H (ts.drop n) (zs.drop n)
  | _, _, 0, h => h
  | _, _, n + 1, .nil => .nil
  | _, _, n + 1, .cons _ r => RowAt.drop n r
theorem step_there {ow : Addr} {ss ss' : List SurfR} {z : Lt} (st : StepR ow ss z ss') (h : ∀ s ∈ ss, s.there = true) : ∀ s ∈ ss', s.there = true := by
  have hset : ∀ {l : List SurfR} {i : Nat} {v : SurfR}, (∀ s ∈ l, s.there = true) → v.there = true → ∀ s ∈ l.set i v, s.there = true := fun hl hv s hs => by
    rcases List.mem_or_eq_of_mem_set hs with q | q
    · exact hl s q
    · rw [q]; exact hv
  cases st with
  | make hv wf =>
    intro s hs
    rcases List.mem_append.mp hs with q | q
    · exact h s q
    · rw [List.mem_singleton.mp q]
  | @tie n o i j s t hi hj hn ho =>
    exact hset (hset h (show s.there = true from h s (List.mem_of_getElem? hi))) (show t.there = true from h t (List.mem_of_getElem? hj))
  | @«show» n i s l hi hn hv wf =>
    have h1 : ∀ x ∈ ss.set i { s with ready := some l }, x.there = true := hset h (show s.there = true from h s (List.mem_of_getElem? hi))
    unfold showSS
    dsimp only
    split
    · intro x hx
      unfold SH.readyAll at hx
      obtain ⟨y, hy, rfl⟩ := List.mem_map.mp hx
      split
      · have : y.showReady.there = y.there := by unfold SurfR.showReady; split <;> rfl
        rw [this]; exact h1 y hy
      · exact h1 y hy
    · exact h1
  | @look _ n i s l hz hw hi hn ha hv wf => exact hset h (show s.there = true from h s (List.mem_of_getElem? hi))
theorem bk_kn (bl : Addr) (bk : List (Addr × List Addr)) : bookCells bl bk = knCells bl (bk.map fun b => (b.1, b.2.map V.ref)) := by
  unfold bookCells knCells
  rw [List.map_map, List.map_map]
  rfl
theorem bk_set {H : Hp} {A B : Cells} {bl : Addr} {bk : List (Addr × List Addr)} (g : Has H (A ++ (bookCells bl bk ++ B))) {j : Nat} {b : Addr × List Addr} (e : bk[j]? = some b) (us : List Addr) : Has (upd H b.1 (.lst (us.map V.ref))) (A ++ (bookCells bl (bk.set j (b.1, us)) ++ B)) := by
  rw [bk_kn] at g
  have e' : (bk.map fun b => (b.1, b.2.map V.ref))[j]? = some (b.1, b.2.map V.ref) := by rw [List.getElem?_map, e]; rfl
  have := kn_set g e' (us.map V.ref)
  rw [bk_kn, List.map_set]
  exact this
theorem bk_mem {H : Hp} {A B : Cells} {bl : Addr} {bk : List (Addr × List Addr)} (g : Has H (A ++ (bookCells bl bk ++ B))) : H bl = some (.lst (bk.map fun b => V.ref b.1)) ∧ ∀ b ∈ bk, H b.1 = some (.lst (b.2.map V.ref)) :=
  book_row (fun c hc => List.mem_append_right _ (List.mem_append_left _ hc)) g
/-- a client that did n of its letters, and has none in its row -/
structure WSt (p : CliH × List SurfR) (k n : Nat) (zs : List Lt) : Prop where
  num : p.1.number = (k : Int)
  fal : p.1.fallen = false
  row : p.1.row = []
  notes : p.1.notes = []
  swf : SWf p.1.a p.2
  sd : p.1.sd = sdOf p.2
  view : view p.2 = runV [] (zs.take n)
  th : ∀ s ∈ p.2, s.there = true
def lefts (l0 l1 l2 : Addr) (tss : Nat → List Addr) (nn : Nat → Nat) : List (Addr × List Addr) := [(l0, (tss 0).drop (nn 0)), (l1, (tss 1).drop (nn 1)), (l2, (tss 2).drop (nn 2))]
def bump (nn : Nat → Nat) (j : Nat) (k : Nat) : Nat := if k = j then nn j + 1 else nn k
theorem lefts_bump {l0 l1 l2 : Addr} {tss : Nat → List Addr} {nn : Nat → Nat} {j : Nat} (hj : j < 3) {l : Addr} {us : List Addr} (e : (lefts l0 l1 l2 tss nn)[j]? = some (l, us)) : lefts l0 l1 l2 tss (bump nn j) = (lefts l0 l1 l2 tss nn).set j (l, (tss j).drop (nn j + 1)) := by
  have : j = 0 ∨ j = 1 ∨ j = 2 := by omega
  rcases this with rfl | rfl | rfl <;> (cases e; rfl)
theorem runOk_at : ∀ {zs : List Lt} {vs : List SurfV} {n : Nat} {z : Lt}, RunOk vs zs → zs[n]? = some z → z.ok ∧ z.soft ∧ canBeV (runV vs (zs.take n)) z = true
  | [], _, _, _, _, e => by simp at e
  | z :: zs, vs, 0, w, ⟨a, b, c, _⟩, e => by cases e; exact ⟨a, b, c⟩
  | z :: zs, vs, n + 1, w, ⟨_, _, _, d⟩, e => by
    have := runOk_at (n := n) d (by simpa using e)
    exact this
theorem runV_succ {zs : List Lt} {n : Nat} {z : Lt} (e : zs[n]? = some z) : runV [] (zs.take (n + 1)) = stepV (runV [] (zs.take n)) z := by
  unfold runV
  rw [List.take_add_one, e, List.foldl_append]; rfl
theorem books_ok {a b : Spot} (ao : a.ok) (bo : b.ok) (k : Nat) : RunOk [] (booksZ a b k) := by
  match k with
  | 0 => exact desk_ok
  | 1 => exact win_ok ⟨by decide, by decide⟩ ⟨ao.x0, ao.x1⟩ ⟨ao.y0, ao.y1⟩ ⟨ao.r0, ao.r1⟩
  | k + 2 => exact win_ok ⟨by decide, by decide⟩ ⟨bo.x0, bo.x1⟩ ⟨bo.y0, bo.y1⟩ ⟨bo.r0, bo.r1⟩
end SH
set_option Elab.async false
set_option linter.all false
set_option maxRecDepth 100000
set_option maxHeartbeats 0
namespace SH
open PySem PySem.Spec PyProof.Rows L2
abbrev sLaw : Stmt := top 49
def spNextK : Sp := fun vs H Q E => spNext vs H (fun v H' => KeepT H H' → Q v H') E
def spWinK : Sp := fun vs H Q E => spWin vs H (fun v H' => KeepT H H' → Q v H') E
theorem rd_grid {H : Hp} {l ml : Addr} {rs : List (Addr × List Int)} {mr : List (Addr × List V)} {f : Nat → Nat → Int} (hl : H l = some (.lst (rs.map fun r => V.ref r.1))) (hr : ∀ r ∈ rs, H r.1 = some (.lst (r.2.map V.int))) (hm : H ml = some (.lst (mr.map fun r => V.ref r.1))) (hq : ∀ r ∈ mr, H r.1 = some (.lst r.2))
    (e1 : rs.map (·.2) = gridA f) (e2 : mr.map (·.2) = gridV fun y x => .int (f y x)) : RD H 2 (.ref l) (.ref ml) := by
  have h1 : rs.length = 8 := by have := congrArg List.length e1; simpa [gridA] using this
  have h2 : mr.length = 8 := by have := congrArg List.length e2; simpa [gridV] using this
  refine .inr ⟨l, ml, _, _, rfl, rfl, .inr ⟨hl, hm⟩, by rw [List.length_map, List.length_map, h1, h2], by rw [List.length_map, h2]; decide, fun i x y ex ey => ?_⟩
  rw [List.getElem?_map] at ex ey
  cases er : rs[i]? with
  | none => rw [er] at ex; cases ex
  | some r =>
    cases eq : mr[i]? with
    | none => rw [eq] at ey; cases ey
    | some q =>
      rw [er] at ex
      rw [eq] at ey
      obtain rfl : V.ref r.1 = x := Option.some.inj ex
      obtain rfl : V.ref q.1 = y := Option.some.inj ey
      have hi : i < 8 := by have := (List.getElem?_eq_some_iff.mp er).1; omega
      have r2 : r.2 = (List.range 12).map fun x => f i x := by
        have := congrArg (·[i]?) e1
        simp only [List.getElem?_map, er, gridA, List.getElem?_range hi, Option.map_some] at this
        exact Option.some.inj this
      have q2 : q.2 = (List.range 12).map fun x => V.int (f i x) := by
        have := congrArg (·[i]?) e2
        simp only [List.getElem?_map, eq, gridV, List.getElem?_range hi, Option.map_some] at this
        exact Option.some.inj this
      refine .inr ⟨r.1, q.1, _, _, rfl, rfl, .inr ⟨hr r (List.mem_of_getElem? er), hq q (List.mem_of_getElem? eq)⟩, by rw [r2, q2]; simp, by rw [q2]; simp, fun j u v eu ev => ?_⟩
      rw [r2, List.map_map, List.getElem?_map] at eu
      rw [q2, List.getElem?_map] at ev
      cases e12 : (List.range 12)[j]? with
      | none => rw [e12] at eu; cases eu
      | some m =>
        rw [e12] at eu ev
        obtain rfl : V.int (f i m) = u := Option.some.inj eu
        obtain rfl : V.int (f i m) = v := Option.some.inj ev
        exact .inl ⟨_, rfl, rfl⟩
theorem hou_split (CH CD : Addr) (h : HouH) : houCells CH CD h = houA CH h ++ handCells CD (hnd h) none [] := rfl
section
variable {P : Program} {w : World} {K : PySem.W.Frag} {mg : Str → Option Value} {base : Heap}
abbrev nLaw : List Str := ["_law_script", "_law_h", "_law_desk", "_law_k", "_law_spots", "_law_books", "_law_house", "_law_left", "_law_some", "_law_marks", "_law_owners", "_law_turn", "_law_book"]
theorem scLaw : FnScope nLaw ["_law_script"] (defScope sLaw) := ⟨rfl, rfl, rfl, by decide +kernel, rfl, by decide +kernel, by decide +kernel⟩
def spLaw : Sp := fun vs H Q _ => ∃ (a : Addr) (ns : List Int), vs = [.ref a] ∧ SqL K H a (ns.map V.int) ∧ ns.length ≤ 63 ∧ ∀ H', Q (.bl true) H'
theorem ok_law {f CH CD CN CC CS CL fM fN fWi fH fJ fT fTa fB fS fKn fA fR fHd : Addr} {fd fdM fdN fdWi fdH fdJ fdT fdTa fdB fdS fdKn fdA fdR fdHd : FuncData} (F : Fun K "law" "law" sLaw f fd) (TH : TxtH K mg CH) (TK : TxtK mg)
    (GM0 : FnOk P w K mg base CX0 1 fM fdM ["_law_script", "_law_seed"] (spMix (K := K))) (bM : Binds K fdM ["_law_script", "_law_seed"] []) (gM : mg "_law_mix" = some (.ref fM)) (kM : PySem.W.keepIn K (.ref fM) = true)
    (GN0 : FnOk P w K mg base CX0 1 fN fdN ["_law_h", "_law_many"] spNext) (bN : Binds K fdN ["_law_h", "_law_many"] []) (gN : mg "_law_next" = some (.ref fN)) (kN : PySem.W.keepIn K (.ref fN) = true)
    (GWi0 : FnOk P w K mg base CX0 1 fWi fdWi ["_law_k", "_law_x", "_law_y", "_law_rank"] spWin) (bWi : Binds K fdWi ["_law_k", "_law_x", "_law_y", "_law_rank"] []) (gWi : mg "_law_window" = some (.ref fWi)) (kWi : PySem.W.keepIn K (.ref fWi) = true)
    (MkH : Mk K CH fH) (GH0 : FnOk P w K mg base CX0 4 fH fdH ["self", "wide", "high"] (spHInit CH CD CN)) (bH : Binds K fdH ["self", "wide", "high"] [])
    (GJ0 : FnOk P w K mg base CX0 3 fJ fdJ ["self"] (spHJoin CH CD CC)) (bJ : Binds K fdJ ["self"] []) (mJ : Meth K CH "join" fJ)
    (GT0 : FnOk P w K mg base CX0 4 fT fdT ["self", "client", "letter"] (spHTell CH CD CC)) (bT : Binds K fdT ["self", "client", "letter"] []) (mT : Meth K CH "tell" fT)
    (GTa0 : FnOk P w K mg base CX0 7 fTa fdTa ["self", "client"] (spHTake CH CD CC CS CL)) (bTa : Binds K fdTa ["self", "client"] []) (mTa : Meth K CH "take" fTa)
    (GB0 : FnOk P w K mg base CX0 10 fB fdB ["self"] (spHBeatM CH CD CN CC CS CL)) (bB : Binds K fdB ["self"] []) (mB : Meth K CH "beat" fB)
    (GS0 : FnOk P w K mg base CX0 1 fS fdS ["self"] (spHScreen CH CN)) (bS : Binds K fdS ["self"] []) (mS : Meth K CH "screen" fS)
    (GKn0 : FnOk P w K mg base CX0 1 fKn fdKn ["_law_spots"] spKn) (bKn : Binds K fdKn ["_law_spots"] []) (gKn : mg "_law_known" = some (.ref fKn)) (kKn : PySem.W.keepIn K (.ref fKn) = true)
    (GA : FnOk P w K mg base CX0 3 fA fdA ["_law_found", "_law_due"] (spAlike 2)) (bA : Binds K fdA ["_law_found", "_law_due"] []) (gA : mg "_law_alike" = some (.ref fA)) (kA : PySem.W.keepIn K (.ref fA) = true)
    (GR0 : FnOk P w K mg base CX0 11 fR fdR ["wide", "high", "books"] spAtRest) (bR : Binds K fdR ["wide", "high", "books"] []) (gR : mg "at_rest" = some (.ref fR)) (kR : PySem.W.keepIn K (.ref fR) = true)
    (GHd0 : FnOk P w K mg base CX0 6 fHd fdHd ["_law_house", "_law_marks", "_law_owners", "_law_spots", "_law_x", "_law_y"] (spHd CH CD CN CC CS CL)) (bHd : Binds K fdHd ["_law_house", "_law_marks", "_law_owners", "_law_spots", "_law_x", "_law_y"] []) (gHd : mg "_law_is_heard" = some (.ref fHd)) (kHd : PySem.W.keepIn K (.ref fHd) = true) :
    FnOk P w K mg base CX0 12 f fd ["_law_script"] (spLaw (K := K)) := by
  have GM := keep_t GM0
  have GN : FnOk P w K mg base CX0 1 fN fdN ["_law_h", "_law_many"] spNextK := keep_t GN0
  have GWi : FnOk P w K mg base CX0 1 fWi fdWi ["_law_k", "_law_x", "_law_y", "_law_rank"] spWinK := keep_t GWi0
  have GH := keep_t GH0
  have GJ := keep_t GJ0
  have GT := keep_t GT0
  have GTa := keep_t GTa0
  have GB := keep_t GB0
  have GS := keep_t GS0
  have GKn := keep_t GKn0
  have GR := keep_t GR0
  have GHd := keep_t GHd0
  refine F.ok scLaw (fun vs H Q E h => ?_) (fun cdv A0 outer s0 H vs Q E hr h => ?_)
  · obtain ⟨a, ns, rfl, _⟩ := h
    rfl
  · obtain ⟨a, ns, rfl, hs, hl, k⟩ := h
    have hu2 := hr.units
    refine ⟨_, (pss_cons (ps_set (i := 1) scLaw.nd rfl (Or.inr rfl) (pe_call GM (hr.mono (by decide)) rfl gM kM bM .nil pass0 (pa_cons (pv 0) (pa_cons pe_int pa_nil)))) (pss_cons (ps_set (i := 2) scLaw.nd rfl (Or.inl rfl) (pe_lst (pa_cons (pe_tup (pa_cons pe_str (pa_cons pe_int pa_nil))) (pa_cons (pe_tup (pa_cons pe_str (pa_cons pe_int (pa_cons pe_int (pa_cons pe_int pa_nil))))) (pa_cons (pe_tup (pa_cons pe_str (pa_cons pe_int (pa_cons pe_int (pa_cons pe_int (pa_cons pe_int (pa_cons pe_int (pa_cons pe_int pa_nil)))))))) (pa_cons (pe_tup (pa_cons pe_str (pa_cons pe_int (pa_cons pe_int (pa_cons pe_int (pa_cons pe_int (pa_cons pe_int (pa_cons pe_int pa_nil)))))))) (pa_cons (pe_tup (pa_cons pe_str (pa_cons pe_int pa_nil))) pa_nil))))))) (pss_cons (ps_set (i := 4) scLaw.nd rfl (Or.inr rfl) (pe_lc (own := [("_law_k", 3)]) (g := gName 3) (te := tTup (tCons (tCall spNextK [] E0 (tCons (tVar 1) (tCons (tC (.int 9)) tNil))) (tCons (tCall spNextK [] E0 (tCons (tVar 1) (tCons (tC (.int 6)) tNil))) (tCons (tOp (rI0 fun i j => V.int (i + j)) (tC (.int 1)) (tCall spNextK [] E0 (tCons (tVar 1) (tCons (tC (.int 9)) tNil)))) tNil)))) (by rfl) scLaw.nd (pi_range1 rfl TK.range (pa_cons pe_int pa_nil)) (blkOk_by (own := [("_law_k", 3)]) (N := nLaw) (sc := defScope sLaw) (by decide +kernel)) (fun _ _ _ _ _ => (pg_name (i := 3) scLaw.nd rfl (Or.inl rfl))) (fun _ _ _ _ _ => pts_nil) (fun _ _ _ _ _ => (pe_tup (pa_cons (pe_call GN (hr.mono (by decide)) rfl gN kN bN .nil pass0 (pa_cons (pv 1) (pa_cons pe_int pa_nil))) (pa_cons (pe_call GN (hr.mono (by decide)) rfl gN kN bN .nil pass0 (pa_cons (pv 1) (pa_cons pe_int pa_nil))) (pa_cons (pe_op op_add pe_int (pe_call GN (hr.mono (by decide)) rfl gN kN bN .nil pass0 (pa_cons (pv 1) (pa_cons pe_int pa_nil)))) pa_nil))))))) (pss_cons (ps_set (i := 5) scLaw.nd rfl (Or.inl rfl) (pe_op op_cat (pe_lst (pa_cons (pv 2) pa_nil)) (pe_lc (own := [("_law_k", 3)]) (g := gName 3) (te := tCall spWinK [] E0 (tCons (tOp (rI0 fun i j => V.int (i + j)) (tVar 3) (tC (.int 1))) (tCons (tOp (rIxT K) (tOp (rIxL K) (tVar 4) (tVar 3)) (tC (.int 0))) (tCons (tOp (rIxT K) (tOp (rIxL K) (tVar 4) (tVar 3)) (tC (.int 1))) (tCons (tOp (rIxT K) (tOp (rIxL K) (tVar 4) (tVar 3)) (tC (.int 2))) tNil))))) (by rfl) scLaw.nd (pi_range1 rfl TK.range (pa_cons pe_int pa_nil)) (blkOk_by (own := [("_law_k", 3)]) (N := nLaw) (sc := defScope sLaw) (by decide +kernel)) (fun _ _ _ _ _ => (pg_name (i := 3) scLaw.nd rfl (Or.inl rfl))) (fun _ _ _ _ _ => pts_nil) (fun _ _ _ _ _ => (pe_call GWi (hr.mono (by decide)) rfl gWi kWi bWi .nil pass0 (pa_cons (pe_op op_add (pv 3) pe_int) (pa_cons (pe_ix ix_tup (pe_ix ix_list (pv 4) (pv 3) (fun _ _ => rfl)) pe_int (fun _ _ => rfl)) (pa_cons (pe_ix ix_tup (pe_ix ix_list (pv 4) (pv 3) (fun _ _ => rfl)) pe_int (fun _ _ => rfl)) (pa_cons (pe_ix ix_tup (pe_ix ix_list (pv 4) (pv 3) (fun _ _ => rfl)) pe_int (fun _ _ => rfl)) pa_nil))))))))) (pss_cons (ps_set (i := 6) scLaw.nd rfl (Or.inl rfl) (pe_make MkH GH (hr.mono (by decide)) rfl TH.mgC bH .nil pass0 (pa_cons pe_int (pa_cons pe_int pa_nil)))) (pss_cons (ps_for PassesOwn.never rfl (pi_range1 rfl TK.range (pa_cons pe_int pa_nil)) (pg_name (i := 3) scLaw.nd rfl (Or.inl rfl)) (pss_one (ps_expr (pe_meth0 (pv 6) TH.cl mJ GJ (hr.mono (by decide)) bJ .nil pass0)))) (pss_cons (ps_set (i := 7) scLaw.nd rfl (Or.inr rfl) (pe_lc (own := [("_law_book", 12)]) (g := gName 12) (te := tCB (Evl.rListS K) (tCons (tVar 12) tNil)) (by rfl) scLaw.nd (pi_list (pv 5)) (blkOk_by (own := [("_law_book", 12)]) (N := nLaw) (sc := defScope sLaw) (by decide +kernel)) (fun _ _ _ _ _ => (pg_name (i := 12) scLaw.nd rfl (Or.inl rfl))) (fun _ _ _ _ _ => pts_nil) (fun _ _ _ _ _ => (pe_callTy call_list_of (by rfl) TH.list (show bootBuiltins "list" = some (.type "list") by decide +kernel) (pa_cons (pv 12) pa_nil))))) (pss_cons (ps_while PassesOwn.never (pt_cmpR (op_neD hu2) (pv 7) (pe_lst (pa_cons (pe_lst pa_nil) (pa_cons (pe_lst pa_nil) (pa_cons (pe_lst pa_nil) pa_nil)))) (nomark _)) (pss_cons (ps_setLc (i := 8) (own := [("_law_k", 3)]) (g := gName 3) (te := tVar 3) (tt := tTest (tOp (rNeD K) (tOp (rIxL K) (tVar 7) (tVar 3)) (tLst tNil))) (by rfl) scLaw.nd rfl rfl (sw_true rfl rfl rfl (by decide +kernel)) (pi_range1 rfl TK.range (pa_cons pe_int pa_nil)) (blkOk_by (own := [("_law_k", 3)]) (N := nLaw) (sc := defScope sLaw) (by decide +kernel)) (fun _ _ _ _ _ => (pg_name (i := 3) scLaw.nd rfl (Or.inl rfl))) (fun _ _ _ _ _ => pts_one (pt_cmpR (op_neD hu2) (pe_ix ix_list (pv 7) (pv 3) (fun _ _ => rfl)) (pe_lst pa_nil) (nomark _))) (fun _ _ _ _ _ => (pv 3))) (pss_cons (ps_set (i := 3) scLaw.nd rfl (Or.inl rfl) (pe_ix ix_list (pv 8) (pe_call GN (hr.mono (by decide)) rfl gN kN bN .nil pass0 (pa_cons (pv 1) (pa_cons (pe_callB call_len_seq (by rfl) TH.len PySem.boot_len (pa_cons (pv 8) pa_nil)) pa_nil))) (fun _ _ => rfl))) (pss_cons (ps_expr (pe_meth (pv 6) TH.cl mT GT (hr.mono (by decide)) bT .nil pass0 (pa_cons (pv 3) (pa_cons (pe_bm PySem.F.plainAttrs_list PySem.F.slot_list_pop PySem.F.type_list_pop mt_popAt (pe_ix ix_list (pv 7) (pv 3) (fun _ _ => rfl)) (pa_cons pe_int pa_nil)) pa_nil)))) (pss_one (ps_expr (pe_meth (pv 6) TH.cl mTa GTa (hr.mono (by decide)) bTa .nil pass0 (pa_cons (pv 3) pa_nil)))))))) (pss_cons (ps_expr (pe_meth0 (pv 6) TH.cl mB GB (hr.mono (by decide)) bB .nil pass0)) (pss_cons (ps_asg (pe_call GKn (hr.mono (by decide)) rfl gKn kKn bKn .nil pass0 (pa_cons (pv 4) pa_nil)) (pg_tup (by rfl) (pgs_cons (pg_name (i := 9) scLaw.nd rfl (Or.inl rfl)) (pgs_cons (pg_name (i := 10) scLaw.nd rfl (Or.inl rfl)) pgs_nil)))) (pss_cons (ps_if (PW.pt (pw_or (pt_not (pt_val (pe_call GA (hr.mono (by decide)) rfl gA kA bA .nil pass0 (pa_cons (pe_meth0 (pv 6) TH.cl mS GS (hr.mono (by decide)) bS .nil pass0) (pa_cons (pv 9) pa_nil))))) (pw_or1 (pt_not (pt_val (pe_call GA (hr.mono (by decide)) rfl gA kA bA .nil pass0 (pa_cons (pe_call GR hr rfl gR kR bR .nil pass0 (pa_cons pe_int (pa_cons pe_int (pa_cons (pv 5) pa_nil)))) (pa_cons (pv 9) pa_nil)))))))) (pss_one (ps_ret pe_bl)) pss_nil) (pss_cons (ps_for PassesOwn.never rfl (pi_range1 rfl TK.range (pa_cons pe_int pa_nil)) (pg_name (i := 11) scLaw.nd rfl (Or.inl rfl)) (pss_one (ps_if (pt_not (pt_val (pe_call GHd (hr.mono (by decide)) rfl gHd kHd bHd .nil pass0 (pa_cons (pv 6) (pa_cons (pv 9) (pa_cons (pv 10) (pa_cons (pv 4) (pa_cons (pe_call GN (hr.mono (by decide)) rfl gN kN bN .nil pass0 (pa_cons (pv 1) (pa_cons pe_int pa_nil))) (pa_cons (pe_call GN (hr.mono (by decide)) rfl gN kN bN .nil pass0 (pa_cons (pv 1) (pa_cons pe_int pa_nil))) pa_nil))))))))) (pss_one (ps_ret pe_bl)) pss_nil))) (pss_one (ps_ret pe_bl)))))))))))))), ?_⟩
    refine ⟨_, rfl, a, ns, 59, rfl, hs, hl, by decide, by decide, fun m H1 ok g1 _ => ?_⟩
    -- the desk
    refine ⟨small (by show 2 ≤ 1000; decide), fun q1 hq1 => ⟨small (by show 4 ≤ 1000; decide), fun q2 hq2 => ⟨small (by show 7 ≤ 1000; decide), fun q3 hq3 => ⟨small (by show 7 ≤ 1000; decide), fun q4 hq4 => ⟨small (by show 2 ≤ 1000; decide), fun q5 hq5 => ⟨small (by show 5 ≤ 1000; decide), fun dl hdl => ?_⟩⟩⟩⟩⟩⟩
    have RT : RowAt H1 [] [] := .nil
    have RT := ((((((RT.new (z := .make 5) hq1).new (z := .size 5 12 8) hq2).new (z := .paint 5 0 0 12 8 9) hq3).new (z := .paint 5 0 7 12 1 0) hq4).new (z := .show 5) hq5).same (Same.new (.lst [.ref q1, .ref q2, .ref q3, .ref q4, .ref q5]) hdl))
    have g2 := ((((((Has.past g1 hq1 (.tup (Lt.vals (.make 5)))).past hq2 (.tup (Lt.vals (.size 5 12 8)))).past hq3 (.tup (Lt.vals (.paint 5 0 0 12 8 9)))).past hq4 (.tup (Lt.vals (.paint 5 0 7 12 1 0)))).past hq5 (.tup (Lt.vals (.show 5)))).cons hdl (.lst [.ref q1, .ref q2, .ref q3, .ref q4, .ref q5]))
    obtain ⟨ts0, ets0, RT⟩ : ∃ ts0 : List Addr, ts0 = [q1, q2, q3, q4, q5] ∧ RowAt _ ts0 deskZ := ⟨_, rfl, RT⟩
    have g2 : Has _ (mixCells m ++ [(dl, HO.lst (ts0.map V.ref))]) := (Has.perm g2 (List.perm_append_comm (l₁ := [(dl, HO.lst [.ref q1, .ref q2, .ref q3, .ref q4, .ref q5])]) (l₂ := mixCells m))).re (by rw [ets0]; rfl)
    -- the spots
    refine ⟨2, rfl, by decide, by decide, fun pl hpl => ?_⟩
    refine lc_range (lo := 0) (n := (2 : Int).toNat) (fun i H => ∃ (ps : List Addr) (sps : List Spot) (m' : MixH), sps.length = i ∧ Paired (fun (t : Addr) (sp : Spot) => H t = some (.tup sp.vals)) ps sps ∧ (∀ sp ∈ sps, sp.ok) ∧ RowAt H ts0 deskZ ∧ m'.a = m.a ∧ MixOk m' ∧
      Has H (mixCells m' ++ ((pl, .lst (ps.map V.ref)) :: [(dl, .lst (ts0.map V.ref))]))) ?_ ?_ ?_
    · exact ⟨[], [], m, rfl, .nil, (fun r hr => by cases hr), RT.same (Same.new _ hpl), rfl, ok, Has.new (A := mixCells m) g2 hpl (.lst [])⟩
    · rintro i H3 hi ⟨ps, sps, m', hrl, hps, hsps, R, e0, o0, g⟩
      refine ⟨rfl, ?_⟩
      refine ⟨_, rfl, [], _, m', 9, congrArg (fun x => [V.ref x, V.int 9]) e0.symm, g, o0, by decide, by decide, fun rx m2 H4 x0 x1 e2 o2 g4 k4 => ?_⟩
      have e2 := e2.trans e0
      refine ⟨_, rfl, [], _, m2, 6, congrArg (fun x => [V.ref x, V.int 6]) e2.symm, g4, o2, by decide, by decide, fun ry m3 H5 y0 y1 e3 o3 g5 k5 => ?_⟩
      have e3 := e3.trans e2
      refine ⟨_, rfl, [], _, m3, 9, congrArg (fun x => [V.ref x, V.int 9]) e3.symm, g5, o3, by decide, by decide, fun rr m4 H6 r0 r1 e4 o4 g6 k6 => ?_⟩
      have e4 := e4.trans e3
      refine ⟨_, _, rfl, rfl, small (by show 3 ≤ 1000; decide), fun p hp => ?_⟩
      have g7 := Has.past g6 hp (.tup (Spot.vals ⟨rx, ry, 1 + rr⟩))
      have k7 := ((k4.trans k5).trans k6).trans (KeepT.same (Same.new (.tup (Spot.vals ⟨rx, ry, 1 + rr⟩)) hp))
      have hpl7 := Has.get (A := []) g7 2 rfl
      have hpsl := paired_len hps
      refine ⟨_, hpl7, ?_, ps ++ [p], sps ++ [⟨rx, ry, 1 + rr⟩], m4, by simp [hrl], ?_, ?_, R.keep (k7.trans (KeepT.lst hpl7 _)), e4, o4, ?_⟩
      · rw [List.length_map, hpsl, hrl]; exact small1000 (by omega)
      · refine paired_cat (Paired.mapP hps fun _ _ z => (k7.trans (KeepT.lst hpl7 _)) _ _ z) (.cons ((KeepT.lst hpl7 _) _ _ upd_same) .nil)
      · intro sp hsp
        rcases List.mem_append.mp hsp with h | h
        · exact hsps sp h
        · rw [List.mem_singleton.mp h]
          exact ⟨by show 0 ≤ rx; omega, by show rx ≤ 8; omega, by show 0 ≤ ry; omega, by show ry ≤ 5; omega, by show 1 ≤ 1 + rr; omega, by show 1 + rr ≤ 9; omega⟩
      · have g8 := Has.set (A := []) g7 2 (o := .lst (ps.map V.ref)) rfl (.lst (ps.map V.ref ++ [V.ref p]))
        exact g8.re (by rw [List.map_append]; rfl)
    rintro H3 ⟨ps, sps, m1, hrl, hps, hsps, RT, e0, o0, g3⟩
    have hrl : sps.length = 2 := hrl
    obtain ⟨sa, sb, rfl⟩ := two_of hrl
    obtain ⟨p0, p1, rfl⟩ := two_of ((paired_len hps).trans hrl)
    obtain ⟨hp0, hp1⟩ : H3 p0 = some (.tup sa.vals) ∧ H3 p1 = some (.tup sb.vals) := by
      cases hps with
      | cons h1 h2 =>
        cases h2 with
        | cons h3 h4 => exact ⟨h1, h3⟩
    have ao := hsps sa (by simp)
    have bo := hsps sb (by simp)
    clear hsps hps hrl hpl g1 g2 hdl hq1 hq2 hq3 hq4 hq5 ets0
    -- the books
    refine ⟨_, rfl, small (by show 1 ≤ 1000; decide), fun b0 hb0 => ?_⟩
    have g4 := Has.new (A := mixCells m1) g3 hb0 (.lst [.ref dl])
    have k4 : KeepT H3 (upd H3 b0 (.lst [.ref dl])) := KeepT.same (Same.new _ hb0)
    refine ⟨2, rfl, by decide, by decide, fun wl hwl => ?_⟩
    refine lc_range (lo := 0) (n := (2 : Int).toNat) (fun i H => KeepT H3 H ∧ ∃ ws : List (Addr × List Addr), ws.length = i ∧ (∀ (j : Nat) q, ws[j]? = some q → RowAt H q.2 (booksZ sa sb (j + 1))) ∧ Has H (bookCells wl ws ++ (mixCells m1 ++ ((b0, .lst [.ref dl]) :: (pl, .lst ([p0, p1].map V.ref)) :: [(dl, .lst (ts0.map V.ref))])))) ?_ ?_ ?_
    · exact ⟨k4.trans (KeepT.same (Same.new _ hwl)), [], rfl, (fun j q e => by simp at e), Has.cons g4 hwl (.lst [])⟩
    · rintro i H5 hi ⟨k5, ws, hwl2, hws, g5⟩
      have hi2 : i < 2 := hi
      refine ⟨rfl, ?_⟩
      have epl : H5 pl = some (.lst [.ref p0, .ref p1]) := g5.mem (by simp)
      obtain ⟨pj, sp, hpj, hsj, ez⟩ : ∃ pj sp, ([V.ref p0, V.ref p1] : List V)[i]? = some (.ref pj) ∧ H3 pj = some (.tup (Spot.vals sp)) ∧ booksZ sa sb (i + 1) = winZ (0 + (i : Int) + 1) sp.x sp.y sp.r := by
        have : i = 0 ∨ i = 1 := by omega
        rcases this with rfl | rfl
        · exact ⟨p0, sa, rfl, hp0, rfl⟩
        · exact ⟨p1, sb, rfl, hp1, rfl⟩
      have hsj := k5 _ _ hsj
      refine ⟨_, rfl, _, _, rfl, rfl, ?_⟩
      refine ⟨_, rfl, _, rfl, _, _, _, .ref pj, rfl, rfl, SqL.of epl, at_of (j := i) (by omega) hpj, _, _, _, .int sp.x, rfl, rfl, SqT.of hsj, at_of (j := 0) rfl rfl, ?_⟩
      refine ⟨_, rfl, _, rfl, _, _, _, .ref pj, rfl, rfl, SqL.of epl, at_of (j := i) (by omega) hpj, _, _, _, .int sp.y, rfl, rfl, SqT.of hsj, at_of (j := 1) rfl rfl, ?_⟩
      refine ⟨_, rfl, _, rfl, _, _, _, .ref pj, rfl, rfl, SqL.of epl, at_of (j := i) (by omega) hpj, _, _, _, .int sp.r, rfl, rfl, SqT.of hsj, at_of (j := 2) rfl rfl, ?_⟩
      refine ⟨_, _, _, _, rfl, fun l ts H6 s6 hl6 hl7 R6 k6 => ?_⟩
      have g6 := Has.add g5 hl6 s6 hl7
      have ewl : H6 wl = some (.lst (ws.map fun q => V.ref q.1)) := g6.mem (by simp [bookCells])
      have g7 : Has H6 ([(l, HO.lst (ts.map V.ref))] ++ ((wl, .lst (ws.map fun q => V.ref q.1)) :: (ws.map bkRow ++ (mixCells m1 ++ ((b0, .lst [.ref dl]) :: (pl, .lst ([p0, p1].map V.ref)) :: [(dl, .lst (ts0.map V.ref))]))))) := g6
      have g8 := Has.set (A := [(l, HO.lst (ts.map V.ref))]) g7 0 rfl (.lst ((ws.map fun q => V.ref q.1) ++ [.ref l]))
      have k8 : KeepT H6 _ := KeepT.lst ewl (.lst ((ws.map fun q => V.ref q.1) ++ [.ref l]))
      refine ⟨_, ewl, ?_, (k5.trans k6).trans k8, ws ++ [(l, ts)], by rw [List.length_append, hwl2]; rfl, fun j q eq => ?_, ?_⟩
      · rw [List.length_map, hwl2]; exact small1000 (by omega)
      · by_cases hj : j < ws.length
        · rw [List.getElem?_append_left hj] at eq
          exact (hws j q eq).keep (k6.trans k8)
        · have : j = ws.length := by
            have := (List.getElem?_eq_some_iff.mp eq).1
            simp at this; omega
          subst this
          rw [List.getElem?_append_right (Nat.le_refl _)] at eq
          simp at eq
          subst eq
          rw [hwl2, ez]
          exact R6.keep k8
      · refine Has.perm g8 ?_
        show ((l, HO.lst (ts.map V.ref)) :: (wl, HO.lst ((ws.map fun q => V.ref q.1) ++ [.ref l])) :: (ws.map bkRow ++ (mixCells m1 ++ ((b0, .lst [.ref dl]) :: (pl, .lst ([p0, p1].map V.ref)) :: [(dl, .lst (ts0.map V.ref))])))).Perm _
        unfold bookCells
        rw [List.map_append, List.map_append, List.cons_append, List.append_assoc]
        exact (List.Perm.swap _ _ _).trans (List.Perm.cons _ List.perm_middle.symm)
    rintro H5 ⟨k5, ws, hwl2, hws, g5⟩
    have hwl2 : ws.length = 2 := hwl2
    obtain ⟨⟨w1, ts1⟩, ⟨w2, ts2⟩, rfl⟩ := two_of hwl2
    have RT := RT.keep k5
    have R1 := hws 0 _ rfl
    have R2 := hws 1 _ rfl
    have hp0 := k5 _ _ hp0
    have hp1 := k5 _ _ hp1
    have eb0 : H5 b0 = some (.lst [.ref dl]) := g5.mem (by simp)
    have ewl : H5 wl = some (.lst [.ref w1, .ref w2]) := g5.mem (by simp [bookCells])
    refine ⟨b0, wl, _, _, rfl, rfl, eb0, ewl, small (by show 3 ≤ 1000; decide), fun bl hbl => ?_⟩
    rw [show ([V.ref dl] ++ [V.ref w1, V.ref w2] : List V) = [.ref dl, .ref w1, .ref w2] from rfl]
    have g6 := Has.cons g5 hbl (.lst [.ref dl, .ref w1, .ref w2])
    have k6 : KeepT H5 (upd H5 bl (.lst [.ref dl, .ref w1, .ref w2])) := KeepT.same (Same.new _ hbl)
    have g6 : Has (upd H5 bl (.lst [.ref dl, .ref w1, .ref w2])) (mixCells m1 ++ ((pl, .lst [.ref p0, .ref p1]) :: bookCells bl [(dl, ts0), (w1, ts1), (w2, ts2)])) := by
      refine (Has.perm (Has.sub g6 (L' := (bl, .lst [.ref dl, .ref w1, .ref w2]) :: (w1, .lst (ts1.map V.ref)) :: (w2, .lst (ts2.map V.ref)) :: (mixCells m1 ++ ((pl, .lst [.ref p0, .ref p1]) :: [(dl, .lst (ts0.map V.ref))]))) ?_) ?_)
      · refine List.Sublist.cons₂ _ (List.Sublist.cons _ (List.Sublist.cons₂ _ (List.Sublist.cons₂ _ ?_)))
        exact List.Sublist.append_left (List.sublist_cons_self _ _) _
      · unfold bookCells
        classical
        exact List.perm_iff_count.mpr fun c => by simp only [List.count_append, List.count_cons, List.count_nil, List.map_cons, List.map_nil, bkRow]; omega
    have RT := RT.keep k6
    have R1 := R1.keep k6
    have R2 := R2.keep k6
    have hp0 := k6 _ _ hp0
    have hp1 := k6 _ _ hp1
    generalize upd H5 bl (.lst [.ref dl, .ref w1, .ref w2]) = H6 at g6 RT R1 R2 hp0 hp1 ⊢
    clear k6 k5 k4 g5 g4 g3 eb0 ewl hws hwl2 hbl hwl hb0
    obtain ⟨tss, et0, et1, et2⟩ : ∃ tss : Nat → List Addr, tss 0 = ts0 ∧ tss 1 = ts1 ∧ tss 2 = ts2 := ⟨fun k => match k with | 0 => ts0 | 1 => ts1 | _ => ts2, rfl, rfl, rfl⟩
    have RB : ∀ j, j < 3 → RowAt H6 (tss j) (booksZ sa sb j) := fun j hj => by
      have : j = 0 ∨ j = 1 ∨ j = 2 := by omega
      rcases this with rfl | rfl | rfl
      · rw [et0]; exact RT
      · rw [et1]; exact R1
      · rw [et2]; exact R2
    -- the house
    intro hx dx nx ndx nex
    generalize hO : ((pl, HO.lst [.ref p0, .ref p1]) :: bookCells bl [(dl, ts0), (w1, ts1), (w2, ts2)]) = O at g6
    have gm := Has.made (A := mixCells m1 ++ O) (B := []) (by rw [List.append_nil]; exact g6) nx ndx nex (C := CH)
    have km : KeepT H6 (upd (upd H6 dx (.own hx)) hx (.ins CH dx [])) := KeepT.same ((Same.new _ ndx).trans (Same.new _ (by rw [upd_ne nex.symm]; exact nx)))
    refine ⟨_, [], hx, dx, 12, 8, rfl, gm, by decide, by decide, by decide, by decide, fun h s H7 ha hsc hca hw hh nw rz g7 k7 => ⟨rfl, ?_⟩⟩
    subst ha
    have k7 := km.trans k7
    have g7 : MH CH CD CC CS CL H7 (mixCells m1 ++ O) h [] (scrCells CN s ++ []) := g7
    clear gm km g6
    -- join
    refine ⟨3, rfl, by decide, by decide, ?_⟩
    refine for_range (lo := 0) (n := (3 : Int).toNat) (fun i σ H5 => ∃ v3 h' ps, σ = [some (.ref a), some (.ref m.a), some (.ref dl), v3, some (.ref pl), some (.ref bl), some (.ref h.a), none, none, none, none, none, none] ∧ h'.a = h.a ∧ h'.sc = s.a ∧ h'.ca = ps.map (·.1.a) ∧ ps.length = i ∧ FreshP ps (fun _ => []) ∧ KeepT H6 H5 ∧ MH CH CD CC CS CL H5 (mixCells m1 ++ O) h' ps (scrCells CN s ++ []))
      ⟨_, h, [], rfl, rfl, hsc, hca, rfl, (fun k p e => by simp at e), k7, g7⟩ ?_ ?_
    · rintro i σ H5 hi ⟨v3, h', ps, rfl, e1, e2, e3, e4, fr, k5, g⟩
      have hi3 : i < 3 := hi
      refine ⟨_, rfl, h.a, _, _, rfl, e1 ▸ (mh_h g).1, by kernel_rfl, _, _, h', congrArg (fun z => [V.ref z]) e1.symm, g, by rw [e3, List.length_map]; omega, fun p dx2 ra sa' na H6' g6 k6 => ?_⟩
      have g7 := join_perm g6
      have e5 : h'.ca.length = ps.length := by rw [e3, List.length_map]
      rw [e5] at g7
      refine ⟨_, { h' with ca := h'.ca ++ [p] }, _, rfl, e1, e2, ?_, ?_, freshP_join fr rfl, k5.trans k6, g7⟩
      · show h'.ca ++ [p] = _
        rw [e3, List.map_append]; rfl
      · rw [List.length_append, e4]; rfl
    rintro σ H8 ⟨v3, h', ps, rfl, e1, e2, e3, e4, fr, k8, g8⟩
    have e4 : ps.length = 3 := e4
    clear hca hsc g7 k7
    have RB : ∀ j, j < 3 → RowAt H8 (tss j) (booksZ sa sb j) := fun j hj => (RB j hj).keep k8
    have hp0 := k8 _ _ hp0
    have hp1 := k8 _ _ hp1
    clear k8 RT R1 R2
    -- what is left
    have ebl : H8 bl = some (.lst ([(dl, ts0), (w1, ts1), (w2, ts2)].map fun b => V.ref b.1)) := g8.mem (by rw [← hO]; simp [bookCells])
    refine ⟨_, rfl, bl, rfl, ⟨_, SqL.of ebl⟩, fun ll hll => ?_⟩
    refine lc_list (K := K) (a := bl) (xs := [(dl, ts0), (w1, ts1), (w2, ts2)].map fun b => V.ref b.1) (fun i H => KeepT H8 H ∧ ∃ lk : List (Addr × List Addr), lk.map (·.2) = ([(dl, ts0), (w1, ts1), (w2, ts2)].take i).map (·.2) ∧ MH CH CD CC CS CL H (bookCells ll lk ++ (mixCells m1 ++ O)) h' ps (scrCells CN s ++ [])) ⟨KeepT.same (Same.new _ hll), [], rfl, Has.cons g8 hll (.lst [])⟩ ?_ ?_ ?_
    · rintro i H _ ⟨_, lk, _, g⟩
      exact SqL.of (g.mem (by rw [← hO]; simp [bookCells]))
    · rintro i x H hi ⟨kk, lk, elk, g⟩
      rw [List.getElem?_map] at hi
      cases eb : ([(dl, ts0), (w1, ts1), (w2, ts2)] : List (Addr × List Addr))[i]? with
      | none => rw [eb] at hi; cases hi
      | some b =>
        rw [eb] at hi
        obtain rfl : V.ref b.1 = x := Option.some.inj hi
        have hrow : H b.1 = some (.lst (b.2.map V.ref)) := g.mem (by
          rw [← hO]
          refine List.mem_append_left _ (List.mem_append_right _ (List.mem_append_right _ (List.mem_cons_of_mem _ (List.mem_cons_of_mem _ ?_))))
          exact List.mem_map_of_mem (f := bkRow) (List.mem_of_getElem? eb))
        have hlen : lk.length = i := by
          have h1 := congrArg List.length elk
          have h2 := (List.getElem?_eq_some_iff.mp eb).1
          rw [List.length_map, List.length_map, List.length_take] at h1
          omega
        have hi3 : i < 3 := (List.getElem?_eq_some_iff.mp eb).1
        refine ⟨rfl, ?_⟩
        refine ⟨_, rfl, b.1, _, rfl, .inl (SqL.of hrow), fun q hq => ?_⟩
        have g1 := Has.cons g hq (.lst (b.2.map V.ref))
        have e1' : upd H q (.lst (b.2.map V.ref)) ll = some (.lst (lk.map fun b => V.ref b.1)) := g1.mem (by simp [bookCells])
        have g2 := Has.set (A := []) g1 1 (o := .lst (lk.map fun b => V.ref b.1)) rfl (.lst ((lk.map fun b => V.ref b.1) ++ [V.ref q]))
        refine ⟨_, e1', ?_, (kk.trans (KeepT.same (Same.new _ hq))).trans (KeepT.lst e1' _), lk ++ [(q, b.2)], ?_, ?_⟩
        · rw [List.length_map, hlen]; exact small1000 (by omega)
        · rw [List.map_append, elk, List.take_add_one, eb, List.map_append]; rfl
        · refine Has.perm g2 ?_
          show ((q, HO.lst (b.2.map V.ref)) :: (ll, HO.lst ((lk.map fun b => V.ref b.1) ++ [V.ref q])) :: ((lk.map bkRow ++ (mixCells m1 ++ O)) ++ _)).Perm _
          unfold bookCells
          classical
          exact List.perm_iff_count.mpr fun c => by simp only [List.map_append, List.count_append, List.count_cons, List.count_nil, List.map_cons, List.map_nil, bkRow]; omega
    rintro H9 ⟨k9, lk, elk, g9⟩
    have elk : lk.map (·.2) = [ts0, ts1, ts2] := elk
    obtain ⟨⟨l0, u0⟩, ⟨l1, u1⟩, ⟨l2, u2⟩, rfl⟩ := three_list (show lk.length = 3 by have := congrArg List.length elk; simpa using this)
    obtain ⟨rfl, rfl, rfl⟩ : u0 = ts0 ∧ u1 = ts1 ∧ u2 = ts2 := by simpa using elk
    have eL : [(l0, u0), (l1, u1), (l2, u2)] = lefts l0 l1 l2 tss (fun _ => 0) := by unfold lefts; rw [et0, et1, et2]; rfl
    rw [eL] at g9
    have RB : ∀ j, j < 3 → RowAt H9 (tss j) (booksZ sa sb j) := fun j hj => (RB j hj).keep k9
    have hp0 := k9 _ _ hp0
    have hp1 := k9 _ _ hp1
    clear k9 elk eL hll g8 ebl
    have e0' : m1.a = m.a := e0
    -- the weaving
    refine while_by (fun σ H => ∃ v3 v8 m' ps nn, σ = [some (.ref a), some (.ref m.a), some (.ref dl), v3, some (.ref pl), some (.ref bl), some (.ref h.a), some (.ref ll), v8, none, none, none, none] ∧ KeepT H9 H ∧ m'.a = m.a ∧ MixOk m' ∧ h'.ca = ps.map (·.1.a) ∧ ps.length = 3 ∧ (∀ (k : Nat) p, ps[k]? = some p → WSt p k (nn k) (booksZ sa sb k)) ∧
      MH CH CD CC CS CL H (bookCells ll (lefts l0 l1 l2 tss nn) ++ (mixCells m' ++ O)) h' ps (scrCells CN s ++ []))
      (fun _ H => lenAt H l0 + lenAt H l1 + lenAt H l2) ⟨_, _, m1, ps, fun _ => 0, rfl, KeepT.refl _, e0', o0, e3, e4, fun k p ep => ?_, g9⟩ ?_ ?_
    · have f := fr k p ep
      exact ⟨f.num, f.fal, f.row, f.notes, by rw [f.ss]; exact swf_nil _, by rw [f.sd, f.ss]; rfl, by rw [f.ss]; rfl, by rw [f.ss]; intro s hs; cases hs⟩
    · rintro σ H ⟨v3, v8, m', ps, nn, rfl, kk, em', om', eca, epl, hw', g⟩
      have mem3 : ∀ j, j < 3 → ∃ lj, (lefts l0 l1 l2 tss nn)[j]? = some (lj, (tss j).drop (nn j)) := fun j hj => by
        have : j = 0 ∨ j = 1 ∨ j = 2 := by omega
        rcases this with rfl | rfl | rfl
        · exact ⟨l0, rfl⟩
        · exact ⟨l1, rfl⟩
        · exact ⟨l2, rfl⟩
      have rdL : ∀ {H : Hp} {A' Y : Cells} {nn : Nat → Nat}, Has H (A' ++ (bookCells ll (lefts l0 l1 l2 tss nn) ++ Y)) → H ll = some (.lst [.ref l0, .ref l1, .ref l2]) ∧ H l0 = some (.lst (((tss 0).drop (nn 0)).map V.ref)) ∧ H l1 = some (.lst (((tss 1).drop (nn 1)).map V.ref)) ∧ H l2 = some (.lst (((tss 2).drop (nn 2)).map V.ref)) := fun g => by
        obtain ⟨h1, h2⟩ := bk_mem g
        exact ⟨h1, h2 _ List.mem_cons_self, h2 _ (List.mem_cons_of_mem _ List.mem_cons_self), h2 _ (List.mem_cons_of_mem _ (List.mem_cons_of_mem _ List.mem_cons_self))⟩
      obtain ⟨hL, hr0, hr1, hr2⟩ := rdL (A' := []) (Has.assoc g)
      have RH : ∀ j, j < 3 → RowAt H ((tss j).drop (nn j)) ((booksZ sa sb j).drop (nn j)) := fun j hj => ((RB j hj).keep kk).drop _
      refine ⟨_, rfl, small (by show 0 ≤ 1000; decide), fun z0 hz0 => ⟨small (by show 0 ≤ 1000; decide), fun z1 hz1 => ⟨small (by show 0 ≤ 1000; decide), fun z2 hz2 => ⟨small (by show 3 ≤ 1000; decide), fun z3 hz3 => ?_⟩⟩⟩⟩
      have sm := ((Same.new (.lst []) hz0).trans (Same.new (.lst []) hz1)).trans ((Same.new (.lst []) hz2).trans (Same.new (.lst [.ref z0, .ref z1, .ref z2]) hz3))
      have ez0 := ((Same.new (.lst []) hz1).trans ((Same.new (.lst []) hz2).trans (Same.new (.lst [.ref z0, .ref z1, .ref z2]) hz3))) _ _ (upd_same (H := H) (a := z0) (o := .lst []))
      have ez1 := ((Same.new (.lst []) hz2).trans (Same.new (.lst [.ref z0, .ref z1, .ref z2]) hz3)) _ _ (upd_same (H := upd H z0 (.lst [])) (a := z1) (o := .lst []))
      have ez2 := (Same.new (.lst [.ref z0, .ref z1, .ref z2]) hz3) _ _ (upd_same (H := upd (upd H z0 (.lst [])) z1 (.lst [])) (a := z2) (o := .lst []))
      refine ⟨_, _, Dp.lst (SqL.of (sm _ _ hL)) (.cons (Dp.lst (SqL.of (sm _ _ hr0)) (dp_row ((RH 0 (by decide)).same sm))) (.cons (Dp.lst (SqL.of (sm _ _ hr1)) (dp_row ((RH 1 (by decide)).same sm))) (.cons (Dp.lst (SqL.of (sm _ _ hr2)) (dp_row ((RH 2 (by decide)).same sm))) .nil))), Dp.lst (SqL.of upd_same) (.cons (Dp.lst (SqL.of ez0) .nil) (.cons (Dp.lst (SqL.of ez1) .nil) (.cons (Dp.lst (SqL.of ez2) .nil) .nil))), shp_left _ _ _, shp_nil3, _, rfl, ?_⟩
      rw [show PyData.eqv _ _ = _ from eqv_left _ _ _]
      have g := Has.same g sm
      have kk := kk.trans (KeepT.same sm)
      have RH : ∀ j, j < 3 → RowAt _ ((tss j).drop (nn j)) ((booksZ sa sb j).drop (nn j)) := fun j hj => (RH j hj).same sm
      have em0 : lenAt H l0 + lenAt H l1 + lenAt H l2 = ((tss 0).drop (nn 0)).length + ((tss 1).drop (nn 1)).length + ((tss 2).drop (nn 2)).length := by
        rw [lenAt_of hr0, lenAt_of hr1, lenAt_of hr2, List.length_map, List.length_map, List.length_map]
      clear ez0 ez1 ez2 hL hr0 hr1 hr2
      generalize upd (upd (upd (upd H z0 (.lst [])) z1 (.lst [])) z2 (.lst [])) z3 (.lst [.ref z0, .ref z1, .ref z2]) = Hc at g kk RH ⊢
      by_cases hall : (((booksZ sa sb 0).drop (nn 0)).isEmpty && ((booksZ sa sb 1).drop (nn 1)).isEmpty && ((booksZ sa sb 2).drop (nn 2)).isEmpty) = true
      · rw [hall]
        refine iteF ?_
        have hfull : ∀ j, j < 3 → (booksZ sa sb j).take (nn j) = booksZ sa sb j := fun j hj => by
          rw [Bool.and_eq_true, Bool.and_eq_true] at hall
          have : j = 0 ∨ j = 1 ∨ j = 2 := by omega
          have he : ((booksZ sa sb j).drop (nn j)).isEmpty = true := by
            rcases this with rfl | rfl | rfl
            · exact hall.1.1
            · exact hall.1.2
            · exact hall.2
          have := List.isEmpty_iff.mp he
          exact List.take_of_length_le (List.drop_eq_nil_iff.mp this)
        have hviews : ∀ (j : Nat) p, ps[j]? = some p → p.1.number = (j : Int) ∧ view p.2 = runV [] (booksZ sa sb j) := fun j p ep => by
          have := hw' j p ep
          refine ⟨this.num, ?_⟩
          rw [this.view, hfull j (by have := (List.getElem?_eq_some_iff.mp ep).1; omega)]
        have hget : ∀ p ∈ ps, ∃ j, WSt p j (nn j) (booksZ sa sb j) := fun p hp => by
          obtain ⟨j, hj, ej⟩ := List.getElem_of_mem hp
          exact ⟨j, hw' j p (by rw [List.getElem?_eq_getElem hj, ej])⟩
        have pw : PsW ps := fun p hp => by
          obtain ⟨j, q⟩ := hget p hp
          exact ⟨q.swf, q.sd⟩
        have th : There ps := fun p hp => by
          obtain ⟨j, q⟩ := hget p hp
          exact q.th
        have gi := mh_in g
        have nd := surf_nd gi
        have nc := cli_nd gi
        obtain ⟨rb1, rb2, _⟩ := reck_m ao bo ps epl pw nd nc hviews
        obtain ⟨c0, c1, c2, d, s10, s11, s20, s21, ld, l10, l11, l20, l21, T3⟩ := three_of epl pw hviews
        -- beat
        refine ⟨_, rfl, h.a, _, _, rfl, e1 ▸ (mh_h g).1, by kernel_rfl, _, [], h', s, ps, congrArg (fun z => [V.ref z]) e1.symm, g, eca, by omega, e2, pw, nw, fun p hp => ?_, rb1, rb2, fun ps5 z0' H14 lb bp la z1' z2' z3' z4' g14 k14 => ?_⟩
        · obtain ⟨j, q⟩ := hget p hp
          exact ⟨q.fal, by rw [q.notes]; exact Nat.zero_le _⟩
        have hw12 : z0'.wide = 12 := z1'.wide.trans hw
        have hh8 : z0'.high = 8 := z1'.high.trans hh
        rw [hw] at z3' z4'
        obtain ⟨ep1, ep2⟩ := three_paint T3 pw nd nc ao bo z2' hw12 hh8 z3'
        have ep2 := ep2 z4'
        have wf5 := paintAll_wf (lk := lkM ps) (laidM ps) z2'
        have ss5 := z1'.trans (paintAll_same (lkM ps) (laidM ps) z0')
        have ps5ok : PsOk ps5 10 := fun p hp => by
          obtain ⟨q, hq, r⟩ := bp.back hp
          obtain ⟨j, qw⟩ := hget q hq
          obtain ⟨ns', ec, hl'⟩ := r.c
          rw [ec]
          rw [qw.notes] at hl'
          exact ⟨qw.fal, by simpa using hl'⟩
        have seen := fun (s5 : ScrH) (e : s5.srows.map (·.2) = gridA (srcF sa sb d.a s10.a s11.a s20.a s21.a)) => seen_ok T3 pw nd nc ao bo th bp la (s := s5) e
        have eca5 : h'.ca = ps5.map (·.1.a) := by rw [bp.as]; exact eca
        have epl5 : ps5.length = 3 := by rw [bp.1]; exact epl
        generalize paintAll (lkM ps) z0' (laidM ps) = s5 at g14 ep1 ep2 wf5 ss5
        have seen := seen s5 ep2
        have hp0 := (kk.trans k14) _ _ hp0
        have hp1 := (kk.trans k14) _ _ hp1
        have RB : ∀ j, j < 3 → RowAt H14 (tss j) (booksZ sa sb j) := fun j hj => ((RB j hj).keep kk).keep k14
        -- known
        generalize hBK : bookCells bl [(dl, u0), (w1, u1), (w2, u2)] = BK at hO
        have g15 : Has H14 ((pl, .lst [.ref p0, .ref p1]) :: (BK ++ (mixCells m' ++ (houCells CH CD h' ++ (cliAll CC CS CL ps5 ++ scrCells CN s5))))) := by
          rw [← hO] at g14
          refine Has.perm (Has.sub g14 (L' := (mixCells m' ++ ((pl, .lst [.ref p0, .ref p1]) :: BK)) ++ (houCells CH CD h' ++ (cliAll CC CS CL ps5 ++ (scrCells CN s5 ++ [])))) ?_) ?_
          · exact List.Sublist.append_right (List.sublist_append_right _ _) _
          · classical
            exact List.perm_iff_count.mpr fun c => by simp only [List.count_append, List.count_cons, List.count_nil]; omega
        refine ⟨_, rfl, _, pl, p0, p1, sa, sb, rfl, g15, hp0, hp1, ao, bo, fun H15 t0 ml ol mr or ht0 g16 em eo k15 => ?_⟩
        have hp0 := k15 _ _ hp0
        have hp1 := k15 _ _ hp1
        have RB : ∀ j, j < 3 → RowAt H15 (tss j) (booksZ sa sb j) := fun j hj => (RB j hj).keep k15
        clear g15 g14
        refine ⟨t0, _, rfl, SqT.of ht0, rfl, _, _, rfl, _, _, rfl, rfl, ?_⟩
        have rdS : ∀ {H : Hp} {A' : Cells}, Has H (A' ++ (knCells ml mr ++ (knCells ol or ++ ((pl, .lst [.ref p0, .ref p1]) :: (BK ++ (mixCells m' ++ (houCells CH CD h' ++ (cliAll CC CS CL ps5 ++ scrCells CN s5)))))))) →
            H ml = some (.lst (mr.map fun r => V.ref r.1)) ∧ (∀ r ∈ mr, H r.1 = some (.lst r.2)) ∧ H h'.a = some (.ins CH h'.dx (houseF h'.sc h'.cl h'.ha)) ∧ H s5.a = some (.ins CN s5.dx (screenF s5.wide s5.high s5.ma s5.so)) ∧ GridAt H s5.ma s5.rows := fun g => by
          refine ⟨kn_top g, fun r hr => ?_, g.mem (by simp [houCells]), g.mem (by simp [scrCells]), g.mem (by simp [scrCells]), fun r hr => g.mem ?_⟩
          · obtain ⟨j, hj, ej⟩ := List.getElem_of_mem hr
            exact kn_row g (show mr[j]? = some r by rw [List.getElem?_eq_getElem hj, ej])
          · simp only [List.mem_append, List.mem_cons, scrCells, List.mem_map]
            refine .inr (.inr (.inr (.inr (.inr (.inr (.inr (.inr (.inr (.inr (.inr (.inl ⟨r, hr, rfl⟩)))))))))))
        obtain ⟨r1, r2, r3, r4, r5⟩ := rdS (A' := []) g16
        have emI : mr.map (·.2) = gridV fun y x => .int (knI sa sb y x) := by rw [em]; exact gridV_congr fun y x _ _ => knI_M sa sb y x
        -- the screen
        refine ⟨_, rfl, h.a, _, _, rfl, e1 ▸ r3, by kernel_rfl, h', s5, congrArg (fun z => [V.ref z]) e1.symm, r3, e2.trans ss5.a.symm, r4, r5, by have := wf5.rl; have := wf5.h2; omega, fun H16 l rs s16 g17 ers k16 => ?_⟩
        have g17 := g17 _ g16
        have g17b : Has H16 (((l, HO.lst (rs.map fun (r : Addr × List Int) => V.ref r.1)) :: rs.map rowC) ++ (knCells ml mr ++ (knCells ol or ++ ((pl, .lst [.ref p0, .ref p1]) :: (BK ++ (mixCells m' ++ (houCells CH CD h' ++ (cliAll CC CS CL ps5 ++ scrCells CN s5)))))))) := g17
        obtain ⟨r1, r2, r3, r4, r5⟩ := rdS g17b
        refine ⟨_, rfl, _, _, rfl, rd_grid (g17b.mem List.mem_cons_self) (fun r hr => g17b.mem (List.mem_append_left _ (List.mem_cons_of_mem _ (List.mem_map_of_mem (f := rowC) hr)))) r1 r2 (ers.trans ep1) emI, fun H17 s17 => ?_⟩
        refine ⟨_, rfl, iteF ?_⟩
        have g18 : Has H17 (BK ++ (knCells ml mr ++ (knCells ol or ++ ((pl, .lst [.ref p0, .ref p1]) :: (mixCells m' ++ (houCells CH CD h' ++ (cliAll CC CS CL ps5 ++ scrCells CN s5))))))) := by
          refine Has.perm (Has.same (Has.sub g17b (List.sublist_append_right _ _)) s17) ?_
          classical
          exact List.perm_iff_count.mpr fun c => by simp only [List.count_append, List.count_cons, List.count_nil]; omega
        have k17 : KeepT H15 H17 := k16.trans (KeepT.same s17)
        rw [← hBK] at g18
        -- at rest
        refine ⟨_, rfl, _, bl, [(dl, u0), (w1, u1), (w2, u2)], booksZ sa sb, 12, 8, _, rfl, g18, (by show 3 ≤ 5; decide), by decide, by decide, by decide, by decide, fun j b' eb' => ?_, reck_m ao bo, fun H18 l' rs' g19 ers' k18 => ?_⟩
        · have hj : j < 3 := (List.getElem?_eq_some_iff.mp eb').1
          have R := (RB j hj).keep k17
          have hb' : b'.2 = tss j := by
            have : j = 0 ∨ j = 1 ∨ j = 2 := by omega
            rcases this with rfl | rfl | rfl
            · cases eb'; exact et0.symm
            · cases eb'; exact et1.symm
            · cases eb'; exact et2.symm
          rw [hb']
          refine ⟨R, books_ok ao bo j, ?_⟩
          rw [paired_len R]
          have : j = 0 ∨ j = 1 ∨ j = 2 := by omega
          rcases this with rfl | rfl | rfl
          · show 5 ≤ 1000; decide
          · show 12 ≤ 1000; decide
          · show 12 ≤ 1000; decide
        have g19b : Has H18 ((((l', HO.lst (rs'.map fun (r : Addr × List Int) => V.ref r.1)) :: rs'.map rowC) ++ bookCells bl [(dl, u0), (w1, u1), (w2, u2)]) ++ (knCells ml mr ++ (knCells ol or ++ ((pl, .lst [.ref p0, .ref p1]) :: (mixCells m' ++ (houCells CH CD h' ++ (cliAll CC CS CL ps5 ++ scrCells CN s5))))))) := by
          refine Has.re g19 ?_
          simp only [List.append_assoc, List.cons_append]
        refine ⟨_, rfl, _, _, rfl, rd_grid (g19b.mem List.mem_cons_self) (fun r hr => g19b.mem (List.mem_append_left _ (List.mem_append_left _ (List.mem_cons_of_mem _ (List.mem_map_of_mem (f := rowC) hr))))) (kn_top g19b) (fun r hr => ?_) ers' emI, fun H19 s19 => ?_⟩
        · obtain ⟨j, hj, ej⟩ := List.getElem_of_mem hr
          exact kn_row g19b (show mr[j]? = some r by rw [List.getElem?_eq_getElem hj, ej])
        refine ⟨_, rfl, iteF ?_⟩
        have k19 : KeepT H15 H19 := k17.trans (k18.trans (KeepT.same s19))
        have hp0 := k19 _ _ hp0
        have hp1 := k19 _ _ hp1
        have g20 : TW CH CD CN CC CS CL H19 (mixCells m') h' s5 none [] ps5 (knCells ml mr ++ (knCells ol or ++ ((pl, .lst [.ref p0, .ref p1]) :: []))) := by
          refine Has.perm (Has.same (Has.sub g19b (List.sublist_append_right _ _)) s19) ?_
          rw [hou_split]
          classical
          exact List.perm_iff_count.mpr fun c => by simp only [List.count_append, List.count_cons, List.count_nil]; omega
        -- the touches
        refine ⟨12, rfl, by decide, by decide, ?_⟩
        refine for_range (lo := 0) (n := (12 : Int).toNat) (fun i σ H => ∃ v11 m4 foc whoF ps6 n, σ = [some (.ref a), some (.ref m.a), some (.ref dl), v3, some (.ref pl), some (.ref bl), some (.ref h.a), some (.ref ll), v8, some (.ref ml), some (.ref ol), v11, none] ∧ m4.a = m.a ∧ MixOk m4 ∧ n ≤ 10 + 4 * i ∧ ps6.length = 3 ∧ h'.ca = ps6.map (·.1.a) ∧ PsOk ps6 n ∧ AtS ps6 foc whoF ∧ SeenOk ps6 s5 sa sb ∧ KeepT H19 H ∧
            TW CH CD CN CC CS CL H (mixCells m4) h' s5 foc [] ps6 (knCells ml mr ++ (knCells ol or ++ ((pl, .lst [.ref p0, .ref p1]) :: []))))
          ⟨_, m', none, none, ps5, 10, rfl, em', om', by omega, epl5, eca5, ps5ok, trivial, seen, KeepT.refl _, g20⟩ ?_ ?_
        · rintro i σ H hi ⟨v11, m4, foc, whoF, ps6, n, rfl, em4, om4, hn, epl6, eca6, ok6, haf, hse, k6, g6⟩
          have hi12 : i < 12 := hi
          have gN : Has H ([] ++ (mixCells m4 ++ ((houA CH h' ++ scrCells CN s5) ++ (handCells CD (hnd h') foc [] ++ (cliAll CC CS CL ps6 ++ (knCells ml mr ++ (knCells ol or ++ ((pl, .lst [.ref p0, .ref p1]) :: [])))))))) := Has.re g6 (by simp only [List.append_assoc, List.nil_append])
          refine ⟨_, rfl, _, rfl, _, rfl, _, rfl, _, rfl, [], _, m4, 12, congrArg (fun x => [V.ref x, V.int 12]) em4.symm, gN, om4, by decide, by decide, fun rx m5 H20 x0 x1 em5 om5 g21 k20 => ?_⟩
          have em5 := em5.trans em4
          refine ⟨_, rfl, [], _, m5, 8, congrArg (fun x => [V.ref x, V.int 8]) em5.symm, g21, om5, by decide, by decide, fun ry m6 H21 y0 y1 em6 om6 g22 k21 => ?_⟩
          have em6 := em6.trans em5
          obtain ⟨px, rfl⟩ := Int.eq_ofNat_of_zero_le x0
          obtain ⟨py, rfl⟩ := Int.eq_ofNat_of_zero_le y0
          have g23 : TW CH CD CN CC CS CL H21 (mixCells m6) h' s5 foc [] ps6 (knCells ml mr ++ (knCells ol or ++ ((pl, .lst [.ref p0, .ref p1]) :: []))) := Has.re g22 (by simp only [List.append_assoc, List.nil_append])
          have k22 := (k6.trans k20).trans k21
          refine ⟨mixCells m6, [], h', s5, foc, whoF, ps6, n, ml, ol, pl, p0, p1, mr, or, sa, sb, px, py, congrArg (fun z => [V.ref z, V.ref ml, V.ref ol, V.ref pl, V.int (px : Int), V.int (py : Int)]) e1.symm, g23, k22 _ _ hp0, k22 _ _ hp1, em, eo, by omega, by omega, epl6, eca6, e2.trans ss5.a.symm, ss5.wide.trans hw, ss5.high.trans hh, ok6, by omega, haf, hse, fun H22 ps7 foc7 whoF7 epl7 eca7 ok7 haf7 hse7 g24 k23 => ?_⟩
          refine ⟨_, rfl, iteF ?_⟩
          exact ⟨_, m6, foc7, whoF7, ps7, n + 4, rfl, em6, om6, by omega, epl7, eca7, ok7, haf7, hse7, k22.trans k23, g24⟩
        · rintro σ H ⟨v11, m4, foc, whoF, ps6, n, rfl, _⟩
          exact k H
      · rw [Bool.not_eq_true] at hall
        rw [hall]
        refine iteT ?_
        -- who has letters left
        refine ⟨3, rfl, by decide, by decide, fun sl hsl => ?_⟩
        refine lc_range (lo := 0) (n := (3 : Int).toNat) (fun i H8 => KeepT Hc H8 ∧ MH CH CD CC CS CL H8 ((sl, .lst ((((List.range i).filter fun k => !((booksZ sa sb k).drop (nn k)).isEmpty).map fun (k : Nat) => (k : Int)).map V.int)) :: (bookCells ll (lefts l0 l1 l2 tss nn) ++ (mixCells m' ++ O))) h' ps (scrCells CN s ++ [])) ⟨KeepT.same (Same.new _ hsl), Has.cons g hsl _⟩ ?_ ?_
        · rintro i H8 hi ⟨k8, g8⟩
          have hi3 : i < 3 := hi
          refine ⟨rfl, ?_⟩
          obtain ⟨li, eli⟩ := mem3 i hi3
          have g8b : Has H8 ([(sl, HO.lst ((((List.range i).filter fun k => !((booksZ sa sb k).drop (nn k)).isEmpty).map fun (k : Nat) => (k : Int)).map V.int))] ++ (bookCells ll (lefts l0 l1 l2 tss nn) ++ ((mixCells m' ++ O) ++ _))) := g8.re (by simp only [List.append_assoc, List.cons_append, List.nil_append]; rfl)
          obtain ⟨b1, b2⟩ := bk_mem g8b
          have hrow := b2 _ (List.mem_of_getElem? eli)
          refine ⟨_, rfl, _, rfl, _, _, _, .ref li, rfl, rfl, SqL.of b1, at_of (j := i) (by omega) (by rw [List.getElem?_map, eli]; rfl), small (by show 0 ≤ 1000; decide), fun q hq => ?_⟩
          have g9 := Has.past g8 hq (.lst [])
          have k9 := k8.trans (KeepT.same (Same.new (.lst []) hq))
          have hrow9 := (Same.new (.lst []) hq) _ _ hrow
          refine ⟨_, _, Dp.lst (SqL.of hrow9) (dp_row ((RH i hi3).keep k9)), Dp.lst (SqL.of upd_same) .nil, shp_row _, rfl, _, rfl, ?_⟩
          rw [show PyData.eqv _ _ = _ from eqv_row _]
          have esucc : (List.range (i + 1)).filter (fun k => !((booksZ sa sb k).drop (nn k)).isEmpty) = (List.range i).filter (fun k => !((booksZ sa sb k).drop (nn k)).isEmpty) ++ (if ((booksZ sa sb i).drop (nn i)).isEmpty then [] else [i]) := by
            rw [List.range_succ (n := i), List.filter_append]
            congr 1
            rw [List.filter_cons]
            cases ((booksZ sa sb i).drop (nn i)).isEmpty <;> rfl
          rw [esucc]
          by_cases ce : ((booksZ sa sb i).drop (nn i)).isEmpty = true
          · rw [ce]
            refine iteF ⟨k9, ?_⟩
            rw [if_pos rfl, List.append_nil]
            exact g9
          · rw [Bool.not_eq_true] at ce
            rw [ce]
            refine iteT ?_
            have e8 : upd H8 q (.lst []) sl = _ := g9.mem List.mem_cons_self
            refine ⟨_, rfl, _, e8, ?_, k9.trans (KeepT.lst e8 _), ?_⟩
            · rw [List.length_map, List.length_map]
              refine small1000 (Nat.le_trans (List.length_filter_le _ _) ?_)
              rw [List.length_range]; omega
            · have g10 := Has.set (A := []) g9 0 rfl (.lst (((((List.range i).filter fun k => !((booksZ sa sb k).drop (nn k)).isEmpty).map fun (k : Nat) => (k : Int)).map V.int) ++ [V.int (0 + (i : Int))]))
              rw [Int.zero_add] at g10 ⊢
              rw [if_neg Bool.false_ne_true, List.map_append, List.map_append]
              exact g10
        rintro H8 ⟨k8, g8⟩
        have g8 : MH CH CD CC CS CL H8 ((sl, .lst ((((List.range 3).filter fun k => !((booksZ sa sb k).drop (nn k)).isEmpty).map fun (k : Nat) => (k : Int)).map V.int)) :: (bookCells ll (lefts l0 l1 l2 tss nn) ++ (mixCells m' ++ O))) h' ps (scrCells CN s ++ []) := g8
        have hLm : ∀ j, j ∈ (List.range 3).filter (fun k => !((booksZ sa sb k).drop (nn k)).isEmpty) → j < 3 ∧ ∃ z, (booksZ sa sb j)[nn j]? = some z := fun j hj => by
          have h1 := List.mem_filter.mp hj
          refine ⟨List.mem_range.mp h1.1, ?_⟩
          cases e : (booksZ sa sb j)[nn j]? with
          | some z => exact ⟨z, rfl⟩
          | none =>
            have : (booksZ sa sb j).drop (nn j) = [] := List.drop_eq_nil_of_le (List.getElem?_eq_none_iff.mp e)
            rw [this] at h1
            exact absurd h1.2 (by decide)
        have hLn : 0 < ((List.range 3).filter (fun k => !((booksZ sa sb k).drop (nn k)).isEmpty)).length := by
          have h3 : ∃ j, j < 3 ∧ ((booksZ sa sb j).drop (nn j)).isEmpty = false := by
            cases h0 : ((booksZ sa sb 0).drop (nn 0)).isEmpty with
            | false => exact ⟨0, by decide, h0⟩
            | true =>
              cases h1 : ((booksZ sa sb 1).drop (nn 1)).isEmpty with
              | false => exact ⟨1, by decide, h1⟩
              | true =>
                rw [h0, h1] at hall
                exact ⟨2, by decide, by simpa using hall⟩
          obtain ⟨j, hj, ej⟩ := h3
          exact List.length_pos_of_mem (List.mem_filter.mpr ⟨List.mem_range.mpr hj, by rw [ej]; rfl⟩)
        have hL3 : ((List.range 3).filter (fun k => !((booksZ sa sb k).drop (nn k)).isEmpty)).length ≤ 3 := Nat.le_trans (List.length_filter_le _ _) (by simp)
        generalize (List.range 3).filter (fun k => !((booksZ sa sb k).drop (nn k)).isEmpty) = LL at g8 hLm hLn hL3
        have esl : H8 sl = _ := g8.mem List.mem_cons_self
        have gN : Has H8 (((sl, .lst ((LL.map fun (k : Nat) => (k : Int)).map V.int)) :: bookCells ll (lefts l0 l1 l2 tss nn)) ++ (mixCells m' ++ (O ++ (houCells CH CD h' ++ (cliAll CC CS CL ps ++ (scrCells CN s ++ [])))))) := g8.re (by simp only [List.append_assoc, List.cons_append])
        refine ⟨_, rfl, _, rfl, _, rfl, sl, _, rfl, .inl (SqL.of esl), ?_⟩
        rw [List.length_map, List.length_map]
        refine ⟨_, _, m', (LL.length : Nat), congrArg (fun z => [V.ref z, V.int (LL.length : Nat)]) em'.symm, gN, om', by omega, by omega, fun r m2 H10 r0 r1 em2 om2 g10 k10 => ?_⟩
        have em2 := em2.trans em'
        obtain ⟨j, ej⟩ : ∃ j, LL[r.toNat]? = some j := ⟨_, List.getElem?_eq_getElem (show r.toNat < LL.length by omega)⟩
        obtain ⟨hj3, z, ez⟩ := hLm j (List.mem_of_getElem? ej)
        have esl10 : H10 sl = some (.lst ((LL.map fun (k : Nat) => (k : Int)).map V.int)) := g10.mem List.mem_cons_self
        refine ⟨_, _, _, V.int (j : Int), rfl, rfl, SqL.of esl10, at_of (j := r.toNat) (by omega) (by rw [List.getElem?_map, List.getElem?_map, ej]; rfl), ?_⟩
        have g10 : Has H10 ([(sl, HO.lst ((LL.map fun (k : Nat) => (k : Int)).map V.int))] ++ (bookCells ll (lefts l0 l1 l2 tss nn) ++ (mixCells m2 ++ (O ++ (houCells CH CD h' ++ (cliAll CC CS CL ps ++ (scrCells CN s ++ []))))))) := g10.re (by simp only [List.append_assoc, List.cons_append, List.nil_append])
        have k10 := k8.trans k10
        -- tell
        obtain ⟨lj, elj⟩ := mem3 j hj3
        obtain ⟨b1, b2⟩ := bk_mem g10
        have hrow := b2 _ (List.mem_of_getElem? elj)
        have Rj := (RH j hj3).keep k10
        obtain ⟨t, rest, etr, ht⟩ : ∃ t rest, (tss j).drop (nn j) = t :: rest ∧ H10 t = some (.tup z.vals) := by
          have hd : (booksZ sa sb j).drop (nn j) = z :: (booksZ sa sb j).drop (nn j + 1) := by
            have hlt := (List.getElem?_eq_some_iff.mp ez).1
            have hez := (List.getElem?_eq_some_iff.mp ez).2
            rw [List.drop_eq_getElem_cons hlt, hez]
          rw [hd] at Rj
          cases h : (tss j).drop (nn j) with
          | nil => rw [h] at Rj; cases Rj
          | cons t rest =>
            rw [h] at Rj
            cases Rj with
            | cons h1 h2 => exact ⟨t, rest, rfl, h1⟩
        have erest : rest = (tss j).drop (nn j + 1) := by rw [← List.tail_drop, etr]; rfl
        rw [etr] at elj
        have hrow : H10 lj = some (.lst (V.ref t :: rest.map V.ref)) := b2 _ (List.mem_of_getElem? elj)
        obtain ⟨c, hc1, hc2⟩ : ∃ p, ps[j]? = some p ∧ WSt p j (nn j) (booksZ sa sb j) := ⟨_, List.getElem?_eq_getElem (by omega), hw' j _ (List.getElem?_eq_getElem (by omega))⟩
        obtain ⟨c, ss⟩ := c
        have hob : H10 h'.a = some (.ins CH h'.dx (houseF h'.sc h'.cl h'.ha)) := g10.mem (by simp [houCells])
        refine ⟨_, rfl, h.a, _, _, rfl, e1 ▸ hob, by kernel_rfl, _, rfl, _, rfl, _, rfl, _, _, _, .ref lj, rfl, rfl, SqL.of b1, at_of (j := j) rfl (by rw [List.getElem?_map, elj]; rfl), .inl ⟨rfl, _, SqL.of hrow⟩, ?_⟩
        refine ⟨lj, _, 0, 0, V.ref t, rfl, rfl, hrow, by decide, by decide, ?_, rfl, ?_⟩
        · show seqIndex? 0 (rest.map V.ref).length.succ = some 0
          unfold seqIndex?
          simp
        rw [show (V.ref t :: rest.map V.ref).eraseIdx 0 = rest.map V.ref from rfl]
        have g11 := bk_set g10 elj rest
        have ht11 : upd H10 lj (.lst (rest.map V.ref)) t = some (.tup z.vals) := by rw [upd_ne (ne_of ht hrow (by intro q; cases q))]; exact ht
        have k11 : KeepT H10 (upd H10 lj (.lst (rest.map V.ref))) := KeepT.lst hrow _
        have elb : (lefts l0 l1 l2 tss nn).set j (lj, rest) = lefts l0 l1 l2 tss (bump nn j) := by rw [erest]; exact (lefts_bump hj3 elj).symm
        rw [show ((lefts l0 l1 l2 tss nn).set j ((lj, t :: rest).1, rest)) = lefts l0 l1 l2 tss (bump nn j) from elb] at g11
        generalize upd H10 lj (.lst (rest.map V.ref)) = H11 at g11 ht11 k11 ⊢
        have g11 : MH CH CD CC CS CL H11 (bookCells ll (lefts l0 l1 l2 tss (bump nn j)) ++ (mixCells m2 ++ O)) h' ps (scrCells CN s ++ []) := Has.re (Has.sub g11 (L' := bookCells ll (lefts l0 l1 l2 tss (bump nn j)) ++ (mixCells m2 ++ (O ++ (houCells CH CD h' ++ (cliAll CC CS CL ps ++ (scrCells CN s ++ [])))))) (List.sublist_cons_self _ _)) (by simp only [List.append_assoc])
        obtain ⟨zok, zsoft, zcan⟩ := runOk_at (books_ok ao bo j) ez
        have gT := mh_outT g11 hc1
        have hcj : h'.ca[j]? = some c.a := by rw [eca, List.getElem?_map, hc1]; rfl
        have hcl5 : h'.ca.length ≤ 5 := by rw [eca, List.length_map]; omega
        refine ⟨_, _, _, h', j, c, t, z, congrArg (fun q => [V.ref q, V.int (j : Nat), V.ref t]) e1.symm, gT, hcj, hcl5, hc2.fal, by rw [hc2.row]; decide, ht11, zok, fun H12 g12 k12 => ?_⟩
        have g12 := mh_backT hc1 g12
        -- take
        have hpj : (ps.set j ({ c with row := c.row ++ [t] }, ss))[j]? = some ({ c with row := c.row ++ [t] }, ss) := List.getElem?_set_self (by omega)
        have eca2 : h'.ca = (ps.set j ({ c with row := c.row ++ [t] }, ss)).map (·.1.a) := by
          rw [eca]
          apply List.ext_getElem?
          intro n
          rw [List.getElem?_map, List.getElem?_map, List.getElem?_set]
          by_cases q : j = n
          · subst q
            rw [if_pos rfl, if_pos (by omega), hc1]; rfl
          · rw [if_neg q]
        have hcb : canBeB ss z = true := by
          rw [← canBe_view hc2.swf]
          rw [hc2.view]; exact zcan
        refine ⟨_, rfl, h.a, _, _, rfl, e1 ▸ (mh_h g12).1, by kernel_rfl, _, rfl, _, _, h', _, j, _, ss, t, [], z, congrArg (fun q => [V.ref q, V.int (j : Nat)]) e1.symm, g12, eca2, by rw [List.length_set]; omega, hpj, hc2.fal, hc2.swf, hc2.sd, by show c.row ++ [t] = [t]; rw [hc2.row]; rfl, k12 _ _ ht11, zok, zsoft, hcb, fun ss' H13 st g13 k13 => ?_⟩
        rw [List.set_set] at g13
        have hpj3 : (ps.set j ({ c with row := [], sd := sdOf ss' }, ss'))[j]? = some ({ c with row := [], sd := sdOf ss' }, ss') := List.getElem?_set_self (by omega)
        have g13 : MH CH CD CC CS CL H13 (bookCells ll (lefts l0 l1 l2 tss (bump nn j)) ++ (mixCells m2 ++ O)) h' (ps.set j ({ c with row := [], sd := sdOf ss' }, ss')) (scrCells CN s ++ []) := g13
        have gO := mh_out g13 hpj3
        have nd := has_nd (CS := CS) (CL := CL) (A := mhA CH CD CC CS CL _ h' _ j ++ cliCells CC _) (B := mhB CC CS CL _ (scrCells CN s ++ []) j) gO.unassoc
        have ev := StepR.view hc2.swf hcb st zsoft nd
        have wf' := hc2.swf.step zok hcb st nd
        obtain ⟨_, hr0, hr1, hr2⟩ := rdL (A' := []) (Has.assoc g13)
        refine ⟨⟨_, _, m2, _, bump nn j, rfl, kk.trans (k10.trans (k11.trans (k12.trans k13))), em2, om2, ?_, by rw [List.length_set]; exact epl, fun k p ep => ?_, g13⟩, ?_⟩
        · rw [eca]
          apply List.ext_getElem?
          intro n
          rw [List.getElem?_map, List.getElem?_map, List.getElem?_set]
          by_cases q : j = n
          · subst q
            rw [if_pos rfl, if_pos (by omega), hc1]; rfl
          · rw [if_neg q]
        · by_cases q : j = k
          · subst q
            rw [List.getElem?_set_self (by omega)] at ep
            cases ep
            refine ⟨hc2.num, hc2.fal, rfl, hc2.notes, wf', rfl, ?_, step_there st hc2.th⟩
            unfold bump
            rw [if_pos rfl, runV_succ ez, ← hc2.view]
            exact ev
          · rw [List.getElem?_set_ne q] at ep
            have := hw' k p ep
            unfold bump
            rw [if_neg (fun z => q z.symm)]
            exact this
        · show lenAt H13 l0 + lenAt H13 l1 + lenAt H13 l2 < lenAt H l0 + lenAt H l1 + lenAt H l2
          rw [em0, lenAt_of hr0, lenAt_of hr1, lenAt_of hr2, List.length_map, List.length_map, List.length_map]
          have hlt : nn j < (tss j).length := by
            have := congrArg List.length etr
            rw [List.length_drop] at this
            simp at this
            omega
          have : j = 0 ∨ j = 1 ∨ j = 2 := by omega
          unfold bump
          simp only [List.length_drop]
          rcases this with rfl | rfl | rfl <;> simp <;> omega
    · intro σ H2 Q1 Q2 imp hq
      obtain ⟨v, e1, s1, f1⟩ := hq
      refine ⟨v, e1, s1, fun p hp => ?_⟩
      obtain ⟨s2, f2⟩ := f1 p hp
      refine ⟨s2, fun p hp => ?_⟩
      obtain ⟨s3, f3⟩ := f2 p hp
      refine ⟨s3, fun p hp => ?_⟩
      obtain ⟨s4, f4⟩ := f3 p hp
      refine ⟨s4, fun p hp => ?_⟩
      obtain ⟨d, e, a1, a2, a3, a4, b, e5, q⟩ := f4 p hp
      exact ⟨d, e, a1, a2, a3, a4, b, e5, imp _ _ q⟩
end
end SH
set_option Elab.async false
set_option linter.all false
set_option maxRecDepth 100000
namespace SH
open PySem PySem.Spec PyProof.Rows L2
/-! the written bounds -/
def pairB (K : PySem.W.Frag) (t : Addr) (p : Int × Int) : Bool := match K.lookup t with
  | some ⟨.type c, _, .seq its _, _⟩ => decide (c = "tuple") && (decide (its.size ≤ sizeLine) && He.relAll [.int p.1, .int p.2] its.toList)
  | _ => false
def pairsB (K : PySem.W.Frag) : List Value → List (Int × Int) → Bool
  | [], [] => true
  | .ref t :: us, p :: ps => pairB K t p && pairsB K us ps
  | _, _ => false
def bndB (K : PySem.W.Frag) (tb : Addr) (l : List (Int × Int)) : Bool := match K.lookup tb with
  | some ⟨.type c, _, .seq its _, _⟩ => decide (c = "tuple") && (decide (its.size ≤ sizeLine) && pairsB K its.toList l)
  | _ => false
theorem pairB_ok {K : PySem.W.Frag} {t : Addr} {p : Int × Int} (h : pairB K t p = true) : KTup K t [.int p.1, .int p.2] := by
  unfold pairB at h
  cases q : K.lookup t with
  | none => rw [q] at h; cases h
  | some o =>
    obtain ⟨oc, od, dt, osl⟩ := o
    rw [q] at h
    cases oc with
    | type c =>
      cases dt with
      | seq its n =>
        obtain ⟨h1, h2⟩ := He.ba (show (decide (c = "tuple") && (decide (its.size ≤ sizeLine) && He.relAll [.int p.1, .int p.2] its.toList)) = true from h)
        obtain ⟨h3, h4⟩ := He.ba h2
        exact ⟨_, its, n, q, congrArg Value.type (of_decide_eq_true h1), rfl, of_decide_eq_true h3, He.relAll_ok h4⟩
      | _ => cases h
    | _ => cases dt <;> cases h
theorem pairsB_ok {K : PySem.W.Frag} : ∀ {us : List Value} {l : List (Int × Int)}, pairsB K us l = true → ∃ ts : List Addr, Vals (ts.map V.ref) us ∧ Paired (fun (t : Addr) (p : Int × Int) => KTup K t [.int p.1, .int p.2]) ts l
  | [], [], _ => ⟨[], .nil, .nil⟩
  | [], _ :: _, h => by cases h
  | u :: _, [], h => by cases u <;> cases h
  | u :: us, p :: ps, h => by
    cases u with
    | ref t =>
      obtain ⟨h1, h2⟩ := He.ba (show (pairB K t p && pairsB K us ps) = true from h)
      obtain ⟨ts, v, pp⟩ := pairsB_ok h2
      exact ⟨t :: ts, .cons rfl v, .cons (pairB_ok h1) pp⟩
    | _ => cases h
theorem bndB_ok {K : PySem.W.Frag} {tb : Addr} {l : List (Int × Int)} (h : bndB K tb l = true) : KB K tb l := by
  unfold bndB at h
  cases q : K.lookup tb with
  | none => rw [q] at h; cases h
  | some o =>
    obtain ⟨oc, od, dt, osl⟩ := o
    rw [q] at h
    cases oc with
    | type c =>
      cases dt with
      | seq its n =>
        obtain ⟨h1, h2⟩ := He.ba (show (decide (c = "tuple") && (decide (its.size ≤ sizeLine) && pairsB K its.toList l)) = true from h)
        obtain ⟨h3, h4⟩ := He.ba h2
        obtain ⟨ts, v, pp⟩ := pairsB_ok h4
        exact ⟨ts, ⟨_, its, n, q, congrArg Value.type (of_decide_eq_true h1), rfl, of_decide_eq_true h3, v⟩, pp⟩
      | _ => cases h
    | _ => cases dt <;> cases h
def wordsL : List Str := ["make", "drop", "size", "paint", "place", "rank", "veil", "unveil", "tie", "show", "hold", "let"]
def sampL : List Lt := [.make 0, .drop 0, .size 0 0 0, .paint 0 0 0 0 0 0, .place 0 0 0, .rank 0 0, .veil 0, .unveil 0, .tie 0 0, .show 0, .hold 0, .let_]
def letB (K : PySem.W.Frag) (d : Addr) (z : Lt) : Bool := match PySem.W.nsIn K d z.word with
  | some (some (.ref tb)) => bndB K tb z.bnds
  | _ => false
def lettersB (K : PySem.W.Frag) : Bool := sampL.all fun z => letB K (He.ga K "LETTERS") z
theorem letB_ok {K : PySem.W.Frag} {d : Addr} {z : Lt} (h : letB K d z = true) : ∃ tb, PySem.W.nsIn K d z.word = some (some (.ref tb)) ∧ KB K tb z.bnds := by
  unfold letB at h
  cases q : PySem.W.nsIn K d z.word with
  | none => rw [q] at h; cases h
  | some r =>
    rw [q] at h
    cases r with
    | none => cases h
    | some u =>
      cases u with
      | ref tb => exact ⟨tb, rfl, bndB_ok h⟩
      | _ => cases h
theorem lettersB_ok {K : PySem.W.Frag} (h : lettersB K = true) (z : Lt) : ∃ tb, PySem.W.nsIn K (He.ga K "LETTERS") z.word = some (some (.ref tb)) ∧ KB K tb z.bnds := by
  have g : ∀ y ∈ sampL, letB K (He.ga K "LETTERS") y = true := List.all_eq_true.mp h
  cases z with
  | make n => exact letB_ok (g (.make 0) (by decide))
  | drop n => exact letB_ok (g (.drop 0) (by decide))
  | size n a b => exact letB_ok (g (.size 0 0 0) (by decide))
  | paint n a b c d e => exact letB_ok (g (.paint 0 0 0 0 0 0) (by decide))
  | place n a b => exact letB_ok (g (.place 0 0 0) (by decide))
  | rank n a => exact letB_ok (g (.rank 0 0) (by decide))
  | veil n => exact letB_ok (g (.veil 0) (by decide))
  | unveil n => exact letB_ok (g (.unveil 0) (by decide))
  | tie n a => exact letB_ok (g (.tie 0 0) (by decide))
  | «show» n => exact letB_ok (g (.show 0) (by decide))
  | hold n => exact letB_ok (g (.hold 0) (by decide))
  | let_ => exact letB_ok (g .let_ (by decide))
def ideqB (K : PySem.W.Frag) (C : Addr) : Bool := match PySem.W.mroIn K C (.type "object"), PySem.W.findIn K (.ref C) "__eq__", PySem.W.subIn K (.ref C) (.type "NoneType") with
  | some true, some (some (.builtin b)), some false => decide (b = "object.__eq__")
  | _, _, _ => false
theorem ideqB_ok {K : PySem.W.Frag} {C : Addr} (h : ideqB K C = true) : IdEq K C := by
  unfold ideqB at h
  split at h
  · rename_i b h1 h2 h3
    exact ⟨h1, by rw [h2, of_decide_eq_true h], h3⟩
  · cases h
/-! the facts -/

def faL0 : List He.Fa := [.glo "Look", .cls "Look", .mkr "Look", .noat "Look" "wide", .noat "Look" "high", .noat "Look" "marks", .noat "Look" "x", .noat "Look" "y", .noat "Look" "rank", .noat "Look" "veiled", .glo "Client", .cls "Client", .mkr "Client", .noat "Client" "number", .noat "Client" "fallen", .noat "Client" "row", .noat "Client" "surfaces", .noat "Client" "notes", .glo "Surface", .cls "Surface", .mkr "Surface", .noat "Surface" "owner", .noat "Surface" "name", .noat "Surface" "there", .noat "Surface" "top", .noat "Surface" "parts", .noat "Surface" "pending", .noat "Surface" "ready", .noat "Surface" "shown", .noat "Surface" "newly_shown", .noat "Surface" "laid_x", .noat "Surface" "laid_y", .glo "Hands", .cls "Hands", .mkr "Hands"]
def faL1 : List He.Fa := [.noat "Hands" "fingers", .noat "Hands" "focus", .noat "Hands" "holder", .glo "Screen", .cls "Screen", .mkr "Screen", .noat "Screen" "wide", .noat "Screen" "high", .noat "Screen" "marks", .noat "Screen" "sources", .glo "House", .cls "House", .mkr "House", .noat "House" "_screen", .noat "House" "_clients", .noat "House" "_hands", .meth "Look" "__init__", .meth "Look" "snapshot", .meth "Look" "mark_at", .meth "Look" "resize", .meth "Look" "has_cells", .meth "Look" "fill", .meth "Client" "__init__", .meth "Client" "hear", .meth "Surface" "__init__", .meth "Surface" "let_hear", .meth "Surface" "family", .meth "Surface" "tie_to", .meth "Surface" "show", .meth "Surface" "show_ready", .meth "Surface" "is_unveiled", .glo "can_tie", .keep "can_tie", .glo "can_be", .keep "can_be"]
def faL2 : List He.Fa := [.glo "change_look", .keep "change_look", .glo "do_letter", .keep "do_letter", .glo "do_first", .keep "do_first", .glo "is_within", .keep "is_within", .glo "are_within", .keep "are_within", .glo "is_letter", .keep "is_letter", .meth "Hands" "__init__", .meth "Hands" "is_down", .meth "Hands" "put_down", .meth "Hands" "report", .meth "Hands" "lift", .meth "Hands" "turn_focus", .glo "touch_bounds", .keep "touch_bounds", .glo "is_touch", .keep "is_touch", .glo "laying_order", .keep "laying_order", .glo "lay", .keep "lay", .glo "layers", .keep "layers", .meth "Screen" "__init__", .meth "Screen" "repaint", .meth "Screen" "stamp", .meth "Screen" "changes", .meth "Screen" "seen_at", .meth "House" "__init__", .meth "House" "join"]
def faL3 : List He.Fa := [.meth "House" "tell", .meth "House" "rest", .meth "House" "take", .meth "House" "heard", .meth "House" "touch", .meth "House" "beat", .meth "House" "screen", .meth "House" "_known", .meth "House" "_present", .meth "House" "_tell_shown", .glo "_law_mix", .keep "_law_mix", .glo "_law_next", .keep "_law_next", .glo "at_rest", .keep "at_rest", .glo "_law_alike", .keep "_law_alike", .glo "_law_window", .keep "_law_window", .glo "_law_known", .keep "_law_known", .glo "_law_is_heard", .keep "_law_is_heard", .glo "law", .keep "law", .free "range", .free "list", .free "sorted", .free "len", .free "isinstance", .free "bool", .free "int", .free "tuple", .free "all"]
def faL4 : List He.Fa := [.free "zip", .free "max", .free "min", .free "str", .free "enumerate", .glo "LETTERS", .int "MOST_CLIENTS" 5, .int "LAST_FINGER" 4]
def faL : List He.Fa := faL0 ++ (faL1 ++ (faL2 ++ (faL3 ++ (faL4))))
def fnL0 : List He.FnD := [⟨("Look", some "__init__"), "__init__", "Look.__init__", defArgs sLInit, defBody sLInit, defScope sLInit⟩, ⟨("Look", some "snapshot"), "snapshot", "Look.snapshot", defArgs sLSnap, defBody sLSnap, defScope sLSnap⟩, ⟨("Look", some "mark_at"), "mark_at", "Look.mark_at", defArgs sLMark, defBody sLMark, defScope sLMark⟩, ⟨("Look", some "resize"), "resize", "Look.resize", defArgs sLResize, defBody sLResize, defScope sLResize⟩, ⟨("Look", some "has_cells"), "has_cells", "Look.has_cells", defArgs sLHas, defBody sLHas, defScope sLHas⟩, ⟨("Look", some "fill"), "fill", "Look.fill", defArgs sLFill, defBody sLFill, defScope sLFill⟩, ⟨("Client", some "__init__"), "__init__", "Client.__init__", defArgs sCInit, defBody sCInit, defScope sCInit⟩, ⟨("Client", some "hear"), "hear", "Client.hear", defArgs sCHear, defBody sCHear, defScope sCHear⟩, ⟨("Surface", some "__init__"), "__init__", "Surface.__init__", defArgs sSInit, defBody sSInit, defScope sSInit⟩, ⟨("Surface", some "let_hear"), "let_hear", "Surface.let_hear", defArgs sSLet, defBody sSLet, defScope sSLet⟩, ⟨("Surface", some "family"), "family", "Surface.family", defArgs sSFamily, defBody sSFamily, defScope sSFamily⟩, ⟨("Surface", some "tie_to"), "tie_to", "Surface.tie_to", defArgs sSTie, defBody sSTie, defScope sSTie⟩, ⟨("Surface", some "show"), "show", "Surface.show", defArgs sSShow, defBody sSShow, defScope sSShow⟩, ⟨("Surface", some "show_ready"), "show_ready", "Surface.show_ready", defArgs sSReady, defBody sSReady, defScope sSReady⟩, ⟨("Surface", some "is_unveiled"), "is_unveiled", "Surface.is_unveiled", defArgs sSUnv, defBody sSUnv, defScope sSUnv⟩]
def fnL1 : List He.FnD := [⟨("can_tie", none), "can_tie", "can_tie", defArgs sCanTie, defBody sCanTie, defScope sCanTie⟩, ⟨("can_be", none), "can_be", "can_be", defArgs sCanBe, defBody sCanBe, defScope sCanBe⟩, ⟨("change_look", none), "change_look", "change_look", defArgs sChange, defBody sChange, defScope sChange⟩, ⟨("do_letter", none), "do_letter", "do_letter", defArgs sDo, defBody sDo, defScope sDo⟩, ⟨("do_first", none), "do_first", "do_first", defArgs sFirst, defBody sFirst, defScope sFirst⟩, ⟨("is_within", none), "is_within", "is_within", defArgs sWithin, defBody sWithin, defScope sWithin⟩, ⟨("are_within", none), "are_within", "are_within", defArgs sAre, defBody sAre, defScope sAre⟩, ⟨("is_letter", none), "is_letter", "is_letter", defArgs sIsLet, defBody sIsLet, defScope sIsLet⟩, ⟨("Hands", some "__init__"), "__init__", "Hands.__init__", defArgs sHDInit, defBody sHDInit, defScope sHDInit⟩, ⟨("Hands", some "is_down"), "is_down", "Hands.is_down", defArgs sHaDown, defBody sHaDown, defScope sHaDown⟩, ⟨("Hands", some "put_down"), "put_down", "Hands.put_down", defArgs sHaPut, defBody sHaPut, defScope sHaPut⟩, ⟨("Hands", some "report"), "report", "Hands.report", defArgs sHaRep, defBody sHaRep, defScope sHaRep⟩, ⟨("Hands", some "lift"), "lift", "Hands.lift", defArgs sHaLift, defBody sHaLift, defScope sHaLift⟩, ⟨("Hands", some "turn_focus"), "turn_focus", "Hands.turn_focus", defArgs sHaTurn, defBody sHaTurn, defScope sHaTurn⟩, ⟨("touch_bounds", none), "touch_bounds", "touch_bounds", defArgs sTB, defBody sTB, defScope sTB⟩]
def fnL2 : List He.FnD := [⟨("is_touch", none), "is_touch", "is_touch", defArgs sIT, defBody sIT, defScope sIT⟩, ⟨("laying_order", none), "laying_order", "laying_order", defArgs sOrder, defBody sOrder, defScope sOrder⟩, ⟨("lay", none), "lay", "lay", defArgs sLay, defBody sLay, defScope sLay⟩, ⟨("layers", none), "layers", "layers", defArgs sLayers, defBody sLayers, defScope sLayers⟩, ⟨("Screen", some "__init__"), "__init__", "Screen.__init__", defArgs sNInit, defBody sNInit, defScope sNInit⟩, ⟨("Screen", some "repaint"), "repaint", "Screen.repaint", defArgs sNRep, defBody sNRep, defScope sNRep⟩, ⟨("Screen", some "stamp"), "stamp", "Screen.stamp", defArgs sNStamp, defBody sNStamp, defScope sNStamp⟩, ⟨("Screen", some "changes"), "changes", "Screen.changes", defArgs sNChg, defBody sNChg, defScope sNChg⟩, ⟨("Screen", some "seen_at"), "seen_at", "Screen.seen_at", defArgs sNSeen, defBody sNSeen, defScope sNSeen⟩, ⟨("House", some "__init__"), "__init__", "House.__init__", defArgs sHInit, defBody sHInit, defScope sHInit⟩, ⟨("House", some "join"), "join", "House.join", defArgs sHJoin, defBody sHJoin, defScope sHJoin⟩, ⟨("House", some "tell"), "tell", "House.tell", defArgs sHTell, defBody sHTell, defScope sHTell⟩, ⟨("House", some "rest"), "rest", "House.rest", defArgs sHRest, defBody sHRest, defScope sHRest⟩, ⟨("House", some "take"), "take", "House.take", defArgs sHTake, defBody sHTake, defScope sHTake⟩, ⟨("House", some "heard"), "heard", "House.heard", defArgs sHHeard, defBody sHHeard, defScope sHHeard⟩]
def fnL3 : List He.FnD := [⟨("House", some "touch"), "touch", "House.touch", defArgs sHTouch, defBody sHTouch, defScope sHTouch⟩, ⟨("House", some "beat"), "beat", "House.beat", defArgs sHBeat, defBody sHBeat, defScope sHBeat⟩, ⟨("House", some "screen"), "screen", "House.screen", defArgs sHScreen, defBody sHScreen, defScope sHScreen⟩, ⟨("House", some "_known"), "_known", "House._known", defArgs sHKnown, defBody sHKnown, defScope sHKnown⟩, ⟨("House", some "_present"), "_present", "House._present", defArgs sHPresent, defBody sHPresent, defScope sHPresent⟩, ⟨("House", some "_tell_shown"), "_tell_shown", "House._tell_shown", defArgs sHShown, defBody sHShown, defScope sHShown⟩, ⟨("_law_mix", none), "_law_mix", "_law_mix", defArgs sMix, defBody sMix, defScope sMix⟩, ⟨("_law_next", none), "_law_next", "_law_next", defArgs sNext, defBody sNext, defScope sNext⟩, ⟨("at_rest", none), "at_rest", "at_rest", defArgs sAtRest, defBody sAtRest, defScope sAtRest⟩, ⟨("_law_alike", none), "_law_alike", "_law_alike", defArgs sAlike, defBody sAlike, defScope sAlike⟩, ⟨("_law_window", none), "_law_window", "_law_window", defArgs sWin, defBody sWin, defScope sWin⟩, ⟨("_law_known", none), "_law_known", "_law_known", defArgs sKn, defBody sKn, defScope sKn⟩, ⟨("_law_is_heard", none), "_law_is_heard", "_law_is_heard", defArgs sHd, defBody sHd, defScope sHd⟩, ⟨("law", none), "law", "law", defArgs sLaw, defBody sLaw, defScope sLaw⟩]
def fnL : List He.FnD := fnL0 ++ (fnL1 ++ (fnL2 ++ (fnL3)))
theorem fun_of {K : PySem.W.Frag} (c : He.SaysE faL fnL K) (i : Nat) {at_ : Str × Option Str} {x q : Str} {st : Stmt} (h : fnL[i]? = some ⟨at_, x, q, defArgs st, defBody st, defScope st⟩) (kp : PySem.W.keepIn K (.ref (He.fAd K at_)) = true) : ∃ fd, Fun K x q st (He.fAd K at_) fd := by
  obtain ⟨oc, od, osl, kV, doc, pm, an, cdv, ct, l, cc⟩ := c.def_ i h
  exact ⟨_, fun_mk l cc kp⟩
set_option maxHeartbeats 4000000 in
theorem law_all {P : Program} {w : World} {K : PySem.W.Frag} {h : Heap} {mg : Str → Option Value} {f : Addr} (X : K.In h) (G : h.Ns mainGlobals mg) (hfa : mg ("law" : Str) = some (.ref f))
    (c : He.SaysE faL fnL K) (dc : He.dicW K (He.ga K "LETTERS") = some (He.keysIn w.params wordsL)) (lb : lettersB K = true) (ie : ideqB K (He.ga K "Surface") = true) :
    ∃ fd : FuncData, (∀ (s : Shared) (v : Value), BindsTo s fd ⟨[v], []⟩ [("_law_script", v)]) ∧ ∀ base : Heap, K.In base → base.Ns mainGlobals mg → FnOk P w K mg base CX0 12 f fd ["_law_script"] (spLaw (K := K)) := by
  have mLI := He.meth_ok (c.fact 51 (f := .meth "Look" "__init__") rfl)
  have mLS := He.meth_ok (c.fact 52 (f := .meth "Look" "snapshot") rfl)
  have mLM := He.meth_ok (c.fact 53 (f := .meth "Look" "mark_at") rfl)
  have mLR := He.meth_ok (c.fact 54 (f := .meth "Look" "resize") rfl)
  have mLH := He.meth_ok (c.fact 55 (f := .meth "Look" "has_cells") rfl)
  have mLF := He.meth_ok (c.fact 56 (f := .meth "Look" "fill") rfl)
  have mCI := He.meth_ok (c.fact 57 (f := .meth "Client" "__init__") rfl)
  have mCH := He.meth_ok (c.fact 58 (f := .meth "Client" "hear") rfl)
  have mSI := He.meth_ok (c.fact 59 (f := .meth "Surface" "__init__") rfl)
  have mSL := He.meth_ok (c.fact 60 (f := .meth "Surface" "let_hear") rfl)
  have mSF := He.meth_ok (c.fact 61 (f := .meth "Surface" "family") rfl)
  have mST := He.meth_ok (c.fact 62 (f := .meth "Surface" "tie_to") rfl)
  have mSS := He.meth_ok (c.fact 63 (f := .meth "Surface" "show") rfl)
  have mSR := He.meth_ok (c.fact 64 (f := .meth "Surface" "show_ready") rfl)
  have mSU := He.meth_ok (c.fact 65 (f := .meth "Surface" "is_unveiled") rfl)
  have gdT := He.glo_ok X G (c.fact 66 (f := .glo "can_tie") rfl)
  have kdT := He.keep_ok (c.fact 67 (f := .keep "can_tie") rfl)
  have gdB := He.glo_ok X G (c.fact 68 (f := .glo "can_be") rfl)
  have kdB := He.keep_ok (c.fact 69 (f := .keep "can_be") rfl)
  have gdC := He.glo_ok X G (c.fact 70 (f := .glo "change_look") rfl)
  have kdC := He.keep_ok (c.fact 71 (f := .keep "change_look") rfl)
  have gdD := He.glo_ok X G (c.fact 72 (f := .glo "do_letter") rfl)
  have kdD := He.keep_ok (c.fact 73 (f := .keep "do_letter") rfl)
  have gdF := He.glo_ok X G (c.fact 74 (f := .glo "do_first") rfl)
  have kdF := He.keep_ok (c.fact 75 (f := .keep "do_first") rfl)
  have gfW := He.glo_ok X G (c.fact 76 (f := .glo "is_within") rfl)
  have kfW := He.keep_ok (c.fact 77 (f := .keep "is_within") rfl)
  have gfA := He.glo_ok X G (c.fact 78 (f := .glo "are_within") rfl)
  have kfA := He.keep_ok (c.fact 79 (f := .keep "are_within") rfl)
  have gfL := He.glo_ok X G (c.fact 80 (f := .glo "is_letter") rfl)
  have kfL := He.keep_ok (c.fact 81 (f := .keep "is_letter") rfl)
  have mDI := He.meth_ok (c.fact 82 (f := .meth "Hands" "__init__") rfl)
  have mDd := He.meth_ok (c.fact 83 (f := .meth "Hands" "is_down") rfl)
  have mDp := He.meth_ok (c.fact 84 (f := .meth "Hands" "put_down") rfl)
  have mDr := He.meth_ok (c.fact 85 (f := .meth "Hands" "report") rfl)
  have mDl := He.meth_ok (c.fact 86 (f := .meth "Hands" "lift") rfl)
  have mDt := He.meth_ok (c.fact 87 (f := .meth "Hands" "turn_focus") rfl)
  have gfB := He.glo_ok X G (c.fact 88 (f := .glo "touch_bounds") rfl)
  have kfB := He.keep_ok (c.fact 89 (f := .keep "touch_bounds") rfl)
  have gfT := He.glo_ok X G (c.fact 90 (f := .glo "is_touch") rfl)
  have kfT := He.keep_ok (c.fact 91 (f := .keep "is_touch") rfl)
  have gyO := He.glo_ok X G (c.fact 92 (f := .glo "laying_order") rfl)
  have kyO := He.keep_ok (c.fact 93 (f := .keep "laying_order") rfl)
  have gyL := He.glo_ok X G (c.fact 94 (f := .glo "lay") rfl)
  have kyL := He.keep_ok (c.fact 95 (f := .keep "lay") rfl)
  have gyS := He.glo_ok X G (c.fact 96 (f := .glo "layers") rfl)
  have kyS := He.keep_ok (c.fact 97 (f := .keep "layers") rfl)
  have mNI := He.meth_ok (c.fact 98 (f := .meth "Screen" "__init__") rfl)
  have mNR := He.meth_ok (c.fact 99 (f := .meth "Screen" "repaint") rfl)
  have mNS := He.meth_ok (c.fact 100 (f := .meth "Screen" "stamp") rfl)
  have mNC := He.meth_ok (c.fact 101 (f := .meth "Screen" "changes") rfl)
  have mNs := He.meth_ok (c.fact 102 (f := .meth "Screen" "seen_at") rfl)
  have mHI := He.meth_ok (c.fact 103 (f := .meth "House" "__init__") rfl)
  have mHJ := He.meth_ok (c.fact 104 (f := .meth "House" "join") rfl)
  have mHT := He.meth_ok (c.fact 105 (f := .meth "House" "tell") rfl)
  have mHR := He.meth_ok (c.fact 106 (f := .meth "House" "rest") rfl)
  have mHt := He.meth_ok (c.fact 107 (f := .meth "House" "take") rfl)
  have mHh := He.meth_ok (c.fact 108 (f := .meth "House" "heard") rfl)
  have mHo := He.meth_ok (c.fact 109 (f := .meth "House" "touch") rfl)
  have mHB := He.meth_ok (c.fact 110 (f := .meth "House" "beat") rfl)
  have mHS := He.meth_ok (c.fact 111 (f := .meth "House" "screen") rfl)
  have mHK := He.meth_ok (c.fact 112 (f := .meth "House" "_known") rfl)
  have mHP := He.meth_ok (c.fact 113 (f := .meth "House" "_present") rfl)
  have mHW := He.meth_ok (c.fact 114 (f := .meth "House" "_tell_shown") rfl)
  have gmM := He.glo_ok X G (c.fact 115 (f := .glo "_law_mix") rfl)
  have kmM := He.keep_ok (c.fact 116 (f := .keep "_law_mix") rfl)
  have gmN := He.glo_ok X G (c.fact 117 (f := .glo "_law_next") rfl)
  have kmN := He.keep_ok (c.fact 118 (f := .keep "_law_next") rfl)
  have gaR := He.glo_ok X G (c.fact 119 (f := .glo "at_rest") rfl)
  have kaR := He.keep_ok (c.fact 120 (f := .keep "at_rest") rfl)
  have gmA := He.glo_ok X G (c.fact 121 (f := .glo "_law_alike") rfl)
  have kmA := He.keep_ok (c.fact 122 (f := .keep "_law_alike") rfl)
  have gmW := He.glo_ok X G (c.fact 123 (f := .glo "_law_window") rfl)
  have kmW := He.keep_ok (c.fact 124 (f := .keep "_law_window") rfl)
  have gmK := He.glo_ok X G (c.fact 125 (f := .glo "_law_known") rfl)
  have kmK := He.keep_ok (c.fact 126 (f := .keep "_law_known") rfl)
  have gmH := He.glo_ok X G (c.fact 127 (f := .glo "_law_is_heard") rfl)
  have kmH := He.keep_ok (c.fact 128 (f := .keep "_law_is_heard") rfl)
  have gmL := He.glo_ok X G (c.fact 129 (f := .glo "law") rfl)
  have kmL := He.keep_ok (c.fact 130 (f := .keep "law") rfl)
  obtain ⟨fdLI, FLI⟩ := fun_of c 0 (at_ := ("Look", some "__init__")) (x := "__init__") (q := "Look.__init__") (st := sLInit) rfl mLI.kp
  have bLI := FLI.binds (ps := ["self"]) fun _ _ _ _ _ _ us hl => match us, hl with | [_], _ => rfl
  obtain ⟨fdLS, FLS⟩ := fun_of c 1 (at_ := ("Look", some "snapshot")) (x := "snapshot") (q := "Look.snapshot") (st := sLSnap) rfl mLS.kp
  have bLS := FLS.binds (ps := ["self"]) fun _ _ _ _ _ _ us hl => match us, hl with | [_], _ => rfl
  obtain ⟨fdLM, FLM⟩ := fun_of c 2 (at_ := ("Look", some "mark_at")) (x := "mark_at") (q := "Look.mark_at") (st := sLMark) rfl mLM.kp
  have bLM := FLM.binds (ps := ["self", "x", "y"]) fun _ _ _ _ _ _ us hl => match us, hl with | [_, _, _], _ => rfl
  obtain ⟨fdLR, FLR⟩ := fun_of c 3 (at_ := ("Look", some "resize")) (x := "resize") (q := "Look.resize") (st := sLResize) rfl mLR.kp
  have bLR := FLR.binds (ps := ["self", "wide", "high"]) fun _ _ _ _ _ _ us hl => match us, hl with | [_, _, _], _ => rfl
  obtain ⟨fdLH, FLH⟩ := fun_of c 4 (at_ := ("Look", some "has_cells")) (x := "has_cells") (q := "Look.has_cells") (st := sLHas) rfl mLH.kp
  have bLH := FLH.binds (ps := ["self", "x", "y", "wide", "high"]) fun _ _ _ _ _ _ us hl => match us, hl with | [_, _, _, _, _], _ => rfl
  obtain ⟨fdLF, FLF⟩ := fun_of c 5 (at_ := ("Look", some "fill")) (x := "fill") (q := "Look.fill") (st := sLFill) rfl mLF.kp
  have bLF := FLF.binds (ps := ["self", "x", "y", "wide", "high", "mark"]) fun _ _ _ _ _ _ us hl => match us, hl with | [_, _, _, _, _, _], _ => rfl
  obtain ⟨fdCI, FCI⟩ := fun_of c 6 (at_ := ("Client", some "__init__")) (x := "__init__") (q := "Client.__init__") (st := sCInit) rfl mCI.kp
  have bCI := FCI.binds (ps := ["self", "number"]) fun _ _ _ _ _ _ us hl => match us, hl with | [_, _], _ => rfl
  obtain ⟨fdCH, FCH⟩ := fun_of c 7 (at_ := ("Client", some "hear")) (x := "hear") (q := "Client.hear") (st := sCHear) rfl mCH.kp
  have bCH := FCH.binds (ps := ["self", "note"]) fun _ _ _ _ _ _ us hl => match us, hl with | [_, _], _ => rfl
  obtain ⟨fdSI, FSI⟩ := fun_of c 8 (at_ := ("Surface", some "__init__")) (x := "__init__") (q := "Surface.__init__") (st := sSInit) rfl mSI.kp
  have bSI := FSI.binds (ps := ["self", "owner", "name"]) fun _ _ _ _ _ _ us hl => match us, hl with | [_, _, _], _ => rfl
  obtain ⟨fdSL, FSL⟩ := fun_of c 9 (at_ := ("Surface", some "let_hear")) (x := "let_hear") (q := "Surface.let_hear") (st := sSLet) rfl mSL.kp
  obtain ⟨fdSF, FSF⟩ := fun_of c 10 (at_ := ("Surface", some "family")) (x := "family") (q := "Surface.family") (st := sSFamily) rfl mSF.kp
  have bSF := FSF.binds (ps := ["self"]) fun _ _ _ _ _ _ us hl => match us, hl with | [_], _ => rfl
  obtain ⟨fdST, FST⟩ := fun_of c 11 (at_ := ("Surface", some "tie_to")) (x := "tie_to") (q := "Surface.tie_to") (st := sSTie) rfl mST.kp
  have bST := FST.binds (ps := ["self", "other"]) fun _ _ _ _ _ _ us hl => match us, hl with | [_, _], _ => rfl
  obtain ⟨fdSS, FSS⟩ := fun_of c 12 (at_ := ("Surface", some "show")) (x := "show") (q := "Surface.show") (st := sSShow) rfl mSS.kp
  have bSS := FSS.binds (ps := ["self"]) fun _ _ _ _ _ _ us hl => match us, hl with | [_], _ => rfl
  obtain ⟨fdSR, FSR⟩ := fun_of c 13 (at_ := ("Surface", some "show_ready")) (x := "show_ready") (q := "Surface.show_ready") (st := sSReady) rfl mSR.kp
  have bSR := FSR.binds (ps := ["self"]) fun _ _ _ _ _ _ us hl => match us, hl with | [_], _ => rfl
  obtain ⟨fdSU, FSU⟩ := fun_of c 14 (at_ := ("Surface", some "is_unveiled")) (x := "is_unveiled") (q := "Surface.is_unveiled") (st := sSUnv) rfl mSU.kp
  have bSU := FSU.binds (ps := ["self"]) fun _ _ _ _ _ _ us hl => match us, hl with | [_], _ => rfl
  obtain ⟨fddT, FdT⟩ := fun_of c 15 (at_ := ("can_tie", none)) (x := "can_tie") (q := "can_tie") (st := sCanTie) rfl kdT
  have bdT := FdT.binds (ps := ["surfaces", "name", "other"]) fun _ _ _ _ _ _ us hl => match us, hl with | [_, _, _], _ => rfl
  obtain ⟨fddB, FdB⟩ := fun_of c 16 (at_ := ("can_be", none)) (x := "can_be") (q := "can_be") (st := sCanBe) rfl kdB
  have bdB := FdB.binds (ps := ["surfaces", "letter"]) fun _ _ _ _ _ _ us hl => match us, hl with | [_, _], _ => rfl
  obtain ⟨fddC, FdC⟩ := fun_of c 17 (at_ := ("change_look", none)) (x := "change_look") (q := "change_look") (st := sChange) rfl kdC
  have bdC := FdC.binds (ps := ["look", "letter"]) fun _ _ _ _ _ _ us hl => match us, hl with | [_, _], _ => rfl
  obtain ⟨fddD, FdD⟩ := fun_of c 18 (at_ := ("do_letter", none)) (x := "do_letter") (q := "do_letter") (st := sDo) rfl kdD
  have bdD := FdD.binds (ps := ["client", "hands", "letter"]) fun _ _ _ _ _ _ us hl => match us, hl with | [_, _, _], _ => rfl
  obtain ⟨fddF, FdF⟩ := fun_of c 19 (at_ := ("do_first", none)) (x := "do_first") (q := "do_first") (st := sFirst) rfl kdF
  have bdF := FdF.binds (ps := ["client", "hands"]) fun _ _ _ _ _ _ us hl => match us, hl with | [_, _], _ => rfl
  obtain ⟨fdfW, FfW⟩ := fun_of c 20 (at_ := ("is_within", none)) (x := "is_within") (q := "is_within") (st := sWithin) rfl kfW
  have bfW := FfW.binds (ps := ["value", "least", "greatest"]) fun _ _ _ _ _ _ us hl => match us, hl with | [_, _, _], _ => rfl
  obtain ⟨fdfA, FfA⟩ := fun_of c 21 (at_ := ("are_within", none)) (x := "are_within") (q := "are_within") (st := sAre) rfl kfA
  have bfA := FfA.binds (ps := ["numbers", "bounds"]) fun _ _ _ _ _ _ us hl => match us, hl with | [_, _], _ => rfl
  obtain ⟨fdfL, FfL⟩ := fun_of c 22 (at_ := ("is_letter", none)) (x := "is_letter") (q := "is_letter") (st := sIsLet) rfl kfL
  have bfL := FfL.binds (ps := ["letter"]) fun _ _ _ _ _ _ us hl => match us, hl with | [_], _ => rfl
  obtain ⟨fdDI, FDI⟩ := fun_of c 23 (at_ := ("Hands", some "__init__")) (x := "__init__") (q := "Hands.__init__") (st := sHDInit) rfl mDI.kp
  have bDI := FDI.binds (ps := ["self"]) fun _ _ _ _ _ _ us hl => match us, hl with | [_], _ => rfl
  obtain ⟨fdDd, FDd⟩ := fun_of c 24 (at_ := ("Hands", some "is_down")) (x := "is_down") (q := "Hands.is_down") (st := sHaDown) rfl mDd.kp
  have bDd := FDd.binds (ps := ["self", "finger"]) fun _ _ _ _ _ _ us hl => match us, hl with | [_, _], _ => rfl
  obtain ⟨fdDp, FDp⟩ := fun_of c 25 (at_ := ("Hands", some "put_down")) (x := "put_down") (q := "Hands.put_down") (st := sHaPut) rfl mDp.kp
  have bDp := FDp.binds (ps := ["self", "finger", "seen", "x", "y"]) fun _ _ _ _ _ _ us hl => match us, hl with | [_, _, _, _, _], _ => rfl
  obtain ⟨fdDr, FDr⟩ := fun_of c 26 (at_ := ("Hands", some "report")) (x := "report") (q := "Hands.report") (st := sHaRep) rfl mDr.kp
  have bDr := FDr.binds (ps := ["self", "word", "finger", "x", "y"]) fun _ _ _ _ _ _ us hl => match us, hl with | [_, _, _, _, _], _ => rfl
  obtain ⟨fdDl, FDl⟩ := fun_of c 27 (at_ := ("Hands", some "lift")) (x := "lift") (q := "Hands.lift") (st := sHaLift) rfl mDl.kp
  have bDl := FDl.binds (ps := ["self", "finger"]) fun _ _ _ _ _ _ us hl => match us, hl with | [_, _], _ => rfl
  obtain ⟨fdDt, FDt⟩ := fun_of c 28 (at_ := ("Hands", some "turn_focus")) (x := "turn_focus") (q := "Hands.turn_focus") (st := sHaTurn) rfl mDt.kp
  have bDt := FDt.binds (ps := ["self", "surface"]) fun _ _ _ _ _ _ us hl => match us, hl with | [_, _], _ => rfl
  obtain ⟨fdfB, FfB⟩ := fun_of c 29 (at_ := ("touch_bounds", none)) (x := "touch_bounds") (q := "touch_bounds") (st := sTB) rfl kfB
  have bfB := FfB.binds (ps := ["word", "wide", "high"]) fun _ _ _ _ _ _ us hl => match us, hl with | [_, _, _], _ => rfl
  obtain ⟨fdfT, FfT⟩ := fun_of c 30 (at_ := ("is_touch", none)) (x := "is_touch") (q := "is_touch") (st := sIT) rfl kfT
  have bfT := FfT.binds (ps := ["what", "wide", "high"]) fun _ _ _ _ _ _ us hl => match us, hl with | [_, _, _], _ => rfl
  obtain ⟨fdyO, FyO⟩ := fun_of c 31 (at_ := ("laying_order", none)) (x := "laying_order") (q := "laying_order") (st := sOrder) rfl kyO
  have byO := FyO.binds (ps := ["surface"]) fun _ _ _ _ _ _ us hl => match us, hl with | [_], _ => rfl
  obtain ⟨fdyL, FyL⟩ := fun_of c 32 (at_ := ("lay", none)) (x := "lay") (q := "lay") (st := sLay) rfl kyL
  have byL := FyL.binds (ps := ["laid", "surfaces", "x", "y"]) fun _ _ _ _ _ _ us hl => match us, hl with | [_, _, _, _], _ => rfl
  obtain ⟨fdyS, FyS⟩ := fun_of c 33 (at_ := ("layers", none)) (x := "layers") (q := "layers") (st := sLayers) rfl kyS
  have byS := FyS.binds (ps := ["clients"]) fun _ _ _ _ _ _ us hl => match us, hl with | [_], _ => rfl
  obtain ⟨fdNI, FNI⟩ := fun_of c 34 (at_ := ("Screen", some "__init__")) (x := "__init__") (q := "Screen.__init__") (st := sNInit) rfl mNI.kp
  have bNI := FNI.binds (ps := ["self", "wide", "high"]) fun _ _ _ _ _ _ us hl => match us, hl with | [_, _, _], _ => rfl
  obtain ⟨fdNR, FNR⟩ := fun_of c 35 (at_ := ("Screen", some "repaint")) (x := "repaint") (q := "Screen.repaint") (st := sNRep) rfl mNR.kp
  have bNR := FNR.binds (ps := ["self", "laid"]) fun _ _ _ _ _ _ us hl => match us, hl with | [_, _], _ => rfl
  obtain ⟨fdNS, FNS⟩ := fun_of c 36 (at_ := ("Screen", some "stamp")) (x := "stamp") (q := "Screen.stamp") (st := sNStamp) rfl mNS.kp
  have bNS := FNS.binds (ps := ["self", "surface", "left", "top"]) fun _ _ _ _ _ _ us hl => match us, hl with | [_, _, _, _], _ => rfl
  obtain ⟨fdNC, FNC⟩ := fun_of c 37 (at_ := ("Screen", some "changes")) (x := "changes") (q := "Screen.changes") (st := sNChg) rfl mNC.kp
  have bNC := FNC.binds (ps := ["self", "before"]) fun _ _ _ _ _ _ us hl => match us, hl with | [_, _], _ => rfl
  obtain ⟨fdNs, FNs⟩ := fun_of c 38 (at_ := ("Screen", some "seen_at")) (x := "seen_at") (q := "Screen.seen_at") (st := sNSeen) rfl mNs.kp
  have bNs := FNs.binds (ps := ["self", "x", "y"]) fun _ _ _ _ _ _ us hl => match us, hl with | [_, _, _], _ => rfl
  obtain ⟨fdHI, FHI⟩ := fun_of c 39 (at_ := ("House", some "__init__")) (x := "__init__") (q := "House.__init__") (st := sHInit) rfl mHI.kp
  have bHI := FHI.binds (ps := ["self", "wide", "high"]) fun _ _ _ _ _ _ us hl => match us, hl with | [_, _, _], _ => rfl
  obtain ⟨fdHJ, FHJ⟩ := fun_of c 40 (at_ := ("House", some "join")) (x := "join") (q := "House.join") (st := sHJoin) rfl mHJ.kp
  have bHJ := FHJ.binds (ps := ["self"]) fun _ _ _ _ _ _ us hl => match us, hl with | [_], _ => rfl
  obtain ⟨fdHT, FHT⟩ := fun_of c 41 (at_ := ("House", some "tell")) (x := "tell") (q := "House.tell") (st := sHTell) rfl mHT.kp
  have bHT := FHT.binds (ps := ["self", "client", "letter"]) fun _ _ _ _ _ _ us hl => match us, hl with | [_, _, _], _ => rfl
  obtain ⟨fdHR, FHR⟩ := fun_of c 42 (at_ := ("House", some "rest")) (x := "rest") (q := "House.rest") (st := sHRest) rfl mHR.kp
  have bHR := FHR.binds (ps := ["self"]) fun _ _ _ _ _ _ us hl => match us, hl with | [_], _ => rfl
  obtain ⟨fdHt, FHt⟩ := fun_of c 43 (at_ := ("House", some "take")) (x := "take") (q := "House.take") (st := sHTake) rfl mHt.kp
  have bHt := FHt.binds (ps := ["self", "client"]) fun _ _ _ _ _ _ us hl => match us, hl with | [_, _], _ => rfl
  obtain ⟨fdHh, FHh⟩ := fun_of c 44 (at_ := ("House", some "heard")) (x := "heard") (q := "House.heard") (st := sHHeard) rfl mHh.kp
  have bHh := FHh.binds (ps := ["self", "client"]) fun _ _ _ _ _ _ us hl => match us, hl with | [_, _], _ => rfl
  obtain ⟨fdHo, FHo⟩ := fun_of c 45 (at_ := ("House", some "touch")) (x := "touch") (q := "House.touch") (st := sHTouch) rfl mHo.kp
  have bHo := FHo.binds (ps := ["self", "what"]) fun _ _ _ _ _ _ us hl => match us, hl with | [_, _], _ => rfl
  obtain ⟨fdHB, FHB⟩ := fun_of c 46 (at_ := ("House", some "beat")) (x := "beat") (q := "House.beat") (st := sHBeat) rfl mHB.kp
  have bHB := FHB.binds (ps := ["self"]) fun _ _ _ _ _ _ us hl => match us, hl with | [_], _ => rfl
  obtain ⟨fdHS, FHS⟩ := fun_of c 47 (at_ := ("House", some "screen")) (x := "screen") (q := "House.screen") (st := sHScreen) rfl mHS.kp
  have bHS := FHS.binds (ps := ["self"]) fun _ _ _ _ _ _ us hl => match us, hl with | [_], _ => rfl
  obtain ⟨fdHK, FHK⟩ := fun_of c 48 (at_ := ("House", some "_known")) (x := "_known") (q := "House._known") (st := sHKnown) rfl mHK.kp
  have bHK := FHK.binds (ps := ["self", "client"]) fun _ _ _ _ _ _ us hl => match us, hl with | [_, _], _ => rfl
  obtain ⟨fdHP, FHP⟩ := fun_of c 49 (at_ := ("House", some "_present")) (x := "_present") (q := "House._present") (st := sHPresent) rfl mHP.kp
  have bHP := FHP.binds (ps := ["self", "client"]) fun _ _ _ _ _ _ us hl => match us, hl with | [_, _], _ => rfl
  obtain ⟨fdHW, FHW⟩ := fun_of c 50 (at_ := ("House", some "_tell_shown")) (x := "_tell_shown") (q := "House._tell_shown") (st := sHShown) rfl mHW.kp
  have bHW := FHW.binds (ps := ["self", "client"]) fun _ _ _ _ _ _ us hl => match us, hl with | [_, _], _ => rfl
  obtain ⟨fdmM, FmM⟩ := fun_of c 51 (at_ := ("_law_mix", none)) (x := "_law_mix") (q := "_law_mix") (st := sMix) rfl kmM
  have bmM := FmM.binds (ps := ["_law_script", "_law_seed"]) fun _ _ _ _ _ _ us hl => match us, hl with | [_, _], _ => rfl
  obtain ⟨fdmN, FmN⟩ := fun_of c 52 (at_ := ("_law_next", none)) (x := "_law_next") (q := "_law_next") (st := sNext) rfl kmN
  have bmN := FmN.binds (ps := ["_law_h", "_law_many"]) fun _ _ _ _ _ _ us hl => match us, hl with | [_, _], _ => rfl
  obtain ⟨fdaR, FaR⟩ := fun_of c 53 (at_ := ("at_rest", none)) (x := "at_rest") (q := "at_rest") (st := sAtRest) rfl kaR
  have baR := FaR.binds (ps := ["wide", "high", "books"]) fun _ _ _ _ _ _ us hl => match us, hl with | [_, _, _], _ => rfl
  obtain ⟨fdmA, FmA⟩ := fun_of c 54 (at_ := ("_law_alike", none)) (x := "_law_alike") (q := "_law_alike") (st := sAlike) rfl kmA
  have bmA := FmA.binds (ps := ["_law_found", "_law_due"]) fun _ _ _ _ _ _ us hl => match us, hl with | [_, _], _ => rfl
  obtain ⟨fdmW, FmW⟩ := fun_of c 55 (at_ := ("_law_window", none)) (x := "_law_window") (q := "_law_window") (st := sWin) rfl kmW
  have bmW := FmW.binds (ps := ["_law_k", "_law_x", "_law_y", "_law_rank"]) fun _ _ _ _ _ _ us hl => match us, hl with | [_, _, _, _], _ => rfl
  obtain ⟨fdmK, FmK⟩ := fun_of c 56 (at_ := ("_law_known", none)) (x := "_law_known") (q := "_law_known") (st := sKn) rfl kmK
  have bmK := FmK.binds (ps := ["_law_spots"]) fun _ _ _ _ _ _ us hl => match us, hl with | [_], _ => rfl
  obtain ⟨fdmH, FmH⟩ := fun_of c 57 (at_ := ("_law_is_heard", none)) (x := "_law_is_heard") (q := "_law_is_heard") (st := sHd) rfl kmH
  have bmH := FmH.binds (ps := ["_law_house", "_law_marks", "_law_owners", "_law_spots", "_law_x", "_law_y"]) fun _ _ _ _ _ _ us hl => match us, hl with | [_, _, _, _, _, _], _ => rfl
  obtain ⟨fdmL, FmL⟩ := fun_of c 58 (at_ := ("law", none)) (x := "law") (q := "law") (st := sLaw) rfl kmL
  have bmL := FmL.binds (ps := ["_law_script"]) fun _ _ _ _ _ _ us hl => match us, hl with | [_], _ => rfl
  have MCL := He.mkr_ok (c.fact 2 (f := .mkr "Look") rfl)
  have MCC := He.mkr_ok (c.fact 12 (f := .mkr "Client") rfl)
  have MCS := He.mkr_ok (c.fact 20 (f := .mkr "Surface") rfl)
  have MCD := He.mkr_ok (c.fact 34 (f := .mkr "Hands") rfl)
  have MCN := He.mkr_ok (c.fact 40 (f := .mkr "Screen") rfl)
  have MCH := He.mkr_ok (c.fact 47 (f := .mkr "House") rfl)
  have TL : TxtL K mg (He.ga K "Look") := ⟨He.cls_ok (c.fact 1 (f := .cls "Look") rfl), He.noat_ok (c.fact 3 (f := .noat "Look" "wide") rfl), He.noat_ok (c.fact 4 (f := .noat "Look" "high") rfl), He.noat_ok (c.fact 5 (f := .noat "Look" "marks") rfl), He.noat_ok (c.fact 6 (f := .noat "Look" "x") rfl), He.noat_ok (c.fact 7 (f := .noat "Look" "y") rfl), He.noat_ok (c.fact 8 (f := .noat "Look" "rank") rfl), He.noat_ok (c.fact 9 (f := .noat "Look" "veiled") rfl), He.glo_ok X G (c.fact 0 (f := .glo "Look") rfl), (He.free_ok X G (c.fact 131 (f := .free "range") rfl)), (He.free_ok X G (c.fact 132 (f := .free "list") rfl))⟩
  have TC : TxtC K mg (He.ga K "Client") := ⟨He.cls_ok (c.fact 11 (f := .cls "Client") rfl), He.noat_ok (c.fact 13 (f := .noat "Client" "number") rfl), He.noat_ok (c.fact 14 (f := .noat "Client" "fallen") rfl), He.noat_ok (c.fact 15 (f := .noat "Client" "row") rfl), He.noat_ok (c.fact 16 (f := .noat "Client" "surfaces") rfl), He.noat_ok (c.fact 17 (f := .noat "Client" "notes") rfl), He.glo_ok X G (c.fact 10 (f := .glo "Client") rfl)⟩
  have TS : TxtS K mg (He.ga K "Surface") := ⟨He.cls_ok (c.fact 19 (f := .cls "Surface") rfl), He.noat_ok (c.fact 21 (f := .noat "Surface" "owner") rfl), He.noat_ok (c.fact 22 (f := .noat "Surface" "name") rfl), He.noat_ok (c.fact 23 (f := .noat "Surface" "there") rfl), He.noat_ok (c.fact 24 (f := .noat "Surface" "top") rfl), He.noat_ok (c.fact 25 (f := .noat "Surface" "parts") rfl), He.noat_ok (c.fact 26 (f := .noat "Surface" "pending") rfl), He.noat_ok (c.fact 27 (f := .noat "Surface" "ready") rfl), He.noat_ok (c.fact 28 (f := .noat "Surface" "shown") rfl), He.noat_ok (c.fact 29 (f := .noat "Surface" "newly_shown") rfl), He.noat_ok (c.fact 30 (f := .noat "Surface" "laid_x") rfl), He.noat_ok (c.fact 31 (f := .noat "Surface" "laid_y") rfl), He.glo_ok X G (c.fact 18 (f := .glo "Surface") rfl), (He.free_ok X G (c.fact 133 (f := .free "sorted") rfl))⟩
  have TD : TxtD K mg (He.ga K "Hands") := ⟨He.cls_ok (c.fact 33 (f := .cls "Hands") rfl), He.noat_ok (c.fact 35 (f := .noat "Hands" "fingers") rfl), He.noat_ok (c.fact 36 (f := .noat "Hands" "focus") rfl), He.noat_ok (c.fact 37 (f := .noat "Hands" "holder") rfl), He.glo_ok X G (c.fact 32 (f := .glo "Hands") rfl)⟩
  have TN : TxtN K mg (He.ga K "Screen") := ⟨He.cls_ok (c.fact 39 (f := .cls "Screen") rfl), He.noat_ok (c.fact 41 (f := .noat "Screen" "wide") rfl), He.noat_ok (c.fact 42 (f := .noat "Screen" "high") rfl), He.noat_ok (c.fact 43 (f := .noat "Screen" "marks") rfl), He.noat_ok (c.fact 44 (f := .noat "Screen" "sources") rfl), He.glo_ok X G (c.fact 38 (f := .glo "Screen") rfl), (He.free_ok X G (c.fact 131 (f := .free "range") rfl)), (He.free_ok X G (c.fact 141 (f := .free "max") rfl)), (He.free_ok X G (c.fact 142 (f := .free "min") rfl))⟩
  have TH : TxtH K mg (He.ga K "House") := ⟨He.cls_ok (c.fact 46 (f := .cls "House") rfl), He.noat_ok (c.fact 48 (f := .noat "House" "_screen") rfl), He.noat_ok (c.fact 49 (f := .noat "House" "_clients") rfl), He.noat_ok (c.fact 50 (f := .noat "House" "_hands") rfl), He.glo_ok X G (c.fact 45 (f := .glo "House") rfl), (He.free_ok X G (c.fact 134 (f := .free "len") rfl)), (He.free_ok X G (c.fact 132 (f := .free "list") rfl)), He.int_ok X G (c.fact 146 (f := .int "MOST_CLIENTS" 5) rfl)⟩
  have TG : TxtG mg := ⟨(He.free_ok X G (c.fact 134 (f := .free "len") rfl))⟩
  have TM : TxtM mg := ⟨(He.free_ok X G (c.fact 132 (f := .free "list") rfl)), (He.free_ok X G (c.fact 141 (f := .free "max") rfl)), (He.free_ok X G (c.fact 134 (f := .free "len") rfl))⟩
  obtain ⟨es, en, KD⟩ := He.dicW_ok dc
  have TF : TxtF K w mg := ⟨(He.free_ok X G (c.fact 135 (f := .free "isinstance") rfl)), (He.free_ok X G (c.fact 136 (f := .free "bool") rfl)), (He.free_ok X G (c.fact 137 (f := .free "int") rfl)), (He.free_ok X G (c.fact 138 (f := .free "tuple") rfl)), (He.free_ok X G (c.fact 134 (f := .free "len") rfl)), (He.free_ok X G (c.fact 139 (f := .free "all") rfl)), (He.free_ok X G (c.fact 140 (f := .free "zip") rfl)), _, es, en, He.glo_ok X G (c.fact 145 (f := .glo "LETTERS") rfl), KD, lettersB_ok lb⟩
  have e := hfa.symm.trans gmL
  cases e
  refine ⟨fdmL, fun s v => ?_, fun base hb hn => ?_⟩
  · obtain ⟨oc, od, kV, doc, pm, an, cdv, ct, osl, rfl, lk, hcd⟩ := FmL.ex
    exact .of_eq rfl
  · have D : DoEnv P w K mg base (He.ga K "Client") (He.ga K "Surface") (He.ga K "Look") :=
      { fSI := _, fdSI := _, MS := MCS, GS := ok_sinit FSI TS TL MCL FLI bLI, bS := bSI,
        fTi := _, fdTi := _, GTi := ok_stie FST TS, bTi := bST, mTi := mST,
        fSh := _, fdSh := _, GSh := ok_sshow FSS TS TL FLS bLS mLS MCL FLI bLI FSF bSF mSF FSR bSR mSR, bSh := bSS, mSh := mSS,
        fCh := _, fdCh := _, GCh := ok_ch FdC TL FLR bLR mLR FLF bLF mLF FLM bLM mLM, bCh := bdC, gCh := gdC, kCh := kdC }
    have GB : FnOk P w K mg base CX0 2 _ _ _ _ := ok_canBe (CC := He.ga K "Client") FdB TS TL TG FdT bdT gdT FLH bLH mLH
    have GD : FnOk P w K mg base CX0 5 _ _ _ _ := ok_do FdD TS TC D
    have GF : FnOk P w K mg base CX0 6 _ _ _ _ := ok_first FdF TC GB bdB gdB kdB GD bdD gdD kdD
    have GA : FnOk P w K mg base CX0 2 _ _ _ _ := ok_are FfA TF FfW bfW gfW
    have GL : FnOk P w K mg base CX0 3 _ _ _ _ := ok_isLet FfL TF GA bfA gfA kfA
    have GY : FnOk P w K mg base CX0 9 _ _ _ _ := ok_layers FyS FyL byL gyL TC TS TL FSU bSU mSU FyO byO gyO 3
    have GN : FnOk P w K mg base CX0 2 _ _ _ _ := ok_ninit FNI TN TF FfW bfW gfW
    have GDI : FnOk P w K mg base CX0 1 _ _ _ _ := ok_hdinit FDI TD
    have GHI : FnOk P w K mg base CX0 4 _ _ _ _ := ok_hinit FHI TH TD TN MCN GN bNI MCD GDI bDI
    have GCI : FnOk P w K mg base CX0 1 _ _ _ _ := ok_cinit FCI TC
    have GHJ : FnOk P w K mg base CX0 3 _ _ _ _ := ok_hjoin (CD := He.ga K "Hands") FHJ TH TC MCC GCI bCI
    have GHK : FnOk P w K mg base CX0 2 _ _ _ _ := ok_hknown FHK TH TF FfW bfW gfW
    have GHP : FnOk P w K mg base CX0 3 _ _ _ _ := ok_hpresent FHP TH TC GHK bHK mHK
    have GHT : FnOk P w K mg base CX0 4 _ _ _ _ := ok_htell (CD := He.ga K "Hands") FHT TH TC GHP bHP mHP GL bfL gfL kfL
    have GHR : FnOk P w K mg base CX0 7 _ _ _ _ := ok_hrestM (CD := He.ga K "Hands") FHR TH TC GF bdF gdF kdF
    have GSL := ok_slet (P := P) (w := w) (mg := mg) (base := base) (CL := He.ga K "Look") FSL TS TC FCH bCH mCH
    have GHW : FnOk P w K mg base CX0 3 _ _ _ _ := ok_hshown2 FHW TS TC GSL mSL
    have GNR : FnOk P w K mg base CX0 3 _ _ _ _ := ok_rep FNR TN TS TL FLM bLM mLM FNS bNS mNS FNC bNC mNC
    have GHB : FnOk P w K mg base CX0 10 _ _ _ _ := ok_hbeatM (CD := He.ga K "Hands") FHB TH TN TC TS GY byS gyS kyS GHW bHW mHW GNR bNR mNR
    have GHS : FnOk P w K mg base CX0 1 _ _ _ _ := ok_hscreen FHS TH TN
    have GHt : FnOk P w K mg base CX0 7 _ _ _ _ := ok_htake (CD := He.ga K "Hands") FHt TH TC GHP bHP mHP GF bdF gdF kdF
    have GHh : FnOk P w K mg base CX0 3 _ _ _ _ := ok_hheard FHh TH TC GHK bHK mHK
    have GAH : FnOk P w K mg base CX0 2 _ _ _ _ := ok_areH FfA TF FfW bfW gfW
    have GTB : FnOk P w K mg base CX0 1 _ _ _ _ := ok_tb FfB (He.int_ok X G (c.fact 147 (f := .int "LAST_FINGER" 4) rfl))
    have GIT : FnOk P w K mg base CX0 3 _ _ _ _ := ok_it FfT TF GAH bfA gfA kfA GTB bfB gfB kfB
    have ID := ideqB_ok ie
    have GDd : FnOk P w K mg base CX0 1 _ _ _ _ := ok_hadown FDd TD
    have GDr : FnOk P w K mg base CX0 3 _ _ _ _ := ok_harep FDr TD TS GSL mSL
    have GDl : FnOk P w K mg base CX0 3 _ _ _ _ := ok_halift FDl TD TS GSL mSL
    have GDt : FnOk P w K mg base CX0 3 _ _ _ _ := ok_haturn FDt TD TS ID GSL mSL
    have GDp : FnOk P w K mg base CX0 4 _ _ _ _ := ok_haput FDp TD GDt bDt mDt GDr bDr mDr
    have GNs : FnOk P w K mg base CX0 1 _ _ _ _ := ok_nseen FNs TN TS
    have GHo : FnOk P w K mg base CX0 5 _ _ _ _ := ok_htouch FHo TH TN TD GIT bfT gfT kfT GDd bDd mDd GDp bDp mDp GDl bDl mDl GNs bNs mNs
    have GaR : FnOk P w K mg base CX0 11 _ _ _ _ := ok_atrest FaR TH (He.free_ok X G (c.fact 144 (f := .free "enumerate") rfl)) MCH GHI bHI GHJ bHJ mHJ GHT bHT mHT GHR bHR mHR GHB bHB mHB GHS bHS mHS
    have TK : TxtK mg := ⟨(He.free_ok X G (c.fact 137 (f := .free "int") rfl)), (He.free_ok X G (c.fact 131 (f := .free "range") rfl)), (He.free_ok X G (c.fact 133 (f := .free "sorted") rfl)), (He.free_ok X G (c.fact 142 (f := .free "min") rfl))⟩
    have TA : TxtA mg := ⟨(He.free_ok X G (c.fact 136 (f := .free "bool") rfl)), (He.free_ok X G (c.fact 137 (f := .free "int") rfl)), (He.free_ok X G (c.fact 135 (f := .free "isinstance") rfl)), (He.free_ok X G (c.fact 134 (f := .free "len") rfl)), (He.free_ok X G (c.fact 132 (f := .free "list") rfl)), (He.free_ok X G (c.fact 131 (f := .free "range") rfl)), (He.free_ok X G (c.fact 143 (f := .free "str") rfl)), (He.free_ok X G (c.fact 138 (f := .free "tuple") rfl))⟩
    have GmM : FnOk P w K mg base CX0 1 _ _ _ _ := ok_mix FmM TM
    have GmN : FnOk P w K mg base CX0 1 _ _ _ _ := ok_next FmN TM
    have GmA : FnOk P w K mg base CX0 3 _ _ _ _ := ok_alike FmA bmA gmA TA 2
    have GmW : FnOk P w K mg base CX0 1 _ _ _ _ := ok_win FmW
    have GmK : FnOk P w K mg base CX0 1 _ _ _ _ := ok_kn FmK TK
    have GmH : FnOk P w K mg base CX0 6 _ _ _ _ := ok_hd FmH TK TH GHh bHh mHh GHo bHo mHo
    exact ok_law FmL TH TK GmM bmM gmM kmM GmN bmN gmN kmN GmW bmW gmW kmW MCH GHI bHI GHJ bHJ mHJ GHT bHT mHT GHt bHt mHt GHB bHB mHB GHS bHS mHS GmK bmK gmK kmK GmA bmA gmA kmA GaR baR gaR kaR GmH bmH gmH kmH
end SH
set_option Elab.async false
set_option maxRecDepth 100000
namespace SH
open PySem PySem.Spec PyProof.Rows L2
theorem walk {l : PySem.W.OpenLaw} {q : Program} {loose : List Str} {XP : (Str → Option Value) → Heap → Prop} {YP : World → Heap → Prop} {d : DefRec} {K : Params → PySem.W.Frag} (hn : l.most = some 63) (hdf : d.params.defaults = [])
    (hY : ∀ (w : World) (h : Heap), YP w h → (K w.params).In h)
    (F : ∀ (w : World) (mg : Str → Option Value) (fa : Addr) (h : Heap), (K w.params).In h → h.Ns mainGlobals mg → mg d.name = some (.ref fa) →
      ∃ fd : FuncData, (∀ (s : Shared) (u : Value), BindsTo s fd ⟨[u], []⟩ [("_law_script", u)]) ∧ ∀ base : Heap, (K w.params).In base → base.Ns mainGlobals mg → FnOk l.prog w (K w.params) mg base CX0 12 fa fd ["_law_script"] (spLaw (K := K w.params))) :
    PySem.W.WalkO q loose XP YP l.row.toRowW d [] (fun f vs => PySem.call f vs) :=
  L2.walk_of (n := 63) (k := 12) (x := "_law_script") (CX := fun _ => CX0) (sp := fun w => spLaw (K := K w.params)) hn (by decide) hdf ⟨rfl, by decide, by decide⟩ hY F (fun _ _ a ns hl _ hS => ⟨a, ns, rfl, hS, hl, fun _ => rfl⟩) fun _ _ _ _ _ z => z
end SH
open PySem PySem.W PyProof.Rows
set_option maxRecDepth 100000 in
set_option maxHeartbeats 0 in
theorem PySem.Challenge.cw_surfacehall_k16_known_screens_holds : PySem.Challenge.rw_surfacehall_k16_known_screens.Holds := by
  w_on; o_law; k_head; (case hw => w_witness2)
  k_fill
  refine SH.walk (l := PySem.Challenge.rw_surfacehall_k16_known_screens) rfl rfl (fun w h Y => PySem.W.kIn_of Y) ?F
  case F =>
    intro w mg fa h KX G hmg
    refine' SH.law_all KX G hmg ?c ?dc ?lb ?ie
    (case c => (show He.obsE SH.faL SH.fnL _ = He.valE SH.fnL; kernel_rfl))
    (case dc => kernel_rfl)
    (case lb => kernel_rfl)
    (case ie => kernel_rfl)
