import PyProof.Rows.All
import Wide.All
import OpenK.AllK
import Wide.FinOn
import HandS.ForMost
import HandS.Evl
import HandS.IsInst
import HandS.TupAny
import HandS.SortInts
import HandS.Conv
import HandS.TupLen
import HandS.TupMul
import HandS.Steps
import PyProof.ReprRoads
import PyProof.Rows.RegFStrParts
import HandS.Walk
import HandS.ForExc
import HandS.ExcInit
import HandS.ExcOwn
import HandS.ExcField
import HandS.WordsExc
import HandS.Defaults
import HandS.ExcIs
import KE.KExcIs
import HandS.Property
import HandS.HotCalls
import HandS.MakeKw
import HandS.MakeKwOnly
import PySem.Challenge.RW_onlythedirt_k59_errors_apart
set_option Elab.async false
set_option linter.all false
set_option maxRecDepth 100000
set_option maxHeartbeats 4000000
namespace Od
open PySem L2 Evl
/-- the same objects, the one at a told otherwise -/
structure Swp (P : Program) (w : World) (H' H'' : Hp) (a : Addr) (o u : HO) : Prop where
  at1 : H' a = some o
  eq : H'' = upd H' a u
  nt : ∀ xs, o ≠ .tup xs
  nf : ∀ x y, o ≠ .frz x y
  nb : ∀ ps, o ≠ .tbl ps
  nw : ∀ x, o ≠ .own x
  to : ∀ h, HOk P w H' h → ObjOk P w H'' h a u
theorem Swp.ne {P : Program} {w : World} {H' H'' : Hp} {a b : Addr} {o u x : HO} (S : Swp P w H' H'' a o u) (h : H' b = some x) (d : o ≠ x) : b ≠ a := by
  intro e
  rw [e, S.at1] at h
  exact d (Option.some.inj h)
theorem Swp.hok {P : Program} {w : World} {H' H'' : Hp} {a : Addr} {o u : HO} {h : Heap} (S : Swp P w H' H'' a o u) (k : HOk P w H' h) : HOk P w H'' h := by
  intro b x e
  by_cases hb : b = a
  · subst hb
    have e2 := e
    rw [S.eq, upd_same] at e2
    cases e2
    exact S.to h k
  · have e1 : H' b = some x := by
      rw [S.eq, upd_ne hb] at e
      exact e
    refine (k b x e1).stay (fun c v _ q => q) (fun c q => ?_) (fun c xs q => ?_)
    · rw [S.eq, upd_ne (S.ne q (S.nw _))]
      exact q
    · rw [S.eq, upd_ne (S.ne q (S.nt _))]
      exact q
theorem Swp.env {P : Program} {w : World} {K : PySem.W.Frag} {mg : Str → Option Value} {base : Heap} {A : Around} {outer : List Env} {s : Shared} {H H1 : Hp} {a : Addr} {o u : HO}
    (S : Swp P w H H1 a o u) (e : Env0 P w K mg base A outer s H) : Env0 P w K mg base A outer s H1 := by
  have z : ∀ b, H b = none → H1 b = none := fun b n => by
    rw [S.eq, upd_ne ?_]
    · exact n
    · intro z
      rw [z, S.at1] at n
      cases n
  exact ⟨e.frames, e.mod, fun b x q => ⟨(e.bs b x q).1, z b (e.bs b x q).2⟩, e.bsz, e.funs, fun b hb => z b (e.frf b hb), S.hok e.hok, e.bare⟩
end Od
namespace Od
open PySem L2 Evl
def deckV (n k seed : Int) (l : Addr) (c : Int) : List V := [.int n, .int k, .int seed, .ref l, .int c]
def IsDeck (l : Addr) (xs : List V) : Prop := ∃ n k seed c, xs = deckV n k seed l c ∧ 0 ≤ n ∧ 0 ≤ k ∧ 0 ≤ seed ∧ seed < 2147483647
def deckO (a l : Addr) : HO := .ext fun h => ∃ xs, IsDeck l xs ∧ ∃ (its : List Value) (n : Nat), Vals xs its ∧ h.get? a = some { cls := .type "list", data := .seq its.toArray n }
def DeckAt (K : PySem.W.Frag) (H : Hp) (a : Addr) : Prop := ∃ (l : Addr) (ns : List Int), H a = some (deckO a l) ∧ H l = some (.lst (ns.map V.int))
theorem DeckAt.mono {K : PySem.W.Frag} {H H' : Hp} {a : Addr} (e : Ex H H') (h : DeckAt K H a) : DeckAt K H' a := by
  obtain ⟨l, ns, h1, h2⟩ := h
  exact ⟨l, ns, e _ _ h1, e _ _ h2⟩
end Od
namespace Od
open PySem L2 Evl
inductive Kn (H : Hp) : V → String → Prop
  | non : Kn H .non "NoneType"
  | bl (b : Bool) : Kn H (.bl b) "bool"
  | int (i : Int) : Kn H (.int i) "int"
  | str (x : Str) : Kn H (.str x) "str"
  | tup {a : Addr} {xs : List V} (h : H a = some (.tup xs)) : Kn H (.ref a) "tuple"
  | lst {a : Addr} {xs : List V} (h : H a = some (.lst xs)) : Kn H (.ref a) "list"
theorem Kn.mono {H H' : Hp} {v : V} {T : String} (e : Ex H H') (k : Kn H v T) : Kn H' v T := by
  cases k with
  | non => exact .non
  | bl b => exact .bl b
  | int i => exact .int i
  | str x => exact .str x
  | tup h => exact .tup (e _ _ h)
  | lst h => exact .lst (e _ _ h)
theorem Kn.ty {K : PySem.W.Frag} {H : Hp} {v : V} {T : String} (k : Kn H v T) : TyX K H v (.type T) := by
  cases k with
  | non => exact .base .non
  | bl b => exact .base (.bl b)
  | int i => exact .base (.int i)
  | str x => exact .base (.str x)
  | tup h => exact .base (.tup h)
  | lst h => exact .base (.lst h)
/-- isinstance of such a value -/
def isA (T n : String) : Bool := T == n || (T == "bool" && n == "int")
theorem kit_str {H : Hp} {v : V} {T : String} (k : Kn H v T) : kitB T "str" = some (isA T "str") := by
  cases k <;> decide +kernel
/-- a comprehension's turn without a test -/
theorem lcY {σ : L2.St} {H : Hp} {A B : Hp → Prop} (h : A H) : tYes σ H (fun b H3 => if b = true then A H3 else B H3) := by
  show if true = true then A H else B H
  exact iteT h
/-- a def that is called: where it stands, what it promises -/
structure Def (P : Program) (w : World) (K : PySem.W.Frag) (mg : Str → Option Value) (base : Heap) (CX : CXT) (x : Str) (k : Nat) (ps : List Str) (sp : Sp) where
  f : Addr
  fd : FuncData
  ok : FnOk P w K mg base CX k f fd ps sp
  mgf : mg x = some (.ref f)
  kp : PySem.W.keepIn K (.ref f) = true
  b : L2.Binds K fd ps []
end Od
namespace Od
open PySem L2 Evl
theorem bt_isinstance : bootBuiltins "isinstance" = some (.builtin "isinstance") := by decide +kernel
theorem bt_repr : bootBuiltins "repr" = some (.builtin "repr") := by decide +kernel
theorem bt_int : bootBuiltins "int" = some (.type "int") := by decide +kernel
theorem bt_str : bootBuiltins "str" = some (.type "str") := by decide +kernel
theorem bt_ValueError : bootBuiltins "ValueError" = some (.type "ValueError") := by decide +kernel
end Od
namespace Od
open PySem L2 Evl
section
variable {X : Cx} (K : PySem.W.Frag)
theorem kisi (h : X.K = K := by rfl) : CallR X (.builtin "isinstance") (rIsi K) := by
  subst h
  exact call_isi
theorem kixL (h : X.K = K := by rfl) : IxR X (rIxL K) := by
  subst h
  exact ix_list
theorem keqD (hu : X.A.units + 64 < cLine) (h : X.K = K := by rfl) : OpR X (compareOp .Eq) (rEqD K) := by
  subst h
  exact op_eqD hu
theorem kin (h : X.K = K := by rfl) : OpR X (compareOp .In) (rIn K false) := by
  subst h
  exact op_in_seq
theorem knotin (h : X.K = K := by rfl) : OpR X (compareOp .NotIn) (rIn K true) := by
  subst h
  exact op_notIn_seq
theorem klen (h : X.K = K := by rfl) : CallR X (.builtin "len") (rLenS K) := by
  subst h
  exact call_len_seq
variable {tg : Expr}
end
end Od
namespace Od
open PySem L2 Evl
def TK (H H' : Hp) : Prop := ∀ a xs, H a = some (.tup xs) → H' a = some (.tup xs)
theorem TK.trans {H H1 H2 : Hp} (a : TK H H1) (b : TK H1 H2) : TK H H2 := fun x o h => b x o (a x o h)
theorem TK.ex {H H' : Hp} (e : Ex H H') : TK H H' := fun a xs h => e a _ h
theorem TK.lst {H : Hp} {p : Addr} {xs : List V} {o : HO} (h : H p = some (.lst xs)) : TK H (upd H p o) := fun a ys h' => by
  rw [upd_ne]
  · exact h'
  · intro e
    rw [e, h] at h'
    cases h'
theorem TK.dT {H : Hp} {p : Addr} {xs : List (List Key × V)} {o : HO} (h : H p = some (.dT xs)) : TK H (upd H p o) := fun a ys h' => by
  rw [upd_ne]
  · exact h'
  · intro e
    rw [e, h] at h'
    cases h'
theorem TK.fresh {H : Hp} {p : Addr} {o : HO} (h : H p = none) : TK H (upd H p o) := TK.ex (Ex.new h)
abbrev Pt := Int × Int
structure Rc where
  l : Int
  t : Int
  r : Int
  b : Int
  deriving DecidableEq
def PtV (H : Hp) (v : V) (q : Pt) : Prop := ∃ p, v = .ref p ∧ H p = some (.tup [.int q.1, .int q.2])
def RcV (H : Hp) (v : V) (q : Rc) : Prop := ∃ p, v = .ref p ∧ H p = some (.tup [.int q.l, .int q.t, .int q.r, .int q.b])
theorem PtV.tk {H H' : Hp} {v : V} {q : Pt} (e : TK H H') (h : PtV H v q) : PtV H' v q := by
  obtain ⟨p, rfl, h⟩ := h
  exact ⟨p, rfl, e _ _ h⟩
theorem RcV.tk {H H' : Hp} {v : V} {q : Rc} (e : TK H H') (h : RcV H v q) : RcV H' v q := by
  obtain ⟨p, rfl, h⟩ := h
  exact ⟨p, rfl, e _ _ h⟩
abbrev RcsV (H : Hp) : List V → List Rc → Prop := Paired (RcV H)
abbrev PtsV (H : Hp) : List V → List Pt → Prop := Paired (PtV H)
theorem RcsV.tk {H H' : Hp} {vs : List V} {qs : List Rc} (e : TK H H') (h : RcsV H vs qs) : RcsV H' vs qs := Paired.mapP h fun _ _ => RcV.tk e
theorem PtsV.tk {H H' : Hp} {vs : List V} {qs : List Pt} (e : TK H H') (h : PtsV H vs qs) : PtsV H' vs qs := Paired.mapP h fun _ _ => PtV.tk e
/-- the bounds of drawn rectangles -/
def Small (m : Int) (q : Rc) : Prop := q.l < q.r ∧ q.t < q.b ∧ q.r - q.l ≤ 50 ∧ q.b - q.t ≤ 50 ∧ -m ≤ q.l ∧ q.r ≤ m ∧ -m ≤ q.t ∧ q.b ≤ m
theorem Small.mono {m n : Int} {q : Rc} (h : Small m q) (e : m ≤ n) : Small n q := by
  obtain ⟨a, b, c, d, e1, e2, e3, e4⟩ := h
  refine ⟨a, b, c, d, ?_, ?_, ?_, ?_⟩ <;> omega
theorem slineL {n : Nat} (h : n < 1000000) : n < sizeLine := Nat.lt_of_lt_of_le h (by decide)
end Od
namespace Od
open PySem L2 Evl
def ptK (q : Pt) : List Key := [.inl q.1, .inl q.2]
def mkd (pts : List Pt) : List (List Key × V) := pts.map fun q => (ptK q, V.bl true)
def inRc (q : Rc) (x y : Int) : Prop := q.l ≤ x ∧ x < q.r ∧ q.t ≤ y ∧ y < q.b
end Od
namespace Od
def RunsFrom : Int → List Pt → Prop
  | _, [] => True
  | b, q :: t => b < q.1 ∧ q.1 < q.2 ∧ RunsFrom q.2 t
def inRuns (rs : List Pt) (x : Int) : Prop := ∃ q ∈ rs, q.1 ≤ x ∧ x < q.2
theorem RunsFrom.mono {b c : Int} {rs : List Pt} (h : RunsFrom b rs) (e : c ≤ b) : RunsFrom c rs := by
  cases rs with
  | nil => trivial
  | cons q t => exact ⟨by have := h.1; omega, h.2.1, h.2.2⟩
theorem inRuns_cons {q : Pt} {t : List Pt} {x : Int} : inRuns (q :: t) x ↔ (q.1 ≤ x ∧ x < q.2) ∨ inRuns t x := by
  constructor
  · rintro ⟨p, hp, h⟩
    rcases List.mem_cons.mp hp with rfl | hp
    · exact .inl h
    · exact .inr ⟨p, hp, h⟩
  · rintro (h | ⟨p, hp, h⟩)
    · exact ⟨q, by simp, h⟩
    · exact ⟨p, by simp [hp], h⟩
theorem RunsFrom.some {b : Int} {q : Pt} {t : List Pt} (h : RunsFrom b (q :: t)) : inRuns (q :: t) q.1 := inRuns_cons.mpr (.inl ⟨by omega, h.2.1⟩)
def RunsOk (rs : List Pt) : Prop := ∃ b, RunsFrom b rs
structure Bd where
  t : Int
  b : Int
  rs : List Pt
  deriving DecidableEq
def BandsFrom : Int → List Pt → List Bd → Prop
  | _, _, [] => True
  | y, prev, d :: t => y ≤ d.t ∧ (y = d.t → prev ≠ d.rs) ∧ d.t < d.b ∧ d.rs ≠ [] ∧ RunsOk d.rs ∧ BandsFrom d.b d.rs t
def inBands (bs : List Bd) (x y : Int) : Prop := ∃ d ∈ bs, d.t ≤ y ∧ y < d.b ∧ inRuns d.rs x
theorem inBands_nil {x y : Int} : ¬ inBands [] x y := fun ⟨_, h, _⟩ => by simp at h
theorem inBands_cons {d : Bd} {t : List Bd} {x y : Int} : inBands (d :: t) x y ↔ (d.t ≤ y ∧ y < d.b ∧ inRuns d.rs x) ∨ inBands t x y := by
  constructor
  · rintro ⟨p, hp, h⟩
    rcases List.mem_cons.mp hp with rfl | hp
    · exact .inl h
    · exact .inr ⟨p, hp, h⟩
  · rintro (h | ⟨p, hp, h⟩)
    · exact ⟨d, by simp, h⟩
    · exact ⟨p, by simp [hp], h⟩
theorem BandsFrom.le : ∀ {bs : List Bd} {y : Int} {p : List Pt} {x y' : Int}, BandsFrom y p bs → inBands bs x y' → y ≤ y'
  | [], _, _, _, _, _, h => absurd h inBands_nil
  | d :: t, y, p, x, y', h, k => by
    rcases inBands_cons.mp k with z | z
    · have := h.1
      omega
    · have := BandsFrom.le h.2.2.2.2.2 z
      have := h.1
      have := h.2.2.1
      omega
theorem BandsFrom.mono {bs : List Bd} {y y' : Int} (h : BandsFrom y [] bs) (e : y' ≤ y) : BandsFrom y' [] bs := by
  cases bs with
  | nil => trivial
  | cons d t => exact ⟨by have := h.1; omega, fun _ => fun z => h.2.2.2.1 z.symm, h.2.2⟩
/-- the rows of the first band, the rows behind it -/
theorem BandsFrom.row {d : Bd} {t : List Bd} {y : Int} {p : List Pt} (h : BandsFrom y p (d :: t)) {x y' : Int} (h1 : d.t ≤ y') (h2 : y' < d.b) : inBands (d :: t) x y' ↔ inRuns d.rs x := by
  rw [inBands_cons]
  constructor
  · rintro (z | z)
    · exact z.2.2
    · have := BandsFrom.le h.2.2.2.2.2 z
      omega
  · exact fun z => .inl ⟨h1, h2, z⟩
def bandRc (d : Bd) : List Rc := d.rs.map fun q => ⟨q.1, d.t, q.2, d.b⟩
def formOf (bs : List Bd) : List Rc := bs.flatMap bandRc
def IsForm (S : Int → Int → Prop) (f : List Rc) : Prop := ∃ y bs, BandsFrom y [] bs ∧ (∀ x y', inBands bs x y' ↔ S x y') ∧ f = formOf bs
theorem mem_form {bs : List Bd} {x y : Int} : inBands bs x y ↔ ∃ q ∈ formOf bs, inRc q x y := by
  constructor
  · rintro ⟨d, hd, h1, h2, q, hq, h3, h4⟩
    exact ⟨⟨q.1, d.t, q.2, d.b⟩, List.mem_flatMap.mpr ⟨d, hd, List.mem_map.mpr ⟨q, hq, rfl⟩⟩, h3, h4, h1, h2⟩
  · rintro ⟨r, hr, h1, h2, h3, h4⟩
    obtain ⟨d, hd, hr⟩ := List.mem_flatMap.mp hr
    obtain ⟨q, hq, rfl⟩ := List.mem_map.mp hr
    exact ⟨d, hd, h3, h4, q, hq, h1, h2⟩
theorem IsForm.mem {S : Int → Int → Prop} {f : List Rc} (h : IsForm S f) (x y : Int) : S x y ↔ ∃ q ∈ f, inRc q x y := by
  obtain ⟨_, bs, _, h2, rfl⟩ := h
  rw [← h2, mem_form]
end Od
namespace Od
open PySem L2 Evl
def intD (ns : List Int) : PyData := .tuple (ns.map PyData.int)
def Eqs (α : Type) [DecidableEq α] (f : α → PyData) (d : Nat) : Prop := (∀ x y, PyData.eqv (f x) (f y) = decide (x = y)) ∧ (∀ x, (f x).canLay0 = true) ∧ ∀ x, (f x).depth ≤ d
theorem eqvAll_map {α : Type} [DecidableEq α] {f : α → PyData} (h : ∀ x y, PyData.eqv (f x) (f y) = decide (x = y)) : ∀ xs ys : List α, PyData.eqvAll (xs.map f) (ys.map f) = decide (xs = ys)
  | [], [] => by simp [PyData.eqvAll]
  | [], y :: ys => by simp [PyData.eqvAll]
  | x :: xs, [] => by simp [PyData.eqvAll]
  | x :: xs, y :: ys => by
    rw [List.map_cons, List.map_cons, PyData.eqvAll, h, eqvAll_map h xs ys]
    by_cases e : x = y <;> by_cases e2 : xs = ys <;> simp [e, e2]
theorem canLay_map {α : Type} {f : α → PyData} (h : ∀ x, (f x).canLay0 = true) : ∀ xs : List α, PyData.canLayAll0 (xs.map f) = true
  | [] => by simp [PyData.canLayAll0]
  | x :: xs => by
    rw [List.map_cons, PyData.canLayAll0, h, canLay_map h xs]
    rfl
theorem depth_map {α : Type} {f : α → PyData} {d : Nat} (h : ∀ x, (f x).depth ≤ d) : ∀ xs : List α, PyData.depthAll (xs.map f) ≤ d
  | [] => by simp [PyData.depthAll]
  | x :: xs => by
    rw [List.map_cons, PyData.depthAll]
    exact Nat.max_le.mpr ⟨h x, depth_map h xs⟩
theorem Eqs.lst {α : Type} [DecidableEq α] {f : α → PyData} {d : Nat} (h : Eqs α f d) : Eqs (List α) (fun xs => .list (xs.map f)) (d + 1) :=
  ⟨fun x y => by rw [PyData.eqv, eqvAll_map h.1], fun x => by simp only [PyData.canLay0]; exact canLay_map h.2.1 x, fun x => by simp only [PyData.depth]; have := depth_map h.2.2 x; omega⟩
theorem Eqs.tup {α : Type} [DecidableEq α] {f : α → PyData} {d : Nat} (h : Eqs α f d) : Eqs (List α) (fun xs => .tuple (xs.map f)) (d + 1) :=
  ⟨fun x y => by rw [PyData.eqv, eqvAll_map h.1], fun x => by simp only [PyData.canLay0]; exact canLay_map h.2.1 x, fun x => by simp only [PyData.depth]; have := depth_map h.2.2 x; omega⟩
theorem Eqs.shaped {α : Type} [DecidableEq α] {f : α → PyData} {d : Nat} (h : Eqs α f d) (hd : d ≤ 64) (x : α) : SeqAt.shaped (f x) = true := by
  unfold SeqAt.shaped
  rw [h.2.1 x, decide_eq_true (Nat.le_trans (h.2.2 x) hd)]
  rfl
def ptD (q : Pt) : PyData := intD [q.1, q.2]
def rcD (q : Rc) : PyData := intD [q.l, q.t, q.r, q.b]
theorem dp_ints {K : PySem.W.Frag} {H : Hp} : ∀ ns : List Int, DpAll K H (ns.map V.int) (ns.map PyData.int)
  | [] => .nil
  | n :: ns => .cons (.int n) (dp_ints ns)
theorem dp_tup {K : PySem.W.Frag} {H : Hp} {a : Addr} {ns : List Int} (h : H a = some (.tup (ns.map V.int))) : Dp K H (.ref a) (intD ns) := .tup (SqT.of h) (dp_ints ns)
theorem PtV.dp {K : PySem.W.Frag} {H : Hp} {v : V} {q : Pt} (h : PtV H v q) : Dp K H v (ptD q) := by
  obtain ⟨p, rfl, h⟩ := h
  exact dp_tup (ns := [q.1, q.2]) h
theorem RcV.dp {K : PySem.W.Frag} {H : Hp} {v : V} {q : Rc} (h : RcV H v q) : Dp K H v (rcD q) := by
  obtain ⟨p, rfl, h⟩ := h
  exact dp_tup (ns := [q.l, q.t, q.r, q.b]) h
theorem RunsOk.nil : RunsOk [] := ⟨0, trivial⟩
end Od
namespace Od
open PySem L2 Evl
def BdV (pb : Addr) (H : Hp) (v : V) (d : Bd) : Prop := ∃ q r us, v = .ref q ∧ q ≠ pb ∧ r ≠ pb ∧ H q = some (.tup [.int d.t, .int d.b, .ref r]) ∧ H r = some (.lst us) ∧ PtsV H us d.rs
def Xb (pb : Addr) (H H' : Hp) : Prop := ∀ a o, a ≠ pb → H a = some o → H' a = some o
theorem BdV.to {pb : Addr} {H H' : Hp} {v : V} {d : Bd} (k : TK H H') (x : Xb pb H H') (h : BdV pb H v d) : BdV pb H' v d := by
  obtain ⟨q, r, us, rfl, nq, nr, h1, h2, h3⟩ := h
  exact ⟨q, r, us, rfl, nq, nr, x _ _ nq h1, x _ _ nr h2, h3.tk k⟩
theorem Xb.ex {pb : Addr} {H H' : Hp} (e : Ex H H') : Xb pb H H' := fun a o _ h => e a o h
theorem Xb.trans {pb : Addr} {H H1 H2 : Hp} (a : Xb pb H H1) (b : Xb pb H1 H2) : Xb pb H H2 := fun x o n h => b x o n (a x o n h)
def SrcAt (K : PySem.W.Frag) (H : Hp) (d : Addr) (pts : List Pt) : Prop := H d = some (.dT (mkd pts)) ∨ ∃ us, SqL K H d us ∧ PtsV H us pts
theorem SrcAt.mono {K : PySem.W.Frag} {H H' : Hp} {d : Addr} {pts : List Pt} (e : Ex H H') (h : SrcAt K H d pts) : SrcAt K H' d pts := by
  rcases h with h | ⟨us, h1, h2⟩
  · exact .inl (e _ _ h)
  · exact .inr ⟨us, ex_l e h1, h2.tk (TK.ex e)⟩
end Od
namespace Od
open PySem L2 Evl
mutual
inductive Da (H : Hp) : V → PyData → Prop
  | non : Da H .non .none
  | bl (b : Bool) : Da H (.bl b) (.bool b)
  | int (i : Int) : Da H (.int i) (.int i)
  | str (x : Str) : Da H (.str x) (.str x)
  | lst {a : Addr} {xs : List V} {ds : List PyData} : H a = some (.lst xs) → DaAll H xs ds → ds.length ≤ 1000000 → Da H (.ref a) (.list ds)
  | tup {a : Addr} {xs : List V} {ds : List PyData} : H a = some (.tup xs) → DaAll H xs ds → ds.length ≤ 1000000 → Da H (.ref a) (.tuple ds)
inductive DaAll (H : Hp) : List V → List PyData → Prop
  | nil : DaAll H [] []
  | cons {v : V} {vs : List V} {d : PyData} {ds : List PyData} : Da H v d → DaAll H vs ds → DaAll H (v :: vs) (d :: ds)
end
mutual
theorem Da.mono {H H' : Hp} (e : Ex H H') : ∀ {v : V} {d : PyData}, Da H v d → Da H' v d
  | _, _, .non => .non
  | _, _, .bl b => .bl b
  | _, _, .int i => .int i
  | _, _, .str x => .str x
  | _, _, .lst h k l => .lst (e _ _ h) (DaAll.mono e k) l
  | _, _, .tup h k l => .tup (e _ _ h) (DaAll.mono e k) l
theorem DaAll.mono {H H' : Hp} (e : Ex H H') : ∀ {vs : List V} {ds : List PyData}, DaAll H vs ds → DaAll H' vs ds
  | _, _, .nil => .nil
  | _, _, .cons h k => .cons (Da.mono e h) (DaAll.mono e k)
end
mutual
theorem Da.dp {K : PySem.W.Frag} {H : Hp} : ∀ {v : V} {d : PyData}, Da H v d → Dp K H v d
  | _, _, .non => .non
  | _, _, .bl b => .bl b
  | _, _, .int i => .int i
  | _, _, .str x => .str x
  | _, _, .lst h k _ => .lst (SqL.of h) (DaAll.dp k)
  | _, _, .tup h k _ => .tup (SqT.of h) (DaAll.dp k)
theorem DaAll.dp {K : PySem.W.Frag} {H : Hp} : ∀ {vs : List V} {ds : List PyData}, DaAll H vs ds → DpAll K H vs ds
  | _, _, .nil => .nil
  | _, _, .cons h k => .cons (Da.dp h) (DaAll.dp k)
end
theorem DaAll.length {H : Hp} : ∀ {vs : List V} {ds : List PyData}, DaAll H vs ds → vs.length = ds.length
  | _, _, .nil => rfl
  | _, _, .cons _ k => by rw [List.length_cons, List.length_cons, DaAll.length k]
theorem da_ints {H : Hp} : ∀ ns : List Int, DaAll H (ns.map V.int) (ns.map PyData.int)
  | [] => .nil
  | n :: ns => .cons (.int n) (da_ints ns)
theorem eqv_self {d : PyData} (h : d.canLay0 = true) : PyData.eqv d d = true := PySem.SeqAt.eqv_refl d h
end Od
namespace Od
open PySem L2 Evl PySem.Spec PyProof.Rows
def Gd (A : Around) : Prop := A.guards = some []
theorem Gd.deeper {A : Around} (g : Gd A) (env : Env) : Gd (A.deeper env) := g
structure FnG (P : Program) (w : World) (K : PySem.W.Frag) (mg : Str → Option Value) (base : Heap) (CX : CXT) (k : Nat) (f : Addr) (fd : FuncData) (ps : List Str) (sp : Sp) : Prop where
  len : ∀ vs H Q E, sp vs H Q E → vs.length = ps.length
  run : ∀ (A : Around) (outer : List Env) (s : Shared) (H : Hp) (args : Args) (us : List Value) (vs : List V) (Q : VK) (E : XK), Gd A → Room k A → Env0 P w K mg base A outer s H →
    BindsTo s fd args (ps.zip us) → Vals vs us → sp vs H Q E → codeAny (model P w) A (.call (.ref f) args) (CR CX outer P w H s Q E) s
section
variable {CX : CXT} {P : Program} {w : World} {K : PySem.W.Frag} {mg : Str → Option Value} {base : Heap} {k : Nat} {f : Addr} {fd : FuncData} {N ps : List Str} {sp : Sp}
theorem FnG.of (F : FnOk P w K mg base CX k f fd ps sp) : FnG P w K mg base CX k f fd ps sp := ⟨F.len, fun A o s H a us vs Q E _ => F.run A o s H a us vs Q E⟩
/-- a body's walk, where no repr is under way -/
theorem Fun.okG {x qual : Str} {st : Stmt} (F : Fun K x qual st f fd) (S : FnScope N ps (defScope st)) (len : ∀ vs H Q E, sp vs H Q E → vs.length = ps.length)
    (hb : ∀ (cdv : Value) (A : Around) (outer : List Env) (s : Shared) (H : Hp) (vs : List V) (Q : VK) (E : XK), Gd (A.deeper (envOfC qual (defScope st) s.heap.objs.size f cdv)) → Room k (A.deeper (envOfC qual (defScope st) s.heap.objs.size f cdv)) → sp vs H Q E →
      ∃ t, PSs (cxOf CX0 P w K mg base N qual (defScope st) f cdv A outer s H E).nox (defBody st) t ∧ t { nx := fun _ H' => Q .non H', rt := Q } (L2.start N vs) H) : FnG P w K mg base CX0 (k + 1) f fd ps sp := by
  obtain ⟨oc, od, kV, doc, pm, an, cdv, ct, osl, rfl, lk, hcd⟩ := F.ex
  refine ⟨len, fun A o s H args us vs Q E gd rm env bnd rel prom => ?_⟩
  have eqlen := len vs H Q E prom
  have kin : K.In s.heap := env.mod.kin.keeps fun b ob e => (env.bs b ob e).1
  have nol : s.heap.NoLimit := env.mod.nolimit.keeps fun b ob e => (env.bs b ob e).1
  have places : ∀ y ∈ ps.zip us, (defScope st).names.lookup y.1 = some .local ∨ ((defScope st).names.lookup y.1 = some .cell ∧ ((cellsFrom (s.heap.objs.size + 1) (defScope st).names []).lookup y.1).isSome = true) := by
    rintro ⟨n, v⟩ hy
    rcases S.par n (List.of_mem_zip hy).1 with z | z
    · exact Or.inl z
    · exact Or.inr ⟨z, PySem.W.cellsFrom_some _ _ _ (Or.inl z)⟩
  refine codeAny_call_function rm.depth (kin _ _ lk) rfl S.co S.gen rfl (PySem.W.codeRec_of kin hcd) (bnd _ _ _ _ ?_)
  refine wpAny_newFunctionEnv_cells S.kind places fun e2 he2 s1 inC => ?_
  subst he2
  refine ⟨nol.keeps inC.toInCall.keep, codeAny_func ?_⟩
  obtain ⟨t, walk, read⟩ := hb cdv A o s H vs Q E (gd.deeper _) (rm.deeper _) prom
  have inv := inv_start (E := E) (CX := CX0) S rm.hd env eqlen rel inC
  refine wpAny_mono (walk.nox.run [] s1 _ H _ inv read) (fun fl s' done => ?_) (fun e s' done => done)
  have give : ∀ {σ' : L2.St} {H' : Hp} {v : V} {u : Value}, Inv (cxOf CX0 P w K mg base N qual (defScope st) f cdv A o s H E) [] σ' H' s' → RelV v u → Q v H' → CE o P w H s Q u s' := by
    intro σ' H' v u J rv qq
    exact ⟨v, H', J.os, J.bare, J.base, J.hok, rv, qq⟩
  match fl, done with
  | .ret u, ⟨v, σ', H', J, rv, qq⟩ => exact give J rv qq
  | .next, ⟨σ', H', J, qq⟩ => exact give (v := V.non) (u := Value.none) J rfl qq
  | .brk, ⟨_, _, _, z⟩ => exact z.elim
  | .cont, ⟨_, _, _, z⟩ => exact z.elim
end
section
variable {X : Cx} {CX : CXT} {k : Nat} {f : Addr} {fd : FuncData} {ps : List Str} {sp : Sp} {dvs : List V} {ds : List Value} {E : XK} {x : Str} {p pos : Pos} {e : Expr} {es : List Expr} {t : TA}
theorem run_g {pins : List (Addr × Obj)} {σ : L2.St} {H : Hp} {s : Shared} {Q : VK} {us : List Value} {vs : List V} (F : FnG X.prog X.w X.K X.mg X.base CX k f fd ps sp) (gd : Gd X.A) (rm : Room k X.A) (hb : L2.Binds X.K fd ps ds) (hd : Vals dvs ds) (hx : Passes CX X E) (I : Inv X pins σ H s) (r : Vals vs us)
    (h : sp (vs ++ dvs) H Q E) : wpAny (model X.prog X.w) X.A (call (.ref f) us) (EP X pins σ Q) X.xe s := by
  have both : Vals (vs ++ dvs) (us ++ ds) := Vals.append r hd
  have hlen : (us ++ ds).length = ps.length := both.length.symm.trans (F.len _ _ _ _ h)
  refine wpAny_call (codeAny_mono (F.run X.A X.stack s H ⟨us, []⟩ (us ++ ds) (vs ++ dvs) Q E gd rm I.env0 (hb s us I.kIn hlen) both h) ?_)
  intro res s' out
  match res, out with
  | .error e, out => exact hx pins σ H s e s' I out
  | .ok (.ret u), out => exact I.after out
theorem pe_callG (F : FnG X.prog X.w X.K X.mg X.base CX k f fd ps sp) (gd : Gd X.A) (rm : Room k X.A) (hg : Gl X x) (hm : X.mg x = some (.ref f)) (hk : PySem.W.keepIn X.K (.ref f) = true) (hb : L2.Binds X.K fd ps ds) (hd : Vals dvs ds) (hx : Passes CX X E) (ha : PA X (e :: es) t)
    (hdb : (x == ("__debug__" : Str)) = false := by decide) (he : starEach (e :: es) X.env = (false, eval e X.env) :: starEach es X.env := by rfl) (hpl : (backTo pos (starEach es X.env)).any (·.1) = false := by rfl) : PE X (.Call (.Name x p) (e :: es) [] pos) (tCall sp dvs E t) := by
  constructor
  intro pins s σ H Q I h
  refine wpAny_Call_Name_kw (ld_glob I hg hm ?_ hdb)
  refine PySem.W.callWith_K (h₀ := X.base) I.ok.mod.kin hk (thn (ha.run pos pins s σ H _ I h) ?_) he hpl
  rintro us s1 ⟨vs, H1, I1, rel, qq⟩
  exact ⟨I1.kIn, run_g F gd rm hb hd hx I1 rel qq⟩
end
structure DefG (P : Program) (w : World) (K : PySem.W.Frag) (mg : Str → Option Value) (base : Heap) (CX : CXT) (x : Str) (k : Nat) (ps : List Str) (sp : Sp) where
  f : Addr
  fd : FuncData
  ok : FnG P w K mg base CX k f fd ps sp
  mgf : mg x = some (.ref f)
  kp : PySem.W.keepIn K (.ref f) = true
  b : L2.Binds K fd ps []
end Od
namespace Od
open PySem L2 Evl PySem.Spec PyProof.Rows
/-- the call of the law at fa with the script at a ends, gives True, and leaves what stood -/
def LawEnds (P : Program) (w : World) (fa a : Addr) (t : Shared) : Prop := codeAny (model P w) callerA (.call (.ref fa) ⟨[.ref a], []⟩) (fun r s' => r = .ok (.ret (.bool true)) ∧ OldK t.heap s'.heap ∧ s'.os = t.os ∧ AllBare s'.gens) t
section
variable {P : Program} {w : World} {K : PySem.W.Frag} {mg mb : Str → Option Value} {k : Nat} {fa a : Addr} {fd : FuncData} {x : Str} {sp : Sp} {s₁ : Shared} {vs : List Value} {ns : List Int}
/-- from an abstract heap in which at most the script stands -/
theorem end_core (kin : K.In s₁.heap) (hns : s₁.heap.Ns mainGlobals mg) (hb : s₁.heap.Ns builtinsNs mb) (hbb : ∀ x : Str, x ≠ "__name__" → mb x = bootBuiltins x) (nol : s₁.heap.NoLimit) (hg : s₁.gens = #[])
    (ha : s₁.heap.get? a = some { cls := .type "list", data := .seq vs.toArray }) (rm : Room k callerA)
    (F : ∀ base : Heap, K.In base → base.Ns mainGlobals mg → FnG P w K mg base CX0 k fa fd [x] sp) (bnd : ∀ (s : Shared) (u : Value), BindsTo s fd ⟨[u], []⟩ [(x, u)])
    (prom : ∀ H : Hp, Only H → SqL K H a (ns.map V.int) → sp [.ref a] H (fun v _ => v = .bl true) fun _ _ _ => False) {H : Hp}
    (only : Only H) (sq : SqL K H a (ns.map V.int)) (hok : HOk P w H s₁.heap) (alone : ∀ b, H b ≠ none → b = a) (notK : H a ≠ none → K.lookup a = none) :
    LawEnds P w fa a s₁ := by
  -- a dict is not the script
  have dictFree : ∀ {b : Addr} {o : Obj} {es : Array DictEntry} {ep : Nat}, s₁.heap.get? b = some o → o.data = .dict es ep → H b = none := by
    intro b o es ep e d
    by_cases z : H b = none
    · exact z
    · have := alone b z
      rw [this, ha] at e
      cases e
      cases (show Data.seq vs.toArray _ = Data.dict es ep from d)
  have space : ∀ {b : Addr} {m : Str → Option Value}, s₁.heap.Ns b m → (hidT s₁.heap H).Ns b m := by
    rintro b m ⟨o, es, ep, e, d, r⟩
    exact ⟨o, es, ep, hidT_get e (dictFree e d), d, r⟩
  have kinB : K.In (hidT s₁.heap H) := by
    intro b o e
    refine hidT_get (kin b o e) ?_
    by_cases z : H b = none
    · exact z
    · have q := alone b z
      subst q
      rw [notK z] at e
      cases e
  obtain ⟨mc, l1, l2⟩ := nol
  have md : Mod K mg (hidT s₁.heap H) := ⟨kinB, space hns, ⟨mb, space hb, hbb⟩, ⟨mc, space l1, l2⟩⟩
  have env : Env0 P w K mg (hidT s₁.heap H) callerA [] s₁ H := ⟨rfl, md, fun b o e => of_hidT e, Nat.le_of_eq (hidT_size _ _), trivial, fun b z => absurd z (show b ∉ ([] : List Addr) by simp), hok, .of_eq hg⟩
  refine codeAny_mono ((F _ kinB (space hns)).run callerA [] s₁ H ⟨[.ref a], []⟩ [.ref a] [.ref a] _ _ rfl rm env (bnd s₁ (.ref a)) (.cons rfl .nil) (prom H only sq)) ?_
  intro r s' out
  match r, out with
  | .ok (.ret u), ⟨v, H', os, bare, un, hok', rv, qv⟩ =>
    have ev : v = .bl true := qv
    subst ev
    obtain rfl : u = Value.bool true := rv
    refine ⟨rfl, OldK.of_keep fun b o e => ?_, os, bare⟩
    by_cases z : H b = none
    · exact un.keep b o e z (show b ∉ frs [] by intro q; exact absurd (show b ∈ ([] : List Addr) from q) (by simp)) (by simp)
    · rcases only b with q | ⟨ob, xs, q⟩
      · exact absurd q z
      · obtain ⟨f1, _⟩ := hok b _ q
        obtain ⟨f2, _⟩ := hok' b _ (un.frzs b ob _ q)
        rw [e] at f1
        cases f1
        exact f2
theorem end_call (kin : K.In s₁.heap) (hns : s₁.heap.Ns mainGlobals mg) (hb : s₁.heap.Ns builtinsNs mb) (hbb : ∀ x : Str, x ≠ "__name__" → mb x = bootBuiltins x) (nol : s₁.heap.NoLimit) (hg : s₁.gens = #[])
    (ha : s₁.heap.get? a = some { cls := .type "list", data := .seq vs.toArray }) (hi : IntsAre vs ns) (hl : ns.length ≤ sizeLine) (rm : Room k callerA)
    (F : ∀ base : Heap, K.In base → base.Ns mainGlobals mg → FnG P w K mg base CX0 k fa fd [x] sp) (bnd : ∀ (s : Shared) (u : Value), BindsTo s fd ⟨[u], []⟩ [(x, u)])
    (prom : ∀ H : Hp, Only H → SqL K H a (ns.map V.int) → sp [.ref a] H (fun v _ => v = .bl true) fun _ _ _ => False) :
    LawEnds P w fa a s₁ := by
  have rel := vals_ints hi
  have hlen := hi.length
  cases hk : K.lookup a with
  | some o =>
    have e := kin a o hk
    rw [ha] at e
    cases e
    refine end_core kin hns hb hbb nol hg ha rm F bnd prom (H := fun _ => none) (fun _ => Or.inl rfl) (Or.inr ⟨_, vs.toArray, _, hk, rfl, rfl, rfl, ?_, by simpa using rel⟩) (fun b u z => nomatch (show (none : Option HO) = some u from z)) (fun b z => absurd rfl z) (fun z => absurd rfl z)
    rw [List.size_toArray, hlen]
    exact hl
  | none =>
    have one : ∀ b, (fun b => if b = a then some (HO.frz { cls := .type "list", data := .seq vs.toArray } (.lst (ns.map V.int))) else none : Hp) b ≠ none → b = a := by
      intro b z
      by_cases q : b = a
      · exact q
      · exact absurd (if_neg q) z
    refine end_core kin hns hb hbb nol hg ha rm F bnd prom (H := fun b => if b = a then some (.frz { cls := .type "list", data := .seq vs.toArray } (.lst (ns.map V.int))) else none) (fun b => ?_) (Or.inl (Or.inr ⟨_, if_pos rfl⟩)) (fun b u z => ?_) one (fun _ => hk)
    · by_cases q : b = a
      · exact Or.inr ⟨_, _, if_pos q⟩
      · exact Or.inl (if_neg q)
    · by_cases q : b = a
      · have z2 := (if_pos q).symm.trans z
        cases z2
        subst q
        exact ⟨ha, by rw [List.length_map]; exact hl, vs, _, rel, ha⟩
      · have z2 := (if_neg q).symm.trans z
        cases z2
end
theorem walk_g {l : PySem.W.OpenLaw} {n k : Nat} {q : Program} {loose : List Str} {XP : (Str → Option Value) → Heap → Prop} {YP : World → Heap → Prop} {d : DefRec} {K : Params → PySem.W.Frag} {sp : World → Sp} {x : Str}
    (hn : l.most = some n) (hn2 : n ≤ sizeLine) (hdf : d.params.defaults = []) (rm : Room k callerA)
    (written : ∀ (w : World) (h : Heap), YP w h → (K w.params).In h) (F : ∀ (w : World) (mg : Str → Option Value) (fa : Addr) (h : Heap), (K w.params).In h → h.Ns mainGlobals mg → mg d.name = some (.ref fa) → ∃ fd : FuncData, (∀ (s : Shared) (u : Value), BindsTo s fd ⟨[u], []⟩ [(x, u)]) ∧ ∀ base : Heap, (K w.params).In base → base.Ns mainGlobals mg → FnG l.prog w (K w.params) mg base CX0 k fa fd [x] (sp w))
    (prom : ∀ (w : World) (H : Hp) (a : Addr) (ns : List Int), ns.length ≤ n → Only H → SqL (K w.params) H a (ns.map V.int) → sp w [.ref a] H (fun v _ => v = .bl true) fun _ _ _ => False) :
    PySem.W.WalkO q loose XP YP l.row.toRowW d [] (fun g us => PySem.call g us) := by
  refine Att.attach_call hn hdf ?_
  intro w s₀ s₁ mg mb fa o pm cd doc a vs ns G Y _ _ _ hmg hobj hints hlen hg
  have kin := written w _ Y
  obtain ⟨fd, bnd, fn⟩ := F w mg fa _ kin G.T.g hmg
  exact end_call kin G.T.g G.T.b G.T.builtins G.T.nolimit hg hobj hints (Nat.le_trans hlen hn2) rm fn bnd fun H hO hS => prom w H a ns hlen hO hS
end Od
namespace Od
open PySem L2 Evl PySem.Spec PyProof.Rows
structure Sh (B : Nat) (d : PyData) : Prop where
  show_ : d.showable = true
  dict : d.hasDict = false
  short : d.leavesShort 13 = true
  wt : d.weight ≤ B
structure ShAll (B : Nat) (ds : List PyData) : Prop where
  show_ : PyData.showableAll ds = true
  dict : PyData.hasDictAll ds = false
  short : PyData.leavesShortAll 13 ds = true
  wt : PyData.weightAll ds ≤ B
theorem Sh.mono {B C : Nat} {d : PyData} (h : Sh B d) (e : B ≤ C) : Sh C d := ⟨h.1, h.2, h.3, Nat.le_trans h.4 e⟩
theorem ShAll.nil : ShAll 0 [] := ⟨rfl, rfl, rfl, Nat.le_refl _⟩
theorem ShAll.cons {B C : Nat} {d : PyData} {ds : List PyData} (h : Sh B d) (t : ShAll C ds) : ShAll (B + 1 + C) (d :: ds) := by
  refine ⟨?_, ?_, ?_, ?_⟩
  · simp only [PyData.showableAll, h.1, t.1, Bool.and_self]
  · simp only [PyData.hasDictAll, h.2, t.2, Bool.or_self]
  · simp only [PyData.leavesShortAll, h.3, t.3, Bool.and_self]
  · have h1 := h.4
    have h2 := t.4
    simp only [PyData.weightAll]
    omega
theorem ShAll.tup {B : Nat} {ds : List PyData} (t : ShAll B ds) : Sh B (.tuple ds) := ⟨by simpa only [PyData.showable] using t.1, by simpa only [PyData.hasDict] using t.2, by simpa only [PyData.leavesShort] using t.3, by simpa only [PyData.weight] using t.4⟩
theorem ShAll.lst {B : Nat} {ds : List PyData} (t : ShAll B ds) : Sh B (.list ds) := ⟨by simpa only [PyData.showable] using t.1, by simpa only [PyData.hasDict] using t.2, by simpa only [PyData.leavesShort] using t.3, by simpa only [PyData.weight] using t.4⟩
theorem Sh.len {B : Nat} {d : PyData} (h : Sh B d) (hB : B ≤ 1000000) : d.shown.length ≤ sizeLine := by
  have h2 := PyData.shown_le 13 (by decide) d h.3
  have h4 := h.4
  have e : sizeLine = 16777216 := by decide
  omega
end Od
namespace Od
open PySem L2 Evl
structure Pc where
  w : Int
  h : Int
  vs : List Int
  cs : List Int
def PcV (H : Hp) (v : V) (p : Pc) : Prop := ∃ a va ca, v = .ref a ∧ H a = some (.tup [.int p.w, .int p.h, .ref va, .ref ca]) ∧ H va = some (.tup (p.vs.map V.int)) ∧ H ca = some (.tup (p.cs.map V.int))
theorem PcV.tk {H H' : Hp} {v : V} {p : Pc} (e : TK H H') (h : PcV H v p) : PcV H' v p := by
  obtain ⟨a, va, ca, rfl, h1, h2, h3⟩ := h
  exact ⟨a, va, ca, rfl, e _ _ h1, e _ _ h2, e _ _ h3⟩
def pcD (p : Pc) : PyData := .tuple [.int p.w, .int p.h, .tuple (p.vs.map PyData.int), .tuple (p.cs.map PyData.int)]
theorem PcV.dp {K : PySem.W.Frag} {H : Hp} {v : V} {p : Pc} (h : PcV H v p) : Dp K H v (pcD p) := by
  obtain ⟨a, va, ca, rfl, h1, h2, h3⟩ := h
  exact .tup (SqT.of h1) (.cons (.int _) (.cons (.int _) (.cons (.tup (SqT.of h2) (DaAll.dp (da_ints _))) (.cons (.tup (SqT.of h3) (DaAll.dp (da_ints _))) .nil))))
/-- what stands at a point -/
def Pc.In (p : Pc) (x y : Int) : Prop := 0 ≤ x ∧ x < p.w ∧ 0 ≤ y ∧ y < p.h
instance (p : Pc) (x y : Int) : Decidable (p.In x y) := inferInstanceAs (Decidable (_ ∧ _))
def Pc.at (p : Pc) (x y : Int) : Pt := if p.In x y then (p.vs.getD (y * p.w + x).toNat 0, p.cs.getD (y * p.w + x).toNat 0) else (0, 0)
end Od
namespace Od
open PySem L2 Evl
/-- what a layer's value becomes: a mode as a value of its own -/
inductive Md where
  | over | add | times | invert | shift (n : Int)
deriving DecidableEq
def Md.word : Md → Str
  | .over => "over" | .add => "add" | .times => "times" | .invert => "invert" | .shift _ => "shift"
def Md.rest : Md → List V
  | .shift n => [.int n]
  | _ => []
def Md.items (m : Md) : List V := .str m.word :: m.rest
def MdV (H : Hp) (v : V) (m : Md) : Prop := ∃ a, v = .ref a ∧ H a = some (.tup m.items)
theorem MdV.ex {H H' : Hp} {v : V} {m : Md} (e : Ex H H') (h : MdV H v m) : MdV H' v m := by
  obtain ⟨a, rfl, ha⟩ := h
  exact ⟨a, rfl, e _ _ ha⟩
theorem MdV.tk {H H' : Hp} {v : V} {m : Md} (e : TK H H') (h : MdV H v m) : MdV H' v m := by
  obtain ⟨a, rfl, ha⟩ := h
  exact ⟨a, rfl, e _ _ ha⟩
/-- the lesser one of 255 and a value, the greater one of 0 and a value -/
def lo255 (x : Int) : Int := if x < 255 then x else 255
def hi0 (x : Int) : Int := if x > 0 then x else 0
def Md.to : Md → Int → Int → Int
  | .over, _, p => p
  | .add, v, p => lo255 (v + p)
  | .times, v, p => v * p / 255
  | .invert, v, _ => 255 - v
  | .shift n, v, _ => hi0 (lo255 (v + n))
end Od
namespace Od
open PySem L2 Evl
/-- a paint as a value of its own -/
inductive Pa where
  | solid (v : Int) | steps (f s z : Int) | pic (p : Pc)
def Pa.word : Pa → Str
  | .solid _ => "solid" | .steps _ _ _ => "steps" | .pic _ => "picture"
def PaV (H : Hp) (v : V) : Pa → Prop
  | .solid x => ∃ a, v = .ref a ∧ H a = some (.tup [.str "solid", .int x])
  | .steps f s z => ∃ a, v = .ref a ∧ H a = some (.tup [.str "steps", .int f, .int s, .int z])
  | .pic p => ∃ a u, v = .ref a ∧ H a = some (.tup [.str "picture", u]) ∧ PcV H u p
theorem PaV.tk {H H' : Hp} {v : V} {p : Pa} (e : TK H H') (h : PaV H v p) : PaV H' v p := by
  cases p with
  | solid x => obtain ⟨a, rfl, ha⟩ := h; exact ⟨a, rfl, e _ _ ha⟩
  | steps f s z => obtain ⟨a, rfl, ha⟩ := h; exact ⟨a, rfl, e _ _ ha⟩
  | pic p => obtain ⟨a, u, rfl, ha, hu⟩ := h; exact ⟨a, u, rfl, e _ _ ha, hu.tk e⟩
def Pa.D : Pa → PyData
  | .solid x => .tuple [.str "solid", .int x]
  | .steps f s z => .tuple [.str "steps", .int f, .int s, .int z]
  | .pic p => .tuple [.str "picture", pcD p]
theorem PaV.dp {K : PySem.W.Frag} {H : Hp} {v : V} {p : Pa} (h : PaV H v p) : Dp K H v p.D := by
  cases p with
  | solid x => obtain ⟨a, rfl, ha⟩ := h; exact .tup (SqT.of ha) (.cons (.str _) (.cons (.int _) .nil))
  | steps f s z => obtain ⟨a, rfl, ha⟩ := h; exact .tup (SqT.of ha) (.cons (.str _) (.cons (.int _) (.cons (.int _) (.cons (.int _) .nil))))
  | pic p => obtain ⟨a, u, rfl, ha, hu⟩ := h; exact .tup (SqT.of ha) (.cons (.str _) (.cons hu.dp .nil))
/-- a paint, or None -/
def OpV (H : Hp) (v : V) : Option Pa → Prop
  | none => v = .non
  | some p => PaV H v p
theorem OpV.tk {H H' : Hp} {v : V} {o : Option Pa} (e : TK H H') (h : OpV H v o) : OpV H' v o := by
  cases o with
  | none => exact h
  | some p => exact PaV.tk e h
def opD : Option Pa → PyData
  | none => .none
  | some p => p.D
theorem OpV.dp {K : PySem.W.Frag} {H : Hp} {v : V} {o : Option Pa} (h : OpV H v o) : Dp K H v (opD o) := by
  cases o with
  | none => cases h; exact .non
  | some p => exact PaV.dp h
/-- a clip -/
structure Cl where
  s : Int
  n : Int
  pa : Option Pa
  fi : Int
  fo : Int
def Cl.items (c : Cl) (u : V) : List V := [.int c.s, .int c.n, u, .int c.fi, .int c.fo]
def ClV (H : Hp) (v : V) (c : Cl) : Prop := ∃ a u, v = .ref a ∧ H a = some (.tup (c.items u)) ∧ OpV H u c.pa
theorem ClV.tk {H H' : Hp} {v : V} {c : Cl} (e : TK H H') (h : ClV H v c) : ClV H' v c := by
  obtain ⟨a, u, rfl, ha, hu⟩ := h
  exact ⟨a, u, rfl, e _ _ ha, hu.tk e⟩
end Od
namespace Od
open PySem PySem.Spec PyProof.Rows L2 Evl
section
variable {X : Cx} {o e : Expr} {es : List Expr} {t : TA} {x : Str} {p1 p2 pos : Pos} {CX : CXT} {k : Nat} {f D : Addr} {fd : FuncData} {ps : List Str} {sp : Sp} {ds : List Value} {dvs : List V} {E : XK} {pl : Sem Bool}
/-- Base.__init__(self, ..), Base an own class: the def is called -/
theorem pe_binit (F1 : FnOk X.prog X.w X.K X.mg X.base CX k f fd ps sp) (hr : Room k X.A) (hg : Gl X x) (hm : X.mg x = some (.ref D)) (rd : PySem.W.readsIn X.K D (.type "type") = true)
    (ga : PySem.W.specialIn X.K (.ref D) "__getattribute__" = some (some (.builtin "type.__getattribute__"))) (fa : PySem.W.findCls X.K (.ref D) (.type "type") "__init__" = some (.val (.ref f))) (kf : PySem.W.keepIn X.K (.ref f) = true)
    (hb : Binds X.K fd ps ds) (hd : Vals dvs ds) (hx : Passes CX X E) (ha : PA X (e :: es) t)
    (hdb : (x == ("__debug__" : Str)) = false := by decide) (he : starEach (e :: es) X.env = (false, eval e X.env) :: starEach es X.env := by rfl) (hpl : (backTo pos (starEach es X.env)).any (·.1) = false := by rfl)
    (hc : eval (.Call (.Attribute (.Name x p1) "__init__" p2) (e :: es) [] pos) X.env = (do
      let base ← eval (.Name x p1) X.env
      standAt p2.atName
      let (g, first) ← holding [base] (getMethod base "__init__" pl)
      callWith pos g first (backTo pos (starEach (e :: es) X.env)) (backToKw pos (keywordEach [] X.env))) := by rfl) :
    PE X (.Call (.Attribute (.Name x p1) "__init__" p2) (e :: es) [] pos) (tCall sp dvs E t) :=
  ⟨fun pins s σ H Q I h => PySem.W.methodCall_KW (ld_glob I hg hm (PySem.W.method_cls I.kIn ga (PySem.W.cls_value I.kIn rd fa rfl
    (PySem.W.callWith_K (h₀ := X.base) I.ok.mod.kin kf (thn (ha.run pos pins _ σ H _ (I.tok _) h) fun us s1 ⟨vs, H1, J, r, q⟩ => ⟨J.kIn, run_fn F1 hr hb hd hx J r q⟩) he hpl))) hdb) hc⟩
end
/-- the def that stands first in a class's body -/
def clsDef (s : Stmt) : Stmt := match s with
  | .ClassDef _ _ _ b _ _ _ _ _ _ _ => b.getD 0 (.Pass ⟨0, 0, 0, 0⟩)
  | _ => .Pass ⟨0, 0, 0, 0⟩
/-- what the written part says of the program's own base error -/
structure FilmTxt (K : PySem.W.Frag) (mg : Str → Option Value) (D fD : Addr) : Prop where
  g : mg "FilmError" = some (.ref D)
  rd : PySem.W.readsIn K D (.type "type") = true
  ga : PySem.W.specialIn K (.ref D) "__getattribute__" = some (some (.builtin "type.__getattribute__"))
  fa : PySem.W.findCls K (.ref D) (.type "type") "__init__" = some (.val (.ref fD))
  ve : mg "ValueError" = none
  vi : PySem.W.findCls K (.type "ValueError") (.type "type") "__init__" = some (.val (.builtin "ValueError.__init__"))
/-- .. of an error of a kind -/
structure KindTxt (K : PySem.W.Frag) (mg : Str → Option Value) (x : Str) (C fC : Addr) : Prop where
  g : mg x = some (.ref C)
  T : OexC K C
  xf : XfC K C
  noW : PySem.W.findIn K (.ref C) "word" = some none
  noP : PySem.W.findIn K (.ref C) "place" = some none
  iC : PySem.W.findIn K (.ref C) "__init__" = some (some (.ref fC))
  tI : PySem.W.typeIn K (.ref fC) = some (.type "function")
  te : PySem.W.exmOne K (.ref C) (.ref C) = some true
theorem exm_self {K : PySem.W.Frag} {S : Addr} (h1 : PySem.W.subIn K (.ref S) (.type "BaseException") = some true) (h2 : PySem.W.isClsIn K S = true) (h3 : PySem.W.typeIn K (.ref S) = some (.type "type")) (h4 : PySem.W.subIn K (.ref S) (.ref S) = some true) :
    PySem.W.exmOne K (.ref S) (.ref S) = some true := by
  have c1 : (PySem.W.subIn K (.ref S) (.type "BaseException") == some true) = true := by rw [h1] <;> rfl
  have c2 : ((PySem.W.clsIn K S).isSome && PySem.W.typeIn K (.ref S) == some (.type "type")) = true := by
    rw [show (PySem.W.clsIn K S).isSome = true from h2, h3] <;> rfl
  change (if (PySem.W.subIn K (.ref S) (.type "BaseException") == some true) = true then (if ((PySem.W.clsIn K S).isSome && PySem.W.typeIn K (.ref S) == some (.type "type")) = true then PySem.W.subIn K (.ref S) (.ref S) else none) else none) = _
  rw [if_pos c1, if_pos c2, h4]
/-- behind an __init__: the error has its dict -/
def spErrInit (K : PySem.W.Frag) : Sp := fun vs H Q _ => ∃ (a C : Addr) (wd p : V), vs = [.ref a, wd, p] ∧ OexC K C ∧ H a = some (exo a C none) ∧ PySem.W.findIn K (.ref C) "word" = some none ∧ PySem.W.findIn K (.ref C) "place" = some none ∧
  ∀ dx H', H dx = none → dx ≠ a → H' a = some (exo a C (some dx)) → H' dx = some (exd dx [("place", p), ("word", wd)]) → (∀ b, b ≠ a → b ≠ dx → H' b = H b) → Q .non H'
def spKind (K : PySem.W.Frag) (x : Str) : Sp := fun vs H Q _ => ∃ (a C : Addr) (p : V), vs = [.ref a, p] ∧ OexC K C ∧ H a = some (exo a C none) ∧ PySem.W.findIn K (.ref C) "word" = some none ∧ PySem.W.findIn K (.ref C) "place" = some none ∧
  ∀ dx H', H dx = none → dx ≠ a → H' a = some (exo a C (some dx)) → H' dx = some (exd dx [("place", p), ("word", .str x)]) → (∀ b, b ≠ a → b ≠ dx → H' b = H b) → Q .non H'
end Od
namespace Od
open PySem L2 Evl
/-- the slots at a def's start, written out -/
def startL : List Str → List V → L2.St
  | [], _ => []
  | _ :: N, [] => none :: startL N []
  | _ :: N, v :: vs => some v :: startL N vs
theorem startL_nil : ∀ N : List Str, startL N [] = List.replicate N.length none
  | [] => rfl
  | n :: N => by
    show none :: startL N [] = _
    rw [startL_nil N]
    rfl
theorem start_nrm : ∀ {N : List Str} {vs : List V}, vs.length ≤ N.length → L2.start N vs = startL N vs
  | [], [], _ => rfl
  | n :: N, [], _ => by
    unfold L2.start
    rw [startL_nil]
    rfl
  | [], v :: vs, h => absurd h (Nat.not_succ_le_zero _)
  | n :: N, v :: vs, h => by
    have ih := start_nrm (N := N) (vs := vs) (Nat.le_of_succ_le_succ h)
    unfold L2.start at ih ⊢
    show some v :: (vs.map some ++ List.replicate (N.length + 1 - (vs.length + 1)) none) = some v :: startL N vs
    rw [Nat.add_sub_add_right, ih]
end Od
namespace PySem
namespace OdX
open PySem.W PySem.Calls PyProof.Rows PySem.HandSPX
section
variable {M : Model} {prog : Program} {w : World} {A : Around} {E : Value → Shared → Prop} {R : Result → Shared → Prop} {h : Heap} {g : Array GenState} {d : Drawn} {t : Nat} {os : OsState}
variable {nm q : Str} {C N : Addr} {bs bm bmB : List Value} {hdct : Bool} {sn : List Str} {sub : List Value} {ab : Bool} {col : Option Bool} {dd : Option Addr} {k0 k1 k2 k3 k5 : Option Value} {B newId initId : String}
theorem check_newK (F : ExcBaseFacts B newId initId bmB) (hT : ∀ X : String, bm.contains (.type X) = bmB.contains (.type X)) {rest : List Value} {kw : List (Str × Value)} {Q : Unit → Shared → Prop}
    (hC : h.get? C = some (excClassObj nm q C N bs bm hdct sn sub ab col dd k0 k1 k2 k3 k5 newId)) (hq : Q () ⟨h, g, d, t, os⟩) : wpAny M A (checkBuiltinCall newId ⟨.ref C :: rest, kw⟩) Q E ⟨h, g, d, t, os⟩ := by
  have under : (Value.ref C :: bm).contains (.type B) = true := by
    rw [List.contains_cons, hT, F.hasB, Bool.or_true]
  have star := F.noStar
  simp only [checkBuiltinCall, F.newKind, F.newSplit, F.newRow]
  repeat (first | refine wpAny_loadPart_at hC ?_ | (refine wpAny_isSubtype_exc hC ?_; rw [under]) | refine wpAny_staticBase_exc hC ?_ | refine wpAny_madeBy_exc hC ?_ | simp only [bne_self_eq_false, Bool.false_eq_true, if_false] | wp_step)
  exact hq
theorem new_ownK (F : ExcBaseFacts B newId initId bmB) (hT : ∀ X : String, bm.contains (.type X) = bmB.contains (.type X)) {rest : List Value} {kw : List (Str × Value)}
    (hC : h.get? C = some (excClassObj nm q C N bs bm hdct sn sub ab col dd k0 k1 k2 k3 k5 newId))
    (hq : R (.ok (.ret (.ref (h.objs.size + 1)))) ⟨(h.push { cls := .type "tuple", data := .seq rest.toArray }).push
      { cls := .ref C, data := .fields #[.ref h.objs.size, .none, .none, .none, .bool false, .none] }, g, d, t, os⟩) (hrest : rest.length ≤ sizeLine) :
    codeAny (model prog w) A (.builtin newId ⟨.ref C :: rest, kw⟩) R ⟨h, g, d, t, os⟩ := by
  have ends := F.ends
  have inB : (Value.ref C :: bm).contains (.type B) = true := by rw [List.contains_cons, hT, F.hasB, Bool.or_true]
  have inA : (Value.ref C :: bm).contains (.type "AttributeError") = false := by rw [List.contains_cons, hT, F.noAttr]; rfl
  have inN : (Value.ref C :: bm).contains (.type "NameError") = false := by rw [List.contains_cons, hT, F.noName]; rfl
  refine codeAny_builtinAt F.entry ?_
  unfold Builtin.«BaseException.__new__»
  refine wpAt_bind ?_
  show wpAt _ _ _ (stack >>= _) _ _ _
  refine wpAt_bind (wpAt_stack fun p below => wpAt_of_wpAny ?_)
  wp_walk
  refine wpAt_of_wpAny ?_
  rw [F.owner]
  repeat (first | with_reducible refine wpAny_madeHere_exc F.canon hC ?_ | with_reducible refine wpAny_loadPart_at hC ?_ | (with_reducible refine wpAny_isSubtype_exc hC ?_; first | rw [inB] | rw [inA] | rw [inN]) | wp_step)
  show R _ _
  rw [Heap.size_push]
  exact hq
theorem type_callK (F : ExcBaseFacts B newId initId bmB) (hT : ∀ X : String, bm.contains (.type X) = bmB.contains (.type X)) {rest : List Value} {kw : List (Str × Value)} {fI : Addr} {Q : Fin → Shared → Prop}
    (hC : h.get? C = some (excClassObj nm q C N bs bm hdct sn sub ab col dd k0 k1 k2 k3 k5 newId))
    (hi : W.Looks (model prog w) h (typeLookup (.ref C) "__init__") (some (.ref fI))) (hb : ∀ self, W.Looks (model prog w) h (bindSpecial (.ref fI) self) (.ref fI, [self])) (hrest : rest.length ≤ sizeLine)
    (hq : codeAny (model prog w) A (.call (.ref fI) ⟨.ref (h.objs.size + 1) :: rest, kw⟩)
      (fun r s' => match r with | .ok (.ret v) => v = .none ∧ Q (.done (.ret (.ref (h.objs.size + 1)))) s' | .ok _ => False | .error e => E e s')
      ⟨(h.push (W.kdv_tup rest)).push (excO C h.objs.size), g, d, t, os⟩) :
    wpAny (model prog w) A (Builtin.«type.__call__» ⟨.ref C :: rest, kw⟩) Q E ⟨h, g, d, t, os⟩ := by
  repeat (first | with_reducible refine wpAny_loadPart_at hC ?_ | with_reducible refine wpAny_madeBy_exc hC ?_ | wp_step)
  refine codeAny_call_builtin_code (Code.quiet_builtin _ F.quiet) (check_newK F hT hC ?_)
  refine new_ownK F hT hC ?_ hrest
  show wpAny _ _ _ _ _ _
  have k : ∀ b o, h.get? b = some o → ((h.push (W.kdv_tup rest)).push (excO C h.objs.size)).get? b = some o := fun b o e => Heap.get?_push_of_some _ (Heap.get?_push_of_some _ e)
  have hC1 := k _ _ hC
  have hget : ((h.push (W.kdv_tup rest)).push (excO C h.objs.size)).get? (h.objs.size + 1) = some (excO C h.objs.size) := by heap_get
  have self : (Value.ref C :: bm).contains (.ref C) = true := by simp
  have i1 := hi.keeps k
  have b1 := (hb (.ref (h.objs.size + 1))).keeps k
  unfold isInstance
  repeat (first | with_reducible refine wpAny_loadPart_at hget ?_ | (with_reducible refine wpAny_isSubtype_exc hC1 ?_; rw [self]) | wp_step)
  show wpAny _ _ (typeLookup (.ref C) _) _ _ _
  refine i1.at ?_
  refine wpAny_holding (wpAny_bind (b1.at ?_))
  refine wpAny_bind (wpAny_call (codeAny_mono hq fun r s' z => ?_))
  rcases r with e | (v | _ | _ | _) <;> first | exact z | exact z.elim | skip
  obtain ⟨rfl, z⟩ := z
  first
    | exact wpAny_pure (wpAny_pure z)
    | (wp_walk; exact z)
theorem call_ownK (F : ExcBaseFacts B newId initId bmB) (hT : ∀ X : String, bm.contains (.type X) = bmB.contains (.type X)) {rest : List Value} {kw : List (Str × Value)} {fI : Addr}
    (hC : h.get? C = some (excClassObj nm q C N bs bm hdct sn sub ab col dd k0 k1 k2 k3 k5 newId))
    (hi : W.Looks (model prog w) h (typeLookup (.ref C) "__init__") (some (.ref fI))) (hb : ∀ self, W.Looks (model prog w) h (bindSpecial (.ref fI) self) (.ref fI, [self])) (hrest : rest.length ≤ sizeLine)
    (hq : codeAny (model prog w) (A.under (.builtin "type.__call__" ⟨.ref C :: rest, kw⟩)) (.call (.ref fI) ⟨.ref (h.objs.size + 1) :: rest, kw⟩) (W.InitBack (h.objs.size + 1) R)
      ⟨(h.push (W.kdv_tup rest)).push (excO C h.objs.size), g, d, t, os⟩) :
    codeAny (model prog w) A (.call (.ref C) ⟨rest, kw⟩) R ⟨h, g, d, t, os⟩ := by
  have f1 := tc_lookup
  have f2 := tc_bind (.ref C)
  have isT : (⟨h, g, d, t, os⟩ : Shared).TypeIs (.ref C) "type" := ⟨_, hC, rfl⟩
  refine codeAny_of_tree ?_
  show wpAny _ _ (callAny (.ref C) _) _ _ _
  repeat (any_goals (first | assumption | with_reducible refine wpAny_loadPart_at hC ?_ | wp_step))
  refine ⟨rfl, ?_⟩
  refine codeAny_call_builtin_at (Code.quiet_builtin _ (by decide +kernel)) entry_typeCall (wpAny_check_type_call_sub hC (type_callK F hT hC hi hb hrest ?_))
  refine codeAny_mono hq fun r s' z => ?_
  rcases r with e | (v | _ | _ | _) <;> exact z
end
end OdX
end PySem
namespace Od
open PySem PySem.Spec PyProof.Rows L2 Evl
/-- an object that is known -/
def exq (a : Addr) (oe : Obj) : HO := .ext fun h => h.get? a = some oe
theorem exq_ok {P : Program} {w : World} {H : Hp} {h : Heap} {a : Addr} {oe : Obj} (e : h.get? a = some oe) : ObjOk P w H h a (exq a oe) := ⟨e, ⟨_, e⟩, fun _ _ z k => k _ z⟩
theorem exq_at {P : Program} {w : World} {H : Hp} {h : Heap} {a : Addr} {oe : Obj} (hok : HOk P w H h) (e : H a = some (exq a oe)) : h.get? a = some oe := by
  have x : ObjOk P w H h a (.ext fun h => h.get? a = some oe) := hok a _ e
  exact x.1
/-- what an error's dict says -/
def errF (wd p : V) : List (Str × V) := [("place", p), ("word", wd)]
/-- at a: an error of the class at C; its dict stands at d -/
def ErrAt (H : Hp) (a C d : Addr) (wd p : V) : Prop := ∃ oe : Obj, Zc (.ref C) (some d) oe ∧ (∃ vs, oe.data = .fields vs) ∧ H a = some (exq a oe) ∧ H d = some (.xd (errF wd p))
theorem ErrAt.ex {H H' : Hp} {a C d : Addr} {wd p : V} (x : ErrAt H a C d wd p) (e : Ex H H') : ErrAt H' a C d wd p := by
  obtain ⟨oe, z, f, h1, h2⟩ := x
  exact ⟨oe, z, f, e _ _ h1, e _ _ h2⟩
/-- what is wished of a new error -/
def ErrQ (C : Addr) (wd p : V) (H : Hp) (Q : VK) : Prop := ∀ a d H', H a = none → H d = none → d ≠ a → ErrAt H' a C d wd p → (∀ b, b ≠ a → b ≠ d → H' b = H b) → Q (.ref a) H'
theorem ErrQ.ex {C : Addr} {wd p : V} {H : Hp} {Q : VK} (h : ∀ a d H', Ex H H' → ErrAt H' a C d wd p → Q (.ref a) H') : ErrQ C wd p H Q := fun a d H' ha hd hne hE hs => h a d H' (fun b o hb => by
  have n1 : b ≠ a := fun z => by rw [z, ha] at hb; cases hb
  have n2 : b ≠ d := fun z => by rw [z, hd] at hb; cases hb
  rw [hs b n1 n2]
  exact hb) hE
section
variable {X : Cx} {CX : CXT} {k : Nat} {fI C : Addr} {fd : FuncData} {ps : List Str} {sp : Sp} {x : Str} {p pos : Pos} {e : Expr} {es : List Expr} {t : TA}
/-- a new error is kept -/
theorem err_made {pins : List (Addr × Obj)} {σ : L2.St} {H : Hp} {s : Shared} {Q : VK} (T : OexC X.K C) (iC : PySem.W.findIn X.K (.ref C) "__init__" = some (some (.ref fI))) (tI : PySem.W.typeIn X.K (.ref fI) = some (.type "function"))
    (F1 : FnOk X.prog X.w X.K X.mg X.base CX k fI fd ps sp) (hr : Room (k + 1) X.A) (hx : Passes CX X (fun _ _ _ => False)) (I : Inv X pins σ H s) {us us2 : List Value} {kw : List (Str × Value)} {vs2 : List V} (hus : us.length ≤ sizeLine)
    (bind : ∀ (s' : Shared) (a : Addr), X.K.In s'.heap → BindsTo s' fd ⟨.ref a :: us, kw⟩ (ps.zip (.ref a :: us2))) (r : Vals vs2 us2)
    (h : ∀ a, H a = none → sp (.ref a :: vs2) (upd H a (exo a C none)) (fun v H2 => v = .non ∧ ∃ (d : Addr) (fs : List (Str × V)), H2 a = some (exo a C (some d)) ∧ H2 d = some (exd d fs) ∧ d ≠ a ∧
      ∀ oe : Obj, Zc (.ref C) (some d) oe → (∃ vs, oe.data = .fields vs) → Q (.ref a) (upd (upd H2 a (exq a oe)) d (.xd fs))) (fun _ _ _ => False)) :
    wpAny (model X.prog X.w) X.A (call (.ref C) us kw) (EP X pins σ Q) X.xe s := by
  obtain ⟨nm, qn, N, bs, bm, sn, sub, ab, col, dd, k0, k1, k2, k3, k5, look, tail⟩ := T.cls
  obtain ⟨hp, gens, dr, tk, os⟩ := s
  have up : hp.objs.size ≤ hp.objs.size + 1 := Nat.le_succ _
  have q0 := h (hp.objs.size + 1) (I.hok.fresh up)
  have more : ∀ b ob, hp.get? b = some ob → ((hp.push (PySem.W.kdv_tup us)).push (PySem.HandSPX.excO C hp.objs.size)).get? b = some ob := fun b ob z => Heap.get?_push_of_some _ (Heap.get?_push_of_some _ z)
  have there : ((hp.push (PySem.W.kdv_tup us)).push (PySem.HandSPX.excO C hp.objs.size)).get? (hp.objs.size + 1) = some (PySem.HandSPX.excO C hp.objs.size) := by heap_get
  have J : Inv X pins σ (upd H (hp.objs.size + 1) (exo (hp.objs.size + 1) C none)) ⟨(hp.push (PySem.W.kdv_tup us)).push (PySem.HandSPX.excO C hp.objs.size), gens, dr, tk, os⟩ :=
    I.laid (t' := tk) (a := hp.objs.size + 1) (o := exo (hp.objs.size + 1) C none) (h' := (hp.push (PySem.W.kdv_tup us)).push (PySem.HandSPX.excO C hp.objs.size)) more up (exo_ok there)
  have rel2 : Vals (V.ref (hp.objs.size + 1) :: vs2) (Value.ref (hp.objs.size + 1) :: us2) := .cons rfl r
  refine wpAny_call (PySem.OdX.call_ownK F.excBase_ValueError (fun Y => PySem.HandSPX.refsVE_contains Y bm tail) (I.kIn _ _ look) (PySem.W.looks_findIn I.kIn iC) (fun self => PySem.W.bind_fn I.kIn self tI) hus ?_)
  refine codeAny_mono (F1.run _ X.stack _ _ ⟨Value.ref (hp.objs.size + 1) :: us, kw⟩ (Value.ref (hp.objs.size + 1) :: us2) _ _ (fun _ _ _ => False) (hr.make C us kw) (J.env0.make C us kw) (bind _ _ J.kIn) rel2 q0) fun r s' w => ?_
  match r, w with
  | .error er, w => exact hx pins σ _ _ er s' J w
  | .ok (.ret u), w =>
    obtain ⟨v, H2, J2, rv, ev, d, fs, ea, ed, hne, q2⟩ := J.after w
    subst ev
    refine ⟨rv, ?_⟩
    obtain ⟨t1, hget⟩ := exo_at J2.hok ea
    obtain ⟨oq, hoq⟩ : ∃ oq : Obj, oq = { cls := .ref C, dict := some d, data := .fields #[.ref t1, .none, .none, .none, .bool false, .none] } := ⟨_, rfl⟩
    rw [← hoq] at hget
    have J3 := J2.write (t' := s'.toks) (x := hp.objs.size + 1) (e := hp.objs.size + 1) (o := exq (hp.objs.size + 1) oq) (h' := s'.heap) (by rw [ea]; exact True.intro) (.inl rfl) (fun b u _ z => z) ⟨_, hget⟩ (exq_ok hget)
    have ed3 : upd H2 (hp.objs.size + 1) (exq (hp.objs.size + 1) oq) d = some (exd d fs) := (upd_ne hne).trans ed
    obtain ⟨mA, hns, rel⟩ := exd_at J3.hok ed3
    have hd : ∃ o, s'.heap.get? d = some o := by
      obtain ⟨o, _, _, z, _⟩ := hns
      exact ⟨o, z⟩
    have J4 := J3.write (t' := s'.toks) (x := d) (e := d) (o := .xd fs) (h' := s'.heap) (by rw [ed3]; exact True.intro) (.inl rfl) (fun b u _ z => z) hd (show ObjOk X.prog X.w _ s'.heap d (.xd fs) from ⟨mA, hns, rel⟩)
    exact ⟨V.ref (hp.objs.size + 1), _, J4, rfl, q2 oq (by rw [hoq]; exact ⟨rfl, rfl⟩) (by rw [hoq]; exact ⟨_, rfl⟩)⟩
  | .ok .next, w => exact w.elim
  | .ok .brk, w => exact w.elim
  | .ok .cont, w => exact w.elim
end
theorem errF_word {wd p : V} : (errF wd p).lookup ("word" : Str) = some wd := by
  unfold errF
  rw [lookup_put, if_neg (by decide), lookup_put, if_pos rfl]
theorem errF_place {wd p : V} : (errF wd p).lookup ("place" : Str) = some p := by
  unfold errF
  rw [lookup_put, if_pos rfl]
/-- a kind, made by place, by name, without -/
def KindX (P : Program) (w : World) (K : PySem.W.Frag) (mg : Str → Option Value) (base : Heap) (x : Str) (C : Addr) : Prop :=
  ∃ fC, KindTxt K mg x C fC ∧ ∃ fd, FnOk P w K mg base CX0 2 fC fd ["self", "place"] (spKind K x) ∧ (∃ ds, Vals [.non] ds ∧ Binds K fd ["self", "place"] ds) ∧ Binds K fd ["self", "place"] [] ∧
    KBn K fd ["self", "place"] 1 ["place"] (fun us ws => us ++ ws) (fun vs zs => vs ++ zs)
section
variable {X : Cx} {C : Addr} {x : Str} {p pos : Pos} {e : Expr} {t : TA}
theorem err_kind {K : PySem.W.Frag} {mg : Str → Option Value} {fC : Addr} {pl : V} {H : Hp} {Q : VK} (T : KindTxt K mg x C fC) (h : ErrQ C (.str x) pl H Q) (a : Addr) (ha : H a = none) :
    spKind K x [.ref a, pl] (upd H a (exo a C none)) (fun v H2 => v = .non ∧ ∃ (d : Addr) (fs : List (Str × V)), H2 a = some (exo a C (some d)) ∧ H2 d = some (exd d fs) ∧ d ≠ a ∧
      ∀ oe : Obj, Zc (.ref C) (some d) oe → (∃ vs, oe.data = .fields vs) → Q (.ref a) (upd (upd H2 a (exq a oe)) d (.xd fs))) (fun _ _ _ => False) := by
  refine ⟨a, C, pl, rfl, T.T, upd_same, T.noW, T.noP, fun dx H' hd hne h1 h2 h3 => ⟨rfl, dx, _, h1, h2, hne, fun oe hz hf => ?_⟩⟩
  refine h a dx _ ha (by rwa [upd_ne hne] at hd) hne ⟨oe, hz, hf, (upd_ne (Ne.symm hne)).trans upd_same, upd_same⟩ fun b n1 n2 => ?_
  rw [upd_ne n2, upd_ne n1, h3 b n1 n2, upd_ne n1]
/-- Kind(e) -/
def tKd (C : Addr) (x : Str) (t : TA) : TE := fun σ H Q => t σ H fun vs H1 => ∃ pl, vs = [pl] ∧ ErrQ C (.str x) pl H1 Q
theorem pe_kd1 (KK : KindX X.prog X.w X.K X.mg X.base x C) (hr : Room 3 X.A) (hx : Passes CX0 X (fun _ _ _ => False)) (hg : Gl X x) (ha : PA X [e] t)
    (hdb : (x == ("__debug__" : Str)) = false := by decide) (he : starEach [e] X.env = (false, eval e X.env) :: starEach [] X.env := by rfl) (hpl : (backTo pos (starEach [] X.env)).any (·.1) = false := by rfl) :
    PE X (.Call (.Name x p) [e] [] pos) (tKd C x t) := by
  obtain ⟨fC, T, fd, F1, _, b1, _⟩ := KK
  refine ⟨fun pins s σ H Q I h => ?_⟩
  refine wpAny_Call_Name_kw (ld_glob I hg T.g (PySem.W.callWith_K (h₀ := X.base) I.ok.mod.kin T.T.kC (thn (ha.run pos pins s σ H _ I h) fun us s1 ⟨vs, H1, I1, r, pl, ev, q⟩ => ⟨I1.kIn, ?_⟩) he hpl) hdb)
  subst ev
  cases r with
  | @cons _ u0 _ _ r1 rr =>
    cases rr
    exact err_made T.T T.iC T.tI F1 hr hx I1 (us := [u0]) (us2 := [u0]) (kw := []) (by show 1 ≤ sizeLine; rw [sizeLine_eq]; decide) (fun s' a J => by have z := b1 s' [.ref a, u0] J rfl; exact z) (show Vals [pl] [u0] from .cons r1 .nil) (err_kind T q)
/-- Kind() -/
def tKd0 (C : Addr) (x : Str) : TE := fun _ H Q => ErrQ C (.str x) .non H Q
theorem pe_kd0 (KK : KindX X.prog X.w X.K X.mg X.base x C) (hr : Room 3 X.A) (hx : Passes CX0 X (fun _ _ _ => False)) (hg : Gl X x) (hdb : (x == ("__debug__" : Str)) = false := by decide) : PE X (.Call (.Name x p) [] [] pos) (tKd0 C x) := by
  obtain ⟨fC, T, fd, F1, ⟨ds, rd, b0⟩, _, _⟩ := KK
  refine ⟨fun pins s σ H Q I q => ?_⟩
  refine wpAny_Call_Name_kw (ld_glob I hg T.g (PySem.W.callWith_K0 I.kIn T.T.kC ?_) hdb)
  cases rd with
  | cons r1 rr =>
    cases rr
    cases r1
    exact err_made T.T T.iC T.tI F1 hr hx I (us := []) (us2 := [.none]) (kw := []) (Nat.zero_le _) (fun s' a J => by have z := b0 s' [.ref a] J rfl; exact z) (show Vals [V.non] [Value.none] from .cons rfl .nil) (err_kind T q)
/-- Kind(place=e) -/
theorem pe_kdK {kws : List Keyword} (KK : KindX X.prog X.w X.K X.mg X.base x C) (hr : Room 3 X.A) (hx : Passes CX0 X (fun _ _ _ => False)) (hg : Gl X x) (hkw : PK X kws t)
    (hall : (backToKw pos (keywordEach kws X.env)).all (·.1.isSome) = true := by rfl) (hks : (backToKw pos (keywordEach kws X.env)).filterMap (·.1) = (["place"] : List Str) := by rfl) (hdb : (x == ("__debug__" : Str)) = false := by decide)
    (hpl : ((backTo pos (starEach [] X.env)).any (·.1) || (backToKw pos (keywordEach kws X.env)).any (·.1.isNone)) = false := by rfl) :
    PE X (.Call (.Name x p) [] kws pos) (tKd C x t) := by
  obtain ⟨fC, T, fd, F1, _, _, kb⟩ := KK
  refine ⟨fun pins s σ H Q I h => ?_⟩
  refine wpAny_Call_Name_kw (ld_glob I hg T.g ?_ hdb)
  refine PySem.W.callWith_KW0 (h₀ := X.base) I.ok.mod.kin T.T.kC hall ?_ hpl
  refine thn (hkw.run pos pins s σ H _ I h) fun ws s2 ⟨zs, H2, I2, rz, pl, ev, q2⟩ => ⟨I2.kIn, ?_⟩
  rw [hks]
  subst ev
  cases rz with
  | @cons _ u0 _ _ r1 rr =>
    cases rr
    refine err_made T.T T.iC T.tI F1 hr hx I2 (us := []) (us2 := [u0]) (kw := (["place"] : List Str).zip [u0]) (Nat.zero_le _) (fun s' a J => by have z := kb.to s' [.ref a] [u0] J rfl rfl; exact z) (show Vals [pl] [u0] from .cons r1 .nil) (err_kind T q2)
/-- e.word, e.place -/
def tXq (K : PySem.W.Frag) (n : Str) (te : TE) : TE := fun σ H Q => te σ H fun y H1 => ∃ (a C d : Addr) (wd pl v : V), y = .ref a ∧ ErrAt H1 a C d wd pl ∧ XfC K C ∧ PySem.W.findIn K (.ref C) n = some none ∧ (errF wd pl).lookup n = some v ∧ Q v H1
theorem ErrAt.inst {P : Program} {w : World} {H : Hp} {s : Shared} {a C d : Addr} {wd pl : V} (x : ErrAt H a C d wd pl) (hok : HOk P w H s.heap) : ∃ (oe od : Obj) (mA : Str → Option Value), PySem.W.InstAt s.heap a oe C (some od) ∧
    (∀ f, RelO ((errF wd pl).lookup f) (mA f)) ∧ PySem.Heap.Ns1 s.heap d mA ∧ s.heap.get? d = some od := by
  obtain ⟨oe, hz, ⟨vs, hf⟩, h1, h2⟩ := x
  have isD : ObjOk P w H s.heap d (.xd (errF wd pl)) := hok d _ h2
  obtain ⟨mA, ns, rel⟩ := isD
  obtain ⟨od, lookD, _⟩ := lookIn_ns ns
  exact ⟨oe, od, mA, ⟨exq_at hok h1, hz.1, by unfold PySem.W.notCls; rw [hf] <;> rfl, by rw [hz.2]; exact lookD⟩, rel, ns, lookD⟩
theorem pe_xq {te : TE} {n : Str} (he : PE X e te) (hb : attributeBase e n X.env (eval e X.env) = eval e X.env := by rfl) : PE X (.Attribute e n pos) (tXq X.K n te) := by
  refine ⟨fun pins s σ H Q I h => ?_⟩
  refine attr_of hb (thn (he.run pins s σ H _ I h) fun u s1 ⟨y, H1, I1, ry, a, C, d, wd, pl, v, ey, E, T, hno, l, q⟩ => ?_)
  subst ey
  obtain rfl : u = Value.ref a := ry
  obtain ⟨oe, hz, ⟨vs, hf⟩, h1, h2⟩ := E
  have isD : ObjOk X.prog X.w H1 s1.heap d (.xd (errF wd pl)) := I1.hok d _ h2
  obtain ⟨mA, hns, hr⟩ := isD
  obtain ⟨od, ho, hl⟩ := lookIn_ns hns
  obtain ⟨u, hu, ru⟩ := RelO.some_of (v := v) (o := mA n) (by rw [← l]; exact hr n)
  have J : PySem.W.InstAt s1.heap a oe C (some od) := ⟨exq_at I1.hok h1, hz.1, by unfold PySem.W.notCls; rw [hf] <;> rfl, by rw [hz.2]; exact ho⟩
  exact HandSPX.exc_get I1.kIn J T.ga T.gg T.exC (PySem.W.findObj_own T.hdC hno rfl (by rw [hl, hu])) (handed_of ru) ⟨v, H1, I1.tok _, ru, q⟩
end
/-- isinstance(e, c), e an error of the class at C, standing at a as W says -/
def rIsW (K : PySem.W.Frag) (a C : Addr) (W : Hp → Prop) : List V → Hp → VK → Prop := fun xs H Q => ∃ (c : V) (cv : Value) (b : Bool), xs = [.ref a, c] ∧ W H ∧ (∀ u, RelV c u → u = cv) ∧ PySem.W.kitOne K (.ref C) cv = some b ∧ Q (.bl b) H
theorem call_isW {X : Cx} {a C : Addr} {W : Hp → Prop} (EC : ExcC X.K C) (ic : PySem.W.isClsIn X.K C = true) (hW : ∀ (pins : List (Addr × Obj)) (σ : L2.St) (H : Hp) (s : Shared), Inv X pins σ H s → W H → ∃ oe od, PySem.W.InstAt s.heap a oe C od)
    (K : PySem.W.Frag) (hK : X.K = K := by rfl) : CallR X (.builtin "isinstance") (rIsW K a C W) := by
  subst hK
  rintro pins s σ H xs us Q I r ⟨c, cv, b, rfl, hw, hcv, kit, q⟩
  cases r with
  | cons r1 rr =>
    cases rr with
    | cons r2 rr =>
      cases rr
      cases r1
      obtain rfl := hcv _ r2
      obtain ⟨oe, od, J⟩ := hW pins σ H s I hw
      exact PySem.W.kia_one (PySem.W.kitx_exc (show (PySem.W.clsIn X.K C).isSome = true from ic) EC.hg EC.hk EC.hs EC.ha EC.hn EC.ht EC.hm) I.kIn J kit (fun z => nomatch z) fun tk => ⟨.bl b, H, I.kept (t' := tk) fun _ _ z => z, rfl, q⟩
/-- .. of an error that is told -/
def rIsQ (K : PySem.W.Frag) : List V → Hp → VK → Prop := fun xs H Q => ∃ (a C d : Addr) (wd pl c : V) (cv : Value) (b : Bool), xs = [.ref a, c] ∧ ErrAt H a C d wd pl ∧ ExcC K C ∧ PySem.W.isClsIn K C = true ∧ (∀ u, RelV c u → u = cv) ∧ PySem.W.kitOne K (.ref C) cv = some b ∧ Q (.bl b) H
theorem call_isQ {X : Cx} (K : PySem.W.Frag) (hK : X.K = K := by rfl) : CallR X (.builtin "isinstance") (rIsQ K) := by
  rintro pins s σ H xs us Q I r ⟨a, C, d, wd, pl, c, cv, b, e, E, EC, ic, hcv, kit, q⟩
  subst hK
  exact (call_isW (a := a) (C := C) (W := fun H => ErrAt H a C d wd pl) EC ic (fun pins σ H s J w => by
    obtain ⟨oe, od, _, z, _⟩ := w.inst (s := s) J.hok
    exact ⟨oe, _, z⟩) X.K rfl) pins s σ H xs us Q I r ⟨c, cv, b, e, E, hcv, kit, q⟩
structure FnP (P : Program) (w : World) (K : PySem.W.Frag) (mg : Str → Option Value) (base : Heap) (CX : CXT) (k : Nat) (f : Addr) (fd : FuncData) (ps : List Str) (sp : Addr × Obj → Sp) : Prop where
  len : ∀ p vs H Q E, sp p vs H Q E → vs.length = ps.length
  run : ∀ (A : Around) (outer : List Env) (s : Shared) (H : Hp) (args : Args) (us : List Value) (vs : List V) (Q : VK) (E : XK) (p : Addr × Obj), L2H.RoomH k A → L2H.PinOk outer H s p → Env0 P w K mg base A outer s H → BindsTo s fd args (ps.zip us) → Vals vs us → sp p vs H Q E →
    codeAny (model P w) A (.call (.ref f) args) (CR CX outer P w H s Q E) s
theorem Fun.okP {CX : CXT} {P : Program} {w : World} {K : PySem.W.Frag} {mg : Str → Option Value} {base : Heap} {k : Nat} {f : Addr} {fd : FuncData} {N ps : List Str} {sp : Addr × Obj → Sp} {x qual : Str} {st : Stmt} (F : Fun K x qual st f fd) (S : FnScope N ps (defScope st))
    (len : ∀ p vs H Q E, sp p vs H Q E → vs.length = ps.length)
    (hb : ∀ (cdv : Value) (A : Around) (outer : List Env) (s : Shared) (H : Hp) (vs : List V) (Q : VK) (E : XK) (p : Addr × Obj), L2H.RoomH k (A.deeper (envOfC qual (defScope st) s.heap.objs.size f cdv)) → sp p vs H Q E →
      ∃ t, PSs (L2H.cxH CX P w K mg base N qual (defScope st) f cdv A outer s H E p) (defBody st) t ∧ t { nx := fun _ H' => Q .non H', rt := Q } (L2.start N vs) H) : FnP P w K mg base CX (k + 1) f fd ps sp := by
  obtain ⟨oc, od, kV, doc, pm, an, cdv, ct, osl, rfl, lk, hcd⟩ := F.ex
  refine ⟨len, fun A o s H args us vs Q E p rm pin env bnd rel prom => ?_⟩
  have eqlen := len p vs H Q E prom
  have kin : K.In s.heap := env.mod.kin.keeps fun b ob e => (env.bs b ob e).1
  have nol : s.heap.NoLimit := env.mod.nolimit.keeps fun b ob e => (env.bs b ob e).1
  have places : ∀ y ∈ ps.zip us, (defScope st).names.lookup y.1 = some .local ∨ ((defScope st).names.lookup y.1 = some .cell ∧ ((cellsFrom (s.heap.objs.size + 1) (defScope st).names []).lookup y.1).isSome = true) := by
    rintro ⟨n, v⟩ hy
    rcases S.par n (List.of_mem_zip hy).1 with z | z
    · exact Or.inl z
    · exact Or.inr ⟨z, PySem.W.cellsFrom_some _ _ _ (Or.inl z)⟩
  refine codeAny_call_function rm.depth (kin _ _ lk) rfl S.co S.gen rfl (PySem.W.codeRec_of kin hcd) (bnd _ _ _ _ ?_)
  refine wpAny_newFunctionEnv_cells S.kind places fun e2 he2 s1 inC => ?_
  subst he2
  refine ⟨nol.keeps inC.toInCall.keep, codeAny_func ?_⟩
  obtain ⟨t, walk, read⟩ := hb cdv A o s H vs Q E p (rm.deeper _) prom
  have inv := L2H.inv_startH (E := E) (CX := CX) S pin env eqlen rel inC
  refine wpAny_mono (walk.run [] s1 _ H _ inv read) (fun fl s' done => ?_) (fun e s' done => done)
  have give : ∀ {σ' : L2.St} {H' : Hp} {v : V} {u : Value}, Inv (L2H.cxH CX P w K mg base N qual (defScope st) f cdv A o s H E p) [] σ' H' s' → RelV v u → Q v H' → CE o P w H s Q u s' := by
    intro σ' H' v u J rv qq
    exact ⟨v, H', J.os, J.bare, J.base, J.hok, rv, qq⟩
  match fl, done with
  | .ret u, ⟨v, σ', H', J, rv, qq⟩ => exact give J rv qq
  | .next, ⟨σ', H', J, qq⟩ => exact give (v := V.non) (u := Value.none) J rfl qq
  | .brk, ⟨_, _, _, z⟩ => exact z.elim
  | .cont, ⟨_, _, _, z⟩ => exact z.elim
section
variable {X : Cx} {CX : CXT} {k : Nat} {f a : Addr} {oe : Obj} {pn : List (Addr × Obj)} {fd : FuncData} {ps : List Str} {sp : Addr × Obj → Sp} {x : Str} {q pos : Pos} {e : Expr} {es : List Expr} {t : TA}
def tCallP (a : Addr) (cls : Value) (d : Option Addr) (sp : Addr × Obj → Sp) (t : TA) : TE := fun σ H Q => t σ H fun vs H1 => ∀ oe : Obj, Zc cls d oe → (∃ vs, oe.data = .fields vs) → sp (a, oe) vs H1 Q (fun _ _ _ => False)
theorem pe_callP {cls : Value} {d : Option Addr} (hz : Zc cls d oe) (hf : ∃ vs, oe.data = .fields vs) (F : FnP X.prog X.w X.K X.mg X.base CX k f fd ps sp) (hr : L2H.RoomH k X.A) (hg : Gl X x) (hm : X.mg x = some (.ref f)) (hk : PySem.W.keepIn X.K (.ref f) = true) (hb : Binds X.K fd ps []) (hx : Passes CX (X.suite a ((a, oe) :: pn)) (fun _ _ _ => False))
    (ha : PA (X.suite a ((a, oe) :: pn)) (e :: es) t) (hdb : (x == ("__debug__" : Str)) = false := by decide) (he : starEach (e :: es) X.env = (false, eval e X.env) :: starEach es X.env := by rfl) (hpl : (backTo pos (starEach es X.env)).any (·.1) = false := by rfl) :
    PE (X.suite a ((a, oe) :: pn)) (.Call (.Name x q) (e :: es) [] pos) (tCallP a cls d sp t) := by
  refine ⟨fun pins s σ H Q I h => ?_⟩
  refine wpAny_Call_Name_kw (ld_glob I hg hm ?_ hdb)
  refine PySem.W.callWith_K (h₀ := X.base) I.ok.mod.kin hk (thn (ha.run pos pins s σ H _ I h) fun us s1 ⟨vs, H1, I1, r, q0⟩ => ⟨I1.kIn, ?_⟩) he hpl
  have q := q0 oe hz hf
  have hl : us.length = ps.length := by rw [← r.length]; exact F.len _ _ _ _ _ q
  have b := hb s1 us I1.kIn (by rw [List.append_nil]; exact hl)
  rw [List.append_nil] at b
  have P1 := I1.pin (a, oe) (List.mem_append_left _ List.mem_cons_self)
  have hpin : L2H.PinOk X.stack H1 s1 (a, oe) := ⟨P1.1, P1.2.1, fun hm => (List.mem_cons.mp (I1.stkSub a hm)).elim P1.2.2.1 P1.2.2.2.1, P1.2.2.2.2⟩
  show wpAny _ _ (call (.ref f) us) _ _ _
  refine wpAny_call (codeAny_mono (F.run _ X.stack s1 H1 ⟨us, []⟩ us vs Q (fun _ _ _ => False) (a, oe) ⟨hr.dp, hr.un⟩ hpin I1.env0 b r q) fun r s' hq => ?_)
  cases r with
  | error e => exact hx pins σ H1 s1 e s' I1 hq
  | ok fl =>
    cases fl with
    | ret u => exact I1.after hq
    | next => exact False.elim hq
    | brk => exact False.elim hq
    | cont => exact False.elim hq
end
end Od
namespace Od
open PySem PySem.Spec PyProof.Rows L2 Evl
/-- the kinds' names -/
def kindN : List Str := ["BadLine", "BadFilm", "BadLayer", "DuplicateLayer", "UnknownLayer", "BadFrame", "BadClip", "BadCut", "BadEdit", "NothingToUndo", "NothingToRedo", "BadPaint", "BadPicture", "BadWhat", "BadMoves", "BadJoin", "BadPlace", "BadRectangle"]
/-- the base too -/
abbrev errN : List Str := ("FilmError" : Str) :: kindN
def AllL {α : Type} (P : α → Prop) : List α → Prop
  | [] => True
  | a :: l => P a ∧ AllL P l
theorem AllL.mem {α : Type} {P : α → Prop} : ∀ {l : List α}, AllL P l → ∀ a ∈ l, P a
  | _ :: l, ⟨h, r⟩, a, ha => by
    rcases List.mem_cons.mp ha with e | e
    · rw [e]
      exact h
    · exact AllL.mem r a e
theorem inj_map {α β : Type} {f : α → β} : ∀ {l : List α}, (l.map f).Nodup → ∀ a ∈ l, ∀ b ∈ l, f a = f b → a = b
  | c :: l, nd, a, ha, b, hb, e => by
    rw [List.map_cons, List.nodup_cons] at nd
    rcases List.mem_cons.mp ha with h1 | h1
    · rcases List.mem_cons.mp hb with h2 | h2
      · rw [h1, h2]
      · exact absurd (h1 ▸ e ▸ List.mem_map_of_mem (f := f) h2) nd.1
    · rcases List.mem_cons.mp hb with h2 | h2
      · exact absurd (h2 ▸ e ▸ List.mem_map_of_mem (f := f) h1) nd.1
      · exact inj_map nd.2 a h1 b h2 e
/-- a class of errors as it stands: tl are those above it -/
structure EK (K : PySem.W.Frag) (mg : Str → Option Value) (tl : List Value) (x : Str) (C : Addr) : Prop where
  g : mg x = some (.ref C)
  look : ∃ nm q N bs sn sub ab col dd k0 k1 k2 k3 k5, K.lookup C = some (excClassObj nm q C N bs tl true sn sub ab col dd k0 k1 k2 k3 k5 "ValueError.__new__")
  ty : PySem.W.typeIn K (.ref C) = some (.type "type")
  ic : PySem.W.isClsIn K C = true
  ec : ExcC K C
theorem kit_ek {K : PySem.W.Frag} {mg mg' : Str → Option Value} {tl tl' : List Value} {x y : Str} {C D : Addr} (h : EK K mg tl x C) (h' : EK K mg' tl' y D) : PySem.W.kitOne K (.ref C) (.ref D) = some ((Value.ref C :: tl).contains (.ref D)) := by
  obtain ⟨nm, q, N, bs, sn, sub, ab, col, dd, k0, k1, k2, k3, k5, look⟩ := h.look
  have m : PySem.W.subIn K (.ref C) (.ref D) = some ((Value.ref C :: tl).contains (.ref D)) := by
    show PySem.W.mroIn K C (.ref D) = _
    unfold PySem.W.mroIn PySem.W.clsIn
    rw [look] <;> rfl
  unfold PySem.W.kitOne
  by_cases e : C = D
  · subst e
    rw [if_pos (beq_self_eq_true _), List.contains_cons, beq_self_eq_true]
    rfl
  · have n : (Value.ref C == Value.ref D) = false := by
      simp only [beq_eq_false_iff_ne, ne_eq, Value.ref.injEq]
      exact e
    rw [if_neg (by rw [n]; decide)]
    unfold PySem.W.kitCls
    have c : ((PySem.W.clsIn K D).isSome && PySem.W.typeIn K (.ref D) == some (.type "type")) = true := by
      rw [show (PySem.W.clsIn K D).isSome = true from h'.ic, h'.ty] <;> rfl
    show (if _ = true then PySem.W.subIn K (.ref C) (.ref D) else none) = _
    rw [if_pos c, m]
theorem kit_ve {K : PySem.W.Frag} {mg : Str → Option Value} {tl : List Value} {x : Str} {C : Addr} (h : EK K mg tl x C) (ht : tl.contains (.type "ValueError") = true) : PySem.W.kitOne K (.ref C) (.type "ValueError") = some true := by
  obtain ⟨nm, q, N, bs, sn, sub, ab, col, dd, k0, k1, k2, k3, k5, look⟩ := h.look
  unfold PySem.W.kitOne
  rw [if_neg (by simp)]
  unfold PySem.W.kitCls
  show (if PySem.W.kitMeta "ValueError" = true then PySem.W.mroIn K C (.type "ValueError") else none) = _
  rw [if_pos (by decide +kernel)]
  unfold PySem.W.mroIn PySem.W.clsIn
  rw [look]
  show (if (Value.ref C :: tl).isEmpty = true then none else some ((Value.ref C :: tl).contains (.type "ValueError"))) = _
  rw [if_neg (by simp), List.contains_cons, ht, Bool.or_true]
abbrev veT : List Value := [.type "ValueError", .type "Exception", .type "BaseException", .type "object"]
/-- the base error -/
def FilmX (P : Program) (w : World) (K : PySem.W.Frag) (mg : Str → Option Value) (base : Heap) (C fC : Addr) : Prop :=
  KindTxt K mg "FilmError" C fC ∧ ∃ fd, FnOk P w K mg base CX0 1 fC fd ["self", "word", "place"] (spErrInit K) ∧ (∃ ds, Vals [.non] ds ∧ Binds K fd ["self", "word", "place"] ds) ∧ Binds K fd ["self", "word", "place"] []
/-- all errors of the program -/
structure ErrAll (P : Program) (w : World) (K : PySem.W.Frag) (mg : Str → Option Value) (base : Heap) : Prop where
  kind : ∀ x ∈ kindN, ∃ C, KindX P w K mg base x C
  film : ∃ C fC, FilmX P w K mg base C fC
  exc : ∀ x ∈ errN, ∀ C, mg x = some (.ref C) → ExcC K C ∧ PySem.W.isClsIn K C = true ∧ PySem.W.kitOne K (.ref C) (.type "ValueError") = some true
  isF : ∀ x ∈ errN, ∀ C F, mg x = some (.ref C) → mg "FilmError" = some (.ref F) → PySem.W.kitOne K (.ref C) (.ref F) = some true
  mat : ∀ x ∈ errN, ∀ y ∈ kindN, ∀ C D, mg x = some (.ref C) → mg y = some (.ref D) → PySem.W.kitOne K (.ref C) (.ref D) = some (x == y)
  xf : ∀ x ∈ errN, ∀ C, mg x = some (.ref C) → XfC K C ∧ PySem.W.findIn K (.ref C) "word" = some none ∧ PySem.W.findIn K (.ref C) "place" = some none
theorem errAll_of {P : Program} {w : World} {K : PySem.W.Frag} {mg : Str → Option Value} {base : Heap} {F fF : Addr} {l : List (Str × Addr)} (hl : l.map (·.1) = kindN) (nd : (F :: l.map (·.2)).Nodup) (film : FilmX P w K mg base F fF) (ekF : EK K mg veT "FilmError" F)
    (kx : AllL (fun p => KindX P w K mg base p.1 p.2) l) (ek : AllL (fun p => EK K mg (.ref F :: veT) p.1 p.2) l) : ErrAll P w K mg base := by
  have inl : ∀ x ∈ kindN, ∃ C, (x, C) ∈ l := fun x hx => by
    rw [← hl] at hx
    obtain ⟨p, hp, rfl⟩ := List.mem_map.mp hx
    exact ⟨p.2, hp⟩
  have nf : ∀ x C, (x, C) ∈ l → F ≠ C := fun x C h z => (List.nodup_cons.mp nd).1 (z ▸ List.mem_map_of_mem (f := (·.2)) h)
  have eqC : ∀ {x : Str} {C D : Addr}, mg x = some (.ref C) → mg x = some (.ref D) → C = D := fun h h' => by
    rw [h] at h'
    cases h'
    rfl
  have all : ∀ x ∈ errN, ∀ C, mg x = some (.ref C) → (x = "FilmError" ∧ C = F) ∨ (x ∈ kindN ∧ (x, C) ∈ l) := fun x hx C hC => by
    rcases List.mem_cons.mp hx with e | e
    · subst e
      exact .inl ⟨rfl, eqC hC ekF.g⟩
    · obtain ⟨D, hD⟩ := inl x e
      have := eqC hC (ek.mem _ hD).g
      subst this
      exact .inr ⟨e, hD⟩
  have noF : ∀ y ∈ kindN, (("FilmError" : Str) == y) = false := by decide +kernel
  refine ⟨fun x hx => ?_, ⟨F, fF, film⟩, fun x hx C hC => ?_, fun x hx C G hC hG => ?_, fun x hx y hy C D hC hD => ?_, fun x hx C hC => ?_⟩
  · obtain ⟨C, hC⟩ := inl x hx
    exact ⟨C, kx.mem _ hC⟩
  · rcases all x hx C hC with ⟨rfl, rfl⟩ | ⟨_, h⟩
    · exact ⟨ekF.ec, ekF.ic, kit_ve ekF (by decide)⟩
    · have e := ek.mem _ h
      exact ⟨e.ec, e.ic, kit_ve e (by rw [List.contains_cons]; simp)⟩
  · have := eqC hG ekF.g
    subst this
    rcases all x hx C hC with ⟨rfl, rfl⟩ | ⟨_, h⟩
    · rw [kit_ek ekF ekF, List.contains_cons, beq_self_eq_true]
      rfl
    · rw [kit_ek (ek.mem _ h) ekF, List.contains_cons, List.contains_cons, beq_self_eq_true, Bool.true_or, Bool.or_true]
  · obtain ⟨D', hD'⟩ := inl y hy
    have := eqC hD (ek.mem _ hD').g
    subst this
    rcases all x hx C hC with ⟨rfl, rfl⟩ | ⟨_, h⟩
    · rw [kit_ek ekF (ek.mem _ hD'), noF y hy]
      have n := nf y D hD'
      simp [n.symm, Ne.symm n]
    · rw [kit_ek (ek.mem _ h) (ek.mem _ hD')]
      have n := nf y D hD'
      by_cases e : x = y
      · subst e
        have := eqC hC (ek.mem _ hD').g
        subst this
        rw [List.contains_cons, beq_self_eq_true, beq_self_eq_true]
        rfl
      · have cd : C ≠ D := fun z => by
          subst z
          have nd2 := (List.nodup_cons.mp nd).2
          have : (x, C) = (y, C) := by
            have inj := inj_map nd2 _ h _ hD' rfl
            exact inj
          exact e (congrArg Prod.fst this)
        have e2 : (x == y) = false := beq_eq_false_iff_ne.mpr e
        rw [e2]
        have n2 : F ≠ D := n
        simp [cd, n2, Ne.symm cd, Ne.symm n2]
  · rcases all x hx C hC with ⟨rfl, rfl⟩ | ⟨_, h⟩
    · exact ⟨film.1.xf, film.1.noW, film.1.noP⟩
    · obtain ⟨fC, T, _⟩ := kx.mem _ h
      exact ⟨T.xf, T.noW, T.noP⟩
section
variable {X : Cx} {C fC : Addr} {p pos : Pos} {e : Expr} {t : TA}
theorem err_film {K : PySem.W.Frag} {mg : Str → Option Value} {wd pl : V} {H : Hp} {Q : VK} (T : KindTxt K mg "FilmError" C fC) (h : ErrQ C wd pl H Q) (a : Addr) (ha : H a = none) :
    spErrInit K [.ref a, wd, pl] (upd H a (exo a C none)) (fun v H2 => v = .non ∧ ∃ (d : Addr) (fs : List (Str × V)), H2 a = some (exo a C (some d)) ∧ H2 d = some (exd d fs) ∧ d ≠ a ∧
      ∀ oe : Obj, Zc (.ref C) (some d) oe → (∃ vs, oe.data = .fields vs) → Q (.ref a) (upd (upd H2 a (exq a oe)) d (.xd fs))) (fun _ _ _ => False) := by
  refine ⟨a, C, wd, pl, rfl, T.T, upd_same, T.noW, T.noP, fun dx H' hd hne h1 h2 h3 => ⟨rfl, dx, _, h1, h2, hne, fun oe hz hf => ?_⟩⟩
  refine h a dx _ ha (by rwa [upd_ne hne] at hd) hne ⟨oe, hz, hf, (upd_ne (Ne.symm hne)).trans upd_same, upd_same⟩ fun b n1 n2 => ?_
  rw [upd_ne n2, upd_ne n1, h3 b n1 n2, upd_ne n1]
/-- what is left of a FilmError that is raised: its dict -/
theorem film_made {K : PySem.W.Frag} {mg : Str → Option Value} {wd pl : V} {H : Hp} {R : VK} {E : XK} (T : KindTxt K mg "FilmError" C fC) {a : Addr} (ha : H a = none)
    (h : ∀ d H2, H d = none → H2 a = some (exo a C (some d)) → H2 d = some (exd d (errF wd pl)) → Ex H (upd (del H2 a) d (.xd (errF wd pl))) → R .non H2) :
    spErrInit K [.ref a, wd, pl] (upd H a (exo a C none)) R E := by
  refine ⟨a, C, wd, pl, rfl, T.T, upd_same, T.noW, T.noP, fun dx H' hd hne h1 h2 h3 => h dx H' ?_ h1 h2 ?_⟩
  · rwa [upd_ne hne] at hd
  · rw [upd_ne hne] at hd
    refine fun b o hb => ?_
    have n1 : b ≠ a := fun z => by rw [z, ha] at hb; cases hb
    have n2 : b ≠ dx := fun z => by rw [z, hd] at hb; cases hb
    rw [upd_ne n2, del_ne n1, h3 b n1 n2, upd_ne n1]
    exact hb
/-- FilmError(word) -/
def tFilm (C : Addr) (t : TA) : TE := fun σ H Q => t σ H fun vs H1 => ∃ wd, vs = [wd] ∧ ErrQ C wd .non H1 Q
theorem pe_film (KK : FilmX X.prog X.w X.K X.mg X.base C fC) (hr : Room 2 X.A) (hx : Passes CX0 X (fun _ _ _ => False)) (hg : Gl X "FilmError") (ha : PA X [e] t)
    (he : starEach [e] X.env = (false, eval e X.env) :: starEach [] X.env := by rfl) (hpl : (backTo pos (starEach [] X.env)).any (·.1) = false := by rfl) : PE X (.Call (.Name "FilmError" p) [e] [] pos) (tFilm C t) := by
  obtain ⟨T, fd, F1, ⟨ds, rd, b1⟩, _⟩ := KK
  refine ⟨fun pins s σ H Q I h => ?_⟩
  refine wpAny_Call_Name_kw (ld_glob I hg T.g (PySem.W.callWith_K (h₀ := X.base) I.ok.mod.kin T.T.kC (thn (ha.run pos pins s σ H _ I h) fun us s1 ⟨vs, H1, I1, r, wd, ev, q⟩ => ⟨I1.kIn, ?_⟩) he hpl) (by decide))
  subst ev
  cases rd with
  | cons rd1 rdr =>
    cases rdr
    cases rd1
    cases r with
    | @cons _ u0 _ _ r1 rr =>
      cases rr
      exact err_made T.T T.iC T.tI F1 hr hx I1 (us := [u0]) (us2 := [u0, .none]) (kw := []) (by show 1 ≤ sizeLine; rw [sizeLine_eq]; decide) (fun s' a J => by have z := b1 s' [.ref a, u0] J rfl; exact z) (show Vals [wd, .non] [u0, .none] from .cons r1 (.cons rfl .nil)) (err_film T q)
end
/-- a place's text -/
def PlT (K : PySem.W.Frag) (H : Hp) (v : V) (t : Str) : Prop := (v = .non ∧ t = "None") ∨ (∃ i : Int, v = .int i ∧ i.natAbs.log2 < 1920 ∧ t = toString i) ∨ (∃ x : Str, v = .str x ∧ (reprText x).length ≤ sizeLine ∧ t = reprText x) ∨
  ∃ (a : Addr) (d : PyData), v = .ref a ∧ Dp K H (.ref a) d ∧ d.showable = true ∧ d.hasDict = false ∧ d.depth ≤ 60 ∧ d.shown.length ≤ sizeLine ∧ t = d.shown
def rReprP (K : PySem.W.Frag) : List V → Hp → VK → Prop := fun vs H Q => ∃ v t, vs = [v] ∧ PlT K H v t ∧ Q (.str t) H
theorem krepP {X : Cx} (K : PySem.W.Frag) (gd : Gd X.A) (hu : X.A.units + 64 < cLine) (h : X.K = K := by rfl) : CallR X (.builtin "repr") (rReprP K) := by
  subst h
  intro pins s σ H vs us Q I r q
  obtain ⟨v, t, rfl, hp, q⟩ := q
  cases r with
  | @cons _ u0 _ _ r1 rr =>
    cases rr
    rcases hp with ⟨rfl, rfl⟩ | ⟨i, rfl, hi, rfl⟩ | ⟨x, rfl, hx, rfl⟩ | ⟨a, d, rfl, hd, h1, h2, h3, h4, rfl⟩
    · cases r1
      exact PySem.P.repr_of_none ⟨.str _, H, I.tok _, ⟨_, rfl⟩, q⟩
    · obtain ⟨k, rfl⟩ := r1
      exact PySem.P.repr_of_int hi ⟨.str _, H, I.tok _, ⟨_, rfl⟩, q⟩
    · obtain ⟨k, rfl⟩ := r1
      exact PySem.P.repr_of_str ⟨.str _, H, I.tok _, ⟨_, rfl⟩, q⟩ hx
    · cases r1
      obtain ⟨as, rd⟩ := Dp.reads I d (.ref a) (.ref a) hd rfl
      refine repr_of_reads' rd h1 (fun z => by rw [h2] at z; cases z) gd (by omega) (fun _ _ e => e) (fun h' u tk hk => ?_) h4
      exact ⟨.str d.shown, H, I.kept (t' := tk) hk, ⟨u, rfl⟩, q⟩
/-- what may be a place -/
def Pl (H : Hp) (v : V) : Prop := v = .non ∨ (∃ i : Int, v = .int i ∧ i.natAbs < 10 ^ 30) ∨ (∃ x : Str, v = .str x ∧ x ∈ (["", "a", "ab", "abc"] : List Str)) ∨ ∃ (a : Addr) (i : Int), v = .ref a ∧ H a = some (.tup [.int i, .int 7]) ∧ i.natAbs < 10 ^ 30
theorem Pl.ex {H H' : Hp} {v : V} (h : Pl H v) (e : Ex H H') : Pl H' v := by
  rcases h with h | h | h | ⟨a, i, h1, h2, h3⟩
  · exact .inl h
  · exact .inr (.inl h)
  · exact .inr (.inr (.inl h))
  · exact .inr (.inr (.inr ⟨a, i, h1, e _ _ h2, h3⟩))
theorem log_small {i : Int} (h : i.natAbs < 10 ^ 30) : i.natAbs.log2 < 100 := by
  by_cases z : i.natAbs = 0
  · rw [z]
    decide
  · exact (Nat.log2_lt z).mpr (Nat.lt_trans h (by decide))
theorem sh_big {i : Int} (h : i.natAbs < 10 ^ 30) : PyData.showable (.int i) = true ∧ PyData.leavesShort 40 (.int i) = true ∧ PyData.weight (.int i) ≤ 101 := by
  have hl := log_small h
  refine ⟨?_, ?_, ?_⟩
  · simp only [PyData.showable, decide_eq_true_eq]
    exact Nat.lt_trans hl (by decide)
  · simp only [PyData.leavesShort, decide_eq_true_eq]
    have e := int_text_length_le10 (a := i) (k := 30) (by decide) h
    show (Str.ofString (toString i)).length ≤ 40
    rw [PySem.ofString_length]
    exact Nat.le_trans e (by decide)
  · simp only [PyData.weight]
    by_cases z : i = 0
    · subst z
      decide
    · have : (i == 0) = false := beq_eq_false_iff_ne.mpr z
      rw [this]
      show i.natAbs.log2 + 1 ≤ 101
      omega
/-- the data that stands in such a place -/
theorem Pl.data {K : PySem.W.Frag} {H : Hp} {v : V} (h : Pl H v) : ∃ d : PyData, SeqAt.shaped d = true ∧ PyData.eqv d d = true ∧ ∀ H', Ex H H' → Dp K H' v d := by
  rcases h with rfl | ⟨i, rfl, hi⟩ | ⟨x, rfl, hx⟩ | ⟨a, i, rfl, ha, hi⟩
  · exact ⟨.none, by decide, by decide, fun _ _ => .non⟩
  · have l : PyData.canLay0 (.int i) = true := by
      simp only [PyData.canLay0]
    exact ⟨.int i, by unfold SeqAt.shaped; rw [l]; rfl, eqv_self l, fun _ _ => .int i⟩
  · have l : PyData.canLay0 (.str x) = true := by
      simp only [List.mem_cons, List.not_mem_nil, or_false] at hx
      rcases hx with rfl | rfl | rfl | rfl <;> decide +kernel
    exact ⟨.str x, by unfold SeqAt.shaped; rw [l]; rfl, eqv_self l, fun _ _ => .str x⟩
  · have l : PyData.canLay0 (.tuple [.int i, .int 7]) = true := by
      simp only [PyData.canLay0, PyData.canLayAll0]
      rfl
    exact ⟨.tuple [.int i, .int 7], by unfold SeqAt.shaped; rw [l]; rfl, eqv_self l, fun H' e => .tup (SqT.of (e _ _ ha)) (.cons (.int i) (.cons (.int 7) .nil))⟩
theorem Pl.text {K : PySem.W.Frag} {H : Hp} {v : V} (h : Pl H v) : ∃ t, ∀ H', Ex H H' → PlT K H' v t := by
  rcases h with rfl | ⟨i, rfl, hi⟩ | ⟨x, rfl, hx⟩ | ⟨a, i, rfl, ha, hi⟩
  · exact ⟨_, fun _ _ => .inl ⟨rfl, rfl⟩⟩
  · exact ⟨_, fun _ _ => .inr (.inl ⟨i, rfl, Nat.lt_trans (log_small hi) (by decide), rfl⟩)⟩
  · refine ⟨_, fun _ _ => .inr (.inr (.inl ⟨x, rfl, ?_, rfl⟩))⟩
    simp only [List.mem_cons, List.not_mem_nil, or_false] at hx
    rcases hx with rfl | rfl | rfl | rfl <;> decide +kernel
  · obtain ⟨s1, s2, s3⟩ := sh_big hi
    have a1 : PyData.showable (.tuple [.int i, .int 7]) = true := by
      simp only [PyData.showable, PyData.showableAll, Bool.and_true]
      have z : PyData.showable (.int 7) = true := by decide
      simp only [PyData.showable] at s1 z
      rw [s1, z]
      rfl
    have a2 : PyData.leavesShort 40 (.tuple [.int i, .int 7]) = true := by
      simp only [PyData.leavesShort, PyData.leavesShortAll, Bool.and_true]
      have z : PyData.leavesShort 40 (.int 7) = true := by decide +kernel
      simp only [PyData.leavesShort] at s2 z
      rw [s2, z]
      rfl
    refine ⟨_, fun H' e => .inr (.inr (.inr ⟨a, .tuple [.int i, .int 7], rfl, .tup (SqT.of (e _ _ ha)) (.cons (.int i) (.cons (.int 7) .nil)), a1, rfl, ?_, ?_, rfl⟩))⟩
    · show PyData.depth (.tuple [.int i, .int 7]) ≤ 60
      simp [PyData.depth, PyData.depthAll]
    · have l := PyData.shown_le 40 (by decide) (.tuple [.int i, .int 7]) a2
      have w7 : PyData.weight (.int 7) = 3 := by decide
      have w : PyData.weight (.tuple [.int i, .int 7]) ≤ 110 := by
        simp only [PyData.weight, PyData.weightAll] at s3 w7 ⊢
        omega
      have e : sizeLine = 16777216 := by decide
      omega
structure DefP (P : Program) (w : World) (K : PySem.W.Frag) (mg : Str → Option Value) (base : Heap) (CX : CXT) (x : Str) (k : Nat) (ps : List Str) (sp : Addr × Obj → Sp) where
  f : Addr
  fd : FuncData
  ok : FnP P w K mg base CX k f fd ps sp
  mgf : mg x = some (.ref f)
  kp : PySem.W.keepIn K (.ref f) = true
  b : L2.Binds K fd ps []
end Od
namespace Od
open PySem PySem.Spec PyProof.Rows L2 Evl
theorem dp_bls {K : PySem.W.Frag} {H : Hp} : ∀ bs : List Bool, DpAll K H (bs.map V.bl) (bs.map PyData.bool)
  | [] => .nil
  | b :: bs => .cons (.bl b) (dp_bls bs)
theorem lay_bls : ∀ bs : List Bool, PyData.canLayAll0 (bs.map PyData.bool) = true
  | [] => rfl
  | b :: bs => by
    rw [List.map_cons, PyData.canLayAll0, lay_bls bs]
    rfl
theorem dep_bls : ∀ bs : List Bool, PyData.depthAll (bs.map PyData.bool) = 0
  | [] => rfl
  | b :: bs => by
    rw [List.map_cons, PyData.depthAll, dep_bls bs]
    rfl
theorem sh_bls (bs : List Bool) : SeqAt.shaped (.list (bs.map PyData.bool)) = true := by
  have l : PyData.canLay0 (.list (bs.map PyData.bool)) = true := by
    rw [PyData.canLay0]
    exact lay_bls bs
  have d : PyData.depth (.list (bs.map PyData.bool)) ≤ 64 := by
    rw [PyData.depth, dep_bls bs]
    decide
  unfold SeqAt.shaped
  rw [l, decide_eq_true d]
  rfl
theorem eqv_bls (bs : List Bool) : PyData.eqv (.list (bs.map PyData.bool)) (.list (bs.map PyData.bool)) = true := eqv_self (by
  rw [PyData.canLay0]
  exact lay_bls bs)
theorem kind_rows : ∀ n ∈ List.range 18, (kindN.map fun y => (kindN.getD n "") == y) = (List.range 18).map fun j => decide (j = n) := by decide +kernel
theorem kind_row {k : Int} {x : Str} (k0 : 0 ≤ k) (k1 : k < 18) (hx : kindN[k.toNat]? = some x) : (kindN.map fun y => x == y) = (List.range 18).map fun (j : Nat) => decide (V.int (0 + (j : Int)) = V.int k) := by
  have h := kind_rows k.toNat (List.mem_range.mpr (by omega))
  rw [List.getD_eq_getElem?_getD, hx] at h
  rw [show (some x).getD "" = x from rfl] at h
  rw [h]
  refine List.map_congr_left fun j hj => ?_
  refine decide_eq_decide.mpr ⟨fun e => ?_, fun e => ?_⟩
  · rw [e, Int.zero_add, Int.toNat_of_nonneg k0]
  · have := V.int.inj e
    omega
end Od
namespace Od
open PySem L2 Evl
def top (i : Nat) : Stmt := PySem.Challenge.pw_onlythedirt_k59_errors_apart.main.body.getD i (.Pass ⟨0, 0, 0, 0⟩)
structure Txt (K : PySem.W.Frag) (mg : Str → Option Value) : Prop where
  ValueError_ : mg "ValueError" = none
  int_ : mg "int" = none
  isinstance_ : mg "isinstance" = none
  len_ : mg "len" = none
  range_ : mg "range" = none
  repr_ : mg "repr" = none
  str_ : mg "str" = none
section
variable {P : Program} {w : World} {K : PySem.W.Frag} {mg : Str → Option Value} {base : Heap}
abbrev s_FilmErr : Stmt := clsDef (top 1)
theorem sc_FilmErr : FnScope ["self", "word", "place"] ["self", "word", "place"] (defScope s_FilmErr) := ⟨rfl, rfl, rfl, by decide +kernel, rfl, by decide +kernel, by decide +kernel⟩
theorem ok_FilmErr {f : Addr} {fd : FuncData} (F : FunD K "__init__" "FilmError.__init__" (defArgs s_FilmErr) (defBody s_FilmErr) (defScope s_FilmErr) [.non] [] f fd) {D fD : Addr} (FT : FilmTxt K mg D fD) : FnOk P w K mg base CX0 1 f fd ["self", "word", "place"] (spErrInit K) := by
  refine F.ok sc_FilmErr (fun vs H Q E h => ?_) (fun cdv A outer s H vs Q E hr h => ?_)
  · obtain ⟨a, C, wd, p, rfl, _⟩ := h
    rfl
  · obtain ⟨a, C, wd, p, rfl, T, ha, nw, np, q⟩ := h
    refine ⟨_, pss_cons (ps_expr (pe_veinit rfl FT.ve FT.vi (pa_cons (pv 0) (pa_cons (pv 1) pa_nil)))) (pss_cons (ps_ost (pv 0) (pv 1)) (pss_one (ps_ost (pv 0) (pv 2)))), ?_⟩
    refine ⟨_, rfl, _, rfl, a, C, [wd], rfl, (by show 1 ≤ 1000; decide), T, ha, ?_⟩
    refine ⟨_, rfl, _, rfl, a, C, rfl, T, nw, .inl ⟨ha, fun dx hd hne => ?_⟩⟩
    refine ⟨_, rfl, _, rfl, a, C, rfl, T, np, .inr ⟨dx, [("word", wd)], upd_same, by rw [upd_ne hne]; exact upd_same, (by show 1 ≤ 900; decide), ?_⟩⟩
    refine q dx _ hd hne (by rw [upd_ne (Ne.symm hne)]; exact upd_same) upd_same fun b n1 n2 => ?_
    rw [upd_ne n2, upd_ne n1, upd_ne n2]
theorem binds_FilmErr {f : Addr} {fd : FuncData} (F : FunD K "__init__" "FilmError.__init__" (defArgs s_FilmErr) (defBody s_FilmErr) (defScope s_FilmErr) [.non] [] f fd) : Binds K fd ["self", "word", "place"] [] := by
  obtain ⟨ds, r, b⟩ := F.binds1 (ps := ["self", "word", "place"]) 3 1 (by simp) rfl fun T kV doc pm an cdv ct us its hu hi => match us, hu, its, hi with | [_, _, _], _, [_], _ => ⟨_, rfl, rfl⟩
  cases r
  exact b
abbrev s_BadLine : Stmt := clsDef (top 2)
theorem sc_BadLine : FnScope ["self", "place"] ["self", "place"] (defScope s_BadLine) := ⟨rfl, rfl, rfl, by decide +kernel, rfl, by decide +kernel, by decide +kernel⟩
theorem ok_BadLine {f : Addr} {fd : FuncData} (F : FunD K "__init__" "BadLine.__init__" (defArgs s_BadLine) (defBody s_BadLine) (defScope s_BadLine) [.non] [] f fd) {D fD : Addr} {fdD : FuncData} (FT : FilmTxt K mg D fD)
    (G : FnOk P w K mg base CX0 1 fD fdD ["self", "word", "place"] (spErrInit K)) (kf : PySem.W.keepIn K (.ref fD) = true) (b : Binds K fdD ["self", "word", "place"] []) : FnOk P w K mg base CX0 2 f fd ["self", "place"] (spKind K "BadLine") := by
  refine F.ok sc_BadLine (fun vs H Q E h => ?_) (fun cdv A outer s H vs Q E hr h => ?_)
  · obtain ⟨a, C, p, rfl, _⟩ := h
    rfl
  · obtain ⟨a, C, p, rfl, T, ha, nw, np, q⟩ := h
    refine ⟨_, pss_one (ps_expr (pe_binit G (hr.mono (by decide)) rfl FT.g FT.rd FT.ga FT.fa kf b .nil pass0 (pa_cons (pv 0) (pa_cons pe_str (pa_cons (pv 1) pa_nil))))), ?_⟩
    exact ⟨_, rfl, _, rfl, a, C, .str "BadLine", p, rfl, T, ha, nw, np, fun dx H' h1 h2 h3 h4 h5 => q dx H' h1 h2 h3 h4 h5⟩
theorem binds_BadLine {f : Addr} {fd : FuncData} (F : FunD K "__init__" "BadLine.__init__" (defArgs s_BadLine) (defBody s_BadLine) (defScope s_BadLine) [.non] [] f fd) : (∃ ds, Vals [.non] ds ∧ Binds K fd ["self", "place"] ds) ∧ Binds K fd ["self", "place"] [] := by
  refine ⟨F.binds1 (ps := ["self", "place"]) 1 0 (by simp) rfl fun T kV doc pm an cdv ct us its hu hi => match us, hu, its, hi with | [_], _, [_], _ => ⟨_, rfl, rfl⟩, ?_⟩
  obtain ⟨ds, r, b⟩ := F.binds1 (ps := ["self", "place"]) 2 1 (by simp) rfl fun T kV doc pm an cdv ct us its hu hi => match us, hu, its, hi with | [_, _], _, [_], _ => ⟨_, rfl, rfl⟩
  cases r
  exact b
abbrev s_BadFilm : Stmt := clsDef (top 3)
theorem sc_BadFilm : FnScope ["self", "place"] ["self", "place"] (defScope s_BadFilm) := ⟨rfl, rfl, rfl, by decide +kernel, rfl, by decide +kernel, by decide +kernel⟩
theorem ok_BadFilm {f : Addr} {fd : FuncData} (F : FunD K "__init__" "BadFilm.__init__" (defArgs s_BadFilm) (defBody s_BadFilm) (defScope s_BadFilm) [.non] [] f fd) {D fD : Addr} {fdD : FuncData} (FT : FilmTxt K mg D fD)
    (G : FnOk P w K mg base CX0 1 fD fdD ["self", "word", "place"] (spErrInit K)) (kf : PySem.W.keepIn K (.ref fD) = true) (b : Binds K fdD ["self", "word", "place"] []) : FnOk P w K mg base CX0 2 f fd ["self", "place"] (spKind K "BadFilm") := by
  refine F.ok sc_BadFilm (fun vs H Q E h => ?_) (fun cdv A outer s H vs Q E hr h => ?_)
  · obtain ⟨a, C, p, rfl, _⟩ := h
    rfl
  · obtain ⟨a, C, p, rfl, T, ha, nw, np, q⟩ := h
    refine ⟨_, pss_one (ps_expr (pe_binit G (hr.mono (by decide)) rfl FT.g FT.rd FT.ga FT.fa kf b .nil pass0 (pa_cons (pv 0) (pa_cons pe_str (pa_cons (pv 1) pa_nil))))), ?_⟩
    exact ⟨_, rfl, _, rfl, a, C, .str "BadFilm", p, rfl, T, ha, nw, np, fun dx H' h1 h2 h3 h4 h5 => q dx H' h1 h2 h3 h4 h5⟩
theorem binds_BadFilm {f : Addr} {fd : FuncData} (F : FunD K "__init__" "BadFilm.__init__" (defArgs s_BadFilm) (defBody s_BadFilm) (defScope s_BadFilm) [.non] [] f fd) : (∃ ds, Vals [.non] ds ∧ Binds K fd ["self", "place"] ds) ∧ Binds K fd ["self", "place"] [] := by
  refine ⟨F.binds1 (ps := ["self", "place"]) 1 0 (by simp) rfl fun T kV doc pm an cdv ct us its hu hi => match us, hu, its, hi with | [_], _, [_], _ => ⟨_, rfl, rfl⟩, ?_⟩
  obtain ⟨ds, r, b⟩ := F.binds1 (ps := ["self", "place"]) 2 1 (by simp) rfl fun T kV doc pm an cdv ct us its hu hi => match us, hu, its, hi with | [_, _], _, [_], _ => ⟨_, rfl, rfl⟩
  cases r
  exact b
abbrev s_BadLayer : Stmt := clsDef (top 4)
theorem sc_BadLayer : FnScope ["self", "place"] ["self", "place"] (defScope s_BadLayer) := ⟨rfl, rfl, rfl, by decide +kernel, rfl, by decide +kernel, by decide +kernel⟩
theorem ok_BadLayer {f : Addr} {fd : FuncData} (F : FunD K "__init__" "BadLayer.__init__" (defArgs s_BadLayer) (defBody s_BadLayer) (defScope s_BadLayer) [.non] [] f fd) {D fD : Addr} {fdD : FuncData} (FT : FilmTxt K mg D fD)
    (G : FnOk P w K mg base CX0 1 fD fdD ["self", "word", "place"] (spErrInit K)) (kf : PySem.W.keepIn K (.ref fD) = true) (b : Binds K fdD ["self", "word", "place"] []) : FnOk P w K mg base CX0 2 f fd ["self", "place"] (spKind K "BadLayer") := by
  refine F.ok sc_BadLayer (fun vs H Q E h => ?_) (fun cdv A outer s H vs Q E hr h => ?_)
  · obtain ⟨a, C, p, rfl, _⟩ := h
    rfl
  · obtain ⟨a, C, p, rfl, T, ha, nw, np, q⟩ := h
    refine ⟨_, pss_one (ps_expr (pe_binit G (hr.mono (by decide)) rfl FT.g FT.rd FT.ga FT.fa kf b .nil pass0 (pa_cons (pv 0) (pa_cons pe_str (pa_cons (pv 1) pa_nil))))), ?_⟩
    exact ⟨_, rfl, _, rfl, a, C, .str "BadLayer", p, rfl, T, ha, nw, np, fun dx H' h1 h2 h3 h4 h5 => q dx H' h1 h2 h3 h4 h5⟩
theorem binds_BadLayer {f : Addr} {fd : FuncData} (F : FunD K "__init__" "BadLayer.__init__" (defArgs s_BadLayer) (defBody s_BadLayer) (defScope s_BadLayer) [.non] [] f fd) : (∃ ds, Vals [.non] ds ∧ Binds K fd ["self", "place"] ds) ∧ Binds K fd ["self", "place"] [] := by
  refine ⟨F.binds1 (ps := ["self", "place"]) 1 0 (by simp) rfl fun T kV doc pm an cdv ct us its hu hi => match us, hu, its, hi with | [_], _, [_], _ => ⟨_, rfl, rfl⟩, ?_⟩
  obtain ⟨ds, r, b⟩ := F.binds1 (ps := ["self", "place"]) 2 1 (by simp) rfl fun T kV doc pm an cdv ct us its hu hi => match us, hu, its, hi with | [_, _], _, [_], _ => ⟨_, rfl, rfl⟩
  cases r
  exact b
abbrev s_DuplicateLayer : Stmt := clsDef (top 5)
theorem sc_DuplicateLayer : FnScope ["self", "place"] ["self", "place"] (defScope s_DuplicateLayer) := ⟨rfl, rfl, rfl, by decide +kernel, rfl, by decide +kernel, by decide +kernel⟩
theorem ok_DuplicateLayer {f : Addr} {fd : FuncData} (F : FunD K "__init__" "DuplicateLayer.__init__" (defArgs s_DuplicateLayer) (defBody s_DuplicateLayer) (defScope s_DuplicateLayer) [.non] [] f fd) {D fD : Addr} {fdD : FuncData} (FT : FilmTxt K mg D fD)
    (G : FnOk P w K mg base CX0 1 fD fdD ["self", "word", "place"] (spErrInit K)) (kf : PySem.W.keepIn K (.ref fD) = true) (b : Binds K fdD ["self", "word", "place"] []) : FnOk P w K mg base CX0 2 f fd ["self", "place"] (spKind K "DuplicateLayer") := by
  refine F.ok sc_DuplicateLayer (fun vs H Q E h => ?_) (fun cdv A outer s H vs Q E hr h => ?_)
  · obtain ⟨a, C, p, rfl, _⟩ := h
    rfl
  · obtain ⟨a, C, p, rfl, T, ha, nw, np, q⟩ := h
    refine ⟨_, pss_one (ps_expr (pe_binit G (hr.mono (by decide)) rfl FT.g FT.rd FT.ga FT.fa kf b .nil pass0 (pa_cons (pv 0) (pa_cons pe_str (pa_cons (pv 1) pa_nil))))), ?_⟩
    exact ⟨_, rfl, _, rfl, a, C, .str "DuplicateLayer", p, rfl, T, ha, nw, np, fun dx H' h1 h2 h3 h4 h5 => q dx H' h1 h2 h3 h4 h5⟩
theorem binds_DuplicateLayer {f : Addr} {fd : FuncData} (F : FunD K "__init__" "DuplicateLayer.__init__" (defArgs s_DuplicateLayer) (defBody s_DuplicateLayer) (defScope s_DuplicateLayer) [.non] [] f fd) : (∃ ds, Vals [.non] ds ∧ Binds K fd ["self", "place"] ds) ∧ Binds K fd ["self", "place"] [] := by
  refine ⟨F.binds1 (ps := ["self", "place"]) 1 0 (by simp) rfl fun T kV doc pm an cdv ct us its hu hi => match us, hu, its, hi with | [_], _, [_], _ => ⟨_, rfl, rfl⟩, ?_⟩
  obtain ⟨ds, r, b⟩ := F.binds1 (ps := ["self", "place"]) 2 1 (by simp) rfl fun T kV doc pm an cdv ct us its hu hi => match us, hu, its, hi with | [_, _], _, [_], _ => ⟨_, rfl, rfl⟩
  cases r
  exact b
abbrev s_UnknownLayer : Stmt := clsDef (top 6)
theorem sc_UnknownLayer : FnScope ["self", "place"] ["self", "place"] (defScope s_UnknownLayer) := ⟨rfl, rfl, rfl, by decide +kernel, rfl, by decide +kernel, by decide +kernel⟩
theorem ok_UnknownLayer {f : Addr} {fd : FuncData} (F : FunD K "__init__" "UnknownLayer.__init__" (defArgs s_UnknownLayer) (defBody s_UnknownLayer) (defScope s_UnknownLayer) [.non] [] f fd) {D fD : Addr} {fdD : FuncData} (FT : FilmTxt K mg D fD)
    (G : FnOk P w K mg base CX0 1 fD fdD ["self", "word", "place"] (spErrInit K)) (kf : PySem.W.keepIn K (.ref fD) = true) (b : Binds K fdD ["self", "word", "place"] []) : FnOk P w K mg base CX0 2 f fd ["self", "place"] (spKind K "UnknownLayer") := by
  refine F.ok sc_UnknownLayer (fun vs H Q E h => ?_) (fun cdv A outer s H vs Q E hr h => ?_)
  · obtain ⟨a, C, p, rfl, _⟩ := h
    rfl
  · obtain ⟨a, C, p, rfl, T, ha, nw, np, q⟩ := h
    refine ⟨_, pss_one (ps_expr (pe_binit G (hr.mono (by decide)) rfl FT.g FT.rd FT.ga FT.fa kf b .nil pass0 (pa_cons (pv 0) (pa_cons pe_str (pa_cons (pv 1) pa_nil))))), ?_⟩
    exact ⟨_, rfl, _, rfl, a, C, .str "UnknownLayer", p, rfl, T, ha, nw, np, fun dx H' h1 h2 h3 h4 h5 => q dx H' h1 h2 h3 h4 h5⟩
theorem binds_UnknownLayer {f : Addr} {fd : FuncData} (F : FunD K "__init__" "UnknownLayer.__init__" (defArgs s_UnknownLayer) (defBody s_UnknownLayer) (defScope s_UnknownLayer) [.non] [] f fd) : (∃ ds, Vals [.non] ds ∧ Binds K fd ["self", "place"] ds) ∧ Binds K fd ["self", "place"] [] := by
  refine ⟨F.binds1 (ps := ["self", "place"]) 1 0 (by simp) rfl fun T kV doc pm an cdv ct us its hu hi => match us, hu, its, hi with | [_], _, [_], _ => ⟨_, rfl, rfl⟩, ?_⟩
  obtain ⟨ds, r, b⟩ := F.binds1 (ps := ["self", "place"]) 2 1 (by simp) rfl fun T kV doc pm an cdv ct us its hu hi => match us, hu, its, hi with | [_, _], _, [_], _ => ⟨_, rfl, rfl⟩
  cases r
  exact b
abbrev s_BadFrame : Stmt := clsDef (top 7)
theorem sc_BadFrame : FnScope ["self", "place"] ["self", "place"] (defScope s_BadFrame) := ⟨rfl, rfl, rfl, by decide +kernel, rfl, by decide +kernel, by decide +kernel⟩
theorem ok_BadFrame {f : Addr} {fd : FuncData} (F : FunD K "__init__" "BadFrame.__init__" (defArgs s_BadFrame) (defBody s_BadFrame) (defScope s_BadFrame) [.non] [] f fd) {D fD : Addr} {fdD : FuncData} (FT : FilmTxt K mg D fD)
    (G : FnOk P w K mg base CX0 1 fD fdD ["self", "word", "place"] (spErrInit K)) (kf : PySem.W.keepIn K (.ref fD) = true) (b : Binds K fdD ["self", "word", "place"] []) : FnOk P w K mg base CX0 2 f fd ["self", "place"] (spKind K "BadFrame") := by
  refine F.ok sc_BadFrame (fun vs H Q E h => ?_) (fun cdv A outer s H vs Q E hr h => ?_)
  · obtain ⟨a, C, p, rfl, _⟩ := h
    rfl
  · obtain ⟨a, C, p, rfl, T, ha, nw, np, q⟩ := h
    refine ⟨_, pss_one (ps_expr (pe_binit G (hr.mono (by decide)) rfl FT.g FT.rd FT.ga FT.fa kf b .nil pass0 (pa_cons (pv 0) (pa_cons pe_str (pa_cons (pv 1) pa_nil))))), ?_⟩
    exact ⟨_, rfl, _, rfl, a, C, .str "BadFrame", p, rfl, T, ha, nw, np, fun dx H' h1 h2 h3 h4 h5 => q dx H' h1 h2 h3 h4 h5⟩
theorem binds_BadFrame {f : Addr} {fd : FuncData} (F : FunD K "__init__" "BadFrame.__init__" (defArgs s_BadFrame) (defBody s_BadFrame) (defScope s_BadFrame) [.non] [] f fd) : (∃ ds, Vals [.non] ds ∧ Binds K fd ["self", "place"] ds) ∧ Binds K fd ["self", "place"] [] := by
  refine ⟨F.binds1 (ps := ["self", "place"]) 1 0 (by simp) rfl fun T kV doc pm an cdv ct us its hu hi => match us, hu, its, hi with | [_], _, [_], _ => ⟨_, rfl, rfl⟩, ?_⟩
  obtain ⟨ds, r, b⟩ := F.binds1 (ps := ["self", "place"]) 2 1 (by simp) rfl fun T kV doc pm an cdv ct us its hu hi => match us, hu, its, hi with | [_, _], _, [_], _ => ⟨_, rfl, rfl⟩
  cases r
  exact b
abbrev s_BadClip : Stmt := clsDef (top 8)
theorem sc_BadClip : FnScope ["self", "place"] ["self", "place"] (defScope s_BadClip) := ⟨rfl, rfl, rfl, by decide +kernel, rfl, by decide +kernel, by decide +kernel⟩
theorem ok_BadClip {f : Addr} {fd : FuncData} (F : FunD K "__init__" "BadClip.__init__" (defArgs s_BadClip) (defBody s_BadClip) (defScope s_BadClip) [.non] [] f fd) {D fD : Addr} {fdD : FuncData} (FT : FilmTxt K mg D fD)
    (G : FnOk P w K mg base CX0 1 fD fdD ["self", "word", "place"] (spErrInit K)) (kf : PySem.W.keepIn K (.ref fD) = true) (b : Binds K fdD ["self", "word", "place"] []) : FnOk P w K mg base CX0 2 f fd ["self", "place"] (spKind K "BadClip") := by
  refine F.ok sc_BadClip (fun vs H Q E h => ?_) (fun cdv A outer s H vs Q E hr h => ?_)
  · obtain ⟨a, C, p, rfl, _⟩ := h
    rfl
  · obtain ⟨a, C, p, rfl, T, ha, nw, np, q⟩ := h
    refine ⟨_, pss_one (ps_expr (pe_binit G (hr.mono (by decide)) rfl FT.g FT.rd FT.ga FT.fa kf b .nil pass0 (pa_cons (pv 0) (pa_cons pe_str (pa_cons (pv 1) pa_nil))))), ?_⟩
    exact ⟨_, rfl, _, rfl, a, C, .str "BadClip", p, rfl, T, ha, nw, np, fun dx H' h1 h2 h3 h4 h5 => q dx H' h1 h2 h3 h4 h5⟩
theorem binds_BadClip {f : Addr} {fd : FuncData} (F : FunD K "__init__" "BadClip.__init__" (defArgs s_BadClip) (defBody s_BadClip) (defScope s_BadClip) [.non] [] f fd) : (∃ ds, Vals [.non] ds ∧ Binds K fd ["self", "place"] ds) ∧ Binds K fd ["self", "place"] [] := by
  refine ⟨F.binds1 (ps := ["self", "place"]) 1 0 (by simp) rfl fun T kV doc pm an cdv ct us its hu hi => match us, hu, its, hi with | [_], _, [_], _ => ⟨_, rfl, rfl⟩, ?_⟩
  obtain ⟨ds, r, b⟩ := F.binds1 (ps := ["self", "place"]) 2 1 (by simp) rfl fun T kV doc pm an cdv ct us its hu hi => match us, hu, its, hi with | [_, _], _, [_], _ => ⟨_, rfl, rfl⟩
  cases r
  exact b
abbrev s_BadCut : Stmt := clsDef (top 9)
theorem sc_BadCut : FnScope ["self", "place"] ["self", "place"] (defScope s_BadCut) := ⟨rfl, rfl, rfl, by decide +kernel, rfl, by decide +kernel, by decide +kernel⟩
theorem ok_BadCut {f : Addr} {fd : FuncData} (F : FunD K "__init__" "BadCut.__init__" (defArgs s_BadCut) (defBody s_BadCut) (defScope s_BadCut) [.non] [] f fd) {D fD : Addr} {fdD : FuncData} (FT : FilmTxt K mg D fD)
    (G : FnOk P w K mg base CX0 1 fD fdD ["self", "word", "place"] (spErrInit K)) (kf : PySem.W.keepIn K (.ref fD) = true) (b : Binds K fdD ["self", "word", "place"] []) : FnOk P w K mg base CX0 2 f fd ["self", "place"] (spKind K "BadCut") := by
  refine F.ok sc_BadCut (fun vs H Q E h => ?_) (fun cdv A outer s H vs Q E hr h => ?_)
  · obtain ⟨a, C, p, rfl, _⟩ := h
    rfl
  · obtain ⟨a, C, p, rfl, T, ha, nw, np, q⟩ := h
    refine ⟨_, pss_one (ps_expr (pe_binit G (hr.mono (by decide)) rfl FT.g FT.rd FT.ga FT.fa kf b .nil pass0 (pa_cons (pv 0) (pa_cons pe_str (pa_cons (pv 1) pa_nil))))), ?_⟩
    exact ⟨_, rfl, _, rfl, a, C, .str "BadCut", p, rfl, T, ha, nw, np, fun dx H' h1 h2 h3 h4 h5 => q dx H' h1 h2 h3 h4 h5⟩
theorem binds_BadCut {f : Addr} {fd : FuncData} (F : FunD K "__init__" "BadCut.__init__" (defArgs s_BadCut) (defBody s_BadCut) (defScope s_BadCut) [.non] [] f fd) : (∃ ds, Vals [.non] ds ∧ Binds K fd ["self", "place"] ds) ∧ Binds K fd ["self", "place"] [] := by
  refine ⟨F.binds1 (ps := ["self", "place"]) 1 0 (by simp) rfl fun T kV doc pm an cdv ct us its hu hi => match us, hu, its, hi with | [_], _, [_], _ => ⟨_, rfl, rfl⟩, ?_⟩
  obtain ⟨ds, r, b⟩ := F.binds1 (ps := ["self", "place"]) 2 1 (by simp) rfl fun T kV doc pm an cdv ct us its hu hi => match us, hu, its, hi with | [_, _], _, [_], _ => ⟨_, rfl, rfl⟩
  cases r
  exact b
abbrev s_BadEdit : Stmt := clsDef (top 10)
theorem sc_BadEdit : FnScope ["self", "place"] ["self", "place"] (defScope s_BadEdit) := ⟨rfl, rfl, rfl, by decide +kernel, rfl, by decide +kernel, by decide +kernel⟩
theorem ok_BadEdit {f : Addr} {fd : FuncData} (F : FunD K "__init__" "BadEdit.__init__" (defArgs s_BadEdit) (defBody s_BadEdit) (defScope s_BadEdit) [.non] [] f fd) {D fD : Addr} {fdD : FuncData} (FT : FilmTxt K mg D fD)
    (G : FnOk P w K mg base CX0 1 fD fdD ["self", "word", "place"] (spErrInit K)) (kf : PySem.W.keepIn K (.ref fD) = true) (b : Binds K fdD ["self", "word", "place"] []) : FnOk P w K mg base CX0 2 f fd ["self", "place"] (spKind K "BadEdit") := by
  refine F.ok sc_BadEdit (fun vs H Q E h => ?_) (fun cdv A outer s H vs Q E hr h => ?_)
  · obtain ⟨a, C, p, rfl, _⟩ := h
    rfl
  · obtain ⟨a, C, p, rfl, T, ha, nw, np, q⟩ := h
    refine ⟨_, pss_one (ps_expr (pe_binit G (hr.mono (by decide)) rfl FT.g FT.rd FT.ga FT.fa kf b .nil pass0 (pa_cons (pv 0) (pa_cons pe_str (pa_cons (pv 1) pa_nil))))), ?_⟩
    exact ⟨_, rfl, _, rfl, a, C, .str "BadEdit", p, rfl, T, ha, nw, np, fun dx H' h1 h2 h3 h4 h5 => q dx H' h1 h2 h3 h4 h5⟩
theorem binds_BadEdit {f : Addr} {fd : FuncData} (F : FunD K "__init__" "BadEdit.__init__" (defArgs s_BadEdit) (defBody s_BadEdit) (defScope s_BadEdit) [.non] [] f fd) : (∃ ds, Vals [.non] ds ∧ Binds K fd ["self", "place"] ds) ∧ Binds K fd ["self", "place"] [] := by
  refine ⟨F.binds1 (ps := ["self", "place"]) 1 0 (by simp) rfl fun T kV doc pm an cdv ct us its hu hi => match us, hu, its, hi with | [_], _, [_], _ => ⟨_, rfl, rfl⟩, ?_⟩
  obtain ⟨ds, r, b⟩ := F.binds1 (ps := ["self", "place"]) 2 1 (by simp) rfl fun T kV doc pm an cdv ct us its hu hi => match us, hu, its, hi with | [_, _], _, [_], _ => ⟨_, rfl, rfl⟩
  cases r
  exact b
abbrev s_NothingToUndo : Stmt := clsDef (top 11)
theorem sc_NothingToUndo : FnScope ["self", "place"] ["self", "place"] (defScope s_NothingToUndo) := ⟨rfl, rfl, rfl, by decide +kernel, rfl, by decide +kernel, by decide +kernel⟩
theorem ok_NothingToUndo {f : Addr} {fd : FuncData} (F : FunD K "__init__" "NothingToUndo.__init__" (defArgs s_NothingToUndo) (defBody s_NothingToUndo) (defScope s_NothingToUndo) [.non] [] f fd) {D fD : Addr} {fdD : FuncData} (FT : FilmTxt K mg D fD)
    (G : FnOk P w K mg base CX0 1 fD fdD ["self", "word", "place"] (spErrInit K)) (kf : PySem.W.keepIn K (.ref fD) = true) (b : Binds K fdD ["self", "word", "place"] []) : FnOk P w K mg base CX0 2 f fd ["self", "place"] (spKind K "NothingToUndo") := by
  refine F.ok sc_NothingToUndo (fun vs H Q E h => ?_) (fun cdv A outer s H vs Q E hr h => ?_)
  · obtain ⟨a, C, p, rfl, _⟩ := h
    rfl
  · obtain ⟨a, C, p, rfl, T, ha, nw, np, q⟩ := h
    refine ⟨_, pss_one (ps_expr (pe_binit G (hr.mono (by decide)) rfl FT.g FT.rd FT.ga FT.fa kf b .nil pass0 (pa_cons (pv 0) (pa_cons pe_str (pa_cons (pv 1) pa_nil))))), ?_⟩
    exact ⟨_, rfl, _, rfl, a, C, .str "NothingToUndo", p, rfl, T, ha, nw, np, fun dx H' h1 h2 h3 h4 h5 => q dx H' h1 h2 h3 h4 h5⟩
theorem binds_NothingToUndo {f : Addr} {fd : FuncData} (F : FunD K "__init__" "NothingToUndo.__init__" (defArgs s_NothingToUndo) (defBody s_NothingToUndo) (defScope s_NothingToUndo) [.non] [] f fd) : (∃ ds, Vals [.non] ds ∧ Binds K fd ["self", "place"] ds) ∧ Binds K fd ["self", "place"] [] := by
  refine ⟨F.binds1 (ps := ["self", "place"]) 1 0 (by simp) rfl fun T kV doc pm an cdv ct us its hu hi => match us, hu, its, hi with | [_], _, [_], _ => ⟨_, rfl, rfl⟩, ?_⟩
  obtain ⟨ds, r, b⟩ := F.binds1 (ps := ["self", "place"]) 2 1 (by simp) rfl fun T kV doc pm an cdv ct us its hu hi => match us, hu, its, hi with | [_, _], _, [_], _ => ⟨_, rfl, rfl⟩
  cases r
  exact b
abbrev s_NothingToRedo : Stmt := clsDef (top 12)
theorem sc_NothingToRedo : FnScope ["self", "place"] ["self", "place"] (defScope s_NothingToRedo) := ⟨rfl, rfl, rfl, by decide +kernel, rfl, by decide +kernel, by decide +kernel⟩
theorem ok_NothingToRedo {f : Addr} {fd : FuncData} (F : FunD K "__init__" "NothingToRedo.__init__" (defArgs s_NothingToRedo) (defBody s_NothingToRedo) (defScope s_NothingToRedo) [.non] [] f fd) {D fD : Addr} {fdD : FuncData} (FT : FilmTxt K mg D fD)
    (G : FnOk P w K mg base CX0 1 fD fdD ["self", "word", "place"] (spErrInit K)) (kf : PySem.W.keepIn K (.ref fD) = true) (b : Binds K fdD ["self", "word", "place"] []) : FnOk P w K mg base CX0 2 f fd ["self", "place"] (spKind K "NothingToRedo") := by
  refine F.ok sc_NothingToRedo (fun vs H Q E h => ?_) (fun cdv A outer s H vs Q E hr h => ?_)
  · obtain ⟨a, C, p, rfl, _⟩ := h
    rfl
  · obtain ⟨a, C, p, rfl, T, ha, nw, np, q⟩ := h
    refine ⟨_, pss_one (ps_expr (pe_binit G (hr.mono (by decide)) rfl FT.g FT.rd FT.ga FT.fa kf b .nil pass0 (pa_cons (pv 0) (pa_cons pe_str (pa_cons (pv 1) pa_nil))))), ?_⟩
    exact ⟨_, rfl, _, rfl, a, C, .str "NothingToRedo", p, rfl, T, ha, nw, np, fun dx H' h1 h2 h3 h4 h5 => q dx H' h1 h2 h3 h4 h5⟩
theorem binds_NothingToRedo {f : Addr} {fd : FuncData} (F : FunD K "__init__" "NothingToRedo.__init__" (defArgs s_NothingToRedo) (defBody s_NothingToRedo) (defScope s_NothingToRedo) [.non] [] f fd) : (∃ ds, Vals [.non] ds ∧ Binds K fd ["self", "place"] ds) ∧ Binds K fd ["self", "place"] [] := by
  refine ⟨F.binds1 (ps := ["self", "place"]) 1 0 (by simp) rfl fun T kV doc pm an cdv ct us its hu hi => match us, hu, its, hi with | [_], _, [_], _ => ⟨_, rfl, rfl⟩, ?_⟩
  obtain ⟨ds, r, b⟩ := F.binds1 (ps := ["self", "place"]) 2 1 (by simp) rfl fun T kV doc pm an cdv ct us its hu hi => match us, hu, its, hi with | [_, _], _, [_], _ => ⟨_, rfl, rfl⟩
  cases r
  exact b
abbrev s_BadPaint : Stmt := clsDef (top 13)
theorem sc_BadPaint : FnScope ["self", "place"] ["self", "place"] (defScope s_BadPaint) := ⟨rfl, rfl, rfl, by decide +kernel, rfl, by decide +kernel, by decide +kernel⟩
theorem ok_BadPaint {f : Addr} {fd : FuncData} (F : FunD K "__init__" "BadPaint.__init__" (defArgs s_BadPaint) (defBody s_BadPaint) (defScope s_BadPaint) [.non] [] f fd) {D fD : Addr} {fdD : FuncData} (FT : FilmTxt K mg D fD)
    (G : FnOk P w K mg base CX0 1 fD fdD ["self", "word", "place"] (spErrInit K)) (kf : PySem.W.keepIn K (.ref fD) = true) (b : Binds K fdD ["self", "word", "place"] []) : FnOk P w K mg base CX0 2 f fd ["self", "place"] (spKind K "BadPaint") := by
  refine F.ok sc_BadPaint (fun vs H Q E h => ?_) (fun cdv A outer s H vs Q E hr h => ?_)
  · obtain ⟨a, C, p, rfl, _⟩ := h
    rfl
  · obtain ⟨a, C, p, rfl, T, ha, nw, np, q⟩ := h
    refine ⟨_, pss_one (ps_expr (pe_binit G (hr.mono (by decide)) rfl FT.g FT.rd FT.ga FT.fa kf b .nil pass0 (pa_cons (pv 0) (pa_cons pe_str (pa_cons (pv 1) pa_nil))))), ?_⟩
    exact ⟨_, rfl, _, rfl, a, C, .str "BadPaint", p, rfl, T, ha, nw, np, fun dx H' h1 h2 h3 h4 h5 => q dx H' h1 h2 h3 h4 h5⟩
theorem binds_BadPaint {f : Addr} {fd : FuncData} (F : FunD K "__init__" "BadPaint.__init__" (defArgs s_BadPaint) (defBody s_BadPaint) (defScope s_BadPaint) [.non] [] f fd) : (∃ ds, Vals [.non] ds ∧ Binds K fd ["self", "place"] ds) ∧ Binds K fd ["self", "place"] [] := by
  refine ⟨F.binds1 (ps := ["self", "place"]) 1 0 (by simp) rfl fun T kV doc pm an cdv ct us its hu hi => match us, hu, its, hi with | [_], _, [_], _ => ⟨_, rfl, rfl⟩, ?_⟩
  obtain ⟨ds, r, b⟩ := F.binds1 (ps := ["self", "place"]) 2 1 (by simp) rfl fun T kV doc pm an cdv ct us its hu hi => match us, hu, its, hi with | [_, _], _, [_], _ => ⟨_, rfl, rfl⟩
  cases r
  exact b
abbrev s_BadPicture : Stmt := clsDef (top 14)
theorem sc_BadPicture : FnScope ["self", "place"] ["self", "place"] (defScope s_BadPicture) := ⟨rfl, rfl, rfl, by decide +kernel, rfl, by decide +kernel, by decide +kernel⟩
theorem ok_BadPicture {f : Addr} {fd : FuncData} (F : FunD K "__init__" "BadPicture.__init__" (defArgs s_BadPicture) (defBody s_BadPicture) (defScope s_BadPicture) [.non] [] f fd) {D fD : Addr} {fdD : FuncData} (FT : FilmTxt K mg D fD)
    (G : FnOk P w K mg base CX0 1 fD fdD ["self", "word", "place"] (spErrInit K)) (kf : PySem.W.keepIn K (.ref fD) = true) (b : Binds K fdD ["self", "word", "place"] []) : FnOk P w K mg base CX0 2 f fd ["self", "place"] (spKind K "BadPicture") := by
  refine F.ok sc_BadPicture (fun vs H Q E h => ?_) (fun cdv A outer s H vs Q E hr h => ?_)
  · obtain ⟨a, C, p, rfl, _⟩ := h
    rfl
  · obtain ⟨a, C, p, rfl, T, ha, nw, np, q⟩ := h
    refine ⟨_, pss_one (ps_expr (pe_binit G (hr.mono (by decide)) rfl FT.g FT.rd FT.ga FT.fa kf b .nil pass0 (pa_cons (pv 0) (pa_cons pe_str (pa_cons (pv 1) pa_nil))))), ?_⟩
    exact ⟨_, rfl, _, rfl, a, C, .str "BadPicture", p, rfl, T, ha, nw, np, fun dx H' h1 h2 h3 h4 h5 => q dx H' h1 h2 h3 h4 h5⟩
theorem binds_BadPicture {f : Addr} {fd : FuncData} (F : FunD K "__init__" "BadPicture.__init__" (defArgs s_BadPicture) (defBody s_BadPicture) (defScope s_BadPicture) [.non] [] f fd) : (∃ ds, Vals [.non] ds ∧ Binds K fd ["self", "place"] ds) ∧ Binds K fd ["self", "place"] [] := by
  refine ⟨F.binds1 (ps := ["self", "place"]) 1 0 (by simp) rfl fun T kV doc pm an cdv ct us its hu hi => match us, hu, its, hi with | [_], _, [_], _ => ⟨_, rfl, rfl⟩, ?_⟩
  obtain ⟨ds, r, b⟩ := F.binds1 (ps := ["self", "place"]) 2 1 (by simp) rfl fun T kV doc pm an cdv ct us its hu hi => match us, hu, its, hi with | [_, _], _, [_], _ => ⟨_, rfl, rfl⟩
  cases r
  exact b
abbrev s_BadWhat : Stmt := clsDef (top 15)
theorem sc_BadWhat : FnScope ["self", "place"] ["self", "place"] (defScope s_BadWhat) := ⟨rfl, rfl, rfl, by decide +kernel, rfl, by decide +kernel, by decide +kernel⟩
theorem ok_BadWhat {f : Addr} {fd : FuncData} (F : FunD K "__init__" "BadWhat.__init__" (defArgs s_BadWhat) (defBody s_BadWhat) (defScope s_BadWhat) [.non] [] f fd) {D fD : Addr} {fdD : FuncData} (FT : FilmTxt K mg D fD)
    (G : FnOk P w K mg base CX0 1 fD fdD ["self", "word", "place"] (spErrInit K)) (kf : PySem.W.keepIn K (.ref fD) = true) (b : Binds K fdD ["self", "word", "place"] []) : FnOk P w K mg base CX0 2 f fd ["self", "place"] (spKind K "BadWhat") := by
  refine F.ok sc_BadWhat (fun vs H Q E h => ?_) (fun cdv A outer s H vs Q E hr h => ?_)
  · obtain ⟨a, C, p, rfl, _⟩ := h
    rfl
  · obtain ⟨a, C, p, rfl, T, ha, nw, np, q⟩ := h
    refine ⟨_, pss_one (ps_expr (pe_binit G (hr.mono (by decide)) rfl FT.g FT.rd FT.ga FT.fa kf b .nil pass0 (pa_cons (pv 0) (pa_cons pe_str (pa_cons (pv 1) pa_nil))))), ?_⟩
    exact ⟨_, rfl, _, rfl, a, C, .str "BadWhat", p, rfl, T, ha, nw, np, fun dx H' h1 h2 h3 h4 h5 => q dx H' h1 h2 h3 h4 h5⟩
theorem binds_BadWhat {f : Addr} {fd : FuncData} (F : FunD K "__init__" "BadWhat.__init__" (defArgs s_BadWhat) (defBody s_BadWhat) (defScope s_BadWhat) [.non] [] f fd) : (∃ ds, Vals [.non] ds ∧ Binds K fd ["self", "place"] ds) ∧ Binds K fd ["self", "place"] [] := by
  refine ⟨F.binds1 (ps := ["self", "place"]) 1 0 (by simp) rfl fun T kV doc pm an cdv ct us its hu hi => match us, hu, its, hi with | [_], _, [_], _ => ⟨_, rfl, rfl⟩, ?_⟩
  obtain ⟨ds, r, b⟩ := F.binds1 (ps := ["self", "place"]) 2 1 (by simp) rfl fun T kV doc pm an cdv ct us its hu hi => match us, hu, its, hi with | [_, _], _, [_], _ => ⟨_, rfl, rfl⟩
  cases r
  exact b
abbrev s_BadMoves : Stmt := clsDef (top 16)
theorem sc_BadMoves : FnScope ["self", "place"] ["self", "place"] (defScope s_BadMoves) := ⟨rfl, rfl, rfl, by decide +kernel, rfl, by decide +kernel, by decide +kernel⟩
theorem ok_BadMoves {f : Addr} {fd : FuncData} (F : FunD K "__init__" "BadMoves.__init__" (defArgs s_BadMoves) (defBody s_BadMoves) (defScope s_BadMoves) [.non] [] f fd) {D fD : Addr} {fdD : FuncData} (FT : FilmTxt K mg D fD)
    (G : FnOk P w K mg base CX0 1 fD fdD ["self", "word", "place"] (spErrInit K)) (kf : PySem.W.keepIn K (.ref fD) = true) (b : Binds K fdD ["self", "word", "place"] []) : FnOk P w K mg base CX0 2 f fd ["self", "place"] (spKind K "BadMoves") := by
  refine F.ok sc_BadMoves (fun vs H Q E h => ?_) (fun cdv A outer s H vs Q E hr h => ?_)
  · obtain ⟨a, C, p, rfl, _⟩ := h
    rfl
  · obtain ⟨a, C, p, rfl, T, ha, nw, np, q⟩ := h
    refine ⟨_, pss_one (ps_expr (pe_binit G (hr.mono (by decide)) rfl FT.g FT.rd FT.ga FT.fa kf b .nil pass0 (pa_cons (pv 0) (pa_cons pe_str (pa_cons (pv 1) pa_nil))))), ?_⟩
    exact ⟨_, rfl, _, rfl, a, C, .str "BadMoves", p, rfl, T, ha, nw, np, fun dx H' h1 h2 h3 h4 h5 => q dx H' h1 h2 h3 h4 h5⟩
theorem binds_BadMoves {f : Addr} {fd : FuncData} (F : FunD K "__init__" "BadMoves.__init__" (defArgs s_BadMoves) (defBody s_BadMoves) (defScope s_BadMoves) [.non] [] f fd) : (∃ ds, Vals [.non] ds ∧ Binds K fd ["self", "place"] ds) ∧ Binds K fd ["self", "place"] [] := by
  refine ⟨F.binds1 (ps := ["self", "place"]) 1 0 (by simp) rfl fun T kV doc pm an cdv ct us its hu hi => match us, hu, its, hi with | [_], _, [_], _ => ⟨_, rfl, rfl⟩, ?_⟩
  obtain ⟨ds, r, b⟩ := F.binds1 (ps := ["self", "place"]) 2 1 (by simp) rfl fun T kV doc pm an cdv ct us its hu hi => match us, hu, its, hi with | [_, _], _, [_], _ => ⟨_, rfl, rfl⟩
  cases r
  exact b
abbrev s_BadJoin : Stmt := clsDef (top 17)
theorem sc_BadJoin : FnScope ["self", "place"] ["self", "place"] (defScope s_BadJoin) := ⟨rfl, rfl, rfl, by decide +kernel, rfl, by decide +kernel, by decide +kernel⟩
theorem ok_BadJoin {f : Addr} {fd : FuncData} (F : FunD K "__init__" "BadJoin.__init__" (defArgs s_BadJoin) (defBody s_BadJoin) (defScope s_BadJoin) [.non] [] f fd) {D fD : Addr} {fdD : FuncData} (FT : FilmTxt K mg D fD)
    (G : FnOk P w K mg base CX0 1 fD fdD ["self", "word", "place"] (spErrInit K)) (kf : PySem.W.keepIn K (.ref fD) = true) (b : Binds K fdD ["self", "word", "place"] []) : FnOk P w K mg base CX0 2 f fd ["self", "place"] (spKind K "BadJoin") := by
  refine F.ok sc_BadJoin (fun vs H Q E h => ?_) (fun cdv A outer s H vs Q E hr h => ?_)
  · obtain ⟨a, C, p, rfl, _⟩ := h
    rfl
  · obtain ⟨a, C, p, rfl, T, ha, nw, np, q⟩ := h
    refine ⟨_, pss_one (ps_expr (pe_binit G (hr.mono (by decide)) rfl FT.g FT.rd FT.ga FT.fa kf b .nil pass0 (pa_cons (pv 0) (pa_cons pe_str (pa_cons (pv 1) pa_nil))))), ?_⟩
    exact ⟨_, rfl, _, rfl, a, C, .str "BadJoin", p, rfl, T, ha, nw, np, fun dx H' h1 h2 h3 h4 h5 => q dx H' h1 h2 h3 h4 h5⟩
theorem binds_BadJoin {f : Addr} {fd : FuncData} (F : FunD K "__init__" "BadJoin.__init__" (defArgs s_BadJoin) (defBody s_BadJoin) (defScope s_BadJoin) [.non] [] f fd) : (∃ ds, Vals [.non] ds ∧ Binds K fd ["self", "place"] ds) ∧ Binds K fd ["self", "place"] [] := by
  refine ⟨F.binds1 (ps := ["self", "place"]) 1 0 (by simp) rfl fun T kV doc pm an cdv ct us its hu hi => match us, hu, its, hi with | [_], _, [_], _ => ⟨_, rfl, rfl⟩, ?_⟩
  obtain ⟨ds, r, b⟩ := F.binds1 (ps := ["self", "place"]) 2 1 (by simp) rfl fun T kV doc pm an cdv ct us its hu hi => match us, hu, its, hi with | [_, _], _, [_], _ => ⟨_, rfl, rfl⟩
  cases r
  exact b
abbrev s_BadPlace : Stmt := clsDef (top 18)
theorem sc_BadPlace : FnScope ["self", "place"] ["self", "place"] (defScope s_BadPlace) := ⟨rfl, rfl, rfl, by decide +kernel, rfl, by decide +kernel, by decide +kernel⟩
theorem ok_BadPlace {f : Addr} {fd : FuncData} (F : FunD K "__init__" "BadPlace.__init__" (defArgs s_BadPlace) (defBody s_BadPlace) (defScope s_BadPlace) [.non] [] f fd) {D fD : Addr} {fdD : FuncData} (FT : FilmTxt K mg D fD)
    (G : FnOk P w K mg base CX0 1 fD fdD ["self", "word", "place"] (spErrInit K)) (kf : PySem.W.keepIn K (.ref fD) = true) (b : Binds K fdD ["self", "word", "place"] []) : FnOk P w K mg base CX0 2 f fd ["self", "place"] (spKind K "BadPlace") := by
  refine F.ok sc_BadPlace (fun vs H Q E h => ?_) (fun cdv A outer s H vs Q E hr h => ?_)
  · obtain ⟨a, C, p, rfl, _⟩ := h
    rfl
  · obtain ⟨a, C, p, rfl, T, ha, nw, np, q⟩ := h
    refine ⟨_, pss_one (ps_expr (pe_binit G (hr.mono (by decide)) rfl FT.g FT.rd FT.ga FT.fa kf b .nil pass0 (pa_cons (pv 0) (pa_cons pe_str (pa_cons (pv 1) pa_nil))))), ?_⟩
    exact ⟨_, rfl, _, rfl, a, C, .str "BadPlace", p, rfl, T, ha, nw, np, fun dx H' h1 h2 h3 h4 h5 => q dx H' h1 h2 h3 h4 h5⟩
theorem binds_BadPlace {f : Addr} {fd : FuncData} (F : FunD K "__init__" "BadPlace.__init__" (defArgs s_BadPlace) (defBody s_BadPlace) (defScope s_BadPlace) [.non] [] f fd) : (∃ ds, Vals [.non] ds ∧ Binds K fd ["self", "place"] ds) ∧ Binds K fd ["self", "place"] [] := by
  refine ⟨F.binds1 (ps := ["self", "place"]) 1 0 (by simp) rfl fun T kV doc pm an cdv ct us its hu hi => match us, hu, its, hi with | [_], _, [_], _ => ⟨_, rfl, rfl⟩, ?_⟩
  obtain ⟨ds, r, b⟩ := F.binds1 (ps := ["self", "place"]) 2 1 (by simp) rfl fun T kV doc pm an cdv ct us its hu hi => match us, hu, its, hi with | [_, _], _, [_], _ => ⟨_, rfl, rfl⟩
  cases r
  exact b
abbrev s_BadRectangle : Stmt := clsDef (top 19)
theorem sc_BadRectangle : FnScope ["self", "place"] ["self", "place"] (defScope s_BadRectangle) := ⟨rfl, rfl, rfl, by decide +kernel, rfl, by decide +kernel, by decide +kernel⟩
theorem ok_BadRectangle {f : Addr} {fd : FuncData} (F : FunD K "__init__" "BadRectangle.__init__" (defArgs s_BadRectangle) (defBody s_BadRectangle) (defScope s_BadRectangle) [.non] [] f fd) {D fD : Addr} {fdD : FuncData} (FT : FilmTxt K mg D fD)
    (G : FnOk P w K mg base CX0 1 fD fdD ["self", "word", "place"] (spErrInit K)) (kf : PySem.W.keepIn K (.ref fD) = true) (b : Binds K fdD ["self", "word", "place"] []) : FnOk P w K mg base CX0 2 f fd ["self", "place"] (spKind K "BadRectangle") := by
  refine F.ok sc_BadRectangle (fun vs H Q E h => ?_) (fun cdv A outer s H vs Q E hr h => ?_)
  · obtain ⟨a, C, p, rfl, _⟩ := h
    rfl
  · obtain ⟨a, C, p, rfl, T, ha, nw, np, q⟩ := h
    refine ⟨_, pss_one (ps_expr (pe_binit G (hr.mono (by decide)) rfl FT.g FT.rd FT.ga FT.fa kf b .nil pass0 (pa_cons (pv 0) (pa_cons pe_str (pa_cons (pv 1) pa_nil))))), ?_⟩
    exact ⟨_, rfl, _, rfl, a, C, .str "BadRectangle", p, rfl, T, ha, nw, np, fun dx H' h1 h2 h3 h4 h5 => q dx H' h1 h2 h3 h4 h5⟩
theorem binds_BadRectangle {f : Addr} {fd : FuncData} (F : FunD K "__init__" "BadRectangle.__init__" (defArgs s_BadRectangle) (defBody s_BadRectangle) (defScope s_BadRectangle) [.non] [] f fd) : (∃ ds, Vals [.non] ds ∧ Binds K fd ["self", "place"] ds) ∧ Binds K fd ["self", "place"] [] := by
  refine ⟨F.binds1 (ps := ["self", "place"]) 1 0 (by simp) rfl fun T kV doc pm an cdv ct us its hu hi => match us, hu, its, hi with | [_], _, [_], _ => ⟨_, rfl, rfl⟩, ?_⟩
  obtain ⟨ds, r, b⟩ := F.binds1 (ps := ["self", "place"]) 2 1 (by simp) rfl fun T kV doc pm an cdv ct us its hu hi => match us, hu, its, hi with | [_, _], _, [_], _ => ⟨_, rfl, rfl⟩
  cases r
  exact b
theorem kbd_BadLine {f : Addr} {fd : FuncData} (F : FunD K "__init__" "BadLine.__init__" (defArgs s_BadLine) (defBody s_BadLine) (defScope s_BadLine) [.non] [] f fd) : KBn K fd ["self", "place"] 1 ["place"] (fun us ws => us ++ ws) (fun vs zs => vs ++ zs) := by
  obtain ⟨its, kb⟩ := F.kbindsD (ps := ["self", "place"]) 1 ["place"] (g := fun us _ ws => us ++ ws) (by simp) (fun r1 _ r3 => r1.append r3) fun T kV doc pm an cdv ct us its ws h1 h2 h3 => match us, h1, its, h2, ws, h3 with | [_], _, [_], _, [_], _ => ⟨_, rfl, rfl⟩
  exact kb
theorem kbd_BadFilm {f : Addr} {fd : FuncData} (F : FunD K "__init__" "BadFilm.__init__" (defArgs s_BadFilm) (defBody s_BadFilm) (defScope s_BadFilm) [.non] [] f fd) : KBn K fd ["self", "place"] 1 ["place"] (fun us ws => us ++ ws) (fun vs zs => vs ++ zs) := by
  obtain ⟨its, kb⟩ := F.kbindsD (ps := ["self", "place"]) 1 ["place"] (g := fun us _ ws => us ++ ws) (by simp) (fun r1 _ r3 => r1.append r3) fun T kV doc pm an cdv ct us its ws h1 h2 h3 => match us, h1, its, h2, ws, h3 with | [_], _, [_], _, [_], _ => ⟨_, rfl, rfl⟩
  exact kb
theorem kbd_BadLayer {f : Addr} {fd : FuncData} (F : FunD K "__init__" "BadLayer.__init__" (defArgs s_BadLayer) (defBody s_BadLayer) (defScope s_BadLayer) [.non] [] f fd) : KBn K fd ["self", "place"] 1 ["place"] (fun us ws => us ++ ws) (fun vs zs => vs ++ zs) := by
  obtain ⟨its, kb⟩ := F.kbindsD (ps := ["self", "place"]) 1 ["place"] (g := fun us _ ws => us ++ ws) (by simp) (fun r1 _ r3 => r1.append r3) fun T kV doc pm an cdv ct us its ws h1 h2 h3 => match us, h1, its, h2, ws, h3 with | [_], _, [_], _, [_], _ => ⟨_, rfl, rfl⟩
  exact kb
theorem kbd_DuplicateLayer {f : Addr} {fd : FuncData} (F : FunD K "__init__" "DuplicateLayer.__init__" (defArgs s_DuplicateLayer) (defBody s_DuplicateLayer) (defScope s_DuplicateLayer) [.non] [] f fd) : KBn K fd ["self", "place"] 1 ["place"] (fun us ws => us ++ ws) (fun vs zs => vs ++ zs) := by
  obtain ⟨its, kb⟩ := F.kbindsD (ps := ["self", "place"]) 1 ["place"] (g := fun us _ ws => us ++ ws) (by simp) (fun r1 _ r3 => r1.append r3) fun T kV doc pm an cdv ct us its ws h1 h2 h3 => match us, h1, its, h2, ws, h3 with | [_], _, [_], _, [_], _ => ⟨_, rfl, rfl⟩
  exact kb
theorem kbd_UnknownLayer {f : Addr} {fd : FuncData} (F : FunD K "__init__" "UnknownLayer.__init__" (defArgs s_UnknownLayer) (defBody s_UnknownLayer) (defScope s_UnknownLayer) [.non] [] f fd) : KBn K fd ["self", "place"] 1 ["place"] (fun us ws => us ++ ws) (fun vs zs => vs ++ zs) := by
  obtain ⟨its, kb⟩ := F.kbindsD (ps := ["self", "place"]) 1 ["place"] (g := fun us _ ws => us ++ ws) (by simp) (fun r1 _ r3 => r1.append r3) fun T kV doc pm an cdv ct us its ws h1 h2 h3 => match us, h1, its, h2, ws, h3 with | [_], _, [_], _, [_], _ => ⟨_, rfl, rfl⟩
  exact kb
theorem kbd_BadFrame {f : Addr} {fd : FuncData} (F : FunD K "__init__" "BadFrame.__init__" (defArgs s_BadFrame) (defBody s_BadFrame) (defScope s_BadFrame) [.non] [] f fd) : KBn K fd ["self", "place"] 1 ["place"] (fun us ws => us ++ ws) (fun vs zs => vs ++ zs) := by
  obtain ⟨its, kb⟩ := F.kbindsD (ps := ["self", "place"]) 1 ["place"] (g := fun us _ ws => us ++ ws) (by simp) (fun r1 _ r3 => r1.append r3) fun T kV doc pm an cdv ct us its ws h1 h2 h3 => match us, h1, its, h2, ws, h3 with | [_], _, [_], _, [_], _ => ⟨_, rfl, rfl⟩
  exact kb
theorem kbd_BadClip {f : Addr} {fd : FuncData} (F : FunD K "__init__" "BadClip.__init__" (defArgs s_BadClip) (defBody s_BadClip) (defScope s_BadClip) [.non] [] f fd) : KBn K fd ["self", "place"] 1 ["place"] (fun us ws => us ++ ws) (fun vs zs => vs ++ zs) := by
  obtain ⟨its, kb⟩ := F.kbindsD (ps := ["self", "place"]) 1 ["place"] (g := fun us _ ws => us ++ ws) (by simp) (fun r1 _ r3 => r1.append r3) fun T kV doc pm an cdv ct us its ws h1 h2 h3 => match us, h1, its, h2, ws, h3 with | [_], _, [_], _, [_], _ => ⟨_, rfl, rfl⟩
  exact kb
theorem kbd_BadCut {f : Addr} {fd : FuncData} (F : FunD K "__init__" "BadCut.__init__" (defArgs s_BadCut) (defBody s_BadCut) (defScope s_BadCut) [.non] [] f fd) : KBn K fd ["self", "place"] 1 ["place"] (fun us ws => us ++ ws) (fun vs zs => vs ++ zs) := by
  obtain ⟨its, kb⟩ := F.kbindsD (ps := ["self", "place"]) 1 ["place"] (g := fun us _ ws => us ++ ws) (by simp) (fun r1 _ r3 => r1.append r3) fun T kV doc pm an cdv ct us its ws h1 h2 h3 => match us, h1, its, h2, ws, h3 with | [_], _, [_], _, [_], _ => ⟨_, rfl, rfl⟩
  exact kb
theorem kbd_BadEdit {f : Addr} {fd : FuncData} (F : FunD K "__init__" "BadEdit.__init__" (defArgs s_BadEdit) (defBody s_BadEdit) (defScope s_BadEdit) [.non] [] f fd) : KBn K fd ["self", "place"] 1 ["place"] (fun us ws => us ++ ws) (fun vs zs => vs ++ zs) := by
  obtain ⟨its, kb⟩ := F.kbindsD (ps := ["self", "place"]) 1 ["place"] (g := fun us _ ws => us ++ ws) (by simp) (fun r1 _ r3 => r1.append r3) fun T kV doc pm an cdv ct us its ws h1 h2 h3 => match us, h1, its, h2, ws, h3 with | [_], _, [_], _, [_], _ => ⟨_, rfl, rfl⟩
  exact kb
theorem kbd_NothingToUndo {f : Addr} {fd : FuncData} (F : FunD K "__init__" "NothingToUndo.__init__" (defArgs s_NothingToUndo) (defBody s_NothingToUndo) (defScope s_NothingToUndo) [.non] [] f fd) : KBn K fd ["self", "place"] 1 ["place"] (fun us ws => us ++ ws) (fun vs zs => vs ++ zs) := by
  obtain ⟨its, kb⟩ := F.kbindsD (ps := ["self", "place"]) 1 ["place"] (g := fun us _ ws => us ++ ws) (by simp) (fun r1 _ r3 => r1.append r3) fun T kV doc pm an cdv ct us its ws h1 h2 h3 => match us, h1, its, h2, ws, h3 with | [_], _, [_], _, [_], _ => ⟨_, rfl, rfl⟩
  exact kb
theorem kbd_NothingToRedo {f : Addr} {fd : FuncData} (F : FunD K "__init__" "NothingToRedo.__init__" (defArgs s_NothingToRedo) (defBody s_NothingToRedo) (defScope s_NothingToRedo) [.non] [] f fd) : KBn K fd ["self", "place"] 1 ["place"] (fun us ws => us ++ ws) (fun vs zs => vs ++ zs) := by
  obtain ⟨its, kb⟩ := F.kbindsD (ps := ["self", "place"]) 1 ["place"] (g := fun us _ ws => us ++ ws) (by simp) (fun r1 _ r3 => r1.append r3) fun T kV doc pm an cdv ct us its ws h1 h2 h3 => match us, h1, its, h2, ws, h3 with | [_], _, [_], _, [_], _ => ⟨_, rfl, rfl⟩
  exact kb
theorem kbd_BadPaint {f : Addr} {fd : FuncData} (F : FunD K "__init__" "BadPaint.__init__" (defArgs s_BadPaint) (defBody s_BadPaint) (defScope s_BadPaint) [.non] [] f fd) : KBn K fd ["self", "place"] 1 ["place"] (fun us ws => us ++ ws) (fun vs zs => vs ++ zs) := by
  obtain ⟨its, kb⟩ := F.kbindsD (ps := ["self", "place"]) 1 ["place"] (g := fun us _ ws => us ++ ws) (by simp) (fun r1 _ r3 => r1.append r3) fun T kV doc pm an cdv ct us its ws h1 h2 h3 => match us, h1, its, h2, ws, h3 with | [_], _, [_], _, [_], _ => ⟨_, rfl, rfl⟩
  exact kb
theorem kbd_BadPicture {f : Addr} {fd : FuncData} (F : FunD K "__init__" "BadPicture.__init__" (defArgs s_BadPicture) (defBody s_BadPicture) (defScope s_BadPicture) [.non] [] f fd) : KBn K fd ["self", "place"] 1 ["place"] (fun us ws => us ++ ws) (fun vs zs => vs ++ zs) := by
  obtain ⟨its, kb⟩ := F.kbindsD (ps := ["self", "place"]) 1 ["place"] (g := fun us _ ws => us ++ ws) (by simp) (fun r1 _ r3 => r1.append r3) fun T kV doc pm an cdv ct us its ws h1 h2 h3 => match us, h1, its, h2, ws, h3 with | [_], _, [_], _, [_], _ => ⟨_, rfl, rfl⟩
  exact kb
theorem kbd_BadWhat {f : Addr} {fd : FuncData} (F : FunD K "__init__" "BadWhat.__init__" (defArgs s_BadWhat) (defBody s_BadWhat) (defScope s_BadWhat) [.non] [] f fd) : KBn K fd ["self", "place"] 1 ["place"] (fun us ws => us ++ ws) (fun vs zs => vs ++ zs) := by
  obtain ⟨its, kb⟩ := F.kbindsD (ps := ["self", "place"]) 1 ["place"] (g := fun us _ ws => us ++ ws) (by simp) (fun r1 _ r3 => r1.append r3) fun T kV doc pm an cdv ct us its ws h1 h2 h3 => match us, h1, its, h2, ws, h3 with | [_], _, [_], _, [_], _ => ⟨_, rfl, rfl⟩
  exact kb
theorem kbd_BadMoves {f : Addr} {fd : FuncData} (F : FunD K "__init__" "BadMoves.__init__" (defArgs s_BadMoves) (defBody s_BadMoves) (defScope s_BadMoves) [.non] [] f fd) : KBn K fd ["self", "place"] 1 ["place"] (fun us ws => us ++ ws) (fun vs zs => vs ++ zs) := by
  obtain ⟨its, kb⟩ := F.kbindsD (ps := ["self", "place"]) 1 ["place"] (g := fun us _ ws => us ++ ws) (by simp) (fun r1 _ r3 => r1.append r3) fun T kV doc pm an cdv ct us its ws h1 h2 h3 => match us, h1, its, h2, ws, h3 with | [_], _, [_], _, [_], _ => ⟨_, rfl, rfl⟩
  exact kb
theorem kbd_BadJoin {f : Addr} {fd : FuncData} (F : FunD K "__init__" "BadJoin.__init__" (defArgs s_BadJoin) (defBody s_BadJoin) (defScope s_BadJoin) [.non] [] f fd) : KBn K fd ["self", "place"] 1 ["place"] (fun us ws => us ++ ws) (fun vs zs => vs ++ zs) := by
  obtain ⟨its, kb⟩ := F.kbindsD (ps := ["self", "place"]) 1 ["place"] (g := fun us _ ws => us ++ ws) (by simp) (fun r1 _ r3 => r1.append r3) fun T kV doc pm an cdv ct us its ws h1 h2 h3 => match us, h1, its, h2, ws, h3 with | [_], _, [_], _, [_], _ => ⟨_, rfl, rfl⟩
  exact kb
theorem kbd_BadPlace {f : Addr} {fd : FuncData} (F : FunD K "__init__" "BadPlace.__init__" (defArgs s_BadPlace) (defBody s_BadPlace) (defScope s_BadPlace) [.non] [] f fd) : KBn K fd ["self", "place"] 1 ["place"] (fun us ws => us ++ ws) (fun vs zs => vs ++ zs) := by
  obtain ⟨its, kb⟩ := F.kbindsD (ps := ["self", "place"]) 1 ["place"] (g := fun us _ ws => us ++ ws) (by simp) (fun r1 _ r3 => r1.append r3) fun T kV doc pm an cdv ct us its ws h1 h2 h3 => match us, h1, its, h2, ws, h3 with | [_], _, [_], _, [_], _ => ⟨_, rfl, rfl⟩
  exact kb
theorem kbd_BadRectangle {f : Addr} {fd : FuncData} (F : FunD K "__init__" "BadRectangle.__init__" (defArgs s_BadRectangle) (defBody s_BadRectangle) (defScope s_BadRectangle) [.non] [] f fd) : KBn K fd ["self", "place"] 1 ["place"] (fun us ws => us ++ ws) (fun vs zs => vs ++ zs) := by
  obtain ⟨its, kb⟩ := F.kbindsD (ps := ["self", "place"]) 1 ["place"] (g := fun us _ ws => us ++ ws) (by simp) (fun r1 _ r3 => r1.append r3) fun T kV doc pm an cdv ct us its ws h1 h2 h3 => match us, h1, its, h2, ws, h3 with | [_], _, [_], _, [_], _ => ⟨_, rfl, rfl⟩
  exact kb
theorem bd_FilmErr {f : Addr} {fd : FuncData} (F : FunD K "__init__" "FilmError.__init__" (defArgs s_FilmErr) (defBody s_FilmErr) (defScope s_FilmErr) [.non] [] f fd) : ∃ ds, Vals [.non] ds ∧ Binds K fd ["self", "word", "place"] ds :=
  F.binds1 (ps := ["self", "word", "place"]) 2 0 (by simp) rfl fun T kV doc pm an cdv ct us its hu hi => match us, hu, its, hi with | [_, _], _, [_], _ => ⟨_, rfl, rfl⟩
def spMkP (mg : Str → Option Value) (lo hi : Int) : Sp := fun vs H Q _ => ∃ (k : Int) (p : V), vs = [.int k, p] ∧ lo ≤ k ∧ k < hi ∧ ∃ x C, kindN[k.toNat]? = some x ∧ mg x = some (.ref C) ∧ ErrQ C (.str x) p H Q
def spMk0 (mg : Str → Option Value) (lo hi : Int) : Sp := fun vs H Q _ => ∃ (k : Int), vs = [.int k] ∧ lo ≤ k ∧ k < hi ∧ ∃ x C, kindN[k.toNat]? = some x ∧ mg x = some (.ref C) ∧ ErrQ C (.str x) .non H Q
/-- the kind that is asked for -/
theorem pick {mg : Str → Option Value} {k : Int} {p : V} {H : Hp} {Q : VK} {x y : Str} {C D : Addr} (h : kindN[k.toNat]? = some x) (m : mg x = some (.ref C)) (q : ErrQ C (.str x) p H Q) (h' : kindN[k.toNat]? = some y) (m' : mg y = some (.ref D)) : ErrQ D (.str y) p H Q := by
  rw [h] at h'
  cases h'
  rw [m] at m'
  cases m'
  exact q
abbrev s_l_with_place_too : Stmt := top 23
theorem sc_l_with_place_too : FnScope ["k", "place"] ["k", "place"] (defScope s_l_with_place_too) := ⟨rfl, rfl, rfl, by decide +kernel, rfl, by decide +kernel, by decide +kernel⟩
theorem ok_l_with_place_too {f : Addr} {fd : FuncData} (F : Fun K "_law_with_place_too" "_law_with_place_too" s_l_with_place_too f fd) (T : Txt K mg) (EA : ErrAll P w K mg base) : FnOk P w K mg base CX0 4 f fd ["k", "place"] (spMkP mg 9 18) := by
  refine F.ok sc_l_with_place_too (fun vs H Q E h => ?_) (fun cdv A outer s H vs Q E hr h => ?_)
  · obtain ⟨k, p, rfl, _⟩ := h
    rfl
  · obtain ⟨k, p, rfl, k0, k1, x, C, hx, hC, q⟩ := h
    obtain ⟨E_NothingToUndo, KX_NothingToUndo⟩ := EA.kind "NothingToUndo" (by decide)
    have m_NothingToUndo : mg "NothingToUndo" = some (.ref E_NothingToUndo) := KX_NothingToUndo.choose_spec.1.g
    obtain ⟨E_NothingToRedo, KX_NothingToRedo⟩ := EA.kind "NothingToRedo" (by decide)
    have m_NothingToRedo : mg "NothingToRedo" = some (.ref E_NothingToRedo) := KX_NothingToRedo.choose_spec.1.g
    obtain ⟨E_BadPaint, KX_BadPaint⟩ := EA.kind "BadPaint" (by decide)
    have m_BadPaint : mg "BadPaint" = some (.ref E_BadPaint) := KX_BadPaint.choose_spec.1.g
    obtain ⟨E_BadPicture, KX_BadPicture⟩ := EA.kind "BadPicture" (by decide)
    have m_BadPicture : mg "BadPicture" = some (.ref E_BadPicture) := KX_BadPicture.choose_spec.1.g
    obtain ⟨E_BadWhat, KX_BadWhat⟩ := EA.kind "BadWhat" (by decide)
    have m_BadWhat : mg "BadWhat" = some (.ref E_BadWhat) := KX_BadWhat.choose_spec.1.g
    obtain ⟨E_BadMoves, KX_BadMoves⟩ := EA.kind "BadMoves" (by decide)
    have m_BadMoves : mg "BadMoves" = some (.ref E_BadMoves) := KX_BadMoves.choose_spec.1.g
    obtain ⟨E_BadJoin, KX_BadJoin⟩ := EA.kind "BadJoin" (by decide)
    have m_BadJoin : mg "BadJoin" = some (.ref E_BadJoin) := KX_BadJoin.choose_spec.1.g
    obtain ⟨E_BadPlace, KX_BadPlace⟩ := EA.kind "BadPlace" (by decide)
    have m_BadPlace : mg "BadPlace" = some (.ref E_BadPlace) := KX_BadPlace.choose_spec.1.g
    obtain ⟨E_BadRectangle, KX_BadRectangle⟩ := EA.kind "BadRectangle" (by decide)
    have m_BadRectangle : mg "BadRectangle" = some (.ref E_BadRectangle) := KX_BadRectangle.choose_spec.1.g
    refine ⟨_, (pss_cons (ps_if (pt_cmpR op_eq (pv 0) pe_int (nomark _))
        (pss_one (ps_ret (pe_kd1 KX_NothingToUndo (hr.mono (by decide)) pass0 rfl (pa_cons (pv 1) pa_nil))))
        pss_nil)
      (pss_cons (ps_if (pt_cmpR op_eq (pv 0) pe_int (nomark _))
        (pss_one (ps_ret (pe_kd1 KX_NothingToRedo (hr.mono (by decide)) pass0 rfl (pa_cons (pv 1) pa_nil))))
        pss_nil)
      (pss_cons (ps_if (pt_cmpR op_eq (pv 0) pe_int (nomark _))
        (pss_one (ps_ret (pe_kd1 KX_BadPaint (hr.mono (by decide)) pass0 rfl (pa_cons (pv 1) pa_nil))))
        pss_nil)
      (pss_cons (ps_if (pt_cmpR op_eq (pv 0) pe_int (nomark _))
        (pss_one (ps_ret (pe_kd1 KX_BadPicture (hr.mono (by decide)) pass0 rfl (pa_cons (pv 1) pa_nil))))
        pss_nil)
      (pss_cons (ps_if (pt_cmpR op_eq (pv 0) pe_int (nomark _))
        (pss_one (ps_ret (pe_kd1 KX_BadWhat (hr.mono (by decide)) pass0 rfl (pa_cons (pv 1) pa_nil))))
        pss_nil)
      (pss_cons (ps_if (pt_cmpR op_eq (pv 0) pe_int (nomark _))
        (pss_one (ps_ret (pe_kd1 KX_BadMoves (hr.mono (by decide)) pass0 rfl (pa_cons (pv 1) pa_nil))))
        pss_nil)
      (pss_cons (ps_if (pt_cmpR op_eq (pv 0) pe_int (nomark _))
        (pss_one (ps_ret (pe_kd1 KX_BadJoin (hr.mono (by decide)) pass0 rfl (pa_cons (pv 1) pa_nil))))
        pss_nil)
      (pss_cons (ps_if (pt_cmpR op_eq (pv 0) pe_int (nomark _))
        (pss_one (ps_ret (pe_kd1 KX_BadPlace (hr.mono (by decide)) pass0 rfl (pa_cons (pv 1) pa_nil))))
        pss_nil)
      (pss_cons (ps_if (pt_cmpR op_eq (pv 0) pe_int (nomark _))
        (pss_one (ps_ret (pe_kd1 KX_BadRectangle (hr.mono (by decide)) pass0 rfl (pa_cons (pv 1) pa_nil))))
        pss_nil)
      (pss_one (ps_ret pe_non))))))))))), ?_⟩
    refine ⟨_, rfl, rfl, _, rfl, ?_⟩
    refine ite2 (fun c => ?_) (fun c => ?_)
    · have e : k = 9 := V.int.inj (of_decide_eq_true c)
      subst e
      exact ⟨_, rfl, _, rfl, pick hx hC q rfl m_NothingToUndo⟩
    have n9 : k ≠ 9 := fun e => c (decide_eq_true (congrArg V.int e))
    refine ⟨_, rfl, rfl, _, rfl, ?_⟩
    refine ite2 (fun c => ?_) (fun c => ?_)
    · have e : k = 10 := V.int.inj (of_decide_eq_true c)
      subst e
      exact ⟨_, rfl, _, rfl, pick hx hC q rfl m_NothingToRedo⟩
    have n10 : k ≠ 10 := fun e => c (decide_eq_true (congrArg V.int e))
    refine ⟨_, rfl, rfl, _, rfl, ?_⟩
    refine ite2 (fun c => ?_) (fun c => ?_)
    · have e : k = 11 := V.int.inj (of_decide_eq_true c)
      subst e
      exact ⟨_, rfl, _, rfl, pick hx hC q rfl m_BadPaint⟩
    have n11 : k ≠ 11 := fun e => c (decide_eq_true (congrArg V.int e))
    refine ⟨_, rfl, rfl, _, rfl, ?_⟩
    refine ite2 (fun c => ?_) (fun c => ?_)
    · have e : k = 12 := V.int.inj (of_decide_eq_true c)
      subst e
      exact ⟨_, rfl, _, rfl, pick hx hC q rfl m_BadPicture⟩
    have n12 : k ≠ 12 := fun e => c (decide_eq_true (congrArg V.int e))
    refine ⟨_, rfl, rfl, _, rfl, ?_⟩
    refine ite2 (fun c => ?_) (fun c => ?_)
    · have e : k = 13 := V.int.inj (of_decide_eq_true c)
      subst e
      exact ⟨_, rfl, _, rfl, pick hx hC q rfl m_BadWhat⟩
    have n13 : k ≠ 13 := fun e => c (decide_eq_true (congrArg V.int e))
    refine ⟨_, rfl, rfl, _, rfl, ?_⟩
    refine ite2 (fun c => ?_) (fun c => ?_)
    · have e : k = 14 := V.int.inj (of_decide_eq_true c)
      subst e
      exact ⟨_, rfl, _, rfl, pick hx hC q rfl m_BadMoves⟩
    have n14 : k ≠ 14 := fun e => c (decide_eq_true (congrArg V.int e))
    refine ⟨_, rfl, rfl, _, rfl, ?_⟩
    refine ite2 (fun c => ?_) (fun c => ?_)
    · have e : k = 15 := V.int.inj (of_decide_eq_true c)
      subst e
      exact ⟨_, rfl, _, rfl, pick hx hC q rfl m_BadJoin⟩
    have n15 : k ≠ 15 := fun e => c (decide_eq_true (congrArg V.int e))
    refine ⟨_, rfl, rfl, _, rfl, ?_⟩
    refine ite2 (fun c => ?_) (fun c => ?_)
    · have e : k = 16 := V.int.inj (of_decide_eq_true c)
      subst e
      exact ⟨_, rfl, _, rfl, pick hx hC q rfl m_BadPlace⟩
    have n16 : k ≠ 16 := fun e => c (decide_eq_true (congrArg V.int e))
    refine ⟨_, rfl, rfl, _, rfl, ?_⟩
    refine ite2 (fun c => ?_) (fun c => ?_)
    · have e : k = 17 := V.int.inj (of_decide_eq_true c)
      subst e
      exact ⟨_, rfl, _, rfl, pick hx hC q rfl m_BadRectangle⟩
    have n17 : k ≠ 17 := fun e => c (decide_eq_true (congrArg V.int e))
    exact absurd k1 (by omega)
abbrev s_l_with_place : Stmt := top 22
theorem sc_l_with_place : FnScope ["k", "place"] ["k", "place"] (defScope s_l_with_place) := ⟨rfl, rfl, rfl, by decide +kernel, rfl, by decide +kernel, by decide +kernel⟩
theorem ok_l_with_place {f : Addr} {fd : FuncData} (F : Fun K "_law_with_place" "_law_with_place" s_l_with_place f fd) (T : Txt K mg) (EA : ErrAll P w K mg base) (D_l_with_place_too : Def P w K mg base CX0 "_law_with_place_too" 4 ["k", "place"] (spMkP mg 9 18)) : FnOk P w K mg base CX0 5 f fd ["k", "place"] (spMkP mg 0 18) := by
  refine F.ok sc_l_with_place (fun vs H Q E h => ?_) (fun cdv A outer s H vs Q E hr h => ?_)
  · obtain ⟨k, p, rfl, _⟩ := h
    rfl
  · obtain ⟨k, p, rfl, k0, k1, x, C, hx, hC, q⟩ := h
    obtain ⟨E_BadLine, KX_BadLine⟩ := EA.kind "BadLine" (by decide)
    have m_BadLine : mg "BadLine" = some (.ref E_BadLine) := KX_BadLine.choose_spec.1.g
    obtain ⟨E_BadFilm, KX_BadFilm⟩ := EA.kind "BadFilm" (by decide)
    have m_BadFilm : mg "BadFilm" = some (.ref E_BadFilm) := KX_BadFilm.choose_spec.1.g
    obtain ⟨E_BadLayer, KX_BadLayer⟩ := EA.kind "BadLayer" (by decide)
    have m_BadLayer : mg "BadLayer" = some (.ref E_BadLayer) := KX_BadLayer.choose_spec.1.g
    obtain ⟨E_DuplicateLayer, KX_DuplicateLayer⟩ := EA.kind "DuplicateLayer" (by decide)
    have m_DuplicateLayer : mg "DuplicateLayer" = some (.ref E_DuplicateLayer) := KX_DuplicateLayer.choose_spec.1.g
    obtain ⟨E_UnknownLayer, KX_UnknownLayer⟩ := EA.kind "UnknownLayer" (by decide)
    have m_UnknownLayer : mg "UnknownLayer" = some (.ref E_UnknownLayer) := KX_UnknownLayer.choose_spec.1.g
    obtain ⟨E_BadFrame, KX_BadFrame⟩ := EA.kind "BadFrame" (by decide)
    have m_BadFrame : mg "BadFrame" = some (.ref E_BadFrame) := KX_BadFrame.choose_spec.1.g
    obtain ⟨E_BadClip, KX_BadClip⟩ := EA.kind "BadClip" (by decide)
    have m_BadClip : mg "BadClip" = some (.ref E_BadClip) := KX_BadClip.choose_spec.1.g
    obtain ⟨E_BadCut, KX_BadCut⟩ := EA.kind "BadCut" (by decide)
    have m_BadCut : mg "BadCut" = some (.ref E_BadCut) := KX_BadCut.choose_spec.1.g
    obtain ⟨E_BadEdit, KX_BadEdit⟩ := EA.kind "BadEdit" (by decide)
    have m_BadEdit : mg "BadEdit" = some (.ref E_BadEdit) := KX_BadEdit.choose_spec.1.g
    refine ⟨_, (pss_cons (ps_if (pt_cmpR op_eq (pv 0) pe_int (nomark _))
        (pss_one (ps_ret (pe_kd1 KX_BadLine (hr.mono (by decide)) pass0 rfl (pa_cons (pv 1) pa_nil))))
        pss_nil)
      (pss_cons (ps_if (pt_cmpR op_eq (pv 0) pe_int (nomark _))
        (pss_one (ps_ret (pe_kd1 KX_BadFilm (hr.mono (by decide)) pass0 rfl (pa_cons (pv 1) pa_nil))))
        pss_nil)
      (pss_cons (ps_if (pt_cmpR op_eq (pv 0) pe_int (nomark _))
        (pss_one (ps_ret (pe_kd1 KX_BadLayer (hr.mono (by decide)) pass0 rfl (pa_cons (pv 1) pa_nil))))
        pss_nil)
      (pss_cons (ps_if (pt_cmpR op_eq (pv 0) pe_int (nomark _))
        (pss_one (ps_ret (pe_kd1 KX_DuplicateLayer (hr.mono (by decide)) pass0 rfl (pa_cons (pv 1) pa_nil))))
        pss_nil)
      (pss_cons (ps_if (pt_cmpR op_eq (pv 0) pe_int (nomark _))
        (pss_one (ps_ret (pe_kd1 KX_UnknownLayer (hr.mono (by decide)) pass0 rfl (pa_cons (pv 1) pa_nil))))
        pss_nil)
      (pss_cons (ps_if (pt_cmpR op_eq (pv 0) pe_int (nomark _))
        (pss_one (ps_ret (pe_kd1 KX_BadFrame (hr.mono (by decide)) pass0 rfl (pa_cons (pv 1) pa_nil))))
        pss_nil)
      (pss_cons (ps_if (pt_cmpR op_eq (pv 0) pe_int (nomark _))
        (pss_one (ps_ret (pe_kd1 KX_BadClip (hr.mono (by decide)) pass0 rfl (pa_cons (pv 1) pa_nil))))
        pss_nil)
      (pss_cons (ps_if (pt_cmpR op_eq (pv 0) pe_int (nomark _))
        (pss_one (ps_ret (pe_kd1 KX_BadCut (hr.mono (by decide)) pass0 rfl (pa_cons (pv 1) pa_nil))))
        pss_nil)
      (pss_cons (ps_if (pt_cmpR op_eq (pv 0) pe_int (nomark _))
        (pss_one (ps_ret (pe_kd1 KX_BadEdit (hr.mono (by decide)) pass0 rfl (pa_cons (pv 1) pa_nil))))
        pss_nil)
      (pss_one (ps_ret (pe_call D_l_with_place_too.ok (hr.mono (by decide)) rfl D_l_with_place_too.mgf D_l_with_place_too.kp D_l_with_place_too.b .nil pass0 (pa_cons (pv 0) (pa_cons (pv 1) pa_nil)))))))))))))), ?_⟩
    refine ⟨_, rfl, rfl, _, rfl, ?_⟩
    refine ite2 (fun c => ?_) (fun c => ?_)
    · have e : k = 0 := V.int.inj (of_decide_eq_true c)
      subst e
      exact ⟨_, rfl, _, rfl, pick hx hC q rfl m_BadLine⟩
    have n0 : k ≠ 0 := fun e => c (decide_eq_true (congrArg V.int e))
    refine ⟨_, rfl, rfl, _, rfl, ?_⟩
    refine ite2 (fun c => ?_) (fun c => ?_)
    · have e : k = 1 := V.int.inj (of_decide_eq_true c)
      subst e
      exact ⟨_, rfl, _, rfl, pick hx hC q rfl m_BadFilm⟩
    have n1 : k ≠ 1 := fun e => c (decide_eq_true (congrArg V.int e))
    refine ⟨_, rfl, rfl, _, rfl, ?_⟩
    refine ite2 (fun c => ?_) (fun c => ?_)
    · have e : k = 2 := V.int.inj (of_decide_eq_true c)
      subst e
      exact ⟨_, rfl, _, rfl, pick hx hC q rfl m_BadLayer⟩
    have n2 : k ≠ 2 := fun e => c (decide_eq_true (congrArg V.int e))
    refine ⟨_, rfl, rfl, _, rfl, ?_⟩
    refine ite2 (fun c => ?_) (fun c => ?_)
    · have e : k = 3 := V.int.inj (of_decide_eq_true c)
      subst e
      exact ⟨_, rfl, _, rfl, pick hx hC q rfl m_DuplicateLayer⟩
    have n3 : k ≠ 3 := fun e => c (decide_eq_true (congrArg V.int e))
    refine ⟨_, rfl, rfl, _, rfl, ?_⟩
    refine ite2 (fun c => ?_) (fun c => ?_)
    · have e : k = 4 := V.int.inj (of_decide_eq_true c)
      subst e
      exact ⟨_, rfl, _, rfl, pick hx hC q rfl m_UnknownLayer⟩
    have n4 : k ≠ 4 := fun e => c (decide_eq_true (congrArg V.int e))
    refine ⟨_, rfl, rfl, _, rfl, ?_⟩
    refine ite2 (fun c => ?_) (fun c => ?_)
    · have e : k = 5 := V.int.inj (of_decide_eq_true c)
      subst e
      exact ⟨_, rfl, _, rfl, pick hx hC q rfl m_BadFrame⟩
    have n5 : k ≠ 5 := fun e => c (decide_eq_true (congrArg V.int e))
    refine ⟨_, rfl, rfl, _, rfl, ?_⟩
    refine ite2 (fun c => ?_) (fun c => ?_)
    · have e : k = 6 := V.int.inj (of_decide_eq_true c)
      subst e
      exact ⟨_, rfl, _, rfl, pick hx hC q rfl m_BadClip⟩
    have n6 : k ≠ 6 := fun e => c (decide_eq_true (congrArg V.int e))
    refine ⟨_, rfl, rfl, _, rfl, ?_⟩
    refine ite2 (fun c => ?_) (fun c => ?_)
    · have e : k = 7 := V.int.inj (of_decide_eq_true c)
      subst e
      exact ⟨_, rfl, _, rfl, pick hx hC q rfl m_BadCut⟩
    have n7 : k ≠ 7 := fun e => c (decide_eq_true (congrArg V.int e))
    refine ⟨_, rfl, rfl, _, rfl, ?_⟩
    refine ite2 (fun c => ?_) (fun c => ?_)
    · have e : k = 8 := V.int.inj (of_decide_eq_true c)
      subst e
      exact ⟨_, rfl, _, rfl, pick hx hC q rfl m_BadEdit⟩
    have n8 : k ≠ 8 := fun e => c (decide_eq_true (congrArg V.int e))
    exact ⟨_, rfl, _, rfl, k, p, rfl, by omega, k1, x, C, hx, hC, q⟩
abbrev s_l_named_too : Stmt := top 25
theorem sc_l_named_too : FnScope ["k", "place"] ["k", "place"] (defScope s_l_named_too) := ⟨rfl, rfl, rfl, by decide +kernel, rfl, by decide +kernel, by decide +kernel⟩
theorem ok_l_named_too {f : Addr} {fd : FuncData} (F : Fun K "_law_named_too" "_law_named_too" s_l_named_too f fd) (T : Txt K mg) (EA : ErrAll P w K mg base) : FnOk P w K mg base CX0 4 f fd ["k", "place"] (spMkP mg 9 18) := by
  refine F.ok sc_l_named_too (fun vs H Q E h => ?_) (fun cdv A outer s H vs Q E hr h => ?_)
  · obtain ⟨k, p, rfl, _⟩ := h
    rfl
  · obtain ⟨k, p, rfl, k0, k1, x, C, hx, hC, q⟩ := h
    obtain ⟨E_NothingToUndo, KX_NothingToUndo⟩ := EA.kind "NothingToUndo" (by decide)
    have m_NothingToUndo : mg "NothingToUndo" = some (.ref E_NothingToUndo) := KX_NothingToUndo.choose_spec.1.g
    obtain ⟨E_NothingToRedo, KX_NothingToRedo⟩ := EA.kind "NothingToRedo" (by decide)
    have m_NothingToRedo : mg "NothingToRedo" = some (.ref E_NothingToRedo) := KX_NothingToRedo.choose_spec.1.g
    obtain ⟨E_BadPaint, KX_BadPaint⟩ := EA.kind "BadPaint" (by decide)
    have m_BadPaint : mg "BadPaint" = some (.ref E_BadPaint) := KX_BadPaint.choose_spec.1.g
    obtain ⟨E_BadPicture, KX_BadPicture⟩ := EA.kind "BadPicture" (by decide)
    have m_BadPicture : mg "BadPicture" = some (.ref E_BadPicture) := KX_BadPicture.choose_spec.1.g
    obtain ⟨E_BadWhat, KX_BadWhat⟩ := EA.kind "BadWhat" (by decide)
    have m_BadWhat : mg "BadWhat" = some (.ref E_BadWhat) := KX_BadWhat.choose_spec.1.g
    obtain ⟨E_BadMoves, KX_BadMoves⟩ := EA.kind "BadMoves" (by decide)
    have m_BadMoves : mg "BadMoves" = some (.ref E_BadMoves) := KX_BadMoves.choose_spec.1.g
    obtain ⟨E_BadJoin, KX_BadJoin⟩ := EA.kind "BadJoin" (by decide)
    have m_BadJoin : mg "BadJoin" = some (.ref E_BadJoin) := KX_BadJoin.choose_spec.1.g
    obtain ⟨E_BadPlace, KX_BadPlace⟩ := EA.kind "BadPlace" (by decide)
    have m_BadPlace : mg "BadPlace" = some (.ref E_BadPlace) := KX_BadPlace.choose_spec.1.g
    obtain ⟨E_BadRectangle, KX_BadRectangle⟩ := EA.kind "BadRectangle" (by decide)
    have m_BadRectangle : mg "BadRectangle" = some (.ref E_BadRectangle) := KX_BadRectangle.choose_spec.1.g
    refine ⟨_, (pss_cons (ps_if (pt_cmpR op_eq (pv 0) pe_int (nomark _))
        (pss_one (ps_ret (pe_kdK KX_NothingToUndo (hr.mono (by decide)) pass0 rfl (pk_cons (pv 1) pk_nil))))
        pss_nil)
      (pss_cons (ps_if (pt_cmpR op_eq (pv 0) pe_int (nomark _))
        (pss_one (ps_ret (pe_kdK KX_NothingToRedo (hr.mono (by decide)) pass0 rfl (pk_cons (pv 1) pk_nil))))
        pss_nil)
      (pss_cons (ps_if (pt_cmpR op_eq (pv 0) pe_int (nomark _))
        (pss_one (ps_ret (pe_kdK KX_BadPaint (hr.mono (by decide)) pass0 rfl (pk_cons (pv 1) pk_nil))))
        pss_nil)
      (pss_cons (ps_if (pt_cmpR op_eq (pv 0) pe_int (nomark _))
        (pss_one (ps_ret (pe_kdK KX_BadPicture (hr.mono (by decide)) pass0 rfl (pk_cons (pv 1) pk_nil))))
        pss_nil)
      (pss_cons (ps_if (pt_cmpR op_eq (pv 0) pe_int (nomark _))
        (pss_one (ps_ret (pe_kdK KX_BadWhat (hr.mono (by decide)) pass0 rfl (pk_cons (pv 1) pk_nil))))
        pss_nil)
      (pss_cons (ps_if (pt_cmpR op_eq (pv 0) pe_int (nomark _))
        (pss_one (ps_ret (pe_kdK KX_BadMoves (hr.mono (by decide)) pass0 rfl (pk_cons (pv 1) pk_nil))))
        pss_nil)
      (pss_cons (ps_if (pt_cmpR op_eq (pv 0) pe_int (nomark _))
        (pss_one (ps_ret (pe_kdK KX_BadJoin (hr.mono (by decide)) pass0 rfl (pk_cons (pv 1) pk_nil))))
        pss_nil)
      (pss_cons (ps_if (pt_cmpR op_eq (pv 0) pe_int (nomark _))
        (pss_one (ps_ret (pe_kdK KX_BadPlace (hr.mono (by decide)) pass0 rfl (pk_cons (pv 1) pk_nil))))
        pss_nil)
      (pss_cons (ps_if (pt_cmpR op_eq (pv 0) pe_int (nomark _))
        (pss_one (ps_ret (pe_kdK KX_BadRectangle (hr.mono (by decide)) pass0 rfl (pk_cons (pv 1) pk_nil))))
        pss_nil)
      (pss_one (ps_ret pe_non))))))))))), ?_⟩
    refine ⟨_, rfl, rfl, _, rfl, ?_⟩
    refine ite2 (fun c => ?_) (fun c => ?_)
    · have e : k = 9 := V.int.inj (of_decide_eq_true c)
      subst e
      exact ⟨_, rfl, _, rfl, pick hx hC q rfl m_NothingToUndo⟩
    have n9 : k ≠ 9 := fun e => c (decide_eq_true (congrArg V.int e))
    refine ⟨_, rfl, rfl, _, rfl, ?_⟩
    refine ite2 (fun c => ?_) (fun c => ?_)
    · have e : k = 10 := V.int.inj (of_decide_eq_true c)
      subst e
      exact ⟨_, rfl, _, rfl, pick hx hC q rfl m_NothingToRedo⟩
    have n10 : k ≠ 10 := fun e => c (decide_eq_true (congrArg V.int e))
    refine ⟨_, rfl, rfl, _, rfl, ?_⟩
    refine ite2 (fun c => ?_) (fun c => ?_)
    · have e : k = 11 := V.int.inj (of_decide_eq_true c)
      subst e
      exact ⟨_, rfl, _, rfl, pick hx hC q rfl m_BadPaint⟩
    have n11 : k ≠ 11 := fun e => c (decide_eq_true (congrArg V.int e))
    refine ⟨_, rfl, rfl, _, rfl, ?_⟩
    refine ite2 (fun c => ?_) (fun c => ?_)
    · have e : k = 12 := V.int.inj (of_decide_eq_true c)
      subst e
      exact ⟨_, rfl, _, rfl, pick hx hC q rfl m_BadPicture⟩
    have n12 : k ≠ 12 := fun e => c (decide_eq_true (congrArg V.int e))
    refine ⟨_, rfl, rfl, _, rfl, ?_⟩
    refine ite2 (fun c => ?_) (fun c => ?_)
    · have e : k = 13 := V.int.inj (of_decide_eq_true c)
      subst e
      exact ⟨_, rfl, _, rfl, pick hx hC q rfl m_BadWhat⟩
    have n13 : k ≠ 13 := fun e => c (decide_eq_true (congrArg V.int e))
    refine ⟨_, rfl, rfl, _, rfl, ?_⟩
    refine ite2 (fun c => ?_) (fun c => ?_)
    · have e : k = 14 := V.int.inj (of_decide_eq_true c)
      subst e
      exact ⟨_, rfl, _, rfl, pick hx hC q rfl m_BadMoves⟩
    have n14 : k ≠ 14 := fun e => c (decide_eq_true (congrArg V.int e))
    refine ⟨_, rfl, rfl, _, rfl, ?_⟩
    refine ite2 (fun c => ?_) (fun c => ?_)
    · have e : k = 15 := V.int.inj (of_decide_eq_true c)
      subst e
      exact ⟨_, rfl, _, rfl, pick hx hC q rfl m_BadJoin⟩
    have n15 : k ≠ 15 := fun e => c (decide_eq_true (congrArg V.int e))
    refine ⟨_, rfl, rfl, _, rfl, ?_⟩
    refine ite2 (fun c => ?_) (fun c => ?_)
    · have e : k = 16 := V.int.inj (of_decide_eq_true c)
      subst e
      exact ⟨_, rfl, _, rfl, pick hx hC q rfl m_BadPlace⟩
    have n16 : k ≠ 16 := fun e => c (decide_eq_true (congrArg V.int e))
    refine ⟨_, rfl, rfl, _, rfl, ?_⟩
    refine ite2 (fun c => ?_) (fun c => ?_)
    · have e : k = 17 := V.int.inj (of_decide_eq_true c)
      subst e
      exact ⟨_, rfl, _, rfl, pick hx hC q rfl m_BadRectangle⟩
    have n17 : k ≠ 17 := fun e => c (decide_eq_true (congrArg V.int e))
    exact absurd k1 (by omega)
abbrev s_l_named : Stmt := top 24
theorem sc_l_named : FnScope ["k", "place"] ["k", "place"] (defScope s_l_named) := ⟨rfl, rfl, rfl, by decide +kernel, rfl, by decide +kernel, by decide +kernel⟩
theorem ok_l_named {f : Addr} {fd : FuncData} (F : Fun K "_law_named" "_law_named" s_l_named f fd) (T : Txt K mg) (EA : ErrAll P w K mg base) (D_l_named_too : Def P w K mg base CX0 "_law_named_too" 4 ["k", "place"] (spMkP mg 9 18)) : FnOk P w K mg base CX0 5 f fd ["k", "place"] (spMkP mg 0 18) := by
  refine F.ok sc_l_named (fun vs H Q E h => ?_) (fun cdv A outer s H vs Q E hr h => ?_)
  · obtain ⟨k, p, rfl, _⟩ := h
    rfl
  · obtain ⟨k, p, rfl, k0, k1, x, C, hx, hC, q⟩ := h
    obtain ⟨E_BadLine, KX_BadLine⟩ := EA.kind "BadLine" (by decide)
    have m_BadLine : mg "BadLine" = some (.ref E_BadLine) := KX_BadLine.choose_spec.1.g
    obtain ⟨E_BadFilm, KX_BadFilm⟩ := EA.kind "BadFilm" (by decide)
    have m_BadFilm : mg "BadFilm" = some (.ref E_BadFilm) := KX_BadFilm.choose_spec.1.g
    obtain ⟨E_BadLayer, KX_BadLayer⟩ := EA.kind "BadLayer" (by decide)
    have m_BadLayer : mg "BadLayer" = some (.ref E_BadLayer) := KX_BadLayer.choose_spec.1.g
    obtain ⟨E_DuplicateLayer, KX_DuplicateLayer⟩ := EA.kind "DuplicateLayer" (by decide)
    have m_DuplicateLayer : mg "DuplicateLayer" = some (.ref E_DuplicateLayer) := KX_DuplicateLayer.choose_spec.1.g
    obtain ⟨E_UnknownLayer, KX_UnknownLayer⟩ := EA.kind "UnknownLayer" (by decide)
    have m_UnknownLayer : mg "UnknownLayer" = some (.ref E_UnknownLayer) := KX_UnknownLayer.choose_spec.1.g
    obtain ⟨E_BadFrame, KX_BadFrame⟩ := EA.kind "BadFrame" (by decide)
    have m_BadFrame : mg "BadFrame" = some (.ref E_BadFrame) := KX_BadFrame.choose_spec.1.g
    obtain ⟨E_BadClip, KX_BadClip⟩ := EA.kind "BadClip" (by decide)
    have m_BadClip : mg "BadClip" = some (.ref E_BadClip) := KX_BadClip.choose_spec.1.g
    obtain ⟨E_BadCut, KX_BadCut⟩ := EA.kind "BadCut" (by decide)
    have m_BadCut : mg "BadCut" = some (.ref E_BadCut) := KX_BadCut.choose_spec.1.g
    obtain ⟨E_BadEdit, KX_BadEdit⟩ := EA.kind "BadEdit" (by decide)
    have m_BadEdit : mg "BadEdit" = some (.ref E_BadEdit) := KX_BadEdit.choose_spec.1.g
    refine ⟨_, (pss_cons (ps_if (pt_cmpR op_eq (pv 0) pe_int (nomark _))
        (pss_one (ps_ret (pe_kdK KX_BadLine (hr.mono (by decide)) pass0 rfl (pk_cons (pv 1) pk_nil))))
        pss_nil)
      (pss_cons (ps_if (pt_cmpR op_eq (pv 0) pe_int (nomark _))
        (pss_one (ps_ret (pe_kdK KX_BadFilm (hr.mono (by decide)) pass0 rfl (pk_cons (pv 1) pk_nil))))
        pss_nil)
      (pss_cons (ps_if (pt_cmpR op_eq (pv 0) pe_int (nomark _))
        (pss_one (ps_ret (pe_kdK KX_BadLayer (hr.mono (by decide)) pass0 rfl (pk_cons (pv 1) pk_nil))))
        pss_nil)
      (pss_cons (ps_if (pt_cmpR op_eq (pv 0) pe_int (nomark _))
        (pss_one (ps_ret (pe_kdK KX_DuplicateLayer (hr.mono (by decide)) pass0 rfl (pk_cons (pv 1) pk_nil))))
        pss_nil)
      (pss_cons (ps_if (pt_cmpR op_eq (pv 0) pe_int (nomark _))
        (pss_one (ps_ret (pe_kdK KX_UnknownLayer (hr.mono (by decide)) pass0 rfl (pk_cons (pv 1) pk_nil))))
        pss_nil)
      (pss_cons (ps_if (pt_cmpR op_eq (pv 0) pe_int (nomark _))
        (pss_one (ps_ret (pe_kdK KX_BadFrame (hr.mono (by decide)) pass0 rfl (pk_cons (pv 1) pk_nil))))
        pss_nil)
      (pss_cons (ps_if (pt_cmpR op_eq (pv 0) pe_int (nomark _))
        (pss_one (ps_ret (pe_kdK KX_BadClip (hr.mono (by decide)) pass0 rfl (pk_cons (pv 1) pk_nil))))
        pss_nil)
      (pss_cons (ps_if (pt_cmpR op_eq (pv 0) pe_int (nomark _))
        (pss_one (ps_ret (pe_kdK KX_BadCut (hr.mono (by decide)) pass0 rfl (pk_cons (pv 1) pk_nil))))
        pss_nil)
      (pss_cons (ps_if (pt_cmpR op_eq (pv 0) pe_int (nomark _))
        (pss_one (ps_ret (pe_kdK KX_BadEdit (hr.mono (by decide)) pass0 rfl (pk_cons (pv 1) pk_nil))))
        pss_nil)
      (pss_one (ps_ret (pe_call D_l_named_too.ok (hr.mono (by decide)) rfl D_l_named_too.mgf D_l_named_too.kp D_l_named_too.b .nil pass0 (pa_cons (pv 0) (pa_cons (pv 1) pa_nil)))))))))))))), ?_⟩
    refine ⟨_, rfl, rfl, _, rfl, ?_⟩
    refine ite2 (fun c => ?_) (fun c => ?_)
    · have e : k = 0 := V.int.inj (of_decide_eq_true c)
      subst e
      exact ⟨_, rfl, _, rfl, pick hx hC q rfl m_BadLine⟩
    have n0 : k ≠ 0 := fun e => c (decide_eq_true (congrArg V.int e))
    refine ⟨_, rfl, rfl, _, rfl, ?_⟩
    refine ite2 (fun c => ?_) (fun c => ?_)
    · have e : k = 1 := V.int.inj (of_decide_eq_true c)
      subst e
      exact ⟨_, rfl, _, rfl, pick hx hC q rfl m_BadFilm⟩
    have n1 : k ≠ 1 := fun e => c (decide_eq_true (congrArg V.int e))
    refine ⟨_, rfl, rfl, _, rfl, ?_⟩
    refine ite2 (fun c => ?_) (fun c => ?_)
    · have e : k = 2 := V.int.inj (of_decide_eq_true c)
      subst e
      exact ⟨_, rfl, _, rfl, pick hx hC q rfl m_BadLayer⟩
    have n2 : k ≠ 2 := fun e => c (decide_eq_true (congrArg V.int e))
    refine ⟨_, rfl, rfl, _, rfl, ?_⟩
    refine ite2 (fun c => ?_) (fun c => ?_)
    · have e : k = 3 := V.int.inj (of_decide_eq_true c)
      subst e
      exact ⟨_, rfl, _, rfl, pick hx hC q rfl m_DuplicateLayer⟩
    have n3 : k ≠ 3 := fun e => c (decide_eq_true (congrArg V.int e))
    refine ⟨_, rfl, rfl, _, rfl, ?_⟩
    refine ite2 (fun c => ?_) (fun c => ?_)
    · have e : k = 4 := V.int.inj (of_decide_eq_true c)
      subst e
      exact ⟨_, rfl, _, rfl, pick hx hC q rfl m_UnknownLayer⟩
    have n4 : k ≠ 4 := fun e => c (decide_eq_true (congrArg V.int e))
    refine ⟨_, rfl, rfl, _, rfl, ?_⟩
    refine ite2 (fun c => ?_) (fun c => ?_)
    · have e : k = 5 := V.int.inj (of_decide_eq_true c)
      subst e
      exact ⟨_, rfl, _, rfl, pick hx hC q rfl m_BadFrame⟩
    have n5 : k ≠ 5 := fun e => c (decide_eq_true (congrArg V.int e))
    refine ⟨_, rfl, rfl, _, rfl, ?_⟩
    refine ite2 (fun c => ?_) (fun c => ?_)
    · have e : k = 6 := V.int.inj (of_decide_eq_true c)
      subst e
      exact ⟨_, rfl, _, rfl, pick hx hC q rfl m_BadClip⟩
    have n6 : k ≠ 6 := fun e => c (decide_eq_true (congrArg V.int e))
    refine ⟨_, rfl, rfl, _, rfl, ?_⟩
    refine ite2 (fun c => ?_) (fun c => ?_)
    · have e : k = 7 := V.int.inj (of_decide_eq_true c)
      subst e
      exact ⟨_, rfl, _, rfl, pick hx hC q rfl m_BadCut⟩
    have n7 : k ≠ 7 := fun e => c (decide_eq_true (congrArg V.int e))
    refine ⟨_, rfl, rfl, _, rfl, ?_⟩
    refine ite2 (fun c => ?_) (fun c => ?_)
    · have e : k = 8 := V.int.inj (of_decide_eq_true c)
      subst e
      exact ⟨_, rfl, _, rfl, pick hx hC q rfl m_BadEdit⟩
    have n8 : k ≠ 8 := fun e => c (decide_eq_true (congrArg V.int e))
    exact ⟨_, rfl, _, rfl, k, p, rfl, by omega, k1, x, C, hx, hC, q⟩
abbrev s_l_plain_too : Stmt := top 27
theorem sc_l_plain_too : FnScope ["k"] ["k"] (defScope s_l_plain_too) := ⟨rfl, rfl, rfl, by decide +kernel, rfl, by decide +kernel, by decide +kernel⟩
theorem ok_l_plain_too {f : Addr} {fd : FuncData} (F : Fun K "_law_plain_too" "_law_plain_too" s_l_plain_too f fd) (T : Txt K mg) (EA : ErrAll P w K mg base) : FnOk P w K mg base CX0 4 f fd ["k"] (spMk0 mg 9 18) := by
  refine F.ok sc_l_plain_too (fun vs H Q E h => ?_) (fun cdv A outer s H vs Q E hr h => ?_)
  · obtain ⟨k, rfl, _⟩ := h
    rfl
  · obtain ⟨k, rfl, k0, k1, x, C, hx, hC, q⟩ := h
    obtain ⟨E_NothingToUndo, KX_NothingToUndo⟩ := EA.kind "NothingToUndo" (by decide)
    have m_NothingToUndo : mg "NothingToUndo" = some (.ref E_NothingToUndo) := KX_NothingToUndo.choose_spec.1.g
    obtain ⟨E_NothingToRedo, KX_NothingToRedo⟩ := EA.kind "NothingToRedo" (by decide)
    have m_NothingToRedo : mg "NothingToRedo" = some (.ref E_NothingToRedo) := KX_NothingToRedo.choose_spec.1.g
    obtain ⟨E_BadPaint, KX_BadPaint⟩ := EA.kind "BadPaint" (by decide)
    have m_BadPaint : mg "BadPaint" = some (.ref E_BadPaint) := KX_BadPaint.choose_spec.1.g
    obtain ⟨E_BadPicture, KX_BadPicture⟩ := EA.kind "BadPicture" (by decide)
    have m_BadPicture : mg "BadPicture" = some (.ref E_BadPicture) := KX_BadPicture.choose_spec.1.g
    obtain ⟨E_BadWhat, KX_BadWhat⟩ := EA.kind "BadWhat" (by decide)
    have m_BadWhat : mg "BadWhat" = some (.ref E_BadWhat) := KX_BadWhat.choose_spec.1.g
    obtain ⟨E_BadMoves, KX_BadMoves⟩ := EA.kind "BadMoves" (by decide)
    have m_BadMoves : mg "BadMoves" = some (.ref E_BadMoves) := KX_BadMoves.choose_spec.1.g
    obtain ⟨E_BadJoin, KX_BadJoin⟩ := EA.kind "BadJoin" (by decide)
    have m_BadJoin : mg "BadJoin" = some (.ref E_BadJoin) := KX_BadJoin.choose_spec.1.g
    obtain ⟨E_BadPlace, KX_BadPlace⟩ := EA.kind "BadPlace" (by decide)
    have m_BadPlace : mg "BadPlace" = some (.ref E_BadPlace) := KX_BadPlace.choose_spec.1.g
    obtain ⟨E_BadRectangle, KX_BadRectangle⟩ := EA.kind "BadRectangle" (by decide)
    have m_BadRectangle : mg "BadRectangle" = some (.ref E_BadRectangle) := KX_BadRectangle.choose_spec.1.g
    refine ⟨_, (pss_cons (ps_if (pt_cmpR op_eq (pv 0) pe_int (nomark _))
        (pss_one (ps_ret (pe_kd0 KX_NothingToUndo (hr.mono (by decide)) pass0 rfl)))
        pss_nil)
      (pss_cons (ps_if (pt_cmpR op_eq (pv 0) pe_int (nomark _))
        (pss_one (ps_ret (pe_kd0 KX_NothingToRedo (hr.mono (by decide)) pass0 rfl)))
        pss_nil)
      (pss_cons (ps_if (pt_cmpR op_eq (pv 0) pe_int (nomark _))
        (pss_one (ps_ret (pe_kd0 KX_BadPaint (hr.mono (by decide)) pass0 rfl)))
        pss_nil)
      (pss_cons (ps_if (pt_cmpR op_eq (pv 0) pe_int (nomark _))
        (pss_one (ps_ret (pe_kd0 KX_BadPicture (hr.mono (by decide)) pass0 rfl)))
        pss_nil)
      (pss_cons (ps_if (pt_cmpR op_eq (pv 0) pe_int (nomark _))
        (pss_one (ps_ret (pe_kd0 KX_BadWhat (hr.mono (by decide)) pass0 rfl)))
        pss_nil)
      (pss_cons (ps_if (pt_cmpR op_eq (pv 0) pe_int (nomark _))
        (pss_one (ps_ret (pe_kd0 KX_BadMoves (hr.mono (by decide)) pass0 rfl)))
        pss_nil)
      (pss_cons (ps_if (pt_cmpR op_eq (pv 0) pe_int (nomark _))
        (pss_one (ps_ret (pe_kd0 KX_BadJoin (hr.mono (by decide)) pass0 rfl)))
        pss_nil)
      (pss_cons (ps_if (pt_cmpR op_eq (pv 0) pe_int (nomark _))
        (pss_one (ps_ret (pe_kd0 KX_BadPlace (hr.mono (by decide)) pass0 rfl)))
        pss_nil)
      (pss_cons (ps_if (pt_cmpR op_eq (pv 0) pe_int (nomark _))
        (pss_one (ps_ret (pe_kd0 KX_BadRectangle (hr.mono (by decide)) pass0 rfl)))
        pss_nil)
      (pss_one (ps_ret pe_non))))))))))), ?_⟩
    refine ⟨_, rfl, rfl, _, rfl, ?_⟩
    refine ite2 (fun c => ?_) (fun c => ?_)
    · have e : k = 9 := V.int.inj (of_decide_eq_true c)
      subst e
      exact pick hx hC q rfl m_NothingToUndo
    have n9 : k ≠ 9 := fun e => c (decide_eq_true (congrArg V.int e))
    refine ⟨_, rfl, rfl, _, rfl, ?_⟩
    refine ite2 (fun c => ?_) (fun c => ?_)
    · have e : k = 10 := V.int.inj (of_decide_eq_true c)
      subst e
      exact pick hx hC q rfl m_NothingToRedo
    have n10 : k ≠ 10 := fun e => c (decide_eq_true (congrArg V.int e))
    refine ⟨_, rfl, rfl, _, rfl, ?_⟩
    refine ite2 (fun c => ?_) (fun c => ?_)
    · have e : k = 11 := V.int.inj (of_decide_eq_true c)
      subst e
      exact pick hx hC q rfl m_BadPaint
    have n11 : k ≠ 11 := fun e => c (decide_eq_true (congrArg V.int e))
    refine ⟨_, rfl, rfl, _, rfl, ?_⟩
    refine ite2 (fun c => ?_) (fun c => ?_)
    · have e : k = 12 := V.int.inj (of_decide_eq_true c)
      subst e
      exact pick hx hC q rfl m_BadPicture
    have n12 : k ≠ 12 := fun e => c (decide_eq_true (congrArg V.int e))
    refine ⟨_, rfl, rfl, _, rfl, ?_⟩
    refine ite2 (fun c => ?_) (fun c => ?_)
    · have e : k = 13 := V.int.inj (of_decide_eq_true c)
      subst e
      exact pick hx hC q rfl m_BadWhat
    have n13 : k ≠ 13 := fun e => c (decide_eq_true (congrArg V.int e))
    refine ⟨_, rfl, rfl, _, rfl, ?_⟩
    refine ite2 (fun c => ?_) (fun c => ?_)
    · have e : k = 14 := V.int.inj (of_decide_eq_true c)
      subst e
      exact pick hx hC q rfl m_BadMoves
    have n14 : k ≠ 14 := fun e => c (decide_eq_true (congrArg V.int e))
    refine ⟨_, rfl, rfl, _, rfl, ?_⟩
    refine ite2 (fun c => ?_) (fun c => ?_)
    · have e : k = 15 := V.int.inj (of_decide_eq_true c)
      subst e
      exact pick hx hC q rfl m_BadJoin
    have n15 : k ≠ 15 := fun e => c (decide_eq_true (congrArg V.int e))
    refine ⟨_, rfl, rfl, _, rfl, ?_⟩
    refine ite2 (fun c => ?_) (fun c => ?_)
    · have e : k = 16 := V.int.inj (of_decide_eq_true c)
      subst e
      exact pick hx hC q rfl m_BadPlace
    have n16 : k ≠ 16 := fun e => c (decide_eq_true (congrArg V.int e))
    refine ⟨_, rfl, rfl, _, rfl, ?_⟩
    refine ite2 (fun c => ?_) (fun c => ?_)
    · have e : k = 17 := V.int.inj (of_decide_eq_true c)
      subst e
      exact pick hx hC q rfl m_BadRectangle
    have n17 : k ≠ 17 := fun e => c (decide_eq_true (congrArg V.int e))
    exact absurd k1 (by omega)
abbrev s_l_plain : Stmt := top 26
theorem sc_l_plain : FnScope ["k"] ["k"] (defScope s_l_plain) := ⟨rfl, rfl, rfl, by decide +kernel, rfl, by decide +kernel, by decide +kernel⟩
theorem ok_l_plain {f : Addr} {fd : FuncData} (F : Fun K "_law_plain" "_law_plain" s_l_plain f fd) (T : Txt K mg) (EA : ErrAll P w K mg base) (D_l_plain_too : Def P w K mg base CX0 "_law_plain_too" 4 ["k"] (spMk0 mg 9 18)) : FnOk P w K mg base CX0 5 f fd ["k"] (spMk0 mg 0 18) := by
  refine F.ok sc_l_plain (fun vs H Q E h => ?_) (fun cdv A outer s H vs Q E hr h => ?_)
  · obtain ⟨k, rfl, _⟩ := h
    rfl
  · obtain ⟨k, rfl, k0, k1, x, C, hx, hC, q⟩ := h
    obtain ⟨E_BadLine, KX_BadLine⟩ := EA.kind "BadLine" (by decide)
    have m_BadLine : mg "BadLine" = some (.ref E_BadLine) := KX_BadLine.choose_spec.1.g
    obtain ⟨E_BadFilm, KX_BadFilm⟩ := EA.kind "BadFilm" (by decide)
    have m_BadFilm : mg "BadFilm" = some (.ref E_BadFilm) := KX_BadFilm.choose_spec.1.g
    obtain ⟨E_BadLayer, KX_BadLayer⟩ := EA.kind "BadLayer" (by decide)
    have m_BadLayer : mg "BadLayer" = some (.ref E_BadLayer) := KX_BadLayer.choose_spec.1.g
    obtain ⟨E_DuplicateLayer, KX_DuplicateLayer⟩ := EA.kind "DuplicateLayer" (by decide)
    have m_DuplicateLayer : mg "DuplicateLayer" = some (.ref E_DuplicateLayer) := KX_DuplicateLayer.choose_spec.1.g
    obtain ⟨E_UnknownLayer, KX_UnknownLayer⟩ := EA.kind "UnknownLayer" (by decide)
    have m_UnknownLayer : mg "UnknownLayer" = some (.ref E_UnknownLayer) := KX_UnknownLayer.choose_spec.1.g
    obtain ⟨E_BadFrame, KX_BadFrame⟩ := EA.kind "BadFrame" (by decide)
    have m_BadFrame : mg "BadFrame" = some (.ref E_BadFrame) := KX_BadFrame.choose_spec.1.g
    obtain ⟨E_BadClip, KX_BadClip⟩ := EA.kind "BadClip" (by decide)
    have m_BadClip : mg "BadClip" = some (.ref E_BadClip) := KX_BadClip.choose_spec.1.g
    obtain ⟨E_BadCut, KX_BadCut⟩ := EA.kind "BadCut" (by decide)
    have m_BadCut : mg "BadCut" = some (.ref E_BadCut) := KX_BadCut.choose_spec.1.g
    obtain ⟨E_BadEdit, KX_BadEdit⟩ := EA.kind "BadEdit" (by decide)
    have m_BadEdit : mg "BadEdit" = some (.ref E_BadEdit) := KX_BadEdit.choose_spec.1.g
    refine ⟨_, (pss_cons (ps_if (pt_cmpR op_eq (pv 0) pe_int (nomark _))
        (pss_one (ps_ret (pe_kd0 KX_BadLine (hr.mono (by decide)) pass0 rfl)))
        pss_nil)
      (pss_cons (ps_if (pt_cmpR op_eq (pv 0) pe_int (nomark _))
        (pss_one (ps_ret (pe_kd0 KX_BadFilm (hr.mono (by decide)) pass0 rfl)))
        pss_nil)
      (pss_cons (ps_if (pt_cmpR op_eq (pv 0) pe_int (nomark _))
        (pss_one (ps_ret (pe_kd0 KX_BadLayer (hr.mono (by decide)) pass0 rfl)))
        pss_nil)
      (pss_cons (ps_if (pt_cmpR op_eq (pv 0) pe_int (nomark _))
        (pss_one (ps_ret (pe_kd0 KX_DuplicateLayer (hr.mono (by decide)) pass0 rfl)))
        pss_nil)
      (pss_cons (ps_if (pt_cmpR op_eq (pv 0) pe_int (nomark _))
        (pss_one (ps_ret (pe_kd0 KX_UnknownLayer (hr.mono (by decide)) pass0 rfl)))
        pss_nil)
      (pss_cons (ps_if (pt_cmpR op_eq (pv 0) pe_int (nomark _))
        (pss_one (ps_ret (pe_kd0 KX_BadFrame (hr.mono (by decide)) pass0 rfl)))
        pss_nil)
      (pss_cons (ps_if (pt_cmpR op_eq (pv 0) pe_int (nomark _))
        (pss_one (ps_ret (pe_kd0 KX_BadClip (hr.mono (by decide)) pass0 rfl)))
        pss_nil)
      (pss_cons (ps_if (pt_cmpR op_eq (pv 0) pe_int (nomark _))
        (pss_one (ps_ret (pe_kd0 KX_BadCut (hr.mono (by decide)) pass0 rfl)))
        pss_nil)
      (pss_cons (ps_if (pt_cmpR op_eq (pv 0) pe_int (nomark _))
        (pss_one (ps_ret (pe_kd0 KX_BadEdit (hr.mono (by decide)) pass0 rfl)))
        pss_nil)
      (pss_one (ps_ret (pe_call D_l_plain_too.ok (hr.mono (by decide)) rfl D_l_plain_too.mgf D_l_plain_too.kp D_l_plain_too.b .nil pass0 (pa_cons (pv 0) pa_nil))))))))))))), ?_⟩
    refine ⟨_, rfl, rfl, _, rfl, ?_⟩
    refine ite2 (fun c => ?_) (fun c => ?_)
    · have e : k = 0 := V.int.inj (of_decide_eq_true c)
      subst e
      exact pick hx hC q rfl m_BadLine
    have n0 : k ≠ 0 := fun e => c (decide_eq_true (congrArg V.int e))
    refine ⟨_, rfl, rfl, _, rfl, ?_⟩
    refine ite2 (fun c => ?_) (fun c => ?_)
    · have e : k = 1 := V.int.inj (of_decide_eq_true c)
      subst e
      exact pick hx hC q rfl m_BadFilm
    have n1 : k ≠ 1 := fun e => c (decide_eq_true (congrArg V.int e))
    refine ⟨_, rfl, rfl, _, rfl, ?_⟩
    refine ite2 (fun c => ?_) (fun c => ?_)
    · have e : k = 2 := V.int.inj (of_decide_eq_true c)
      subst e
      exact pick hx hC q rfl m_BadLayer
    have n2 : k ≠ 2 := fun e => c (decide_eq_true (congrArg V.int e))
    refine ⟨_, rfl, rfl, _, rfl, ?_⟩
    refine ite2 (fun c => ?_) (fun c => ?_)
    · have e : k = 3 := V.int.inj (of_decide_eq_true c)
      subst e
      exact pick hx hC q rfl m_DuplicateLayer
    have n3 : k ≠ 3 := fun e => c (decide_eq_true (congrArg V.int e))
    refine ⟨_, rfl, rfl, _, rfl, ?_⟩
    refine ite2 (fun c => ?_) (fun c => ?_)
    · have e : k = 4 := V.int.inj (of_decide_eq_true c)
      subst e
      exact pick hx hC q rfl m_UnknownLayer
    have n4 : k ≠ 4 := fun e => c (decide_eq_true (congrArg V.int e))
    refine ⟨_, rfl, rfl, _, rfl, ?_⟩
    refine ite2 (fun c => ?_) (fun c => ?_)
    · have e : k = 5 := V.int.inj (of_decide_eq_true c)
      subst e
      exact pick hx hC q rfl m_BadFrame
    have n5 : k ≠ 5 := fun e => c (decide_eq_true (congrArg V.int e))
    refine ⟨_, rfl, rfl, _, rfl, ?_⟩
    refine ite2 (fun c => ?_) (fun c => ?_)
    · have e : k = 6 := V.int.inj (of_decide_eq_true c)
      subst e
      exact pick hx hC q rfl m_BadClip
    have n6 : k ≠ 6 := fun e => c (decide_eq_true (congrArg V.int e))
    refine ⟨_, rfl, rfl, _, rfl, ?_⟩
    refine ite2 (fun c => ?_) (fun c => ?_)
    · have e : k = 7 := V.int.inj (of_decide_eq_true c)
      subst e
      exact pick hx hC q rfl m_BadCut
    have n7 : k ≠ 7 := fun e => c (decide_eq_true (congrArg V.int e))
    refine ⟨_, rfl, rfl, _, rfl, ?_⟩
    refine ite2 (fun c => ?_) (fun c => ?_)
    · have e : k = 8 := V.int.inj (of_decide_eq_true c)
      subst e
      exact pick hx hC q rfl m_BadEdit
    have n8 : k ≠ 8 := fun e => c (decide_eq_true (congrArg V.int e))
    exact ⟨_, rfl, k, rfl, by omega, k1, x, C, hx, hC, q⟩
abbrev s_l_cell : Stmt := top 21
theorem sc_l_cell : FnScope ["script", "k"] ["script", "k"] (defScope s_l_cell) := ⟨rfl, rfl, rfl, by decide +kernel, rfl, by decide +kernel, by decide +kernel⟩
def spCell (K : PySem.W.Frag) : Sp := fun vs H Q _ => ∃ (a : Addr) (ns : List Int) (k : Int), vs = [.ref a, .int k] ∧ SqL K H a (ns.map V.int) ∧ 0 ≤ k ∧ ∀ n, Q (.int n) H
theorem ok_l_cell {f : Addr} {fd : FuncData} (F : Fun K "_law_cell" "_law_cell" s_l_cell f fd) (T : Txt K mg) : FnOk P w K mg base CX0 1 f fd ["script", "k"] (spCell K) := by
  refine F.ok sc_l_cell (fun vs H Q E h => ?_) (fun cdv A outer s H vs Q E hr h => ?_)
  · obtain ⟨a, ns, k, rfl, _⟩ := h
    rfl
  · obtain ⟨a, ns, k, rfl, hS, k0, q⟩ := h
    refine ⟨_, (pss_cons (ps_if (pt_cmpR op_lt (pv 1) (pe_callB (klen K) (by rfl) T.len_ PySem.boot_len (pa_cons (pv 0) pa_nil)) (nomark _))
        (pss_one (ps_ret (pe_ix (kixL K) (pv 0) (pv 1) (fun _ _ => rfl))))
        pss_nil)
      (pss_one (ps_ret pe_int))), ?_⟩
    refine ⟨_, rfl, _, rfl, a, _, rfl, .inl hS, _, _, rfl, rfl, _, rfl, ?_⟩
    refine ite2 (fun c => ?_) (fun c => q 0)
    have hk : k.toNat < ns.length := by
      have z := of_decide_eq_true c
      rw [List.length_map] at z
      omega
    have hat : atI (ns.map V.int) k = some (.int ns[k.toNat]) := by
      have h4 : (ns.map V.int)[k.toNat]? = some (.int ns[k.toNat]) := by rw [List.getElem?_map, List.getElem?_eq_getElem hk]; rfl
      have := atI_nat h4
      rwa [Int.toNat_of_nonneg k0] at this
    exact ⟨_, rfl, _, rfl, a, _, _, _, rfl, rfl, hS, hat, q _⟩
abbrev s_l_words : Stmt := top 29
theorem sc_l_words : FnScope ["words"] [] (defScope s_l_words) := ⟨rfl, rfl, rfl, by decide +kernel, rfl, by decide +kernel, by decide +kernel⟩
def spWords : Sp := fun vs H Q _ => vs = [] ∧ ∀ r H', Ex H H' → H' r = some (.lst (kindN.map V.str)) → Q (.ref r) H'
theorem ok_l_words {f : Addr} {fd : FuncData} (F : Fun K "_law_words" "_law_words" s_l_words f fd) (T : Txt K mg) : FnOk P w K mg base CX0 1 f fd [] spWords := by
  refine F.ok sc_l_words (fun vs H Q E h => ?_) (fun cdv A outer s H vs Q E hr h => ?_)
  · obtain ⟨rfl, _⟩ := h
    rfl
  · obtain ⟨rfl, q⟩ := h
    refine ⟨_, (pss_cons (ps_set (i := 0) sc_l_words.nd rfl (by first | exact Or.inl rfl | exact Or.inr rfl) (pe_lst pa_nil))
      (pss_cons (ps_set (i := 0) sc_l_words.nd rfl (by first | exact Or.inl rfl | exact Or.inr rfl) (pe_op op_cat (pv 0) (pe_lst (pa_cons pe_str (pa_cons pe_str (pa_cons pe_str (pa_cons pe_str (pa_cons pe_str (pa_cons pe_str pa_nil)))))))))
      (pss_cons (ps_set (i := 0) sc_l_words.nd rfl (by first | exact Or.inl rfl | exact Or.inr rfl) (pe_op op_cat (pv 0) (pe_lst (pa_cons pe_str (pa_cons pe_str (pa_cons pe_str (pa_cons pe_str (pa_cons pe_str (pa_cons pe_str pa_nil)))))))))
      (pss_cons (ps_set (i := 0) sc_l_words.nd rfl (by first | exact Or.inl rfl | exact Or.inr rfl) (pe_op op_cat (pv 0) (pe_lst (pa_cons pe_str (pa_cons pe_str (pa_cons pe_str (pa_cons pe_str (pa_cons pe_str (pa_cons pe_str pa_nil)))))))))
      (pss_one (ps_ret (pv 0))))))), ?_⟩
    rw [start_nrm (Nat.le_of_ble_eq_true rfl)]; dsimp only [startL]
    refine ⟨Nat.zero_le _, fun r0 hr0 => ?_⟩
    have f0 := Ex.new (o := .lst []) hr0
    have k0 : upd H r0 (.lst []) r0 = some (.lst []) := upd_same
    generalize upd H r0 (.lst []) = H0 at f0 k0 ⊢
    dsimp only [List.set]
    refine ⟨_, rfl, (by show 6 ≤ sizeLine; decide), fun p1 hp1 => ?_⟩
    have g1 := Ex.new (o := .lst [.str "BadLine", .str "BadFilm", .str "BadLayer", .str "DuplicateLayer", .str "UnknownLayer", .str "BadFrame"]) hp1
    have l1 : upd H0 p1 (.lst [.str "BadLine", .str "BadFilm", .str "BadLayer", .str "DuplicateLayer", .str "UnknownLayer", .str "BadFrame"]) p1 = some (.lst [.str "BadLine", .str "BadFilm", .str "BadLayer", .str "DuplicateLayer", .str "UnknownLayer", .str "BadFrame"]) := upd_same
    generalize upd H0 p1 (.lst [.str "BadLine", .str "BadFilm", .str "BadLayer", .str "DuplicateLayer", .str "UnknownLayer", .str "BadFrame"]) = G1 at g1 l1 ⊢
    refine ⟨r0, p1, _, _, rfl, rfl, g1 _ _ k0, l1, (by show 6 ≤ sizeLine; decide), fun r1 hr1 => ?_⟩
    have e1 := Ex.new (o := .lst ([] ++ [.str "BadLine", .str "BadFilm", .str "BadLayer", .str "DuplicateLayer", .str "UnknownLayer", .str "BadFrame"])) hr1
    have z1 : upd G1 r1 (.lst ([] ++ [.str "BadLine", .str "BadFilm", .str "BadLayer", .str "DuplicateLayer", .str "UnknownLayer", .str "BadFrame"])) r1 = some (.lst ([] ++ [.str "BadLine", .str "BadFilm", .str "BadLayer", .str "DuplicateLayer", .str "UnknownLayer", .str "BadFrame"])) := upd_same
    have f1 := f0.trans (g1.trans e1)
    clear e1 g1
    generalize upd G1 r1 (.lst ([] ++ [.str "BadLine", .str "BadFilm", .str "BadLayer", .str "DuplicateLayer", .str "UnknownLayer", .str "BadFrame"])) = H1 at f1 z1 ⊢
    have k1 : H1 r1 = some (.lst [.str "BadLine", .str "BadFilm", .str "BadLayer", .str "DuplicateLayer", .str "UnknownLayer", .str "BadFrame"]) := z1
    clear z1
    dsimp only [List.set]
    refine ⟨_, rfl, (by show 6 ≤ sizeLine; decide), fun p2 hp2 => ?_⟩
    have g2 := Ex.new (o := .lst [.str "BadClip", .str "BadCut", .str "BadEdit", .str "NothingToUndo", .str "NothingToRedo", .str "BadPaint"]) hp2
    have l2 : upd H1 p2 (.lst [.str "BadClip", .str "BadCut", .str "BadEdit", .str "NothingToUndo", .str "NothingToRedo", .str "BadPaint"]) p2 = some (.lst [.str "BadClip", .str "BadCut", .str "BadEdit", .str "NothingToUndo", .str "NothingToRedo", .str "BadPaint"]) := upd_same
    generalize upd H1 p2 (.lst [.str "BadClip", .str "BadCut", .str "BadEdit", .str "NothingToUndo", .str "NothingToRedo", .str "BadPaint"]) = G2 at g2 l2 ⊢
    refine ⟨r1, p2, _, _, rfl, rfl, g2 _ _ k1, l2, (by show 12 ≤ sizeLine; decide), fun r2 hr2 => ?_⟩
    have e2 := Ex.new (o := .lst ([.str "BadLine", .str "BadFilm", .str "BadLayer", .str "DuplicateLayer", .str "UnknownLayer", .str "BadFrame"] ++ [.str "BadClip", .str "BadCut", .str "BadEdit", .str "NothingToUndo", .str "NothingToRedo", .str "BadPaint"])) hr2
    have z2 : upd G2 r2 (.lst ([.str "BadLine", .str "BadFilm", .str "BadLayer", .str "DuplicateLayer", .str "UnknownLayer", .str "BadFrame"] ++ [.str "BadClip", .str "BadCut", .str "BadEdit", .str "NothingToUndo", .str "NothingToRedo", .str "BadPaint"])) r2 = some (.lst ([.str "BadLine", .str "BadFilm", .str "BadLayer", .str "DuplicateLayer", .str "UnknownLayer", .str "BadFrame"] ++ [.str "BadClip", .str "BadCut", .str "BadEdit", .str "NothingToUndo", .str "NothingToRedo", .str "BadPaint"])) := upd_same
    have f2 := f1.trans (g2.trans e2)
    clear e2 g2
    generalize upd G2 r2 (.lst ([.str "BadLine", .str "BadFilm", .str "BadLayer", .str "DuplicateLayer", .str "UnknownLayer", .str "BadFrame"] ++ [.str "BadClip", .str "BadCut", .str "BadEdit", .str "NothingToUndo", .str "NothingToRedo", .str "BadPaint"])) = H2 at f2 z2 ⊢
    have k2 : H2 r2 = some (.lst [.str "BadLine", .str "BadFilm", .str "BadLayer", .str "DuplicateLayer", .str "UnknownLayer", .str "BadFrame", .str "BadClip", .str "BadCut", .str "BadEdit", .str "NothingToUndo", .str "NothingToRedo", .str "BadPaint"]) := z2
    clear z2
    dsimp only [List.set]
    refine ⟨_, rfl, (by show 6 ≤ sizeLine; decide), fun p3 hp3 => ?_⟩
    have g3 := Ex.new (o := .lst [.str "BadPicture", .str "BadWhat", .str "BadMoves", .str "BadJoin", .str "BadPlace", .str "BadRectangle"]) hp3
    have l3 : upd H2 p3 (.lst [.str "BadPicture", .str "BadWhat", .str "BadMoves", .str "BadJoin", .str "BadPlace", .str "BadRectangle"]) p3 = some (.lst [.str "BadPicture", .str "BadWhat", .str "BadMoves", .str "BadJoin", .str "BadPlace", .str "BadRectangle"]) := upd_same
    generalize upd H2 p3 (.lst [.str "BadPicture", .str "BadWhat", .str "BadMoves", .str "BadJoin", .str "BadPlace", .str "BadRectangle"]) = G3 at g3 l3 ⊢
    refine ⟨r2, p3, _, _, rfl, rfl, g3 _ _ k2, l3, (by show 18 ≤ sizeLine; decide), fun r3 hr3 => ?_⟩
    have e3 := Ex.new (o := .lst ([.str "BadLine", .str "BadFilm", .str "BadLayer", .str "DuplicateLayer", .str "UnknownLayer", .str "BadFrame", .str "BadClip", .str "BadCut", .str "BadEdit", .str "NothingToUndo", .str "NothingToRedo", .str "BadPaint"] ++ [.str "BadPicture", .str "BadWhat", .str "BadMoves", .str "BadJoin", .str "BadPlace", .str "BadRectangle"])) hr3
    have z3 : upd G3 r3 (.lst ([.str "BadLine", .str "BadFilm", .str "BadLayer", .str "DuplicateLayer", .str "UnknownLayer", .str "BadFrame", .str "BadClip", .str "BadCut", .str "BadEdit", .str "NothingToUndo", .str "NothingToRedo", .str "BadPaint"] ++ [.str "BadPicture", .str "BadWhat", .str "BadMoves", .str "BadJoin", .str "BadPlace", .str "BadRectangle"])) r3 = some (.lst ([.str "BadLine", .str "BadFilm", .str "BadLayer", .str "DuplicateLayer", .str "UnknownLayer", .str "BadFrame", .str "BadClip", .str "BadCut", .str "BadEdit", .str "NothingToUndo", .str "NothingToRedo", .str "BadPaint"] ++ [.str "BadPicture", .str "BadWhat", .str "BadMoves", .str "BadJoin", .str "BadPlace", .str "BadRectangle"])) := upd_same
    have f3 := f2.trans (g3.trans e3)
    clear e3 g3
    generalize upd G3 r3 (.lst ([.str "BadLine", .str "BadFilm", .str "BadLayer", .str "DuplicateLayer", .str "UnknownLayer", .str "BadFrame", .str "BadClip", .str "BadCut", .str "BadEdit", .str "NothingToUndo", .str "NothingToRedo", .str "BadPaint"] ++ [.str "BadPicture", .str "BadWhat", .str "BadMoves", .str "BadJoin", .str "BadPlace", .str "BadRectangle"])) = H3 at f3 z3 ⊢
    have k3 : H3 r3 = some (.lst [.str "BadLine", .str "BadFilm", .str "BadLayer", .str "DuplicateLayer", .str "UnknownLayer", .str "BadFrame", .str "BadClip", .str "BadCut", .str "BadEdit", .str "NothingToUndo", .str "NothingToRedo", .str "BadPaint", .str "BadPicture", .str "BadWhat", .str "BadMoves", .str "BadJoin", .str "BadPlace", .str "BadRectangle"]) := z3
    clear z3
    dsimp only [List.set]
    exact ⟨_, rfl, q r3 H3 f3 k3⟩
abbrev s_l_kinds : Stmt := top 28
theorem sc_l_kinds : FnScope ["e", "kinds"] ["e"] (defScope s_l_kinds) := ⟨rfl, rfl, rfl, by decide +kernel, rfl, by decide +kernel, by decide +kernel⟩
def spKindsE (mg : Str → Option Value) : Sp := fun vs H Q _ => ∃ (a C d : Addr) (x : Str) (wd pl : V), vs = [.ref a] ∧ x ∈ errN ∧ mg x = some (.ref C) ∧ ErrAt H a C d wd pl ∧ ∀ r H', Ex H H' → H' r = some (.lst (kindN.map fun y => V.bl (x == y))) → Q (.ref r) H'
def spKindsP (mg : Str → Option Value) : Addr × Obj → Sp := fun p vs H Q _ => ∃ (C d : Addr) (x : Str) (fs : List (Str × V)), vs = [.ref p.1] ∧ x ∈ errN ∧ mg x = some (.ref C) ∧ Zc (.ref C) (some d) p.2 ∧ (∃ vs, p.2.data = .fields vs) ∧ H d = some (.xd fs) ∧
  ∀ r H', Ex H H' → H' r = some (.lst (kindN.map fun y => V.bl (x == y))) → Q (.ref r) H'
theorem ok_l_kinds {f : Addr} {fd : FuncData} (F : Fun K "_law_kinds" "_law_kinds" s_l_kinds f fd) (T : Txt K mg) (EA : ErrAll P w K mg base) : FnOk P w K mg base CX0 1 f fd ["e"] (spKindsE mg) := by
  refine F.ok sc_l_kinds (fun vs H Q E h => ?_) (fun cdv A outer s H vs Q E hr h => ?_)
  · obtain ⟨a, C, d, x, wd, pl, rfl, _⟩ := h
    rfl
  · obtain ⟨a, C, d, x, wd, pl, rfl, hx, hC, hE, q⟩ := h
    obtain ⟨EC, ic, _⟩ := EA.exc x hx C hC
    obtain ⟨E_BadLine, KX_BadLine⟩ := EA.kind "BadLine" (by decide)
    have m_BadLine : mg "BadLine" = some (.ref E_BadLine) := KX_BadLine.choose_spec.1.g
    obtain ⟨E_BadFilm, KX_BadFilm⟩ := EA.kind "BadFilm" (by decide)
    have m_BadFilm : mg "BadFilm" = some (.ref E_BadFilm) := KX_BadFilm.choose_spec.1.g
    obtain ⟨E_BadLayer, KX_BadLayer⟩ := EA.kind "BadLayer" (by decide)
    have m_BadLayer : mg "BadLayer" = some (.ref E_BadLayer) := KX_BadLayer.choose_spec.1.g
    obtain ⟨E_DuplicateLayer, KX_DuplicateLayer⟩ := EA.kind "DuplicateLayer" (by decide)
    have m_DuplicateLayer : mg "DuplicateLayer" = some (.ref E_DuplicateLayer) := KX_DuplicateLayer.choose_spec.1.g
    obtain ⟨E_UnknownLayer, KX_UnknownLayer⟩ := EA.kind "UnknownLayer" (by decide)
    have m_UnknownLayer : mg "UnknownLayer" = some (.ref E_UnknownLayer) := KX_UnknownLayer.choose_spec.1.g
    obtain ⟨E_BadFrame, KX_BadFrame⟩ := EA.kind "BadFrame" (by decide)
    have m_BadFrame : mg "BadFrame" = some (.ref E_BadFrame) := KX_BadFrame.choose_spec.1.g
    obtain ⟨E_BadClip, KX_BadClip⟩ := EA.kind "BadClip" (by decide)
    have m_BadClip : mg "BadClip" = some (.ref E_BadClip) := KX_BadClip.choose_spec.1.g
    obtain ⟨E_BadCut, KX_BadCut⟩ := EA.kind "BadCut" (by decide)
    have m_BadCut : mg "BadCut" = some (.ref E_BadCut) := KX_BadCut.choose_spec.1.g
    obtain ⟨E_BadEdit, KX_BadEdit⟩ := EA.kind "BadEdit" (by decide)
    have m_BadEdit : mg "BadEdit" = some (.ref E_BadEdit) := KX_BadEdit.choose_spec.1.g
    obtain ⟨E_NothingToUndo, KX_NothingToUndo⟩ := EA.kind "NothingToUndo" (by decide)
    have m_NothingToUndo : mg "NothingToUndo" = some (.ref E_NothingToUndo) := KX_NothingToUndo.choose_spec.1.g
    obtain ⟨E_NothingToRedo, KX_NothingToRedo⟩ := EA.kind "NothingToRedo" (by decide)
    have m_NothingToRedo : mg "NothingToRedo" = some (.ref E_NothingToRedo) := KX_NothingToRedo.choose_spec.1.g
    obtain ⟨E_BadPaint, KX_BadPaint⟩ := EA.kind "BadPaint" (by decide)
    have m_BadPaint : mg "BadPaint" = some (.ref E_BadPaint) := KX_BadPaint.choose_spec.1.g
    obtain ⟨E_BadPicture, KX_BadPicture⟩ := EA.kind "BadPicture" (by decide)
    have m_BadPicture : mg "BadPicture" = some (.ref E_BadPicture) := KX_BadPicture.choose_spec.1.g
    obtain ⟨E_BadWhat, KX_BadWhat⟩ := EA.kind "BadWhat" (by decide)
    have m_BadWhat : mg "BadWhat" = some (.ref E_BadWhat) := KX_BadWhat.choose_spec.1.g
    obtain ⟨E_BadMoves, KX_BadMoves⟩ := EA.kind "BadMoves" (by decide)
    have m_BadMoves : mg "BadMoves" = some (.ref E_BadMoves) := KX_BadMoves.choose_spec.1.g
    obtain ⟨E_BadJoin, KX_BadJoin⟩ := EA.kind "BadJoin" (by decide)
    have m_BadJoin : mg "BadJoin" = some (.ref E_BadJoin) := KX_BadJoin.choose_spec.1.g
    obtain ⟨E_BadPlace, KX_BadPlace⟩ := EA.kind "BadPlace" (by decide)
    have m_BadPlace : mg "BadPlace" = some (.ref E_BadPlace) := KX_BadPlace.choose_spec.1.g
    obtain ⟨E_BadRectangle, KX_BadRectangle⟩ := EA.kind "BadRectangle" (by decide)
    have m_BadRectangle : mg "BadRectangle" = some (.ref E_BadRectangle) := KX_BadRectangle.choose_spec.1.g
    have hW : ∀ (pins : List (Addr × Obj)) (σ : L2.St) (H' : Hp) (s' : Shared), Inv (cxOf CX0 P w K mg base ["e", "kinds"] "_law_kinds" (defScope s_l_kinds) f cdv A outer s H E).nox pins σ H' s' → ErrAt H' a C d wd pl → ∃ oe od, PySem.W.InstAt s'.heap a oe C od := fun pins σ H' s' J e => by
      obtain ⟨oe, od, _, z, _⟩ := e.inst (s := s') J.hok
      exact ⟨oe, _, z⟩
    have w0 : ∀ {H' : Hp}, Ex H H' → ErrAt H' a C d wd pl := fun e => hE.ex e
    refine ⟨_, (pss_cons (ps_set (i := 1) sc_l_kinds.nd rfl (by first | exact Or.inl rfl | exact Or.inr rfl) (pe_lst pa_nil))
      (pss_cons (ps_set (i := 1) sc_l_kinds.nd rfl (by first | exact Or.inl rfl | exact Or.inr rfl) (pe_op op_cat (pv 1) (pe_lst (pa_cons (pe_callB (call_isW EC ic hW K) (by rfl) T.isinstance_ bt_isinstance (pa_cons (pv 0) (pa_cons (pe_glob (v := .ref E_BadLine) rfl m_BadLine rfl) pa_nil))) (pa_cons (pe_callB (call_isW EC ic hW K) (by rfl) T.isinstance_ bt_isinstance (pa_cons (pv 0) (pa_cons (pe_glob (v := .ref E_BadFilm) rfl m_BadFilm rfl) pa_nil))) (pa_cons (pe_callB (call_isW EC ic hW K) (by rfl) T.isinstance_ bt_isinstance (pa_cons (pv 0) (pa_cons (pe_glob (v := .ref E_BadLayer) rfl m_BadLayer rfl) pa_nil))) (pa_cons (pe_callB (call_isW EC ic hW K) (by rfl) T.isinstance_ bt_isinstance (pa_cons (pv 0) (pa_cons (pe_glob (v := .ref E_DuplicateLayer) rfl m_DuplicateLayer rfl) pa_nil))) pa_nil)))))))
      (pss_cons (ps_set (i := 1) sc_l_kinds.nd rfl (by first | exact Or.inl rfl | exact Or.inr rfl) (pe_op op_cat (pv 1) (pe_lst (pa_cons (pe_callB (call_isW EC ic hW K) (by rfl) T.isinstance_ bt_isinstance (pa_cons (pv 0) (pa_cons (pe_glob (v := .ref E_UnknownLayer) rfl m_UnknownLayer rfl) pa_nil))) (pa_cons (pe_callB (call_isW EC ic hW K) (by rfl) T.isinstance_ bt_isinstance (pa_cons (pv 0) (pa_cons (pe_glob (v := .ref E_BadFrame) rfl m_BadFrame rfl) pa_nil))) (pa_cons (pe_callB (call_isW EC ic hW K) (by rfl) T.isinstance_ bt_isinstance (pa_cons (pv 0) (pa_cons (pe_glob (v := .ref E_BadClip) rfl m_BadClip rfl) pa_nil))) (pa_cons (pe_callB (call_isW EC ic hW K) (by rfl) T.isinstance_ bt_isinstance (pa_cons (pv 0) (pa_cons (pe_glob (v := .ref E_BadCut) rfl m_BadCut rfl) pa_nil))) pa_nil)))))))
      (pss_cons (ps_set (i := 1) sc_l_kinds.nd rfl (by first | exact Or.inl rfl | exact Or.inr rfl) (pe_op op_cat (pv 1) (pe_lst (pa_cons (pe_callB (call_isW EC ic hW K) (by rfl) T.isinstance_ bt_isinstance (pa_cons (pv 0) (pa_cons (pe_glob (v := .ref E_BadEdit) rfl m_BadEdit rfl) pa_nil))) (pa_cons (pe_callB (call_isW EC ic hW K) (by rfl) T.isinstance_ bt_isinstance (pa_cons (pv 0) (pa_cons (pe_glob (v := .ref E_NothingToUndo) rfl m_NothingToUndo rfl) pa_nil))) (pa_cons (pe_callB (call_isW EC ic hW K) (by rfl) T.isinstance_ bt_isinstance (pa_cons (pv 0) (pa_cons (pe_glob (v := .ref E_NothingToRedo) rfl m_NothingToRedo rfl) pa_nil))) (pa_cons (pe_callB (call_isW EC ic hW K) (by rfl) T.isinstance_ bt_isinstance (pa_cons (pv 0) (pa_cons (pe_glob (v := .ref E_BadPaint) rfl m_BadPaint rfl) pa_nil))) pa_nil)))))))
      (pss_cons (ps_set (i := 1) sc_l_kinds.nd rfl (by first | exact Or.inl rfl | exact Or.inr rfl) (pe_op op_cat (pv 1) (pe_lst (pa_cons (pe_callB (call_isW EC ic hW K) (by rfl) T.isinstance_ bt_isinstance (pa_cons (pv 0) (pa_cons (pe_glob (v := .ref E_BadPicture) rfl m_BadPicture rfl) pa_nil))) (pa_cons (pe_callB (call_isW EC ic hW K) (by rfl) T.isinstance_ bt_isinstance (pa_cons (pv 0) (pa_cons (pe_glob (v := .ref E_BadWhat) rfl m_BadWhat rfl) pa_nil))) (pa_cons (pe_callB (call_isW EC ic hW K) (by rfl) T.isinstance_ bt_isinstance (pa_cons (pv 0) (pa_cons (pe_glob (v := .ref E_BadMoves) rfl m_BadMoves rfl) pa_nil))) (pa_cons (pe_callB (call_isW EC ic hW K) (by rfl) T.isinstance_ bt_isinstance (pa_cons (pv 0) (pa_cons (pe_glob (v := .ref E_BadJoin) rfl m_BadJoin rfl) pa_nil))) pa_nil)))))))
      (pss_cons (ps_set (i := 1) sc_l_kinds.nd rfl (by first | exact Or.inl rfl | exact Or.inr rfl) (pe_op op_cat (pv 1) (pe_lst (pa_cons (pe_callB (call_isW EC ic hW K) (by rfl) T.isinstance_ bt_isinstance (pa_cons (pv 0) (pa_cons (pe_glob (v := .ref E_BadPlace) rfl m_BadPlace rfl) pa_nil))) (pa_cons (pe_callB (call_isW EC ic hW K) (by rfl) T.isinstance_ bt_isinstance (pa_cons (pv 0) (pa_cons (pe_glob (v := .ref E_BadRectangle) rfl m_BadRectangle rfl) pa_nil))) pa_nil)))))
      (pss_one (ps_ret (pv 1))))))))), ?_⟩
    rw [start_nrm (Nat.le_of_ble_eq_true rfl)]; dsimp only [startL]
    refine ⟨Nat.zero_le _, fun r0 hr0 => ?_⟩
    have f0 := Ex.new (o := .lst []) hr0
    have k0 : upd H r0 (.lst []) r0 = some (.lst []) := upd_same
    generalize upd H r0 (.lst []) = H0 at f0 k0 ⊢
    dsimp only [List.set]
    refine ⟨_, rfl, _, rfl, .ref E_BadLine, .ref E_BadLine, _, rfl, w0 f0, fun _ h => h, EA.mat x hx "BadLine" (by decide) C E_BadLine hC m_BadLine, _, rfl, .ref E_BadFilm, .ref E_BadFilm, _, rfl, w0 f0, fun _ h => h, EA.mat x hx "BadFilm" (by decide) C E_BadFilm hC m_BadFilm, _, rfl, .ref E_BadLayer, .ref E_BadLayer, _, rfl, w0 f0, fun _ h => h, EA.mat x hx "BadLayer" (by decide) C E_BadLayer hC m_BadLayer, _, rfl, .ref E_DuplicateLayer, .ref E_DuplicateLayer, _, rfl, w0 f0, fun _ h => h, EA.mat x hx "DuplicateLayer" (by decide) C E_DuplicateLayer hC m_DuplicateLayer, (by show 4 ≤ sizeLine; decide), fun p1 hp1 => ?_⟩
    have g1 := Ex.new (o := .lst [.bl (x == "BadLine"), .bl (x == "BadFilm"), .bl (x == "BadLayer"), .bl (x == "DuplicateLayer")]) hp1
    have l1 : upd H0 p1 (.lst [.bl (x == "BadLine"), .bl (x == "BadFilm"), .bl (x == "BadLayer"), .bl (x == "DuplicateLayer")]) p1 = some (.lst [.bl (x == "BadLine"), .bl (x == "BadFilm"), .bl (x == "BadLayer"), .bl (x == "DuplicateLayer")]) := upd_same
    generalize upd H0 p1 (.lst [.bl (x == "BadLine"), .bl (x == "BadFilm"), .bl (x == "BadLayer"), .bl (x == "DuplicateLayer")]) = G1 at g1 l1 ⊢
    refine ⟨r0, p1, _, _, rfl, rfl, g1 _ _ k0, l1, (by show 4 ≤ sizeLine; decide), fun r1 hr1 => ?_⟩
    have e1 := Ex.new (o := .lst ([] ++ [.bl (x == "BadLine"), .bl (x == "BadFilm"), .bl (x == "BadLayer"), .bl (x == "DuplicateLayer")])) hr1
    have z1 : upd G1 r1 (.lst ([] ++ [.bl (x == "BadLine"), .bl (x == "BadFilm"), .bl (x == "BadLayer"), .bl (x == "DuplicateLayer")])) r1 = some (.lst ([] ++ [.bl (x == "BadLine"), .bl (x == "BadFilm"), .bl (x == "BadLayer"), .bl (x == "DuplicateLayer")])) := upd_same
    have f1 := f0.trans (g1.trans e1)
    clear e1 g1
    generalize upd G1 r1 (.lst ([] ++ [.bl (x == "BadLine"), .bl (x == "BadFilm"), .bl (x == "BadLayer"), .bl (x == "DuplicateLayer")])) = H1 at f1 z1 ⊢
    have k1 : H1 r1 = some (.lst [.bl (x == "BadLine"), .bl (x == "BadFilm"), .bl (x == "BadLayer"), .bl (x == "DuplicateLayer")]) := z1
    clear z1
    dsimp only [List.set]
    refine ⟨_, rfl, _, rfl, .ref E_UnknownLayer, .ref E_UnknownLayer, _, rfl, w0 f1, fun _ h => h, EA.mat x hx "UnknownLayer" (by decide) C E_UnknownLayer hC m_UnknownLayer, _, rfl, .ref E_BadFrame, .ref E_BadFrame, _, rfl, w0 f1, fun _ h => h, EA.mat x hx "BadFrame" (by decide) C E_BadFrame hC m_BadFrame, _, rfl, .ref E_BadClip, .ref E_BadClip, _, rfl, w0 f1, fun _ h => h, EA.mat x hx "BadClip" (by decide) C E_BadClip hC m_BadClip, _, rfl, .ref E_BadCut, .ref E_BadCut, _, rfl, w0 f1, fun _ h => h, EA.mat x hx "BadCut" (by decide) C E_BadCut hC m_BadCut, (by show 4 ≤ sizeLine; decide), fun p2 hp2 => ?_⟩
    have g2 := Ex.new (o := .lst [.bl (x == "UnknownLayer"), .bl (x == "BadFrame"), .bl (x == "BadClip"), .bl (x == "BadCut")]) hp2
    have l2 : upd H1 p2 (.lst [.bl (x == "UnknownLayer"), .bl (x == "BadFrame"), .bl (x == "BadClip"), .bl (x == "BadCut")]) p2 = some (.lst [.bl (x == "UnknownLayer"), .bl (x == "BadFrame"), .bl (x == "BadClip"), .bl (x == "BadCut")]) := upd_same
    generalize upd H1 p2 (.lst [.bl (x == "UnknownLayer"), .bl (x == "BadFrame"), .bl (x == "BadClip"), .bl (x == "BadCut")]) = G2 at g2 l2 ⊢
    refine ⟨r1, p2, _, _, rfl, rfl, g2 _ _ k1, l2, (by show 8 ≤ sizeLine; decide), fun r2 hr2 => ?_⟩
    have e2 := Ex.new (o := .lst ([.bl (x == "BadLine"), .bl (x == "BadFilm"), .bl (x == "BadLayer"), .bl (x == "DuplicateLayer")] ++ [.bl (x == "UnknownLayer"), .bl (x == "BadFrame"), .bl (x == "BadClip"), .bl (x == "BadCut")])) hr2
    have z2 : upd G2 r2 (.lst ([.bl (x == "BadLine"), .bl (x == "BadFilm"), .bl (x == "BadLayer"), .bl (x == "DuplicateLayer")] ++ [.bl (x == "UnknownLayer"), .bl (x == "BadFrame"), .bl (x == "BadClip"), .bl (x == "BadCut")])) r2 = some (.lst ([.bl (x == "BadLine"), .bl (x == "BadFilm"), .bl (x == "BadLayer"), .bl (x == "DuplicateLayer")] ++ [.bl (x == "UnknownLayer"), .bl (x == "BadFrame"), .bl (x == "BadClip"), .bl (x == "BadCut")])) := upd_same
    have f2 := f1.trans (g2.trans e2)
    clear e2 g2
    generalize upd G2 r2 (.lst ([.bl (x == "BadLine"), .bl (x == "BadFilm"), .bl (x == "BadLayer"), .bl (x == "DuplicateLayer")] ++ [.bl (x == "UnknownLayer"), .bl (x == "BadFrame"), .bl (x == "BadClip"), .bl (x == "BadCut")])) = H2 at f2 z2 ⊢
    have k2 : H2 r2 = some (.lst [.bl (x == "BadLine"), .bl (x == "BadFilm"), .bl (x == "BadLayer"), .bl (x == "DuplicateLayer"), .bl (x == "UnknownLayer"), .bl (x == "BadFrame"), .bl (x == "BadClip"), .bl (x == "BadCut")]) := z2
    clear z2
    dsimp only [List.set]
    refine ⟨_, rfl, _, rfl, .ref E_BadEdit, .ref E_BadEdit, _, rfl, w0 f2, fun _ h => h, EA.mat x hx "BadEdit" (by decide) C E_BadEdit hC m_BadEdit, _, rfl, .ref E_NothingToUndo, .ref E_NothingToUndo, _, rfl, w0 f2, fun _ h => h, EA.mat x hx "NothingToUndo" (by decide) C E_NothingToUndo hC m_NothingToUndo, _, rfl, .ref E_NothingToRedo, .ref E_NothingToRedo, _, rfl, w0 f2, fun _ h => h, EA.mat x hx "NothingToRedo" (by decide) C E_NothingToRedo hC m_NothingToRedo, _, rfl, .ref E_BadPaint, .ref E_BadPaint, _, rfl, w0 f2, fun _ h => h, EA.mat x hx "BadPaint" (by decide) C E_BadPaint hC m_BadPaint, (by show 4 ≤ sizeLine; decide), fun p3 hp3 => ?_⟩
    have g3 := Ex.new (o := .lst [.bl (x == "BadEdit"), .bl (x == "NothingToUndo"), .bl (x == "NothingToRedo"), .bl (x == "BadPaint")]) hp3
    have l3 : upd H2 p3 (.lst [.bl (x == "BadEdit"), .bl (x == "NothingToUndo"), .bl (x == "NothingToRedo"), .bl (x == "BadPaint")]) p3 = some (.lst [.bl (x == "BadEdit"), .bl (x == "NothingToUndo"), .bl (x == "NothingToRedo"), .bl (x == "BadPaint")]) := upd_same
    generalize upd H2 p3 (.lst [.bl (x == "BadEdit"), .bl (x == "NothingToUndo"), .bl (x == "NothingToRedo"), .bl (x == "BadPaint")]) = G3 at g3 l3 ⊢
    refine ⟨r2, p3, _, _, rfl, rfl, g3 _ _ k2, l3, (by show 12 ≤ sizeLine; decide), fun r3 hr3 => ?_⟩
    have e3 := Ex.new (o := .lst ([.bl (x == "BadLine"), .bl (x == "BadFilm"), .bl (x == "BadLayer"), .bl (x == "DuplicateLayer"), .bl (x == "UnknownLayer"), .bl (x == "BadFrame"), .bl (x == "BadClip"), .bl (x == "BadCut")] ++ [.bl (x == "BadEdit"), .bl (x == "NothingToUndo"), .bl (x == "NothingToRedo"), .bl (x == "BadPaint")])) hr3
    have z3 : upd G3 r3 (.lst ([.bl (x == "BadLine"), .bl (x == "BadFilm"), .bl (x == "BadLayer"), .bl (x == "DuplicateLayer"), .bl (x == "UnknownLayer"), .bl (x == "BadFrame"), .bl (x == "BadClip"), .bl (x == "BadCut")] ++ [.bl (x == "BadEdit"), .bl (x == "NothingToUndo"), .bl (x == "NothingToRedo"), .bl (x == "BadPaint")])) r3 = some (.lst ([.bl (x == "BadLine"), .bl (x == "BadFilm"), .bl (x == "BadLayer"), .bl (x == "DuplicateLayer"), .bl (x == "UnknownLayer"), .bl (x == "BadFrame"), .bl (x == "BadClip"), .bl (x == "BadCut")] ++ [.bl (x == "BadEdit"), .bl (x == "NothingToUndo"), .bl (x == "NothingToRedo"), .bl (x == "BadPaint")])) := upd_same
    have f3 := f2.trans (g3.trans e3)
    clear e3 g3
    generalize upd G3 r3 (.lst ([.bl (x == "BadLine"), .bl (x == "BadFilm"), .bl (x == "BadLayer"), .bl (x == "DuplicateLayer"), .bl (x == "UnknownLayer"), .bl (x == "BadFrame"), .bl (x == "BadClip"), .bl (x == "BadCut")] ++ [.bl (x == "BadEdit"), .bl (x == "NothingToUndo"), .bl (x == "NothingToRedo"), .bl (x == "BadPaint")])) = H3 at f3 z3 ⊢
    have k3 : H3 r3 = some (.lst [.bl (x == "BadLine"), .bl (x == "BadFilm"), .bl (x == "BadLayer"), .bl (x == "DuplicateLayer"), .bl (x == "UnknownLayer"), .bl (x == "BadFrame"), .bl (x == "BadClip"), .bl (x == "BadCut"), .bl (x == "BadEdit"), .bl (x == "NothingToUndo"), .bl (x == "NothingToRedo"), .bl (x == "BadPaint")]) := z3
    clear z3
    dsimp only [List.set]
    refine ⟨_, rfl, _, rfl, .ref E_BadPicture, .ref E_BadPicture, _, rfl, w0 f3, fun _ h => h, EA.mat x hx "BadPicture" (by decide) C E_BadPicture hC m_BadPicture, _, rfl, .ref E_BadWhat, .ref E_BadWhat, _, rfl, w0 f3, fun _ h => h, EA.mat x hx "BadWhat" (by decide) C E_BadWhat hC m_BadWhat, _, rfl, .ref E_BadMoves, .ref E_BadMoves, _, rfl, w0 f3, fun _ h => h, EA.mat x hx "BadMoves" (by decide) C E_BadMoves hC m_BadMoves, _, rfl, .ref E_BadJoin, .ref E_BadJoin, _, rfl, w0 f3, fun _ h => h, EA.mat x hx "BadJoin" (by decide) C E_BadJoin hC m_BadJoin, (by show 4 ≤ sizeLine; decide), fun p4 hp4 => ?_⟩
    have g4 := Ex.new (o := .lst [.bl (x == "BadPicture"), .bl (x == "BadWhat"), .bl (x == "BadMoves"), .bl (x == "BadJoin")]) hp4
    have l4 : upd H3 p4 (.lst [.bl (x == "BadPicture"), .bl (x == "BadWhat"), .bl (x == "BadMoves"), .bl (x == "BadJoin")]) p4 = some (.lst [.bl (x == "BadPicture"), .bl (x == "BadWhat"), .bl (x == "BadMoves"), .bl (x == "BadJoin")]) := upd_same
    generalize upd H3 p4 (.lst [.bl (x == "BadPicture"), .bl (x == "BadWhat"), .bl (x == "BadMoves"), .bl (x == "BadJoin")]) = G4 at g4 l4 ⊢
    refine ⟨r3, p4, _, _, rfl, rfl, g4 _ _ k3, l4, (by show 16 ≤ sizeLine; decide), fun r4 hr4 => ?_⟩
    have e4 := Ex.new (o := .lst ([.bl (x == "BadLine"), .bl (x == "BadFilm"), .bl (x == "BadLayer"), .bl (x == "DuplicateLayer"), .bl (x == "UnknownLayer"), .bl (x == "BadFrame"), .bl (x == "BadClip"), .bl (x == "BadCut"), .bl (x == "BadEdit"), .bl (x == "NothingToUndo"), .bl (x == "NothingToRedo"), .bl (x == "BadPaint")] ++ [.bl (x == "BadPicture"), .bl (x == "BadWhat"), .bl (x == "BadMoves"), .bl (x == "BadJoin")])) hr4
    have z4 : upd G4 r4 (.lst ([.bl (x == "BadLine"), .bl (x == "BadFilm"), .bl (x == "BadLayer"), .bl (x == "DuplicateLayer"), .bl (x == "UnknownLayer"), .bl (x == "BadFrame"), .bl (x == "BadClip"), .bl (x == "BadCut"), .bl (x == "BadEdit"), .bl (x == "NothingToUndo"), .bl (x == "NothingToRedo"), .bl (x == "BadPaint")] ++ [.bl (x == "BadPicture"), .bl (x == "BadWhat"), .bl (x == "BadMoves"), .bl (x == "BadJoin")])) r4 = some (.lst ([.bl (x == "BadLine"), .bl (x == "BadFilm"), .bl (x == "BadLayer"), .bl (x == "DuplicateLayer"), .bl (x == "UnknownLayer"), .bl (x == "BadFrame"), .bl (x == "BadClip"), .bl (x == "BadCut"), .bl (x == "BadEdit"), .bl (x == "NothingToUndo"), .bl (x == "NothingToRedo"), .bl (x == "BadPaint")] ++ [.bl (x == "BadPicture"), .bl (x == "BadWhat"), .bl (x == "BadMoves"), .bl (x == "BadJoin")])) := upd_same
    have f4 := f3.trans (g4.trans e4)
    clear e4 g4
    generalize upd G4 r4 (.lst ([.bl (x == "BadLine"), .bl (x == "BadFilm"), .bl (x == "BadLayer"), .bl (x == "DuplicateLayer"), .bl (x == "UnknownLayer"), .bl (x == "BadFrame"), .bl (x == "BadClip"), .bl (x == "BadCut"), .bl (x == "BadEdit"), .bl (x == "NothingToUndo"), .bl (x == "NothingToRedo"), .bl (x == "BadPaint")] ++ [.bl (x == "BadPicture"), .bl (x == "BadWhat"), .bl (x == "BadMoves"), .bl (x == "BadJoin")])) = H4 at f4 z4 ⊢
    have k4 : H4 r4 = some (.lst [.bl (x == "BadLine"), .bl (x == "BadFilm"), .bl (x == "BadLayer"), .bl (x == "DuplicateLayer"), .bl (x == "UnknownLayer"), .bl (x == "BadFrame"), .bl (x == "BadClip"), .bl (x == "BadCut"), .bl (x == "BadEdit"), .bl (x == "NothingToUndo"), .bl (x == "NothingToRedo"), .bl (x == "BadPaint"), .bl (x == "BadPicture"), .bl (x == "BadWhat"), .bl (x == "BadMoves"), .bl (x == "BadJoin")]) := z4
    clear z4
    dsimp only [List.set]
    refine ⟨_, rfl, _, rfl, .ref E_BadPlace, .ref E_BadPlace, _, rfl, w0 f4, fun _ h => h, EA.mat x hx "BadPlace" (by decide) C E_BadPlace hC m_BadPlace, _, rfl, .ref E_BadRectangle, .ref E_BadRectangle, _, rfl, w0 f4, fun _ h => h, EA.mat x hx "BadRectangle" (by decide) C E_BadRectangle hC m_BadRectangle, (by show 2 ≤ sizeLine; decide), fun p5 hp5 => ?_⟩
    have g5 := Ex.new (o := .lst [.bl (x == "BadPlace"), .bl (x == "BadRectangle")]) hp5
    have l5 : upd H4 p5 (.lst [.bl (x == "BadPlace"), .bl (x == "BadRectangle")]) p5 = some (.lst [.bl (x == "BadPlace"), .bl (x == "BadRectangle")]) := upd_same
    generalize upd H4 p5 (.lst [.bl (x == "BadPlace"), .bl (x == "BadRectangle")]) = G5 at g5 l5 ⊢
    refine ⟨r4, p5, _, _, rfl, rfl, g5 _ _ k4, l5, (by show 18 ≤ sizeLine; decide), fun r5 hr5 => ?_⟩
    have e5 := Ex.new (o := .lst ([.bl (x == "BadLine"), .bl (x == "BadFilm"), .bl (x == "BadLayer"), .bl (x == "DuplicateLayer"), .bl (x == "UnknownLayer"), .bl (x == "BadFrame"), .bl (x == "BadClip"), .bl (x == "BadCut"), .bl (x == "BadEdit"), .bl (x == "NothingToUndo"), .bl (x == "NothingToRedo"), .bl (x == "BadPaint"), .bl (x == "BadPicture"), .bl (x == "BadWhat"), .bl (x == "BadMoves"), .bl (x == "BadJoin")] ++ [.bl (x == "BadPlace"), .bl (x == "BadRectangle")])) hr5
    have z5 : upd G5 r5 (.lst ([.bl (x == "BadLine"), .bl (x == "BadFilm"), .bl (x == "BadLayer"), .bl (x == "DuplicateLayer"), .bl (x == "UnknownLayer"), .bl (x == "BadFrame"), .bl (x == "BadClip"), .bl (x == "BadCut"), .bl (x == "BadEdit"), .bl (x == "NothingToUndo"), .bl (x == "NothingToRedo"), .bl (x == "BadPaint"), .bl (x == "BadPicture"), .bl (x == "BadWhat"), .bl (x == "BadMoves"), .bl (x == "BadJoin")] ++ [.bl (x == "BadPlace"), .bl (x == "BadRectangle")])) r5 = some (.lst ([.bl (x == "BadLine"), .bl (x == "BadFilm"), .bl (x == "BadLayer"), .bl (x == "DuplicateLayer"), .bl (x == "UnknownLayer"), .bl (x == "BadFrame"), .bl (x == "BadClip"), .bl (x == "BadCut"), .bl (x == "BadEdit"), .bl (x == "NothingToUndo"), .bl (x == "NothingToRedo"), .bl (x == "BadPaint"), .bl (x == "BadPicture"), .bl (x == "BadWhat"), .bl (x == "BadMoves"), .bl (x == "BadJoin")] ++ [.bl (x == "BadPlace"), .bl (x == "BadRectangle")])) := upd_same
    have f5 := f4.trans (g5.trans e5)
    clear e5 g5
    generalize upd G5 r5 (.lst ([.bl (x == "BadLine"), .bl (x == "BadFilm"), .bl (x == "BadLayer"), .bl (x == "DuplicateLayer"), .bl (x == "UnknownLayer"), .bl (x == "BadFrame"), .bl (x == "BadClip"), .bl (x == "BadCut"), .bl (x == "BadEdit"), .bl (x == "NothingToUndo"), .bl (x == "NothingToRedo"), .bl (x == "BadPaint"), .bl (x == "BadPicture"), .bl (x == "BadWhat"), .bl (x == "BadMoves"), .bl (x == "BadJoin")] ++ [.bl (x == "BadPlace"), .bl (x == "BadRectangle")])) = H5 at f5 z5 ⊢
    have k5 : H5 r5 = some (.lst [.bl (x == "BadLine"), .bl (x == "BadFilm"), .bl (x == "BadLayer"), .bl (x == "DuplicateLayer"), .bl (x == "UnknownLayer"), .bl (x == "BadFrame"), .bl (x == "BadClip"), .bl (x == "BadCut"), .bl (x == "BadEdit"), .bl (x == "NothingToUndo"), .bl (x == "NothingToRedo"), .bl (x == "BadPaint"), .bl (x == "BadPicture"), .bl (x == "BadWhat"), .bl (x == "BadMoves"), .bl (x == "BadJoin"), .bl (x == "BadPlace"), .bl (x == "BadRectangle")]) := z5
    clear z5
    dsimp only [List.set]
    exact ⟨_, rfl, q r5 H5 f5 k5⟩
theorem okP_l_kinds {f : Addr} {fd : FuncData} (F : Fun K "_law_kinds" "_law_kinds" s_l_kinds f fd) (T : Txt K mg) (EA : ErrAll P w K mg base) : FnP P w K mg base CX0 1 f fd ["e"] (spKindsP mg) := by
  refine Od.Fun.okP F sc_l_kinds (fun p vs H Q E h => ?_) (fun cdv A outer s H vs Q E p hr h => ?_)
  · obtain ⟨C, d, x, fs, rfl, _⟩ := h
    rfl
  · obtain ⟨C, d, x, fs, rfl, hx, hC, hz, hf, hd, q⟩ := h
    obtain ⟨EC, ic, _⟩ := EA.exc x hx C hC
    obtain ⟨E_BadLine, KX_BadLine⟩ := EA.kind "BadLine" (by decide)
    have m_BadLine : mg "BadLine" = some (.ref E_BadLine) := KX_BadLine.choose_spec.1.g
    obtain ⟨E_BadFilm, KX_BadFilm⟩ := EA.kind "BadFilm" (by decide)
    have m_BadFilm : mg "BadFilm" = some (.ref E_BadFilm) := KX_BadFilm.choose_spec.1.g
    obtain ⟨E_BadLayer, KX_BadLayer⟩ := EA.kind "BadLayer" (by decide)
    have m_BadLayer : mg "BadLayer" = some (.ref E_BadLayer) := KX_BadLayer.choose_spec.1.g
    obtain ⟨E_DuplicateLayer, KX_DuplicateLayer⟩ := EA.kind "DuplicateLayer" (by decide)
    have m_DuplicateLayer : mg "DuplicateLayer" = some (.ref E_DuplicateLayer) := KX_DuplicateLayer.choose_spec.1.g
    obtain ⟨E_UnknownLayer, KX_UnknownLayer⟩ := EA.kind "UnknownLayer" (by decide)
    have m_UnknownLayer : mg "UnknownLayer" = some (.ref E_UnknownLayer) := KX_UnknownLayer.choose_spec.1.g
    obtain ⟨E_BadFrame, KX_BadFrame⟩ := EA.kind "BadFrame" (by decide)
    have m_BadFrame : mg "BadFrame" = some (.ref E_BadFrame) := KX_BadFrame.choose_spec.1.g
    obtain ⟨E_BadClip, KX_BadClip⟩ := EA.kind "BadClip" (by decide)
    have m_BadClip : mg "BadClip" = some (.ref E_BadClip) := KX_BadClip.choose_spec.1.g
    obtain ⟨E_BadCut, KX_BadCut⟩ := EA.kind "BadCut" (by decide)
    have m_BadCut : mg "BadCut" = some (.ref E_BadCut) := KX_BadCut.choose_spec.1.g
    obtain ⟨E_BadEdit, KX_BadEdit⟩ := EA.kind "BadEdit" (by decide)
    have m_BadEdit : mg "BadEdit" = some (.ref E_BadEdit) := KX_BadEdit.choose_spec.1.g
    obtain ⟨E_NothingToUndo, KX_NothingToUndo⟩ := EA.kind "NothingToUndo" (by decide)
    have m_NothingToUndo : mg "NothingToUndo" = some (.ref E_NothingToUndo) := KX_NothingToUndo.choose_spec.1.g
    obtain ⟨E_NothingToRedo, KX_NothingToRedo⟩ := EA.kind "NothingToRedo" (by decide)
    have m_NothingToRedo : mg "NothingToRedo" = some (.ref E_NothingToRedo) := KX_NothingToRedo.choose_spec.1.g
    obtain ⟨E_BadPaint, KX_BadPaint⟩ := EA.kind "BadPaint" (by decide)
    have m_BadPaint : mg "BadPaint" = some (.ref E_BadPaint) := KX_BadPaint.choose_spec.1.g
    obtain ⟨E_BadPicture, KX_BadPicture⟩ := EA.kind "BadPicture" (by decide)
    have m_BadPicture : mg "BadPicture" = some (.ref E_BadPicture) := KX_BadPicture.choose_spec.1.g
    obtain ⟨E_BadWhat, KX_BadWhat⟩ := EA.kind "BadWhat" (by decide)
    have m_BadWhat : mg "BadWhat" = some (.ref E_BadWhat) := KX_BadWhat.choose_spec.1.g
    obtain ⟨E_BadMoves, KX_BadMoves⟩ := EA.kind "BadMoves" (by decide)
    have m_BadMoves : mg "BadMoves" = some (.ref E_BadMoves) := KX_BadMoves.choose_spec.1.g
    obtain ⟨E_BadJoin, KX_BadJoin⟩ := EA.kind "BadJoin" (by decide)
    have m_BadJoin : mg "BadJoin" = some (.ref E_BadJoin) := KX_BadJoin.choose_spec.1.g
    obtain ⟨E_BadPlace, KX_BadPlace⟩ := EA.kind "BadPlace" (by decide)
    have m_BadPlace : mg "BadPlace" = some (.ref E_BadPlace) := KX_BadPlace.choose_spec.1.g
    obtain ⟨E_BadRectangle, KX_BadRectangle⟩ := EA.kind "BadRectangle" (by decide)
    have m_BadRectangle : mg "BadRectangle" = some (.ref E_BadRectangle) := KX_BadRectangle.choose_spec.1.g
    have hW : ∀ (pins : List (Addr × Obj)) (σ : L2.St) (H' : Hp) (s' : Shared), Inv (L2H.cxH CX0 P w K mg base ["e", "kinds"] "_law_kinds" (defScope s_l_kinds) f cdv A outer s H E p) pins σ H' s' → H' d = some (.xd fs) → ∃ oe od, PySem.W.InstAt s'.heap p.1 oe C od := fun pins σ H' s' J e => by
      obtain ⟨look, _⟩ := J.pin p (List.mem_append_left _ List.mem_cons_self)
      obtain ⟨vs, dat⟩ := hf
      have isD : ObjOk P w H' s'.heap d (.xd fs) := J.hok d _ e
      obtain ⟨mA, ns, _⟩ := isD
      obtain ⟨od, lookD, _⟩ := lookIn_ns ns
      exact ⟨p.2, some od, look, hz.1, by unfold PySem.W.notCls; rw [dat] <;> rfl, by rw [hz.2]; exact lookD⟩
    have w0 : ∀ {H' : Hp}, Ex H H' → H' d = some (.xd fs) := fun e => e _ _ hd
    refine ⟨_, (pss_cons (ps_set (i := 1) sc_l_kinds.nd rfl (by first | exact Or.inl rfl | exact Or.inr rfl) (pe_lst pa_nil))
      (pss_cons (ps_set (i := 1) sc_l_kinds.nd rfl (by first | exact Or.inl rfl | exact Or.inr rfl) (pe_op op_cat (pv 1) (pe_lst (pa_cons (pe_callB (call_isW EC ic hW K) (by rfl) T.isinstance_ bt_isinstance (pa_cons (pv 0) (pa_cons (pe_glob (v := .ref E_BadLine) rfl m_BadLine rfl) pa_nil))) (pa_cons (pe_callB (call_isW EC ic hW K) (by rfl) T.isinstance_ bt_isinstance (pa_cons (pv 0) (pa_cons (pe_glob (v := .ref E_BadFilm) rfl m_BadFilm rfl) pa_nil))) (pa_cons (pe_callB (call_isW EC ic hW K) (by rfl) T.isinstance_ bt_isinstance (pa_cons (pv 0) (pa_cons (pe_glob (v := .ref E_BadLayer) rfl m_BadLayer rfl) pa_nil))) (pa_cons (pe_callB (call_isW EC ic hW K) (by rfl) T.isinstance_ bt_isinstance (pa_cons (pv 0) (pa_cons (pe_glob (v := .ref E_DuplicateLayer) rfl m_DuplicateLayer rfl) pa_nil))) pa_nil)))))))
      (pss_cons (ps_set (i := 1) sc_l_kinds.nd rfl (by first | exact Or.inl rfl | exact Or.inr rfl) (pe_op op_cat (pv 1) (pe_lst (pa_cons (pe_callB (call_isW EC ic hW K) (by rfl) T.isinstance_ bt_isinstance (pa_cons (pv 0) (pa_cons (pe_glob (v := .ref E_UnknownLayer) rfl m_UnknownLayer rfl) pa_nil))) (pa_cons (pe_callB (call_isW EC ic hW K) (by rfl) T.isinstance_ bt_isinstance (pa_cons (pv 0) (pa_cons (pe_glob (v := .ref E_BadFrame) rfl m_BadFrame rfl) pa_nil))) (pa_cons (pe_callB (call_isW EC ic hW K) (by rfl) T.isinstance_ bt_isinstance (pa_cons (pv 0) (pa_cons (pe_glob (v := .ref E_BadClip) rfl m_BadClip rfl) pa_nil))) (pa_cons (pe_callB (call_isW EC ic hW K) (by rfl) T.isinstance_ bt_isinstance (pa_cons (pv 0) (pa_cons (pe_glob (v := .ref E_BadCut) rfl m_BadCut rfl) pa_nil))) pa_nil)))))))
      (pss_cons (ps_set (i := 1) sc_l_kinds.nd rfl (by first | exact Or.inl rfl | exact Or.inr rfl) (pe_op op_cat (pv 1) (pe_lst (pa_cons (pe_callB (call_isW EC ic hW K) (by rfl) T.isinstance_ bt_isinstance (pa_cons (pv 0) (pa_cons (pe_glob (v := .ref E_BadEdit) rfl m_BadEdit rfl) pa_nil))) (pa_cons (pe_callB (call_isW EC ic hW K) (by rfl) T.isinstance_ bt_isinstance (pa_cons (pv 0) (pa_cons (pe_glob (v := .ref E_NothingToUndo) rfl m_NothingToUndo rfl) pa_nil))) (pa_cons (pe_callB (call_isW EC ic hW K) (by rfl) T.isinstance_ bt_isinstance (pa_cons (pv 0) (pa_cons (pe_glob (v := .ref E_NothingToRedo) rfl m_NothingToRedo rfl) pa_nil))) (pa_cons (pe_callB (call_isW EC ic hW K) (by rfl) T.isinstance_ bt_isinstance (pa_cons (pv 0) (pa_cons (pe_glob (v := .ref E_BadPaint) rfl m_BadPaint rfl) pa_nil))) pa_nil)))))))
      (pss_cons (ps_set (i := 1) sc_l_kinds.nd rfl (by first | exact Or.inl rfl | exact Or.inr rfl) (pe_op op_cat (pv 1) (pe_lst (pa_cons (pe_callB (call_isW EC ic hW K) (by rfl) T.isinstance_ bt_isinstance (pa_cons (pv 0) (pa_cons (pe_glob (v := .ref E_BadPicture) rfl m_BadPicture rfl) pa_nil))) (pa_cons (pe_callB (call_isW EC ic hW K) (by rfl) T.isinstance_ bt_isinstance (pa_cons (pv 0) (pa_cons (pe_glob (v := .ref E_BadWhat) rfl m_BadWhat rfl) pa_nil))) (pa_cons (pe_callB (call_isW EC ic hW K) (by rfl) T.isinstance_ bt_isinstance (pa_cons (pv 0) (pa_cons (pe_glob (v := .ref E_BadMoves) rfl m_BadMoves rfl) pa_nil))) (pa_cons (pe_callB (call_isW EC ic hW K) (by rfl) T.isinstance_ bt_isinstance (pa_cons (pv 0) (pa_cons (pe_glob (v := .ref E_BadJoin) rfl m_BadJoin rfl) pa_nil))) pa_nil)))))))
      (pss_cons (ps_set (i := 1) sc_l_kinds.nd rfl (by first | exact Or.inl rfl | exact Or.inr rfl) (pe_op op_cat (pv 1) (pe_lst (pa_cons (pe_callB (call_isW EC ic hW K) (by rfl) T.isinstance_ bt_isinstance (pa_cons (pv 0) (pa_cons (pe_glob (v := .ref E_BadPlace) rfl m_BadPlace rfl) pa_nil))) (pa_cons (pe_callB (call_isW EC ic hW K) (by rfl) T.isinstance_ bt_isinstance (pa_cons (pv 0) (pa_cons (pe_glob (v := .ref E_BadRectangle) rfl m_BadRectangle rfl) pa_nil))) pa_nil)))))
      (pss_one (ps_ret (pv 1))))))))), ?_⟩
    rw [start_nrm (Nat.le_of_ble_eq_true rfl)]; dsimp only [startL]
    refine ⟨Nat.zero_le _, fun r0 hr0 => ?_⟩
    have f0 := Ex.new (o := .lst []) hr0
    have k0 : upd H r0 (.lst []) r0 = some (.lst []) := upd_same
    generalize upd H r0 (.lst []) = H0 at f0 k0 ⊢
    dsimp only [List.set]
    refine ⟨_, rfl, _, rfl, .ref E_BadLine, .ref E_BadLine, _, rfl, w0 f0, fun _ h => h, EA.mat x hx "BadLine" (by decide) C E_BadLine hC m_BadLine, _, rfl, .ref E_BadFilm, .ref E_BadFilm, _, rfl, w0 f0, fun _ h => h, EA.mat x hx "BadFilm" (by decide) C E_BadFilm hC m_BadFilm, _, rfl, .ref E_BadLayer, .ref E_BadLayer, _, rfl, w0 f0, fun _ h => h, EA.mat x hx "BadLayer" (by decide) C E_BadLayer hC m_BadLayer, _, rfl, .ref E_DuplicateLayer, .ref E_DuplicateLayer, _, rfl, w0 f0, fun _ h => h, EA.mat x hx "DuplicateLayer" (by decide) C E_DuplicateLayer hC m_DuplicateLayer, (by show 4 ≤ sizeLine; decide), fun p1 hp1 => ?_⟩
    have g1 := Ex.new (o := .lst [.bl (x == "BadLine"), .bl (x == "BadFilm"), .bl (x == "BadLayer"), .bl (x == "DuplicateLayer")]) hp1
    have l1 : upd H0 p1 (.lst [.bl (x == "BadLine"), .bl (x == "BadFilm"), .bl (x == "BadLayer"), .bl (x == "DuplicateLayer")]) p1 = some (.lst [.bl (x == "BadLine"), .bl (x == "BadFilm"), .bl (x == "BadLayer"), .bl (x == "DuplicateLayer")]) := upd_same
    generalize upd H0 p1 (.lst [.bl (x == "BadLine"), .bl (x == "BadFilm"), .bl (x == "BadLayer"), .bl (x == "DuplicateLayer")]) = G1 at g1 l1 ⊢
    refine ⟨r0, p1, _, _, rfl, rfl, g1 _ _ k0, l1, (by show 4 ≤ sizeLine; decide), fun r1 hr1 => ?_⟩
    have e1 := Ex.new (o := .lst ([] ++ [.bl (x == "BadLine"), .bl (x == "BadFilm"), .bl (x == "BadLayer"), .bl (x == "DuplicateLayer")])) hr1
    have z1 : upd G1 r1 (.lst ([] ++ [.bl (x == "BadLine"), .bl (x == "BadFilm"), .bl (x == "BadLayer"), .bl (x == "DuplicateLayer")])) r1 = some (.lst ([] ++ [.bl (x == "BadLine"), .bl (x == "BadFilm"), .bl (x == "BadLayer"), .bl (x == "DuplicateLayer")])) := upd_same
    have f1 := f0.trans (g1.trans e1)
    clear e1 g1
    generalize upd G1 r1 (.lst ([] ++ [.bl (x == "BadLine"), .bl (x == "BadFilm"), .bl (x == "BadLayer"), .bl (x == "DuplicateLayer")])) = H1 at f1 z1 ⊢
    have k1 : H1 r1 = some (.lst [.bl (x == "BadLine"), .bl (x == "BadFilm"), .bl (x == "BadLayer"), .bl (x == "DuplicateLayer")]) := z1
    clear z1
    dsimp only [List.set]
    refine ⟨_, rfl, _, rfl, .ref E_UnknownLayer, .ref E_UnknownLayer, _, rfl, w0 f1, fun _ h => h, EA.mat x hx "UnknownLayer" (by decide) C E_UnknownLayer hC m_UnknownLayer, _, rfl, .ref E_BadFrame, .ref E_BadFrame, _, rfl, w0 f1, fun _ h => h, EA.mat x hx "BadFrame" (by decide) C E_BadFrame hC m_BadFrame, _, rfl, .ref E_BadClip, .ref E_BadClip, _, rfl, w0 f1, fun _ h => h, EA.mat x hx "BadClip" (by decide) C E_BadClip hC m_BadClip, _, rfl, .ref E_BadCut, .ref E_BadCut, _, rfl, w0 f1, fun _ h => h, EA.mat x hx "BadCut" (by decide) C E_BadCut hC m_BadCut, (by show 4 ≤ sizeLine; decide), fun p2 hp2 => ?_⟩
    have g2 := Ex.new (o := .lst [.bl (x == "UnknownLayer"), .bl (x == "BadFrame"), .bl (x == "BadClip"), .bl (x == "BadCut")]) hp2
    have l2 : upd H1 p2 (.lst [.bl (x == "UnknownLayer"), .bl (x == "BadFrame"), .bl (x == "BadClip"), .bl (x == "BadCut")]) p2 = some (.lst [.bl (x == "UnknownLayer"), .bl (x == "BadFrame"), .bl (x == "BadClip"), .bl (x == "BadCut")]) := upd_same
    generalize upd H1 p2 (.lst [.bl (x == "UnknownLayer"), .bl (x == "BadFrame"), .bl (x == "BadClip"), .bl (x == "BadCut")]) = G2 at g2 l2 ⊢
    refine ⟨r1, p2, _, _, rfl, rfl, g2 _ _ k1, l2, (by show 8 ≤ sizeLine; decide), fun r2 hr2 => ?_⟩
    have e2 := Ex.new (o := .lst ([.bl (x == "BadLine"), .bl (x == "BadFilm"), .bl (x == "BadLayer"), .bl (x == "DuplicateLayer")] ++ [.bl (x == "UnknownLayer"), .bl (x == "BadFrame"), .bl (x == "BadClip"), .bl (x == "BadCut")])) hr2
    have z2 : upd G2 r2 (.lst ([.bl (x == "BadLine"), .bl (x == "BadFilm"), .bl (x == "BadLayer"), .bl (x == "DuplicateLayer")] ++ [.bl (x == "UnknownLayer"), .bl (x == "BadFrame"), .bl (x == "BadClip"), .bl (x == "BadCut")])) r2 = some (.lst ([.bl (x == "BadLine"), .bl (x == "BadFilm"), .bl (x == "BadLayer"), .bl (x == "DuplicateLayer")] ++ [.bl (x == "UnknownLayer"), .bl (x == "BadFrame"), .bl (x == "BadClip"), .bl (x == "BadCut")])) := upd_same
    have f2 := f1.trans (g2.trans e2)
    clear e2 g2
    generalize upd G2 r2 (.lst ([.bl (x == "BadLine"), .bl (x == "BadFilm"), .bl (x == "BadLayer"), .bl (x == "DuplicateLayer")] ++ [.bl (x == "UnknownLayer"), .bl (x == "BadFrame"), .bl (x == "BadClip"), .bl (x == "BadCut")])) = H2 at f2 z2 ⊢
    have k2 : H2 r2 = some (.lst [.bl (x == "BadLine"), .bl (x == "BadFilm"), .bl (x == "BadLayer"), .bl (x == "DuplicateLayer"), .bl (x == "UnknownLayer"), .bl (x == "BadFrame"), .bl (x == "BadClip"), .bl (x == "BadCut")]) := z2
    clear z2
    dsimp only [List.set]
    refine ⟨_, rfl, _, rfl, .ref E_BadEdit, .ref E_BadEdit, _, rfl, w0 f2, fun _ h => h, EA.mat x hx "BadEdit" (by decide) C E_BadEdit hC m_BadEdit, _, rfl, .ref E_NothingToUndo, .ref E_NothingToUndo, _, rfl, w0 f2, fun _ h => h, EA.mat x hx "NothingToUndo" (by decide) C E_NothingToUndo hC m_NothingToUndo, _, rfl, .ref E_NothingToRedo, .ref E_NothingToRedo, _, rfl, w0 f2, fun _ h => h, EA.mat x hx "NothingToRedo" (by decide) C E_NothingToRedo hC m_NothingToRedo, _, rfl, .ref E_BadPaint, .ref E_BadPaint, _, rfl, w0 f2, fun _ h => h, EA.mat x hx "BadPaint" (by decide) C E_BadPaint hC m_BadPaint, (by show 4 ≤ sizeLine; decide), fun p3 hp3 => ?_⟩
    have g3 := Ex.new (o := .lst [.bl (x == "BadEdit"), .bl (x == "NothingToUndo"), .bl (x == "NothingToRedo"), .bl (x == "BadPaint")]) hp3
    have l3 : upd H2 p3 (.lst [.bl (x == "BadEdit"), .bl (x == "NothingToUndo"), .bl (x == "NothingToRedo"), .bl (x == "BadPaint")]) p3 = some (.lst [.bl (x == "BadEdit"), .bl (x == "NothingToUndo"), .bl (x == "NothingToRedo"), .bl (x == "BadPaint")]) := upd_same
    generalize upd H2 p3 (.lst [.bl (x == "BadEdit"), .bl (x == "NothingToUndo"), .bl (x == "NothingToRedo"), .bl (x == "BadPaint")]) = G3 at g3 l3 ⊢
    refine ⟨r2, p3, _, _, rfl, rfl, g3 _ _ k2, l3, (by show 12 ≤ sizeLine; decide), fun r3 hr3 => ?_⟩
    have e3 := Ex.new (o := .lst ([.bl (x == "BadLine"), .bl (x == "BadFilm"), .bl (x == "BadLayer"), .bl (x == "DuplicateLayer"), .bl (x == "UnknownLayer"), .bl (x == "BadFrame"), .bl (x == "BadClip"), .bl (x == "BadCut")] ++ [.bl (x == "BadEdit"), .bl (x == "NothingToUndo"), .bl (x == "NothingToRedo"), .bl (x == "BadPaint")])) hr3
    have z3 : upd G3 r3 (.lst ([.bl (x == "BadLine"), .bl (x == "BadFilm"), .bl (x == "BadLayer"), .bl (x == "DuplicateLayer"), .bl (x == "UnknownLayer"), .bl (x == "BadFrame"), .bl (x == "BadClip"), .bl (x == "BadCut")] ++ [.bl (x == "BadEdit"), .bl (x == "NothingToUndo"), .bl (x == "NothingToRedo"), .bl (x == "BadPaint")])) r3 = some (.lst ([.bl (x == "BadLine"), .bl (x == "BadFilm"), .bl (x == "BadLayer"), .bl (x == "DuplicateLayer"), .bl (x == "UnknownLayer"), .bl (x == "BadFrame"), .bl (x == "BadClip"), .bl (x == "BadCut")] ++ [.bl (x == "BadEdit"), .bl (x == "NothingToUndo"), .bl (x == "NothingToRedo"), .bl (x == "BadPaint")])) := upd_same
    have f3 := f2.trans (g3.trans e3)
    clear e3 g3
    generalize upd G3 r3 (.lst ([.bl (x == "BadLine"), .bl (x == "BadFilm"), .bl (x == "BadLayer"), .bl (x == "DuplicateLayer"), .bl (x == "UnknownLayer"), .bl (x == "BadFrame"), .bl (x == "BadClip"), .bl (x == "BadCut")] ++ [.bl (x == "BadEdit"), .bl (x == "NothingToUndo"), .bl (x == "NothingToRedo"), .bl (x == "BadPaint")])) = H3 at f3 z3 ⊢
    have k3 : H3 r3 = some (.lst [.bl (x == "BadLine"), .bl (x == "BadFilm"), .bl (x == "BadLayer"), .bl (x == "DuplicateLayer"), .bl (x == "UnknownLayer"), .bl (x == "BadFrame"), .bl (x == "BadClip"), .bl (x == "BadCut"), .bl (x == "BadEdit"), .bl (x == "NothingToUndo"), .bl (x == "NothingToRedo"), .bl (x == "BadPaint")]) := z3
    clear z3
    dsimp only [List.set]
    refine ⟨_, rfl, _, rfl, .ref E_BadPicture, .ref E_BadPicture, _, rfl, w0 f3, fun _ h => h, EA.mat x hx "BadPicture" (by decide) C E_BadPicture hC m_BadPicture, _, rfl, .ref E_BadWhat, .ref E_BadWhat, _, rfl, w0 f3, fun _ h => h, EA.mat x hx "BadWhat" (by decide) C E_BadWhat hC m_BadWhat, _, rfl, .ref E_BadMoves, .ref E_BadMoves, _, rfl, w0 f3, fun _ h => h, EA.mat x hx "BadMoves" (by decide) C E_BadMoves hC m_BadMoves, _, rfl, .ref E_BadJoin, .ref E_BadJoin, _, rfl, w0 f3, fun _ h => h, EA.mat x hx "BadJoin" (by decide) C E_BadJoin hC m_BadJoin, (by show 4 ≤ sizeLine; decide), fun p4 hp4 => ?_⟩
    have g4 := Ex.new (o := .lst [.bl (x == "BadPicture"), .bl (x == "BadWhat"), .bl (x == "BadMoves"), .bl (x == "BadJoin")]) hp4
    have l4 : upd H3 p4 (.lst [.bl (x == "BadPicture"), .bl (x == "BadWhat"), .bl (x == "BadMoves"), .bl (x == "BadJoin")]) p4 = some (.lst [.bl (x == "BadPicture"), .bl (x == "BadWhat"), .bl (x == "BadMoves"), .bl (x == "BadJoin")]) := upd_same
    generalize upd H3 p4 (.lst [.bl (x == "BadPicture"), .bl (x == "BadWhat"), .bl (x == "BadMoves"), .bl (x == "BadJoin")]) = G4 at g4 l4 ⊢
    refine ⟨r3, p4, _, _, rfl, rfl, g4 _ _ k3, l4, (by show 16 ≤ sizeLine; decide), fun r4 hr4 => ?_⟩
    have e4 := Ex.new (o := .lst ([.bl (x == "BadLine"), .bl (x == "BadFilm"), .bl (x == "BadLayer"), .bl (x == "DuplicateLayer"), .bl (x == "UnknownLayer"), .bl (x == "BadFrame"), .bl (x == "BadClip"), .bl (x == "BadCut"), .bl (x == "BadEdit"), .bl (x == "NothingToUndo"), .bl (x == "NothingToRedo"), .bl (x == "BadPaint")] ++ [.bl (x == "BadPicture"), .bl (x == "BadWhat"), .bl (x == "BadMoves"), .bl (x == "BadJoin")])) hr4
    have z4 : upd G4 r4 (.lst ([.bl (x == "BadLine"), .bl (x == "BadFilm"), .bl (x == "BadLayer"), .bl (x == "DuplicateLayer"), .bl (x == "UnknownLayer"), .bl (x == "BadFrame"), .bl (x == "BadClip"), .bl (x == "BadCut"), .bl (x == "BadEdit"), .bl (x == "NothingToUndo"), .bl (x == "NothingToRedo"), .bl (x == "BadPaint")] ++ [.bl (x == "BadPicture"), .bl (x == "BadWhat"), .bl (x == "BadMoves"), .bl (x == "BadJoin")])) r4 = some (.lst ([.bl (x == "BadLine"), .bl (x == "BadFilm"), .bl (x == "BadLayer"), .bl (x == "DuplicateLayer"), .bl (x == "UnknownLayer"), .bl (x == "BadFrame"), .bl (x == "BadClip"), .bl (x == "BadCut"), .bl (x == "BadEdit"), .bl (x == "NothingToUndo"), .bl (x == "NothingToRedo"), .bl (x == "BadPaint")] ++ [.bl (x == "BadPicture"), .bl (x == "BadWhat"), .bl (x == "BadMoves"), .bl (x == "BadJoin")])) := upd_same
    have f4 := f3.trans (g4.trans e4)
    clear e4 g4
    generalize upd G4 r4 (.lst ([.bl (x == "BadLine"), .bl (x == "BadFilm"), .bl (x == "BadLayer"), .bl (x == "DuplicateLayer"), .bl (x == "UnknownLayer"), .bl (x == "BadFrame"), .bl (x == "BadClip"), .bl (x == "BadCut"), .bl (x == "BadEdit"), .bl (x == "NothingToUndo"), .bl (x == "NothingToRedo"), .bl (x == "BadPaint")] ++ [.bl (x == "BadPicture"), .bl (x == "BadWhat"), .bl (x == "BadMoves"), .bl (x == "BadJoin")])) = H4 at f4 z4 ⊢
    have k4 : H4 r4 = some (.lst [.bl (x == "BadLine"), .bl (x == "BadFilm"), .bl (x == "BadLayer"), .bl (x == "DuplicateLayer"), .bl (x == "UnknownLayer"), .bl (x == "BadFrame"), .bl (x == "BadClip"), .bl (x == "BadCut"), .bl (x == "BadEdit"), .bl (x == "NothingToUndo"), .bl (x == "NothingToRedo"), .bl (x == "BadPaint"), .bl (x == "BadPicture"), .bl (x == "BadWhat"), .bl (x == "BadMoves"), .bl (x == "BadJoin")]) := z4
    clear z4
    dsimp only [List.set]
    refine ⟨_, rfl, _, rfl, .ref E_BadPlace, .ref E_BadPlace, _, rfl, w0 f4, fun _ h => h, EA.mat x hx "BadPlace" (by decide) C E_BadPlace hC m_BadPlace, _, rfl, .ref E_BadRectangle, .ref E_BadRectangle, _, rfl, w0 f4, fun _ h => h, EA.mat x hx "BadRectangle" (by decide) C E_BadRectangle hC m_BadRectangle, (by show 2 ≤ sizeLine; decide), fun p5 hp5 => ?_⟩
    have g5 := Ex.new (o := .lst [.bl (x == "BadPlace"), .bl (x == "BadRectangle")]) hp5
    have l5 : upd H4 p5 (.lst [.bl (x == "BadPlace"), .bl (x == "BadRectangle")]) p5 = some (.lst [.bl (x == "BadPlace"), .bl (x == "BadRectangle")]) := upd_same
    generalize upd H4 p5 (.lst [.bl (x == "BadPlace"), .bl (x == "BadRectangle")]) = G5 at g5 l5 ⊢
    refine ⟨r4, p5, _, _, rfl, rfl, g5 _ _ k4, l5, (by show 18 ≤ sizeLine; decide), fun r5 hr5 => ?_⟩
    have e5 := Ex.new (o := .lst ([.bl (x == "BadLine"), .bl (x == "BadFilm"), .bl (x == "BadLayer"), .bl (x == "DuplicateLayer"), .bl (x == "UnknownLayer"), .bl (x == "BadFrame"), .bl (x == "BadClip"), .bl (x == "BadCut"), .bl (x == "BadEdit"), .bl (x == "NothingToUndo"), .bl (x == "NothingToRedo"), .bl (x == "BadPaint"), .bl (x == "BadPicture"), .bl (x == "BadWhat"), .bl (x == "BadMoves"), .bl (x == "BadJoin")] ++ [.bl (x == "BadPlace"), .bl (x == "BadRectangle")])) hr5
    have z5 : upd G5 r5 (.lst ([.bl (x == "BadLine"), .bl (x == "BadFilm"), .bl (x == "BadLayer"), .bl (x == "DuplicateLayer"), .bl (x == "UnknownLayer"), .bl (x == "BadFrame"), .bl (x == "BadClip"), .bl (x == "BadCut"), .bl (x == "BadEdit"), .bl (x == "NothingToUndo"), .bl (x == "NothingToRedo"), .bl (x == "BadPaint"), .bl (x == "BadPicture"), .bl (x == "BadWhat"), .bl (x == "BadMoves"), .bl (x == "BadJoin")] ++ [.bl (x == "BadPlace"), .bl (x == "BadRectangle")])) r5 = some (.lst ([.bl (x == "BadLine"), .bl (x == "BadFilm"), .bl (x == "BadLayer"), .bl (x == "DuplicateLayer"), .bl (x == "UnknownLayer"), .bl (x == "BadFrame"), .bl (x == "BadClip"), .bl (x == "BadCut"), .bl (x == "BadEdit"), .bl (x == "NothingToUndo"), .bl (x == "NothingToRedo"), .bl (x == "BadPaint"), .bl (x == "BadPicture"), .bl (x == "BadWhat"), .bl (x == "BadMoves"), .bl (x == "BadJoin")] ++ [.bl (x == "BadPlace"), .bl (x == "BadRectangle")])) := upd_same
    have f5 := f4.trans (g5.trans e5)
    clear e5 g5
    generalize upd G5 r5 (.lst ([.bl (x == "BadLine"), .bl (x == "BadFilm"), .bl (x == "BadLayer"), .bl (x == "DuplicateLayer"), .bl (x == "UnknownLayer"), .bl (x == "BadFrame"), .bl (x == "BadClip"), .bl (x == "BadCut"), .bl (x == "BadEdit"), .bl (x == "NothingToUndo"), .bl (x == "NothingToRedo"), .bl (x == "BadPaint"), .bl (x == "BadPicture"), .bl (x == "BadWhat"), .bl (x == "BadMoves"), .bl (x == "BadJoin")] ++ [.bl (x == "BadPlace"), .bl (x == "BadRectangle")])) = H5 at f5 z5 ⊢
    have k5 : H5 r5 = some (.lst [.bl (x == "BadLine"), .bl (x == "BadFilm"), .bl (x == "BadLayer"), .bl (x == "DuplicateLayer"), .bl (x == "UnknownLayer"), .bl (x == "BadFrame"), .bl (x == "BadClip"), .bl (x == "BadCut"), .bl (x == "BadEdit"), .bl (x == "NothingToUndo"), .bl (x == "NothingToRedo"), .bl (x == "BadPaint"), .bl (x == "BadPicture"), .bl (x == "BadWhat"), .bl (x == "BadMoves"), .bl (x == "BadJoin"), .bl (x == "BadPlace"), .bl (x == "BadRectangle")]) := z5
    clear z5
    dsimp only [List.set]
    exact ⟨_, rfl, q r5 H5 f5 k5⟩
abbrev s_l_place : Stmt := top 31
theorem sc_l_place : FnScope ["script", "choice", "number"] ["script"] (defScope s_l_place) := ⟨rfl, rfl, rfl, by decide +kernel, rfl, by decide +kernel, by decide +kernel⟩
def spPlace (K : PySem.W.Frag) : Sp := fun vs H Q _ => ∃ (a : Addr) (ns : List Int), vs = [.ref a] ∧ SqL K H a (ns.map V.int) ∧ ∀ v H', Ex H H' → Pl H' v → Q v H'
theorem place_small {n : Int} : (n % 10 ^ 30).natAbs < 10 ^ 30 := by
  have h0 : 0 ≤ n % 10 ^ 30 := Int.emod_nonneg _ (by decide)
  have h1 : n % 10 ^ 30 < 10 ^ 30 := Int.emod_lt_of_pos _ (by decide)
  omega
theorem cut_abc : ∀ m : Nat, m < 4 → cutS ("abc" : Str) none (some (m : Int)) ∈ (["", "a", "ab", "abc"] : List Str)
  | 0, _ => by decide +kernel
  | 1, _ => by decide +kernel
  | 2, _ => by decide +kernel
  | 3, _ => by decide +kernel
  | m + 4, h => by omega
theorem ok_l_place {f : Addr} {fd : FuncData} (F : Fun K "_law_place" "_law_place" s_l_place f fd) (T : Txt K mg) (D_l_cell : Def P w K mg base CX0 "_law_cell" 1 ["script", "k"] (spCell K)) : FnOk P w K mg base CX0 2 f fd ["script"] (spPlace K) := by
  refine F.ok sc_l_place (fun vs H Q E h => ?_) (fun cdv A outer s H vs Q E hr h => ?_)
  · obtain ⟨a, ns, rfl, _⟩ := h
    rfl
  · obtain ⟨a, ns, rfl, hS, q⟩ := h
    refine ⟨_, (pss_cons (ps_set (i := 1) sc_l_place.nd rfl (by first | exact Or.inl rfl | exact Or.inr rfl) (pe_op op_mod (pe_callTy call_int1 (by rfl) T.int_ bt_int (pa_cons (pe_call D_l_cell.ok (hr.mono (by decide)) rfl D_l_cell.mgf D_l_cell.kp D_l_cell.b .nil pass0 (pa_cons (pv 0) (pa_cons pe_int pa_nil))) pa_nil)) pe_int))
      (pss_cons (ps_set (i := 2) sc_l_place.nd rfl (by first | exact Or.inl rfl | exact Or.inr rfl) (pe_op op_mod (pe_callTy call_int1 (by rfl) T.int_ bt_int (pa_cons (pe_call D_l_cell.ok (hr.mono (by decide)) rfl D_l_cell.mgf D_l_cell.kp D_l_cell.b .nil pass0 (pa_cons (pv 0) (pa_cons pe_int pa_nil))) pa_nil)) (pe_op op_pow pe_int pe_int)))
      (pss_one (ps_ret (pe_ix (kixL K) (pe_lst (pa_cons pe_non (pa_cons (pv 2) (pa_cons (pe_un un_neg (pv 2)) (pa_cons (pe_slice sl_str pe_str po_none (po_some (pe_op op_mod (pv 2) pe_int))) (pa_cons (pe_tup (pa_cons (pv 2) (pa_cons pe_int pa_nil))) pa_nil)))))) (pv 1) (fun _ _ => rfl)))))), ?_⟩
    rw [start_nrm (Nat.le_of_ble_eq_true rfl)]; dsimp only [startL]
    refine ⟨_, rfl, a, ns, 1, rfl, hS, by decide, fun n1 => .inl ⟨_, rfl, _, _, rfl, rfl, (by show (0 : Int) < 5; decide), ?_⟩⟩
    dsimp only [List.set]
    refine ⟨_, rfl, a, ns, 2, rfl, hS, by decide, fun n2 => .inl ⟨_, rfl, _, _, rfl, rfl, ⟨by decide, by decide, by decide⟩, _, _, rfl, rfl, (by show (0 : Int) < 10 ^ (30 : Int).toNat; decide), ?_⟩⟩
    dsimp only [List.set]
    have hm : (n2 % 10 ^ (30 : Int).toNat).natAbs < 10 ^ 30 := place_small
    generalize n2 % 10 ^ (30 : Int).toNat = m at hm ⊢
    have c0 : 0 ≤ n1 % 5 := Int.emod_nonneg _ (by decide)
    have c1 : n1 % 5 < 5 := Int.emod_lt_of_pos _ (by decide)
    generalize n1 % 5 = c at c0 c1 ⊢
    have r0 : 0 ≤ m % 4 := Int.emod_nonneg _ (by decide)
    have r1 : m % 4 < 4 := Int.emod_lt_of_pos _ (by decide)
    refine ⟨_, rfl, _, rfl, _, rfl, _, rfl, _, _, rfl, rfl, (by show (0 : Int) < 4; decide), _, rfl, _, rfl, (by decide), ?_⟩
    have ht : cutS ("abc" : Str) none (some (m % 4)) ∈ (["", "a", "ab", "abc"] : List Str) := by
      have := cut_abc (m % 4).toNat (by omega)
      rwa [Int.toNat_of_nonneg r0] at this
    generalize cutS ("abc" : Str) none (some (m % 4)) = x at ht ⊢
    refine ⟨_, rfl, (by show 2 ≤ sizeLine; decide), fun t1 ht1 => ?_⟩
    have f1 := Ex.new (o := .tup [.int m, .int 7]) ht1
    have k1 : upd H t1 (.tup [.int m, .int 7]) t1 = some (.tup [.int m, .int 7]) := upd_same
    generalize upd H t1 (.tup [.int m, .int 7]) = H1 at f1 k1 ⊢
    refine ⟨(by show 5 ≤ sizeLine; decide), fun p hp => ?_⟩
    have f2 := Ex.new (o := .lst [.non, .int m, .int (-m), .str x, .ref t1]) hp
    have k2 : upd H1 p (.lst [.non, .int m, .int (-m), .str x, .ref t1]) p = some (.lst [.non, .int m, .int (-m), .str x, .ref t1]) := upd_same
    generalize upd H1 p (.lst [.non, .int m, .int (-m), .str x, .ref t1]) = H2 at f2 k2 ⊢
    have f12 := f1.trans f2
    have fin : ∀ v, atI [.non, .int m, .int (-m), .str x, .ref t1] c = some v → Pl H2 v → Q v H2 := fun v _ hv => q v H2 f12 hv
    have cs : c = 0 ∨ c = 1 ∨ c = 2 ∨ c = 3 ∨ c = 4 := by omega
    rcases cs with rfl | rfl | rfl | rfl | rfl
    · exact ⟨_, rfl, p, _, _, _, rfl, rfl, SqL.of k2, rfl, q _ H2 f12 (.inl rfl)⟩
    · exact ⟨_, rfl, p, _, _, _, rfl, rfl, SqL.of k2, rfl, q _ H2 f12 (.inr (.inl ⟨m, rfl, hm⟩))⟩
    · exact ⟨_, rfl, p, _, _, _, rfl, rfl, SqL.of k2, rfl, q _ H2 f12 (.inr (.inl ⟨-m, rfl, by rw [Int.natAbs_neg]; exact hm⟩))⟩
    · exact ⟨_, rfl, p, _, _, _, rfl, rfl, SqL.of k2, rfl, q _ H2 f12 (.inr (.inr (.inl ⟨x, rfl, ht⟩)))⟩
    · exact ⟨_, rfl, p, _, _, _, rfl, rfl, SqL.of k2, rfl, q _ H2 f12 (.inr (.inr (.inr ⟨t1, m, rfl, f2 _ _ k1, hm⟩)))⟩
abbrev s_l_fine : Stmt := top 30
theorem sc_l_fine : FnScope ["e", "k", "place", "j"] ["e", "k", "place"] (defScope s_l_fine) := ⟨rfl, rfl, rfl, by decide +kernel, rfl, by decide +kernel, by decide +kernel⟩
def spFine (mg : Str → Option Value) : Sp := fun vs H Q _ => ∃ (a C d : Addr) (k : Int) (x : Str) (v : V), vs = [.ref a, .int k, v] ∧ 0 ≤ k ∧ k < 18 ∧ kindN[k.toNat]? = some x ∧ mg x = some (.ref C) ∧ ErrAt H a C d (.str x) v ∧ Pl H v ∧ ∀ H', Ex H H' → Q (.bl true) H'
theorem ok_l_fine {f : Addr} {fd : FuncData} (F : Fun K "_law_fine" "_law_fine" s_l_fine f fd) (T : Txt K mg) (EA : ErrAll P w K mg base) (D_l_words : Def P w K mg base CX0 "_law_words" 1 [] spWords) (D_l_kinds : Def P w K mg base CX0 "_law_kinds" 1 ["e"] (spKindsE mg)) : FnG P w K mg base CX0 4 f fd ["e", "k", "place"] (spFine mg) := by
  refine Od.Fun.okG F sc_l_fine (fun vs H Q E h => ?_) (fun cdv A outer s H vs Q E gd hr h => ?_)
  · obtain ⟨a, C, d, k, x, v, rfl, _⟩ := h
    rfl
  · obtain ⟨a, C, d, k, x, v, rfl, k0, k1, hx, hC, hE, hP, q⟩ := h
    have xm : x ∈ errN := List.mem_cons_of_mem _ (List.mem_of_getElem? hx)
    obtain ⟨E_FilmError, fC, KF⟩ := EA.film
    have m_FilmError := KF.1.g
    obtain ⟨EC, ic, kv⟩ := EA.exc x xm C hC
    have kf := EA.isF x xm C E_FilmError hC m_FilmError
    obtain ⟨XF, nw, np⟩ := EA.xf x xm C hC
    obtain ⟨t, ht⟩ := hP.text (K := K)
    refine ⟨_, (pss_cons (ps_if (PW.pt (pw_or (pt_not (pt_val (pe_callB (call_isQ K) (by rfl) T.isinstance_ bt_isinstance (pa_cons (pv 0) (pa_cons (pe_glob (v := .ref E_FilmError) rfl m_FilmError rfl) pa_nil))))) (pw_or1 (pt_not (pt_val (pe_callB (call_isQ K) (by rfl) T.isinstance_ bt_isinstance (pa_cons (pv 0) (pa_cons (pe_bltn (v := .ty "ValueError") (by rfl) T.ValueError_ bt_ValueError rfl) pa_nil))))))))
        (pss_one (ps_ret pe_bl))
        pss_nil)
      (pss_cons (ps_if (PW.pt (pw_or (pt_not (pt_val (pe_callB (kisi K) (by rfl) T.isinstance_ bt_isinstance (pa_cons (pe_xq (pv 0)) (pa_cons (pe_bltn (v := .ty "str") (by rfl) T.str_ bt_str rfl) pa_nil))))) (pw_or (pt_cmpR op_ne (pe_xq (pv 0)) (pe_ix (kixL K) (pe_call0 D_l_words.ok (hr.mono (by decide)) rfl D_l_words.mgf D_l_words.kp D_l_words.b .nil pass0) (pv 1) (fun _ _ => rfl)) (nomark _)) (pw_or1 (pt_cmpR op_ne (pe_callB (krepP K gd hr.units) (by rfl) T.repr_ bt_repr (pa_cons (pe_xq (pv 0)) pa_nil)) (pe_callB (krepP K gd hr.units) (by rfl) T.repr_ bt_repr (pa_cons (pv 2) pa_nil)) (nomark _))))))
        (pss_one (ps_ret pe_bl))
        pss_nil)
      (pss_one (ps_ret (pe_cmpR (keqD K hr.units) (pe_call D_l_kinds.ok (hr.mono (by decide)) rfl D_l_kinds.mgf D_l_kinds.kp D_l_kinds.b .nil pass0 (pa_cons (pv 0) pa_nil)) (pe_lc (own := [("j", 3)]) (tt := tYes) rfl sc_l_fine.nd (pi_range1 (by rfl) T.range_ (pa_cons pe_int pa_nil)) (blkOk_by (N := ["e", "k", "place", "j"]) (sc := defScope s_l_fine) (by decide +kernel)) (fun _ _ _ _ _ => (pg_name (i := 3) sc_l_fine.nd rfl (by first | exact Or.inl rfl | exact Or.inr rfl))) (fun _ _ _ _ _ => pts_nil) (fun _ _ _ _ _ => (pe_cmpR op_eq (pv 3) (pv 1) (nomark _)))) (nomark _)))))), ?_⟩
    rw [start_nrm (Nat.le_of_ble_eq_true rfl)]; dsimp only [startL]
    refine ⟨_, rfl, a, C, d, .str x, v, .ref E_FilmError, .ref E_FilmError, true, rfl, hE, EC, ic, fun _ h => h, kf, _, rfl, ?_⟩
    refine iteF ?_
    refine ⟨_, rfl, a, C, d, .str x, v, .ty "ValueError", .type "ValueError", true, rfl, hE, EC, ic, fun _ h => h, kv, _, rfl, ?_⟩
    refine iteF ?_
    refine ⟨_, rfl, a, C, d, .str x, v, .str x, rfl, hE, XF, nw, errF_word, .str x, _, _, _, _, rfl, .ty _, (Kn.str (H := H) x).ty, kit_ty (kit_str (Kn.str (H := H) x)), _, rfl, ?_⟩
    refine ite2 (fun c => absurd c (by decide +kernel)) (fun _ => ?_)
    refine ⟨_, rfl, a, C, d, .str x, v, .str x, rfl, hE, XF, nw, errF_word, rfl, fun r H1 e1 hr1 => ?_⟩
    have hat : atI (kindN.map V.str) k = some (.str x) := by
      have h4 : (kindN.map V.str)[k.toNat]? = some (.str x) := by rw [List.getElem?_map, hx]; rfl
      have := atI_nat h4
      rwa [Int.toNat_of_nonneg k0] at this
    refine ⟨_, rfl, r, _, k, _, rfl, rfl, SqL.of hr1, hat, rfl, _, rfl, ?_⟩
    refine ite2 (fun c => absurd c (by rw [decide_eq_true rfl]; decide)) (fun _ => ?_)
    refine ⟨_, rfl, a, C, d, .str x, v, v, rfl, hE.ex e1, XF, np, errF_place, v, t, rfl, ht H1 e1, _, rfl, v, t, rfl, ht H1 e1, rfl, _, rfl, ?_⟩
    refine ite2 (fun c => absurd c (by rw [decide_eq_true rfl]; decide)) (fun _ => ?_)
    refine ⟨_, rfl, a, C, d, x, .str x, v, rfl, xm, hC, hE.ex e1, fun r2 H2 e2 hr2 => ?_⟩
    refine ⟨_, rfl, by decide, by decide, fun D hD => ?_⟩
    refine lc_range (lo := 0) (n := 18) (fun i H' => Ex H2 H' ∧ H' D = some (.lst (((List.range i).map fun (j : Nat) => decide (V.int (0 + (j : Int)) = V.int k)).map V.bl))) ⟨Ex.new hD, upd_same⟩ ?_ ?_
    · rintro i H' hi ⟨e, hI⟩
      refine ⟨rfl, ?_⟩
      refine lcY ?_
      refine ⟨_, rfl, _, rfl, rfl, ?_⟩
      refine ⟨_, hI, slineL (by rw [List.length_map, List.length_map, List.length_range]; omega), e.mut hD, ?_⟩
      rw [upd_same, List.range_succ, List.map_append, List.map_append]
      rfl
    · rintro H3 ⟨e3, hI⟩
      have row := kind_row k0 k1 hx
      have hk : H3 r2 = some (.lst ((kindN.map fun y => x == y).map V.bl)) := by
        rw [List.map_map]
        exact e3 _ _ hr2
      rw [row] at hk
      exact ⟨_, _, .lst (SqL.of hk) (dp_bls _), .lst (SqL.of hI) (dp_bls _), sh_bls _, sh_bls _, by rw [eqv_bls]; exact q H3 (e1.trans (e2.trans e3))⟩
abbrev s_l_raised : Stmt := top 32
theorem sc_l_raised : FnScope ["k", "place", "error", "e"] ["k", "place"] (defScope s_l_raised) := ⟨rfl, rfl, rfl, by decide +kernel, rfl, by decide +kernel, by decide +kernel⟩
def spRaised (mg : Str → Option Value) : Sp := fun vs H Q _ => ∃ (k : Int) (x : Str) (C : Addr) (v : V), vs = [.int k, v] ∧ 0 ≤ k ∧ k < 18 ∧ kindN[k.toNat]? = some x ∧ mg x = some (.ref C) ∧ Pl H v ∧ ∀ H', Ex H H' → Q (.bl true) H'
theorem ok_l_raised {f : Addr} {fd : FuncData} (F : Fun K "_law_raised" "_law_raised" s_l_raised f fd) (T : Txt K mg) (EA : ErrAll P w K mg base) (D_l_with_place : Def P w K mg base CX0 "_law_with_place" 5 ["k", "place"] (spMkP mg 0 18)) (DP_l_kinds : DefP P w K mg base CX0 "_law_kinds" 1 ["e"] (spKindsP mg)) : FnG P w K mg base CX0 6 f fd ["k", "place"] (spRaised mg) := by
  refine Od.Fun.okG F sc_l_raised (fun vs H Q E h => ?_) (fun cdv A outer s H vs Q E gd hr h => ?_)
  · obtain ⟨k, x, C, v, rfl, _⟩ := h
    rfl
  · obtain ⟨k, x, C, v, rfl, k0, k1, hx, hC, hP, q⟩ := h
    have xm : x ∈ errN := List.mem_cons_of_mem _ (List.mem_of_getElem? hx)
    obtain ⟨E_F, fC, KT, fdF, GC, bS, bA⟩ := EA.film
    obtain ⟨XF, nw, np⟩ := EA.xf x xm C hC
    obtain ⟨t, ht⟩ := hP.text (K := K)
    obtain ⟨dt, sh, eq, hdp⟩ := hP.data (K := K)
    refine ⟨_, (pss_cons (ps_set (i := 2) sc_l_raised.nd rfl (by first | exact Or.inl rfl | exact Or.inr rfl) (pe_call D_l_with_place.ok (hr.mono (by decide)) rfl D_l_with_place.mgf D_l_with_place.kp D_l_with_place.b .nil pass0 (pa_cons (pv 0) (pa_cons (pv 1) pa_nil))))
      (pss_cons (ps_try_as (i := 3) rfl rfl sc_l_raised.nd rfl rfl ⟨rfl, by decide, .inl KT.g⟩ takes0 (fun W pn xe tk _ => (pss_one (ps_if (pt_cmpR op_eq (pe_op op_mod (pv 0) pe_int) pe_int (nomark _))
          (pss_one (ps_raise rfl tk (pmk_oex KT.T KT.iC KT.tI GC (hr.mono (by decide)) bA .nil pass0 rfl KT.g (pa_cons pe_str (pa_cons (pv 1) pa_nil)))))
          pss_nil))) (fun a oe cls d pn hz hf => (pss_one (ps_ret (pe_and (pe_cmpR op_eq (pe_xf KT.xf KT.noW hz hf (pv 3)) pe_str (nomark _)) (pe_and (pe_cmpR op_eq (pe_callB (krepP K gd hr.units) (by rfl) T.repr_ bt_repr (pa_cons (pe_xf KT.xf KT.noP hz hf (pv 3)) pa_nil)) (pe_callB (krepP K gd hr.units) (by rfl) T.repr_ bt_repr (pa_cons (pv 1) pa_nil)) (nomark _)) (pe_one (pe_cmpR (knotin K) pe_bl (pe_callP hz hf DP_l_kinds.ok (L2H.roomH_of (hr.mono (by decide))) rfl DP_l_kinds.mgf DP_l_kinds.kp DP_l_kinds.b pass0 (pa_cons (pv 3) pa_nil)) (by rfl)))))))))
      (pss_one (ps_ret (pe_cmpR (keqD K hr.units) (pe_xq (pv 2)) (pv 1) (nomark _)))))), ?_⟩
    rw [start_nrm (Nat.le_of_ble_eq_true rfl)]; dsimp only [startL]
    refine ⟨_, rfl, _, rfl, k, v, rfl, k0, k1, x, C, hx, hC, ErrQ.ex fun a d H1 e1 hE => ?_⟩
    dsimp only [List.set]
    refine ⟨_, rfl, _, _, rfl, rfl, (by show (0 : Int) < 2; decide), rfl, _, rfl, ?_⟩
    refine ite2 (fun c => ?_) (fun c => ?_)
    · refine ⟨_, rfl, (by show 2 ≤ 1000; decide), fun b hb => ?_⟩
      refine film_made KT hb fun d2 H2 hd2 g1 g2 e2 => ⟨rfl, d2, _, g1, g2, hd2, ?_⟩
      have h2 : upd (del H2 b) d2 (.xd (errF (.str "Raised") v)) d2 = some (.xd (errF (.str "Raised") v)) := upd_same
      generalize upd (del H2 b) d2 (.xd (errF (.str "Raised") v)) = H3 at e2 h2 ⊢
      refine ⟨true, KT.te, fun _ b2 hb2 => ?_, fun z => Bool.noConfusion z⟩
      dsimp only [List.set]
      refine ⟨_, rfl, rfl, rfl, d2, _, .str "Raised", rfl, h2, errF_word, rfl, ?_⟩
      refine ⟨_, rfl, ?_⟩
      refine ite2 (fun _ => ?_) (fun c => absurd (decide_eq_true rfl) c)
      have e12 := e1.trans e2
      refine ⟨_, rfl, rfl, rfl, d2, _, v, rfl, h2, errF_place, v, t, rfl, ht _ e12, _, rfl, v, t, rfl, ht _ e12, rfl, ?_⟩
      refine ⟨_, rfl, ?_⟩
      refine ite2 (fun _ => ?_) (fun c => absurd (decide_eq_true rfl) c)
      refine ⟨_, rfl, fun oe hz hf => ⟨E_F, d2, "FilmError", _, rfl, List.mem_cons_self, KT.g, hz, hf, h2, fun r H4 e4 hr4 => ?_⟩⟩
      have no : inV (.bl true) (kindN.map fun y => V.bl (("FilmError" : Str) == y)) = false := by decide +kernel
      refine ⟨r, _, rfl, .inl (SqL.of hr4), rfl, by decide +kernel, ?_⟩
      rw [no]
      exact q H4 (e12.trans e4)
    · refine ⟨_, rfl, a, C, d, .str x, v, v, rfl, hE, XF, np, errF_place, _, rfl, dt, dt, hdp _ e1, hdp _ e1, sh, sh, ?_⟩
      rw [eq]
      exact q H1 e1
abbrev s_law : Stmt := top 33
theorem sc_law : FnScope ["script", "k", "place", "other"] ["script"] (defScope s_law) := ⟨rfl, rfl, rfl, by decide +kernel, rfl, by decide +kernel, by decide +kernel⟩
def spLaw (K : PySem.W.Frag) : Sp := fun vs H Q _ => ∃ (a : Addr) (ns : List Int), vs = [.ref a] ∧ SqL K H a (ns.map V.int) ∧ ns.length ≤ 63 ∧ ∀ H', Q (.bl true) H'
theorem ok_law {f : Addr} {fd : FuncData} (F : Fun K "law" "law" s_law f fd) (T : Txt K mg) (EA : ErrAll P w K mg base) (D_l_cell : Def P w K mg base CX0 "_law_cell" 1 ["script", "k"] (spCell K)) (D_l_place : Def P w K mg base CX0 "_law_place" 2 ["script"] (spPlace K))
    (D_l_with_place : Def P w K mg base CX0 "_law_with_place" 5 ["k", "place"] (spMkP mg 0 18)) (D_l_named : Def P w K mg base CX0 "_law_named" 5 ["k", "place"] (spMkP mg 0 18)) (D_l_plain : Def P w K mg base CX0 "_law_plain" 5 ["k"] (spMk0 mg 0 18))
    (D_l_fine : DefG P w K mg base CX0 "_law_fine" 4 ["e", "k", "place"] (spFine mg)) (D_l_raised : DefG P w K mg base CX0 "_law_raised" 6 ["k", "place"] (spRaised mg)) : FnG P w K mg base CX0 7 f fd ["script"] (spLaw K) := by
  refine Od.Fun.okG F sc_law (fun vs H Q E h => ?_) (fun cdv A outer s H vs Q E gd hr h => ?_)
  · obtain ⟨a, ns, rfl, _⟩ := h
    rfl
  obtain ⟨a, ns, rfl, hS, hl, q⟩ := h
  obtain ⟨E_F, fC, KF⟩ := EA.film
  have KT := KF.1
  obtain ⟨EC, ic, kv⟩ := EA.exc "FilmError" List.mem_cons_self E_F KT.g
  refine ⟨_, (pss_cons (ps_set (i := 1) sc_law.nd rfl (by first | exact Or.inl rfl | exact Or.inr rfl) (pe_op op_mod (pe_callTy call_int1 (by rfl) T.int_ bt_int (pa_cons (pe_call D_l_cell.ok (hr.mono (by decide)) rfl D_l_cell.mgf D_l_cell.kp D_l_cell.b .nil pass0 (pa_cons (pv 0) (pa_cons pe_int pa_nil))) pa_nil)) pe_int))
      (pss_cons (ps_set (i := 2) sc_law.nd rfl (by first | exact Or.inl rfl | exact Or.inr rfl) (pe_call D_l_place.ok (hr.mono (by decide)) rfl D_l_place.mgf D_l_place.kp D_l_place.b .nil pass0 (pa_cons (pv 0) pa_nil)))
      (pss_cons (ps_if (PW.pt (pw_or (pt_not (pt_val (pe_callG D_l_fine.ok gd (hr.mono (by decide)) rfl D_l_fine.mgf D_l_fine.kp D_l_fine.b .nil pass0 (pa_cons (pe_call D_l_with_place.ok (hr.mono (by decide)) rfl D_l_with_place.mgf D_l_with_place.kp D_l_with_place.b .nil pass0 (pa_cons (pv 1) (pa_cons (pv 2) pa_nil))) (pa_cons (pv 1) (pa_cons (pv 2) pa_nil)))))) (pw_or1 (pt_not (pt_val (pe_callG D_l_fine.ok gd (hr.mono (by decide)) rfl D_l_fine.mgf D_l_fine.kp D_l_fine.b .nil pass0 (pa_cons (pe_call D_l_named.ok (hr.mono (by decide)) rfl D_l_named.mgf D_l_named.kp D_l_named.b .nil pass0 (pa_cons (pv 1) (pa_cons (pv 2) pa_nil))) (pa_cons (pv 1) (pa_cons (pv 2) pa_nil)))))))))
        (pss_one (ps_ret pe_bl))
        pss_nil)
      (pss_cons (ps_if (PW.pt (pw_or (pt_not (pt_val (pe_callG D_l_fine.ok gd (hr.mono (by decide)) rfl D_l_fine.mgf D_l_fine.kp D_l_fine.b .nil pass0 (pa_cons (pe_call D_l_plain.ok (hr.mono (by decide)) rfl D_l_plain.mgf D_l_plain.kp D_l_plain.b .nil pass0 (pa_cons (pv 1) pa_nil)) (pa_cons (pv 1) (pa_cons pe_non pa_nil)))))) (pw_or1 (pt_not (pt_val (pe_callG D_l_raised.ok gd (hr.mono (by decide)) rfl D_l_raised.mgf D_l_raised.kp D_l_raised.b .nil pass0 (pa_cons (pv 1) (pa_cons (pv 2) pa_nil))))))))
        (pss_one (ps_ret pe_bl))
        pss_nil)
      (pss_cons (ps_set (i := 3) sc_law.nd rfl (by first | exact Or.inl rfl | exact Or.inr rfl) (pe_film KF (hr.mono (by decide)) pass0 rfl (pa_cons pe_str pa_nil)))
      (pss_one (ps_ret (pe_and (pe_cmpR op_eq (pe_xq (pv 3)) pe_str (nomark _)) (pe_and (pe_cmpR op_isN (pe_xq (pv 3)) pe_non (nomark _)) (pe_one (pe_callB (call_isQ K) (by rfl) T.isinstance_ bt_isinstance (pa_cons (pv 3) (pa_cons (pe_bltn (v := .ty "ValueError") (by rfl) T.ValueError_ bt_ValueError rfl) pa_nil))))))))))))), ?_⟩
  rw [start_nrm (Nat.le_of_ble_eq_true rfl)]; dsimp only [startL]
  refine ⟨_, rfl, a, ns, 0, rfl, hS, by decide, fun n => .inl ⟨_, rfl, _, _, rfl, rfl, (by show (0 : Int) < 18; decide), ?_⟩⟩
  dsimp only [List.set]
  have k0 : 0 ≤ n % 18 := Int.emod_nonneg _ (by decide)
  have k1 : n % 18 < 18 := Int.emod_lt_of_pos _ (by decide)
  generalize n % 18 = k at k0 k1 ⊢
  obtain ⟨x, hx⟩ : ∃ x, kindN[k.toNat]? = some x := ⟨_, List.getElem?_eq_getElem (by show k.toNat < 18; omega)⟩
  obtain ⟨C, hK⟩ := EA.kind x (List.mem_of_getElem? hx)
  obtain ⟨_, TC, _⟩ := hK
  have hC := TC.g
  refine ⟨_, rfl, a, ns, rfl, hS, fun v H1 e1 hP => ?_⟩
  dsimp only [List.set]
  refine ⟨_, rfl, _, rfl, k, v, rfl, k0, k1, x, C, hx, hC, ErrQ.ex fun a1 d1 H2 e2 hE2 => ?_⟩
  have hP2 := hP.ex e2
  refine ⟨_, rfl, _, rfl, a1, C, d1, k, x, v, rfl, k0, k1, hx, hC, hE2, hP2, fun H3 e3 => ?_⟩
  have hP3 := hP2.ex e3
  refine ⟨_, rfl, ?_⟩
  refine iteF ?_
  refine ⟨_, rfl, _, rfl, k, v, rfl, k0, k1, x, C, hx, hC, ErrQ.ex fun a2 d2 H4 e4 hE4 => ?_⟩
  have hP4 := hP3.ex e4
  refine ⟨_, rfl, _, rfl, a2, C, d2, k, x, v, rfl, k0, k1, hx, hC, hE4, hP4, fun H5 e5 => ?_⟩
  have hP5 := hP4.ex e5
  refine ⟨_, rfl, ?_⟩
  refine iteF ?_
  refine ⟨_, rfl, k, rfl, k0, k1, x, C, hx, hC, ErrQ.ex fun a3 d3 H6 e6 hE6 => ?_⟩
  have hP6 := hP5.ex e6
  refine ⟨_, rfl, a3, C, d3, k, x, .non, rfl, k0, k1, hx, hC, hE6, .inl rfl, fun H7 e7 => ?_⟩
  have hP7 := hP6.ex e7
  refine ⟨_, rfl, ?_⟩
  refine iteF ?_
  refine ⟨_, rfl, _, rfl, k, x, C, v, rfl, k0, k1, hx, hC, hP7, fun H8 e8 => ?_⟩
  refine ⟨_, rfl, ?_⟩
  refine iteF ?_
  refine ⟨.str "Other", rfl, ErrQ.ex fun a5 d5 H9 e9 hE9 => ?_⟩
  dsimp only [List.set]
  refine ⟨_, rfl, a5, E_F, d5, .str "Other", .non, .str "Other", rfl, hE9, KT.xf, KT.noW, errF_word, rfl, ?_⟩
  refine ⟨_, rfl, ?_⟩
  refine ite2 (fun _ => ?_) (fun c => absurd (decide_eq_true rfl) c)
  refine ⟨_, rfl, a5, E_F, d5, .str "Other", .non, .non, rfl, hE9, KT.xf, KT.noP, errF_place, ?_⟩
  refine ⟨rfl, _, rfl, ?_⟩
  refine ite2 (fun _ => ?_) (fun c => absurd (decide_eq_true rfl) c)
  exact ⟨_, rfl, a5, E_F, d5, .str "Other", .non, .ty "ValueError", .type "ValueError", true, rfl, hE9, EC, ic, fun _ h => h, kv, q H9⟩
end
theorem all_mk {l : PySem.W.OpenLaw} {w : World} {K : PySem.W.Frag} {h : Heap} {mg : Str → Option Value} {fa f0 f1 f2 f3 f4 f5 f6 f7 f8 f9 f10 f11 f12 : Addr} (X : K.In h) (G : h.Ns mainGlobals mg) (hfa : mg "law" = some (.ref fa))
    {od0 an0 od1 an1 od2 an2 od3 an3 od4 an4 od5 an5 od6 an6 od7 an7 od8 an8 od9 an9 od10 an10 od11 an11 od12 an12 : Option Addr} {sl0 sl1 sl2 sl3 sl4 sl5 sl6 sl7 sl8 sl9 sl10 sl11 sl12 : Array (Option Value)} {oc0 kV0 dc0 pm0 cd0 ct0 oc1 kV1 dc1 pm1 cd1 ct1 oc2 kV2 dc2 pm2 cd2 ct2 oc3 kV3 dc3 pm3 cd3 ct3 oc4 kV4 dc4 pm4 cd4 ct4 oc5 kV5 dc5 pm5 cd5 ct5 oc6 kV6 dc6 pm6 cd6 ct6 oc7 kV7 dc7 pm7 cd7 ct7 oc8 kV8 dc8 pm8 cd8 ct8 oc9 kV9 dc9 pm9 cd9 ct9 oc10 kV10 dc10 pm10 cd10 ct10 oc11 kV11 dc11 pm11 cd11 ct11 oc12 kV12 dc12 pm12 cd12 ct12 : Value}
    (a0 : PySem.W.nsIn K mainGlobals "_law_with_place_too" = some (some (.ref f0))) (l0 : K.lookup f0 = some ⟨oc0, od0, .func (PySem.W.fnOf "_law_with_place_too" "_law_with_place_too" (defArgs s_l_with_place_too) (defBody s_l_with_place_too) (defScope s_l_with_place_too) .none kV0 dc0 pm0 an0 cd0 ct0), sl0⟩) (c0 : PySem.W.codeIn K cd0 "_law_with_place_too" = true) (k0 : PySem.W.keepIn K (.ref f0) = true)
    (a1 : PySem.W.nsIn K mainGlobals "_law_with_place" = some (some (.ref f1))) (l1 : K.lookup f1 = some ⟨oc1, od1, .func (PySem.W.fnOf "_law_with_place" "_law_with_place" (defArgs s_l_with_place) (defBody s_l_with_place) (defScope s_l_with_place) .none kV1 dc1 pm1 an1 cd1 ct1), sl1⟩) (c1 : PySem.W.codeIn K cd1 "_law_with_place" = true) (k1 : PySem.W.keepIn K (.ref f1) = true)
    (a2 : PySem.W.nsIn K mainGlobals "_law_named_too" = some (some (.ref f2))) (l2 : K.lookup f2 = some ⟨oc2, od2, .func (PySem.W.fnOf "_law_named_too" "_law_named_too" (defArgs s_l_named_too) (defBody s_l_named_too) (defScope s_l_named_too) .none kV2 dc2 pm2 an2 cd2 ct2), sl2⟩) (c2 : PySem.W.codeIn K cd2 "_law_named_too" = true) (k2 : PySem.W.keepIn K (.ref f2) = true)
    (a3 : PySem.W.nsIn K mainGlobals "_law_named" = some (some (.ref f3))) (l3 : K.lookup f3 = some ⟨oc3, od3, .func (PySem.W.fnOf "_law_named" "_law_named" (defArgs s_l_named) (defBody s_l_named) (defScope s_l_named) .none kV3 dc3 pm3 an3 cd3 ct3), sl3⟩) (c3 : PySem.W.codeIn K cd3 "_law_named" = true) (k3 : PySem.W.keepIn K (.ref f3) = true)
    (a4 : PySem.W.nsIn K mainGlobals "_law_plain_too" = some (some (.ref f4))) (l4 : K.lookup f4 = some ⟨oc4, od4, .func (PySem.W.fnOf "_law_plain_too" "_law_plain_too" (defArgs s_l_plain_too) (defBody s_l_plain_too) (defScope s_l_plain_too) .none kV4 dc4 pm4 an4 cd4 ct4), sl4⟩) (c4 : PySem.W.codeIn K cd4 "_law_plain_too" = true) (k4 : PySem.W.keepIn K (.ref f4) = true)
    (a5 : PySem.W.nsIn K mainGlobals "_law_plain" = some (some (.ref f5))) (l5 : K.lookup f5 = some ⟨oc5, od5, .func (PySem.W.fnOf "_law_plain" "_law_plain" (defArgs s_l_plain) (defBody s_l_plain) (defScope s_l_plain) .none kV5 dc5 pm5 an5 cd5 ct5), sl5⟩) (c5 : PySem.W.codeIn K cd5 "_law_plain" = true) (k5 : PySem.W.keepIn K (.ref f5) = true)
    (a6 : PySem.W.nsIn K mainGlobals "_law_cell" = some (some (.ref f6))) (l6 : K.lookup f6 = some ⟨oc6, od6, .func (PySem.W.fnOf "_law_cell" "_law_cell" (defArgs s_l_cell) (defBody s_l_cell) (defScope s_l_cell) .none kV6 dc6 pm6 an6 cd6 ct6), sl6⟩) (c6 : PySem.W.codeIn K cd6 "_law_cell" = true) (k6 : PySem.W.keepIn K (.ref f6) = true)
    (a7 : PySem.W.nsIn K mainGlobals "_law_words" = some (some (.ref f7))) (l7 : K.lookup f7 = some ⟨oc7, od7, .func (PySem.W.fnOf "_law_words" "_law_words" (defArgs s_l_words) (defBody s_l_words) (defScope s_l_words) .none kV7 dc7 pm7 an7 cd7 ct7), sl7⟩) (c7 : PySem.W.codeIn K cd7 "_law_words" = true) (k7 : PySem.W.keepIn K (.ref f7) = true)
    (a8 : PySem.W.nsIn K mainGlobals "_law_kinds" = some (some (.ref f8))) (l8 : K.lookup f8 = some ⟨oc8, od8, .func (PySem.W.fnOf "_law_kinds" "_law_kinds" (defArgs s_l_kinds) (defBody s_l_kinds) (defScope s_l_kinds) .none kV8 dc8 pm8 an8 cd8 ct8), sl8⟩) (c8 : PySem.W.codeIn K cd8 "_law_kinds" = true) (k8 : PySem.W.keepIn K (.ref f8) = true)
    (a9 : PySem.W.nsIn K mainGlobals "_law_place" = some (some (.ref f9))) (l9 : K.lookup f9 = some ⟨oc9, od9, .func (PySem.W.fnOf "_law_place" "_law_place" (defArgs s_l_place) (defBody s_l_place) (defScope s_l_place) .none kV9 dc9 pm9 an9 cd9 ct9), sl9⟩) (c9 : PySem.W.codeIn K cd9 "_law_place" = true) (k9 : PySem.W.keepIn K (.ref f9) = true)
    (a10 : PySem.W.nsIn K mainGlobals "_law_fine" = some (some (.ref f10))) (l10 : K.lookup f10 = some ⟨oc10, od10, .func (PySem.W.fnOf "_law_fine" "_law_fine" (defArgs s_l_fine) (defBody s_l_fine) (defScope s_l_fine) .none kV10 dc10 pm10 an10 cd10 ct10), sl10⟩) (c10 : PySem.W.codeIn K cd10 "_law_fine" = true) (k10 : PySem.W.keepIn K (.ref f10) = true)
    (a11 : PySem.W.nsIn K mainGlobals "_law_raised" = some (some (.ref f11))) (l11 : K.lookup f11 = some ⟨oc11, od11, .func (PySem.W.fnOf "_law_raised" "_law_raised" (defArgs s_l_raised) (defBody s_l_raised) (defScope s_l_raised) .none kV11 dc11 pm11 an11 cd11 ct11), sl11⟩) (c11 : PySem.W.codeIn K cd11 "_law_raised" = true) (k11 : PySem.W.keepIn K (.ref f11) = true)
    (a12 : PySem.W.nsIn K mainGlobals "law" = some (some (.ref f12))) (l12 : K.lookup f12 = some ⟨oc12, od12, .func (PySem.W.fnOf "law" "law" (defArgs s_law) (defBody s_law) (defScope s_law) .none kV12 dc12 pm12 an12 cd12 ct12), sl12⟩) (c12 : PySem.W.codeIn K cd12 "law" = true) (k12 : PySem.W.keepIn K (.ref f12) = true)
    (z_ValueError : PySem.W.nsIn K mainGlobals "ValueError" = some none)
    (z_int : PySem.W.nsIn K mainGlobals "int" = some none)
    (z_isinstance : PySem.W.nsIn K mainGlobals "isinstance" = some none)
    (z_len : PySem.W.nsIn K mainGlobals "len" = some none)
    (z_range : PySem.W.nsIn K mainGlobals "range" = some none)
    (z_repr : PySem.W.nsIn K mainGlobals "repr" = some none)
    (z_str : PySem.W.nsIn K mainGlobals "str" = some none)
    {eZ0 : Addr} {fZ0 dTZ0 : Addr} {odZ0 odTZ0 anZ0 : Option Addr} {slZ0 slTZ0 : Array (Option Value)} {nTZ0 : Nat} {ocZ0 kVZ0 dcZ0 pmZ0 cdZ0 ctZ0 : Value} (aZ0 : PySem.W.nsIn K mainGlobals "FilmError" = some (some (.ref eZ0))) (rZ0 : PySem.W.readsIn K eZ0 (.type "type") = true) (gZ0 : PySem.W.specialIn K (.ref eZ0) "__getattribute__" = some (some (.builtin "type.__getattribute__"))) (iZ0 : PySem.W.findCls K (.ref eZ0) (.type "type") "__init__" = some (.val (.ref fZ0))) (vZ0 : PySem.W.findCls K (.type "ValueError") (.type "type") "__init__" = some (.val (.builtin "ValueError.__init__"))) (wZ0 : PySem.W.nsIn K mainGlobals "ValueError" = some none) (lZ0 : K.lookup fZ0 = some ⟨ocZ0, odZ0, .func (PySem.W.fnOf "__init__" "FilmError.__init__" (defArgs s_FilmErr) (defBody s_FilmErr) (defScope s_FilmErr) (.ref dTZ0) kVZ0 dcZ0 pmZ0 anZ0 cdZ0 ctZ0), slZ0⟩) (cZ0 : PySem.W.codeIn K cdZ0 "FilmError.__init__" = true) (kZ0 : PySem.W.keepIn K (.ref fZ0) = true) (dZ0 : K.lookup dTZ0 = some ⟨.type "tuple", odTZ0, .seq #[.none] nTZ0, slTZ0⟩)
{nmZ0 qZ0 : Str} {NZ0 : Addr} {bsZ0 : List Value} {snZ0 : List Str} {subZ0 : List Value} {abZ0 : Bool} {colZ0 : Option Bool} {ddZ0 : Option Addr} {m0Z0 m1Z0 m2Z0 m3Z0 m5Z0 : Option Value} (xZ0 : K.lookup eZ0 = some (excClassObj nmZ0 qZ0 eZ0 NZ0 bsZ0 [.type "ValueError", .type "Exception", .type "BaseException", .type "object"] true snZ0 subZ0 abZ0 colZ0 ddZ0 m0Z0 m1Z0 m2Z0 m3Z0 m5Z0 "ValueError.__new__")) (saZ0 : PySem.W.findIn K (.ref eZ0) "__setattr__" = some (some (.builtin "object.__setattr__"))) (gaZ0 : PySem.W.findIn K (.ref eZ0) "__getattribute__" = some (some (.builtin "BaseException.__getattribute__"))) (ggZ0 : PySem.W.findIn K (.ref eZ0) "__getattr__" = some none) (nwZ0 : PySem.W.findIn K (.ref eZ0) "word" = some none) (npZ0 : PySem.W.findIn K (.ref eZ0) "place" = some none) (ifZ0 : PySem.W.findIn K (.ref eZ0) "__init__" = some (some (.ref fZ0))) (tZ0 : PySem.W.typeIn K (.ref fZ0) = some (.type "function")) (keZ0 : PySem.W.keepIn K (.ref eZ0) = true) (exZ0 : PySem.W.subIn K (.ref eZ0) (.type "BaseException") = some true) (tyZ0 : PySem.W.typeIn K (.ref eZ0) = some (.type "type")) (hdZ0 : PySem.W.hasDictIn K eZ0 = true) (icZ0 : PySem.W.isClsIn K eZ0 = true) (scZ0 : PySem.W.subIn K (.ref eZ0) (.ref eZ0) = some true) (haZ0 : PySem.W.findIn K (.ref eZ0) "__class__" = some (some (.builtin "object.__class__"))) (hmZ0 : PySem.W.mroIn K eZ0 (.type "object") = some true) (hnE : PySem.W.specialIn K (.builtin "object.__class__") "__get__" = some (some (.builtin "getset_descriptor.__get__"))) (htE : PySem.W.takesIn K (.builtin "object.__class__") = some true)
    {eZ1 : Addr} {nmZ1 qZ1 : Str} {NZ1 : Addr} {bsZ1 : List Value} {snZ1 : List Str} {subZ1 : List Value} {abZ1 : Bool} {colZ1 : Option Bool} {ddZ1 : Option Addr} {m0Z1 m1Z1 m2Z1 m3Z1 m5Z1 : Option Value} {fZ1 dTZ1 : Addr} {odZ1 odTZ1 anZ1 : Option Addr} {slZ1 slTZ1 : Array (Option Value)} {nTZ1 : Nat} {ocZ1 kVZ1 dcZ1 pmZ1 cdZ1 ctZ1 : Value} (aZ1 : PySem.W.nsIn K mainGlobals "BadLine" = some (some (.ref eZ1))) (xZ1 : K.lookup eZ1 = some (excClassObj nmZ1 qZ1 eZ1 NZ1 bsZ1 [.ref eZ0, .type "ValueError", .type "Exception", .type "BaseException", .type "object"] true snZ1 subZ1 abZ1 colZ1 ddZ1 m0Z1 m1Z1 m2Z1 m3Z1 m5Z1 "ValueError.__new__")) (saZ1 : PySem.W.findIn K (.ref eZ1) "__setattr__" = some (some (.builtin "object.__setattr__"))) (gaZ1 : PySem.W.findIn K (.ref eZ1) "__getattribute__" = some (some (.builtin "BaseException.__getattribute__"))) (ggZ1 : PySem.W.findIn K (.ref eZ1) "__getattr__" = some none) (nwZ1 : PySem.W.findIn K (.ref eZ1) "word" = some none) (npZ1 : PySem.W.findIn K (.ref eZ1) "place" = some none) (iZ1 : PySem.W.findIn K (.ref eZ1) "__init__" = some (some (.ref fZ1))) (tZ1 : PySem.W.typeIn K (.ref fZ1) = some (.type "function")) (keZ1 : PySem.W.keepIn K (.ref eZ1) = true) (exZ1 : PySem.W.subIn K (.ref eZ1) (.type "BaseException") = some true) (tyZ1 : PySem.W.typeIn K (.ref eZ1) = some (.type "type")) (hdZ1 : PySem.W.hasDictIn K eZ1 = true) (icZ1 : PySem.W.isClsIn K eZ1 = true) (scZ1 : PySem.W.subIn K (.ref eZ1) (.ref eZ1) = some true) (lZ1 : K.lookup fZ1 = some ⟨ocZ1, odZ1, .func (PySem.W.fnOf "__init__" "BadLine.__init__" (defArgs s_BadLine) (defBody s_BadLine) (defScope s_BadLine) (.ref dTZ1) kVZ1 dcZ1 pmZ1 anZ1 cdZ1 ctZ1), slZ1⟩) (cZ1 : PySem.W.codeIn K cdZ1 "BadLine.__init__" = true) (kZ1 : PySem.W.keepIn K (.ref fZ1) = true) (dZ1 : K.lookup dTZ1 = some ⟨.type "tuple", odTZ1, .seq #[.none] nTZ1, slTZ1⟩)
(haZ1 : PySem.W.findIn K (.ref eZ1) "__class__" = some (some (.builtin "object.__class__"))) (hmZ1 : PySem.W.mroIn K eZ1 (.type "object") = some true)
    {eZ2 : Addr} {nmZ2 qZ2 : Str} {NZ2 : Addr} {bsZ2 : List Value} {snZ2 : List Str} {subZ2 : List Value} {abZ2 : Bool} {colZ2 : Option Bool} {ddZ2 : Option Addr} {m0Z2 m1Z2 m2Z2 m3Z2 m5Z2 : Option Value} {fZ2 dTZ2 : Addr} {odZ2 odTZ2 anZ2 : Option Addr} {slZ2 slTZ2 : Array (Option Value)} {nTZ2 : Nat} {ocZ2 kVZ2 dcZ2 pmZ2 cdZ2 ctZ2 : Value} (aZ2 : PySem.W.nsIn K mainGlobals "BadFilm" = some (some (.ref eZ2))) (xZ2 : K.lookup eZ2 = some (excClassObj nmZ2 qZ2 eZ2 NZ2 bsZ2 [.ref eZ0, .type "ValueError", .type "Exception", .type "BaseException", .type "object"] true snZ2 subZ2 abZ2 colZ2 ddZ2 m0Z2 m1Z2 m2Z2 m3Z2 m5Z2 "ValueError.__new__")) (saZ2 : PySem.W.findIn K (.ref eZ2) "__setattr__" = some (some (.builtin "object.__setattr__"))) (gaZ2 : PySem.W.findIn K (.ref eZ2) "__getattribute__" = some (some (.builtin "BaseException.__getattribute__"))) (ggZ2 : PySem.W.findIn K (.ref eZ2) "__getattr__" = some none) (nwZ2 : PySem.W.findIn K (.ref eZ2) "word" = some none) (npZ2 : PySem.W.findIn K (.ref eZ2) "place" = some none) (iZ2 : PySem.W.findIn K (.ref eZ2) "__init__" = some (some (.ref fZ2))) (tZ2 : PySem.W.typeIn K (.ref fZ2) = some (.type "function")) (keZ2 : PySem.W.keepIn K (.ref eZ2) = true) (exZ2 : PySem.W.subIn K (.ref eZ2) (.type "BaseException") = some true) (tyZ2 : PySem.W.typeIn K (.ref eZ2) = some (.type "type")) (hdZ2 : PySem.W.hasDictIn K eZ2 = true) (icZ2 : PySem.W.isClsIn K eZ2 = true) (scZ2 : PySem.W.subIn K (.ref eZ2) (.ref eZ2) = some true) (lZ2 : K.lookup fZ2 = some ⟨ocZ2, odZ2, .func (PySem.W.fnOf "__init__" "BadFilm.__init__" (defArgs s_BadFilm) (defBody s_BadFilm) (defScope s_BadFilm) (.ref dTZ2) kVZ2 dcZ2 pmZ2 anZ2 cdZ2 ctZ2), slZ2⟩) (cZ2 : PySem.W.codeIn K cdZ2 "BadFilm.__init__" = true) (kZ2 : PySem.W.keepIn K (.ref fZ2) = true) (dZ2 : K.lookup dTZ2 = some ⟨.type "tuple", odTZ2, .seq #[.none] nTZ2, slTZ2⟩)
(haZ2 : PySem.W.findIn K (.ref eZ2) "__class__" = some (some (.builtin "object.__class__"))) (hmZ2 : PySem.W.mroIn K eZ2 (.type "object") = some true)
    {eZ3 : Addr} {nmZ3 qZ3 : Str} {NZ3 : Addr} {bsZ3 : List Value} {snZ3 : List Str} {subZ3 : List Value} {abZ3 : Bool} {colZ3 : Option Bool} {ddZ3 : Option Addr} {m0Z3 m1Z3 m2Z3 m3Z3 m5Z3 : Option Value} {fZ3 dTZ3 : Addr} {odZ3 odTZ3 anZ3 : Option Addr} {slZ3 slTZ3 : Array (Option Value)} {nTZ3 : Nat} {ocZ3 kVZ3 dcZ3 pmZ3 cdZ3 ctZ3 : Value} (aZ3 : PySem.W.nsIn K mainGlobals "BadLayer" = some (some (.ref eZ3))) (xZ3 : K.lookup eZ3 = some (excClassObj nmZ3 qZ3 eZ3 NZ3 bsZ3 [.ref eZ0, .type "ValueError", .type "Exception", .type "BaseException", .type "object"] true snZ3 subZ3 abZ3 colZ3 ddZ3 m0Z3 m1Z3 m2Z3 m3Z3 m5Z3 "ValueError.__new__")) (saZ3 : PySem.W.findIn K (.ref eZ3) "__setattr__" = some (some (.builtin "object.__setattr__"))) (gaZ3 : PySem.W.findIn K (.ref eZ3) "__getattribute__" = some (some (.builtin "BaseException.__getattribute__"))) (ggZ3 : PySem.W.findIn K (.ref eZ3) "__getattr__" = some none) (nwZ3 : PySem.W.findIn K (.ref eZ3) "word" = some none) (npZ3 : PySem.W.findIn K (.ref eZ3) "place" = some none) (iZ3 : PySem.W.findIn K (.ref eZ3) "__init__" = some (some (.ref fZ3))) (tZ3 : PySem.W.typeIn K (.ref fZ3) = some (.type "function")) (keZ3 : PySem.W.keepIn K (.ref eZ3) = true) (exZ3 : PySem.W.subIn K (.ref eZ3) (.type "BaseException") = some true) (tyZ3 : PySem.W.typeIn K (.ref eZ3) = some (.type "type")) (hdZ3 : PySem.W.hasDictIn K eZ3 = true) (icZ3 : PySem.W.isClsIn K eZ3 = true) (scZ3 : PySem.W.subIn K (.ref eZ3) (.ref eZ3) = some true) (lZ3 : K.lookup fZ3 = some ⟨ocZ3, odZ3, .func (PySem.W.fnOf "__init__" "BadLayer.__init__" (defArgs s_BadLayer) (defBody s_BadLayer) (defScope s_BadLayer) (.ref dTZ3) kVZ3 dcZ3 pmZ3 anZ3 cdZ3 ctZ3), slZ3⟩) (cZ3 : PySem.W.codeIn K cdZ3 "BadLayer.__init__" = true) (kZ3 : PySem.W.keepIn K (.ref fZ3) = true) (dZ3 : K.lookup dTZ3 = some ⟨.type "tuple", odTZ3, .seq #[.none] nTZ3, slTZ3⟩)
(haZ3 : PySem.W.findIn K (.ref eZ3) "__class__" = some (some (.builtin "object.__class__"))) (hmZ3 : PySem.W.mroIn K eZ3 (.type "object") = some true)
    {eZ4 : Addr} {nmZ4 qZ4 : Str} {NZ4 : Addr} {bsZ4 : List Value} {snZ4 : List Str} {subZ4 : List Value} {abZ4 : Bool} {colZ4 : Option Bool} {ddZ4 : Option Addr} {m0Z4 m1Z4 m2Z4 m3Z4 m5Z4 : Option Value} {fZ4 dTZ4 : Addr} {odZ4 odTZ4 anZ4 : Option Addr} {slZ4 slTZ4 : Array (Option Value)} {nTZ4 : Nat} {ocZ4 kVZ4 dcZ4 pmZ4 cdZ4 ctZ4 : Value} (aZ4 : PySem.W.nsIn K mainGlobals "DuplicateLayer" = some (some (.ref eZ4))) (xZ4 : K.lookup eZ4 = some (excClassObj nmZ4 qZ4 eZ4 NZ4 bsZ4 [.ref eZ0, .type "ValueError", .type "Exception", .type "BaseException", .type "object"] true snZ4 subZ4 abZ4 colZ4 ddZ4 m0Z4 m1Z4 m2Z4 m3Z4 m5Z4 "ValueError.__new__")) (saZ4 : PySem.W.findIn K (.ref eZ4) "__setattr__" = some (some (.builtin "object.__setattr__"))) (gaZ4 : PySem.W.findIn K (.ref eZ4) "__getattribute__" = some (some (.builtin "BaseException.__getattribute__"))) (ggZ4 : PySem.W.findIn K (.ref eZ4) "__getattr__" = some none) (nwZ4 : PySem.W.findIn K (.ref eZ4) "word" = some none) (npZ4 : PySem.W.findIn K (.ref eZ4) "place" = some none) (iZ4 : PySem.W.findIn K (.ref eZ4) "__init__" = some (some (.ref fZ4))) (tZ4 : PySem.W.typeIn K (.ref fZ4) = some (.type "function")) (keZ4 : PySem.W.keepIn K (.ref eZ4) = true) (exZ4 : PySem.W.subIn K (.ref eZ4) (.type "BaseException") = some true) (tyZ4 : PySem.W.typeIn K (.ref eZ4) = some (.type "type")) (hdZ4 : PySem.W.hasDictIn K eZ4 = true) (icZ4 : PySem.W.isClsIn K eZ4 = true) (scZ4 : PySem.W.subIn K (.ref eZ4) (.ref eZ4) = some true) (lZ4 : K.lookup fZ4 = some ⟨ocZ4, odZ4, .func (PySem.W.fnOf "__init__" "DuplicateLayer.__init__" (defArgs s_DuplicateLayer) (defBody s_DuplicateLayer) (defScope s_DuplicateLayer) (.ref dTZ4) kVZ4 dcZ4 pmZ4 anZ4 cdZ4 ctZ4), slZ4⟩) (cZ4 : PySem.W.codeIn K cdZ4 "DuplicateLayer.__init__" = true) (kZ4 : PySem.W.keepIn K (.ref fZ4) = true) (dZ4 : K.lookup dTZ4 = some ⟨.type "tuple", odTZ4, .seq #[.none] nTZ4, slTZ4⟩)
(haZ4 : PySem.W.findIn K (.ref eZ4) "__class__" = some (some (.builtin "object.__class__"))) (hmZ4 : PySem.W.mroIn K eZ4 (.type "object") = some true)
    {eZ5 : Addr} {nmZ5 qZ5 : Str} {NZ5 : Addr} {bsZ5 : List Value} {snZ5 : List Str} {subZ5 : List Value} {abZ5 : Bool} {colZ5 : Option Bool} {ddZ5 : Option Addr} {m0Z5 m1Z5 m2Z5 m3Z5 m5Z5 : Option Value} {fZ5 dTZ5 : Addr} {odZ5 odTZ5 anZ5 : Option Addr} {slZ5 slTZ5 : Array (Option Value)} {nTZ5 : Nat} {ocZ5 kVZ5 dcZ5 pmZ5 cdZ5 ctZ5 : Value} (aZ5 : PySem.W.nsIn K mainGlobals "UnknownLayer" = some (some (.ref eZ5))) (xZ5 : K.lookup eZ5 = some (excClassObj nmZ5 qZ5 eZ5 NZ5 bsZ5 [.ref eZ0, .type "ValueError", .type "Exception", .type "BaseException", .type "object"] true snZ5 subZ5 abZ5 colZ5 ddZ5 m0Z5 m1Z5 m2Z5 m3Z5 m5Z5 "ValueError.__new__")) (saZ5 : PySem.W.findIn K (.ref eZ5) "__setattr__" = some (some (.builtin "object.__setattr__"))) (gaZ5 : PySem.W.findIn K (.ref eZ5) "__getattribute__" = some (some (.builtin "BaseException.__getattribute__"))) (ggZ5 : PySem.W.findIn K (.ref eZ5) "__getattr__" = some none) (nwZ5 : PySem.W.findIn K (.ref eZ5) "word" = some none) (npZ5 : PySem.W.findIn K (.ref eZ5) "place" = some none) (iZ5 : PySem.W.findIn K (.ref eZ5) "__init__" = some (some (.ref fZ5))) (tZ5 : PySem.W.typeIn K (.ref fZ5) = some (.type "function")) (keZ5 : PySem.W.keepIn K (.ref eZ5) = true) (exZ5 : PySem.W.subIn K (.ref eZ5) (.type "BaseException") = some true) (tyZ5 : PySem.W.typeIn K (.ref eZ5) = some (.type "type")) (hdZ5 : PySem.W.hasDictIn K eZ5 = true) (icZ5 : PySem.W.isClsIn K eZ5 = true) (scZ5 : PySem.W.subIn K (.ref eZ5) (.ref eZ5) = some true) (lZ5 : K.lookup fZ5 = some ⟨ocZ5, odZ5, .func (PySem.W.fnOf "__init__" "UnknownLayer.__init__" (defArgs s_UnknownLayer) (defBody s_UnknownLayer) (defScope s_UnknownLayer) (.ref dTZ5) kVZ5 dcZ5 pmZ5 anZ5 cdZ5 ctZ5), slZ5⟩) (cZ5 : PySem.W.codeIn K cdZ5 "UnknownLayer.__init__" = true) (kZ5 : PySem.W.keepIn K (.ref fZ5) = true) (dZ5 : K.lookup dTZ5 = some ⟨.type "tuple", odTZ5, .seq #[.none] nTZ5, slTZ5⟩)
(haZ5 : PySem.W.findIn K (.ref eZ5) "__class__" = some (some (.builtin "object.__class__"))) (hmZ5 : PySem.W.mroIn K eZ5 (.type "object") = some true)
    {eZ6 : Addr} {nmZ6 qZ6 : Str} {NZ6 : Addr} {bsZ6 : List Value} {snZ6 : List Str} {subZ6 : List Value} {abZ6 : Bool} {colZ6 : Option Bool} {ddZ6 : Option Addr} {m0Z6 m1Z6 m2Z6 m3Z6 m5Z6 : Option Value} {fZ6 dTZ6 : Addr} {odZ6 odTZ6 anZ6 : Option Addr} {slZ6 slTZ6 : Array (Option Value)} {nTZ6 : Nat} {ocZ6 kVZ6 dcZ6 pmZ6 cdZ6 ctZ6 : Value} (aZ6 : PySem.W.nsIn K mainGlobals "BadFrame" = some (some (.ref eZ6))) (xZ6 : K.lookup eZ6 = some (excClassObj nmZ6 qZ6 eZ6 NZ6 bsZ6 [.ref eZ0, .type "ValueError", .type "Exception", .type "BaseException", .type "object"] true snZ6 subZ6 abZ6 colZ6 ddZ6 m0Z6 m1Z6 m2Z6 m3Z6 m5Z6 "ValueError.__new__")) (saZ6 : PySem.W.findIn K (.ref eZ6) "__setattr__" = some (some (.builtin "object.__setattr__"))) (gaZ6 : PySem.W.findIn K (.ref eZ6) "__getattribute__" = some (some (.builtin "BaseException.__getattribute__"))) (ggZ6 : PySem.W.findIn K (.ref eZ6) "__getattr__" = some none) (nwZ6 : PySem.W.findIn K (.ref eZ6) "word" = some none) (npZ6 : PySem.W.findIn K (.ref eZ6) "place" = some none) (iZ6 : PySem.W.findIn K (.ref eZ6) "__init__" = some (some (.ref fZ6))) (tZ6 : PySem.W.typeIn K (.ref fZ6) = some (.type "function")) (keZ6 : PySem.W.keepIn K (.ref eZ6) = true) (exZ6 : PySem.W.subIn K (.ref eZ6) (.type "BaseException") = some true) (tyZ6 : PySem.W.typeIn K (.ref eZ6) = some (.type "type")) (hdZ6 : PySem.W.hasDictIn K eZ6 = true) (icZ6 : PySem.W.isClsIn K eZ6 = true) (scZ6 : PySem.W.subIn K (.ref eZ6) (.ref eZ6) = some true) (lZ6 : K.lookup fZ6 = some ⟨ocZ6, odZ6, .func (PySem.W.fnOf "__init__" "BadFrame.__init__" (defArgs s_BadFrame) (defBody s_BadFrame) (defScope s_BadFrame) (.ref dTZ6) kVZ6 dcZ6 pmZ6 anZ6 cdZ6 ctZ6), slZ6⟩) (cZ6 : PySem.W.codeIn K cdZ6 "BadFrame.__init__" = true) (kZ6 : PySem.W.keepIn K (.ref fZ6) = true) (dZ6 : K.lookup dTZ6 = some ⟨.type "tuple", odTZ6, .seq #[.none] nTZ6, slTZ6⟩)
(haZ6 : PySem.W.findIn K (.ref eZ6) "__class__" = some (some (.builtin "object.__class__"))) (hmZ6 : PySem.W.mroIn K eZ6 (.type "object") = some true)
    {eZ7 : Addr} {nmZ7 qZ7 : Str} {NZ7 : Addr} {bsZ7 : List Value} {snZ7 : List Str} {subZ7 : List Value} {abZ7 : Bool} {colZ7 : Option Bool} {ddZ7 : Option Addr} {m0Z7 m1Z7 m2Z7 m3Z7 m5Z7 : Option Value} {fZ7 dTZ7 : Addr} {odZ7 odTZ7 anZ7 : Option Addr} {slZ7 slTZ7 : Array (Option Value)} {nTZ7 : Nat} {ocZ7 kVZ7 dcZ7 pmZ7 cdZ7 ctZ7 : Value} (aZ7 : PySem.W.nsIn K mainGlobals "BadClip" = some (some (.ref eZ7))) (xZ7 : K.lookup eZ7 = some (excClassObj nmZ7 qZ7 eZ7 NZ7 bsZ7 [.ref eZ0, .type "ValueError", .type "Exception", .type "BaseException", .type "object"] true snZ7 subZ7 abZ7 colZ7 ddZ7 m0Z7 m1Z7 m2Z7 m3Z7 m5Z7 "ValueError.__new__")) (saZ7 : PySem.W.findIn K (.ref eZ7) "__setattr__" = some (some (.builtin "object.__setattr__"))) (gaZ7 : PySem.W.findIn K (.ref eZ7) "__getattribute__" = some (some (.builtin "BaseException.__getattribute__"))) (ggZ7 : PySem.W.findIn K (.ref eZ7) "__getattr__" = some none) (nwZ7 : PySem.W.findIn K (.ref eZ7) "word" = some none) (npZ7 : PySem.W.findIn K (.ref eZ7) "place" = some none) (iZ7 : PySem.W.findIn K (.ref eZ7) "__init__" = some (some (.ref fZ7))) (tZ7 : PySem.W.typeIn K (.ref fZ7) = some (.type "function")) (keZ7 : PySem.W.keepIn K (.ref eZ7) = true) (exZ7 : PySem.W.subIn K (.ref eZ7) (.type "BaseException") = some true) (tyZ7 : PySem.W.typeIn K (.ref eZ7) = some (.type "type")) (hdZ7 : PySem.W.hasDictIn K eZ7 = true) (icZ7 : PySem.W.isClsIn K eZ7 = true) (scZ7 : PySem.W.subIn K (.ref eZ7) (.ref eZ7) = some true) (lZ7 : K.lookup fZ7 = some ⟨ocZ7, odZ7, .func (PySem.W.fnOf "__init__" "BadClip.__init__" (defArgs s_BadClip) (defBody s_BadClip) (defScope s_BadClip) (.ref dTZ7) kVZ7 dcZ7 pmZ7 anZ7 cdZ7 ctZ7), slZ7⟩) (cZ7 : PySem.W.codeIn K cdZ7 "BadClip.__init__" = true) (kZ7 : PySem.W.keepIn K (.ref fZ7) = true) (dZ7 : K.lookup dTZ7 = some ⟨.type "tuple", odTZ7, .seq #[.none] nTZ7, slTZ7⟩)
(haZ7 : PySem.W.findIn K (.ref eZ7) "__class__" = some (some (.builtin "object.__class__"))) (hmZ7 : PySem.W.mroIn K eZ7 (.type "object") = some true)
    {eZ8 : Addr} {nmZ8 qZ8 : Str} {NZ8 : Addr} {bsZ8 : List Value} {snZ8 : List Str} {subZ8 : List Value} {abZ8 : Bool} {colZ8 : Option Bool} {ddZ8 : Option Addr} {m0Z8 m1Z8 m2Z8 m3Z8 m5Z8 : Option Value} {fZ8 dTZ8 : Addr} {odZ8 odTZ8 anZ8 : Option Addr} {slZ8 slTZ8 : Array (Option Value)} {nTZ8 : Nat} {ocZ8 kVZ8 dcZ8 pmZ8 cdZ8 ctZ8 : Value} (aZ8 : PySem.W.nsIn K mainGlobals "BadCut" = some (some (.ref eZ8))) (xZ8 : K.lookup eZ8 = some (excClassObj nmZ8 qZ8 eZ8 NZ8 bsZ8 [.ref eZ0, .type "ValueError", .type "Exception", .type "BaseException", .type "object"] true snZ8 subZ8 abZ8 colZ8 ddZ8 m0Z8 m1Z8 m2Z8 m3Z8 m5Z8 "ValueError.__new__")) (saZ8 : PySem.W.findIn K (.ref eZ8) "__setattr__" = some (some (.builtin "object.__setattr__"))) (gaZ8 : PySem.W.findIn K (.ref eZ8) "__getattribute__" = some (some (.builtin "BaseException.__getattribute__"))) (ggZ8 : PySem.W.findIn K (.ref eZ8) "__getattr__" = some none) (nwZ8 : PySem.W.findIn K (.ref eZ8) "word" = some none) (npZ8 : PySem.W.findIn K (.ref eZ8) "place" = some none) (iZ8 : PySem.W.findIn K (.ref eZ8) "__init__" = some (some (.ref fZ8))) (tZ8 : PySem.W.typeIn K (.ref fZ8) = some (.type "function")) (keZ8 : PySem.W.keepIn K (.ref eZ8) = true) (exZ8 : PySem.W.subIn K (.ref eZ8) (.type "BaseException") = some true) (tyZ8 : PySem.W.typeIn K (.ref eZ8) = some (.type "type")) (hdZ8 : PySem.W.hasDictIn K eZ8 = true) (icZ8 : PySem.W.isClsIn K eZ8 = true) (scZ8 : PySem.W.subIn K (.ref eZ8) (.ref eZ8) = some true) (lZ8 : K.lookup fZ8 = some ⟨ocZ8, odZ8, .func (PySem.W.fnOf "__init__" "BadCut.__init__" (defArgs s_BadCut) (defBody s_BadCut) (defScope s_BadCut) (.ref dTZ8) kVZ8 dcZ8 pmZ8 anZ8 cdZ8 ctZ8), slZ8⟩) (cZ8 : PySem.W.codeIn K cdZ8 "BadCut.__init__" = true) (kZ8 : PySem.W.keepIn K (.ref fZ8) = true) (dZ8 : K.lookup dTZ8 = some ⟨.type "tuple", odTZ8, .seq #[.none] nTZ8, slTZ8⟩)
(haZ8 : PySem.W.findIn K (.ref eZ8) "__class__" = some (some (.builtin "object.__class__"))) (hmZ8 : PySem.W.mroIn K eZ8 (.type "object") = some true)
    {eZ9 : Addr} {nmZ9 qZ9 : Str} {NZ9 : Addr} {bsZ9 : List Value} {snZ9 : List Str} {subZ9 : List Value} {abZ9 : Bool} {colZ9 : Option Bool} {ddZ9 : Option Addr} {m0Z9 m1Z9 m2Z9 m3Z9 m5Z9 : Option Value} {fZ9 dTZ9 : Addr} {odZ9 odTZ9 anZ9 : Option Addr} {slZ9 slTZ9 : Array (Option Value)} {nTZ9 : Nat} {ocZ9 kVZ9 dcZ9 pmZ9 cdZ9 ctZ9 : Value} (aZ9 : PySem.W.nsIn K mainGlobals "BadEdit" = some (some (.ref eZ9))) (xZ9 : K.lookup eZ9 = some (excClassObj nmZ9 qZ9 eZ9 NZ9 bsZ9 [.ref eZ0, .type "ValueError", .type "Exception", .type "BaseException", .type "object"] true snZ9 subZ9 abZ9 colZ9 ddZ9 m0Z9 m1Z9 m2Z9 m3Z9 m5Z9 "ValueError.__new__")) (saZ9 : PySem.W.findIn K (.ref eZ9) "__setattr__" = some (some (.builtin "object.__setattr__"))) (gaZ9 : PySem.W.findIn K (.ref eZ9) "__getattribute__" = some (some (.builtin "BaseException.__getattribute__"))) (ggZ9 : PySem.W.findIn K (.ref eZ9) "__getattr__" = some none) (nwZ9 : PySem.W.findIn K (.ref eZ9) "word" = some none) (npZ9 : PySem.W.findIn K (.ref eZ9) "place" = some none) (iZ9 : PySem.W.findIn K (.ref eZ9) "__init__" = some (some (.ref fZ9))) (tZ9 : PySem.W.typeIn K (.ref fZ9) = some (.type "function")) (keZ9 : PySem.W.keepIn K (.ref eZ9) = true) (exZ9 : PySem.W.subIn K (.ref eZ9) (.type "BaseException") = some true) (tyZ9 : PySem.W.typeIn K (.ref eZ9) = some (.type "type")) (hdZ9 : PySem.W.hasDictIn K eZ9 = true) (icZ9 : PySem.W.isClsIn K eZ9 = true) (scZ9 : PySem.W.subIn K (.ref eZ9) (.ref eZ9) = some true) (lZ9 : K.lookup fZ9 = some ⟨ocZ9, odZ9, .func (PySem.W.fnOf "__init__" "BadEdit.__init__" (defArgs s_BadEdit) (defBody s_BadEdit) (defScope s_BadEdit) (.ref dTZ9) kVZ9 dcZ9 pmZ9 anZ9 cdZ9 ctZ9), slZ9⟩) (cZ9 : PySem.W.codeIn K cdZ9 "BadEdit.__init__" = true) (kZ9 : PySem.W.keepIn K (.ref fZ9) = true) (dZ9 : K.lookup dTZ9 = some ⟨.type "tuple", odTZ9, .seq #[.none] nTZ9, slTZ9⟩)
(haZ9 : PySem.W.findIn K (.ref eZ9) "__class__" = some (some (.builtin "object.__class__"))) (hmZ9 : PySem.W.mroIn K eZ9 (.type "object") = some true)
    {eZ10 : Addr} {nmZ10 qZ10 : Str} {NZ10 : Addr} {bsZ10 : List Value} {snZ10 : List Str} {subZ10 : List Value} {abZ10 : Bool} {colZ10 : Option Bool} {ddZ10 : Option Addr} {m0Z10 m1Z10 m2Z10 m3Z10 m5Z10 : Option Value} {fZ10 dTZ10 : Addr} {odZ10 odTZ10 anZ10 : Option Addr} {slZ10 slTZ10 : Array (Option Value)} {nTZ10 : Nat} {ocZ10 kVZ10 dcZ10 pmZ10 cdZ10 ctZ10 : Value} (aZ10 : PySem.W.nsIn K mainGlobals "NothingToUndo" = some (some (.ref eZ10))) (xZ10 : K.lookup eZ10 = some (excClassObj nmZ10 qZ10 eZ10 NZ10 bsZ10 [.ref eZ0, .type "ValueError", .type "Exception", .type "BaseException", .type "object"] true snZ10 subZ10 abZ10 colZ10 ddZ10 m0Z10 m1Z10 m2Z10 m3Z10 m5Z10 "ValueError.__new__")) (saZ10 : PySem.W.findIn K (.ref eZ10) "__setattr__" = some (some (.builtin "object.__setattr__"))) (gaZ10 : PySem.W.findIn K (.ref eZ10) "__getattribute__" = some (some (.builtin "BaseException.__getattribute__"))) (ggZ10 : PySem.W.findIn K (.ref eZ10) "__getattr__" = some none) (nwZ10 : PySem.W.findIn K (.ref eZ10) "word" = some none) (npZ10 : PySem.W.findIn K (.ref eZ10) "place" = some none) (iZ10 : PySem.W.findIn K (.ref eZ10) "__init__" = some (some (.ref fZ10))) (tZ10 : PySem.W.typeIn K (.ref fZ10) = some (.type "function")) (keZ10 : PySem.W.keepIn K (.ref eZ10) = true) (exZ10 : PySem.W.subIn K (.ref eZ10) (.type "BaseException") = some true) (tyZ10 : PySem.W.typeIn K (.ref eZ10) = some (.type "type")) (hdZ10 : PySem.W.hasDictIn K eZ10 = true) (icZ10 : PySem.W.isClsIn K eZ10 = true) (scZ10 : PySem.W.subIn K (.ref eZ10) (.ref eZ10) = some true) (lZ10 : K.lookup fZ10 = some ⟨ocZ10, odZ10, .func (PySem.W.fnOf "__init__" "NothingToUndo.__init__" (defArgs s_NothingToUndo) (defBody s_NothingToUndo) (defScope s_NothingToUndo) (.ref dTZ10) kVZ10 dcZ10 pmZ10 anZ10 cdZ10 ctZ10), slZ10⟩) (cZ10 : PySem.W.codeIn K cdZ10 "NothingToUndo.__init__" = true) (kZ10 : PySem.W.keepIn K (.ref fZ10) = true) (dZ10 : K.lookup dTZ10 = some ⟨.type "tuple", odTZ10, .seq #[.none] nTZ10, slTZ10⟩)
(haZ10 : PySem.W.findIn K (.ref eZ10) "__class__" = some (some (.builtin "object.__class__"))) (hmZ10 : PySem.W.mroIn K eZ10 (.type "object") = some true)
    {eZ11 : Addr} {nmZ11 qZ11 : Str} {NZ11 : Addr} {bsZ11 : List Value} {snZ11 : List Str} {subZ11 : List Value} {abZ11 : Bool} {colZ11 : Option Bool} {ddZ11 : Option Addr} {m0Z11 m1Z11 m2Z11 m3Z11 m5Z11 : Option Value} {fZ11 dTZ11 : Addr} {odZ11 odTZ11 anZ11 : Option Addr} {slZ11 slTZ11 : Array (Option Value)} {nTZ11 : Nat} {ocZ11 kVZ11 dcZ11 pmZ11 cdZ11 ctZ11 : Value} (aZ11 : PySem.W.nsIn K mainGlobals "NothingToRedo" = some (some (.ref eZ11))) (xZ11 : K.lookup eZ11 = some (excClassObj nmZ11 qZ11 eZ11 NZ11 bsZ11 [.ref eZ0, .type "ValueError", .type "Exception", .type "BaseException", .type "object"] true snZ11 subZ11 abZ11 colZ11 ddZ11 m0Z11 m1Z11 m2Z11 m3Z11 m5Z11 "ValueError.__new__")) (saZ11 : PySem.W.findIn K (.ref eZ11) "__setattr__" = some (some (.builtin "object.__setattr__"))) (gaZ11 : PySem.W.findIn K (.ref eZ11) "__getattribute__" = some (some (.builtin "BaseException.__getattribute__"))) (ggZ11 : PySem.W.findIn K (.ref eZ11) "__getattr__" = some none) (nwZ11 : PySem.W.findIn K (.ref eZ11) "word" = some none) (npZ11 : PySem.W.findIn K (.ref eZ11) "place" = some none) (iZ11 : PySem.W.findIn K (.ref eZ11) "__init__" = some (some (.ref fZ11))) (tZ11 : PySem.W.typeIn K (.ref fZ11) = some (.type "function")) (keZ11 : PySem.W.keepIn K (.ref eZ11) = true) (exZ11 : PySem.W.subIn K (.ref eZ11) (.type "BaseException") = some true) (tyZ11 : PySem.W.typeIn K (.ref eZ11) = some (.type "type")) (hdZ11 : PySem.W.hasDictIn K eZ11 = true) (icZ11 : PySem.W.isClsIn K eZ11 = true) (scZ11 : PySem.W.subIn K (.ref eZ11) (.ref eZ11) = some true) (lZ11 : K.lookup fZ11 = some ⟨ocZ11, odZ11, .func (PySem.W.fnOf "__init__" "NothingToRedo.__init__" (defArgs s_NothingToRedo) (defBody s_NothingToRedo) (defScope s_NothingToRedo) (.ref dTZ11) kVZ11 dcZ11 pmZ11 anZ11 cdZ11 ctZ11), slZ11⟩) (cZ11 : PySem.W.codeIn K cdZ11 "NothingToRedo.__init__" = true) (kZ11 : PySem.W.keepIn K (.ref fZ11) = true) (dZ11 : K.lookup dTZ11 = some ⟨.type "tuple", odTZ11, .seq #[.none] nTZ11, slTZ11⟩)
(haZ11 : PySem.W.findIn K (.ref eZ11) "__class__" = some (some (.builtin "object.__class__"))) (hmZ11 : PySem.W.mroIn K eZ11 (.type "object") = some true)
    {eZ12 : Addr} {nmZ12 qZ12 : Str} {NZ12 : Addr} {bsZ12 : List Value} {snZ12 : List Str} {subZ12 : List Value} {abZ12 : Bool} {colZ12 : Option Bool} {ddZ12 : Option Addr} {m0Z12 m1Z12 m2Z12 m3Z12 m5Z12 : Option Value} {fZ12 dTZ12 : Addr} {odZ12 odTZ12 anZ12 : Option Addr} {slZ12 slTZ12 : Array (Option Value)} {nTZ12 : Nat} {ocZ12 kVZ12 dcZ12 pmZ12 cdZ12 ctZ12 : Value} (aZ12 : PySem.W.nsIn K mainGlobals "BadPaint" = some (some (.ref eZ12))) (xZ12 : K.lookup eZ12 = some (excClassObj nmZ12 qZ12 eZ12 NZ12 bsZ12 [.ref eZ0, .type "ValueError", .type "Exception", .type "BaseException", .type "object"] true snZ12 subZ12 abZ12 colZ12 ddZ12 m0Z12 m1Z12 m2Z12 m3Z12 m5Z12 "ValueError.__new__")) (saZ12 : PySem.W.findIn K (.ref eZ12) "__setattr__" = some (some (.builtin "object.__setattr__"))) (gaZ12 : PySem.W.findIn K (.ref eZ12) "__getattribute__" = some (some (.builtin "BaseException.__getattribute__"))) (ggZ12 : PySem.W.findIn K (.ref eZ12) "__getattr__" = some none) (nwZ12 : PySem.W.findIn K (.ref eZ12) "word" = some none) (npZ12 : PySem.W.findIn K (.ref eZ12) "place" = some none) (iZ12 : PySem.W.findIn K (.ref eZ12) "__init__" = some (some (.ref fZ12))) (tZ12 : PySem.W.typeIn K (.ref fZ12) = some (.type "function")) (keZ12 : PySem.W.keepIn K (.ref eZ12) = true) (exZ12 : PySem.W.subIn K (.ref eZ12) (.type "BaseException") = some true) (tyZ12 : PySem.W.typeIn K (.ref eZ12) = some (.type "type")) (hdZ12 : PySem.W.hasDictIn K eZ12 = true) (icZ12 : PySem.W.isClsIn K eZ12 = true) (scZ12 : PySem.W.subIn K (.ref eZ12) (.ref eZ12) = some true) (lZ12 : K.lookup fZ12 = some ⟨ocZ12, odZ12, .func (PySem.W.fnOf "__init__" "BadPaint.__init__" (defArgs s_BadPaint) (defBody s_BadPaint) (defScope s_BadPaint) (.ref dTZ12) kVZ12 dcZ12 pmZ12 anZ12 cdZ12 ctZ12), slZ12⟩) (cZ12 : PySem.W.codeIn K cdZ12 "BadPaint.__init__" = true) (kZ12 : PySem.W.keepIn K (.ref fZ12) = true) (dZ12 : K.lookup dTZ12 = some ⟨.type "tuple", odTZ12, .seq #[.none] nTZ12, slTZ12⟩)
(haZ12 : PySem.W.findIn K (.ref eZ12) "__class__" = some (some (.builtin "object.__class__"))) (hmZ12 : PySem.W.mroIn K eZ12 (.type "object") = some true)
    {eZ13 : Addr} {nmZ13 qZ13 : Str} {NZ13 : Addr} {bsZ13 : List Value} {snZ13 : List Str} {subZ13 : List Value} {abZ13 : Bool} {colZ13 : Option Bool} {ddZ13 : Option Addr} {m0Z13 m1Z13 m2Z13 m3Z13 m5Z13 : Option Value} {fZ13 dTZ13 : Addr} {odZ13 odTZ13 anZ13 : Option Addr} {slZ13 slTZ13 : Array (Option Value)} {nTZ13 : Nat} {ocZ13 kVZ13 dcZ13 pmZ13 cdZ13 ctZ13 : Value} (aZ13 : PySem.W.nsIn K mainGlobals "BadPicture" = some (some (.ref eZ13))) (xZ13 : K.lookup eZ13 = some (excClassObj nmZ13 qZ13 eZ13 NZ13 bsZ13 [.ref eZ0, .type "ValueError", .type "Exception", .type "BaseException", .type "object"] true snZ13 subZ13 abZ13 colZ13 ddZ13 m0Z13 m1Z13 m2Z13 m3Z13 m5Z13 "ValueError.__new__")) (saZ13 : PySem.W.findIn K (.ref eZ13) "__setattr__" = some (some (.builtin "object.__setattr__"))) (gaZ13 : PySem.W.findIn K (.ref eZ13) "__getattribute__" = some (some (.builtin "BaseException.__getattribute__"))) (ggZ13 : PySem.W.findIn K (.ref eZ13) "__getattr__" = some none) (nwZ13 : PySem.W.findIn K (.ref eZ13) "word" = some none) (npZ13 : PySem.W.findIn K (.ref eZ13) "place" = some none) (iZ13 : PySem.W.findIn K (.ref eZ13) "__init__" = some (some (.ref fZ13))) (tZ13 : PySem.W.typeIn K (.ref fZ13) = some (.type "function")) (keZ13 : PySem.W.keepIn K (.ref eZ13) = true) (exZ13 : PySem.W.subIn K (.ref eZ13) (.type "BaseException") = some true) (tyZ13 : PySem.W.typeIn K (.ref eZ13) = some (.type "type")) (hdZ13 : PySem.W.hasDictIn K eZ13 = true) (icZ13 : PySem.W.isClsIn K eZ13 = true) (scZ13 : PySem.W.subIn K (.ref eZ13) (.ref eZ13) = some true) (lZ13 : K.lookup fZ13 = some ⟨ocZ13, odZ13, .func (PySem.W.fnOf "__init__" "BadPicture.__init__" (defArgs s_BadPicture) (defBody s_BadPicture) (defScope s_BadPicture) (.ref dTZ13) kVZ13 dcZ13 pmZ13 anZ13 cdZ13 ctZ13), slZ13⟩) (cZ13 : PySem.W.codeIn K cdZ13 "BadPicture.__init__" = true) (kZ13 : PySem.W.keepIn K (.ref fZ13) = true) (dZ13 : K.lookup dTZ13 = some ⟨.type "tuple", odTZ13, .seq #[.none] nTZ13, slTZ13⟩)
(haZ13 : PySem.W.findIn K (.ref eZ13) "__class__" = some (some (.builtin "object.__class__"))) (hmZ13 : PySem.W.mroIn K eZ13 (.type "object") = some true)
    {eZ14 : Addr} {nmZ14 qZ14 : Str} {NZ14 : Addr} {bsZ14 : List Value} {snZ14 : List Str} {subZ14 : List Value} {abZ14 : Bool} {colZ14 : Option Bool} {ddZ14 : Option Addr} {m0Z14 m1Z14 m2Z14 m3Z14 m5Z14 : Option Value} {fZ14 dTZ14 : Addr} {odZ14 odTZ14 anZ14 : Option Addr} {slZ14 slTZ14 : Array (Option Value)} {nTZ14 : Nat} {ocZ14 kVZ14 dcZ14 pmZ14 cdZ14 ctZ14 : Value} (aZ14 : PySem.W.nsIn K mainGlobals "BadWhat" = some (some (.ref eZ14))) (xZ14 : K.lookup eZ14 = some (excClassObj nmZ14 qZ14 eZ14 NZ14 bsZ14 [.ref eZ0, .type "ValueError", .type "Exception", .type "BaseException", .type "object"] true snZ14 subZ14 abZ14 colZ14 ddZ14 m0Z14 m1Z14 m2Z14 m3Z14 m5Z14 "ValueError.__new__")) (saZ14 : PySem.W.findIn K (.ref eZ14) "__setattr__" = some (some (.builtin "object.__setattr__"))) (gaZ14 : PySem.W.findIn K (.ref eZ14) "__getattribute__" = some (some (.builtin "BaseException.__getattribute__"))) (ggZ14 : PySem.W.findIn K (.ref eZ14) "__getattr__" = some none) (nwZ14 : PySem.W.findIn K (.ref eZ14) "word" = some none) (npZ14 : PySem.W.findIn K (.ref eZ14) "place" = some none) (iZ14 : PySem.W.findIn K (.ref eZ14) "__init__" = some (some (.ref fZ14))) (tZ14 : PySem.W.typeIn K (.ref fZ14) = some (.type "function")) (keZ14 : PySem.W.keepIn K (.ref eZ14) = true) (exZ14 : PySem.W.subIn K (.ref eZ14) (.type "BaseException") = some true) (tyZ14 : PySem.W.typeIn K (.ref eZ14) = some (.type "type")) (hdZ14 : PySem.W.hasDictIn K eZ14 = true) (icZ14 : PySem.W.isClsIn K eZ14 = true) (scZ14 : PySem.W.subIn K (.ref eZ14) (.ref eZ14) = some true) (lZ14 : K.lookup fZ14 = some ⟨ocZ14, odZ14, .func (PySem.W.fnOf "__init__" "BadWhat.__init__" (defArgs s_BadWhat) (defBody s_BadWhat) (defScope s_BadWhat) (.ref dTZ14) kVZ14 dcZ14 pmZ14 anZ14 cdZ14 ctZ14), slZ14⟩) (cZ14 : PySem.W.codeIn K cdZ14 "BadWhat.__init__" = true) (kZ14 : PySem.W.keepIn K (.ref fZ14) = true) (dZ14 : K.lookup dTZ14 = some ⟨.type "tuple", odTZ14, .seq #[.none] nTZ14, slTZ14⟩)
(haZ14 : PySem.W.findIn K (.ref eZ14) "__class__" = some (some (.builtin "object.__class__"))) (hmZ14 : PySem.W.mroIn K eZ14 (.type "object") = some true)
    {eZ15 : Addr} {nmZ15 qZ15 : Str} {NZ15 : Addr} {bsZ15 : List Value} {snZ15 : List Str} {subZ15 : List Value} {abZ15 : Bool} {colZ15 : Option Bool} {ddZ15 : Option Addr} {m0Z15 m1Z15 m2Z15 m3Z15 m5Z15 : Option Value} {fZ15 dTZ15 : Addr} {odZ15 odTZ15 anZ15 : Option Addr} {slZ15 slTZ15 : Array (Option Value)} {nTZ15 : Nat} {ocZ15 kVZ15 dcZ15 pmZ15 cdZ15 ctZ15 : Value} (aZ15 : PySem.W.nsIn K mainGlobals "BadMoves" = some (some (.ref eZ15))) (xZ15 : K.lookup eZ15 = some (excClassObj nmZ15 qZ15 eZ15 NZ15 bsZ15 [.ref eZ0, .type "ValueError", .type "Exception", .type "BaseException", .type "object"] true snZ15 subZ15 abZ15 colZ15 ddZ15 m0Z15 m1Z15 m2Z15 m3Z15 m5Z15 "ValueError.__new__")) (saZ15 : PySem.W.findIn K (.ref eZ15) "__setattr__" = some (some (.builtin "object.__setattr__"))) (gaZ15 : PySem.W.findIn K (.ref eZ15) "__getattribute__" = some (some (.builtin "BaseException.__getattribute__"))) (ggZ15 : PySem.W.findIn K (.ref eZ15) "__getattr__" = some none) (nwZ15 : PySem.W.findIn K (.ref eZ15) "word" = some none) (npZ15 : PySem.W.findIn K (.ref eZ15) "place" = some none) (iZ15 : PySem.W.findIn K (.ref eZ15) "__init__" = some (some (.ref fZ15))) (tZ15 : PySem.W.typeIn K (.ref fZ15) = some (.type "function")) (keZ15 : PySem.W.keepIn K (.ref eZ15) = true) (exZ15 : PySem.W.subIn K (.ref eZ15) (.type "BaseException") = some true) (tyZ15 : PySem.W.typeIn K (.ref eZ15) = some (.type "type")) (hdZ15 : PySem.W.hasDictIn K eZ15 = true) (icZ15 : PySem.W.isClsIn K eZ15 = true) (scZ15 : PySem.W.subIn K (.ref eZ15) (.ref eZ15) = some true) (lZ15 : K.lookup fZ15 = some ⟨ocZ15, odZ15, .func (PySem.W.fnOf "__init__" "BadMoves.__init__" (defArgs s_BadMoves) (defBody s_BadMoves) (defScope s_BadMoves) (.ref dTZ15) kVZ15 dcZ15 pmZ15 anZ15 cdZ15 ctZ15), slZ15⟩) (cZ15 : PySem.W.codeIn K cdZ15 "BadMoves.__init__" = true) (kZ15 : PySem.W.keepIn K (.ref fZ15) = true) (dZ15 : K.lookup dTZ15 = some ⟨.type "tuple", odTZ15, .seq #[.none] nTZ15, slTZ15⟩)
(haZ15 : PySem.W.findIn K (.ref eZ15) "__class__" = some (some (.builtin "object.__class__"))) (hmZ15 : PySem.W.mroIn K eZ15 (.type "object") = some true)
    {eZ16 : Addr} {nmZ16 qZ16 : Str} {NZ16 : Addr} {bsZ16 : List Value} {snZ16 : List Str} {subZ16 : List Value} {abZ16 : Bool} {colZ16 : Option Bool} {ddZ16 : Option Addr} {m0Z16 m1Z16 m2Z16 m3Z16 m5Z16 : Option Value} {fZ16 dTZ16 : Addr} {odZ16 odTZ16 anZ16 : Option Addr} {slZ16 slTZ16 : Array (Option Value)} {nTZ16 : Nat} {ocZ16 kVZ16 dcZ16 pmZ16 cdZ16 ctZ16 : Value} (aZ16 : PySem.W.nsIn K mainGlobals "BadJoin" = some (some (.ref eZ16))) (xZ16 : K.lookup eZ16 = some (excClassObj nmZ16 qZ16 eZ16 NZ16 bsZ16 [.ref eZ0, .type "ValueError", .type "Exception", .type "BaseException", .type "object"] true snZ16 subZ16 abZ16 colZ16 ddZ16 m0Z16 m1Z16 m2Z16 m3Z16 m5Z16 "ValueError.__new__")) (saZ16 : PySem.W.findIn K (.ref eZ16) "__setattr__" = some (some (.builtin "object.__setattr__"))) (gaZ16 : PySem.W.findIn K (.ref eZ16) "__getattribute__" = some (some (.builtin "BaseException.__getattribute__"))) (ggZ16 : PySem.W.findIn K (.ref eZ16) "__getattr__" = some none) (nwZ16 : PySem.W.findIn K (.ref eZ16) "word" = some none) (npZ16 : PySem.W.findIn K (.ref eZ16) "place" = some none) (iZ16 : PySem.W.findIn K (.ref eZ16) "__init__" = some (some (.ref fZ16))) (tZ16 : PySem.W.typeIn K (.ref fZ16) = some (.type "function")) (keZ16 : PySem.W.keepIn K (.ref eZ16) = true) (exZ16 : PySem.W.subIn K (.ref eZ16) (.type "BaseException") = some true) (tyZ16 : PySem.W.typeIn K (.ref eZ16) = some (.type "type")) (hdZ16 : PySem.W.hasDictIn K eZ16 = true) (icZ16 : PySem.W.isClsIn K eZ16 = true) (scZ16 : PySem.W.subIn K (.ref eZ16) (.ref eZ16) = some true) (lZ16 : K.lookup fZ16 = some ⟨ocZ16, odZ16, .func (PySem.W.fnOf "__init__" "BadJoin.__init__" (defArgs s_BadJoin) (defBody s_BadJoin) (defScope s_BadJoin) (.ref dTZ16) kVZ16 dcZ16 pmZ16 anZ16 cdZ16 ctZ16), slZ16⟩) (cZ16 : PySem.W.codeIn K cdZ16 "BadJoin.__init__" = true) (kZ16 : PySem.W.keepIn K (.ref fZ16) = true) (dZ16 : K.lookup dTZ16 = some ⟨.type "tuple", odTZ16, .seq #[.none] nTZ16, slTZ16⟩)
(haZ16 : PySem.W.findIn K (.ref eZ16) "__class__" = some (some (.builtin "object.__class__"))) (hmZ16 : PySem.W.mroIn K eZ16 (.type "object") = some true)
    {eZ17 : Addr} {nmZ17 qZ17 : Str} {NZ17 : Addr} {bsZ17 : List Value} {snZ17 : List Str} {subZ17 : List Value} {abZ17 : Bool} {colZ17 : Option Bool} {ddZ17 : Option Addr} {m0Z17 m1Z17 m2Z17 m3Z17 m5Z17 : Option Value} {fZ17 dTZ17 : Addr} {odZ17 odTZ17 anZ17 : Option Addr} {slZ17 slTZ17 : Array (Option Value)} {nTZ17 : Nat} {ocZ17 kVZ17 dcZ17 pmZ17 cdZ17 ctZ17 : Value} (aZ17 : PySem.W.nsIn K mainGlobals "BadPlace" = some (some (.ref eZ17))) (xZ17 : K.lookup eZ17 = some (excClassObj nmZ17 qZ17 eZ17 NZ17 bsZ17 [.ref eZ0, .type "ValueError", .type "Exception", .type "BaseException", .type "object"] true snZ17 subZ17 abZ17 colZ17 ddZ17 m0Z17 m1Z17 m2Z17 m3Z17 m5Z17 "ValueError.__new__")) (saZ17 : PySem.W.findIn K (.ref eZ17) "__setattr__" = some (some (.builtin "object.__setattr__"))) (gaZ17 : PySem.W.findIn K (.ref eZ17) "__getattribute__" = some (some (.builtin "BaseException.__getattribute__"))) (ggZ17 : PySem.W.findIn K (.ref eZ17) "__getattr__" = some none) (nwZ17 : PySem.W.findIn K (.ref eZ17) "word" = some none) (npZ17 : PySem.W.findIn K (.ref eZ17) "place" = some none) (iZ17 : PySem.W.findIn K (.ref eZ17) "__init__" = some (some (.ref fZ17))) (tZ17 : PySem.W.typeIn K (.ref fZ17) = some (.type "function")) (keZ17 : PySem.W.keepIn K (.ref eZ17) = true) (exZ17 : PySem.W.subIn K (.ref eZ17) (.type "BaseException") = some true) (tyZ17 : PySem.W.typeIn K (.ref eZ17) = some (.type "type")) (hdZ17 : PySem.W.hasDictIn K eZ17 = true) (icZ17 : PySem.W.isClsIn K eZ17 = true) (scZ17 : PySem.W.subIn K (.ref eZ17) (.ref eZ17) = some true) (lZ17 : K.lookup fZ17 = some ⟨ocZ17, odZ17, .func (PySem.W.fnOf "__init__" "BadPlace.__init__" (defArgs s_BadPlace) (defBody s_BadPlace) (defScope s_BadPlace) (.ref dTZ17) kVZ17 dcZ17 pmZ17 anZ17 cdZ17 ctZ17), slZ17⟩) (cZ17 : PySem.W.codeIn K cdZ17 "BadPlace.__init__" = true) (kZ17 : PySem.W.keepIn K (.ref fZ17) = true) (dZ17 : K.lookup dTZ17 = some ⟨.type "tuple", odTZ17, .seq #[.none] nTZ17, slTZ17⟩)
(haZ17 : PySem.W.findIn K (.ref eZ17) "__class__" = some (some (.builtin "object.__class__"))) (hmZ17 : PySem.W.mroIn K eZ17 (.type "object") = some true)
    {eZ18 : Addr} {nmZ18 qZ18 : Str} {NZ18 : Addr} {bsZ18 : List Value} {snZ18 : List Str} {subZ18 : List Value} {abZ18 : Bool} {colZ18 : Option Bool} {ddZ18 : Option Addr} {m0Z18 m1Z18 m2Z18 m3Z18 m5Z18 : Option Value} {fZ18 dTZ18 : Addr} {odZ18 odTZ18 anZ18 : Option Addr} {slZ18 slTZ18 : Array (Option Value)} {nTZ18 : Nat} {ocZ18 kVZ18 dcZ18 pmZ18 cdZ18 ctZ18 : Value} (aZ18 : PySem.W.nsIn K mainGlobals "BadRectangle" = some (some (.ref eZ18))) (xZ18 : K.lookup eZ18 = some (excClassObj nmZ18 qZ18 eZ18 NZ18 bsZ18 [.ref eZ0, .type "ValueError", .type "Exception", .type "BaseException", .type "object"] true snZ18 subZ18 abZ18 colZ18 ddZ18 m0Z18 m1Z18 m2Z18 m3Z18 m5Z18 "ValueError.__new__")) (saZ18 : PySem.W.findIn K (.ref eZ18) "__setattr__" = some (some (.builtin "object.__setattr__"))) (gaZ18 : PySem.W.findIn K (.ref eZ18) "__getattribute__" = some (some (.builtin "BaseException.__getattribute__"))) (ggZ18 : PySem.W.findIn K (.ref eZ18) "__getattr__" = some none) (nwZ18 : PySem.W.findIn K (.ref eZ18) "word" = some none) (npZ18 : PySem.W.findIn K (.ref eZ18) "place" = some none) (iZ18 : PySem.W.findIn K (.ref eZ18) "__init__" = some (some (.ref fZ18))) (tZ18 : PySem.W.typeIn K (.ref fZ18) = some (.type "function")) (keZ18 : PySem.W.keepIn K (.ref eZ18) = true) (exZ18 : PySem.W.subIn K (.ref eZ18) (.type "BaseException") = some true) (tyZ18 : PySem.W.typeIn K (.ref eZ18) = some (.type "type")) (hdZ18 : PySem.W.hasDictIn K eZ18 = true) (icZ18 : PySem.W.isClsIn K eZ18 = true) (scZ18 : PySem.W.subIn K (.ref eZ18) (.ref eZ18) = some true) (lZ18 : K.lookup fZ18 = some ⟨ocZ18, odZ18, .func (PySem.W.fnOf "__init__" "BadRectangle.__init__" (defArgs s_BadRectangle) (defBody s_BadRectangle) (defScope s_BadRectangle) (.ref dTZ18) kVZ18 dcZ18 pmZ18 anZ18 cdZ18 ctZ18), slZ18⟩) (cZ18 : PySem.W.codeIn K cdZ18 "BadRectangle.__init__" = true) (kZ18 : PySem.W.keepIn K (.ref fZ18) = true) (dZ18 : K.lookup dTZ18 = some ⟨.type "tuple", odTZ18, .seq #[.none] nTZ18, slTZ18⟩)
(haZ18 : PySem.W.findIn K (.ref eZ18) "__class__" = some (some (.builtin "object.__class__"))) (hmZ18 : PySem.W.mroIn K eZ18 (.type "object") = some true)
    (nodE : [eZ0, eZ1, eZ2, eZ3, eZ4, eZ5, eZ6, eZ7, eZ8, eZ9, eZ10, eZ11, eZ12, eZ13, eZ14, eZ15, eZ16, eZ17, eZ18].Nodup)
    : ∃ fd : FuncData, (∀ (s : Shared) (v : Value), BindsTo s fd ⟨[v], []⟩ [("script", v)]) ∧ ∀ base : Heap, K.In base → base.Ns mainGlobals mg → FnG l.prog w K mg base CX0 7 fa fd ["script"] (spLaw K) := by
  have e := hfa.symm.trans (PySem.W.mg_of X G a12)
  cases e
  have T : Txt K mg := ⟨PySem.W.mg_none_of X G z_ValueError, PySem.W.mg_none_of X G z_int, PySem.W.mg_none_of X G z_isinstance, PySem.W.mg_none_of X G z_len, PySem.W.mg_none_of X G z_range, PySem.W.mg_none_of X G z_repr, PySem.W.mg_none_of X G z_str⟩
  refine ⟨PySem.W.fnOf "law" "law" (defArgs s_law) (defBody s_law) (defScope s_law) .none kV12 dc12 pm12 an12 cd12 ct12, fun s v => .of_eq rfl, fun base _ _ => ?_⟩
  have FT : FilmTxt K mg eZ0 fZ0 := ⟨PySem.W.mg_of X G aZ0, rZ0, gZ0, iZ0, PySem.W.mg_none_of X G wZ0, vZ0⟩
  have FZ0 : FunD K "__init__" "FilmError.__init__" (defArgs s_FilmErr) (defBody s_FilmErr) (defScope s_FilmErr) [.non] [] fZ0 _ := ⟨⟨_, _, _, _, _, _, _, _, _, _, rfl, lZ0, cZ0, .inr ⟨by simp, _, _, [.none], _, rfl, dZ0, rfl, .cons rfl .nil⟩, .inl rfl⟩, kZ0⟩
  have GZ0 := ok_FilmErr (P := l.prog) (w := w) (base := base) FZ0 FT
  have bZ0 := binds_FilmErr FZ0
  have FZ1 : FunD K "__init__" "BadLine.__init__" (defArgs s_BadLine) (defBody s_BadLine) (defScope s_BadLine) [.non] [] fZ1 _ := ⟨⟨_, _, _, _, _, _, _, _, _, _, rfl, lZ1, cZ1, .inr ⟨by simp, _, _, [.none], _, rfl, dZ1, rfl, .cons rfl .nil⟩, .inl rfl⟩, kZ1⟩
  have FZ2 : FunD K "__init__" "BadFilm.__init__" (defArgs s_BadFilm) (defBody s_BadFilm) (defScope s_BadFilm) [.non] [] fZ2 _ := ⟨⟨_, _, _, _, _, _, _, _, _, _, rfl, lZ2, cZ2, .inr ⟨by simp, _, _, [.none], _, rfl, dZ2, rfl, .cons rfl .nil⟩, .inl rfl⟩, kZ2⟩
  have FZ3 : FunD K "__init__" "BadLayer.__init__" (defArgs s_BadLayer) (defBody s_BadLayer) (defScope s_BadLayer) [.non] [] fZ3 _ := ⟨⟨_, _, _, _, _, _, _, _, _, _, rfl, lZ3, cZ3, .inr ⟨by simp, _, _, [.none], _, rfl, dZ3, rfl, .cons rfl .nil⟩, .inl rfl⟩, kZ3⟩
  have FZ4 : FunD K "__init__" "DuplicateLayer.__init__" (defArgs s_DuplicateLayer) (defBody s_DuplicateLayer) (defScope s_DuplicateLayer) [.non] [] fZ4 _ := ⟨⟨_, _, _, _, _, _, _, _, _, _, rfl, lZ4, cZ4, .inr ⟨by simp, _, _, [.none], _, rfl, dZ4, rfl, .cons rfl .nil⟩, .inl rfl⟩, kZ4⟩
  have FZ5 : FunD K "__init__" "UnknownLayer.__init__" (defArgs s_UnknownLayer) (defBody s_UnknownLayer) (defScope s_UnknownLayer) [.non] [] fZ5 _ := ⟨⟨_, _, _, _, _, _, _, _, _, _, rfl, lZ5, cZ5, .inr ⟨by simp, _, _, [.none], _, rfl, dZ5, rfl, .cons rfl .nil⟩, .inl rfl⟩, kZ5⟩
  have FZ6 : FunD K "__init__" "BadFrame.__init__" (defArgs s_BadFrame) (defBody s_BadFrame) (defScope s_BadFrame) [.non] [] fZ6 _ := ⟨⟨_, _, _, _, _, _, _, _, _, _, rfl, lZ6, cZ6, .inr ⟨by simp, _, _, [.none], _, rfl, dZ6, rfl, .cons rfl .nil⟩, .inl rfl⟩, kZ6⟩
  have FZ7 : FunD K "__init__" "BadClip.__init__" (defArgs s_BadClip) (defBody s_BadClip) (defScope s_BadClip) [.non] [] fZ7 _ := ⟨⟨_, _, _, _, _, _, _, _, _, _, rfl, lZ7, cZ7, .inr ⟨by simp, _, _, [.none], _, rfl, dZ7, rfl, .cons rfl .nil⟩, .inl rfl⟩, kZ7⟩
  have FZ8 : FunD K "__init__" "BadCut.__init__" (defArgs s_BadCut) (defBody s_BadCut) (defScope s_BadCut) [.non] [] fZ8 _ := ⟨⟨_, _, _, _, _, _, _, _, _, _, rfl, lZ8, cZ8, .inr ⟨by simp, _, _, [.none], _, rfl, dZ8, rfl, .cons rfl .nil⟩, .inl rfl⟩, kZ8⟩
  have FZ9 : FunD K "__init__" "BadEdit.__init__" (defArgs s_BadEdit) (defBody s_BadEdit) (defScope s_BadEdit) [.non] [] fZ9 _ := ⟨⟨_, _, _, _, _, _, _, _, _, _, rfl, lZ9, cZ9, .inr ⟨by simp, _, _, [.none], _, rfl, dZ9, rfl, .cons rfl .nil⟩, .inl rfl⟩, kZ9⟩
  have FZ10 : FunD K "__init__" "NothingToUndo.__init__" (defArgs s_NothingToUndo) (defBody s_NothingToUndo) (defScope s_NothingToUndo) [.non] [] fZ10 _ := ⟨⟨_, _, _, _, _, _, _, _, _, _, rfl, lZ10, cZ10, .inr ⟨by simp, _, _, [.none], _, rfl, dZ10, rfl, .cons rfl .nil⟩, .inl rfl⟩, kZ10⟩
  have FZ11 : FunD K "__init__" "NothingToRedo.__init__" (defArgs s_NothingToRedo) (defBody s_NothingToRedo) (defScope s_NothingToRedo) [.non] [] fZ11 _ := ⟨⟨_, _, _, _, _, _, _, _, _, _, rfl, lZ11, cZ11, .inr ⟨by simp, _, _, [.none], _, rfl, dZ11, rfl, .cons rfl .nil⟩, .inl rfl⟩, kZ11⟩
  have FZ12 : FunD K "__init__" "BadPaint.__init__" (defArgs s_BadPaint) (defBody s_BadPaint) (defScope s_BadPaint) [.non] [] fZ12 _ := ⟨⟨_, _, _, _, _, _, _, _, _, _, rfl, lZ12, cZ12, .inr ⟨by simp, _, _, [.none], _, rfl, dZ12, rfl, .cons rfl .nil⟩, .inl rfl⟩, kZ12⟩
  have FZ13 : FunD K "__init__" "BadPicture.__init__" (defArgs s_BadPicture) (defBody s_BadPicture) (defScope s_BadPicture) [.non] [] fZ13 _ := ⟨⟨_, _, _, _, _, _, _, _, _, _, rfl, lZ13, cZ13, .inr ⟨by simp, _, _, [.none], _, rfl, dZ13, rfl, .cons rfl .nil⟩, .inl rfl⟩, kZ13⟩
  have FZ14 : FunD K "__init__" "BadWhat.__init__" (defArgs s_BadWhat) (defBody s_BadWhat) (defScope s_BadWhat) [.non] [] fZ14 _ := ⟨⟨_, _, _, _, _, _, _, _, _, _, rfl, lZ14, cZ14, .inr ⟨by simp, _, _, [.none], _, rfl, dZ14, rfl, .cons rfl .nil⟩, .inl rfl⟩, kZ14⟩
  have FZ15 : FunD K "__init__" "BadMoves.__init__" (defArgs s_BadMoves) (defBody s_BadMoves) (defScope s_BadMoves) [.non] [] fZ15 _ := ⟨⟨_, _, _, _, _, _, _, _, _, _, rfl, lZ15, cZ15, .inr ⟨by simp, _, _, [.none], _, rfl, dZ15, rfl, .cons rfl .nil⟩, .inl rfl⟩, kZ15⟩
  have FZ16 : FunD K "__init__" "BadJoin.__init__" (defArgs s_BadJoin) (defBody s_BadJoin) (defScope s_BadJoin) [.non] [] fZ16 _ := ⟨⟨_, _, _, _, _, _, _, _, _, _, rfl, lZ16, cZ16, .inr ⟨by simp, _, _, [.none], _, rfl, dZ16, rfl, .cons rfl .nil⟩, .inl rfl⟩, kZ16⟩
  have FZ17 : FunD K "__init__" "BadPlace.__init__" (defArgs s_BadPlace) (defBody s_BadPlace) (defScope s_BadPlace) [.non] [] fZ17 _ := ⟨⟨_, _, _, _, _, _, _, _, _, _, rfl, lZ17, cZ17, .inr ⟨by simp, _, _, [.none], _, rfl, dZ17, rfl, .cons rfl .nil⟩, .inl rfl⟩, kZ17⟩
  have FZ18 : FunD K "__init__" "BadRectangle.__init__" (defArgs s_BadRectangle) (defBody s_BadRectangle) (defScope s_BadRectangle) [.non] [] fZ18 _ := ⟨⟨_, _, _, _, _, _, _, _, _, _, rfl, lZ18, cZ18, .inr ⟨by simp, _, _, [.none], _, rfl, dZ18, rfl, .cons rfl .nil⟩, .inl rfl⟩, kZ18⟩
  have FX : FilmX l.prog w K mg base eZ0 fZ0 := ⟨⟨PySem.W.mg_of X G aZ0, ⟨⟨_, _, _, _, _, _, _, _, _, _, _, _, _, _, _, xZ0, by rfl⟩, saZ0, exZ0, tyZ0, keZ0⟩, ⟨gaZ0, ggZ0, exZ0, hdZ0⟩, nwZ0, npZ0, ifZ0, tZ0, exm_self exZ0 icZ0 tyZ0 scZ0⟩, _, GZ0, bd_FilmErr FZ0, bZ0⟩
  have ekZ0 : EK K mg veT "FilmError" eZ0 := ⟨PySem.W.mg_of X G aZ0, ⟨_, _, _, _, _, _, _, _, _, _, _, _, _, _, xZ0⟩, tyZ0, icZ0, ⟨gaZ0, ggZ0, exZ0, hdZ0, haZ0, hnE, htE, hmZ0⟩⟩
  have KX_BadLine : KindX l.prog w K mg base "BadLine" eZ1 := ⟨fZ1, ⟨PySem.W.mg_of X G aZ1, ⟨⟨_, _, _, _, _, _, _, _, _, _, _, _, _, _, _, xZ1, by rfl⟩, saZ1, exZ1, tyZ1, keZ1⟩, ⟨gaZ1, ggZ1, exZ1, hdZ1⟩, nwZ1, npZ1, iZ1, tZ1, exm_self exZ1 icZ1 tyZ1 scZ1⟩, _, ok_BadLine FZ1 FT GZ0 kZ0 bZ0, (binds_BadLine FZ1).1, (binds_BadLine FZ1).2, kbd_BadLine FZ1⟩
  have ekZ1 : EK K mg (.ref eZ0 :: veT) "BadLine" eZ1 := ⟨PySem.W.mg_of X G aZ1, ⟨_, _, _, _, _, _, _, _, _, _, _, _, _, _, xZ1⟩, tyZ1, icZ1, ⟨gaZ1, ggZ1, exZ1, hdZ1, haZ1, hnE, htE, hmZ1⟩⟩
  have KX_BadFilm : KindX l.prog w K mg base "BadFilm" eZ2 := ⟨fZ2, ⟨PySem.W.mg_of X G aZ2, ⟨⟨_, _, _, _, _, _, _, _, _, _, _, _, _, _, _, xZ2, by rfl⟩, saZ2, exZ2, tyZ2, keZ2⟩, ⟨gaZ2, ggZ2, exZ2, hdZ2⟩, nwZ2, npZ2, iZ2, tZ2, exm_self exZ2 icZ2 tyZ2 scZ2⟩, _, ok_BadFilm FZ2 FT GZ0 kZ0 bZ0, (binds_BadFilm FZ2).1, (binds_BadFilm FZ2).2, kbd_BadFilm FZ2⟩
  have ekZ2 : EK K mg (.ref eZ0 :: veT) "BadFilm" eZ2 := ⟨PySem.W.mg_of X G aZ2, ⟨_, _, _, _, _, _, _, _, _, _, _, _, _, _, xZ2⟩, tyZ2, icZ2, ⟨gaZ2, ggZ2, exZ2, hdZ2, haZ2, hnE, htE, hmZ2⟩⟩
  have KX_BadLayer : KindX l.prog w K mg base "BadLayer" eZ3 := ⟨fZ3, ⟨PySem.W.mg_of X G aZ3, ⟨⟨_, _, _, _, _, _, _, _, _, _, _, _, _, _, _, xZ3, by rfl⟩, saZ3, exZ3, tyZ3, keZ3⟩, ⟨gaZ3, ggZ3, exZ3, hdZ3⟩, nwZ3, npZ3, iZ3, tZ3, exm_self exZ3 icZ3 tyZ3 scZ3⟩, _, ok_BadLayer FZ3 FT GZ0 kZ0 bZ0, (binds_BadLayer FZ3).1, (binds_BadLayer FZ3).2, kbd_BadLayer FZ3⟩
  have ekZ3 : EK K mg (.ref eZ0 :: veT) "BadLayer" eZ3 := ⟨PySem.W.mg_of X G aZ3, ⟨_, _, _, _, _, _, _, _, _, _, _, _, _, _, xZ3⟩, tyZ3, icZ3, ⟨gaZ3, ggZ3, exZ3, hdZ3, haZ3, hnE, htE, hmZ3⟩⟩
  have KX_DuplicateLayer : KindX l.prog w K mg base "DuplicateLayer" eZ4 := ⟨fZ4, ⟨PySem.W.mg_of X G aZ4, ⟨⟨_, _, _, _, _, _, _, _, _, _, _, _, _, _, _, xZ4, by rfl⟩, saZ4, exZ4, tyZ4, keZ4⟩, ⟨gaZ4, ggZ4, exZ4, hdZ4⟩, nwZ4, npZ4, iZ4, tZ4, exm_self exZ4 icZ4 tyZ4 scZ4⟩, _, ok_DuplicateLayer FZ4 FT GZ0 kZ0 bZ0, (binds_DuplicateLayer FZ4).1, (binds_DuplicateLayer FZ4).2, kbd_DuplicateLayer FZ4⟩
  have ekZ4 : EK K mg (.ref eZ0 :: veT) "DuplicateLayer" eZ4 := ⟨PySem.W.mg_of X G aZ4, ⟨_, _, _, _, _, _, _, _, _, _, _, _, _, _, xZ4⟩, tyZ4, icZ4, ⟨gaZ4, ggZ4, exZ4, hdZ4, haZ4, hnE, htE, hmZ4⟩⟩
  have KX_UnknownLayer : KindX l.prog w K mg base "UnknownLayer" eZ5 := ⟨fZ5, ⟨PySem.W.mg_of X G aZ5, ⟨⟨_, _, _, _, _, _, _, _, _, _, _, _, _, _, _, xZ5, by rfl⟩, saZ5, exZ5, tyZ5, keZ5⟩, ⟨gaZ5, ggZ5, exZ5, hdZ5⟩, nwZ5, npZ5, iZ5, tZ5, exm_self exZ5 icZ5 tyZ5 scZ5⟩, _, ok_UnknownLayer FZ5 FT GZ0 kZ0 bZ0, (binds_UnknownLayer FZ5).1, (binds_UnknownLayer FZ5).2, kbd_UnknownLayer FZ5⟩
  have ekZ5 : EK K mg (.ref eZ0 :: veT) "UnknownLayer" eZ5 := ⟨PySem.W.mg_of X G aZ5, ⟨_, _, _, _, _, _, _, _, _, _, _, _, _, _, xZ5⟩, tyZ5, icZ5, ⟨gaZ5, ggZ5, exZ5, hdZ5, haZ5, hnE, htE, hmZ5⟩⟩
  have KX_BadFrame : KindX l.prog w K mg base "BadFrame" eZ6 := ⟨fZ6, ⟨PySem.W.mg_of X G aZ6, ⟨⟨_, _, _, _, _, _, _, _, _, _, _, _, _, _, _, xZ6, by rfl⟩, saZ6, exZ6, tyZ6, keZ6⟩, ⟨gaZ6, ggZ6, exZ6, hdZ6⟩, nwZ6, npZ6, iZ6, tZ6, exm_self exZ6 icZ6 tyZ6 scZ6⟩, _, ok_BadFrame FZ6 FT GZ0 kZ0 bZ0, (binds_BadFrame FZ6).1, (binds_BadFrame FZ6).2, kbd_BadFrame FZ6⟩
  have ekZ6 : EK K mg (.ref eZ0 :: veT) "BadFrame" eZ6 := ⟨PySem.W.mg_of X G aZ6, ⟨_, _, _, _, _, _, _, _, _, _, _, _, _, _, xZ6⟩, tyZ6, icZ6, ⟨gaZ6, ggZ6, exZ6, hdZ6, haZ6, hnE, htE, hmZ6⟩⟩
  have KX_BadClip : KindX l.prog w K mg base "BadClip" eZ7 := ⟨fZ7, ⟨PySem.W.mg_of X G aZ7, ⟨⟨_, _, _, _, _, _, _, _, _, _, _, _, _, _, _, xZ7, by rfl⟩, saZ7, exZ7, tyZ7, keZ7⟩, ⟨gaZ7, ggZ7, exZ7, hdZ7⟩, nwZ7, npZ7, iZ7, tZ7, exm_self exZ7 icZ7 tyZ7 scZ7⟩, _, ok_BadClip FZ7 FT GZ0 kZ0 bZ0, (binds_BadClip FZ7).1, (binds_BadClip FZ7).2, kbd_BadClip FZ7⟩
  have ekZ7 : EK K mg (.ref eZ0 :: veT) "BadClip" eZ7 := ⟨PySem.W.mg_of X G aZ7, ⟨_, _, _, _, _, _, _, _, _, _, _, _, _, _, xZ7⟩, tyZ7, icZ7, ⟨gaZ7, ggZ7, exZ7, hdZ7, haZ7, hnE, htE, hmZ7⟩⟩
  have KX_BadCut : KindX l.prog w K mg base "BadCut" eZ8 := ⟨fZ8, ⟨PySem.W.mg_of X G aZ8, ⟨⟨_, _, _, _, _, _, _, _, _, _, _, _, _, _, _, xZ8, by rfl⟩, saZ8, exZ8, tyZ8, keZ8⟩, ⟨gaZ8, ggZ8, exZ8, hdZ8⟩, nwZ8, npZ8, iZ8, tZ8, exm_self exZ8 icZ8 tyZ8 scZ8⟩, _, ok_BadCut FZ8 FT GZ0 kZ0 bZ0, (binds_BadCut FZ8).1, (binds_BadCut FZ8).2, kbd_BadCut FZ8⟩
  have ekZ8 : EK K mg (.ref eZ0 :: veT) "BadCut" eZ8 := ⟨PySem.W.mg_of X G aZ8, ⟨_, _, _, _, _, _, _, _, _, _, _, _, _, _, xZ8⟩, tyZ8, icZ8, ⟨gaZ8, ggZ8, exZ8, hdZ8, haZ8, hnE, htE, hmZ8⟩⟩
  have KX_BadEdit : KindX l.prog w K mg base "BadEdit" eZ9 := ⟨fZ9, ⟨PySem.W.mg_of X G aZ9, ⟨⟨_, _, _, _, _, _, _, _, _, _, _, _, _, _, _, xZ9, by rfl⟩, saZ9, exZ9, tyZ9, keZ9⟩, ⟨gaZ9, ggZ9, exZ9, hdZ9⟩, nwZ9, npZ9, iZ9, tZ9, exm_self exZ9 icZ9 tyZ9 scZ9⟩, _, ok_BadEdit FZ9 FT GZ0 kZ0 bZ0, (binds_BadEdit FZ9).1, (binds_BadEdit FZ9).2, kbd_BadEdit FZ9⟩
  have ekZ9 : EK K mg (.ref eZ0 :: veT) "BadEdit" eZ9 := ⟨PySem.W.mg_of X G aZ9, ⟨_, _, _, _, _, _, _, _, _, _, _, _, _, _, xZ9⟩, tyZ9, icZ9, ⟨gaZ9, ggZ9, exZ9, hdZ9, haZ9, hnE, htE, hmZ9⟩⟩
  have KX_NothingToUndo : KindX l.prog w K mg base "NothingToUndo" eZ10 := ⟨fZ10, ⟨PySem.W.mg_of X G aZ10, ⟨⟨_, _, _, _, _, _, _, _, _, _, _, _, _, _, _, xZ10, by rfl⟩, saZ10, exZ10, tyZ10, keZ10⟩, ⟨gaZ10, ggZ10, exZ10, hdZ10⟩, nwZ10, npZ10, iZ10, tZ10, exm_self exZ10 icZ10 tyZ10 scZ10⟩, _, ok_NothingToUndo FZ10 FT GZ0 kZ0 bZ0, (binds_NothingToUndo FZ10).1, (binds_NothingToUndo FZ10).2, kbd_NothingToUndo FZ10⟩
  have ekZ10 : EK K mg (.ref eZ0 :: veT) "NothingToUndo" eZ10 := ⟨PySem.W.mg_of X G aZ10, ⟨_, _, _, _, _, _, _, _, _, _, _, _, _, _, xZ10⟩, tyZ10, icZ10, ⟨gaZ10, ggZ10, exZ10, hdZ10, haZ10, hnE, htE, hmZ10⟩⟩
  have KX_NothingToRedo : KindX l.prog w K mg base "NothingToRedo" eZ11 := ⟨fZ11, ⟨PySem.W.mg_of X G aZ11, ⟨⟨_, _, _, _, _, _, _, _, _, _, _, _, _, _, _, xZ11, by rfl⟩, saZ11, exZ11, tyZ11, keZ11⟩, ⟨gaZ11, ggZ11, exZ11, hdZ11⟩, nwZ11, npZ11, iZ11, tZ11, exm_self exZ11 icZ11 tyZ11 scZ11⟩, _, ok_NothingToRedo FZ11 FT GZ0 kZ0 bZ0, (binds_NothingToRedo FZ11).1, (binds_NothingToRedo FZ11).2, kbd_NothingToRedo FZ11⟩
  have ekZ11 : EK K mg (.ref eZ0 :: veT) "NothingToRedo" eZ11 := ⟨PySem.W.mg_of X G aZ11, ⟨_, _, _, _, _, _, _, _, _, _, _, _, _, _, xZ11⟩, tyZ11, icZ11, ⟨gaZ11, ggZ11, exZ11, hdZ11, haZ11, hnE, htE, hmZ11⟩⟩
  have KX_BadPaint : KindX l.prog w K mg base "BadPaint" eZ12 := ⟨fZ12, ⟨PySem.W.mg_of X G aZ12, ⟨⟨_, _, _, _, _, _, _, _, _, _, _, _, _, _, _, xZ12, by rfl⟩, saZ12, exZ12, tyZ12, keZ12⟩, ⟨gaZ12, ggZ12, exZ12, hdZ12⟩, nwZ12, npZ12, iZ12, tZ12, exm_self exZ12 icZ12 tyZ12 scZ12⟩, _, ok_BadPaint FZ12 FT GZ0 kZ0 bZ0, (binds_BadPaint FZ12).1, (binds_BadPaint FZ12).2, kbd_BadPaint FZ12⟩
  have ekZ12 : EK K mg (.ref eZ0 :: veT) "BadPaint" eZ12 := ⟨PySem.W.mg_of X G aZ12, ⟨_, _, _, _, _, _, _, _, _, _, _, _, _, _, xZ12⟩, tyZ12, icZ12, ⟨gaZ12, ggZ12, exZ12, hdZ12, haZ12, hnE, htE, hmZ12⟩⟩
  have KX_BadPicture : KindX l.prog w K mg base "BadPicture" eZ13 := ⟨fZ13, ⟨PySem.W.mg_of X G aZ13, ⟨⟨_, _, _, _, _, _, _, _, _, _, _, _, _, _, _, xZ13, by rfl⟩, saZ13, exZ13, tyZ13, keZ13⟩, ⟨gaZ13, ggZ13, exZ13, hdZ13⟩, nwZ13, npZ13, iZ13, tZ13, exm_self exZ13 icZ13 tyZ13 scZ13⟩, _, ok_BadPicture FZ13 FT GZ0 kZ0 bZ0, (binds_BadPicture FZ13).1, (binds_BadPicture FZ13).2, kbd_BadPicture FZ13⟩
  have ekZ13 : EK K mg (.ref eZ0 :: veT) "BadPicture" eZ13 := ⟨PySem.W.mg_of X G aZ13, ⟨_, _, _, _, _, _, _, _, _, _, _, _, _, _, xZ13⟩, tyZ13, icZ13, ⟨gaZ13, ggZ13, exZ13, hdZ13, haZ13, hnE, htE, hmZ13⟩⟩
  have KX_BadWhat : KindX l.prog w K mg base "BadWhat" eZ14 := ⟨fZ14, ⟨PySem.W.mg_of X G aZ14, ⟨⟨_, _, _, _, _, _, _, _, _, _, _, _, _, _, _, xZ14, by rfl⟩, saZ14, exZ14, tyZ14, keZ14⟩, ⟨gaZ14, ggZ14, exZ14, hdZ14⟩, nwZ14, npZ14, iZ14, tZ14, exm_self exZ14 icZ14 tyZ14 scZ14⟩, _, ok_BadWhat FZ14 FT GZ0 kZ0 bZ0, (binds_BadWhat FZ14).1, (binds_BadWhat FZ14).2, kbd_BadWhat FZ14⟩
  have ekZ14 : EK K mg (.ref eZ0 :: veT) "BadWhat" eZ14 := ⟨PySem.W.mg_of X G aZ14, ⟨_, _, _, _, _, _, _, _, _, _, _, _, _, _, xZ14⟩, tyZ14, icZ14, ⟨gaZ14, ggZ14, exZ14, hdZ14, haZ14, hnE, htE, hmZ14⟩⟩
  have KX_BadMoves : KindX l.prog w K mg base "BadMoves" eZ15 := ⟨fZ15, ⟨PySem.W.mg_of X G aZ15, ⟨⟨_, _, _, _, _, _, _, _, _, _, _, _, _, _, _, xZ15, by rfl⟩, saZ15, exZ15, tyZ15, keZ15⟩, ⟨gaZ15, ggZ15, exZ15, hdZ15⟩, nwZ15, npZ15, iZ15, tZ15, exm_self exZ15 icZ15 tyZ15 scZ15⟩, _, ok_BadMoves FZ15 FT GZ0 kZ0 bZ0, (binds_BadMoves FZ15).1, (binds_BadMoves FZ15).2, kbd_BadMoves FZ15⟩
  have ekZ15 : EK K mg (.ref eZ0 :: veT) "BadMoves" eZ15 := ⟨PySem.W.mg_of X G aZ15, ⟨_, _, _, _, _, _, _, _, _, _, _, _, _, _, xZ15⟩, tyZ15, icZ15, ⟨gaZ15, ggZ15, exZ15, hdZ15, haZ15, hnE, htE, hmZ15⟩⟩
  have KX_BadJoin : KindX l.prog w K mg base "BadJoin" eZ16 := ⟨fZ16, ⟨PySem.W.mg_of X G aZ16, ⟨⟨_, _, _, _, _, _, _, _, _, _, _, _, _, _, _, xZ16, by rfl⟩, saZ16, exZ16, tyZ16, keZ16⟩, ⟨gaZ16, ggZ16, exZ16, hdZ16⟩, nwZ16, npZ16, iZ16, tZ16, exm_self exZ16 icZ16 tyZ16 scZ16⟩, _, ok_BadJoin FZ16 FT GZ0 kZ0 bZ0, (binds_BadJoin FZ16).1, (binds_BadJoin FZ16).2, kbd_BadJoin FZ16⟩
  have ekZ16 : EK K mg (.ref eZ0 :: veT) "BadJoin" eZ16 := ⟨PySem.W.mg_of X G aZ16, ⟨_, _, _, _, _, _, _, _, _, _, _, _, _, _, xZ16⟩, tyZ16, icZ16, ⟨gaZ16, ggZ16, exZ16, hdZ16, haZ16, hnE, htE, hmZ16⟩⟩
  have KX_BadPlace : KindX l.prog w K mg base "BadPlace" eZ17 := ⟨fZ17, ⟨PySem.W.mg_of X G aZ17, ⟨⟨_, _, _, _, _, _, _, _, _, _, _, _, _, _, _, xZ17, by rfl⟩, saZ17, exZ17, tyZ17, keZ17⟩, ⟨gaZ17, ggZ17, exZ17, hdZ17⟩, nwZ17, npZ17, iZ17, tZ17, exm_self exZ17 icZ17 tyZ17 scZ17⟩, _, ok_BadPlace FZ17 FT GZ0 kZ0 bZ0, (binds_BadPlace FZ17).1, (binds_BadPlace FZ17).2, kbd_BadPlace FZ17⟩
  have ekZ17 : EK K mg (.ref eZ0 :: veT) "BadPlace" eZ17 := ⟨PySem.W.mg_of X G aZ17, ⟨_, _, _, _, _, _, _, _, _, _, _, _, _, _, xZ17⟩, tyZ17, icZ17, ⟨gaZ17, ggZ17, exZ17, hdZ17, haZ17, hnE, htE, hmZ17⟩⟩
  have KX_BadRectangle : KindX l.prog w K mg base "BadRectangle" eZ18 := ⟨fZ18, ⟨PySem.W.mg_of X G aZ18, ⟨⟨_, _, _, _, _, _, _, _, _, _, _, _, _, _, _, xZ18, by rfl⟩, saZ18, exZ18, tyZ18, keZ18⟩, ⟨gaZ18, ggZ18, exZ18, hdZ18⟩, nwZ18, npZ18, iZ18, tZ18, exm_self exZ18 icZ18 tyZ18 scZ18⟩, _, ok_BadRectangle FZ18 FT GZ0 kZ0 bZ0, (binds_BadRectangle FZ18).1, (binds_BadRectangle FZ18).2, kbd_BadRectangle FZ18⟩
  have ekZ18 : EK K mg (.ref eZ0 :: veT) "BadRectangle" eZ18 := ⟨PySem.W.mg_of X G aZ18, ⟨_, _, _, _, _, _, _, _, _, _, _, _, _, _, xZ18⟩, tyZ18, icZ18, ⟨gaZ18, ggZ18, exZ18, hdZ18, haZ18, hnE, htE, hmZ18⟩⟩
  have EA : ErrAll l.prog w K mg base := errAll_of (l := [("BadLine", eZ1), ("BadFilm", eZ2), ("BadLayer", eZ3), ("DuplicateLayer", eZ4), ("UnknownLayer", eZ5), ("BadFrame", eZ6), ("BadClip", eZ7), ("BadCut", eZ8), ("BadEdit", eZ9), ("NothingToUndo", eZ10), ("NothingToRedo", eZ11), ("BadPaint", eZ12), ("BadPicture", eZ13), ("BadWhat", eZ14), ("BadMoves", eZ15), ("BadJoin", eZ16), ("BadPlace", eZ17), ("BadRectangle", eZ18)]) rfl nodE FX ekZ0 ⟨KX_BadLine, ⟨KX_BadFilm, ⟨KX_BadLayer, ⟨KX_DuplicateLayer, ⟨KX_UnknownLayer, ⟨KX_BadFrame, ⟨KX_BadClip, ⟨KX_BadCut, ⟨KX_BadEdit, ⟨KX_NothingToUndo, ⟨KX_NothingToRedo, ⟨KX_BadPaint, ⟨KX_BadPicture, ⟨KX_BadWhat, ⟨KX_BadMoves, ⟨KX_BadJoin, ⟨KX_BadPlace, ⟨KX_BadRectangle, True.intro⟩⟩⟩⟩⟩⟩⟩⟩⟩⟩⟩⟩⟩⟩⟩⟩⟩⟩ ⟨ekZ1, ⟨ekZ2, ⟨ekZ3, ⟨ekZ4, ⟨ekZ5, ⟨ekZ6, ⟨ekZ7, ⟨ekZ8, ⟨ekZ9, ⟨ekZ10, ⟨ekZ11, ⟨ekZ12, ⟨ekZ13, ⟨ekZ14, ⟨ekZ15, ⟨ekZ16, ⟨ekZ17, ⟨ekZ18, True.intro⟩⟩⟩⟩⟩⟩⟩⟩⟩⟩⟩⟩⟩⟩⟩⟩⟩⟩
  have F0 := fun_mk (st := s_l_with_place_too) l0 c0 k0
  have D_l_with_place_too : Def l.prog w K mg base CX0 "_law_with_place_too" 4 ["k", "place"] (spMkP mg 9 18) := ⟨f0, _, ok_l_with_place_too F0 T EA, PySem.W.mg_of X G a0, k0, F0.binds (ps := ["k", "place"]) fun _ _ _ _ _ _ us hl => match us, hl with | [_, _], _ => rfl⟩
  have F1 := fun_mk (st := s_l_with_place) l1 c1 k1
  have D_l_with_place : Def l.prog w K mg base CX0 "_law_with_place" 5 ["k", "place"] (spMkP mg 0 18) := ⟨f1, _, ok_l_with_place F1 T EA D_l_with_place_too, PySem.W.mg_of X G a1, k1, F1.binds (ps := ["k", "place"]) fun _ _ _ _ _ _ us hl => match us, hl with | [_, _], _ => rfl⟩
  have F2 := fun_mk (st := s_l_named_too) l2 c2 k2
  have D_l_named_too : Def l.prog w K mg base CX0 "_law_named_too" 4 ["k", "place"] (spMkP mg 9 18) := ⟨f2, _, ok_l_named_too F2 T EA, PySem.W.mg_of X G a2, k2, F2.binds (ps := ["k", "place"]) fun _ _ _ _ _ _ us hl => match us, hl with | [_, _], _ => rfl⟩
  have F3 := fun_mk (st := s_l_named) l3 c3 k3
  have D_l_named : Def l.prog w K mg base CX0 "_law_named" 5 ["k", "place"] (spMkP mg 0 18) := ⟨f3, _, ok_l_named F3 T EA D_l_named_too, PySem.W.mg_of X G a3, k3, F3.binds (ps := ["k", "place"]) fun _ _ _ _ _ _ us hl => match us, hl with | [_, _], _ => rfl⟩
  have F4 := fun_mk (st := s_l_plain_too) l4 c4 k4
  have D_l_plain_too : Def l.prog w K mg base CX0 "_law_plain_too" 4 ["k"] (spMk0 mg 9 18) := ⟨f4, _, ok_l_plain_too F4 T EA, PySem.W.mg_of X G a4, k4, F4.binds (ps := ["k"]) fun _ _ _ _ _ _ us hl => match us, hl with | [_], _ => rfl⟩
  have F5 := fun_mk (st := s_l_plain) l5 c5 k5
  have D_l_plain : Def l.prog w K mg base CX0 "_law_plain" 5 ["k"] (spMk0 mg 0 18) := ⟨f5, _, ok_l_plain F5 T EA D_l_plain_too, PySem.W.mg_of X G a5, k5, F5.binds (ps := ["k"]) fun _ _ _ _ _ _ us hl => match us, hl with | [_], _ => rfl⟩
  have F6 := fun_mk (st := s_l_cell) l6 c6 k6
  have D_l_cell : Def l.prog w K mg base CX0 "_law_cell" 1 ["script", "k"] (spCell K) := ⟨f6, _, ok_l_cell F6 T, PySem.W.mg_of X G a6, k6, F6.binds (ps := ["script", "k"]) fun _ _ _ _ _ _ us hl => match us, hl with | [_, _], _ => rfl⟩
  have F7 := fun_mk (st := s_l_words) l7 c7 k7
  have D_l_words : Def l.prog w K mg base CX0 "_law_words" 1 [] (spWords) := ⟨f7, _, ok_l_words F7 T, PySem.W.mg_of X G a7, k7, F7.binds (ps := []) fun _ _ _ _ _ _ us hl => match us, hl with | [], _ => rfl⟩
  have F8 := fun_mk (st := s_l_kinds) l8 c8 k8
  have D_l_kinds : Def l.prog w K mg base CX0 "_law_kinds" 1 ["e"] (spKindsE mg) := ⟨f8, _, ok_l_kinds F8 T EA, PySem.W.mg_of X G a8, k8, F8.binds (ps := ["e"]) fun _ _ _ _ _ _ us hl => match us, hl with | [_], _ => rfl⟩
  have DP_l_kinds : DefP l.prog w K mg base CX0 "_law_kinds" 1 ["e"] (spKindsP mg) := ⟨f8, _, okP_l_kinds F8 T EA, PySem.W.mg_of X G a8, k8, F8.binds (ps := ["e"]) fun _ _ _ _ _ _ us hl => match us, hl with | [_], _ => rfl⟩
  have F9 := fun_mk (st := s_l_place) l9 c9 k9
  have D_l_place : Def l.prog w K mg base CX0 "_law_place" 2 ["script"] (spPlace K) := ⟨f9, _, ok_l_place F9 T D_l_cell, PySem.W.mg_of X G a9, k9, F9.binds (ps := ["script"]) fun _ _ _ _ _ _ us hl => match us, hl with | [_], _ => rfl⟩
  have F10 := fun_mk (st := s_l_fine) l10 c10 k10
  have D_l_fine : DefG l.prog w K mg base CX0 "_law_fine" 4 ["e", "k", "place"] (spFine mg) := ⟨f10, _, ok_l_fine F10 T EA D_l_words D_l_kinds, PySem.W.mg_of X G a10, k10, F10.binds (ps := ["e", "k", "place"]) fun _ _ _ _ _ _ us hl => match us, hl with | [_, _, _], _ => rfl⟩
  have F11 := fun_mk (st := s_l_raised) l11 c11 k11
  have D_l_raised : DefG l.prog w K mg base CX0 "_law_raised" 6 ["k", "place"] (spRaised mg) := ⟨f11, _, ok_l_raised F11 T EA D_l_with_place DP_l_kinds, PySem.W.mg_of X G a11, k11, F11.binds (ps := ["k", "place"]) fun _ _ _ _ _ _ us hl => match us, hl with | [_, _], _ => rfl⟩
  exact ok_law (fun_mk (st := s_law) l12 c12 k12) T EA D_l_cell D_l_place D_l_with_place D_l_named D_l_plain D_l_fine D_l_raised
theorem walk {l : PySem.W.OpenLaw} {q : Program} {loose : List Str} {XP : (Str → Option Value) → Heap → Prop} {YP : World → Heap → Prop} {d : DefRec} {K : Params → PySem.W.Frag} (hn : l.most = some 63) (hdf : d.params.defaults = [])
    (hY : ∀ (w : World) (h : Heap), YP w h → (K w.params).In h)
    (F : ∀ (w : World) (mg : Str → Option Value) (fa : Addr) (h : Heap), (K w.params).In h → h.Ns mainGlobals mg → mg d.name = some (.ref fa) →
      ∃ fd : FuncData, (∀ (s : Shared) (u : Value), BindsTo s fd ⟨[u], []⟩ [("script", u)]) ∧ ∀ base : Heap, (K w.params).In base → base.Ns mainGlobals mg → FnG l.prog w (K w.params) mg base CX0 7 fa fd ["script"] (spLaw (K w.params))) :
    PySem.W.WalkO q loose XP YP l.row.toRowW d [] (fun f vs => PySem.call f vs) :=
  walk_g (n := 63) (k := 7) (x := "script") (sp := fun w => spLaw (K w.params)) hn (by decide) hdf ⟨rfl, by decide, by decide⟩ hY F fun _ _ a ns hl _ hS => ⟨a, ns, rfl, hS, hl, fun _ => rfl⟩
end Od
open PySem PySem.W PyProof.Rows in
set_option maxRecDepth 100000 in
set_option maxHeartbeats 0 in
theorem PySem.Challenge.cw_onlythedirt_k59_errors_apart_holds : PySem.Challenge.rw_onlythedirt_k59_errors_apart.Holds := by
  w_on; o_law; k_head; (case hw => w_witness2)
  k_fill
  refine Od.walk (l := PySem.Challenge.rw_onlythedirt_k59_errors_apart) rfl rfl (fun w h Y => PySem.W.kIn_of Y) ?F
  case F =>
    intro w mg fa h KX G hmg
    refine' Od.all_mk KX G hmg ?a0 ?l0 ?c0 ?k0 ?a1 ?l1 ?c1 ?k1 ?a2 ?l2 ?c2 ?k2 ?a3 ?l3 ?c3 ?k3 ?a4 ?l4 ?c4 ?k4 ?a5 ?l5 ?c5 ?k5 ?a6 ?l6 ?c6 ?k6 ?a7 ?l7 ?c7 ?k7 ?a8 ?l8 ?c8 ?k8 ?a9 ?l9 ?c9 ?k9 ?a10 ?l10 ?c10 ?k10 ?a11 ?l11 ?c11 ?k11 ?a12 ?l12 ?c12 ?k12 ?z_ValueError ?z_int ?z_isinstance ?z_len ?z_range ?z_repr ?z_str ?aZ0 ?rZ0 ?gZ0 ?iZ0 ?vZ0 ?wZ0 ?lZ0 ?cZ0 ?kZ0 ?dZ0 ?xZ0 ?saZ0 ?gaZ0 ?ggZ0 ?nwZ0 ?npZ0 ?ifZ0 ?tZ0 ?keZ0 ?exZ0 ?tyZ0 ?hdZ0 ?icZ0 ?scZ0 ?haZ0 ?hmZ0 ?hnE ?htE ?aZ1 ?xZ1 ?saZ1 ?gaZ1 ?ggZ1 ?nwZ1 ?npZ1 ?iZ1 ?tZ1 ?keZ1 ?exZ1 ?tyZ1 ?hdZ1 ?icZ1 ?scZ1 ?lZ1 ?cZ1 ?kZ1 ?dZ1 ?haZ1 ?hmZ1 ?aZ2 ?xZ2 ?saZ2 ?gaZ2 ?ggZ2 ?nwZ2 ?npZ2 ?iZ2 ?tZ2 ?keZ2 ?exZ2 ?tyZ2 ?hdZ2 ?icZ2 ?scZ2 ?lZ2 ?cZ2 ?kZ2 ?dZ2 ?haZ2 ?hmZ2 ?aZ3 ?xZ3 ?saZ3 ?gaZ3 ?ggZ3 ?nwZ3 ?npZ3 ?iZ3 ?tZ3 ?keZ3 ?exZ3 ?tyZ3 ?hdZ3 ?icZ3 ?scZ3 ?lZ3 ?cZ3 ?kZ3 ?dZ3 ?haZ3 ?hmZ3 ?aZ4 ?xZ4 ?saZ4 ?gaZ4 ?ggZ4 ?nwZ4 ?npZ4 ?iZ4 ?tZ4 ?keZ4 ?exZ4 ?tyZ4 ?hdZ4 ?icZ4 ?scZ4 ?lZ4 ?cZ4 ?kZ4 ?dZ4 ?haZ4 ?hmZ4 ?aZ5 ?xZ5 ?saZ5 ?gaZ5 ?ggZ5 ?nwZ5 ?npZ5 ?iZ5 ?tZ5 ?keZ5 ?exZ5 ?tyZ5 ?hdZ5 ?icZ5 ?scZ5 ?lZ5 ?cZ5 ?kZ5 ?dZ5 ?haZ5 ?hmZ5 ?aZ6 ?xZ6 ?saZ6 ?gaZ6 ?ggZ6 ?nwZ6 ?npZ6 ?iZ6 ?tZ6 ?keZ6 ?exZ6 ?tyZ6 ?hdZ6 ?icZ6 ?scZ6 ?lZ6 ?cZ6 ?kZ6 ?dZ6 ?haZ6 ?hmZ6 ?aZ7 ?xZ7 ?saZ7 ?gaZ7 ?ggZ7 ?nwZ7 ?npZ7 ?iZ7 ?tZ7 ?keZ7 ?exZ7 ?tyZ7 ?hdZ7 ?icZ7 ?scZ7 ?lZ7 ?cZ7 ?kZ7 ?dZ7 ?haZ7 ?hmZ7 ?aZ8 ?xZ8 ?saZ8 ?gaZ8 ?ggZ8 ?nwZ8 ?npZ8 ?iZ8 ?tZ8 ?keZ8 ?exZ8 ?tyZ8 ?hdZ8 ?icZ8 ?scZ8 ?lZ8 ?cZ8 ?kZ8 ?dZ8 ?haZ8 ?hmZ8 ?aZ9 ?xZ9 ?saZ9 ?gaZ9 ?ggZ9 ?nwZ9 ?npZ9 ?iZ9 ?tZ9 ?keZ9 ?exZ9 ?tyZ9 ?hdZ9 ?icZ9 ?scZ9 ?lZ9 ?cZ9 ?kZ9 ?dZ9 ?haZ9 ?hmZ9 ?aZ10 ?xZ10 ?saZ10 ?gaZ10 ?ggZ10 ?nwZ10 ?npZ10 ?iZ10 ?tZ10 ?keZ10 ?exZ10 ?tyZ10 ?hdZ10 ?icZ10 ?scZ10 ?lZ10 ?cZ10 ?kZ10 ?dZ10 ?haZ10 ?hmZ10 ?aZ11 ?xZ11 ?saZ11 ?gaZ11 ?ggZ11 ?nwZ11 ?npZ11 ?iZ11 ?tZ11 ?keZ11 ?exZ11 ?tyZ11 ?hdZ11 ?icZ11 ?scZ11 ?lZ11 ?cZ11 ?kZ11 ?dZ11 ?haZ11 ?hmZ11 ?aZ12 ?xZ12 ?saZ12 ?gaZ12 ?ggZ12 ?nwZ12 ?npZ12 ?iZ12 ?tZ12 ?keZ12 ?exZ12 ?tyZ12 ?hdZ12 ?icZ12 ?scZ12 ?lZ12 ?cZ12 ?kZ12 ?dZ12 ?haZ12 ?hmZ12 ?aZ13 ?xZ13 ?saZ13 ?gaZ13 ?ggZ13 ?nwZ13 ?npZ13 ?iZ13 ?tZ13 ?keZ13 ?exZ13 ?tyZ13 ?hdZ13 ?icZ13 ?scZ13 ?lZ13 ?cZ13 ?kZ13 ?dZ13 ?haZ13 ?hmZ13 ?aZ14 ?xZ14 ?saZ14 ?gaZ14 ?ggZ14 ?nwZ14 ?npZ14 ?iZ14 ?tZ14 ?keZ14 ?exZ14 ?tyZ14 ?hdZ14 ?icZ14 ?scZ14 ?lZ14 ?cZ14 ?kZ14 ?dZ14 ?haZ14 ?hmZ14 ?aZ15 ?xZ15 ?saZ15 ?gaZ15 ?ggZ15 ?nwZ15 ?npZ15 ?iZ15 ?tZ15 ?keZ15 ?exZ15 ?tyZ15 ?hdZ15 ?icZ15 ?scZ15 ?lZ15 ?cZ15 ?kZ15 ?dZ15 ?haZ15 ?hmZ15 ?aZ16 ?xZ16 ?saZ16 ?gaZ16 ?ggZ16 ?nwZ16 ?npZ16 ?iZ16 ?tZ16 ?keZ16 ?exZ16 ?tyZ16 ?hdZ16 ?icZ16 ?scZ16 ?lZ16 ?cZ16 ?kZ16 ?dZ16 ?haZ16 ?hmZ16 ?aZ17 ?xZ17 ?saZ17 ?gaZ17 ?ggZ17 ?nwZ17 ?npZ17 ?iZ17 ?tZ17 ?keZ17 ?exZ17 ?tyZ17 ?hdZ17 ?icZ17 ?scZ17 ?lZ17 ?cZ17 ?kZ17 ?dZ17 ?haZ17 ?hmZ17 ?aZ18 ?xZ18 ?saZ18 ?gaZ18 ?ggZ18 ?nwZ18 ?npZ18 ?iZ18 ?tZ18 ?keZ18 ?exZ18 ?tyZ18 ?hdZ18 ?icZ18 ?scZ18 ?lZ18 ?cZ18 ?kZ18 ?dZ18 ?haZ18 ?hmZ18 ?nodE
    (case a0 => k_is)
    (case l0 => k_is)
    (case c0 => k_is)
    (case k0 => k_is)
    (case a1 => k_is)
    (case l1 => k_is)
    (case c1 => k_is)
    (case k1 => k_is)
    (case a2 => k_is)
    (case l2 => k_is)
    (case c2 => k_is)
    (case k2 => k_is)
    (case a3 => k_is)
    (case l3 => k_is)
    (case c3 => k_is)
    (case k3 => k_is)
    (case a4 => k_is)
    (case l4 => k_is)
    (case c4 => k_is)
    (case k4 => k_is)
    (case a5 => k_is)
    (case l5 => k_is)
    (case c5 => k_is)
    (case k5 => k_is)
    (case a6 => k_is)
    (case l6 => k_is)
    (case c6 => k_is)
    (case k6 => k_is)
    (case a7 => k_is)
    (case l7 => k_is)
    (case c7 => k_is)
    (case k7 => k_is)
    (case a8 => k_is)
    (case l8 => k_is)
    (case c8 => k_is)
    (case k8 => k_is)
    (case a9 => k_is)
    (case l9 => k_is)
    (case c9 => k_is)
    (case k9 => k_is)
    (case a10 => k_is)
    (case l10 => k_is)
    (case c10 => k_is)
    (case k10 => k_is)
    (case a11 => k_is)
    (case l11 => k_is)
    (case c11 => k_is)
    (case k11 => k_is)
    (case a12 => k_is)
    (case l12 => k_is)
    (case c12 => k_is)
    (case k12 => k_is)
    (case z_ValueError => k_is)
    (case z_int => k_is)
    (case z_isinstance => k_is)
    (case z_len => k_is)
    (case z_range => k_is)
    (case z_repr => k_is)
    (case z_str => k_is)
    (case aZ0 => k_is)
    (case rZ0 => k_is)
    (case gZ0 => k_is)
    (case iZ0 => k_is)
    (case vZ0 => k_is)
    (case wZ0 => k_is)
    (case lZ0 => k_is)
    (case cZ0 => k_is)
    (case kZ0 => k_is)
    (case dZ0 => k_is)
    (case xZ0 => k_is)
    (case saZ0 => k_is)
    (case gaZ0 => k_is)
    (case ggZ0 => k_is)
    (case nwZ0 => k_is)
    (case npZ0 => k_is)
    (case ifZ0 => k_is)
    (case tZ0 => k_is)
    (case keZ0 => k_is)
    (case exZ0 => k_is)
    (case tyZ0 => k_is)
    (case hdZ0 => k_is)
    (case icZ0 => k_is)
    (case scZ0 => k_is)
    (case haZ0 => k_is)
    (case hmZ0 => k_is)
    (case hnE => k_is)
    (case htE => k_is)
    (case aZ1 => k_is)
    (case xZ1 => k_is)
    (case saZ1 => k_is)
    (case gaZ1 => k_is)
    (case ggZ1 => k_is)
    (case nwZ1 => k_is)
    (case npZ1 => k_is)
    (case iZ1 => k_is)
    (case tZ1 => k_is)
    (case keZ1 => k_is)
    (case exZ1 => k_is)
    (case tyZ1 => k_is)
    (case hdZ1 => k_is)
    (case icZ1 => k_is)
    (case scZ1 => k_is)
    (case lZ1 => k_is)
    (case cZ1 => k_is)
    (case kZ1 => k_is)
    (case dZ1 => k_is)
    (case haZ1 => k_is)
    (case hmZ1 => k_is)
    (case aZ2 => k_is)
    (case xZ2 => k_is)
    (case saZ2 => k_is)
    (case gaZ2 => k_is)
    (case ggZ2 => k_is)
    (case nwZ2 => k_is)
    (case npZ2 => k_is)
    (case iZ2 => k_is)
    (case tZ2 => k_is)
    (case keZ2 => k_is)
    (case exZ2 => k_is)
    (case tyZ2 => k_is)
    (case hdZ2 => k_is)
    (case icZ2 => k_is)
    (case scZ2 => k_is)
    (case lZ2 => k_is)
    (case cZ2 => k_is)
    (case kZ2 => k_is)
    (case dZ2 => k_is)
    (case haZ2 => k_is)
    (case hmZ2 => k_is)
    (case aZ3 => k_is)
    (case xZ3 => k_is)
    (case saZ3 => k_is)
    (case gaZ3 => k_is)
    (case ggZ3 => k_is)
    (case nwZ3 => k_is)
    (case npZ3 => k_is)
    (case iZ3 => k_is)
    (case tZ3 => k_is)
    (case keZ3 => k_is)
    (case exZ3 => k_is)
    (case tyZ3 => k_is)
    (case hdZ3 => k_is)
    (case icZ3 => k_is)
    (case scZ3 => k_is)
    (case lZ3 => k_is)
    (case cZ3 => k_is)
    (case kZ3 => k_is)
    (case dZ3 => k_is)
    (case haZ3 => k_is)
    (case hmZ3 => k_is)
    (case aZ4 => k_is)
    (case xZ4 => k_is)
    (case saZ4 => k_is)
    (case gaZ4 => k_is)
    (case ggZ4 => k_is)
    (case nwZ4 => k_is)
    (case npZ4 => k_is)
    (case iZ4 => k_is)
    (case tZ4 => k_is)
    (case keZ4 => k_is)
    (case exZ4 => k_is)
    (case tyZ4 => k_is)
    (case hdZ4 => k_is)
    (case icZ4 => k_is)
    (case scZ4 => k_is)
    (case lZ4 => k_is)
    (case cZ4 => k_is)
    (case kZ4 => k_is)
    (case dZ4 => k_is)
    (case haZ4 => k_is)
    (case hmZ4 => k_is)
    (case aZ5 => k_is)
    (case xZ5 => k_is)
    (case saZ5 => k_is)
    (case gaZ5 => k_is)
    (case ggZ5 => k_is)
    (case nwZ5 => k_is)
    (case npZ5 => k_is)
    (case iZ5 => k_is)
    (case tZ5 => k_is)
    (case keZ5 => k_is)
    (case exZ5 => k_is)
    (case tyZ5 => k_is)
    (case hdZ5 => k_is)
    (case icZ5 => k_is)
    (case scZ5 => k_is)
    (case lZ5 => k_is)
    (case cZ5 => k_is)
    (case kZ5 => k_is)
    (case dZ5 => k_is)
    (case haZ5 => k_is)
    (case hmZ5 => k_is)
    (case aZ6 => k_is)
    (case xZ6 => k_is)
    (case saZ6 => k_is)
    (case gaZ6 => k_is)
    (case ggZ6 => k_is)
    (case nwZ6 => k_is)
    (case npZ6 => k_is)
    (case iZ6 => k_is)
    (case tZ6 => k_is)
    (case keZ6 => k_is)
    (case exZ6 => k_is)
    (case tyZ6 => k_is)
    (case hdZ6 => k_is)
    (case icZ6 => k_is)
    (case scZ6 => k_is)
    (case lZ6 => k_is)
    (case cZ6 => k_is)
    (case kZ6 => k_is)
    (case dZ6 => k_is)
    (case haZ6 => k_is)
    (case hmZ6 => k_is)
    (case aZ7 => k_is)
    (case xZ7 => k_is)
    (case saZ7 => k_is)
    (case gaZ7 => k_is)
    (case ggZ7 => k_is)
    (case nwZ7 => k_is)
    (case npZ7 => k_is)
    (case iZ7 => k_is)
    (case tZ7 => k_is)
    (case keZ7 => k_is)
    (case exZ7 => k_is)
    (case tyZ7 => k_is)
    (case hdZ7 => k_is)
    (case icZ7 => k_is)
    (case scZ7 => k_is)
    (case lZ7 => k_is)
    (case cZ7 => k_is)
    (case kZ7 => k_is)
    (case dZ7 => k_is)
    (case haZ7 => k_is)
    (case hmZ7 => k_is)
    (case aZ8 => k_is)
    (case xZ8 => k_is)
    (case saZ8 => k_is)
    (case gaZ8 => k_is)
    (case ggZ8 => k_is)
    (case nwZ8 => k_is)
    (case npZ8 => k_is)
    (case iZ8 => k_is)
    (case tZ8 => k_is)
    (case keZ8 => k_is)
    (case exZ8 => k_is)
    (case tyZ8 => k_is)
    (case hdZ8 => k_is)
    (case icZ8 => k_is)
    (case scZ8 => k_is)
    (case lZ8 => k_is)
    (case cZ8 => k_is)
    (case kZ8 => k_is)
    (case dZ8 => k_is)
    (case haZ8 => k_is)
    (case hmZ8 => k_is)
    (case aZ9 => k_is)
    (case xZ9 => k_is)
    (case saZ9 => k_is)
    (case gaZ9 => k_is)
    (case ggZ9 => k_is)
    (case nwZ9 => k_is)
    (case npZ9 => k_is)
    (case iZ9 => k_is)
    (case tZ9 => k_is)
    (case keZ9 => k_is)
    (case exZ9 => k_is)
    (case tyZ9 => k_is)
    (case hdZ9 => k_is)
    (case icZ9 => k_is)
    (case scZ9 => k_is)
    (case lZ9 => k_is)
    (case cZ9 => k_is)
    (case kZ9 => k_is)
    (case dZ9 => k_is)
    (case haZ9 => k_is)
    (case hmZ9 => k_is)
    (case aZ10 => k_is)
    (case xZ10 => k_is)
    (case saZ10 => k_is)
    (case gaZ10 => k_is)
    (case ggZ10 => k_is)
    (case nwZ10 => k_is)
    (case npZ10 => k_is)
    (case iZ10 => k_is)
    (case tZ10 => k_is)
    (case keZ10 => k_is)
    (case exZ10 => k_is)
    (case tyZ10 => k_is)
    (case hdZ10 => k_is)
    (case icZ10 => k_is)
    (case scZ10 => k_is)
    (case lZ10 => k_is)
    (case cZ10 => k_is)
    (case kZ10 => k_is)
    (case dZ10 => k_is)
    (case haZ10 => k_is)
    (case hmZ10 => k_is)
    (case aZ11 => k_is)
    (case xZ11 => k_is)
    (case saZ11 => k_is)
    (case gaZ11 => k_is)
    (case ggZ11 => k_is)
    (case nwZ11 => k_is)
    (case npZ11 => k_is)
    (case iZ11 => k_is)
    (case tZ11 => k_is)
    (case keZ11 => k_is)
    (case exZ11 => k_is)
    (case tyZ11 => k_is)
    (case hdZ11 => k_is)
    (case icZ11 => k_is)
    (case scZ11 => k_is)
    (case lZ11 => k_is)
    (case cZ11 => k_is)
    (case kZ11 => k_is)
    (case dZ11 => k_is)
    (case haZ11 => k_is)
    (case hmZ11 => k_is)
    (case aZ12 => k_is)
    (case xZ12 => k_is)
    (case saZ12 => k_is)
    (case gaZ12 => k_is)
    (case ggZ12 => k_is)
    (case nwZ12 => k_is)
    (case npZ12 => k_is)
    (case iZ12 => k_is)
    (case tZ12 => k_is)
    (case keZ12 => k_is)
    (case exZ12 => k_is)
    (case tyZ12 => k_is)
    (case hdZ12 => k_is)
    (case icZ12 => k_is)
    (case scZ12 => k_is)
    (case lZ12 => k_is)
    (case cZ12 => k_is)
    (case kZ12 => k_is)
    (case dZ12 => k_is)
    (case haZ12 => k_is)
    (case hmZ12 => k_is)
    (case aZ13 => k_is)
    (case xZ13 => k_is)
    (case saZ13 => k_is)
    (case gaZ13 => k_is)
    (case ggZ13 => k_is)
    (case nwZ13 => k_is)
    (case npZ13 => k_is)
    (case iZ13 => k_is)
    (case tZ13 => k_is)
    (case keZ13 => k_is)
    (case exZ13 => k_is)
    (case tyZ13 => k_is)
    (case hdZ13 => k_is)
    (case icZ13 => k_is)
    (case scZ13 => k_is)
    (case lZ13 => k_is)
    (case cZ13 => k_is)
    (case kZ13 => k_is)
    (case dZ13 => k_is)
    (case haZ13 => k_is)
    (case hmZ13 => k_is)
    (case aZ14 => k_is)
    (case xZ14 => k_is)
    (case saZ14 => k_is)
    (case gaZ14 => k_is)
    (case ggZ14 => k_is)
    (case nwZ14 => k_is)
    (case npZ14 => k_is)
    (case iZ14 => k_is)
    (case tZ14 => k_is)
    (case keZ14 => k_is)
    (case exZ14 => k_is)
    (case tyZ14 => k_is)
    (case hdZ14 => k_is)
    (case icZ14 => k_is)
    (case scZ14 => k_is)
    (case lZ14 => k_is)
    (case cZ14 => k_is)
    (case kZ14 => k_is)
    (case dZ14 => k_is)
    (case haZ14 => k_is)
    (case hmZ14 => k_is)
    (case aZ15 => k_is)
    (case xZ15 => k_is)
    (case saZ15 => k_is)
    (case gaZ15 => k_is)
    (case ggZ15 => k_is)
    (case nwZ15 => k_is)
    (case npZ15 => k_is)
    (case iZ15 => k_is)
    (case tZ15 => k_is)
    (case keZ15 => k_is)
    (case exZ15 => k_is)
    (case tyZ15 => k_is)
    (case hdZ15 => k_is)
    (case icZ15 => k_is)
    (case scZ15 => k_is)
    (case lZ15 => k_is)
    (case cZ15 => k_is)
    (case kZ15 => k_is)
    (case dZ15 => k_is)
    (case haZ15 => k_is)
    (case hmZ15 => k_is)
    (case aZ16 => k_is)
    (case xZ16 => k_is)
    (case saZ16 => k_is)
    (case gaZ16 => k_is)
    (case ggZ16 => k_is)
    (case nwZ16 => k_is)
    (case npZ16 => k_is)
    (case iZ16 => k_is)
    (case tZ16 => k_is)
    (case keZ16 => k_is)
    (case exZ16 => k_is)
    (case tyZ16 => k_is)
    (case hdZ16 => k_is)
    (case icZ16 => k_is)
    (case scZ16 => k_is)
    (case lZ16 => k_is)
    (case cZ16 => k_is)
    (case kZ16 => k_is)
    (case dZ16 => k_is)
    (case haZ16 => k_is)
    (case hmZ16 => k_is)
    (case aZ17 => k_is)
    (case xZ17 => k_is)
    (case saZ17 => k_is)
    (case gaZ17 => k_is)
    (case ggZ17 => k_is)
    (case nwZ17 => k_is)
    (case npZ17 => k_is)
    (case iZ17 => k_is)
    (case tZ17 => k_is)
    (case keZ17 => k_is)
    (case exZ17 => k_is)
    (case tyZ17 => k_is)
    (case hdZ17 => k_is)
    (case icZ17 => k_is)
    (case scZ17 => k_is)
    (case lZ17 => k_is)
    (case cZ17 => k_is)
    (case kZ17 => k_is)
    (case dZ17 => k_is)
    (case haZ17 => k_is)
    (case hmZ17 => k_is)
    (case aZ18 => k_is)
    (case xZ18 => k_is)
    (case saZ18 => k_is)
    (case gaZ18 => k_is)
    (case ggZ18 => k_is)
    (case nwZ18 => k_is)
    (case npZ18 => k_is)
    (case iZ18 => k_is)
    (case tZ18 => k_is)
    (case keZ18 => k_is)
    (case exZ18 => k_is)
    (case tyZ18 => k_is)
    (case hdZ18 => k_is)
    (case icZ18 => k_is)
    (case scZ18 => k_is)
    (case lZ18 => k_is)
    (case cZ18 => k_is)
    (case kZ18 => k_is)
    (case dZ18 => k_is)
    (case haZ18 => k_is)
    (case hmZ18 => k_is)
    (case nodE => decide)
