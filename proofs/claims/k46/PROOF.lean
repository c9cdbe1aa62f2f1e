import PyProof.Rows.All
import Wide.All
import OpenK.AllK
import Wide.FinOn
import HandS.ForMost
import HandS.Evl
import HandS.IsInst
import HandS.TupAny
import HandS.SortInts
import HandS.Conv
import HandS.TupLen
import HandS.TupMul
import HandS.Steps
import PyProof.ReprRoads
import PyProof.Rows.RegFStrParts
import HandS.Walk
import KE.KDictZip
import KE.KItemsList
import HandS.ListItems
import HandS.Style
import KE.KRevSl
import HandS.Iter
import KE.BitLaws
import HandS.Flow
import HandS.Lambda
import HandS.EndTab
import KE.KSortKeyAny
import HandS.More
import HandS.ForExc
import HandS.ExcInit
import HandS.ExcOwn
import HandS.ExcField
import HandS.WordsExc
import HandS.Defaults
import HandS.ExcIs
import KE.KExcIs
import PyProof.RulesMatchSeq
import PyProof.Rows.MatchSeqLen
import PyProof.EqKinds
import PyProof.P3In
import HandS.Deep
import HandS.Property
import HandS.Comp
import HandS.TupLe
import HandS.SetFor
import HandS.Strs
import HandS.SortRule
import PySem.Challenge.RW_onlythedirt_k46_dirt
set_option Elab.async false
set_option linter.all false
set_option maxRecDepth 100000
set_option maxHeartbeats 4000000
namespace Od
open PySem L2 Evl
/-- the same objects, the one at a told otherwise -/
structure Swp (P : Program) (w : World) (H' H'' : Hp) (a : Addr) (o u : HO) : Prop where
  at1 : H' a = some o
  eq : H'' = upd H' a u
  nt : ∀ xs, o ≠ .tup xs
  nf : ∀ x y, o ≠ .frz x y
  nb : ∀ ps, o ≠ .tbl ps
  nw : ∀ x, o ≠ .own x
  to : ∀ h, HOk P w H' h → ObjOk P w H'' h a u
theorem Swp.ne {P : Program} {w : World} {H' H'' : Hp} {a b : Addr} {o u x : HO} (S : Swp P w H' H'' a o u) (h : H' b = some x) (d : o ≠ x) : b ≠ a := by
  intro e
  rw [e, S.at1] at h
  exact d (Option.some.inj h)
theorem Swp.hok {P : Program} {w : World} {H' H'' : Hp} {a : Addr} {o u : HO} {h : Heap} (S : Swp P w H' H'' a o u) (k : HOk P w H' h) : HOk P w H'' h := by
  intro b x e
  by_cases hb : b = a
  · subst hb
    have e2 := e
    rw [S.eq, upd_same] at e2
    cases e2
    exact S.to h k
  · have e1 : H' b = some x := by
      rw [S.eq, upd_ne hb] at e
      exact e
    refine (k b x e1).stay (fun c v _ q => q) (fun c q => ?_) (fun c xs q => ?_)
    · rw [S.eq, upd_ne (S.ne q (S.nw _))]
      exact q
    · rw [S.eq, upd_ne (S.ne q (S.nt _))]
      exact q
theorem Swp.env {P : Program} {w : World} {K : PySem.W.Frag} {mg : Str → Option Value} {base : Heap} {A : Around} {outer : List Env} {s : Shared} {H H1 : Hp} {a : Addr} {o u : HO}
    (S : Swp P w H H1 a o u) (e : Env0 P w K mg base A outer s H) : Env0 P w K mg base A outer s H1 := by
  have z : ∀ b, H b = none → H1 b = none := fun b n => by
    rw [S.eq, upd_ne ?_]
    · exact n
    · intro z
      rw [z, S.at1] at n
      cases n
  exact ⟨e.frames, e.mod, fun b x q => ⟨(e.bs b x q).1, z b (e.bs b x q).2⟩, e.bsz, e.funs, fun b hb => z b (e.frf b hb), S.hok e.hok, e.bare⟩
end Od
namespace Od
open PySem L2 Evl
def deckV (n k seed : Int) (l : Addr) (c : Int) : List V := [.int n, .int k, .int seed, .ref l, .int c]
def IsDeck (l : Addr) (xs : List V) : Prop := ∃ n k seed c, xs = deckV n k seed l c ∧ 0 ≤ n ∧ 0 ≤ k ∧ 0 ≤ seed ∧ seed < 2147483647
def deckO (a l : Addr) : HO := .ext fun h => ∃ xs, IsDeck l xs ∧ ∃ (its : List Value) (n : Nat), Vals xs its ∧ h.get? a = some { cls := .type "list", data := .seq its.toArray n }
def DeckAt (K : PySem.W.Frag) (H : Hp) (a : Addr) : Prop := ∃ (l : Addr) (ns : List Int), H a = some (deckO a l) ∧ H l = some (.lst (ns.map V.int))
theorem DeckAt.mono {K : PySem.W.Frag} {H H' : Hp} {a : Addr} (e : Ex H H') (h : DeckAt K H a) : DeckAt K H' a := by
  obtain ⟨l, ns, h1, h2⟩ := h
  exact ⟨l, ns, e _ _ h1, e _ _ h2⟩
end Od
namespace Od
open PySem L2 Evl
inductive Kn (H : Hp) : V → String → Prop
  | non : Kn H .non "NoneType"
  | bl (b : Bool) : Kn H (.bl b) "bool"
  | int (i : Int) : Kn H (.int i) "int"
  | str (x : Str) : Kn H (.str x) "str"
  | tup {a : Addr} {xs : List V} (h : H a = some (.tup xs)) : Kn H (.ref a) "tuple"
  | lst {a : Addr} {xs : List V} (h : H a = some (.lst xs)) : Kn H (.ref a) "list"
theorem Kn.mono {H H' : Hp} {v : V} {T : String} (e : Ex H H') (k : Kn H v T) : Kn H' v T := by
  cases k with
  | non => exact .non
  | bl b => exact .bl b
  | int i => exact .int i
  | str x => exact .str x
  | tup h => exact .tup (e _ _ h)
  | lst h => exact .lst (e _ _ h)
theorem Kn.ty {K : PySem.W.Frag} {H : Hp} {v : V} {T : String} (k : Kn H v T) : TyX K H v (.type T) := by
  cases k with
  | non => exact .base .non
  | bl b => exact .base (.bl b)
  | int i => exact .base (.int i)
  | str x => exact .base (.str x)
  | tup h => exact .base (.tup h)
  | lst h => exact .base (.lst h)
/-- isinstance of such a value -/
def isA (T n : String) : Bool := T == n || (T == "bool" && n == "int")
theorem kit_int {H : Hp} {v : V} {T : String} (k : Kn H v T) : kitB T "int" = some (isA T "int") := by
  cases k <;> decide +kernel
theorem kit_bool {H : Hp} {v : V} {T : String} (k : Kn H v T) : kitB T "bool" = some (isA T "bool") := by
  cases k <;> decide +kernel
theorem kit_tuple {H : Hp} {v : V} {T : String} (k : Kn H v T) : kitB T "tuple" = some (isA T "tuple") := by
  cases k <;> decide +kernel
theorem kit_list {H : Hp} {v : V} {T : String} (k : Kn H v T) : kitB T "list" = some (isA T "list") := by
  cases k <;> decide +kernel
theorem kit_str {H : Hp} {v : V} {T : String} (k : Kn H v T) : kitB T "str" = some (isA T "str") := by
  cases k <;> decide +kernel
def isI : V → Bool
  | .int _ => true
  | _ => false
theorem Kn.whole {H : Hp} {v : V} {T : String} (k : Kn H v T) : (isA T "int" && !isA T "bool") = isI v := by
  have h1 : (isA "NoneType" "int" && !isA "NoneType" "bool") = false := by decide +kernel
  have h2 : (isA "bool" "int" && !isA "bool" "bool") = false := by decide +kernel
  have h3 : (isA "int" "int" && !isA "int" "bool") = true := by decide +kernel
  have h4 : (isA "str" "int" && !isA "str" "bool") = false := by decide +kernel
  have h5 : (isA "tuple" "int" && !isA "tuple" "bool") = false := by decide +kernel
  have h6 : (isA "list" "int" && !isA "list" "bool") = false := by decide +kernel
  cases k with
  | non => exact h1
  | bl b => exact h2
  | int i => exact h3
  | str x => exact h4
  | tup h => exact h5
  | lst h => exact h6
/-- a comprehension's turn without a test -/
theorem lcY {σ : L2.St} {H : Hp} {A B : Hp → Prop} (h : A H) : tYes σ H (fun b H3 => if b = true then A H3 else B H3) := by
  show if true = true then A H else B H
  exact iteT h
/-- a def that is called: where it stands, what it promises -/
structure Def (P : Program) (w : World) (K : PySem.W.Frag) (mg : Str → Option Value) (base : Heap) (CX : CXT) (x : Str) (k : Nat) (ps : List Str) (sp : Sp) where
  f : Addr
  fd : FuncData
  ok : FnOk P w K mg base CX k f fd ps sp
  mgf : mg x = some (.ref f)
  kp : PySem.W.keepIn K (.ref f) = true
  b : L2.Binds K fd ps []
end Od
namespace Od
open PySem L2 Evl
theorem bt_isinstance : bootBuiltins "isinstance" = some (.builtin "isinstance") := by decide +kernel
theorem bt_all : bootBuiltins "all" = some (.builtin "all") := by decide +kernel
theorem bt_sorted : bootBuiltins "sorted" = some (.builtin "sorted") := by decide +kernel
theorem bt_min : bootBuiltins "min" = some (.builtin "min") := by decide +kernel
theorem bt_max : bootBuiltins "max" = some (.builtin "max") := by decide +kernel
theorem bt_int : bootBuiltins "int" = some (.type "int") := by decide +kernel
theorem bt_bool : bootBuiltins "bool" = some (.type "bool") := by decide +kernel
theorem bt_tuple : bootBuiltins "tuple" = some (.type "tuple") := by decide +kernel
theorem bt_list : bootBuiltins "list" = some (.type "list") := by decide +kernel
theorem bt_str : bootBuiltins "str" = some (.type "str") := by decide +kernel
theorem pickI {ns : List Int} {i : Int} (h0 : 0 ≤ i) (h1 : i < ns.length) : ∃ w, w ∈ ns ∧ atI (ns.map V.int) i = some (.int w) := by
  obtain ⟨m, rfl⟩ := Int.eq_ofNat_of_zero_le h0
  have hm : m < ns.length := by omega
  exact ⟨ns[m], List.getElem_mem hm, atI_nat (by rw [List.getElem?_map, List.getElem?_eq_getElem hm]; rfl)⟩
theorem ex_free {H H' : Hp} {p : Addr} (e : Ex H H') (h : H' p = none) : H p = none := fresh_back e h
theorem cutV_whole {xs : List V} {lo hi : Option Int} (h : HT.sIx xs.length 0 lo = 0 ∧ HT.sIx xs.length xs.length hi = xs.length) : cutV xs lo hi = xs := by
  unfold cutV
  rw [h.1, h.2]
  simp
structure RSlS (K : PySem.W.Frag) (x : V) (lo hi : Option Int) (H : Hp) (Q : VK) : Prop where
  h : rSlA K x lo hi H Q
theorem slA {K : PySem.W.Frag} {H : Hp} {a : Addr} {xs : List V} {lo hi : Option Int} {Q : VK} (h : H a = some (.tup xs)) (q : ∀ p H', Ex H H' → H' p = some (.tup (cutV xs lo hi)) → Q (.ref p) H') : RSlS K (.ref a) lo hi H Q := by
  refine .mk ?_
  refine ⟨a, xs, rfl, SqT.of h, fun hw => ?_, fun _ p hp => q p _ (Ex.new hp) upd_same⟩
  refine q a H (Ex.refl _) ?_
  rw [cutV_whole hw]
  exact h
end Od
namespace Od
open PySem L2 Evl
section
variable {X : Cx} (K : PySem.W.Frag)
theorem kisi (h : X.K = K := by rfl) : CallR X (.builtin "isinstance") (rIsi K) := by
  subst h
  exact call_isi
theorem kixL (h : X.K = K := by rfl) : IxR X (rIxL K) := by
  subst h
  exact ix_list
theorem kixT (h : X.K = K := by rfl) : IxR X (rIxT K) := by
  subst h
  exact ix_tup
theorem kslL (h : X.K = K := by rfl) : SlR X (rSlL K) := by
  subst h
  exact sl_list
theorem kslA (h : X.K = K := by rfl) : SlR X (RSlS K) := by
  subst h
  exact fun pins s σ H x v vl vu lo hi sl Q I r hs pl pu q => sl_tupA pins s σ H x v vl vu lo hi sl Q I r hs pl pu q.h
theorem keqD (hu : X.A.units + 64 < cLine) (h : X.K = K := by rfl) : OpR X (compareOp .Eq) (rEqD K) := by
  subst h
  exact op_eqD hu
theorem kneD (hu : X.A.units + 64 < cLine) (h : X.K = K := by rfl) : OpR X (compareOp .NotEq) (rNeD K) := by
  subst h
  exact op_neD hu
theorem kin (h : X.K = K := by rfl) : OpR X (compareOp .In) (rIn K false) := by
  subst h
  exact op_in_seq
theorem knotin (h : X.K = K := by rfl) : OpR X (compareOp .NotIn) (rIn K true) := by
  subst h
  exact op_notIn_seq
theorem klen (h : X.K = K := by rfl) : CallR X (.builtin "len") (rLenS K) := by
  subst h
  exact call_len_seq
theorem klist (h : X.K = K := by rfl) : CallR X (.type "list") (rListS K) := by
  subst h
  exact call_list_of
def rTupS (K : PySem.W.Frag) : List V → Hp → VK → Prop := fun xs H Q => ∃ p ys, xs = [.ref p] ∧ ((SqL K H p ys ∧ ∀ l, H l = none → Q (.ref l) (upd H l (.tup ys))) ∨ (SqT K H p ys ∧ Q (.ref p) H))
theorem ktuple (h : X.K = K := by rfl) : CallR X (.type "tuple") (rTupS K) := by
  subst h
  exact call_tuple_of
theorem kall (hc : X.calm = true) (h : X.K = K := by rfl) : CallR X (.builtin "all") (rAll K) := by
  subst h
  exact cr_all hc
theorem ksorted (h : X.K = K := by rfl) : CallR X (.builtin "sorted") (rSortedI K) := by
  subst h
  exact cr_sortedI
variable {tg : Expr}
theorem kpiL {l : Expr} {tl : TE} (hl : PE X l tl) (h : X.K = K := by rfl) : PI X tg l (iList K tl) := by
  subst h
  exact pi_list hl
theorem kpiT {l : Expr} {tl : TE} (hl : PE X l tl) (h : X.K = K := by rfl) : PI X tg l (iTup K tl) := by
  subst h
  exact pi_tup hl
theorem kpgT {es : List Expr} {k : Nat} {t : TGs} {n : Nat} {pos : Pos} (hc : X.calm = true) (hh : PGs X es t) (hn : (assignEach es X.env).length = n := by rfl) (hst : (assignEach es X.env).findIdx? (·.1) = none := by rfl) (h : X.K = K := by rfl) : PG X (.Tuple es k pos) (gTup K n t) := by
  subst h
  exact pg_tup hc hh hn hst
theorem ktru {a : Expr} {ta : TE} (ha : PE X a ta) (he : ∀ whole, isTrue a X.env whole = (do let v ← whole; standAt a.pos; holding [v] (truthy v)) := by intro _; rfl) (h : X.K = K := by rfl) : PT X a (L2.tTru K ta) := by
  subst h
  exact pt_truth ha he
end
end Od
namespace Od
open PySem L2 Evl
def TK (H H' : Hp) : Prop := ∀ a xs, H a = some (.tup xs) → H' a = some (.tup xs)
theorem TK.refl (H : Hp) : TK H H := fun _ _ h => h
theorem TK.trans {H H1 H2 : Hp} (a : TK H H1) (b : TK H1 H2) : TK H H2 := fun x o h => b x o (a x o h)
theorem TK.ex {H H' : Hp} (e : Ex H H') : TK H H' := fun a xs h => e a _ h
theorem TK.lst {H : Hp} {p : Addr} {xs : List V} {o : HO} (h : H p = some (.lst xs)) : TK H (upd H p o) := fun a ys h' => by
  rw [upd_ne]
  · exact h'
  · intro e
    rw [e, h] at h'
    cases h'
theorem TK.dT {H : Hp} {p : Addr} {xs : List (List Key × V)} {o : HO} (h : H p = some (.dT xs)) : TK H (upd H p o) := fun a ys h' => by
  rw [upd_ne]
  · exact h'
  · intro e
    rw [e, h] at h'
    cases h'
theorem TK.fresh {H : Hp} {p : Addr} {o : HO} (h : H p = none) : TK H (upd H p o) := TK.ex (Ex.new h)
abbrev Pt := Int × Int
structure Rc where
  l : Int
  t : Int
  r : Int
  b : Int
  deriving DecidableEq
def PtV (H : Hp) (v : V) (q : Pt) : Prop := ∃ p, v = .ref p ∧ H p = some (.tup [.int q.1, .int q.2])
def RcV (H : Hp) (v : V) (q : Rc) : Prop := ∃ p, v = .ref p ∧ H p = some (.tup [.int q.l, .int q.t, .int q.r, .int q.b])
theorem PtV.tk {H H' : Hp} {v : V} {q : Pt} (e : TK H H') (h : PtV H v q) : PtV H' v q := by
  obtain ⟨p, rfl, h⟩ := h
  exact ⟨p, rfl, e _ _ h⟩
theorem RcV.tk {H H' : Hp} {v : V} {q : Rc} (e : TK H H') (h : RcV H v q) : RcV H' v q := by
  obtain ⟨p, rfl, h⟩ := h
  exact ⟨p, rfl, e _ _ h⟩
abbrev RcsV (H : Hp) : List V → List Rc → Prop := Paired (RcV H)
abbrev PtsV (H : Hp) : List V → List Pt → Prop := Paired (PtV H)
theorem RcsV.tk {H H' : Hp} {vs : List V} {qs : List Rc} (e : TK H H') (h : RcsV H vs qs) : RcsV H' vs qs := Paired.mapP h fun _ _ => RcV.tk e
theorem PtsV.tk {H H' : Hp} {vs : List V} {qs : List Pt} (e : TK H H') (h : PtsV H vs qs) : PtsV H' vs qs := Paired.mapP h fun _ _ => PtV.tk e
theorem pr_get {α β : Type} {G : α → β → Prop} : ∀ {l₁ : List α} {l₂ : List β}, Paired G l₁ l₂ → ∀ {i : Nat} {a : α}, l₁[i]? = some a → ∃ b, l₂[i]? = some b ∧ G a b
  | _, _, .nil, i, a, h => by simp at h
  | _, _, .cons r t, 0, a, h => by
    simp at h
    subst h
    exact ⟨_, rfl, r⟩
  | _, _, .cons r t, i + 1, a, h => by
    obtain ⟨b, h1, h2⟩ := pr_get t (i := i) (a := a) (by simpa using h)
    exact ⟨b, by simpa using h1, h2⟩
theorem pr_getR {α β : Type} {G : α → β → Prop} : ∀ {l₁ : List α} {l₂ : List β}, Paired G l₁ l₂ → ∀ {i : Nat} {b : β}, l₂[i]? = some b → ∃ a, l₁[i]? = some a ∧ G a b
  | _, _, .nil, i, a, h => by simp at h
  | _, _, .cons r t, 0, a, h => by
    simp at h
    subst h
    exact ⟨_, rfl, r⟩
  | _, _, .cons r t, i + 1, a, h => by
    obtain ⟨b, h1, h2⟩ := pr_getR t (i := i) (b := a) (by simpa using h)
    exact ⟨b, by simpa using h1, h2⟩
theorem pr_append {α β : Type} {G : α → β → Prop} : ∀ {l₁ k₁ : List α} {l₂ k₂ : List β}, Paired G l₁ l₂ → Paired G k₁ k₂ → Paired G (l₁ ++ k₁) (l₂ ++ k₂)
  | _, _, _, _, .nil, h => h
  | _, _, _, _, .cons r t, h => .cons r (pr_append t h)
/-- the bounds of drawn rectangles -/
def Small (m : Int) (q : Rc) : Prop := q.l < q.r ∧ q.t < q.b ∧ q.r - q.l ≤ 50 ∧ q.b - q.t ≤ 50 ∧ -m ≤ q.l ∧ q.r ≤ m ∧ -m ≤ q.t ∧ q.b ≤ m
theorem Small.mono {m n : Int} {q : Rc} (h : Small m q) (e : m ≤ n) : Small n q := by
  obtain ⟨a, b, c, d, e1, e2, e3, e4⟩ := h
  refine ⟨a, b, c, d, ?_, ?_, ?_, ?_⟩ <;> omega
theorem slineL {n : Nat} (h : n < 1000000) : n < sizeLine := Nat.lt_of_lt_of_le h (by decide)
end Od
namespace Od
open PySem L2 Evl
def ptK (q : Pt) : List Key := [.inl q.1, .inl q.2]
def mkd (pts : List Pt) : List (List Key × V) := pts.map fun q => (ptK q, V.bl true)
def inRc (q : Rc) (x y : Int) : Prop := q.l ≤ x ∧ x < q.r ∧ q.t ≤ y ∧ y < q.b
end Od
namespace Od
def RunsFrom : Int → List Pt → Prop
  | _, [] => True
  | b, q :: t => b < q.1 ∧ q.1 < q.2 ∧ RunsFrom q.2 t
def inRuns (rs : List Pt) (x : Int) : Prop := ∃ q ∈ rs, q.1 ≤ x ∧ x < q.2
theorem RunsFrom.mono {b c : Int} {rs : List Pt} (h : RunsFrom b rs) (e : c ≤ b) : RunsFrom c rs := by
  cases rs with
  | nil => trivial
  | cons q t => exact ⟨by have := h.1; omega, h.2.1, h.2.2⟩
theorem RunsFrom.lt {b : Int} : ∀ {rs : List Pt} {b : Int} {x : Int}, RunsFrom b rs → inRuns rs x → b < x
  | [], _, _, _, ⟨_, h, _⟩ => by simp at h
  | q :: t, b, x, h, ⟨p, hp, h1, h2⟩ => by
    rcases List.mem_cons.mp hp with rfl | hp
    · have := h.1
      omega
    · have := RunsFrom.lt (b := b) h.2.2 ⟨p, hp, h1, h2⟩
      have := h.1
      have := h.2.1
      omega
theorem inRuns_cons {q : Pt} {t : List Pt} {x : Int} : inRuns (q :: t) x ↔ (q.1 ≤ x ∧ x < q.2) ∨ inRuns t x := by
  constructor
  · rintro ⟨p, hp, h⟩
    rcases List.mem_cons.mp hp with rfl | hp
    · exact .inl h
    · exact .inr ⟨p, hp, h⟩
  · rintro (h | ⟨p, hp, h⟩)
    · exact ⟨q, by simp, h⟩
    · exact ⟨p, by simp [hp], h⟩
theorem inRuns_nil {x : Int} : ¬ inRuns [] x := fun ⟨_, h, _⟩ => by simp at h
theorem RunsFrom.some {b : Int} {q : Pt} {t : List Pt} (h : RunsFrom b (q :: t)) : inRuns (q :: t) q.1 := inRuns_cons.mpr (.inl ⟨by omega, h.2.1⟩)
theorem runs_uniq : ∀ {rs ss : List Pt} {b c : Int}, RunsFrom b rs → RunsFrom c ss → (∀ x, inRuns rs x ↔ inRuns ss x) → rs = ss
  | [], [], _, _, _, _, _ => rfl
  | [], q :: t, _, _, _, h, e => absurd ((e q.1).mpr h.some) inRuns_nil
  | q :: t, [], _, _, h, _, e => absurd ((e q.1).mp h.some) inRuns_nil
  | q :: t, p :: u, b, c, h, k, e => by
    have e1 : q.1 = p.1 := by
      have h1 := (e q.1).mp h.some
      have k1 := (e p.1).mpr k.some
      have h2 : p.1 ≤ q.1 := by
        rcases inRuns_cons.mp h1 with z | z
        · omega
        · have := RunsFrom.lt (b := b) k.2.2 z
          have := k.2.1
          omega
      have k2 : q.1 ≤ p.1 := by
        rcases inRuns_cons.mp k1 with z | z
        · omega
        · have := RunsFrom.lt (b := b) h.2.2 z
          have := h.2.1
          omega
      omega
    have hq := h.2.1
    have kp := k.2.1
    have e2 : q.2 = p.2 := by
      rcases Int.lt_trichotomy q.2 p.2 with z | z | z
      · exfalso
        have h1 : inRuns (p :: u) q.2 := inRuns_cons.mpr (.inl ⟨by omega, z⟩)
        rcases inRuns_cons.mp ((e q.2).mpr h1) with y | y
        · omega
        · have := RunsFrom.lt (b := b) h.2.2 y
          omega
      · exact z
      · exfalso
        have h1 : inRuns (q :: t) p.2 := inRuns_cons.mpr (.inl ⟨by omega, z⟩)
        rcases inRuns_cons.mp ((e p.2).mp h1) with y | y
        · omega
        · have := RunsFrom.lt (b := b) k.2.2 y
          omega
    have eq : q = p := Prod.ext e1 e2
    subst eq
    have et : t = u := runs_uniq h.2.2 k.2.2 fun x => by
      constructor
      · intro z
        have := RunsFrom.lt (b := b) h.2.2 z
        rcases inRuns_cons.mp ((e x).mp (inRuns_cons.mpr (.inr z))) with y | y
        · omega
        · exact y
      · intro z
        have := RunsFrom.lt (b := b) k.2.2 z
        rcases inRuns_cons.mp ((e x).mpr (inRuns_cons.mpr (.inr z))) with y | y
        · omega
        · exact y
    rw [et]
def RunsOk (rs : List Pt) : Prop := ∃ b, RunsFrom b rs
structure Bd where
  t : Int
  b : Int
  rs : List Pt
  deriving DecidableEq
def BandsFrom : Int → List Pt → List Bd → Prop
  | _, _, [] => True
  | y, prev, d :: t => y ≤ d.t ∧ (y = d.t → prev ≠ d.rs) ∧ d.t < d.b ∧ d.rs ≠ [] ∧ RunsOk d.rs ∧ BandsFrom d.b d.rs t
def inBands (bs : List Bd) (x y : Int) : Prop := ∃ d ∈ bs, d.t ≤ y ∧ y < d.b ∧ inRuns d.rs x
theorem inBands_nil {x y : Int} : ¬ inBands [] x y := fun ⟨_, h, _⟩ => by simp at h
theorem inBands_cons {d : Bd} {t : List Bd} {x y : Int} : inBands (d :: t) x y ↔ (d.t ≤ y ∧ y < d.b ∧ inRuns d.rs x) ∨ inBands t x y := by
  constructor
  · rintro ⟨p, hp, h⟩
    rcases List.mem_cons.mp hp with rfl | hp
    · exact .inl h
    · exact .inr ⟨p, hp, h⟩
  · rintro (h | ⟨p, hp, h⟩)
    · exact ⟨d, by simp, h⟩
    · exact ⟨p, by simp [hp], h⟩
theorem BandsFrom.le : ∀ {bs : List Bd} {y : Int} {p : List Pt} {x y' : Int}, BandsFrom y p bs → inBands bs x y' → y ≤ y'
  | [], _, _, _, _, _, h => absurd h inBands_nil
  | d :: t, y, p, x, y', h, k => by
    rcases inBands_cons.mp k with z | z
    · have := h.1
      omega
    · have := BandsFrom.le h.2.2.2.2.2 z
      have := h.1
      have := h.2.2.1
      omega
theorem BandsFrom.mono {bs : List Bd} {y y' : Int} (h : BandsFrom y [] bs) (e : y' ≤ y) : BandsFrom y' [] bs := by
  cases bs with
  | nil => trivial
  | cons d t => exact ⟨by have := h.1; omega, fun _ => fun z => h.2.2.2.1 z.symm, h.2.2⟩
/-- the rows of the first band, the rows behind it -/
theorem BandsFrom.row {d : Bd} {t : List Bd} {y : Int} {p : List Pt} (h : BandsFrom y p (d :: t)) {x y' : Int} (h1 : d.t ≤ y') (h2 : y' < d.b) : inBands (d :: t) x y' ↔ inRuns d.rs x := by
  rw [inBands_cons]
  constructor
  · rintro (z | z)
    · exact z.2.2
    · have := BandsFrom.le h.2.2.2.2.2 z
      omega
  · exact fun z => .inl ⟨h1, h2, z⟩
theorem BandsFrom.behind {d : Bd} {t : List Bd} {x y' : Int} (h2 : d.b ≤ y') : inBands (d :: t) x y' ↔ inBands t x y' := by
  rw [inBands_cons]
  constructor
  · rintro (z | z)
    · omega
    · exact z
  · exact .inr
theorem runs_some {rs : List Pt} (h : RunsOk rs) (n : rs ≠ []) : ∃ x, inRuns rs x := by
  obtain ⟨b, h⟩ := h
  cases rs with
  | nil => exact absurd rfl n
  | cons q t => exact ⟨_, h.some⟩
theorem runsOk_uniq {rs ss : List Pt} (h : RunsOk rs) (k : RunsOk ss) (e : ∀ x, inRuns rs x ↔ inRuns ss x) : rs = ss := by
  obtain ⟨b, h⟩ := h
  obtain ⟨c, k⟩ := k
  exact runs_uniq h k e
/-- a band can't end where another description of the same set goes on -/
theorem no_end {d c : Bd} {t u : List Bd} {y : Int} {p : List Pt} (h : BandsFrom y p (d :: t)) (k : BandsFrom y p (c :: u)) (e : ∀ x y', inBands (d :: t) x y' ↔ inBands (c :: u) x y') (et : d.t = c.t) (er : d.rs = c.rs) (hl : d.b < c.b) : False := by
  have hdb := h.2.2.1
  have row : ∀ x, inBands t x d.b ↔ inRuns c.rs x := fun x => by
    rw [← BandsFrom.behind (d := d) (t := t) (Int.le_refl _), e, k.row (by omega) hl]
  obtain ⟨x0, hx0⟩ := runs_some k.2.2.2.2.1 k.2.2.2.1
  cases t with
  | nil => exact inBands_nil ((row x0).mpr hx0)
  | cons d2 t2 =>
    have h2 := h.2.2.2.2.2
    have hle := h2.1
    by_cases z : d.b = d2.t
    · have er2 : d2.rs = c.rs := runsOk_uniq h2.2.2.2.2.1 k.2.2.2.2.1 fun x => by
        rw [← row x, h2.row (by omega) (by have := h2.2.2.1; omega)]
      exact h2.2.1 z (er.trans er2.symm)
    · have m := (row x0).mpr hx0
      have h3 : BandsFrom d2.t [] (d2 :: t2) := ⟨by omega, fun _ w => h2.2.2.2.1 w.symm, h2.2.2⟩
      have := BandsFrom.le h3 m
      omega
theorem bands_uniq : ∀ {bs cs : List Bd} {y : Int} {p : List Pt}, BandsFrom y p bs → BandsFrom y p cs → (∀ x y', inBands bs x y' ↔ inBands cs x y') → bs = cs
  | [], [], _, _, _, _, _ => rfl
  | [], c :: u, _, _, _, k, e => by
    obtain ⟨x0, hx0⟩ := runs_some k.2.2.2.2.1 k.2.2.2.1
    exact absurd ((e x0 c.t).mpr ((k.row (by omega) k.2.2.1).mpr hx0)) inBands_nil
  | d :: t, [], _, _, h, _, e => by
    obtain ⟨x0, hx0⟩ := runs_some h.2.2.2.2.1 h.2.2.2.1
    exact absurd ((e x0 d.t).mp ((h.row (by omega) h.2.2.1).mpr hx0)) inBands_nil
  | d :: t, c :: u, y, p, h, k, e => by
    have first : ∀ {d c : Bd} {t u : List Bd}, BandsFrom y p (d :: t) → BandsFrom y p (c :: u) → (∀ x y', inBands (d :: t) x y' ↔ inBands (c :: u) x y') → c.t ≤ d.t := by
      intro d c t u h k e
      obtain ⟨x0, hx0⟩ := runs_some h.2.2.2.2.1 h.2.2.2.1
      have m := (e x0 d.t).mp ((h.row (by omega) h.2.2.1).mpr hx0)
      have k2 : BandsFrom c.t [] (c :: u) := ⟨by omega, fun _ w => k.2.2.2.1 w.symm, k.2.2⟩
      exact BandsFrom.le k2 m
    have et : d.t = c.t := by
      have := first h k e
      have := first k h fun x y => (e x y).symm
      omega
    have er : d.rs = c.rs := runsOk_uniq h.2.2.2.2.1 k.2.2.2.2.1 fun x => by
      rw [← h.row (x := x) (y' := d.t) (by omega) h.2.2.1, e, k.row (by omega) (by have := k.2.2.1; omega)]
    have eb : d.b = c.b := by
      rcases Int.lt_trichotomy d.b c.b with z | z | z
      · exact (no_end h k e et er z).elim
      · exact z
      · exact (no_end k h (fun x y => (e x y).symm) et.symm er.symm z).elim
    have ed : d = c := by
      cases d
      cases c
      simp only at et er eb
      rw [et, er, eb]
    subst ed
    rw [bands_uniq h.2.2.2.2.2 k.2.2.2.2.2 fun x y' => ?_]
    by_cases z : d.b ≤ y'
    · rw [← BandsFrom.behind (d := d) (t := t) z, e, BandsFrom.behind z]
    · constructor
      · intro m
        have := BandsFrom.le h.2.2.2.2.2 m
        omega
      · intro m
        have := BandsFrom.le k.2.2.2.2.2 m
        omega
def bandRc (d : Bd) : List Rc := d.rs.map fun q => ⟨q.1, d.t, q.2, d.b⟩
def formOf (bs : List Bd) : List Rc := bs.flatMap bandRc
def IsForm (S : Int → Int → Prop) (f : List Rc) : Prop := ∃ y bs, BandsFrom y [] bs ∧ (∀ x y', inBands bs x y' ↔ S x y') ∧ f = formOf bs
theorem form_uniq {S S' : Int → Int → Prop} {f g : List Rc} (h : IsForm S f) (k : IsForm S' g) (e : ∀ x y, S x y ↔ S' x y) : f = g := by
  obtain ⟨y, bs, h1, h2, rfl⟩ := h
  obtain ⟨z, cs, k1, k2, rfl⟩ := k
  rw [bands_uniq (h1.mono (Int.min_le_left y z)) (k1.mono (Int.min_le_right y z)) fun x y' => by rw [h2, k2, e]]
theorem mem_form {bs : List Bd} {x y : Int} : inBands bs x y ↔ ∃ q ∈ formOf bs, inRc q x y := by
  constructor
  · rintro ⟨d, hd, h1, h2, q, hq, h3, h4⟩
    exact ⟨⟨q.1, d.t, q.2, d.b⟩, List.mem_flatMap.mpr ⟨d, hd, List.mem_map.mpr ⟨q, hq, rfl⟩⟩, h3, h4, h1, h2⟩
  · rintro ⟨r, hr, h1, h2, h3, h4⟩
    obtain ⟨d, hd, hr⟩ := List.mem_flatMap.mp hr
    obtain ⟨q, hq, rfl⟩ := List.mem_map.mp hr
    exact ⟨d, hd, h3, h4, q, hq, h1, h2⟩
theorem IsForm.mem {S : Int → Int → Prop} {f : List Rc} (h : IsForm S f) (x y : Int) : S x y ↔ ∃ q ∈ f, inRc q x y := by
  obtain ⟨_, bs, _, h2, rfl⟩ := h
  rw [← h2, mem_form]
end Od
namespace Od
open PySem L2 Evl
def intD (ns : List Int) : PyData := .tuple (ns.map PyData.int)
def Eqs (α : Type) [DecidableEq α] (f : α → PyData) (d : Nat) : Prop := (∀ x y, PyData.eqv (f x) (f y) = decide (x = y)) ∧ (∀ x, (f x).canLay0 = true) ∧ ∀ x, (f x).depth ≤ d
theorem eqvAll_map {α : Type} [DecidableEq α] {f : α → PyData} (h : ∀ x y, PyData.eqv (f x) (f y) = decide (x = y)) : ∀ xs ys : List α, PyData.eqvAll (xs.map f) (ys.map f) = decide (xs = ys)
  | [], [] => by simp [PyData.eqvAll]
  | [], y :: ys => by simp [PyData.eqvAll]
  | x :: xs, [] => by simp [PyData.eqvAll]
  | x :: xs, y :: ys => by
    rw [List.map_cons, List.map_cons, PyData.eqvAll, h, eqvAll_map h xs ys]
    by_cases e : x = y <;> by_cases e2 : xs = ys <;> simp [e, e2]
theorem canLay_map {α : Type} {f : α → PyData} (h : ∀ x, (f x).canLay0 = true) : ∀ xs : List α, PyData.canLayAll0 (xs.map f) = true
  | [] => by simp [PyData.canLayAll0]
  | x :: xs => by
    rw [List.map_cons, PyData.canLayAll0, h, canLay_map h xs]
    rfl
theorem depth_map {α : Type} {f : α → PyData} {d : Nat} (h : ∀ x, (f x).depth ≤ d) : ∀ xs : List α, PyData.depthAll (xs.map f) ≤ d
  | [] => by simp [PyData.depthAll]
  | x :: xs => by
    rw [List.map_cons, PyData.depthAll]
    exact Nat.max_le.mpr ⟨h x, depth_map h xs⟩
theorem eqs_int : Eqs Int PyData.int 0 := ⟨fun x y => by rw [PyData.eqv]; by_cases e : x = y <;> simp [e], fun x => by simp [PyData.canLay0], fun x => by simp [PyData.depth]⟩
theorem Eqs.lst {α : Type} [DecidableEq α] {f : α → PyData} {d : Nat} (h : Eqs α f d) : Eqs (List α) (fun xs => .list (xs.map f)) (d + 1) :=
  ⟨fun x y => by rw [PyData.eqv, eqvAll_map h.1], fun x => by simp only [PyData.canLay0]; exact canLay_map h.2.1 x, fun x => by simp only [PyData.depth]; have := depth_map h.2.2 x; omega⟩
theorem Eqs.tup {α : Type} [DecidableEq α] {f : α → PyData} {d : Nat} (h : Eqs α f d) : Eqs (List α) (fun xs => .tuple (xs.map f)) (d + 1) :=
  ⟨fun x y => by rw [PyData.eqv, eqvAll_map h.1], fun x => by simp only [PyData.canLay0]; exact canLay_map h.2.1 x, fun x => by simp only [PyData.depth]; have := depth_map h.2.2 x; omega⟩
theorem Eqs.via {α β : Type} [DecidableEq α] [DecidableEq β] {f : α → PyData} {d : Nat} (h : Eqs α f d) (g : β → α) (inj : ∀ x y, g x = g y → x = y) : Eqs β (fun x => f (g x)) d :=
  ⟨fun x y => by
    rw [h.1]
    by_cases e : x = y
    · rw [e, decide_eq_true rfl, decide_eq_true rfl]
    · rw [decide_eq_false e, decide_eq_false fun z => e (inj _ _ z)], fun x => h.2.1 _, fun x => h.2.2 _⟩
theorem Eqs.shaped {α : Type} [DecidableEq α] {f : α → PyData} {d : Nat} (h : Eqs α f d) (hd : d ≤ 64) (x : α) : SeqAt.shaped (f x) = true := by
  unfold SeqAt.shaped
  rw [h.2.1 x, decide_eq_true (Nat.le_trans (h.2.2 x) hd)]
  rfl
def ptD (q : Pt) : PyData := intD [q.1, q.2]
def rcD (q : Rc) : PyData := intD [q.l, q.t, q.r, q.b]
theorem eqs_pt : Eqs Pt ptD 1 := eqs_int.tup.via (fun q : Pt => [q.1, q.2]) fun x y e => by
  injection e with e1 e2
  injection e2 with e2 _
  exact Prod.ext e1 e2
theorem eqs_rc : Eqs Rc rcD 1 := eqs_int.tup.via (fun q : Rc => [q.l, q.t, q.r, q.b]) fun x y e => by
  injection e with e1 e
  injection e with e2 e
  injection e with e3 e
  injection e with e4 _
  cases x
  cases y
  simp only at e1 e2 e3 e4
  rw [e1, e2, e3, e4]
def ptsD (qs : List Pt) : PyData := .list (qs.map ptD)
def rcsD (qs : List Rc) : PyData := .list (qs.map rcD)
theorem eqs_pts : Eqs (List Pt) ptsD 2 := eqs_pt.lst
theorem eqs_rcs : Eqs (List Rc) rcsD 2 := eqs_rc.lst
theorem dp_ints {K : PySem.W.Frag} {H : Hp} : ∀ ns : List Int, DpAll K H (ns.map V.int) (ns.map PyData.int)
  | [] => .nil
  | n :: ns => .cons (.int n) (dp_ints ns)
theorem dp_tup {K : PySem.W.Frag} {H : Hp} {a : Addr} {ns : List Int} (h : H a = some (.tup (ns.map V.int))) : Dp K H (.ref a) (intD ns) := .tup (SqT.of h) (dp_ints ns)
theorem PtV.dp {K : PySem.W.Frag} {H : Hp} {v : V} {q : Pt} (h : PtV H v q) : Dp K H v (ptD q) := by
  obtain ⟨p, rfl, h⟩ := h
  exact dp_tup (ns := [q.1, q.2]) h
theorem RcV.dp {K : PySem.W.Frag} {H : Hp} {v : V} {q : Rc} (h : RcV H v q) : Dp K H v (rcD q) := by
  obtain ⟨p, rfl, h⟩ := h
  exact dp_tup (ns := [q.l, q.t, q.r, q.b]) h
theorem dp_all {α : Type} {K : PySem.W.Frag} {H : Hp} {G : V → α → Prop} {f : α → PyData} (h : ∀ v x, G v x → Dp K H v (f x)) : ∀ {vs : List V} {xs : List α}, Paired G vs xs → DpAll K H vs (xs.map f)
  | _, _, .nil => .nil
  | _, _, .cons r t => .cons (h _ _ r) (dp_all h t)
theorem dp_pts {K : PySem.W.Frag} {H : Hp} {a : Addr} {us : List V} {qs : List Pt} (h : SqL K H a us) (r : PtsV H us qs) : Dp K H (.ref a) (ptsD qs) := .lst h (dp_all (fun _ _ z => PtV.dp z) r)
theorem dp_rcs {K : PySem.W.Frag} {H : Hp} {a : Addr} {us : List V} {qs : List Rc} (h : SqL K H a us) (r : RcsV H us qs) : Dp K H (.ref a) (rcsD qs) := .lst h (dp_all (fun _ _ z => RcV.dp z) r)
theorem RunsOk.nil : RunsOk [] := ⟨0, trivial⟩
theorem RunsFrom.wide : ∀ {rs : List Pt} {b : Int}, RunsFrom b rs → ∀ q ∈ rs, q.1 < q.2
  | [], _, _, q, h => by simp at h
  | p :: t, b, h, q, hq => by
    rcases List.mem_cons.mp hq with rfl | hq
    · exact h.2.1
    · exact RunsFrom.wide h.2.2 q hq
end Od
namespace Od
open PySem L2 Evl
def BdV (pb : Addr) (H : Hp) (v : V) (d : Bd) : Prop := ∃ q r us, v = .ref q ∧ q ≠ pb ∧ r ≠ pb ∧ H q = some (.tup [.int d.t, .int d.b, .ref r]) ∧ H r = some (.lst us) ∧ PtsV H us d.rs
def Xb (pb : Addr) (H H' : Hp) : Prop := ∀ a o, a ≠ pb → H a = some o → H' a = some o
theorem BdV.to {pb : Addr} {H H' : Hp} {v : V} {d : Bd} (k : TK H H') (x : Xb pb H H') (h : BdV pb H v d) : BdV pb H' v d := by
  obtain ⟨q, r, us, rfl, nq, nr, h1, h2, h3⟩ := h
  exact ⟨q, r, us, rfl, nq, nr, x _ _ nq h1, x _ _ nr h2, h3.tk k⟩
theorem Xb.ex {pb : Addr} {H H' : Hp} (e : Ex H H') : Xb pb H H' := fun a o _ h => e a o h
theorem Xb.trans {pb : Addr} {H H1 H2 : Hp} (a : Xb pb H H1) (b : Xb pb H1 H2) : Xb pb H H2 := fun x o n h => b x o n (a x o n h)
theorem pr_split {α β : Type} {G : α → β → Prop} : ∀ {l₁ : List α} {l₂ : List β} {a : α} {b : β}, Paired G (l₁ ++ [a]) (l₂ ++ [b]) → Paired G l₁ l₂ ∧ G a b
  | [], [], _, _, .cons h .nil => ⟨.nil, h⟩
  | [], [_], _, _, .cons _ t => nomatch t
  | [], _ :: _ :: _, _, _, .cons _ t => nomatch t
  | [_], [], _, _, .cons _ t => nomatch t
  | _ :: _ :: _, [], _, _, .cons _ t => nomatch t
  | c :: t, c2 :: t2, _, _, .cons h1 h2 => by
    have ih := pr_split (l₁ := t) (l₂ := t2) h2
    exact ⟨.cons h1 ih.1, ih.2⟩
def SrcAt (K : PySem.W.Frag) (H : Hp) (d : Addr) (pts : List Pt) : Prop := H d = some (.dT (mkd pts)) ∨ ∃ us, SqL K H d us ∧ PtsV H us pts
theorem SrcAt.mono {K : PySem.W.Frag} {H H' : Hp} {d : Addr} {pts : List Pt} (e : Ex H H') (h : SrcAt K H d pts) : SrcAt K H' d pts := by
  rcases h with h | ⟨us, h1, h2⟩
  · exact .inl (e _ _ h)
  · exact .inr ⟨us, ex_l e h1, h2.tk (TK.ex e)⟩
end Od
namespace Od
open PySem L2 Evl
mutual
inductive Da (H : Hp) : V → PyData → Prop
  | non : Da H .non .none
  | bl (b : Bool) : Da H (.bl b) (.bool b)
  | int (i : Int) : Da H (.int i) (.int i)
  | str (x : Str) : Da H (.str x) (.str x)
  | lst {a : Addr} {xs : List V} {ds : List PyData} : H a = some (.lst xs) → DaAll H xs ds → ds.length ≤ 1000000 → Da H (.ref a) (.list ds)
  | tup {a : Addr} {xs : List V} {ds : List PyData} : H a = some (.tup xs) → DaAll H xs ds → ds.length ≤ 1000000 → Da H (.ref a) (.tuple ds)
inductive DaAll (H : Hp) : List V → List PyData → Prop
  | nil : DaAll H [] []
  | cons {v : V} {vs : List V} {d : PyData} {ds : List PyData} : Da H v d → DaAll H vs ds → DaAll H (v :: vs) (d :: ds)
end
mutual
theorem Da.mono {H H' : Hp} (e : Ex H H') : ∀ {v : V} {d : PyData}, Da H v d → Da H' v d
  | _, _, .non => .non
  | _, _, .bl b => .bl b
  | _, _, .int i => .int i
  | _, _, .str x => .str x
  | _, _, .lst h k l => .lst (e _ _ h) (DaAll.mono e k) l
  | _, _, .tup h k l => .tup (e _ _ h) (DaAll.mono e k) l
theorem DaAll.mono {H H' : Hp} (e : Ex H H') : ∀ {vs : List V} {ds : List PyData}, DaAll H vs ds → DaAll H' vs ds
  | _, _, .nil => .nil
  | _, _, .cons h k => .cons (Da.mono e h) (DaAll.mono e k)
end
mutual
theorem Da.dp {K : PySem.W.Frag} {H : Hp} : ∀ {v : V} {d : PyData}, Da H v d → Dp K H v d
  | _, _, .non => .non
  | _, _, .bl b => .bl b
  | _, _, .int i => .int i
  | _, _, .str x => .str x
  | _, _, .lst h k _ => .lst (SqL.of h) (DaAll.dp k)
  | _, _, .tup h k _ => .tup (SqT.of h) (DaAll.dp k)
theorem DaAll.dp {K : PySem.W.Frag} {H : Hp} : ∀ {vs : List V} {ds : List PyData}, DaAll H vs ds → DpAll K H vs ds
  | _, _, .nil => .nil
  | _, _, .cons h k => .cons (Da.dp h) (DaAll.dp k)
end
theorem DaAll.length {H : Hp} : ∀ {vs : List V} {ds : List PyData}, DaAll H vs ds → vs.length = ds.length
  | _, _, .nil => rfl
  | _, _, .cons _ k => by rw [List.length_cons, List.length_cons, DaAll.length k]
theorem DaAll.get {H : Hp} : ∀ {vs : List V} {ds : List PyData} {i : Nat} {d : PyData}, DaAll H vs ds → ds[i]? = some d → ∃ v, vs[i]? = some v ∧ Da H v d
  | _, _, _, _, .nil, e => by simp at e
  | _, _, 0, d, .cons h k, e => by
    simp at e
    subst e
    exact ⟨_, rfl, h⟩
  | _, _, i + 1, d, .cons h k, e => by
    obtain ⟨v, h1, h2⟩ := DaAll.get (i := i) (d := d) k (by simpa using e)
    exact ⟨v, by simpa using h1, h2⟩
theorem da_ints {H : Hp} : ∀ ns : List Int, DaAll H (ns.map V.int) (ns.map PyData.int)
  | [] => .nil
  | n :: ns => .cons (.int n) (da_ints ns)
theorem eqv_self {d : PyData} (h : d.canLay0 = true) : PyData.eqv d d = true := PySem.SeqAt.eqv_refl d h
end Od
namespace Od
open PySem L2 Evl PySem.Spec PyProof.Rows
def Gd (A : Around) : Prop := A.guards = some []
theorem Gd.deeper {A : Around} (g : Gd A) (env : Env) : Gd (A.deeper env) := g
structure FnG (P : Program) (w : World) (K : PySem.W.Frag) (mg : Str → Option Value) (base : Heap) (CX : CXT) (k : Nat) (f : Addr) (fd : FuncData) (ps : List Str) (sp : Sp) : Prop where
  len : ∀ vs H Q E, sp vs H Q E → vs.length = ps.length
  run : ∀ (A : Around) (outer : List Env) (s : Shared) (H : Hp) (args : Args) (us : List Value) (vs : List V) (Q : VK) (E : XK), Gd A → Room k A → Env0 P w K mg base A outer s H →
    BindsTo s fd args (ps.zip us) → Vals vs us → sp vs H Q E → codeAny (model P w) A (.call (.ref f) args) (CR CX outer P w H s Q E) s
section
variable {CX : CXT} {P : Program} {w : World} {K : PySem.W.Frag} {mg : Str → Option Value} {base : Heap} {k : Nat} {f : Addr} {fd : FuncData} {N ps : List Str} {sp : Sp}
theorem FnG.of (F : FnOk P w K mg base CX k f fd ps sp) : FnG P w K mg base CX k f fd ps sp := ⟨F.len, fun A o s H a us vs Q E _ => F.run A o s H a us vs Q E⟩
end
end Od
namespace Od
open PySem L2 Evl PySem.Spec PyProof.Rows
structure Sh (B : Nat) (d : PyData) : Prop where
  show_ : d.showable = true
  dict : d.hasDict = false
  short : d.leavesShort 13 = true
  wt : d.weight ≤ B
structure ShAll (B : Nat) (ds : List PyData) : Prop where
  show_ : PyData.showableAll ds = true
  dict : PyData.hasDictAll ds = false
  short : PyData.leavesShortAll 13 ds = true
  wt : PyData.weightAll ds ≤ B
theorem Sh.mono {B C : Nat} {d : PyData} (h : Sh B d) (e : B ≤ C) : Sh C d := ⟨h.1, h.2, h.3, Nat.le_trans h.4 e⟩
theorem ShAll.nil : ShAll 0 [] := ⟨rfl, rfl, rfl, Nat.le_refl _⟩
theorem ShAll.cons {B C : Nat} {d : PyData} {ds : List PyData} (h : Sh B d) (t : ShAll C ds) : ShAll (B + 1 + C) (d :: ds) := by
  refine ⟨?_, ?_, ?_, ?_⟩
  · simp only [PyData.showableAll, h.1, t.1, Bool.and_self]
  · simp only [PyData.hasDictAll, h.2, t.2, Bool.or_self]
  · simp only [PyData.leavesShortAll, h.3, t.3, Bool.and_self]
  · have h1 := h.4
    have h2 := t.4
    simp only [PyData.weightAll]
    omega
theorem ShAll.tup {B : Nat} {ds : List PyData} (t : ShAll B ds) : Sh B (.tuple ds) := ⟨by simpa only [PyData.showable] using t.1, by simpa only [PyData.hasDict] using t.2, by simpa only [PyData.leavesShort] using t.3, by simpa only [PyData.weight] using t.4⟩
theorem ShAll.lst {B : Nat} {ds : List PyData} (t : ShAll B ds) : Sh B (.list ds) := ⟨by simpa only [PyData.showable] using t.1, by simpa only [PyData.hasDict] using t.2, by simpa only [PyData.leavesShort] using t.3, by simpa only [PyData.weight] using t.4⟩
theorem sh_int {i : Int} (h1 : -1000000 ≤ i) (h2 : i ≤ 1000000) : Sh 20 (.int i) := by
  have hn : i.natAbs ≤ 1000000 := by omega
  have hl : i.natAbs ≠ 0 → i.natAbs.log2 < 20 := fun h => (Nat.log2_lt h).mpr (Nat.lt_of_le_of_lt hn (by decide))
  refine ⟨?_, rfl, ?_, ?_⟩
  · simp only [PyData.showable, decide_eq_true_eq]
    by_cases h : i.natAbs = 0
    · rw [h]
      decide
    · exact Nat.lt_trans (hl h) (by decide)
  · simp only [PyData.leavesShort, decide_eq_true_eq]
    exact PyData.shown_int_le2 (by omega) (by omega)
  · simp only [PyData.weight]
    by_cases h : i = 0
    · subst h
      decide
    · have : (i == 0) = false := beq_eq_false_iff_ne.mpr h
      rw [this]
      have := hl (by omega)
      show i.natAbs.log2 + 1 ≤ 20
      omega
theorem Sh.len {B : Nat} {d : PyData} (h : Sh B d) (hB : B ≤ 1000000) : d.shown.length ≤ sizeLine := by
  have h2 := PyData.shown_le 13 (by decide) d h.3
  have h4 := h.4
  have e : sizeLine = 16777216 := by decide
  omega
end Od
namespace Od
open PySem L2 Evl
structure Pc where
  w : Int
  h : Int
  vs : List Int
  cs : List Int
structure Pc.Ok (m : Int) (p : Pc) : Prop where
  w1 : 1 ≤ p.w
  w2 : p.w ≤ m
  h1 : 1 ≤ p.h
  h2 : p.h ≤ m
  vl : (p.vs.length : Int) = p.w * p.h
  cl : (p.cs.length : Int) = p.w * p.h
  vb : ∀ v ∈ p.vs, 0 ≤ v ∧ v ≤ 255
  cb : ∀ v ∈ p.cs, 0 ≤ v ∧ v ≤ 256
def PcV (H : Hp) (v : V) (p : Pc) : Prop := ∃ a va ca, v = .ref a ∧ H a = some (.tup [.int p.w, .int p.h, .ref va, .ref ca]) ∧ H va = some (.tup (p.vs.map V.int)) ∧ H ca = some (.tup (p.cs.map V.int))
theorem PcV.tk {H H' : Hp} {v : V} {p : Pc} (e : TK H H') (h : PcV H v p) : PcV H' v p := by
  obtain ⟨a, va, ca, rfl, h1, h2, h3⟩ := h
  exact ⟨a, va, ca, rfl, e _ _ h1, e _ _ h2, e _ _ h3⟩
def pcD (p : Pc) : PyData := .tuple [.int p.w, .int p.h, .tuple (p.vs.map PyData.int), .tuple (p.cs.map PyData.int)]
theorem PcV.dp {K : PySem.W.Frag} {H : Hp} {v : V} {p : Pc} (h : PcV H v p) : Dp K H v (pcD p) := by
  obtain ⟨a, va, ca, rfl, h1, h2, h3⟩ := h
  exact .tup (SqT.of h1) (.cons (.int _) (.cons (.int _) (.cons (.tup (SqT.of h2) (DaAll.dp (da_ints _))) (.cons (.tup (SqT.of h3) (DaAll.dp (da_ints _))) .nil))))
theorem area_le {w h m : Int} (w1 : 1 ≤ w) (w2 : w ≤ m) (h1 : 1 ≤ h) (h2 : h ≤ m) : 1 ≤ w * h ∧ w * h ≤ m * m := by
  have a : 1 * 1 ≤ w * h := Int.mul_le_mul w1 h1 (by omega) (by omega)
  have b : w * h ≤ m * m := Int.mul_le_mul w2 h2 (by omega) (by omega)
  exact ⟨a, b⟩
theorem Pc.Ok.area {m : Int} {p : Pc} (k : p.Ok m) : 1 ≤ p.w * p.h ∧ p.w * p.h ≤ m * m := area_le k.w1 k.w2 k.h1 k.h2
theorem place_lt {w h x y : Int} (x0 : 0 ≤ x) (x1 : x < w) (y0 : 0 ≤ y) (y1 : y < h) : 0 ≤ y * w + x ∧ y * w + x < w * h := by
  have a : 0 ≤ y * w := Int.mul_nonneg y0 (by omega)
  have b : (y + 1) * w ≤ h * w := Int.mul_le_mul_of_nonneg_right (by omega) (by omega)
  rw [Int.add_mul, Int.one_mul, Int.mul_comm h w] at b
  omega
theorem getD_at {ns : List Int} {i : Nat} (h : i < ns.length) : ns.getD i 0 = ns[i] := by
  rw [List.getD_eq_getElem?_getD, List.getElem?_eq_getElem h]
  rfl
/-- what stands at a point -/
def Pc.In (p : Pc) (x y : Int) : Prop := 0 ≤ x ∧ x < p.w ∧ 0 ≤ y ∧ y < p.h
instance (p : Pc) (x y : Int) : Decidable (p.In x y) := inferInstanceAs (Decidable (_ ∧ _))
def Pc.at (p : Pc) (x y : Int) : Pt := if p.In x y then (p.vs.getD (y * p.w + x).toNat 0, p.cs.getD (y * p.w + x).toNat 0) else (0, 0)
/-- the item of a tuple of ints at a place -/
theorem atD {ns : List Int} {i : Int} (h0 : 0 ≤ i) (h1 : i < ns.length) : atI (ns.map V.int) i = some (.int (ns.getD i.toNat 0)) := by
  obtain ⟨m, rfl⟩ := Int.eq_ofNat_of_zero_le h0
  have hm : m < ns.length := by omega
  have e : ((m : Int)).toNat = m := by omega
  rw [e, getD_at hm]
  exact atI_nat (by rw [List.getElem?_map, List.getElem?_eq_getElem hm]; rfl)
theorem depth_ints : ∀ ns : List Int, PyData.depthAll (ns.map PyData.int) = 0
  | [] => by simp only [List.map_nil, PyData.depthAll]
  | n :: ns => by
    rw [List.map_cons]
    simp only [PyData.depthAll, PyData.depth, depth_ints ns, Nat.max_self]
theorem canLay_ints : ∀ ns : List Int, PyData.canLayAll0 (ns.map PyData.int) = true
  | [] => by simp only [List.map_nil, PyData.canLayAll0]
  | n :: ns => by
    rw [List.map_cons]
    simp only [PyData.canLayAll0, PyData.canLay0, canLay_ints ns, Bool.and_self]
end Od
namespace Od
open PySem L2 Evl
theorem turns {J : It} {n : Nat} {G : Hp → Prop} {Y : Nat → Hp → V → Hp → Prop} (w : Walk J n G Y) {B : V → Hp → (Hp → Prop) → Prop} {H0 : Hp} {Qd : Hp → Prop} (Pv : Nat → Hp → Prop) (h0 : Pv 0 H0) (hG : ∀ i H, i ≤ n → Pv i H → G H)
    (hs : ∀ i x H H', i < n → Pv i H → Y i H x H' → B x H' (Pv (i + 1))) (hd : ∀ H, Pv n H → Qd H) :
    ∃ W : Nat → Nat → Hp → Prop, (∃ m, W 0 m H0) ∧ ∀ i m H, W i m H →
      (J.stop i H ∧ Qd H) ∨ (J.go i H ∧ ∃ Nx : Hp → Prop, (∀ H', Nx H' → ∃ m', m' < m ∧ W (i + 1) m' H') ∧ ∀ x H', J.yld i H x H' → B x H' Nx) := by
  refine ⟨fun i m H => m = n - i ∧ i ≤ n ∧ Pv i H, ⟨n, by simp, Nat.zero_le _, h0⟩, ?_⟩
  rintro i m H ⟨rfl, hi, p⟩
  have q := hG i H hi p
  by_cases hlt : i < n
  · exact .inr ⟨w.goes i H hlt q, Pv (i + 1), fun H' p' => ⟨n - (i + 1), by omega, rfl, hlt, p'⟩, fun x H' y => hs i x H H' hlt p (w.yields i H x H' hlt q y)⟩
  · have e : i = n := by omega
    subst e
    exact .inl ⟨w.stops H q, hd H p⟩
def cells (w h : Int) (g : Int → Int → Pt) : List Pt := (List.range (w * h).toNat).map fun (k : Nat) => g ((k : Int) % w) ((k : Int) / w)
theorem pc_lay (p : Pc) : (pcD p).canLay0 = true := by
  simp only [pcD, PyData.canLay0, PyData.canLayAll0, canLay_ints, Bool.and_self]
theorem shaped_of {d : PyData} (h : d.canLay0 = true) (hd : d.depth ≤ 64) : SeqAt.shaped d = true := by
  unfold SeqAt.shaped
  rw [h, decide_eq_true hd]
  rfl
end Od
namespace Od
def cnt (es : List Int) (x : Int) : Nat := es.countP fun e => decide (e ≤ x)
def odd (n : Nat) : Bool := n % 2 == 1
def Asc (es : List Int) : Prop := es.Pairwise (· < ·)
structure EvE (es : List Int) : Prop where
  asc : Asc es
  even : es.length % 2 = 0
theorem EvE.nil : EvE [] := ⟨List.Pairwise.nil, rfl⟩
theorem cnt_nil (x : Int) : cnt [] x = 0 := rfl
theorem cnt_cons (e : Int) (t : List Int) (x : Int) : cnt (e :: t) x = cnt t x + if e ≤ x then 1 else 0 := by
  unfold cnt
  rw [List.countP_cons]
  simp
theorem cnt_append (a b : List Int) (x : Int) : cnt (a ++ b) x = cnt a x + cnt b x := by
  unfold cnt
  rw [List.countP_append]
theorem cnt_zero : ∀ {es : List Int} {x : Int}, (∀ e ∈ es, x < e) → cnt es x = 0
  | [], _, _ => rfl
  | e :: t, x, h => by
    rw [cnt_cons, cnt_zero fun z hz => h z (by simp [hz]), if_neg (by have := h e (by simp); omega)]
theorem cnt_all : ∀ {es : List Int} {x : Int}, (∀ e ∈ es, e ≤ x) → cnt es x = es.length
  | [], _, _ => rfl
  | e :: t, x, h => by
    rw [cnt_cons, cnt_all fun z hz => h z (by simp [hz]), if_pos (h e (by simp)), List.length_cons]
theorem cnt_le (es : List Int) (x : Int) : cnt es x ≤ es.length := List.countP_le_length
theorem cnt_same : ∀ {es : List Int} {a x : Int}, a ≤ x → (∀ e ∈ es, e ≤ a ∨ x < e) → cnt es x = cnt es a
  | [], _, _, _, _ => rfl
  | e :: t, a, x, hax, h => by
    rw [cnt_cons, cnt_cons, cnt_same hax fun z hz => h z (by simp [hz])]
    have := h e (by simp)
    by_cases z : e ≤ a
    · rw [if_pos z, if_pos (by omega)]
    · rw [if_neg z, if_neg (by omega)]
theorem Asc.tail {e : Int} {t : List Int} (h : Asc (e :: t)) : Asc t := (List.pairwise_cons.mp h).2
theorem Asc.head {e : Int} {t : List Int} (h : Asc (e :: t)) : ∀ z ∈ t, e < z := (List.pairwise_cons.mp h).1
/-- the count behind the next value -/
theorem cnt_next : ∀ {es : List Int} {a x : Int}, Asc es → a ≤ x → (∀ e ∈ es, e ≤ a ∨ x ≤ e) → cnt es x = if es[cnt es a]? = some x then cnt es a + 1 else cnt es a
  | [], a, x, _, _, _ => by
    rw [cnt_nil, cnt_nil]
    simp
  | e :: t, a, x, h, hax, hb => by
    have ih := cnt_next (es := t) (a := a) (x := x) h.tail hax fun z hz => hb z (by simp [hz])
    have he := hb e (by simp)
    by_cases z : e ≤ a
    · rw [cnt_cons, cnt_cons, ih, if_pos z, if_pos (show e ≤ x by omega), List.getElem?_cons_succ]
      split <;> rfl
    · have c0 : cnt t a = 0 := cnt_zero fun w hw => by
        have := h.head w hw
        omega
      have c1 : cnt (e :: t) a = 0 := by rw [cnt_cons, c0, if_neg z]
      rw [c1, List.getElem?_cons_zero]
      by_cases y : e = x
      · have c2 : cnt t x = 0 := cnt_zero fun w hw => by
          have := h.head w hw
          omega
        rw [cnt_cons, c2, if_pos (by omega), if_pos (by rw [y])]
      · have c2 : cnt t x = 0 := cnt_zero fun w hw => by
          have := h.head w hw
          omega
        rw [cnt_cons, c2, if_neg (by omega), if_neg (fun w => y (Option.some.inj w))]
/-- the runs between the edges -/
def pairs : List Int → List Pt
  | a :: b :: t => (a, b) :: pairs t
  | _ => []
theorem pairs_runs : ∀ {es : List Int} {b : Int}, Asc es → (∀ e ∈ es, b < e) → RunsFrom b (pairs es)
  | [], _, _, _ => trivial
  | [_], _, _, _ => trivial
  | a :: c :: t, b, h, hb => ⟨hb a (by simp), h.head c (by simp), pairs_runs h.tail.tail h.tail.head⟩
theorem below (es : List Int) : ∃ b : Int, ∀ e ∈ es, b < e := by
  induction es with
  | nil => exact ⟨0, fun _ h => by simp at h⟩
  | cons e t ih =>
    obtain ⟨b, hb⟩ := ih
    refine ⟨min b (e - 1), fun z hz => ?_⟩
    rcases List.mem_cons.mp hz with rfl | hz
    · omega
    · have := hb z hz
      omega
theorem pairs_ok {es : List Int} (h : Asc es) : RunsOk (pairs es) := by
  obtain ⟨b, hb⟩ := below es
  exact ⟨b, pairs_runs h hb⟩
theorem odd_two (n : Nat) : odd (n + 1 + 1) = odd n := by
  unfold odd
  rw [show (n + 1 + 1) % 2 = n % 2 by omega]
theorem inRuns_pairs : ∀ {es : List Int} {x : Int}, Asc es → es.length % 2 = 0 → (inRuns (pairs es) x ↔ odd (cnt es x) = true)
  | [], x, _, _ => ⟨fun h => absurd h inRuns_nil, fun h => by rw [cnt_nil] at h; exact absurd h (by decide)⟩
  | [_], _, _, h => by simp at h
  | a :: b :: t, x, h, hl => by
    have ih := inRuns_pairs (es := t) (x := x) h.tail.tail (by simp only [List.length_cons] at hl; omega)
    have hab := h.head b (by simp)
    show inRuns ((a, b) :: pairs t) x ↔ _
    rw [inRuns_cons, cnt_cons, cnt_cons]
    by_cases h1 : b ≤ x
    · rw [if_pos h1, if_pos (by omega), odd_two, ← ih]
      constructor
      · rintro (z | z)
        · have := z.2
          dsimp only at this
          omega
        · exact z
      · exact .inr
    · have c2 : cnt t x = 0 := cnt_zero fun w hw => by
        have := h.tail.head w hw
        omega
      rw [c2] at ih ⊢
      have no : ¬ inRuns (pairs t) x := fun z => by
        have := ih.mp z
        exact absurd this (by decide)
      by_cases h2 : a ≤ x
      · rw [if_neg h1, if_pos h2]
        exact ⟨fun _ => by decide, fun _ => .inl ⟨h2, by show x < b; omega⟩⟩
      · rw [if_neg h1, if_neg h2]
        constructor
        · rintro (z | z)
          · exact absurd z.1 h2
          · exact absurd z no
        · exact fun z => absurd z (by decide)
theorem pairs_inj : ∀ {es fs : List Int}, es.length % 2 = 0 → fs.length % 2 = 0 → pairs es = pairs fs → es = fs
  | [], [], _, _, _ => rfl
  | [_], _, h, _, _ => by simp at h
  | _, [_], _, h, _ => by simp at h
  | [], _ :: _ :: _, _, _, h => by simp [pairs] at h
  | _ :: _ :: _, [], _, _, h => by simp [pairs] at h
  | a :: b :: t, c :: d :: u, h, k, e => by
    simp only [pairs, List.cons.injEq, Prod.mk.injEq] at e
    obtain ⟨⟨rfl, rfl⟩, e⟩ := e
    simp only [List.length_cons] at h k
    rw [pairs_inj (by omega) (by omega) e]
theorem even_uniq {es fs : List Int} (h : EvE es) (k : EvE fs) (e : ∀ x, odd (cnt es x) = odd (cnt fs x)) : es = fs :=
  pairs_inj h.even k.even (runsOk_uniq (pairs_ok h.asc) (pairs_ok k.asc) fun x => by rw [inRuns_pairs h.asc h.even, inRuns_pairs k.asc k.even, e])
def Comb (k : Bool → Bool → Bool) (f s es : List Int) : Prop := EvE es ∧ ∀ x, odd (cnt es x) = k (odd (cnt f x)) (odd (cnt s x))
theorem Comb.uniq {k : Bool → Bool → Bool} {f s es fs : List Int} (h : Comb k f s es) (g : Comb k f s fs) : es = fs := even_uniq h.1 g.1 fun x => by rw [h.2, g.2]
def CI (k : Bool → Bool → Bool) (f s suf : List Int) (k1 k2 : Nat) (es : List Int) : Prop := ∃ a : Int, k1 = cnt f a ∧ k2 = cnt s a ∧ (∀ z ∈ suf, a ≤ z) ∧ (∀ e ∈ f, e ≤ a ∨ e ∈ suf) ∧ (∀ e ∈ s, e ≤ a ∨ e ∈ suf) ∧
  Asc es ∧ (∀ e ∈ es, e ≤ a) ∧ odd es.length = k (odd (cnt f a)) (odd (cnt s a)) ∧ ∀ x, x ≤ a → odd (cnt es x) = k (odd (cnt f x)) (odd (cnt s x))
theorem CI.start {k : Bool → Bool → Bool} {f s l : List Int} (hk : k false false = false) (hf : ∀ e ∈ f, e ∈ l) (hs : ∀ e ∈ s, e ∈ l) : CI k f s l 0 0 [] := by
  obtain ⟨b, hb⟩ := below l
  have z : ∀ x, x ≤ b → cnt f x = 0 ∧ cnt s x = 0 := fun x hx => ⟨cnt_zero fun e he => by have := hb e (hf e he); omega, cnt_zero fun e he => by have := hb e (hs e he); omega⟩
  refine ⟨b, (z b (Int.le_refl _)).1.symm, (z b (Int.le_refl _)).2.symm, fun e he => by have := hb e he; omega, fun e he => .inr (hf e he), fun e he => .inr (hs e he), List.Pairwise.nil, fun _ h => by simp at h, ?_, fun x hx => ?_⟩
  · rw [(z b (Int.le_refl _)).1, (z b (Int.le_refl _)).2]
    exact hk.symm
  · rw [(z x hx).1, (z x hx).2]
    exact hk.symm
def nxt (f : List Int) (k : Nat) (x : Int) : Nat := if f[k]? = some x then k + 1 else k
theorem CI.step {k : Bool → Bool → Bool} {f s suf es : List Int} {k1 k2 : Nat} {x0 : Int} (hf : Asc f) (hs : Asc s) (h : CI k f s (x0 :: suf) k1 k2 es) (srt : ∀ z ∈ suf, x0 ≤ z) :
    CI k f s suf (nxt f k1 x0) (nxt s k2 x0) (if k (odd (nxt f k1 x0)) (odd (nxt s k2 x0)) = odd es.length then es else es ++ [x0]) := by
  obtain ⟨a, rfl, rfl, ha, mf, ms, asc, le, par, all⟩ := h
  have hax := ha x0 (by simp)
  have gap : ∀ {l : List Int}, (∀ e ∈ l, e ≤ a ∨ e ∈ x0 :: suf) → ∀ e ∈ l, e ≤ a ∨ x0 ≤ e := fun m e he => (m e he).imp id fun z => by
    rcases List.mem_cons.mp z with rfl | z
    · exact Int.le_refl _
    · exact srt e z
  have cf : cnt f x0 = nxt f (cnt f a) x0 := cnt_next hf hax (gap mf)
  have cs : cnt s x0 = nxt s (cnt s a) x0 := cnt_next hs hax (gap ms)
  rw [← cf, ← cs]
  have mid : ∀ x, a ≤ x → x < x0 → cnt f x = cnt f a ∧ cnt s x = cnt s a := fun x h1 h2 => ⟨cnt_same h1 fun e he => (gap mf e he).imp id fun z => by omega, cnt_same h1 fun e he => (gap ms e he).imp id fun z => by omega⟩
  have keep : ∀ {l : List Int}, (∀ e ∈ l, e ≤ a ∨ e ∈ x0 :: suf) → ∀ e ∈ l, e ≤ x0 ∨ e ∈ suf := fun m e he => by
    rcases m e he with z | z
    · exact .inl (by omega)
    · rcases List.mem_cons.mp z with rfl | z
      · exact .inl (Int.le_refl _)
      · exact .inr z
  have low : ∀ x, x < x0 → odd (cnt es x) = k (odd (cnt f x)) (odd (cnt s x)) := fun x hx => by
    by_cases z : x ≤ a
    · exact all x z
    · rw [(mid x (by omega) hx).1, (mid x (by omega) hx).2, ← par, cnt_all fun e he => by have := le e he; omega]
  have cx : cnt es x0 = es.length := cnt_all fun e he => by have := le e he; omega
  split
  · rename_i hq
    refine ⟨x0, rfl, rfl, srt, keep mf, keep ms, asc, fun e he => by have := le e he; omega, hq.symm, fun x hx => ?_⟩
    by_cases z : x < x0
    · exact low x z
    · have : x = x0 := by omega
      subst this
      rw [cx, hq]
  · rename_i hq
    have hlt : a < x0 := by
      rcases Int.lt_or_eq_of_le hax with z | z
      · exact z
      · subst z
        exact absurd par.symm hq
    have hod : odd (es.length + 1) = k (odd (cnt f x0)) (odd (cnt s x0)) := by
      have o : ∀ n, odd (n + 1) = !odd n := fun n => by
        unfold odd
        rcases Nat.mod_two_eq_zero_or_one n with z | z
        · rw [z, show (n + 1) % 2 = 1 by omega]
          rfl
        · rw [z, show (n + 1) % 2 = 0 by omega]
          rfl
      rw [o]
      revert hq
      cases odd es.length <;> cases k (odd (cnt f x0)) (odd (cnt s x0)) <;> simp
    have c1 : ∀ x, cnt [x0] x = if x0 ≤ x then 1 else 0 := fun x => by rw [cnt_cons, cnt_nil, Nat.zero_add]
    refine ⟨x0, rfl, rfl, srt, keep mf, keep ms, ?_, fun e he => ?_, by rw [List.length_append]; exact hod, fun x hx => ?_⟩
    · unfold Asc
      rw [List.pairwise_append]
      refine ⟨asc, List.pairwise_singleton _ _, fun e he z hz => ?_⟩
      rw [List.mem_singleton.mp hz]
      have := le e he
      omega
    · rcases List.mem_append.mp he with z | z
      · have := le e z
        omega
      · rw [List.mem_singleton.mp z]
        exact Int.le_refl _
    · rw [cnt_append, c1]
      by_cases z : x < x0
      · rw [if_neg (by omega), Nat.add_zero]
        exact low x z
      · have : x = x0 := by omega
        subst this
        rw [if_pos (Int.le_refl _), cx]
        exact hod
theorem CI.done {k : Bool → Bool → Bool} {f s es : List Int} {k1 k2 : Nat} (hk : k false false = false) (hf : EvE f) (hs : EvE s) (h : CI k f s [] k1 k2 es) : Comb k f s es := by
  obtain ⟨a, rfl, rfl, ha, mf, ms, asc, le, par, all⟩ := h
  have mf : ∀ e ∈ f, e ≤ a := fun e he => (mf e he).elim id fun z => by simp at z
  have ms : ∀ e ∈ s, e ≤ a := fun e he => (ms e he).elim id fun z => by simp at z
  have of_ : odd (cnt f a) = false := by
    rw [cnt_all mf]
    unfold odd
    rw [hf.even]
    rfl
  have os : odd (cnt s a) = false := by
    rw [cnt_all ms]
    unfold odd
    rw [hs.even]
    rfl
  have par2 := par
  rw [of_, os, hk] at par2
  refine ⟨⟨asc, ?_⟩, fun x => ?_⟩
  · unfold odd at par2
    have := beq_eq_false_iff_ne.mp par2
    omega
  · by_cases z : x ≤ a
    · exact all x z
    · rw [cnt_all (es := es) fun e he => by have := le e he; omega, cnt_all (es := f) fun e he => by have := mf e he; omega, cnt_all (es := s) fun e he => by have := ms e he; omega, par, cnt_all mf, cnt_all ms]
end Od
namespace Od
abbrev Stp := Int × List Int
def ysOf (ss : List Stp) : List Int := ss.map Prod.fst
/-- what holds behind so many steps -/
def eb (ss : List Stp) (k : Nat) : List Int := if k = 0 then [] else (ss.getD (k - 1) (0, [])).2
def eFrom : List Int → List Stp → Int → List Int
  | p, [], _ => p
  | p, s :: t, y => if y < s.1 then p else eFrom s.2 t y
def VSc : List Int → List Stp → List Int → Prop
  | p, [], l => p = l
  | p, s :: t, l => s.2 ≠ p ∧ VSc s.2 t l
structure VS (ss : List Stp) : Prop where
  asc : Asc (ysOf ss)
  ev : ∀ s ∈ ss, EvE s.2
  ch : VSc [] ss []
theorem eFrom_low : ∀ {ss : List Stp} {p : List Int} {y : Int}, (∀ s ∈ ss, y < s.1) → eFrom p ss y = p
  | [], _, _, _ => rfl
  | s :: t, p, y, h => if_pos (h s (by simp))
theorem eFrom_all : ∀ {ss : List Stp} {p l : List Int} {y : Int}, VSc p ss l → (∀ s ∈ ss, s.1 ≤ y) → eFrom p ss y = l
  | [], _, _, _, h, _ => h
  | s :: t, p, l, y, h, k => by
    show (if y < s.1 then p else eFrom s.2 t y) = l
    rw [if_neg (by have := k s (by simp); omega), eFrom_all h.2 fun z hz => k z (by simp [hz])]
theorem eFrom_cnt : ∀ {ss : List Stp} {p : List Int} {y : Int}, Asc (ysOf ss) → eFrom p ss y = if cnt (ysOf ss) y = 0 then p else (ss.getD (cnt (ysOf ss) y - 1) (0, [])).2
  | [], p, y, _ => rfl
  | s :: t, p, y, h => by
    have ht : Asc (ysOf t) := h.tail
    have hh : ∀ z ∈ ysOf t, s.1 < z := h.head
    show (if y < s.1 then p else eFrom s.2 t y) = _
    have e : cnt (ysOf (s :: t)) y = cnt (ysOf t) y + if s.1 ≤ y then 1 else 0 := cnt_cons _ _ _
    by_cases c : y < s.1
    · have c0 : cnt (ysOf t) y = 0 := cnt_zero fun z hz => by have := hh z hz; omega
      rw [e, c0, if_neg (show ¬ s.1 ≤ y by omega), if_pos c, if_pos rfl]
    · rw [if_neg c, e, if_pos (show s.1 ≤ y by omega), if_neg (by omega), eFrom_cnt ht, Nat.add_sub_cancel]
      by_cases z : cnt (ysOf t) y = 0
      · rw [if_pos z, z]
        rfl
      · rw [if_neg z]
        obtain ⟨m, hm⟩ : ∃ m, cnt (ysOf t) y = m + 1 := ⟨cnt (ysOf t) y - 1, by omega⟩
        rw [hm]
        rfl
theorem eb_at {ss : List Stp} {y : Int} (h : Asc (ysOf ss)) : eb ss (cnt (ysOf ss) y) = eFrom [] ss y := (eFrom_cnt h).symm
theorem eFrom_snoc : ∀ {ss : List Stp} {p : List Int} {s : Stp} {y : Int}, (∀ z ∈ ss, z.1 ≤ s.1) → eFrom p (ss ++ [s]) y = if y < s.1 then eFrom p ss y else s.2
  | [], p, s, y, _ => rfl
  | z :: t, p, s, y, h => by
    show (if y < z.1 then p else eFrom z.2 (t ++ [s]) y) = if y < s.1 then (if y < z.1 then p else eFrom z.2 t y) else s.2
    have hz := h z (by simp)
    rw [eFrom_snoc fun w hw => h w (by simp [hw])]
    by_cases c : y < z.1
    · rw [if_pos c, if_pos c, if_pos (by omega)]
    · rw [if_neg c, if_neg c]
theorem eFrom_same {ss : List Stp} {p : List Int} {a y : Int} (h : Asc (ysOf ss)) (ha : a ≤ y) (g : ∀ e ∈ ysOf ss, e ≤ a ∨ y < e) : eFrom p ss y = eFrom p ss a := by
  rw [eFrom_cnt h, eFrom_cnt h, cnt_same ha g]
theorem eFrom_ev : ∀ {ss : List Stp} {p : List Int} {y : Int}, EvE p → (∀ s ∈ ss, EvE s.2) → EvE (eFrom p ss y)
  | [], _, _, hp, _ => hp
  | s :: t, p, y, hp, h => by
    show EvE (if y < s.1 then p else eFrom s.2 t y)
    split
    · exact hp
    · exact eFrom_ev (h s (by simp)) fun z hz => h z (by simp [hz])
theorem VSc.snoc : ∀ {ss : List Stp} {p l : List Int} {s : Stp}, VSc p ss l → s.2 ≠ l → VSc p (ss ++ [s]) s.2
  | [], p, l, s, h, k => ⟨by rw [show p = l from h]; exact k, rfl⟩
  | z :: t, p, l, s, h, k => ⟨h.1, VSc.snoc h.2 k⟩
def SI (k : Bool → Bool → Bool) (f s : List Stp) (suf : List Int) (k1 k2 : Nat) (rs : List Stp) (lt : List Int) : Prop := ∃ a : Int, k1 = cnt (ysOf f) a ∧ k2 = cnt (ysOf s) a ∧ (∀ z ∈ suf, a ≤ z) ∧ (∀ e ∈ ysOf f, e ≤ a ∨ e ∈ suf) ∧ (∀ e ∈ ysOf s, e ≤ a ∨ e ∈ suf) ∧
  Asc (ysOf rs) ∧ (∀ z ∈ rs, z.1 ≤ a ∧ EvE z.2) ∧ VSc [] rs lt ∧ Comb k (eFrom [] f a) (eFrom [] s a) lt ∧ ∀ y, y ≤ a → Comb k (eFrom [] f y) (eFrom [] s y) (eFrom [] rs y)
theorem comb_nil {k : Bool → Bool → Bool} (hk : k false false = false) : Comb k [] [] [] := ⟨EvE.nil, fun x => by rw [cnt_nil]; exact hk.symm⟩
theorem SI.start {k : Bool → Bool → Bool} {f s : List Stp} {l : List Int} (hk : k false false = false) (hf : ∀ e ∈ ysOf f, e ∈ l) (hs : ∀ e ∈ ysOf s, e ∈ l) : SI k f s l 0 0 [] [] := by
  obtain ⟨b, hb⟩ := below l
  have zf : ∀ x, x ≤ b → ∀ z ∈ f, x < z.1 := fun x hx z hz => by have := hb z.1 (hf _ (List.mem_map.mpr ⟨z, hz, rfl⟩)); omega
  have zs : ∀ x, x ≤ b → ∀ z ∈ s, x < z.1 := fun x hx z hz => by have := hb z.1 (hs _ (List.mem_map.mpr ⟨z, hz, rfl⟩)); omega
  have c : ∀ y, y ≤ b → Comb k (eFrom [] f y) (eFrom [] s y) [] := fun y hy => by
    rw [eFrom_low (zf y hy), eFrom_low (zs y hy)]
    exact comb_nil hk
  refine ⟨b, (cnt_zero fun e he => hb e (hf e he)).symm, (cnt_zero fun e he => hb e (hs e he)).symm, fun e he => by have := hb e he; omega, fun e he => .inr (hf e he), fun e he => .inr (hs e he), List.Pairwise.nil, fun _ h => by simp at h, rfl, c b (Int.le_refl _), c⟩
theorem SI.behind {k : Bool → Bool → Bool} {f s rs : List Stp} {suf lt : List Int} {k1 k2 : Nat} {y0 : Int} (hf : VS f) (hs : VS s) (h : SI k f s (y0 :: suf) k1 k2 rs lt) (srt : ∀ z ∈ suf, y0 ≤ z) :
    nxt (ysOf f) k1 y0 = cnt (ysOf f) y0 ∧ nxt (ysOf s) k2 y0 = cnt (ysOf s) y0 := by
  obtain ⟨a, rfl, rfl, ha, mf, ms, _⟩ := h
  have gap : ∀ {l : List Int}, (∀ e ∈ l, e ≤ a ∨ e ∈ y0 :: suf) → ∀ e ∈ l, e ≤ a ∨ y0 ≤ e := fun m e he => (m e he).imp id fun z => by
    rcases List.mem_cons.mp z with rfl | z
    · exact Int.le_refl _
    · exact srt e z
  exact ⟨(cnt_next hf.asc (ha y0 (by simp)) (gap mf)).symm, (cnt_next hs.asc (ha y0 (by simp)) (gap ms)).symm⟩
theorem SI.step {k : Bool → Bool → Bool} {f s rs : List Stp} {suf lt es : List Int} {k1 k2 : Nat} {y0 : Int} (hf : VS f) (hs : VS s) (h : SI k f s (y0 :: suf) k1 k2 rs lt) (srt : ∀ z ∈ suf, y0 ≤ z)
    (he : Comb k (eb f (nxt (ysOf f) k1 y0)) (eb s (nxt (ysOf s) k2 y0)) es) :
    SI k f s suf (nxt (ysOf f) k1 y0) (nxt (ysOf s) k2 y0) (if es = lt then rs else rs ++ [(y0, es)]) es := by
  obtain ⟨b1, b2⟩ := h.behind hf hs srt
  rw [b1, b2] at he ⊢
  rw [eb_at hf.asc, eb_at hs.asc] at he
  obtain ⟨a, rfl, rfl, ha, mf, ms, asc, le, ch, cl, all⟩ := h
  have hax := ha y0 (by simp)
  have gap : ∀ {l : List Int}, (∀ e ∈ l, e ≤ a ∨ e ∈ y0 :: suf) → ∀ e ∈ l, e ≤ a ∨ y0 ≤ e := fun m e he => (m e he).imp id fun z => by
    rcases List.mem_cons.mp z with rfl | z
    · exact Int.le_refl _
    · exact srt e z
  have keep : ∀ {l : List Int}, (∀ e ∈ l, e ≤ a ∨ e ∈ y0 :: suf) → ∀ e ∈ l, e ≤ y0 ∨ e ∈ suf := fun m e he => by
    rcases m e he with z | z
    · exact .inl (by omega)
    · rcases List.mem_cons.mp z with rfl | z
      · exact .inl (Int.le_refl _)
      · exact .inr z
  have top : ∀ y, a ≤ y → eFrom [] rs y = lt := fun y hy => eFrom_all ch fun z hz => by have := (le z hz).1; omega
  have low : ∀ y, y < y0 → Comb k (eFrom [] f y) (eFrom [] s y) (eFrom [] rs y) := fun y hy => by
    by_cases z : y ≤ a
    · exact all y z
    · rw [top y (by omega), eFrom_same hf.asc (show a ≤ y by omega) fun e he => (gap mf e he).imp id fun w => by omega, eFrom_same hs.asc (show a ≤ y by omega) fun e he => (gap ms e he).imp id fun w => by omega]
      exact cl
  split
  · rename_i hq
    subst hq
    refine ⟨y0, rfl, rfl, srt, keep mf, keep ms, asc, fun z hz => ⟨by have := (le z hz).1; omega, (le z hz).2⟩, ch, he, fun y hy => ?_⟩
    by_cases z : y < y0
    · exact low y z
    · have : y = y0 := by omega
      subst this
      rw [top y hax]
      exact he
  · rename_i hq
    have hlt : a < y0 := by
      rcases Int.lt_or_eq_of_le hax with z | z
      · exact z
      · subst z
        exact absurd (he.uniq cl) hq
    refine ⟨y0, rfl, rfl, srt, keep mf, keep ms, ?_, fun z hz => ?_, ch.snoc hq, he, fun y hy => ?_⟩
    · unfold ysOf
      rw [List.map_append]
      unfold Asc
      rw [List.pairwise_append]
      refine ⟨asc, List.pairwise_singleton _ _, fun e he z hz => ?_⟩
      obtain ⟨w, hw, rfl⟩ := List.mem_map.mp he
      rw [List.mem_singleton.mp hz]
      have := (le w hw).1
      show w.1 < y0
      omega
    · rcases List.mem_append.mp hz with w | w
      · exact ⟨by have := (le z w).1; omega, (le z w).2⟩
      · rw [List.mem_singleton.mp w]
        exact ⟨Int.le_refl _, he.1⟩
    · rw [eFrom_snoc fun z hz => by have := (le z hz).1; show z.1 ≤ y0; omega]
      by_cases z : y < y0
      · rw [if_pos z]
        exact low y z
      · have : y = y0 := by omega
        subst this
        rw [if_neg (show ¬ y < (y, es).1 from z)]
        exact he
theorem SI.done {k : Bool → Bool → Bool} {f s rs : List Stp} {lt : List Int} {k1 k2 : Nat} (hk : k false false = false) (hf : VS f) (hs : VS s) (h : SI k f s [] k1 k2 rs lt) : VS rs ∧ ∀ y, Comb k (eFrom [] f y) (eFrom [] s y) (eFrom [] rs y) := by
  obtain ⟨a, rfl, rfl, ha, mf, ms, asc, le, ch, cl, all⟩ := h
  have mf : ∀ z ∈ f, z.1 ≤ a := fun z hz => (mf _ (List.mem_map.mpr ⟨z, hz, rfl⟩)).elim id fun w => by simp at w
  have ms : ∀ z ∈ s, z.1 ≤ a := fun z hz => (ms _ (List.mem_map.mpr ⟨z, hz, rfl⟩)).elim id fun w => by simp at w
  have cl2 := cl
  rw [eFrom_all hf.ch mf, eFrom_all hs.ch ms] at cl2
  have e := cl2.uniq (comb_nil hk)
  subst e
  refine ⟨⟨asc, fun z hz => (le z hz).2, ch⟩, fun y => ?_⟩
  by_cases z : y ≤ a
  · exact all y z
  · rw [eFrom_all hf.ch fun w hw => by have := mf w hw; omega, eFrom_all hs.ch fun w hw => by have := ms w hw; omega, eFrom_all ch fun w hw => by have := (le w hw).1; omega]
    exact cl2
def bandsP : List Stp → List Bd
  | s :: r :: t => if s.2 = [] then bandsP (r :: t) else ⟨s.1, r.1, pairs s.2⟩ :: bandsP (r :: t)
  | _ => []
theorem BandsFrom.later {y y' : Int} {p q : List Pt} {bs : List Bd} (h : BandsFrom y p bs) (e : y' < y) : BandsFrom y' q bs := by
  cases bs with
  | nil => trivial
  | cons d t => exact ⟨by have := h.1; omega, fun z => by have := h.1; omega, h.2.2⟩
theorem pairs_ne {es : List Int} (h : es.length % 2 = 0) (n : es ≠ []) : pairs es ≠ [] := by
  match es, h, n with
  | [], _, n => exact absurd rfl n
  | [_], h, _ => simp at h
  | a :: b :: t, _, _ => exact fun z => by simp [pairs] at z
theorem bandsP_ok : ∀ {ss : List Stp} {p l : List Int} {y : Int}, VSc p ss l → Asc (ysOf ss) → (∀ s ∈ ss, EvE s.2) → EvE p → (∀ s ∈ ss, y ≤ s.1) → BandsFrom y (pairs p) (bandsP ss)
  | [], _, _, _, _, _, _, _, _ => trivial
  | [_], _, _, _, _, _, _, _, _ => trivial
  | s :: r :: t, p, l, y, h, asc, ev, hp, hy => by
    have hsr : s.1 < r.1 := asc.head r.1 (by simp [ysOf])
    have low : ∀ z ∈ r :: t, r.1 ≤ z.1 := fun z hz => by
      rcases List.mem_cons.mp hz with rfl | hz
      · exact Int.le_refl _
      · have := asc.tail.head z.1 (List.mem_map.mpr ⟨z, hz, rfl⟩)
        omega
    have ih := bandsP_ok (ss := r :: t) (p := s.2) (l := l) (y := r.1) h.2 asc.tail (fun z hz => ev z (by simp [hz])) (ev s (by simp)) low
    have hys := hy s (by simp)
    show BandsFrom y (pairs p) (if s.2 = [] then bandsP (r :: t) else ⟨s.1, r.1, pairs s.2⟩ :: bandsP (r :: t))
    by_cases c : s.2 = []
    · rw [if_pos c]
      exact ih.later (by omega)
    · rw [if_neg c]
      refine ⟨hys, fun _ z => h.1 (pairs_inj (ev s (by simp)).even hp.even z.symm), hsr, pairs_ne (ev s (by simp)).even c, pairs_ok (ev s (by simp)).asc, ih⟩
theorem bandsP_in : ∀ {ss : List Stp} {p : List Int} {x y : Int}, VSc p ss [] → Asc (ysOf ss) → (∀ s ∈ ss, EvE s.2) → (∃ s ∈ ss, s.1 ≤ y) → (inBands (bandsP ss) x y ↔ odd (cnt (eFrom p ss y) x) = true)
  | [], _, _, _, _, _, _, h => by
    obtain ⟨_, h, _⟩ := h
    simp at h
  | [s], p, x, y, h, _, _, hy => by
    obtain ⟨z, hz, hzy⟩ := hy
    rw [List.mem_singleton.mp hz] at hzy
    have e : s.2 = [] := h.2
    show inBands [] x y ↔ odd (cnt (if y < s.1 then p else s.2) x) = true
    rw [if_neg (by omega), e]
    exact ⟨fun z => absurd z inBands_nil, fun z => absurd z (by rw [cnt_nil]; decide)⟩
  | s :: r :: t, p, x, y, h, asc, ev, hy => by
    have hsr : s.1 < r.1 := asc.head r.1 (by simp [ysOf])
    have hsy : s.1 ≤ y := by
      obtain ⟨z, hz, hzy⟩ := hy
      rcases List.mem_cons.mp hz with rfl | hz
      · exact hzy
      · have := asc.head z.1 (List.mem_map.mpr ⟨z, hz, rfl⟩)
        omega
    have es := ev s (by simp)
    have low : ∀ z ∈ r :: t, r.1 ≤ z.1 := fun z hz => by
      rcases List.mem_cons.mp hz with rfl | hz
      · exact Int.le_refl _
      · have := asc.tail.head z.1 (List.mem_map.mpr ⟨z, hz, rfl⟩)
        omega
    have ok := bandsP_ok (ss := r :: t) (p := s.2) (l := []) (y := r.1) h.2 asc.tail (fun z hz => ev z (by simp [hz])) es low
    show inBands (if s.2 = [] then bandsP (r :: t) else ⟨s.1, r.1, pairs s.2⟩ :: bandsP (r :: t)) x y ↔ odd (cnt (if y < s.1 then p else eFrom s.2 (r :: t) y) x) = true
    rw [if_neg (show ¬ y < s.1 by omega)]
    by_cases c : r.1 ≤ y
    · rw [← bandsP_in h.2 asc.tail (fun z hz => ev z (by simp [hz])) ⟨r, by simp, c⟩]
      by_cases d : s.2 = []
      · rw [if_pos d]
      · rw [if_neg d]
        exact BandsFrom.behind c
    · have no : ¬ inBands (bandsP (r :: t)) x y := fun z => by
        have := BandsFrom.le ok z
        omega
      have e : eFrom s.2 (r :: t) y = s.2 := if_pos (show y < r.1 by omega)
      rw [e]
      by_cases d : s.2 = []
      · rw [if_pos d, d]
        exact ⟨fun z => absurd z no, fun z => absurd z (by rw [cnt_nil]; decide)⟩
      · rw [if_neg d, inBands_cons, ← inRuns_pairs es.asc es.even]
        constructor
        · rintro (z | z)
          · exact z.2.2
          · exact absurd z no
        · exact fun z => .inl ⟨hsy, by show y < r.1; omega, z⟩
theorem VS.form {ss : List Stp} (h : VS ss) : IsForm (fun x y => odd (cnt (eFrom [] ss y) x) = true) (formOf (bandsP ss)) := by
  obtain ⟨b, hb⟩ := below (ysOf ss)
  have ok := bandsP_ok (y := b) h.ch h.asc h.ev EvE.nil fun s hs => by have := hb s.1 (List.mem_map.mpr ⟨s, hs, rfl⟩); omega
  refine ⟨b, bandsP ss, ok, fun x y => ?_, rfl⟩
  by_cases c : ∃ s ∈ ss, s.1 ≤ y
  · exact bandsP_in h.ch h.asc h.ev c
  · have lowy : ∀ s ∈ ss, y < s.1 := fun s hs => by
      by_cases z : y < s.1
      · exact z
      · exact absurd ⟨s, hs, by omega⟩ c
    show _ ↔ odd (cnt (eFrom [] ss y) x) = true
    rw [eFrom_low lowy]
    have no : ¬ inBands (bandsP ss) x y := by
      cases ss with
      | nil => exact inBands_nil
      | cons s t =>
        have low : ∀ z ∈ s :: t, s.1 ≤ z.1 := fun z hz => by
          rcases List.mem_cons.mp hz with rfl | hz
          · exact Int.le_refl _
          · have := h.asc.head z.1 (List.mem_map.mpr ⟨z, hz, rfl⟩)
            omega
        have ok2 := bandsP_ok (y := s.1) h.ch h.asc h.ev EvE.nil low
        intro z
        have := BandsFrom.le ok2 z
        have := lowy s (by simp)
        omega
    exact ⟨fun z => absurd z no, fun z => absurd z (by rw [cnt_nil]; decide)⟩
end Od
namespace Od
def flat (rs : List Pt) : List Int := rs.flatMap fun q => [q.1, q.2]
theorem flat_cons (q : Pt) (t : List Pt) : flat (q :: t) = q.1 :: q.2 :: flat t := rfl
theorem pairs_flat : ∀ rs : List Pt, pairs (flat rs) = rs
  | [] => rfl
  | q :: t => by
    rw [flat_cons, pairs, pairs_flat t]
theorem flat_len : ∀ rs : List Pt, (flat rs).length = 2 * rs.length
  | [] => rfl
  | q :: t => by
    rw [flat_cons, List.length_cons, List.length_cons, flat_len t, List.length_cons]
    omega
theorem flat_asc : ∀ {rs : List Pt} {b : Int}, RunsFrom b rs → Asc (flat rs) ∧ ∀ e ∈ flat rs, b < e
  | [], _, _ => ⟨List.Pairwise.nil, fun _ h => by simp [flat] at h⟩
  | q :: t, b, h => by
    obtain ⟨h1, h2⟩ := flat_asc h.2.2
    have a := h.1
    have c := h.2.1
    rw [flat_cons]
    refine ⟨List.pairwise_cons.mpr ⟨fun z hz => ?_, List.pairwise_cons.mpr ⟨fun z hz => h2 z hz, h1⟩⟩, fun z hz => ?_⟩
    · rcases List.mem_cons.mp hz with rfl | hz
      · exact c
      · have := h2 z hz
        omega
    · rcases List.mem_cons.mp hz with rfl | hz
      · exact a
      · rcases List.mem_cons.mp hz with rfl | hz
        · omega
        · have := h2 z hz
          omega
theorem flat_ev {rs : List Pt} (h : RunsOk rs) : EvE (flat rs) := by
  obtain ⟨b, h⟩ := h
  exact ⟨(flat_asc h).1, by rw [flat_len]; omega⟩
theorem flat_in {rs : List Pt} {x : Int} (h : RunsOk rs) : odd (cnt (flat rs) x) = true ↔ inRuns rs x := by
  have e := flat_ev h
  rw [← inRuns_pairs e.asc e.even, pairs_flat]
theorem flat_inj {rs ss : List Pt} (h : flat rs = flat ss) : rs = ss := by rw [← pairs_flat rs, h, pairs_flat]
theorem flat_ne {rs : List Pt} (h : rs ≠ []) : flat rs ≠ [] := fun z => h (flat_inj (ss := []) z)
abbrev RSt := List Stp × Option Int
def gap (o : Option Int) (t : Int) : List Stp := match o with
  | some e => if e < t then [(e, [])] else []
  | none => []
def lastY (ss : List Stp) : Option Int := ss.getLast?.map Prod.fst
def addL (ss : List Stp) (es : List Int) : List Stp := match ss.getLast? with
  | some s => ss.dropLast ++ [(s.1, s.2 ++ es)]
  | none => ss
def rstep (st : RSt) (q : Rc) : RSt := if lastY st.1 = some q.t then (addL st.1 [q.l, q.r], st.2) else (st.1 ++ gap st.2 q.t ++ [(q.t, [q.l, q.r])], some q.b)
def fin (st : RSt) : List Stp := match st.2 with
  | some e => st.1 ++ [(e, [])]
  | none => st.1
def stepsF (fm : List Rc) : List Stp := fin (fm.foldl rstep ([], none))
def stepsE : Int → List Bd → List Stp
  | e, [] => [(e, [])]
  | e, d :: t => (if e < d.t then [(e, [])] else []) ++ (d.t, flat d.rs) :: stepsE d.b t
theorem lastY_snoc (ss : List Stp) (s : Stp) : lastY (ss ++ [s]) = some s.1 := by
  unfold lastY
  rw [List.getLast?_append]
  rfl
theorem addL_snoc (ss : List Stp) (s : Stp) (es : List Int) : addL (ss ++ [s]) es = ss ++ [(s.1, s.2 ++ es)] := by
  unfold addL
  rw [List.getLast?_append]
  show (ss ++ [s]).dropLast ++ [(s.1, s.2 ++ es)] = _
  rw [List.dropLast_concat]
theorem fold_band : ∀ {rs : List Pt} {t b : Int} {ss : List Stp} {es : List Int} {o : Option Int}, (rs.map fun q => (⟨q.1, t, q.2, b⟩ : Rc)).foldl rstep (ss ++ [(t, es)], o) = (ss ++ [(t, es ++ flat rs)], o)
  | [], t, b, ss, es, o => by
    rw [show flat [] = [] from rfl, List.append_nil]
    rfl
  | q :: u, t, b, ss, es, o => by
    rw [List.map_cons, List.foldl_cons]
    have e : rstep (ss ++ [(t, es)], o) ⟨q.1, t, q.2, b⟩ = (ss ++ [(t, es ++ [q.1, q.2])], o) := by
      unfold rstep
      rw [if_pos (lastY_snoc _ _)]
      show (addL (ss ++ [(t, es)]) [q.1, q.2], o) = _
      rw [addL_snoc]
    rw [e, fold_band, flat_cons, List.append_assoc]
    rfl
theorem fold_first {d : Bd} {ss : List Stp} {o : Option Int} (hn : d.rs ≠ []) (hl : lastY ss ≠ some d.t) : (bandRc d).foldl rstep (ss, o) = (ss ++ gap o d.t ++ [(d.t, flat d.rs)], some d.b) := by
  unfold bandRc
  cases h : d.rs with
  | nil => exact absurd h hn
  | cons q u =>
    rw [List.map_cons, List.foldl_cons]
    have e : rstep (ss, o) ⟨q.1, d.t, q.2, d.b⟩ = (ss ++ gap o d.t ++ [(d.t, [q.1, q.2])], some d.b) := by
      unfold rstep
      rw [if_neg hl]
    rw [e, fold_band, flat_cons]
    rfl
theorem fold_bands : ∀ {bs : List Bd} {ss : List Stp} {e : Int} {p : List Pt}, BandsFrom e p bs → (∀ y, lastY ss = some y → y < e) → fin ((formOf bs).foldl rstep (ss, some e)) = ss ++ stepsE e bs
  | [], ss, e, p, _, _ => rfl
  | d :: t, ss, e, p, h, hl => by
    have h1 := h.1
    have h3 := h.2.2.1
    unfold formOf
    rw [List.flatMap_cons, List.foldl_append, fold_first h.2.2.2.1 fun z => by have := hl _ z; omega]
    have ih := fold_bands (ss := ss ++ gap (some e) d.t ++ [(d.t, flat d.rs)]) h.2.2.2.2.2 fun y hy => by
      rw [lastY_snoc] at hy
      have : d.t = y := Option.some.inj hy
      omega
    have e2 : (List.flatMap bandRc t) = formOf t := rfl
    rw [e2, ih]
    show _ = ss ++ ((if e < d.t then [(e, [])] else []) ++ (d.t, flat d.rs) :: stepsE d.b t)
    rw [List.append_assoc, List.append_assoc]
    rfl
theorem stepsF_cons {d : Bd} {t : List Bd} {y : Int} {p : List Pt} (h : BandsFrom y p (d :: t)) : stepsF (formOf (d :: t)) = (d.t, flat d.rs) :: stepsE d.b t := by
  unfold stepsF formOf
  rw [List.flatMap_cons, List.foldl_append, fold_first h.2.2.2.1 (fun z => by cases z)]
  have h3 := h.2.2.1
  have ih := fold_bands (ss := [] ++ gap none d.t ++ [(d.t, flat d.rs)]) h.2.2.2.2.2 fun y hy => by
    rw [lastY_snoc] at hy
    have : d.t = y := Option.some.inj hy
    omega
  exact ih
theorem stepsE_ok : ∀ {bs : List Bd} {y : Int} {p : List Pt}, BandsFrom y p bs → p ≠ [] → VSc (flat p) (stepsE y bs) [] ∧ Asc (ysOf (stepsE y bs)) ∧ (∀ s ∈ stepsE y bs, y ≤ s.1 ∧ EvE s.2)
  | [], y, p, _, hp => ⟨⟨(flat_ne hp).symm, rfl⟩, List.pairwise_singleton _ _, fun s hs => by
    rw [List.mem_singleton.mp hs]
    exact ⟨Int.le_refl _, EvE.nil⟩⟩
  | d :: t, y, p, h, hp => by
    have h1 := h.1
    have h3 := h.2.2.1
    obtain ⟨c, a, m⟩ := stepsE_ok h.2.2.2.2.2 h.2.2.2.1
    have a2 : Asc (ysOf ((d.t, flat d.rs) :: stepsE d.b t)) := List.pairwise_cons.mpr ⟨fun z hz => by
      obtain ⟨w, hw, rfl⟩ := List.mem_map.mp hz
      have := (m w hw).1
      show d.t < w.1
      omega, a⟩
    have m2 : ∀ s ∈ ((d.t, flat d.rs) :: stepsE d.b t), d.t ≤ s.1 ∧ EvE s.2 := fun s hs => by
      rcases List.mem_cons.mp hs with rfl | hs
      · exact ⟨Int.le_refl _, flat_ev h.2.2.2.2.1⟩
      · exact ⟨by have := (m s hs).1; omega, (m s hs).2⟩
    show VSc (flat p) ((if y < d.t then [(y, [])] else []) ++ (d.t, flat d.rs) :: stepsE d.b t) [] ∧ Asc (ysOf ((if y < d.t then [(y, [])] else []) ++ (d.t, flat d.rs) :: stepsE d.b t)) ∧ ∀ s ∈ ((if y < d.t then [(y, [])] else []) ++ (d.t, flat d.rs) :: stepsE d.b t), y ≤ s.1 ∧ EvE s.2
    by_cases z : y < d.t
    · rw [if_pos z]
      refine ⟨⟨(flat_ne hp).symm, flat_ne h.2.2.2.1, c⟩, List.pairwise_cons.mpr ⟨fun w hw => ?_, a2⟩, fun s hs => ?_⟩
      · obtain ⟨u, hu, rfl⟩ := List.mem_map.mp hw
        have := (m2 u hu).1
        show y < u.1
        omega
      · rcases List.mem_cons.mp hs with rfl | hs
        · exact ⟨Int.le_refl _, EvE.nil⟩
        · exact ⟨by have := (m2 s hs).1; omega, (m2 s hs).2⟩
    · rw [if_neg z]
      exact ⟨⟨fun w => h.2.1 (by omega) (flat_inj w).symm, c⟩, a2, fun s hs => ⟨by have := (m2 s hs).1; omega, (m2 s hs).2⟩⟩
theorem stepsE_in : ∀ {bs : List Bd} {y y' x : Int} {p : List Pt} {q : List Int}, BandsFrom y p bs → p ≠ [] → y ≤ y' → (odd (cnt (eFrom q (stepsE y bs) y') x) = true ↔ inBands bs x y')
  | [], y, y', x, p, q, _, _, hy => by
    show odd (cnt (if y' < y then q else []) x) = true ↔ _
    rw [if_neg (by omega), cnt_nil]
    exact ⟨fun z => absurd z (by decide), fun z => absurd z inBands_nil⟩
  | d :: t, y, y', x, p, q, h, hp, hy => by
    have h1 := h.1
    have h3 := h.2.2.1
    obtain ⟨_, _, m⟩ := stepsE_ok h.2.2.2.2.2 h.2.2.2.1
    have row : ∀ q, y' < d.t → eFrom q ((d.t, flat d.rs) :: stepsE d.b t) y' = q := fun q z => if_pos z
    have sub : ∀ q, d.t ≤ y' → (odd (cnt (eFrom q ((d.t, flat d.rs) :: stepsE d.b t) y') x) = true ↔ inBands (d :: t) x y') := fun q z => by
      show odd (cnt (if y' < d.t then q else eFrom (flat d.rs) (stepsE d.b t) y') x) = true ↔ _
      rw [if_neg (by omega)]
      by_cases c : y' < d.b
      · rw [eFrom_low fun s hs => by have := (m s hs).1; omega, flat_in h.2.2.2.2.1, h.row z c]
      · rw [stepsE_in h.2.2.2.2.2 h.2.2.2.1 (by omega), BandsFrom.behind (d := d) (t := t) (show d.b ≤ y' by omega)]
    show odd (cnt (eFrom q ((if y < d.t then [(y, [])] else []) ++ (d.t, flat d.rs) :: stepsE d.b t) y') x) = true ↔ _
    by_cases z : y < d.t
    · rw [if_pos z]
      show odd (cnt (if y' < y then q else eFrom [] ((d.t, flat d.rs) :: stepsE d.b t) y') x) = true ↔ _
      rw [if_neg (show ¬ y' < y by omega)]
      by_cases c : d.t ≤ y'
      · exact sub [] c
      · rw [row [] (by omega), cnt_nil]
        constructor
        · exact fun w => absurd w (by decide)
        · intro w
          have k : BandsFrom d.t [] (d :: t) := ⟨Int.le_refl _, fun _ v => h.2.2.2.1 v.symm, h.2.2⟩
          have := BandsFrom.le k w
          omega
    · rw [if_neg z]
      exact sub q (by omega)
theorem stepsF_ok {S : Int → Int → Prop} {f : List Rc} (h : IsForm S f) : VS (stepsF f) ∧ ∀ x y, odd (cnt (eFrom [] (stepsF f) y) x) = true ↔ S x y := by
  obtain ⟨b, bs, h1, h2, rfl⟩ := h
  cases bs with
  | nil => exact ⟨⟨List.Pairwise.nil, fun s hs => by simp [stepsF, formOf, fin] at hs, rfl⟩, fun x y => by
      rw [← h2]
      show odd (cnt [] x) = true ↔ _
      rw [cnt_nil]
      exact ⟨fun z => absurd z (by decide), fun z => absurd z inBands_nil⟩⟩
  | cons d t =>
    rw [stepsF_cons h1]
    have h3 := h1.2.2.1
    obtain ⟨c, a, m⟩ := stepsE_ok h1.2.2.2.2.2 h1.2.2.2.1
    refine ⟨⟨List.pairwise_cons.mpr ⟨fun z hz => ?_, a⟩, fun s hs => ?_, flat_ne h1.2.2.2.1, c⟩, fun x y => ?_⟩
    · obtain ⟨w, hw, rfl⟩ := List.mem_map.mp hz
      have := (m w hw).1
      show d.t < w.1
      omega
    · rcases List.mem_cons.mp hs with rfl | hs
      · exact flat_ev h1.2.2.2.2.1
      · exact (m s hs).2
    · rw [← h2]
      show odd (cnt (if y < d.t then [] else eFrom (flat d.rs) (stepsE d.b t) y) x) = true ↔ _
      by_cases c : y < d.t
      · rw [if_pos c, cnt_nil]
        constructor
        · exact fun w => absurd w (by decide)
        · intro w
          have k : BandsFrom d.t [] (d :: t) := ⟨Int.le_refl _, fun _ v => h1.2.2.2.1 v.symm, h1.2.2⟩
          have := BandsFrom.le k w
          omega
      · rw [if_neg c]
        by_cases c2 : y < d.b
        · rw [eFrom_low fun s hs => by have := (m s hs).1; omega, flat_in h1.2.2.2.2.1, h1.row (by omega) c2]
        · rw [stepsE_in h1.2.2.2.2.2 h1.2.2.2.1 (by omega), BandsFrom.behind (d := d) (t := t) (show d.b ≤ y by omega)]
end Od
namespace Od
open PySem PySem.Spec PyProof.Rows L2
/-- the zip at turn i: the tuple that it gave out may be held -/
def ZlSt (h : Heap) (z TI TO i1 i2 l1 l2 : Addr) (xs ys : Array Value) (S : Addr) (i : Nat) : Prop := IsPair h TI (.ref i1) (.ref i2) ∧ h.IsListIter i1 l1 i ∧ h.IsListIter i2 l2 i ∧ h.IsList l1 xs ∧ h.IsList l2 ys ∧
  ((IsZip h z TI TO .none ∧ ∃ a b, IsPair h TO a b) ∨ ∃ T f oT, IsZipHeld h z TI TO T f ∧ h.get? T = some oT ∧ T ≠ z ∧ T ≠ i1 ∧ T ≠ i2 ∧ T ≠ S)
structure ZlOff (z TI TO i1 i2 l1 l2 S : Addr) : Prop where
  z : z < S
  TI : TI < S
  TO : TO < S
  i1 : i1 < S
  i2 : i2 < S
  l1 : l1 < S
  l2 : l2 < S
theorem ZlSt.keep {h h' : Heap} {z TI TO i1 i2 l1 l2 S : Addr} {xs ys : Array Value} {i : Nat} (O : ZlOff z TI TO i1 i2 l1 l2 S) (st : ZlSt h z TI TO i1 i2 l1 l2 xs ys S i) (hk : ∀ b o, b ≠ S → h.get? b = some o → h'.get? b = some o) : ZlSt h' z TI TO i1 i2 l1 l2 xs ys S i := by
  obtain ⟨hTI, h1, h2, hl1, hl2, hz⟩ := st
  refine ⟨hk _ _ (Nat.ne_of_lt O.TI) hTI, h1.at fun o e => hk _ o (Nat.ne_of_lt O.i1) e, h2.at fun o e => hk _ o (Nat.ne_of_lt O.i2) e, hl1.at fun o e => hk _ o (Nat.ne_of_lt O.l1) e, hl2.at fun o e => hk _ o (Nat.ne_of_lt O.l2) e, ?_⟩
  rcases hz with ⟨hz, a, b, hTO⟩ | ⟨T, f, oT, hz, hT, r1, r2, r3, r4⟩
  · exact .inl ⟨hk _ _ (Nat.ne_of_lt O.z) hz, a, b, hk _ _ (Nat.ne_of_lt O.TO) hTO⟩
  · exact .inr ⟨T, f, oT, hk _ _ (Nat.ne_of_lt O.z) hz, hk _ _ r4 hT, r1, r2, r3, r4⟩
section
variable {prog : Program} {w : World} {A : Around} {E : Value → Shared → Prop} {s : Shared}
theorem zl_item {z TI TO i1 i2 l1 l2 S : Addr} {xs ys : Array Value} {i : Nat} {x y : Value} {Q : Option Value → Shared → Prop} (D : ZipApart z TI TO i1 i2 l1 l2) (O : ZlOff z TI TO i1 i2 l1 l2 S) (st : ZlSt s.heap z TI TO i1 i2 l1 l2 xs ys S i) (hS : S < s.heap.objs.size)
    (ex : xs[i]? = some x) (ey : ys[i]? = some y)
    (hQ : ∀ h', ZlSt h' z TI TO i1 i2 l1 l2 xs ys S (i + 1) → IsPair h' s.heap.objs.size x y → h'.objs.size = s.heap.objs.size + 1 → (∀ c o, c ≠ z → c ≠ TO → c ≠ i1 → c ≠ i2 → s.heap.get? c = some o → h'.get? c = some o) → Q (some (.ref s.heap.objs.size)) { s with heap := h' }) :
    wpAny (model prog w) A (pyNext (.ref z)) Q E s := by
  obtain ⟨hTI, h1, h2, hl1, hl2, hz⟩ := st
  have lt : ∀ {c o}, s.heap.get? c = some o → s.heap.objs.size ≠ c := fun e => Nat.ne_of_gt (Heap.lt_size e)
  have n1 : s.heap.objs.size ≠ i1 := let ⟨_, e, _⟩ := h1; lt e
  have n2 : s.heap.objs.size ≠ i2 := let ⟨_, e, _⟩ := h2; lt e
  rcases hz with ⟨hz, a, b, hTO⟩ | ⟨T, f, oT, hz, hT, r1, r2, r3, r4⟩
  · refine wpAny_pyNext_zip_item D hz hTI hTO h1 h2 hl1 hl2 ex ey fun h' a1 a2 a3 a4 a5 a6 hk => ?_
    exact hQ h' ⟨hk _ _ D.TIz D.TITO D.TIi1 D.TIi2 hTI, a3, a4, hl1.at fun o e => hk _ o D.l1z D.l1TO D.l1i1 D.l1i2 e, hl2.at fun o e => hk _ o D.l2z D.l2TO D.l2i1 D.l2i2 e,
        .inr ⟨s.heap.objs.size, false, _, a1, a5, lt hz, n1, n2, Nat.ne_of_gt hS⟩⟩ a5 a6 hk
  · refine wpAny_pyNext_zip_item_held D hz hT hTI h1 h2 hl1 hl2 ex ey fun h' a1 a3 a4 a5 a6 hk => ?_
    exact hQ h' ⟨hk _ _ D.TIz D.TIi1 D.TIi2 hTI, a3, a4, hl1.at fun o e => hk _ o D.l1z D.l1i1 D.l1i2 e, hl2.at fun o e => hk _ o D.l2z D.l2i1 D.l2i2 e,
        .inr ⟨T, true, oT, a1, hk _ _ r1 r2 r3 hT, r1, r2, r3, r4⟩⟩ a5 a6 fun c o c1 _ c3 c4 e => hk c o c1 c3 c4 e
theorem zl_done {z TI TO i1 i2 l1 l2 S : Addr} {xs ys : Array Value} {i : Nat} {Q : Option Value → Shared → Prop} (hh : A.handled = none) (D : ZipApart z TI TO i1 i2 l1 l2) (st : ZlSt s.heap z TI TO i1 i2 l1 l2 xs ys S i) (hend : xs[i]? = none ∨ ys[i]? = none)
    (hQ : ∀ h', (∀ c o, c ≠ z → c ≠ TO → c ≠ i1 → c ≠ i2 → s.heap.get? c = some o → h'.get? c = some o) → Q none { s with heap := h' }) : wpAny (model prog w) A (pyNext (.ref z)) Q E s := by
  obtain ⟨hTI, h1, h2, hl1, hl2, hz⟩ := st
  rcases hz with ⟨hz, a, b, hTO⟩ | ⟨T, f, oT, hz, hT, r1, r2, r3, r4⟩
  · exact wpAny_pyNext_zip_end hh D hz hTI hTO h1 h2 hl1 hl2 hend fun h' hk => hQ h' fun c o c1 c2 c3 c4 e => hk c o c1 c2 c3 c4 e
  · exact wpAny_pyNext_zip_end_held hh D hz hT hTI h1 h2 hl1 hl2 hend fun h' hk => hQ h' fun c o c1 _ c3 c4 e => hk c o c1 c3 c4 e
end
structure ZlG (xs ys : Array Value) (lo : Addr) (h : Heap) (as : List Addr) : Prop where
  rise : as.Pairwise (· < ·)
  above : ∀ a ∈ as, lo < a
  pairs : ∀ (j : Nat) (a : Addr), as[j]? = some a → ∃ x y, xs[j]? = some x ∧ ys[j]? = some y ∧ IsPair h a x y
theorem ZlG.there {xs ys : Array Value} {lo : Addr} {h : Heap} {as : List Addr} (g : ZlG xs ys lo h as) {a : Addr} (ha : a ∈ as) : a < h.objs.size := by
  obtain ⟨j, hj⟩ := List.mem_iff_getElem?.mp ha
  obtain ⟨_, _, _, _, e⟩ := g.pairs j a hj
  exact Heap.lt_size e
section
variable {prog : Program} {w : World} {A : Around} {s : Shared} {R : Result → Shared → Prop} {z TI TO i1 i2 l1 l2 S : Addr} {xs ys : Array Value}
theorem zl_loop (hh : A.handled = none) (D : ZipApart z TI TO i1 i2 l1 l2) (O : ZlOff z TI TO i1 i2 l1 l2 S) {n : Nat} (hn : n = min xs.size ys.size) (hn2 : n ≤ sizeLine) (res : Value) {h₁ : Heap}
    (hR : ∀ h' tk acc c as, (∀ b o, b ≠ S → b ≠ z → b ≠ TO → b ≠ i1 → b ≠ i2 → h₁.get? b = some o → h'.get? b = some o) → h'.get? S = some { cls := .type "list", dict := none, data := .seq acc c, slots := #[] } → as.length = n → ZlG xs ys S h' as →
      acc.toList = as.map Value.ref → R (.ok (.ret res)) { s with heap := h', toks := tk }) :
    ∀ (k i : Nat) (h : Heap) (tk c : Nat) (acc : Array Value) (as : List Addr), n - i = k → i ≤ n → ZlSt h z TI TO i1 i2 l1 l2 xs ys S i → (∀ b o, b ≠ S → b ≠ z → b ≠ TO → b ≠ i1 → b ≠ i2 → h₁.get? b = some o → h.get? b = some o) →
      h.get? S = some { cls := .type "list", dict := none, data := .seq acc c, slots := #[] } → acc.toList = as.map Value.ref → as.length = i → ZlG xs ys S h as →
      codeAny (model prog w) A (.builtin "list.extend.loop" ⟨[.ref S, .ref z, res], []⟩) R { s with heap := h, toks := tk } := by
  intro k
  have offs : ∀ {b : Addr}, S ≤ b → b ≠ z ∧ b ≠ TO ∧ b ≠ i1 ∧ b ≠ i2 := fun hb => ⟨Nat.ne_of_gt (Nat.lt_of_lt_of_le O.z hb), Nat.ne_of_gt (Nat.lt_of_lt_of_le O.TO hb), Nat.ne_of_gt (Nat.lt_of_lt_of_le O.i1 hb), Nat.ne_of_gt (Nat.lt_of_lt_of_le O.i2 hb)⟩
  induction k with
  | zero =>
    intro i h tk c acc as hk hi hst hkeep hS hacc hal hG
    have hin : i = n := by omega
    have hend : xs[i]? = none ∨ ys[i]? = none := by
      rcases Nat.le_total xs.size ys.size with q | q
      · exact .inl (Array.getElem?_eq_none (by omega))
      · exact .inr (Array.getElem?_eq_none (by omega))
    refine codeAny_builtin PySem.F.entry_extend_loop ?_
    rw [Around.under_plainId PySem.F.plain_extend_loop _]
    show wpAny _ A.in1 (pyNext (.ref z) >>= _) _ _ _
    refine wpAny_bind (zl_done (s := { s with heap := h, toks := tk }) (A := A.in1) hh D hst hend fun h' he => ?_)
    obtain ⟨o1, o2, o3, o4⟩ := offs (Nat.le_refl S)
    refine wpAny_pure (hR h' tk acc c as (fun b o b1 b2 b3 b4 b5 e => he b o b2 b3 b4 b5 (hkeep b o b1 b2 b3 b4 b5 e)) (he S _ o1 o2 o3 o4 hS) (by omega) ⟨hG.rise, hG.above, fun j a hj => ?_⟩ hacc)
    obtain ⟨x, y, e1, e2, e3⟩ := hG.pairs j a hj
    obtain ⟨q1, q2, q3, q4⟩ := offs (Nat.le_of_lt (hG.above a (List.mem_of_getElem? hj)))
    exact ⟨x, y, e1, e2, he a _ q1 q2 q3 q4 e3⟩
  | succ k ih =>
    intro i h tk c acc as hk hi hst hkeep hS hacc hal hG
    have hlt : i < n := by omega
    have hix : i < xs.size := by omega
    have hiy : i < ys.size := by omega
    have ex := Array.getElem?_eq_getElem hix
    have ey := Array.getElem?_eq_getElem hiy
    have hsz : acc.size = i := by rw [← Array.length_toList, hacc, List.length_map, hal]
    have hSl : S < h.objs.size := Heap.lt_size hS
    refine codeAny_builtin PySem.F.entry_extend_loop ?_
    rw [Around.under_plainId PySem.F.plain_extend_loop _]
    show wpAny _ A.in1 (pyNext (.ref z) >>= _) _ _ _
    refine wpAny_bind (zl_item (s := { s with heap := h, toks := tk }) D O hst hSl ex ey fun h' hst' ht hz hkp => ?_)
    dsimp only at ht hz hkp ⊢
    obtain ⟨o1, o2, o3, o4⟩ := offs (Nat.le_refl S)
    have hS' := hkp S _ o1 o2 o3 o4 hS
    have up : ∀ b o, b ≠ S → h'.get? b = some o → (h'.update S (Obj.mapSeq (·.push (Value.ref h.objs.size)))).get? b = some o := fun b o hb e => (Heap.get?_update_other _ _ (Ne.symm hb)).trans e
    show wpAny _ A.in1 (updateSeq S (·.push (Value.ref h.objs.size)) >>= _) _ _ _
    refine wpAny_bind ?_
    refine wpAny_updateSeq hS' rfl (wpAny_pure ⟨plainId_quiet PySem.F.plain_extend_loop _, ih (i + 1) _ tk _ (acc.push (Value.ref h.objs.size)) (as ++ [h.objs.size]) (by omega) hlt (hst'.keep O up)
      (fun b o b1 b2 b3 b4 b5 e => up b o b1 (hkp b o b2 b3 b4 b5 (hkeep b o b1 b2 b3 b4 b5 e))) (Heap.get?_update_self _ hS' rfl) (by rw [Array.toList_push, hacc, List.map_append]; rfl) (by rw [List.length_append, hal]; rfl) ⟨?_, ?_, ?_⟩⟩) (by rw [hsz]; omega) (by show (acc.push (Value.ref h.objs.size)).size ≤ sizeLine + 1; rw [Array.size_push, hsz]; omega)
    · refine List.pairwise_append.mpr ⟨hG.rise, List.pairwise_singleton _ _, fun a ha b hb => ?_⟩
      rw [List.mem_singleton.mp hb]
      exact hG.there ha
    · intro a ha
      rcases List.mem_append.mp ha with ha | ha
      · exact hG.above a ha
      · rw [List.mem_singleton.mp ha]; exact hSl
    · intro j b hj
      rcases Nat.lt_trichotomy j as.length with h1 | h1 | h1
      · rw [List.getElem?_append_left h1] at hj
        obtain ⟨x', y', e1, e2, e3⟩ := hG.pairs j b hj
        have hb := hG.above b (List.mem_of_getElem? hj)
        obtain ⟨q1, q2, q3, q4⟩ := offs (Nat.le_of_lt hb)
        exact ⟨x', y', e1, e2, up b _ (Nat.ne_of_gt hb) (hkp b _ q1 q2 q3 q4 e3)⟩
      · subst h1
        have hb : h.objs.size = b := by simpa using hj
        subst hb
        exact ⟨_, _, by rw [hal]; exact ex, by rw [hal]; exact ey, up _ _ (Nat.ne_of_gt hSl) ht⟩
      · have hnone : (as ++ [h.objs.size])[j]? = none := List.getElem?_eq_none (by rw [List.length_append, List.length_singleton]; omega)
        rw [hnone] at hj; cases hj
end
theorem zl_no_len : typeLookup (.type "zip") "__len__" = pure none := am_miss_of_fast (by decide +kernel)
theorem zl_no_hint : typeLookup (.type "zip") "__length_hint__" = pure none := am_miss_of_fast (by decide +kernel)
section
variable {prog : Program} {w : World} {A : Around} {E : Value → Shared → Prop} {s : Shared} {z TI TO i1 i2 l1 l2 S : Addr} {xs ys : Array Value}
theorem zl_hint (hT : s.TypeIs (.ref z) "zip") {Q : Bool → Shared → Prop} (h : Q true s) : wpAny (model prog w) A (Builtin.List.listLengthHint (.ref z)) Q E s := by
  unfold Builtin.List.listLengthHint
  refine wpAny_bind (wpAny_specialOf hT zl_no_len ?_)
  simp only [Option.isSome_none, Bool.false_eq_true, if_false]
  refine wpAny_ite_split (fun hab => absurd hab (by decide)) (fun _ => ?_)
  refine wpAny_bind (wpAny_specialOf hT zl_no_hint ?_)
  exact wpAny_pure h
theorem zl_extend {R : Result → Shared → Prop} {n : Nat} (hh : A.handled = none) (D : ZipApart z TI TO i1 i2 l1 l2) (O : ZlOff z TI TO i1 i2 l1 l2 S) (hn : n = min xs.size ys.size) (hn2 : n ≤ sizeLine) (res : Value) (c₀ : Nat) (hz : IsZip s.heap z TI TO .none)
    (hst : ZlSt s.heap z TI TO i1 i2 l1 l2 xs ys S 0) (hS : s.heap.get? S = some { cls := .type "list", data := .seq #[] c₀ })
    (hR : ∀ h' tk acc c as, (∀ b o, b ≠ S → b ≠ z → b ≠ TO → b ≠ i1 → b ≠ i2 → s.heap.get? b = some o → h'.get? b = some o) → h'.get? S = some { cls := .type "list", dict := none, data := .seq acc c, slots := #[] } → as.length = n → ZlG xs ys S h' as →
      acc.toList = as.map Value.ref → R (.ok (.ret res)) { s with heap := h', toks := tk }) :
    wpAny (model prog w) A.in1 (Builtin.List.listExtendWith (.ref S) (.ref z) res)
      (fun fin s' => match fin with | .done f => R (.ok f) s' | .again c' => c'.quiet = true ∧ codeAny (model prog w) A c' R s') (fun e s' => R (.error e) s') s := by
  have key : ∀ (h : Heap) (c₁ tk : Nat), (∀ b o, b ≠ S → s.heap.get? b = some o → h.get? b = some o) →
      h.get? S = some { cls := .type "list", data := .seq #[] c₁ } → codeAny (model prog w) A (.builtin "list.extend.loop" ⟨[.ref S, .ref z, res], []⟩) R { s with heap := h, toks := tk } := by
    intro h c₁ tk hk hS₁
    exact zl_loop hh D O hn hn2 res hR n 0 h tk c₁ #[] [] (Nat.sub_zero _) (Nat.zero_le _) (hst.keep O hk) (fun b o hb _ _ _ _ e => hk b o hb e) hS₁ rfl rfl ⟨List.Pairwise.nil, (fun _ ha => nomatch ha), (fun j a hj => by simp at hj)⟩
  unfold Builtin.List.listExtendWith
  refine wpAny_bind (wpAny_typeOf (T := "zip") ⟨_, hz, rfl⟩ ?_)
  have h1 : Builtin.List.listSameRef (.ref S) (.ref z) = false := by simp [Builtin.List.listSameRef, Nat.ne_of_gt O.z]
  have h2 : (Value.type "zip" == Value.type "list") = false := by decide
  have h3 : (Value.type "zip" == Value.type "tuple") = false := by decide
  simp only [h1, h2, h3, Bool.or_false, Bool.false_eq_true, if_false]
  refine wpAny_bind (wpAny_pyIter_zip hz ?_)
  refine wpAny_bind (wpAny_holding (zl_hint ⟨_, hz, rfl⟩ ?_))
  refine wpAny_ite_split (fun _ => ?_) (fun _ => wpAny_pure ⟨plainId_quiet PySem.F.plain_extend_loop _, key _ c₀ _ (fun b o _ e => e) hS⟩)
  refine wpAny_bind (wpAny_rule ?_)
  refine wpAny_bind ?_
  show wpAny _ _ (updateSeq S (·.push .none) >>= fun _ => updateSeq S (·.pop)) _ _ _
  refine wpAny_bind (wpAny_updateSeq hS rfl ?_)
  have hS₂ := Heap.get?_update_self (Obj.mapSeq (·.push Value.none)) hS rfl
  refine wpAny_updateSeq (hz := by seq_fits) hS₂ rfl ?_
  have hS₃ := Heap.get?_update_self (Obj.mapSeq (·.pop)) hS₂ rfl
  refine wpAny_pure ⟨plainId_quiet PySem.F.plain_extend_loop _, key _ _ _ (fun b o hb e => ?_) hS₃⟩
  exact (Heap.get?_update_other _ _ (Ne.symm hb)).trans ((Heap.get?_update_other _ _ (Ne.symm hb)).trans e)
theorem zl_init {R : Result → Shared → Prop} {n : Nat} (hh : A.handled = none) (D : ZipApart z TI TO i1 i2 l1 l2) (O : ZlOff z TI TO i1 i2 l1 l2 S) (hn : n = min xs.size ys.size) (hn2 : n ≤ sizeLine) (hz : IsZip s.heap z TI TO .none)
    (hst : ZlSt s.heap z TI TO i1 i2 l1 l2 xs ys S 0) (hS : s.heap.get? S = some { cls := .type "list", data := .seq #[] })
    (hR : ∀ h' tk acc c as, (∀ b o, b ≠ S → b ≠ z → b ≠ TO → b ≠ i1 → b ≠ i2 → s.heap.get? b = some o → h'.get? b = some o) → h'.get? S = some { cls := .type "list", dict := none, data := .seq acc c, slots := #[] } → as.length = n → ZlG xs ys S h' as →
      acc.toList = as.map Value.ref → R (.ok (.ret .none)) { s with heap := h', toks := tk }) :
    wpAny (model prog w) A.in1 (Builtin.«list.__init__» ⟨[.ref S, .ref z], []⟩)
      (fun fin s' => match fin with | .done f => R (.ok f) s' | .again c' => c'.quiet = true ∧ codeAny (model prog w) A c' R s') (fun e s' => R (.error e) s') s := by
  show wpAny _ _ (do let old ← Builtin.List.listItems (.ref S); Builtin.List.listUpdate (.ref S) (fun _ => #[]); letGo old.toList.reverse; Builtin.List.listExtendWith (.ref S) (.ref z) .none) _ _ s
  refine wpAny_bind ?_
  unfold Builtin.List.listItems
  refine wpAny_bind (wpAny_seqItems hS rfl (wpAny_pure ?_))
  show wpAny _ _ (updateSeq S (fun _ => #[]) >>= fun _ => letGo (#[] : Array Value).toList.reverse >>= fun _ => Builtin.List.listExtendWith (.ref S) (.ref z) .none) _ _ s
  refine wpAny_bind (wpAny_updateSeq hS rfl ?_)
  have hS₂ := Heap.get?_update_self (Obj.mapSeq (fun _ => (#[] : Array Value))) hS rfl
  have oth : ∀ b o, b ≠ S → s.heap.get? b = some o → (s.heap.update S (Obj.mapSeq (fun _ => (#[] : Array Value)))).get? b = some o :=
    fun b o hb e => (Heap.get?_update_other _ _ (Ne.symm hb)).trans e
  refine wpAny_bind (wpAny_letGo ?_)
  refine zl_extend hh D O hn hn2 .none _ (oth _ _ (Nat.ne_of_lt O.z) hz) (hst.keep O oth) hS₂ fun h' tk acc c as hk hS' hl hG hacc => ?_
  exact hR h' tk acc c as (fun b o hb b2 b3 b4 b5 e => hk b o hb b2 b3 b4 b5 (oth b o hb e)) hS' hl hG hacc
theorem zl_call {Q : Value → Shared → Prop} {n : Nat} (hh : A.handled = none) (D : ZipApart z TI TO i1 i2 l1 l2) (O : ZlOff z TI TO i1 i2 l1 l2 s.heap.objs.size) (hn : n = min xs.size ys.size) (hn2 : n ≤ sizeLine) (hz : IsZip s.heap z TI TO .none)
    (hTI : IsPair s.heap TI (.ref i1) (.ref i2)) (hTO : ∃ a b, IsPair s.heap TO a b) (h1 : s.heap.IsListIter i1 l1 0) (h2 : s.heap.IsListIter i2 l2 0) (hl1 : s.heap.IsList l1 xs) (hl2 : s.heap.IsList l2 ys)
    (hQ : ∀ h' tk acc c as, (∀ b o, b ≠ z → b ≠ TO → b ≠ i1 → b ≠ i2 → s.heap.get? b = some o → h'.get? b = some o) → h'.get? s.heap.objs.size = some { cls := .type "list", dict := none, data := .seq acc c, slots := #[] } → as.length = n → ZlG xs ys s.heap.objs.size h' as →
      acc.toList = as.map Value.ref → Q (.ref s.heap.objs.size) { s with heap := h', toks := tk }) :
    wpAny (model prog w) A (call (.type "list") [.ref z]) Q E s := by
  refine callType_codes (Q₁ := fun obj s₁ => obj = .ref s.heap.objs.size ∧ s₁ = { s with heap := s.heap.push { cls := .type "list", data := .seq #[] } }) PySem.F.called_list (PySem.F.typeCall_list_1 _) PySem.F.entry_list_init
    (code_list_new _ ⟨rfl, rfl⟩) fun obj s₁ h₁ => ?_
  obtain ⟨rfl, rfl⟩ := h₁
  have hS : (s.heap.push { cls := .type "list", data := .seq #[] }).get? s.heap.objs.size = some { cls := .type "list", data := .seq #[] } := Heap.get?_push_size _ rfl
  have up : ∀ b o, s.heap.get? b = some o → (s.heap.push { cls := .type "list", data := .seq #[] }).get? b = some o := fun b o e => Heap.get?_push_of_some _ e
  obtain ⟨a, b, hTO⟩ := hTO
  have st : ZlSt (s.heap.push { cls := .type "list", data := .seq #[] }) z TI TO i1 i2 l1 l2 xs ys s.heap.objs.size 0 := ⟨up _ _ hTI, h1.at fun o e => up _ o e, h2.at fun o e => up _ o e, hl1.at fun o e => up _ o e, hl2.at fun o e => up _ o e, .inl ⟨up _ _ hz, a, b, up _ _ hTO⟩⟩
  refine ⟨⟨_, hS, rfl⟩, PySem.F.args_list_init_2 _ _, zl_init (A := A.in1) hh D O hn hn2 (up _ _ hz) st hS (fun h' tk acc c as hk hS' hl hG hacc => ?_)⟩
  exact ⟨rfl, hQ h' tk acc c as (fun b o b2 b3 b4 b5 e => hk b o (Nat.ne_of_lt (Heap.lt_size e)) b2 b3 b4 b5 (up b o e)) hS' hl hG hacc⟩
end
end Od
namespace Od
open PySem PySem.Spec PyProof.Rows L2 Evl
/-- the tuples tracked at their addresses -/
def putV : Hp → List Addr → List (V × V) → Hp
  | H, a :: as, p :: ps => putV (upd H a (.tup [p.1, p.2])) as ps
  | H, _, _ => H
theorem putV_off {b : Addr} : ∀ (as : List Addr) (ps : List (V × V)) (H : Hp), b ∉ as → putV H as ps b = H b
  | [], _, _, _ => rfl
  | _ :: _, [], _, _ => rfl
  | a :: as, p :: ps, H, h => by
    show putV (upd H a (.tup [p.1, p.2])) as ps b = H b
    rw [putV_off as ps _ (fun z => h (List.mem_cons_of_mem _ z)), upd_ne (fun z => h (by rw [z]; exact List.mem_cons_self))]
theorem putV_at : ∀ (as : List Addr) (ps : List (V × V)) (H : Hp), as.length = ps.length → as.Nodup → Paired (fun (t : Addr) (p : V × V) => putV H as ps t = some (.tup [p.1, p.2])) as ps
  | [], [], _, _, _ => .nil
  | [], _ :: _, _, h, _ => by cases h
  | _ :: _, [], _, h, _ => by cases h
  | a :: as, p :: ps, H, h, hn => by
    have hn' := List.nodup_cons.mp hn
    have ih := putV_at as ps (upd H a (.tup [p.1, p.2])) (Nat.succ.inj h) hn'.2
    refine .cons ?_ ih
    show putV (upd H a (.tup [p.1, p.2])) as ps a = some (.tup [p.1, p.2])
    rw [putV_off as ps _ hn'.1, upd_same]
theorem zip_get {xs ys : List V} {j : Nat} {q : V × V} (h : (xs.zip ys)[j]? = some q) : xs[j]? = some q.1 ∧ ys[j]? = some q.2 := by
  rw [List.getElem?_zip_eq_some] at h
  exact h
section
variable {X : Cx}
theorem zl_laid {pins : List (Addr × Obj)} {σ : L2.St} {H : Hp} {s : Shared} {h' : Heap} {tk : Nat} {xs ys : List V} {its its2 : List Value} {acc : Array Value} {c : Nat} {as : List Addr} {S : Addr} (I : Inv X pins σ H s) (rv : Vals xs its) (rv2 : Vals ys its2) (hz : xs.length ≤ sizeLine) (hSz : s.heap.objs.size ≤ S)
    (hk : ∀ b o, s.heap.get? b = some o → h'.get? b = some o) (hS : h'.get? S = some { cls := .type "list", dict := none, data := .seq acc c, slots := #[] }) (hl : as.length = min its.length its2.length) (hG : ZlG its.toArray its2.toArray S h' as) (hacc : acc.toList = as.map Value.ref) :
    ∃ H' : Hp, Ex H H' ∧ H S = none ∧ H' S = some (.lst (as.map V.ref)) ∧ Paired (fun (t : Addr) (q : V × V) => H' t = some (.tup [q.1, q.2])) as (xs.zip ys) ∧ Inv X pins σ H' { s with heap := h', toks := tk } := by
  have l1 := rv.length
  have l2 := rv2.length
  have hSn : S ∉ as := fun z => Nat.lt_irrefl _ (hG.above _ z)
  have nd : as.Nodup := List.Pairwise.imp (fun {a b} (h : a < b) => Nat.ne_of_lt h) hG.rise
  have new : ∀ t ∈ as, H t = none := fun t ht => I.hok.fresh (Nat.le_trans hSz (Nat.le_of_lt (hG.above t ht)))
  have newS : H S = none := I.hok.fresh hSz
  have hlz : as.length = (xs.zip ys).length := by rw [List.length_zip, hl]; omega
  have atP := putV_at as (xs.zip ys) (upd H S (.lst (as.map V.ref))) hlz nd
  have off : ∀ b, b ∉ as → b ≠ S → putV (upd H S (.lst (as.map V.ref))) as (xs.zip ys) b = H b := fun b h1 h2 => by rw [putV_off as (xs.zip ys) _ h1, upd_ne h2]
  have low : ∀ b o, s.heap.get? b = some o → b ∉ as ∧ b ≠ S := fun b o e => ⟨fun z => absurd (Heap.lt_size e) (Nat.not_lt.mpr (Nat.le_trans hSz (Nat.le_of_lt (hG.above b z)))), fun z => absurd (Heap.lt_size e) (Nat.not_lt.mpr (by rw [z]; exact hSz))⟩
  have kp : ∀ b u, H b = some u → (putV (upd H S (.lst (as.map V.ref))) as (xs.zip ys)) b = some u := fun b u e => by
    rw [off b (fun z => by rw [new b z] at e; cases e) (fun z => by rw [z, newS] at e; cases e)]
    exact e
  have eS : putV (upd H S (.lst (as.map V.ref))) as (xs.zip ys) S = some (.lst (as.map V.ref)) := by rw [putV_off as (xs.zip ys) _ hSn, upd_same]
  refine ⟨putV (upd H S (.lst (as.map V.ref))) as (xs.zip ys), kp, newS, eS, atP, ?_⟩
  refine I.call' (ch := []) rfl ⟨fun b o q _ _ _ => hk b o q, fun b o q _ _ _ => ⟨o.slots, hk b o q⟩, fun b o q n _ => ?_, fun b o q _ => ⟨o, hk b o q⟩, fun b xs q => kp b _ q, fun b o u q => kp b _ q, fun b ps q => ⟨#[], by rw [kp b _ q]; simp⟩⟩ (fun b u q => ?_) I.bare fun b z => by simp at z
  · obtain ⟨z1, z2⟩ := low b o q
    rw [off b z1 z2]
    exact n
  · by_cases hb : b ∈ as
    · obtain ⟨j, pk, e1, e2, e3⟩ := LiI.paired_ix atP hb
      rw [e3] at q
      cases q
      obtain ⟨x, y, f1, f2, f3⟩ := hG.pairs j b e1
      obtain ⟨g1, g2⟩ := zip_get e2
      obtain ⟨u, hu, ru⟩ := rv.get g1
      obtain ⟨u2, hu2, ru2⟩ := rv2.get g2
      have ex : x = u := by
        rw [List.getElem?_toArray, hu] at f1
        exact (Option.some.inj f1).symm
      have ey : y = u2 := by
        rw [List.getElem?_toArray, hu2] at f2
        exact (Option.some.inj f2).symm
      subst ex ey
      exact ⟨by show 2 ≤ sizeLine; decide, [x, y], .cons ru (.cons ru2 .nil), ⟨_, f3, rfl, _, rfl⟩⟩
    · by_cases hb2 : b = S
      · rw [hb2] at q ⊢
        rw [eS] at q
        cases q
        refine ⟨by rw [List.length_map]; omega, acc.toList, c, by rw [hacc]; exact LiI.vals_refs as, ?_⟩
        rw [Array.toArray_toList]
        exact hS
      · rw [off b hb hb2] at q
        exact (I.hok b u q).stay (fun d v _ y => hk d v y) (fun d y => kp d _ y) fun d xs y => kp d _ y
def tListZip (K : PySem.W.Frag) (ta : TA) : TE := fun σ H Q => ta σ H fun vs H1 => ∃ a b xs ys, vs = [.ref a, .ref b] ∧ SqL K H1 a xs ∧ SqL K H1 b ys ∧
  ∀ (H' : Hp) (p : Addr) (ts : List Addr), Ex H1 H' → H1 p = none → H' p = some (.lst (ts.map V.ref)) → Paired (fun (t : Addr) (q : V × V) => H' t = some (.tup [q.1, q.2])) ts (xs.zip ys) → Q (.ref p) H'
theorem pe_listZip {e e2 : Expr} {ta : TA} {p p2 pos pos2 : Pos} (K : PySem.W.Frag) (hc : X.calm = true) (hg : Gl X "list") (hm : X.mg "list" = none) (hv : bootBuiltins "list" = some (.type "list")) (hg2 : Gl X "zip") (hm2 : X.mg "zip" = none) (ha : PA X [e, e2] ta)
    (hs2 : starEach [e, e2] X.env = (false, eval e X.env) :: starEach [e2] X.env := by rfl) (hpl : (backTo pos2 (starEach [e2] X.env)).any (·.1) = false := by rfl)
    (hs : starEach [.Call (.Name "zip" p2) [e, e2] [] pos2] X.env = (false, eval (.Call (.Name "zip" p2) [e, e2] [] pos2) X.env) :: starEach [] X.env := by rfl) (hK : X.K = K := by rfl) :
    PE X (.Call (.Name "list" p) [.Call (.Name "zip" p2) [e, e2] [] pos2] [] pos) (tListZip K ta) := by
  subst hK
  refine ⟨fun pins s σ H Q I hq => ?_⟩
  refine wpAny_Call_Name_kw (ld_blt I hg hm hv ?_)
  refine PyProof.Rows.callWith_type1 ?_ hs rfl
  rw [hs]
  show wpAny _ _ (spliced ((false, eval (.Call (.Name "zip" p2) [e, e2] [] pos2) X.env) :: backTo pos (starEach [] X.env))) _ _ s
  refine Calls.spliced_cons ?_
  refine Call_ (ld_blt I hg2 hm2 PyProof.Rows.boot_zip (PyProof.Rows.callWith_type1 (thn (ha.run pos2 pins s σ H _ I hq) fun us s1 ⟨vs, H1, I1, r1, q1⟩ => ?_) hs2 hpl))
  obtain ⟨a, b, xs, ys, ex, hqx, hqy, q⟩ := q1
  subst ex
  cases r1 with
  | cons r rr =>
    cases rr with
    | cons r' rr =>
      cases rr
      cases r
      cases r'
      obtain ⟨its, rv, p1, z1⟩ := I1.list hqx
      obtain ⟨its2, rv2, p2, z2⟩ := I1.list hqy
      have la : a < s1.heap.objs.size := p1.lt
      have lb : b < s1.heap.objs.size := p2.lt
      have lx := rv.length
      refine call_zip_2 p1.isList p2.isList fun h' hz hTI hTO h1 h2 hsz hk => ?_
      refine Calls.spliced_nil ?_
      have D := PySem.W.ktu_apart s1.heap.objs.size a b la lb
      refine zl_call (s := { s1 with heap := h' }) (n := min its.length its2.length) (xs := its.toArray) (ys := its2.toArray) (I1.ok.hd hc) D ?_ (by rw [List.size_toArray, List.size_toArray]) (by omega) hz hTI ⟨_, _, hTO⟩ h1 h2 (p1.isList.at fun o e => hk _ o e) (p2.isList.at fun o e => hk _ o e) fun h'' tk acc c as hk2 hS hl hG hacc => ?_
      · show ZlOff _ _ _ _ _ _ _ h'.objs.size
        rw [hsz]
        exact ⟨Nat.add_lt_add_left (by decide) _, Nat.add_lt_add_left (by decide) _, Nat.add_lt_add_left (by decide) _, Nat.lt_add_of_pos_right (by decide), Nat.add_lt_add_left (by decide) _, Nat.lt_of_lt_of_le la (Nat.le_add_right _ _), Nat.lt_of_lt_of_le lb (Nat.le_add_right _ _)⟩
      · have low : ∀ b o, s1.heap.get? b = some o → h''.get? b = some o := fun b o e => by
          have hb := Heap.lt_size e
          have ne : ∀ k, b ≠ s1.heap.objs.size + k := fun k => Nat.ne_of_lt (Nat.lt_of_lt_of_le hb (Nat.le_add_right _ _))
          exact hk2 b o (ne 4) (ne 3) (Nat.ne_of_lt hb) (ne 1) (hk b o e)
        obtain ⟨H', k1, k2, k3, k4, J⟩ := zl_laid (S := h'.objs.size) (tk := tk) I1 rv rv2 (by omega) (by rw [hsz]; exact Nat.le_add_right _ _) low hS hl hG hacc
        exact ⟨.ref _, H', J, rfl, q H' _ as k1 k2 k3 k4⟩
end
end Od
namespace Od
open PySem PySem.Spec PyProof.Rows L2 Evl
def evs {α : Type} : List α → List α
  | a :: _ :: t => a :: evs t
  | [a] => [a]
  | [] => []
def ods {α : Type} : List α → List α
  | _ :: b :: t => b :: ods t
  | _ => []
theorem evs_pick {α : Type} : ∀ l : List α, (List.range ((l.length + 1) / 2)).filterMap (fun k => l[2 * k]?) = evs l
  | [] => by simp [evs]
  | [a] => by simp [evs]
  | a :: b :: t => by
    have ih := evs_pick t
    have e : ((a :: b :: t).length + 1) / 2 = (t.length + 1) / 2 + 1 := by
      rw [List.length_cons, List.length_cons]
      omega
    rw [e, List.range_succ_eq_map, List.filterMap_cons]
    show a :: List.filterMap (fun k => (a :: b :: t)[2 * k]?) (List.map Nat.succ (List.range ((t.length + 1) / 2))) = a :: evs t
    rw [List.filterMap_map, ← ih]
    rfl
theorem ods_pick {α : Type} : ∀ l : List α, (List.range (l.length / 2)).filterMap (fun k => l[2 * k + 1]?) = ods l
  | [] => by simp [ods]
  | [a] => by simp [ods]
  | a :: b :: t => by
    have ih := ods_pick t
    have e : (a :: b :: t).length / 2 = t.length / 2 + 1 := by
      rw [List.length_cons, List.length_cons]
      omega
    rw [e, List.range_succ_eq_map, List.filterMap_cons]
    show b :: List.filterMap (fun k => (a :: b :: t)[2 * k + 1]?) (List.map Nat.succ (List.range (t.length / 2))) = b :: ods t
    rw [List.filterMap_map, ← ih]
    rfl
theorem evs_sl (its : List Value) : slicePick its.toArray none none (some 2) = (evs its).toArray := by
  unfold slicePick
  have b : sliceBounds none none (some 2) its.toArray.size = (0, (its.length : Int), 2) := rfl
  rw [b, ← evs_pick its]
  have r : sliceRange (0 : Int) (its.length : Int) 2 = (List.range ((its.length + 1) / 2)).map fun (k : Nat) => 2 * k := by
    unfold sliceRange
    have c : (if (2 : Int) > 0 then (if (0 : Int) < (its.length : Int) then ((its.length : Int) - 0 + 2 - 1) / 2 else 0) else (if (0 : Int) > (its.length : Int) then ((0 : Int) - its.length - 2 - 1) / (-2) else 0)).toNat = (its.length + 1) / 2 := by
      rw [if_pos (by decide)]
      split <;> omega
    simp only [c]
    refine List.map_congr_left fun k _ => ?_
    omega
  show (List.filterMap (its.toArray[·]?) (sliceRange (0 : Int) (its.length : Int) 2)).toArray = _
  rw [r, List.filterMap_map]
  congr 2
  funext k
  show its.toArray[2 * k]? = its[2 * k]?
  rw [List.getElem?_toArray]
theorem ods_sl (its : List Value) : slicePick its.toArray (some 1) none (some 2) = (ods its).toArray := by
  unfold slicePick
  have b : sliceBounds (some 1) none (some 2) its.toArray.size = (max 0 (min 1 (its.length : Int)), (its.length : Int), 2) := rfl
  rw [b, ← ods_pick its]
  have r : sliceRange (max 0 (min 1 (its.length : Int))) (its.length : Int) 2 = (List.range (its.length / 2)).map fun (k : Nat) => 2 * k + 1 := by
    unfold sliceRange
    have c : (if (2 : Int) > 0 then (if max 0 (min 1 (its.length : Int)) < (its.length : Int) then ((its.length : Int) - max 0 (min 1 (its.length : Int)) + 2 - 1) / 2 else 0) else (if max 0 (min 1 (its.length : Int)) > (its.length : Int) then (max 0 (min 1 (its.length : Int)) - its.length - 2 - 1) / (-2) else 0)).toNat = its.length / 2 := by
      rw [if_pos (by decide)]
      split <;> omega
    simp only [c]
    refine List.map_congr_left fun k hk => ?_
    have := List.mem_range.mp hk
    omega
  show (List.filterMap (its.toArray[·]?) (sliceRange (max 0 (min 1 (its.length : Int))) (its.length : Int) 2)).toArray = _
  rw [r, List.filterMap_map]
  congr 2
  funext k
  show its.toArray[2 * k + 1]? = its[2 * k + 1]?
  rw [List.getElem?_toArray]
theorem vals_evs : ∀ {xs : List V} {its : List Value}, Vals xs its → Vals (evs xs) (evs its) ∧ Vals (ods xs) (ods its)
  | [], [], _ => ⟨.nil, .nil⟩
  | [x], [v], .cons r _ => ⟨.cons r .nil, .nil⟩
  | x :: y :: t, v :: u :: w, .cons r (.cons r' k) => ⟨.cons r (vals_evs k).1, .cons r' (vals_evs k).2⟩
theorem evs_len {α : Type} : ∀ l : List α, (evs l).length ≤ l.length ∧ (ods l).length ≤ l.length
  | [] => ⟨Nat.le_refl _, Nat.le_refl _⟩
  | [a] => ⟨Nat.le_refl _, Nat.zero_le _⟩
  | a :: b :: t => by
    have := evs_len t
    simp only [evs, ods, List.length_cons]
    omega
theorem zip_pairs : ∀ {es : List Int}, es.length % 2 = 0 → (evs (es.map V.int)).zip (ods (es.map V.int)) = (pairs es).map fun q => (V.int q.1, V.int q.2)
  | [], _ => rfl
  | [_], h => by simp at h
  | a :: b :: t, h => by
    have ih := zip_pairs (es := t) (by simp only [List.length_cons] at h; omega)
    show (V.int a, V.int b) :: (evs (t.map V.int)).zip (ods (t.map V.int)) = (V.int a, V.int b) :: (pairs t).map _
    rw [ih]
section
variable {X : Cx}
def tEv (K : PySem.W.Frag) (te : TE) : TE := fun σ H Q => te σ H fun x H1 => ∃ a xs, x = .ref a ∧ SqL K H1 a xs ∧ ∀ p, H1 p = none → Q (.ref p) (upd H1 p (.lst (evs xs)))
def tOd (K : PySem.W.Frag) (te : TE) : TE := fun σ H Q => te σ H fun x H1 => ∃ a xs, x = .ref a ∧ SqL K H1 a xs ∧ ∀ p, H1 p = none → Q (.ref p) (upd H1 p (.lst (ods xs)))
theorem pe_ev {e : Expr} {te : TE} {k : Nat} {p1 p3 pos : Pos} (K : PySem.W.Frag) (he : PE X e te) (hK : X.K = K := by rfl) : PE X (.Subscript e (.Slice none none (some (.Constant (.int 2) k p1)) p3) pos) (tEv K te) := by
  subst hK
  refine ⟨fun pins s σ H Q I h => ?_⟩
  refine Subscript_ (thn (he.run pins s σ H _ I h) fun v s1 ⟨x, H1, I1, r1, q1⟩ => ?_)
  obtain ⟨a, xs, ex, hx, q⟩ := q1
  subst ex
  cases r1
  have hst : PO X (some (.Constant (.int 2) k p1)) (tPart (tC (.int 2))) := po_some pe_int
  refine wpAny_Slice (thn (po_none.run pins s1 σ H1 (fun o H2 => o = none ∧ H2 = H1) I1 ⟨rfl, rfl⟩) fun vl s2 ⟨l, H2, I2, pl, el, e2⟩ => ?_)
  subst el e2
  refine thn (po_none.run pins s2 σ H2 (fun o H3 => o = none ∧ H3 = H2) I2 ⟨rfl, rfl⟩) fun vu s3 ⟨u, H3, I3, pu, eu, e3⟩ => ?_
  subst eu e3
  refine thn (hst.run pins s3 σ H3 (fun o H4 => o = some 2 ∧ H4 = H3) I3 ⟨2, rfl, rfl, rfl⟩) fun vs s4 ⟨o, H4, I4, ps, eo, e4⟩ => ?_
  subst eo e4
  have I5 : Inv X pins σ H4 { s4 with heap := s4.heap.push { cls := .type "slice", data := .fields #[vl, vu, vs] } } := I4.kept (t' := s4.toks) fun b ob q => Heap.get?_push_of_some _ q
  obtain ⟨its, r, ht, hz⟩ := I5.list hx
  have hlen := r.length
  show wpAny (model X.prog X.w) X.A (subscriptTail e (.Slice none none (some (.Constant (.int 2) k p1)) p3) (.ref a) (.ref s4.heap.objs.size)) (EP X pins σ Q) X.xe { s4 with heap := s4.heap.push { cls := .type "slice", data := .fields #[vl, vu, vs] } }
  refine tail_any (ops := [.ref a, .ref s4.heap.objs.size]) ht.isList.typeIs (PySem.slot_list_getitem.lookup) ?_ (by with_unfolding_all rfl)
  refine wpAny_getItem_list_slice ht.isList (Heap.IsSliceOf.new _ vl vu vs) pl pu ps (by decide) ?_ (by rw [List.size_toArray]; omega)
  rw [evs_sl]
  refine ⟨.ref _, _, I5.laid (t' := s4.toks) (o := .lst (evs xs)) (fun b ob q => Heap.get?_push_of_some _ q) (Nat.le_refl _) ?_, rfl, q _ (I5.hok.fresh (Nat.le_refl _))⟩
  exact ⟨Nat.le_trans (evs_len xs).1 hz, _, 0, (vals_evs r).1, Heap.get?_push_size _ rfl⟩
theorem pe_od {e : Expr} {te : TE} {k k2 : Nat} {p0 p1 p3 pos : Pos} (K : PySem.W.Frag) (he : PE X e te) (hK : X.K = K := by rfl) : PE X (.Subscript e (.Slice (some (.Constant (.int 1) k2 p0)) none (some (.Constant (.int 2) k p1)) p3) pos) (tOd K te) := by
  subst hK
  refine ⟨fun pins s σ H Q I h => ?_⟩
  refine Subscript_ (thn (he.run pins s σ H _ I h) fun v s1 ⟨x, H1, I1, r1, q1⟩ => ?_)
  obtain ⟨a, xs, ex, hx, q⟩ := q1
  subst ex
  cases r1
  have hst : PO X (some (.Constant (.int 2) k p1)) (tPart (tC (.int 2))) := po_some pe_int
  have hlo : PO X (some (.Constant (.int 1) k2 p0)) (tPart (tC (.int 1))) := po_some pe_int
  refine wpAny_Slice (thn (hlo.run pins s1 σ H1 (fun o H2 => o = some 1 ∧ H2 = H1) I1 ⟨1, rfl, rfl, rfl⟩) fun vl s2 ⟨l, H2, I2, pl, el, e2⟩ => ?_)
  subst el e2
  refine thn (po_none.run pins s2 σ H2 (fun o H3 => o = none ∧ H3 = H2) I2 ⟨rfl, rfl⟩) fun vu s3 ⟨u, H3, I3, pu, eu, e3⟩ => ?_
  subst eu e3
  refine thn (hst.run pins s3 σ H3 (fun o H4 => o = some 2 ∧ H4 = H3) I3 ⟨2, rfl, rfl, rfl⟩) fun vs s4 ⟨o, H4, I4, ps, eo, e4⟩ => ?_
  subst eo e4
  have I5 : Inv X pins σ H4 { s4 with heap := s4.heap.push { cls := .type "slice", data := .fields #[vl, vu, vs] } } := I4.kept (t' := s4.toks) fun b ob q => Heap.get?_push_of_some _ q
  obtain ⟨its, r, ht, hz⟩ := I5.list hx
  have hlen := r.length
  show wpAny (model X.prog X.w) X.A (subscriptTail e (.Slice (some (.Constant (.int 1) k2 p0)) none (some (.Constant (.int 2) k p1)) p3) (.ref a) (.ref s4.heap.objs.size)) (EP X pins σ Q) X.xe { s4 with heap := s4.heap.push { cls := .type "slice", data := .fields #[vl, vu, vs] } }
  refine tail_any (ops := [.ref a, .ref s4.heap.objs.size]) ht.isList.typeIs (PySem.slot_list_getitem.lookup) ?_ (by with_unfolding_all rfl)
  refine wpAny_getItem_list_slice ht.isList (Heap.IsSliceOf.new _ vl vu vs) pl pu ps (by decide) ?_ (by rw [List.size_toArray]; omega)
  rw [ods_sl]
  refine ⟨.ref _, _, I5.laid (t' := s4.toks) (o := .lst (ods xs)) (fun b ob q => Heap.get?_push_of_some _ q) (Nat.le_refl _) ?_, rfl, q _ (I5.hok.fresh (Nat.le_refl _))⟩
  exact ⟨Nat.le_trans (evs_len xs).2 hz, _, 0, (vals_evs r).2, Heap.get?_push_size _ rfl⟩
end
end Od
namespace Od
open PySem L2 Evl
theorem kpiE {X : Cx} {e : Expr} {ta : TA} {p pos tpos : Pos} {elts : List Expr} {kk : Nat} (K : PySem.W.Frag) (hg : Gl X "enumerate") (hm : X.mg "enumerate" = none) (ha : PA X [e] ta) (hs : starEach [e] X.env = [(false, eval e X.env)] := by rfl) (h : X.K = K := by rfl) :
    PI X (.Tuple elts kk tpos) (.Call (.Name "enumerate" p) [e] [] pos) (iEnum K ta) := by
  subst h
  exact pi_enum hg hm ha hs
end Od
namespace Od
open PySem L2 Evl
theorem and_one (n : Nat) : Builtin.bitAnd (n : Int) 1 = ((n % 2 : Nat) : Int) := by
  rw [PyProof.Rows.bitAnd_m1]
  omega
/-- which points are kept -/
def keptV (k : Bool → Bool → Bool) : List V := [.bl (k false false), .bl (k false true), .bl (k true false), .bl (k true true)]
theorem kept_at (k : Bool → Bool → Bool) (m n : Nat) : atI (keptV k) (2 * ((m % 2 : Nat) : Int) + ((n % 2 : Nat) : Int)) = some (.bl (k (odd m) (odd n))) := by
  have h : ∀ n, odd n = decide (n % 2 = 1) := fun n => rfl
  rw [h, h]
  rcases Nat.mod_two_eq_zero_or_one m with z | z <;> rcases Nat.mod_two_eq_zero_or_one n with y | y <;> rw [z, y] <;> rfl
theorem odd_eq (n : Nat) : decide (V.int (((n % 2 : Nat) : Int)) = V.int 1) = odd n := by
  unfold odd
  rcases Nat.mod_two_eq_zero_or_one n with z | z <;> rw [z] <;> rfl
/-- a step -/
def StV (H : Hp) (v : V) (s : Stp) : Prop := ∃ p L, v = .ref p ∧ H p = some (.tup [.int s.1, .ref L]) ∧ H L = some (.lst (s.2.map V.int))
abbrev StsV (H : Hp) : List V → List Stp → Prop := Paired (StV H)
theorem StV.ex {H H' : Hp} {v : V} {s : Stp} (e : Ex H H') (h : StV H v s) : StV H' v s := by
  obtain ⟨p, L, rfl, h1, h2⟩ := h
  exact ⟨p, L, rfl, e _ _ h1, e _ _ h2⟩
theorem StsV.ex {H H' : Hp} {vs : List V} {ss : List Stp} (e : Ex H H') (h : StsV H vs ss) : StsV H' vs ss := Paired.mapP h fun _ _ => StV.ex e
theorem dec_ne (a b : Bool) : (!decide (V.bl a = V.bl b)) = (a != b) := by
  cases a <;> cases b <;> rfl
/-- a test of two parts: both hold, or else -/
theorem nxt_no {f : List Int} {k : Nat} {x : Int} (h : ¬ f[k]? = some x) : nxt f k x = k := if_neg h
theorem nxt_yes {f : List Int} {k : Nat} {x : Int} (h : f[k]? = some x) : nxt f k x = k + 1 := if_pos h
theorem sline2 {n : Nat} (h : n ≤ 16000000) : n ≤ sizeLine := Nat.le_trans h (by decide)
theorem slineL2 {n : Nat} (h : n < 16000000) : n < sizeLine := Nat.lt_of_lt_of_le h (by decide)
/-- a step whose list is not the one at D -/
def StN (D : Addr) (H : Hp) (v : V) (s : Stp) : Prop := ∃ p L, v = .ref p ∧ H p = some (.tup [.int s.1, .ref L]) ∧ L ≠ D ∧ H L = some (.lst (s.2.map V.int))
theorem StN.st {D : Addr} {H : Hp} {v : V} {s : Stp} (h : StN D H v s) : StV H v s := by
  obtain ⟨p, L, rfl, h1, _, h2⟩ := h
  exact ⟨p, L, rfl, h1, h2⟩
theorem StN.ex {D : Addr} {H H' : Hp} {v : V} {s : Stp} (e : Ex H H') (h : StN D H v s) : StN D H' v s := by
  obtain ⟨p, L, rfl, h1, n, h2⟩ := h
  exact ⟨p, L, rfl, e _ _ h1, n, e _ _ h2⟩
theorem StN.mut {D : Addr} {H : Hp} {v : V} {s : Stp} {xs : List V} {o : HO} (hD : H D = some (.lst xs)) (h : StN D H v s) : StN D (upd H D o) v s := by
  obtain ⟨p, L, rfl, h1, n, h2⟩ := h
  refine ⟨p, L, rfl, TK.lst hD _ _ h1, n, ?_⟩
  rw [upd_ne n]
  exact h2
theorem eb_len {ss : List Stp} {M : Nat} (h : ∀ z ∈ ss, z.2.length ≤ M) (k : Nat) : (eb ss k).length ≤ M := by
  unfold eb
  split
  · exact Nat.zero_le _
  · rw [List.getD_eq_getElem?_getD]
    cases hx : ss[k - 1]? with
    | none => exact Nat.zero_le _
    | some z => exact h z (List.mem_of_getElem? hx)
theorem dp_il {K : PySem.W.Frag} {H : Hp} {L : Addr} {es : List Int} (h : H L = some (.lst (es.map V.int))) : Dp K H (.ref L) (.list (es.map PyData.int)) := .lst (SqL.of h) (dp_ints es)
theorem ysOf_get {ss : List Stp} {k : Nat} {s : Stp} (h : ss[k]? = some s) : (ysOf ss)[k]? = some s.1 := by
  unfold ysOf
  rw [List.getElem?_map, h]
  rfl
theorem ysOf_len (ss : List Stp) : (ysOf ss).length = ss.length := List.length_map _
end Od
namespace Od
open PySem PySem.Spec PyProof.Rows L2 Evl
abbrev cl (tgt src : Expr) : Comprehension := ⟨tgt, src, [], 0⟩
end Od
namespace Od
open PySem L2 Evl
def upFrom (a b : Int) : List Int := (List.range (b - a).toNat).map fun (k : Nat) => a + k
theorem mem_upFrom {a b x : Int} : x ∈ upFrom a b ↔ a ≤ x ∧ x < b := by
  unfold upFrom
  rw [List.mem_map]
  constructor
  · rintro ⟨k, hk, rfl⟩
    have := List.mem_range.mp hk
    omega
  · rintro ⟨h1, h2⟩
    exact ⟨(x - a).toNat, List.mem_range.mpr (by omega), by omega⟩
/-- above, or left in the same row -/
def before (p q : Pt) : Prop := p.2 < q.2 ∨ (p.2 = q.2 ∧ p.1 < q.1)
theorem pw_flat {α β : Type} {R : α → α → Prop} {S : β → β → Prop} {f : β → List α} : ∀ {l : List β}, l.Pairwise S → (∀ b ∈ l, (f b).Pairwise R) → (∀ b ∈ l, ∀ c ∈ l, S b c → ∀ x ∈ f b, ∀ y ∈ f c, R x y) → (l.flatMap f).Pairwise R
  | [], _, _, _ => List.Pairwise.nil
  | b :: l, h, h1, h2 => by
    rw [List.flatMap_cons, List.pairwise_append]
    obtain ⟨a1, a2⟩ := List.pairwise_cons.mp h
    refine ⟨h1 b (by simp), pw_flat a2 (fun c hc => h1 c (by simp [hc])) (fun c hc d hd => h2 c (by simp [hc]) d (by simp [hd])), fun x hx y hy => ?_⟩
    obtain ⟨c, hc, hy⟩ := List.mem_flatMap.mp hy
    exact h2 b (by simp) c (by simp [hc]) (a1 c hc) x hx y hy
theorem bands_apart : ∀ {bs : List Bd} {y : Int} {p : List Pt}, BandsFrom y p bs → bs.Pairwise (fun c d => c.b ≤ d.t) ∧ ∀ d ∈ bs, y ≤ d.t
  | [], _, _, _ => ⟨List.Pairwise.nil, fun _ h => by simp at h⟩
  | d :: t, y, p, h => by
    obtain ⟨h1, h2⟩ := bands_apart h.2.2.2.2.2
    have a := h.1
    have b := h.2.2.1
    refine ⟨List.pairwise_cons.mpr ⟨h2, h1⟩, fun c hc => ?_⟩
    rcases List.mem_cons.mp hc with rfl | hc
    · exact a
    · have := h2 c hc
      omega
theorem band_runs : ∀ {bs : List Bd} {y : Int} {p : List Pt}, BandsFrom y p bs → ∀ d ∈ bs, RunsOk d.rs ∧ d.t < d.b
  | [], _, _, _, d, h => by simp at h
  | c :: t, y, p, h, d, hd => by
    rcases List.mem_cons.mp hd with rfl | hd
    · exact ⟨h.2.2.2.2.1, h.2.2.1⟩
    · exact band_runs h.2.2.2.2.2 d hd
theorem before_irr {p q : Pt} (h : before p q) (k : before q p) : False := by
  rcases h with h | ⟨h, h'⟩ <;> rcases k with k | ⟨k, k'⟩ <;> omega
/-- two ascending lists of the same points are the same -/
theorem asc_uniq : ∀ {l k : List Pt}, l.Pairwise before → k.Pairwise before → (∀ p, p ∈ l ↔ p ∈ k) → l = k
  | [], [], _, _, _ => rfl
  | [], q :: k, _, _, h => absurd ((h q).mpr (by simp)) (by simp)
  | p :: l, [], _, _, h => absurd ((h p).mp (by simp)) (by simp)
  | p :: l, q :: k, hl, hk, h => by
    obtain ⟨a1, a2⟩ := List.pairwise_cons.mp hl
    obtain ⟨b1, b2⟩ := List.pairwise_cons.mp hk
    have e : p = q := by
      rcases List.mem_cons.mp ((h p).mp (by simp)) with z | z
      · exact z
      · rcases List.mem_cons.mp ((h q).mpr (by simp)) with y | y
        · exact y.symm
        · exact (before_irr (b1 p z) (a1 q y)).elim
    subst e
    rw [asc_uniq a2 b2 fun x => ?_]
    constructor
    · intro hx
      rcases List.mem_cons.mp ((h x).mp (by simp [hx])) with z | z
      · subst z
        exact (before_irr (a1 _ hx) (a1 _ hx)).elim
      · exact z
    · intro hx
      rcases List.mem_cons.mp ((h x).mpr (by simp [hx])) with z | z
      · subst z
        exact (before_irr (b1 _ hx) (b1 _ hx)).elim
      · exact z
end Od
namespace Od
def covers (qs : List Rc) (x y : Int) : Prop := ∃ q ∈ qs, inRc q x y
theorem covers_nil {x y : Int} : ¬ covers [] x y := fun ⟨_, h, _⟩ => by simp at h
theorem covers_one {q : Rc} {x y : Int} : covers [q] x y ↔ inRc q x y := ⟨fun ⟨p, h, k⟩ => by rw [List.mem_singleton.mp h] at k; exact k, fun k => ⟨q, by simp, k⟩⟩
theorem covers_app {a b : List Rc} {x y : Int} : covers (a ++ b) x y ↔ covers a x y ∨ covers b x y := by
  constructor
  · rintro ⟨q, h, k⟩
    rcases List.mem_append.mp h with h | h
    · exact .inl ⟨q, h, k⟩
    · exact .inr ⟨q, h, k⟩
  · rintro (⟨q, h, k⟩ | ⟨q, h, k⟩)
    · exact ⟨q, List.mem_append_left _ h, k⟩
    · exact ⟨q, List.mem_append_right _ h, k⟩
theorem covers_perm {a b : List Rc} (h : a.Perm b) {x y : Int} : covers a x y ↔ covers b x y := ⟨fun ⟨q, k, l⟩ => ⟨q, h.mem_iff.mp k, l⟩, fun ⟨q, k, l⟩ => ⟨q, h.mem_iff.mpr k, l⟩⟩
def Wide (qs : List Rc) : Prop := ∀ q ∈ qs, q.l < q.r ∧ q.t < q.b
/-- one rectangle is its own written form -/
theorem form_single {z : Rc} (h1 : z.l < z.r) (h2 : z.t < z.b) : IsForm (fun x y => inRc z x y) [z] := by
  refine ⟨z.t, [⟨z.t, z.b, [(z.l, z.r)]⟩], ⟨Int.le_refl _, (fun _ e => by cases e), h2, (fun e => by cases e), ⟨z.l - 1, (by show z.l - 1 < z.l; omega), h1, trivial⟩, trivial⟩, fun x y => ?_, rfl⟩
  constructor
  · rintro ⟨d, hd, a, b, c⟩
    rw [List.mem_singleton.mp hd] at a b c
    obtain ⟨q, hq, e1, e2⟩ := c
    rw [List.mem_singleton.mp hq] at e1 e2
    exact ⟨e1, e2, a, b⟩
  · rintro ⟨a, b, c, d⟩
    exact ⟨_, List.mem_singleton.mpr rfl, c, d, _, List.mem_singleton.mpr rfl, a, b⟩
theorem form_nil : IsForm (fun _ _ => False) [] := ⟨0, [], trivial, fun x y => ⟨fun h => inBands_nil h, fun h => h.elim⟩, rfl⟩
/-- steps tell these rectangles -/
structure Tells (ss : List Stp) (qs : List Rc) : Prop where
  v : VS ss
  at_ : ∀ x y, odd (cnt (eFrom [] ss y) x) = true ↔ covers qs x y
  len : ss.length ≤ 2 * qs.length
  wide : ∀ z ∈ ss, z.2.length ≤ 2 * qs.length
theorem tells_nil : Tells (stepsF []) [] := by
  obtain ⟨v, k⟩ := stepsF_ok form_nil
  exact ⟨v, fun x y => (k x y).trans ⟨fun h => h.elim, fun h => covers_nil h⟩, Nat.zero_le _, fun z hz => by simp [stepsF, fin] at hz⟩
theorem tells_one {q : Rc} (h1 : q.l < q.r) (h2 : q.t < q.b) : Tells (stepsF [q]) [q] := by
  obtain ⟨v, k⟩ := stepsF_ok (form_single h1 h2)
  refine ⟨v, fun x y => (k x y).trans covers_one.symm, Nat.le_refl 2, fun z hz => ?_⟩
  have e : stepsF [q] = [(q.t, [q.l, q.r]), (q.b, [])] := rfl
  rw [e] at hz
  simp only [List.mem_cons, List.not_mem_nil, or_false] at hz
  rcases hz with rfl | rfl
  · exact Nat.le_refl 2
  · exact Nat.zero_le _
theorem cnt_at {es : List Int} (h : Asc es) {e : Int} (m : e ∈ es) : cnt es e = cnt es (e - 1) + 1 := by
  induction es with
  | nil => simp at m
  | cons a t ih =>
    rw [cnt_cons, cnt_cons]
    rcases List.mem_cons.mp m with rfl | m
    · have z : ∀ {x : Int}, x ≤ e → cnt t x = 0 := fun hx => cnt_zero fun w hw => by
        have := h.head w hw
        omega
      rw [z (Int.le_refl _), z (by omega), if_pos (Int.le_refl _), if_neg (by omega)]
    · have := h.head e m
      rw [ih h.tail m, if_pos (by omega), if_pos (by omega)]
theorem cnt_not {es : List Int} {e : Int} (m : e ∉ es) : cnt es e = cnt es (e - 1) := by
  unfold cnt
  refine List.countP_congr fun x hx => ?_
  simp only [decide_eq_true_eq]
  constructor
  · intro h
    have : x ≠ e := fun z => m (z ▸ hx)
    omega
  · intro h
    omega
theorem odd_succ (n : Nat) : odd (n + 1) ≠ odd n := by
  unfold odd
  rcases Nat.mod_two_eq_zero_or_one n with z | z
  · rw [z, show (n + 1) % 2 = 1 by omega]
    decide
  · rw [z, show (n + 1) % 2 = 0 by omega]
    decide
theorem comb_sub {k : Bool → Bool → Bool} {f s es : List Int} (h : Comb k f s es) {e : Int} (m : e ∈ es) : e ∈ f ∨ e ∈ s := by
  by_cases hf : e ∈ f
  · exact .inl hf
  by_cases hs : e ∈ s
  · exact .inr hs
  exfalso
  have a := h.2 e
  have b := h.2 (e - 1)
  rw [cnt_not hf, cnt_not hs, ← b, cnt_at h.1.asc m] at a
  exact odd_succ _ a
theorem asc_nodup {es : List Int} (h : Asc es) : es.Nodup := List.Pairwise.imp (fun {a b} (q : a < b) => Int.ne_of_lt q) h
theorem comb_len {k : Bool → Bool → Bool} {f s es : List Int} (h : Comb k f s es) : es.length ≤ f.length + s.length := by
  rw [← List.length_append]
  refine List.Nodup.length_le_of_subset (asc_nodup h.1.asc) fun e m => ?_
  exact List.mem_append.mpr (comb_sub h m)
theorem eFrom_len {M : Nat} : ∀ {ss : List Stp} {p : List Int} {y : Int}, p.length ≤ M → (∀ z ∈ ss, z.2.length ≤ M) → (eFrom p ss y).length ≤ M
  | [], _, _, hp, _ => hp
  | s :: t, p, y, hp, h => by
    show (if y < s.1 then p else eFrom s.2 t y).length ≤ M
    split
    · exact hp
    · exact eFrom_len (h s (by simp)) fun z hz => h z (by simp [hz])
theorem eFrom_self : ∀ {ss : List Stp} {p : List Int} {z : Stp}, Asc (ysOf ss) → z ∈ ss → eFrom p ss z.1 = z.2
  | [], _, _, _, h => by simp at h
  | s :: t, p, z, asc, h => by
    have hh : ∀ w ∈ ysOf t, s.1 < w := asc.head
    show (if z.1 < s.1 then p else eFrom s.2 t z.1) = z.2
    rcases List.mem_cons.mp h with rfl | h
    · rw [if_neg (by omega), eFrom_low fun w hw => hh w.1 (List.mem_map.mpr ⟨w, hw, rfl⟩)]
    · have := hh z.1 (List.mem_map.mpr ⟨z, h, rfl⟩)
      rw [if_neg (by omega), eFrom_self (ss := t) asc.tail h]
theorem tells_app {f s rs : List Stp} {a b : List Rc} (hf : Tells f a) (hs : Tells s b) (v : VS rs) (c : ∀ y, Comb (fun i j => i || j) (eFrom [] f y) (eFrom [] s y) (eFrom [] rs y)) (l : rs.length ≤ f.length + s.length) : Tells rs (a ++ b) := by
  refine ⟨v, fun x y => ?_, ?_, fun z hz => ?_⟩
  · rw [(c y).2 x, covers_app, ← hf.at_, ← hs.at_, Bool.or_eq_true]
  · have := hf.len
    have := hs.len
    rw [List.length_append]
    omega
  · have e := eFrom_self (p := []) v.asc hz
    have k := comb_len (c z.1)
    rw [e] at k
    have k1 := eFrom_len (p := []) (y := z.1) (Nat.zero_le _) hf.wide
    have k2 := eFrom_len (p := []) (y := z.1) (Nat.zero_le _) hs.wide
    rw [List.length_append]
    omega
theorem pairs_le : ∀ es : List Int, (pairs es).length ≤ es.length
  | [] => Nat.le_refl _
  | [_] => Nat.zero_le _
  | a :: b :: t => by
    have := pairs_le t
    show (pairs t).length + 1 ≤ t.length + 1 + 1
    omega
theorem form_len {M : Nat} : ∀ {ss : List Stp}, (∀ z ∈ ss, z.2.length ≤ M) → (formOf (bandsP ss)).length ≤ ss.length * M
  | [], _ => Nat.zero_le _
  | [_], _ => Nat.zero_le _
  | s :: r :: t, h => by
    have ih := form_len (ss := r :: t) fun z hz => h z (by simp [hz])
    have hs := h s (by simp)
    show (formOf (if s.2 = [] then bandsP (r :: t) else ⟨s.1, r.1, pairs s.2⟩ :: bandsP (r :: t))).length ≤ (r :: t).length.succ * M
    rw [Nat.succ_mul]
    split
    · omega
    · have e : formOf (⟨s.1, r.1, pairs s.2⟩ :: bandsP (r :: t)) = bandRc ⟨s.1, r.1, pairs s.2⟩ ++ formOf (bandsP (r :: t)) := rfl
      have e2 : (bandRc ⟨s.1, r.1, pairs s.2⟩).length = (pairs s.2).length := List.length_map _
      have := pairs_le s.2
      rw [e, List.length_append, e2]
      omega
theorem Tells.form {ss : List Stp} {qs : List Rc} (h : Tells ss qs) : IsForm (covers qs) (formOf (bandsP ss)) := by
  obtain ⟨y, bs, h1, h2, h3⟩ := h.v.form
  exact ⟨y, bs, h1, fun x y => (h2 x y).trans (h.at_ x y), h3⟩
theorem Tells.flen {ss : List Stp} {qs : List Rc} (h : Tells ss qs) : (formOf (bandsP ss)).length ≤ 2 * qs.length * (2 * qs.length) :=
  Nat.le_trans (form_len h.wide) (Nat.mul_le_mul_right _ h.len)
open PySem L2 Evl in
theorem jo_take {α β : Type} {G : α → β → Prop} : ∀ {l₁ : List α} {l₂ : List β} (n : Nat), Paired G l₁ l₂ → Paired G (l₁.take n) (l₂.take n)
  | _, _, 0, _ => by simp only [List.take_zero]; exact .nil
  | _, _, _ + 1, .nil => by simp only [List.take_nil]; exact .nil
  | _, _, n + 1, .cons h t => by simp only [List.take_succ_cons]; exact .cons h (jo_take n t)
open PySem L2 Evl in
theorem jo_drop {α β : Type} {G : α → β → Prop} : ∀ {l₁ : List α} {l₂ : List β} (n : Nat), Paired G l₁ l₂ → Paired G (l₁.drop n) (l₂.drop n)
  | _, _, 0, h => h
  | _, _, _ + 1, .nil => by simp only [List.drop_nil]; exact .nil
  | _, _, n + 1, .cons h t => by simp only [List.drop_succ_cons]; exact jo_drop n t
open PySem L2 Evl in
theorem jcut_take {xs : List V} {k : Nat} (h : k ≤ xs.length) : cutV xs none (some (k : Int)) = xs.take k := by
  unfold cutV
  rw [HT.sIx_nat, HT.sIx_none, Nat.min_eq_left h, List.drop_zero, Nat.sub_zero]
open PySem L2 Evl in
theorem jcut_drop {xs : List V} {k : Nat} (h : k ≤ xs.length) : cutV xs (some (k : Int)) none = xs.drop k := by
  unfold cutV
  rw [HT.sIx_nat, HT.sIx_none, Nat.min_eq_left h]
  exact List.take_of_length_le (by rw [List.length_drop]; omega)
end Od
namespace Od
open PySem L2 Evl
theorem runs_lt : ∀ {rs : List Pt} {b : Int}, RunsFrom b rs → rs.Pairwise fun p q => p.1 < q.1
  | [], _, _ => List.Pairwise.nil
  | q :: t, b, h => List.pairwise_cons.mpr ⟨fun p hp => by
      have := RunsFrom.lt (b := b) h.2.2 ⟨p, hp, Int.le_refl _, h.2.2.wide p hp⟩
      have := h.2.1
      omega, runs_lt h.2.2⟩
theorem corners_asc {bs : List Bd} {y : Int} {p : List Pt} (h : BandsFrom y p bs) : (formOf bs).Pairwise fun q r => before (q.l, q.t) (r.l, r.t) := by
  unfold formOf
  refine pw_flat (bands_apart h).1 (fun d hd => ?_) (fun c hc d hd hcd x hx z hz => ?_)
  · obtain ⟨⟨b, hb⟩, _⟩ := band_runs h d hd
    unfold bandRc
    rw [List.pairwise_map]
    exact (runs_lt hb).imp fun {p q} k => .inr ⟨rfl, k⟩
  · unfold bandRc at hx hz
    obtain ⟨q, _, rfl⟩ := List.mem_map.mp hx
    obtain ⟨r, _, rfl⟩ := List.mem_map.mp hz
    have := (band_runs h c hc).2
    exact .inl (by show c.t < d.t; omega)
theorem bf_wide {bs : List Bd} {y : Int} {p : List Pt} (h : BandsFrom y p bs) : ∀ q ∈ formOf bs, q.l < q.r ∧ q.t < q.b := by
  intro q hq
  unfold formOf bandRc at hq
  obtain ⟨d, hd, hq⟩ := List.mem_flatMap.mp hq
  obtain ⟨z, hz, rfl⟩ := List.mem_map.mp hq
  obtain ⟨⟨b, hb⟩, k⟩ := band_runs h d hd
  exact ⟨hb.wide z hz, k⟩
theorem IsForm.wide {S : Int → Int → Prop} {f : List Rc} (h : IsForm S f) : Wide f := by
  obtain ⟨y, bs, h1, _, rfl⟩ := h
  exact bf_wide h1
/-- a written form has no more rectangles than points -/
theorem IsForm.len {S : Int → Int → Prop} {f : List Rc} {pts : List Pt} (h : IsForm S f) (k : ∀ x y, S x y → (x, y) ∈ pts) : f.length ≤ pts.length := by
  have w := h.wide
  have mem := h.mem
  obtain ⟨y, bs, h1, _, rfl⟩ := h
  have nd : ((formOf bs).map fun q => (q.l, q.t)).Nodup := by
    unfold List.Nodup
    rw [List.pairwise_map]
    refine List.Pairwise.imp ?_ (corners_asc h1)
    intro p q b e
    rw [e] at b
    exact before_irr b b
  rw [← List.length_map (f := fun q : Rc => (q.l, q.t))]
  refine nd.length_le_of_subset fun z hz => ?_
  obtain ⟨q, hq, rfl⟩ := List.mem_map.mp hz
  obtain ⟨w1, w2⟩ := w q hq
  exact k _ _ ((mem _ _).mpr ⟨q, hq, Int.le_refl _, w1, Int.le_refl _, w2⟩)
def rcPts (q : Rc) : List Pt := (upFrom q.t q.b).flatMap fun y => (upFrom q.l q.r).map fun x => (x, y)
def covPts (qs : List Rc) : List Pt := qs.flatMap rcPts
theorem mem_rcPts {q : Rc} {x y : Int} : (x, y) ∈ rcPts q ↔ inRc q x y := by
  unfold rcPts inRc
  rw [List.mem_flatMap]
  constructor
  · rintro ⟨z, hz, h⟩
    obtain ⟨u, hu, e⟩ := List.mem_map.mp h
    cases e
    have := mem_upFrom.mp hz
    have := mem_upFrom.mp hu
    omega
  · rintro ⟨h1, h2, h3, h4⟩
    exact ⟨y, mem_upFrom.mpr ⟨h3, h4⟩, List.mem_map.mpr ⟨x, mem_upFrom.mpr ⟨h1, h2⟩, rfl⟩⟩
theorem mem_covPts {qs : List Rc} {x y : Int} : (x, y) ∈ covPts qs ↔ covers qs x y := by
  unfold covPts covers
  rw [List.mem_flatMap]
  exact ⟨fun ⟨q, h, k⟩ => ⟨q, h, mem_rcPts.mp k⟩, fun ⟨q, h, k⟩ => ⟨q, h, mem_rcPts.mpr k⟩⟩
theorem upFrom_len (a b : Int) : (upFrom a b).length = (b - a).toNat := by
  unfold upFrom
  rw [List.length_map, List.length_range]
theorem flatMap_len {α β : Type} {f : α → List β} {n : Nat} : ∀ {l : List α}, (∀ x ∈ l, (f x).length ≤ n) → (l.flatMap f).length ≤ l.length * n
  | [], _ => by simp
  | x :: l, k => by
    rw [List.flatMap_cons, List.length_append, List.length_cons, Nat.succ_mul]
    have := k x (by simp)
    have := flatMap_len (l := l) fun y hy => k y (by simp [hy])
    omega
/-- a region stands at a: these points, all within the list -/
def Reg (H : Hp) (pts : List Pt) (a : Addr) (S : Int → Int → Prop) : Prop := ∃ us f, H a = some (.lst us) ∧ RcsV H us f ∧ IsForm S f ∧ ∀ x y, S x y → (x, y) ∈ pts
theorem Reg.ex {H H' : Hp} {pts : List Pt} {a : Addr} {S : Int → Int → Prop} (e : Ex H H') (h : Reg H pts a S) : Reg H' pts a S := by
  obtain ⟨us, f, h1, h2, h3⟩ := h
  exact ⟨us, f, e _ _ h1, h2.tk (TK.ex e), h3⟩
/-- two regions of the same points: equal data -/
theorem Reg.same {K : PySem.W.Frag} {H : Hp} {pts : List Pt} {a b : Addr} {S R : Int → Int → Prop} (h : Reg H pts a S) (k : Reg H pts b R) (e : ∀ x y, S x y ↔ R x y) : ∃ d : PyData, Dp K H (.ref a) d ∧ Dp K H (.ref b) d ∧ SeqAt.shaped d = true ∧ PyData.eqv d d = true := by
  obtain ⟨us, f, h1, h2, h3, _⟩ := h
  obtain ⟨ws, g, k1, k2, k3, _⟩ := k
  obtain rfl : f = g := form_uniq h3 k3 e
  exact ⟨rcsD f, dp_rcs (SqL.of h1) h2, dp_rcs (SqL.of k1) k2, eqs_rcs.shaped (by decide) f, by rw [eqs_rcs.1, decide_eq_true rfl]⟩
end Od
namespace Od
open PySem L2 Evl PySem.Spec PyProof.Rows LamX
section
variable {X : Cx} {pins : List (Addr × Obj)} {σ : L2.St} {H : Hp} {s : Shared}
/-- a lambda without captured names, called within built-ins -/
theorem lam_call {N ps : List Str} {q : Str} {params : Arguments} {body : Expr} {scope : Scope} {pm ctv : Value} {f c' : Addr} {us : List Value} {vs : List V} {Q : VK} {te : TE} {E : Value → Shared → Prop} {A : Around} {k : Nat}
    (I : Inv X pins σ H s) (S : FnScope N ps scope) (hr : Room (k + 1) A) (e0 : Env0 X.prog X.w X.K X.mg X.base A X.stack s H) (hf : s.heap.get? f = some (PySem.W.kla_obj "<lambda>" q params body scope [] pm c' ctv)) (hc : H c' = some (CodeO c' q))
    (hbind : bindArgs (PySem.W.kla_fn "<lambda>" q params body scope [] pm (.ref c') ctv) ⟨us, []⟩ = pure (ps.zip us)) (r : Vals vs us) (hl : vs.length = ps.length)
    (hbody : PE (cxOf CX0 X.prog X.w X.K X.mg X.base N q scope f (.ref c') A X.stack s H (fun _ _ _ => False)) body te) (ht : te (L2.start N vs) H Q) :
    wpAny (model X.prog X.w) A (call (.ref f) us) (EP X pins σ Q) E s := by
  obtain ⟨⟨oc, vs', t, hoc, hdc, hvc⟩, _, _⟩ := I.hok c' _ hc
  have places : ∀ y ∈ ps.zip us, scope.names.lookup y.1 = some .local ∨ (scope.names.lookup y.1 = some .cell ∧ ((cellsFrom (s.heap.objs.size + 1) scope.names []).lookup y.1).isSome = true) := by
    rintro ⟨n, v⟩ hy
    rcases S.par n (List.of_mem_zip hy).1 with z | z
    · exact Or.inl z
    · exact Or.inr ⟨z, PySem.W.cellsFrom_some _ _ _ (Or.inl z)⟩
  have rc : codeAny (model X.prog X.w) A (.call (.ref f) ⟨us, []⟩) (CR CX0 X.stack X.prog X.w H s Q (fun _ _ _ => False)) s := by
    refine PySem.W.kla_callFunE hr.depth hf rfl S.co S.gen rfl ⟨c', oc, vs', t, rfl, hoc, hdc, hvc⟩ ?_
    rw [hbind]
    refine wpAny_pure (wpAny_newFunctionEnv_cells S.kind places fun e2 he2 s1 inC => ?_)
    subst he2
    refine ⟨I.nolimit.keeps inC.toInCall.keep, PySem.W.kla_codeExpr ?_⟩
    have inv := inv_start (E := fun _ _ _ => False) (CX := CX0) S hr.hd e0 hl r inC
    refine wpAny_mono (hbody.run [] s1 _ H Q inv ht) (fun v s' hq => ?_) fun e s' hq => hq
    obtain ⟨w', H', J', rv, q⟩ := hq
    exact ⟨w', H', J'.os, J'.bare, J'.base, J'.hok, rv, q⟩
  refine wpAny_call (codeAny_mono rc fun r s' hq => ?_)
  cases r with
  | error e => exact hq.elim
  | ok fl =>
    cases fl with
    | ret u => exact I.after hq
    | next => exact False.elim hq
    | brk => exact False.elim hq
    | cont => exact False.elim hq
/-- an object of ours that is not tracked yet -/
structure Ours (X : Cx) (pins : List (Addr × Obj)) (b : Addr) : Prop where
  above : X.s_0.heap.objs.size ≤ b
  loc : b ≠ X.env.locals
  cell : ∀ x c, X.env.cells.lookup x = some c → c ≠ b
  pin : ∀ p ∈ X.pn ++ pins, p.1 ≠ b
  fs : b ∉ X.fs
theorem Ours.fresh (I : Inv X pins σ H s) {b : Addr} (h : s.heap.objs.size ≤ b) : Ours X pins b := by
  refine ⟨Nat.le_trans I.sz h, fun z => ?_, fun x c e z => ?_, fun p hp z => ?_, I.nofs h⟩
  · have := I.lt
    rw [← z] at this
    exact absurd (Nat.lt_of_lt_of_le this h) (Nat.lt_irrefl _)
  · obtain ⟨v, o, ho, _⟩ := I.cell x c e
    rw [z] at ho
    exact absurd (Nat.lt_of_lt_of_le (Heap.lt_size ho) h) (Nat.lt_irrefl _)
  · have ho := (I.pin p hp).1
    rw [z] at ho
    exact absurd (Nat.lt_of_lt_of_le (Heap.lt_size ho) h) (Nat.lt_irrefl _)
theorem inv_drop {p : Addr × Obj} (I : Inv X (p :: pins) σ H s) : Inv X pins σ H s := I.pins_of fun z hz => I.pin z (List.mem_append_right _ (.tail _ hz))
theorem inv_pinned {b : Addr} {o : Obj} (I : Inv X pins σ H s) (ou : Ours X pins b) (ho : s.heap.get? b = some o) (hn : H b = none) (hd : ∀ v, o.data ≠ .cell v) : Inv X ((b, o) :: pins) σ H s :=
  I.pins_of fun z hz => by
    rcases List.mem_cons.mp hz with rfl | hz
    · exact ⟨ho, hn, ou.loc, ou.fs, hd⟩
    · exact I.pin z (List.mem_append_right _ hz)
/-- .. becomes tracked -/
theorem inv_track {b : Addr} {xs : List V} {its : List Value} {n : Nat} (I : Inv X pins σ H s) (ou : Ours X pins b) (hn : H b = none) (ho : s.heap.get? b = some (seqObj "list" its.toArray n)) (r : Vals xs its) (hl : xs.length ≤ sizeLine) :
    Inv X pins σ (upd H b (.lst xs)) s := by
  have nb : ∀ c u, H c = some u → c ≠ b := fun c u e z => by rw [z, hn] at e; cases e
  have st : Inv X pins σ (upd H b (.lst xs)) { s with heap := s.heap, gens := s.gens, drawn := s.drawn, toks := s.toks } := by
    refine I.step (ch := [b]) (fun c hc => ?_) (fun _ _ _ _ _ e _ => e) (fun _ o _ _ _ e _ => ⟨o.slots, e⟩) (fun c o hc _ e => ?_) (fun _ o _ e => ⟨o, e⟩) (fun c ys e => ?_) (fun c o u e => ?_) (fun c ps e => ⟨#[], ?_⟩) (fun _ h => h) (fun c u e => ?_) I.bare
    · rw [List.mem_singleton.mp hc]
      exact ⟨.inr ou.above, ou.loc, ou.cell, ou.pin⟩
    · rw [upd_ne (fun z => hc (by simp [z]))]
      exact e
    · rw [upd_ne (nb _ _ e)]
      exact e
    · rw [upd_ne (nb _ _ e)]
      exact e
    · rw [upd_ne (nb _ _ e), e]
      simp
    · by_cases hc : c = b
      · subst hc
        rw [upd_same] at e
        cases e
        exact ⟨hl, its, n, r, ho⟩
      · rw [upd_ne hc] at e
        exact (I.hok c u e).stay (fun _ _ _ z => z) (fun d z => by rw [upd_ne (nb _ _ z)]; exact z) fun d ys z => by rw [upd_ne (nb _ _ z)]; exact z
  exact st
/-- .. is written -/
theorem inv_wrote {b : Addr} {h' : Heap} {t' : Nat} (I : Inv X pins σ H s) (ou : Ours X pins b) (hn : H b = none) (k : ∀ c o, c ≠ b → s.heap.get? c = some o → h'.get? c = some o) : Inv X pins σ H { s with heap := h', toks := t' } :=
  I.turned k hn ou.loc (.inr ou.above) ou.cell ou.pin
end
theorem vals_perm {us us' : List Value} (h : us'.Perm us) : ∀ {xs : List V}, Vals xs us → ∃ xs' : List V, xs'.Perm xs ∧ Vals xs' us' := by
  induction h with
  | nil => intro xs r; exact ⟨xs, List.Perm.refl _, r⟩
  | cons u h ih =>
    intro xs r
    cases r with
    | cons a r =>
      obtain ⟨ys, h1, h2⟩ := ih r
      exact ⟨_, h1.cons _, .cons a h2⟩
  | swap u v l =>
    intro xs r
    cases r with
    | cons a r =>
      cases r with
      | cons b r => exact ⟨_, .swap _ _ _, .cons b (.cons a r)⟩
  | trans h1 h2 ih1 ih2 =>
    intro xs r
    obtain ⟨ys, p1, r1⟩ := ih2 r
    obtain ⟨zs, p2, r2⟩ := ih1 r1
    exact ⟨zs, p2.trans p1, r2⟩
theorem zip_snd_perm {ps : List (Int × Value)} {kz : List Int} {vs out : List Value} (h : KskOut false kz vs out) (hl : kz.length = vs.length) : out.Perm vs := by
  obtain ⟨ps, hp, rfl, _⟩ := h
  have := hp.map Prod.snd
  rw [List.map_snd_zip (by omega)] at this
  exact this
section
variable {X : Cx} {pins : List (Addr × Obj)} {σ : L2.St} {H : Hp} {A : Around} {E : Value → Shared → Prop} {P : PySem.Fin → Shared → Prop} {a kS : Addr} {vs : List Value} {kz : List Int} {keys : Array Value} {e e1 : Nat} {f : Value}
theorem noCell {xs : Array Value} {n : Nat} : ∀ v, (seqObj "list" xs n).data ≠ .cell v := fun _ z => by cases z
/-- what stands while the sort runs: the key store at kS, the list at a -/
structure Stand (X : Cx) (pins : List (Addr × Obj)) (σ : L2.St) (H : Hp) (s : Shared) (kS a : Addr) (keys : Array Value) (e e1 : Nat) : Prop where
  I : Inv X ((kS, seqObj "list" keys e) :: (a, seqObj "list" #[] e1) :: pins) σ H s
  ok : Ours X ((a, seqObj "list" #[] e1) :: pins) kS
  oa : Ours X pins a
  ne : kS ≠ a
theorem Stand.atK {s : Shared} (S : Stand X pins σ H s kS a keys e e1) : s.heap.get? kS = some (seqObj "list" keys e) ∧ H kS = none := ⟨(S.I.pin _ (List.mem_append_right _ (.head _))).1, (S.I.pin _ (List.mem_append_right _ (.head _))).2.1⟩
theorem Stand.atA {s : Shared} (S : Stand X pins σ H s kS a keys e e1) : s.heap.get? a = some (seqObj "list" #[] e1) ∧ H a = none := ⟨(S.I.pin _ (List.mem_append_right _ (.tail _ (.head _)))).1, (S.I.pin _ (List.mem_append_right _ (.tail _ (.head _)))).2.1⟩
theorem sk_tail {s : Shared} {st : SortSt} (S : Stand X pins σ H s kS a keys e e1) (hk : IntsAre keys.toList kz) (hlen : kz.length = vs.length) (hZ : vs.length ≤ sizeLine) (hp : (arrOf st).Perm (keys.zip vs.toArray)) (hs : SortedTo (arrOf st) (arrOf st).size) (hfl : failedOf st = none)
    (h : ∀ s' out c, Inv X pins σ H s' → s'.heap.get? a = some (seqObj "list" out c) → KskOut false kz vs out.toList → P (.done (.ret .none)) s') :
    wpAny (model X.prog X.w) A (ksk_tail a false e1 (.ref kS) st) P E s := by
  have hZ2 := hZ
  rw [sizeLine_eq] at hZ2
  have nk := S.atK
  have na := S.atA
  have hsz : keys.size = vs.length := by
    have h1 := hk.length
    rw [Array.length_toList] at h1
    omega
  have hsz2 : (arrOf st).size = vs.length := by rw [hp.size_eq, Array.size_zip, hsz, List.size_toArray, Nat.min_self]
  have hout : (if false = true then ((arrOf st).map (·.2)).reverse else (arrOf st).map (·.2)).size = vs.length := by
    simp only [Bool.false_eq_true, if_false, Array.size_map]
    exact hsz2
  have s1 := Heap.SameBut.update s.heap kS (Obj.mapSeq fun _ => (#[] : Array Value))
  have na1 : (s.heap.update kS (Obj.mapSeq fun _ => (#[] : Array Value))).get? a = some (seqObj "list" #[] e1) := (s1.2 a S.ne.symm).trans na.1
  have s2 := Heap.SameBut.update (s.heap.update kS (Obj.mapSeq fun _ => (#[] : Array Value))) a (Obj.mapSeq fun _ => if false = true then ((arrOf st).map (·.2)).reverse else (arrOf st).map (·.2))
  have key : ∀ zs : Array Value, ∃ c2, ((s.heap.update kS (Obj.mapSeq fun _ => (#[] : Array Value))).update a (Obj.mapSeq fun _ => zs)).get? a = some (seqObj "list" zs c2) := fun zs => ⟨_, get?_update_seq na1 fun _ => zs⟩
  obtain ⟨c2, hc2⟩ := key (if false = true then ((arrOf st).map (·.2)).reverse else (arrOf st).map (·.2))
  have I1 : Inv X ((a, seqObj "list" #[] e1) :: pins) σ H { s with heap := s.heap.update kS (Obj.mapSeq fun _ => (#[] : Array Value)), toks := s.toks } := inv_wrote (inv_drop S.I) S.ok nk.2 fun c o hc ho => (s1.2 c hc).trans ho
  have I2 : Inv X pins σ H { s with heap := (s.heap.update kS (Obj.mapSeq fun _ => (#[] : Array Value))).update a (Obj.mapSeq fun _ => if false = true then ((arrOf st).map (·.2)).reverse else (arrOf st).map (·.2)), toks := s.toks } :=
    inv_wrote (s := { s with heap := s.heap.update kS (Obj.mapSeq fun _ => (#[] : Array Value)), toks := s.toks }) (inv_drop I1) S.oa na.2 fun c o hc ho => (s2.2 c hc).trans ho
  unfold ksk_tail
  try dsimp only
  refine wpAny_bind (listUpdate_at nk.1 rfl ?_ (by rw [hsz, sizeLine_eq]; omega) (Nat.zero_le _))
  refine wpAny_bind (wpAny_letGo ?_)
  refine wpAny_bind (seqEpoch_at na1 rfl ?_)
  refine wpAny_bind (listUpdate_at na1 rfl ?_ (Nat.zero_le _) (Nat.le_trans (Nat.le_of_eq hout) (by rw [sizeLine_eq]; omega)))
  rw [hfl]
  simp only [bne_self_eq_false, Bool.false_eq_true, if_false]
  exact wpAny_pure (h _ _ c2 I2 hc2 (ksk_out (b := false) hk hp hs))
theorem sk_end {s : Shared} (S : Stand X pins σ H s kS a keys e e1) (hk : IntsAre keys.toList kz) (hlen : kz.length = vs.length) (hZ : vs.length ≤ sizeLine)
    (h : ∀ s' out c, Inv X pins σ H s' → s'.heap.get? a = some (seqObj "list" out c) → KskOut false kz vs out.toList → P (.done (.ret .none)) s') :
    wpAny (model X.prog X.w) A (ksk_end a false vs.toArray e1 (.ref kS) keys) P E s := by
  have hsz : keys.size = vs.length := by
    have h1 := hk.length
    rw [Array.length_toList] at h1
    omega
  have hzs : (keys.zip vs.toArray).size = vs.length := by rw [Array.size_zip, hsz, List.size_toArray, Nat.min_self]
  unfold ksk_end
  simp only [Bool.false_eq_true, if_false]
  by_cases h2 : vs.toArray.size < 2
  · rw [if_pos h2, if_pos h2]
    refine wpAny_bind (wpAny_pure ?_)
    rw [StateT.run_pure]
    refine wpAny_bind (wpAny_pure ?_)
    try dsimp only
    refine sk_tail (st := SortSt.mk' general' (keys.zip vs.toArray) #[] 7 none) S hk hlen hZ (Array.Perm.refl _) ?_ rfl h
    intro i j hij hj
    have hj2 : j < (keys.zip vs.toArray).size := hj
    rw [hzs] at hj2
    rw [List.size_toArray] at h2
    have : i = j := by omega
    subst this
    exact Int.le_refl _
  · rw [if_neg h2, if_neg h2]
    rw [List.size_toArray] at h2
    rw [ksk_kind hk (by rw [hsz]; omega)]
    refine wpAny_bind (wpAny_pure ?_)
    refine wpAny_bind (wpAny_mono (wpS_sortRunsAny (κ := intKind) (a₀ := keys.zip vs.toArray) (st := SortSt.mk' oneType' (keys.zip vs.toArray) #[] 7 none)
      (Q := fun _ st' => (arrOf st').Perm (keys.zip vs.toArray) ∧ failedOf st' = none ∧ SortedTo (arrOf st') (keys.zip vs.toArray).size)
      intKind_oneLt (ksk_keysOfInt (ksk_intKeys hk)) ⟨Array.Perm.refl _, rfl, rfl⟩ rfl (by rw [hzs]; omega) fun st' a1 a2 a3 => ⟨a1, a2, sortedTo_of_int a3⟩) ?_ fun _ _ e => e)
    rintro ⟨⟨⟩, st'⟩ s' ⟨rfl, hp, hf, hs⟩
    try dsimp only
    exact sk_tail S hk hlen hZ hp (by rw [hp.size_eq]; exact hs) hf h
theorem sk_rest {s : Shared} (S : Stand X pins σ H s kS a #[] 0 e1) (hlen : kz.length = vs.length) (hZ : vs.length ≤ sizeLine)
    (turn : ∀ (i : Nat) (v : Value) (k : Int), vs[i]? = some v → kz[i]? = some k → ∀ (s' : Shared) (own : List (Addr × Obj)), Inv X (own ++ pins) σ H s' →
      wpAny (model X.prog X.w) A (call f [v]) (EP X (own ++ pins) σ (fun u H' => u = .int k ∧ H' = H)) (fun _ _ => False) s')
    (h : ∀ s' out c, Inv X pins σ H s' → s'.heap.get? a = some (seqObj "list" out c) → KskOut false kz vs out.toList → P (.done (.ret .none)) s') :
    wpAny (model X.prog X.w) A (ksk_rest a f false vs.toArray e1 (.ref kS)) P E s := by
  have hZ2 := hZ
  rw [sizeLine_eq] at hZ2
  unfold ksk_rest
  refine wpAny_bind (wpAny_rule ?_)
  first
    | rw [List.forIn_toArray]
    | (rw [← Array.forIn_toList]; simp only [List.toList_toArray])
    | rw [← Array.forIn_toList]
  refine wpAny_bind (ksk_fold (fun i s' => ∃ kA e, Stand X pins σ H s' kS a kA e e1 ∧ IntsAre kA.toList (kz.take i)) vs 0 s
    ⟨#[], 0, S, by simpa using IntsAre.nil⟩ ?step ?done)
  case step =>
    rintro j x s' hx ⟨kA, e, S', hk⟩
    simp only [Nat.zero_add] at hk ⊢
    have hj : j < vs.length := (List.getElem?_eq_some_iff.mp hx).1
    obtain ⟨k, hkj⟩ : ∃ k, kz[j]? = some k := ⟨_, List.getElem?_eq_getElem (by omega)⟩
    have hz : kA.size ≤ vs.length := by
      have h1 := hk.length
      rw [Array.length_toList, List.length_take] at h1
      omega
    refine wpAny_bind (wpAny_attempt (wpAny_mono (turn j x k hx hkj s' [(kS, seqObj "list" kA e), (a, seqObj "list" #[] e1)] S'.I) (fun v s'' he => ?_) fun _ _ hF => hF.elim))
    obtain ⟨u, H', J, rv, rfl, rfl⟩ := he
    obtain ⟨t2, rfl⟩ := rv
    try dsimp only
    have S2 : Stand X pins σ H' s'' kS a kA e e1 := ⟨J, S'.ok, S'.oa, S'.ne⟩
    have nk := S2.atK
    have na := S2.atA
    have s1 := Heap.SameBut.update s''.heap kS (Obj.mapSeq (·.push (.int k t2)))
    obtain ⟨c2, hc2⟩ : ∃ c2, (s''.heap.update kS (Obj.mapSeq (·.push (.int k t2)))).get? kS = some (seqObj "list" (kA.push (.int k t2)) c2) := ⟨_, get?_update_seq nk.1 (·.push (.int k t2))⟩
    have ek : kz.take (j + 1) = kz.take j ++ [k] := by rw [List.take_add_one, hkj]; simp
    have ea : (kA.push (Value.int k t2)).toList = kA.toList ++ [Value.int k t2] := by simp
    have I1 : Inv X ((a, seqObj "list" #[] e1) :: pins) σ H' { s'' with heap := s''.heap.update kS (Obj.mapSeq (·.push (.int k t2))), toks := s''.toks } := inv_wrote (inv_drop S2.I) S2.ok nk.2 fun c o hc ho => (s1.2 c hc).trans ho
    refine wpAny_bind (listUpdate_at nk.1 rfl ?_ (by rw [sizeLine_eq]; omega) (Nat.le_trans (Nat.le_of_eq (Array.size_push ..)) (by rw [sizeLine_eq]; omega)))
    exact wpAny_pure ⟨rfl, kA.push (.int k t2), c2, ⟨inv_pinned I1 S2.ok hc2 nk.2 noCell, S2.ok, S2.oa, S2.ne⟩, by rw [ea, ek]; exact ksk_snoc hk⟩
  case done =>
    rintro s' ⟨kA, e, S', hk⟩
    have hk' : IntsAre kA.toList kz := by
      have e3 : kz.take (0 + vs.length) = kz := List.take_of_length_le (by omega)
      rw [e3] at hk
      exact hk
    have nk := S'.atK
    try dsimp only
    refine wpAny_bind (listItems_at nk.1 rfl ?_)
    exact sk_end S' hk' hlen hZ h
/-- sorted(l, key=f) -/
theorem sorted_key {s : Shared} {l fa : Addr} {us : List V} {Q : VK} (I : Inv X pins σ H s) (hs : SqL X.K H l us) (hlen : kz.length = us.length)
    (turn : ∀ (i : Nat) (x : V) (v : Value) (k : Int), us[i]? = some x → RelV x v → kz[i]? = some k → ∀ (s' : Shared) (own : List (Addr × Obj)), Inv X (own ++ pins) σ H s' →
      wpAny (model X.prog X.w) A.in1.in1 (call (.ref fa) [v]) (EP X (own ++ pins) σ (fun u H' => u = .int k ∧ H' = H)) (fun _ _ => False) s')
    (q : ∀ p us', H p = none → us'.Perm us → Q (.ref p) (upd H p (.lst us'))) :
    wpAny (model X.prog X.w) A (call (.builtin "sorted") [.ref l] [(Str.ofString "key", .ref fa)]) (EP X pins σ Q) E s := by
  obtain ⟨vs, rv, pl, hz⟩ := I.list hs
  have hl := pl.isList
  have vl := rv.length
  have hzv : vs.length ≤ sizeLine := by omega
  refine call_function_entry_kw kind_sorted plain_sorted entry_sorted (ksk_s1 _ _) ?_
  unfold Builtin.«sorted»
  refine wpAny_bind (m := checkCount "sorted" 1 1 _) (wpAny_pure ?_)
  refine wpAny_bind (collect_list hl ?_ hzv)
  refine wpAny_bind (wpAny_newList ?_ hzv)
  have hsz : ((s.heap.push (seqObj "list" #[] 0)).update s.heap.objs.size (Obj.mapSeq (· ++ vs.toArray))).objs.size = s.heap.objs.size + 1 := by
    rw [Heap.size_update, size_push']
  have hoL : (((s.heap.push (seqObj "list" #[] 0)).update s.heap.objs.size (Obj.mapSeq (· ++ vs.toArray))).push (seqObj "list" vs.toArray 0)).get? (s.heap.objs.size + 1) = some (seqObj "list" vs.toArray 0) := by
    rw [← hsz]; exact Heap.get?_push_size _ rfl
  have keep : ∀ b o, s.heap.get? b = some o → (((s.heap.push (seqObj "list" #[] 0)).update s.heap.objs.size (Obj.mapSeq (· ++ vs.toArray))).push (seqObj "list" vs.toArray 0)).get? b = some o := fun b o q => by
    have hlt : b < s.heap.objs.size := Heap.lt_size q
    rw [Heap.get?_push_ne _ _ _ (by rw [hsz]; exact Nat.ne_of_lt (Nat.lt_succ_of_lt hlt)), Heap.get?_update_ne _ _ _ _ (Nat.ne_of_lt hlt), Heap.get?_push_ne _ _ _ (Nat.ne_of_lt hlt)]
    exact q
  show wpAny _ _ _ _ _ { s with heap := ((s.heap.push (seqObj "list" #[] 0)).update s.heap.objs.size (Obj.mapSeq (· ++ vs.toArray))).push (seqObj "list" vs.toArray 0) }
  rw [hsz]
  have oa : Ours X pins (s.heap.objs.size + 1) := Ours.fresh I (Nat.le_succ _)
  have na : H (s.heap.objs.size + 1) = none := I.hok.fresh (Nat.le_succ _)
  have I0 : Inv X pins σ H { s with heap := ((s.heap.push (seqObj "list" #[] 0)).update s.heap.objs.size (Obj.mapSeq (· ++ vs.toArray))).push (seqObj "list" vs.toArray 0), toks := s.toks } := I.kept keep
  generalize ((s.heap.push (seqObj "list" #[] 0)).update s.heap.objs.size (Obj.mapSeq (· ++ vs.toArray))).push (seqObj "list" vs.toArray 0) = hp at hoL keep I0 ⊢
  generalize s.heap.objs.size + 1 = a at hoL oa na ⊢
  refine wpAny_bind (wpAny_holding (wpAny_call_entry_kw slot_list_sort ⟨_, hoL, rfl⟩ entry_list_sort ?body (ksk_l1 _ _)))
  show wpAny (model X.prog X.w) A.in1.in1 (Builtin.«list.sort» ⟨[.ref a], [(Str.ofString "key", .ref fa)]⟩) _ _ _
  rw [ksk_t1]
  have hZ2 := hzv
  rw [sizeLine_eq] at hZ2
  have s1 := Heap.SameBut.update hp a (Obj.mapSeq fun _ => (#[] : Array Value))
  obtain ⟨e1, ho1⟩ : ∃ e1, (hp.update a (Obj.mapSeq fun _ => (#[] : Array Value))).get? a = some (seqObj "list" #[] e1) := ⟨_, get?_update_seq hoL fun _ => #[]⟩
  have I1 : Inv X pins σ H { s with heap := hp.update a (Obj.mapSeq fun _ => (#[] : Array Value)), toks := s.toks } := inv_wrote (s := { s with heap := hp, toks := s.toks }) I0 oa na fun c o hc ho => (s1.2 c hc).trans ho
  have I1a := inv_pinned I1 oa ho1 na noCell
  have hkS : ((hp.update a (Obj.mapSeq fun _ => (#[] : Array Value))).push (seqObj "tuple" vs.toArray 0)).objs.size = hp.objs.size + 1 := by rw [size_push', Heap.size_update]
  have ok : Ours X ((a, seqObj "list" #[] e1) :: pins) (((hp.update a (Obj.mapSeq fun _ => (#[] : Array Value))).push (seqObj "tuple" vs.toArray 0)).objs.size) := Ours.fresh I1a (by rw [hkS]; show (hp.update a (Obj.mapSeq fun _ => (#[] : Array Value))).objs.size ≤ _; rw [Heap.size_update]; exact Nat.le_succ _)
  have nk : H (((hp.update a (Obj.mapSeq fun _ => (#[] : Array Value))).push (seqObj "tuple" vs.toArray 0)).objs.size) = none := I1.hok.fresh (by rw [hkS]; show (hp.update a (Obj.mapSeq fun _ => (#[] : Array Value))).objs.size ≤ _; rw [Heap.size_update]; exact Nat.le_succ _)
  have I2 : Inv X ((a, seqObj "list" #[] e1) :: pins) σ H { s with heap := ((hp.update a (Obj.mapSeq fun _ => (#[] : Array Value))).push (seqObj "tuple" vs.toArray 0)).push (seqObj "list" #[] 0), toks := s.toks } := I1a.kept fun b o e => Heap.get?_push_of_some _ (Heap.get?_push_of_some _ e)
  have nea : ((hp.update a (Obj.mapSeq fun _ => (#[] : Array Value))).push (seqObj "tuple" vs.toArray 0)).objs.size ≠ a := by
    rw [hkS]
    exact Nat.ne_of_gt (Nat.lt_succ_of_lt (Heap.lt_size hoL))
  unfold ksk_tree
  refine wpAny_bind (listItems_at hoL rfl ?_)
  refine wpAny_bind (listUpdate_at hoL rfl ?_ (by rw [List.size_toArray, sizeLine_eq]; omega) (Nat.zero_le _))
  refine wpAny_bind (seqEpoch_at ho1 rfl ?_)
  refine wpAny_bind (wpAny_newTuple ?_ (by show vs.length ≤ _; rw [sizeLine_eq]; omega))
  refine wpAny_bind (wpAny_newList ?_ (Nat.zero_le _))
  refine wpAny_holding ?_
  refine sk_rest (kz := kz) (s := { s with heap := ((hp.update a (Obj.mapSeq fun _ => (#[] : Array Value))).push (seqObj "tuple" vs.toArray 0)).push (seqObj "list" #[] 0) }) ⟨inv_pinned I2 ok (Heap.get?_push_size _ rfl) nk noCell, ok, oa, nea⟩ (by omega) hzv (fun i v k hv hk s' own J => ?_) fun s' out c J ho ko => ?_
  · obtain ⟨x, hx, rx⟩ : ∃ x, us[i]? = some x ∧ RelV x v := by
      have hi : i < us.length := by
        have := (List.getElem?_eq_some_iff.mp hv).1
        omega
      obtain ⟨u, hu, ru⟩ := rv.get (List.getElem?_eq_getElem hi)
      rw [hv] at hu
      cases hu
      exact ⟨_, List.getElem?_eq_getElem hi, ru⟩
    exact turn i x v k hx rx hk s' own J
  · obtain ⟨us', hp', r'⟩ := vals_perm (zip_snd_perm (ps := []) ko (by omega)) rv
    refine ⟨_, rfl, wpAny_pure ⟨_, rfl, ?_⟩⟩
    exact ⟨.ref a, _, inv_track J oa na (its := out.toList) (by rw [Array.toArray_toList]; exact ho) r' (by rw [hp'.length_eq]; exact hz), rfl, q a us' na hp'⟩
end
end Od
namespace Od
open PySem L2 Evl PySem.Spec PyProof.Rows LamX
section
variable {X : Cx}
/-- sorted(xs, key=lambda p: e): what is asked -/
def tSortLam (K : PySem.W.Frag) (T : List (Addr × Str)) (N : List Str) (te : TE) (t : TA) : TE := fun σ H Q => t σ H fun vs H1 => ∃ (a : Addr) (us : List V) (kf : V → Int), vs = [.ref a] ∧ SqL K H1 a us ∧ Tabs T H1 ∧
  (∀ x ∈ us, ∀ H2, ExtN H1 H2 → te (L2.start N [x]) H2 fun u H' => u = .int (kf x) ∧ H' = H2) ∧
  ∀ H2 p us', ExtN H1 H2 → Tabs T H2 → H2 p = none → us'.Perm us → Q (.ref p) (upd H2 p (.lst us'))
theorem pe_sortedLam (K : PySem.W.Frag) {N : List Str} {pn : Str} {T : List (Addr × Str)} {c P : Addr} {p pos lpos kpos : Pos} {e : Expr} {t : TA} {te : TE} {params : Arguments} {body : Expr} {scope : Scope} (TB : TabB X.base X.mg c P) (hcode : X.env.code = .ref c)
    (hm : (P, X.env.qual ++ "<lambda>") ∈ T) (hu : ∀ p ∈ T, p.1 = P → p.2 = X.env.qual ++ "<lambda>") (hr : Room 3 X.A) (hs : X.stack = X.env :: X.outer) (hfr : X.env.frame = some X.env.locals)
    (hg : Gl X "sorted") (hmg : X.mg "sorted" = none) (ha : PA X [e] t) (S : FnScope N [pn] scope)
    (hbody : ∀ (f c' : Addr) (A : Around) (s : Shared) (H : Hp), PE (cxOf CX0 X.prog X.w X.K X.mg X.base N (X.env.qual ++ "<lambda>") scope f (.ref c') A X.stack s H (fun _ _ _ => False)) body te)
    (hbind : ∀ (pm ctv : Value) (c' : Addr) (u : Value), bindArgs (PySem.W.kla_fn "<lambda>" (X.env.qual ++ "<lambda>") params body scope [] pm (.ref c') ctv) ⟨[u], []⟩ = pure [(pn, u)] := by exact fun _ _ _ _ => rfl)
    (hdef : defaultsOf params X.env = ([], []) := by rfl) (hclo : cloFrom X.env.cells scope.names [] = [] := by rfl) (hfree : ∀ y ∈ scope.names, y.2 = .free → ∃ c, X.env.cells.lookup y.1 = some c := by intro y hy z; rcases List.mem_singleton.mp hy with rfl; cases z)
    (he : backTo pos (starEach [e] X.env) = (false, eval e X.env) :: backTo pos (starEach [] X.env) := by rfl) (hpl : (backTo pos (starEach [e] X.env)).any (·.1) = false := by rfl) (hK : X.K = K := by rfl) :
    PE X (.Call (.Name "sorted" p) [e] [{ arg := some "key", value := .Lambda params body scope lpos, pos := kpos }] pos) (tSortLam K T N te t) := by
  subst hK
  refine ⟨fun pins s σ H Q I h => ?_⟩
  refine wpAny_Call_Name_kw (ld_blt I hg hmg bt_sorted ?_ (by decide) (by decide))
  refine PyProof.Rows.callWith_kw (thn (ha.run pos pins s σ H _ I h) fun us0 s1 ⟨vs, H1, I1, r1, a, us, kf, ev, sq, tabs, key, q⟩ => ?_) he hpl rfl rfl
  subst ev
  obtain rfl := Vals.ref1 r1
  show wpAny _ _ (evalAll ((do let v ← eval (.Lambda params body scope lpos) X.env; standAt pos; pure v) :: [])) _ _ s1
  refine wpAny_evalAll_cons (wpAny_bind (lam_make2 I1 TB hcode hm hu tabs hdef hfree fun f c' pm ctv H2 s2 I2 en tabs2 hf hfn hfs hc => wpAny_bind (wpAny_standAt (wpAny_pure (wpAny_evalAll_nil ?_)))))
  rw [hclo] at hf
  have nl : f ≠ X.env.locals := fun z => hfs (by rw [hs]; exact List.mem_filterMap.mpr ⟨X.env, List.mem_cons_self, by rw [hfr, z]⟩)
  have nf : f ∉ X.fs := fun z => hfs (by
    rw [hs]
    obtain ⟨e, he, q⟩ := List.mem_filterMap.mp z
    exact List.mem_filterMap.mpr ⟨e, List.mem_cons_of_mem _ he, q⟩)
  have I3 : Inv X ((f, PySem.W.kla_obj "<lambda>" (X.env.qual ++ "<lambda>") params body scope [] pm c' ctv) :: pins) σ H2 s2 := I2.pins_of fun z hz => by
    rcases List.mem_cons.mp hz with rfl | hz
    · exact ⟨hf, hfn, nl, nf, fun v z => by cases z⟩
    · exact I2.pin z (List.mem_append_right _ hz)
  have sq2 : SqL X.K H2 a us := by
    rcases sq with (h | ⟨o, h⟩) | h
    · exact .inl (.inl (en _ _ h fun ps z => by cases z))
    · exact .inl (.inr ⟨o, en _ _ h fun ps z => by cases z⟩)
    · exact .inr h
  show wpAny (model X.prog X.w) X.A (call (.builtin "sorted") [.ref a] [(Str.ofString "key", .ref f)]) _ _ s2
  refine wpAny_mono (sorted_key (kz := us.map kf) (Q := Q) (E := X.xe) I3 sq2 (by rw [List.length_map]) (fun i x v k hx rx hk s' own J => ?_) fun p us' np hp => q H2 p us' en tabs2 np hp) (fun u s' hq => ?_) fun _ _ z => z
  · obtain rfl : kf x = k := by
      rw [List.getElem?_map, hx] at hk
      exact Option.some.inj hk
    have hf' := (J.pin (f, _) (List.mem_append_right _ (List.mem_append_right _ (.head _)))).1
    exact lam_call (k := 0) (te := te) (vs := [x]) (ps := [pn]) J S hr.in1.in1 J.env0.in1.in1 hf' hc (hbind pm ctv c' v) (.cons rx .nil) rfl (hbody f c' X.A.in1.in1 s' H2) (key x (List.mem_of_getElem? hx) H2 en)
  · obtain ⟨w', H', J', rv, qq⟩ := hq
    exact ⟨w', H', inv_drop J', rv, qq⟩
end
end Od
namespace Od
open PySem L2 Evl PySem.Spec PyProof.Rows LamX
theorem extN_tk {H H' : Hp} (e : ExtN H H') : TK H H' := fun a xs h => e a _ h fun ps z => by cases z
theorem ExtN.ex {H H' : Hp} (e : Ex H H') : ExtN H H' := fun b o h _ => e b o h
structure FunT (K : PySem.W.Frag) (x qual : Str) (st : Stmt) (f : Addr) (fd : FuncData) (c : Addr) : Prop where
  ex : ∃ (oc : Value) (od : Option Addr) (kV doc pm : Value) (an : Option Addr) (ct : Value) (osl : Array (Option Value)),
    fd = PySem.W.fnOf x qual (defArgs st) (defBody st) (defScope st) .none kV doc pm an (.ref c) ct ∧ K.lookup f = some ⟨oc, od, .func fd, osl⟩ ∧ PySem.W.codeIn K (.ref c) qual = true
  kp : PySem.W.keepIn K (.ref f) = true
section
variable {P : Program} {w : World} {K : PySem.W.Frag} {mg : Str → Option Value} {base : Heap}
theorem FunT.fn {x qual : Str} {st : Stmt} {f c : Addr} {fd : FuncData} (F : FunT K x qual st f fd c) : Fun K x qual st f fd := by
  obtain ⟨oc, od, kV, doc, pm, an, ct, osl, h1, h2, h3⟩ := F.ex
  exact ⟨⟨oc, od, kV, doc, pm, an, .ref c, ct, osl, h1, h2, h3⟩, F.kp⟩
theorem FunT.okX {x qual : Str} {st : Stmt} {f c : Addr} {fd : FuncData} {N ps : List Str} {k : Nat} {sp : Sp} (F : FunT K x qual st f fd c) (S : FnScope N ps (defScope st)) (len : ∀ vs H Q E, sp vs H Q E → vs.length = ps.length)
    (hbody : ∀ (A : Around) (outer : List Env) (s : Shared) (H : Hp) (vs : List V) (Q : VK) (E : XK), Room k (A.deeper (envOfC qual (defScope st) s.heap.objs.size f (.ref c))) → sp vs H Q E →
      ∃ t, PSs (cxOf (L2.CX P w) P w K mg base N qual (defScope st) f (.ref c) A outer s H E) (defBody st) t ∧ t { nx := fun _ H' => Q .non H', rt := Q } (L2.start N vs) H) : FnOk P w K mg base (L2.CX P w) (k + 1) f fd ps sp := by
  obtain ⟨oc, od, kV, doc, pm, an, ct, osl, rfl, lk, hcd⟩ := F.ex
  exact fn_of lk hcd S len fun A outer s H vs Q E hr hsp => hbody A outer s H vs Q E hr hsp
theorem funT_mk {x qual : Str} {st : Stmt} {f c : Addr} {oc : Value} {od an : Option Addr} {osl : Array (Option Value)} {kV doc pm ct : Value} (l : K.lookup f = some ⟨oc, od, .func (PySem.W.fnOf x qual (defArgs st) (defBody st) (defScope st) .none kV doc pm an (.ref c) ct), osl⟩)
    (h : PySem.W.codeIn K (.ref c) qual = true) (k : PySem.W.keepIn K (.ref f) = true) : FunT K x qual st f (PySem.W.fnOf x qual (defArgs st) (defBody st) (defScope st) .none kV doc pm an (.ref c) ct) c := ⟨⟨oc, od, kV, doc, pm, an, ct, osl, rfl, l, h⟩, k⟩
end
theorem tabIn_of {K : PySem.W.Frag} {x : Str} {f c P : Addr} {oc o2 : Value} {od d2 : Option Addr} {fd : FuncData} {sl s2 : Array (Option Value)} {vs : Array Value} (h1 : PySem.W.nsIn K mainGlobals x = some (some (.ref f))) (h2 : K.lookup f = some ⟨oc, od, .func fd, sl⟩) (h3 : fd.code = .ref c)
    (h4 : K.lookup c = some ⟨o2, d2, .fields vs, s2⟩) (h5 : vs[11]? = some (.ref P)) : PySem.W.tabIn K x = some (c, P) := by
  unfold PySem.W.tabIn
  rw [h1]
  simp only [h2, h3, h4, h5]
/-- what is known of the law's promise where a table stands -/
def LawT (l : PySem.W.OpenLaw) (w : World) (K : PySem.W.Frag) (k n : Nat) (x y : Str) (mg : Str → Option Value) (fa : Addr) : Prop :=
  ∃ (fd : FuncData) (c P : Addr) (sp : Sp), PySem.W.tabIn K y = some (c, P) ∧ K.lookup P = none ∧ (∀ (s : Shared) (u : Value), BindsTo s fd ⟨[u], []⟩ [(x, u)]) ∧
    (∀ (H : Hp) (a : Addr) (ns : List Int), ns.length ≤ n → H P = some (.tbl #[]) → SqL K H a (ns.map V.int) → sp [.ref a] H (fun v _ => v = .bl true) fun _ _ _ => False) ∧
    ∀ base : Heap, K.In base → base.Ns mainGlobals mg → TabB base mg c P → FnOk l.prog w K mg base CX0 k fa fd [x] sp
theorem walk_t {l : PySem.W.OpenLaw} {n k : Nat} {q : Program} {loose : List Str} {XP : (Str → Option Value) → Heap → Prop} {YP : World → Heap → Prop} {d : DefRec} {K : Params → PySem.W.Frag} {x y : Str}
    (hn : l.most = some n) (hn2 : n ≤ sizeLine) (hdf : d.params.defaults = []) (rm : Room k callerA) (recs : ((recsOf q).find? (fun e => e.name == y)).isSome = true)
    (written : ∀ (w : World) (h : Heap), YP w h → (K w.params).In h)
    (F : ∀ (w : World) (mg : Str → Option Value) (fa : Addr) (h : Heap), (K w.params).In h → h.Ns mainGlobals mg → mg d.name = some (.ref fa) → LawT l w (K w.params) k n x y mg fa) :
    PySem.W.WalkO q loose XP YP l.row.toRowW d [] (fun g us => PySem.call g us) := by
  refine Att.attach_call hn hdf ?_
  intro w s₀ s₁ mg mb fa o pm cd doc a vs ns G Y _ _ _ hmg hobj hints hlen hg
  have kin := written w _ Y
  obtain ⟨d2, hd2⟩ := Option.isSome_iff_exists.mp recs
  obtain ⟨fd, c, P, sp, tab, nT, bnd, prom, fn⟩ := F w mg fa _ kin G.T.g hmg
  obtain ⟨hC, hT⟩ := PySem.W.tab_of G.T kin hd2 tab
  exact law_callTs (cs := [(c, P)]) kin G.T.g G.T.b G.T.builtins G.T.nolimit hg (fun p hp => by rw [List.mem_singleton.mp hp]; exact hT) (fun p hp => by rw [List.mem_singleton.mp hp]; exact nT) (fun p hp => by rw [List.mem_singleton.mp hp]; exact hC) G.T.bmain hobj hints (Nat.le_trans hlen hn2) rm
    (fun base kb gb tb => fn base kb gb (tb (c, P) (by simp))) bnd (fun H hH hS => prom H a ns hlen (hH (c, P) (by simp)) hS) fun H e s' h => h
end Od
namespace Od
open PySem L2 Evl
/-- what a layer's value becomes: a mode as a value of its own -/
inductive Md where
  | over | add | times | invert | shift (n : Int)
deriving DecidableEq
def Md.word : Md → Str
  | .over => "over" | .add => "add" | .times => "times" | .invert => "invert" | .shift _ => "shift"
def Md.rest : Md → List V
  | .shift n => [.int n]
  | _ => []
def Md.items (m : Md) : List V := .str m.word :: m.rest
theorem Md.at0 (m : Md) : atI m.items 0 = some (.str m.word) := by cases m <;> rfl
def Md.Ok : Md → Prop
  | .shift n => -255 ≤ n ∧ n ≤ 255
  | _ => True
def MdV (H : Hp) (v : V) (m : Md) : Prop := ∃ a, v = .ref a ∧ H a = some (.tup m.items)
theorem MdV.ex {H H' : Hp} {v : V} {m : Md} (e : Ex H H') (h : MdV H v m) : MdV H' v m := by
  obtain ⟨a, rfl, ha⟩ := h
  exact ⟨a, rfl, e _ _ ha⟩
theorem MdV.tk {H H' : Hp} {v : V} {m : Md} (e : TK H H') (h : MdV H v m) : MdV H' v m := by
  obtain ⟨a, rfl, ha⟩ := h
  exact ⟨a, rfl, e _ _ ha⟩
/-- the lesser one of 255 and a value, the greater one of 0 and a value -/
def lo255 (x : Int) : Int := if x < 255 then x else 255
def hi0 (x : Int) : Int := if x > 0 then x else 0
def Md.to : Md → Int → Int → Int
  | .over, _, p => p
  | .add, v, p => lo255 (v + p)
  | .times, v, p => v * p / 255
  | .invert, v, _ => 255 - v
  | .shift n, v, _ => hi0 (lo255 (v + n))
def Md.mix (m : Md) (v p c : Int) : Int := v + (m.to v p - v) * c / 256
theorem iteW {a b : Str} {A B : Prop} (h : a ≠ b) (q : B) : if decide (V.str a = V.str b) = true then A else B := by
  rw [decide_eq_false fun e => h (V.str.inj e)]
  exact q
theorem iteE {a b : Str} {A B : Prop} (h : a = b) (q : A) : if decide (V.str a = V.str b) = true then A else B := by
  rw [decide_eq_true (congrArg V.str h)]
  exact q
theorem iteWn {a b : Str} {A B : Prop} (h : a ≠ b) (q : A) : if (!decide (V.str a = V.str b)) = true then A else B := by
  rw [decide_eq_false fun e => h (V.str.inj e)]
  exact q
theorem iteEn {a b : Str} {A B : Prop} (h : a = b) (q : B) : if (!decide (V.str a = V.str b)) = true then A else B := by
  rw [decide_eq_true (congrArg V.str h)]
  exact q
theorem iteD {p : Prop} [Decidable p] {A B : Prop} (h : p) (q : A) : if decide p = true then A else B := by
  rw [decide_eq_true h]
  exact q
theorem iteN {p : Prop} [Decidable p] {A B : Prop} (h : ¬ p) (q : B) : if decide p = true then A else B := by
  rw [decide_eq_false h]
  exact q
theorem iteDn {p : Prop} [Decidable p] {A B : Prop} (h : p) (q : B) : if (!decide p) = true then A else B := by
  rw [decide_eq_true h]
  exact q
theorem iteNn {p : Prop} [Decidable p] {A B : Prop} (h : ¬ p) (q : A) : if (!decide p) = true then A else B := by
  rw [decide_eq_false h]
  exact q
end Od
namespace Od
open PySem L2 Evl
/-- a paint as a value of its own -/
inductive Pa where
  | solid (v : Int) | steps (f s z : Int) | pic (p : Pc)
def Pa.word : Pa → Str
  | .solid _ => "solid" | .steps _ _ _ => "steps" | .pic _ => "picture"
def PaV (H : Hp) (v : V) : Pa → Prop
  | .solid x => ∃ a, v = .ref a ∧ H a = some (.tup [.str "solid", .int x])
  | .steps f s z => ∃ a, v = .ref a ∧ H a = some (.tup [.str "steps", .int f, .int s, .int z])
  | .pic p => ∃ a u, v = .ref a ∧ H a = some (.tup [.str "picture", u]) ∧ PcV H u p
theorem PaV.tk {H H' : Hp} {v : V} {p : Pa} (e : TK H H') (h : PaV H v p) : PaV H' v p := by
  cases p with
  | solid x => obtain ⟨a, rfl, ha⟩ := h; exact ⟨a, rfl, e _ _ ha⟩
  | steps f s z => obtain ⟨a, rfl, ha⟩ := h; exact ⟨a, rfl, e _ _ ha⟩
  | pic p => obtain ⟨a, u, rfl, ha, hu⟩ := h; exact ⟨a, u, rfl, e _ _ ha, hu.tk e⟩
def Pa.Ok (m : Int) : Pa → Prop
  | .solid x => 0 ≤ x ∧ x ≤ 255
  | .steps f s z => 0 ≤ f ∧ f ≤ 255 ∧ 0 ≤ s ∧ s ≤ 255 ∧ 1 ≤ z ∧ z ≤ 12
  | .pic p => p.Ok m
def Pa.D : Pa → PyData
  | .solid x => .tuple [.str "solid", .int x]
  | .steps f s z => .tuple [.str "steps", .int f, .int s, .int z]
  | .pic p => .tuple [.str "picture", pcD p]
theorem PaV.dp {K : PySem.W.Frag} {H : Hp} {v : V} {p : Pa} (h : PaV H v p) : Dp K H v p.D := by
  cases p with
  | solid x => obtain ⟨a, rfl, ha⟩ := h; exact .tup (SqT.of ha) (.cons (.str _) (.cons (.int _) .nil))
  | steps f s z => obtain ⟨a, rfl, ha⟩ := h; exact .tup (SqT.of ha) (.cons (.str _) (.cons (.int _) (.cons (.int _) (.cons (.int _) .nil))))
  | pic p => obtain ⟨a, u, rfl, ha, hu⟩ := h; exact .tup (SqT.of ha) (.cons (.str _) (.cons hu.dp .nil))
/-- a paint, or None -/
def OpV (H : Hp) (v : V) : Option Pa → Prop
  | none => v = .non
  | some p => PaV H v p
theorem OpV.tk {H H' : Hp} {v : V} {o : Option Pa} (e : TK H H') (h : OpV H v o) : OpV H' v o := by
  cases o with
  | none => exact h
  | some p => exact PaV.tk e h
def opD : Option Pa → PyData
  | none => .none
  | some p => p.D
theorem OpV.dp {K : PySem.W.Frag} {H : Hp} {v : V} {o : Option Pa} (h : OpV H v o) : Dp K H v (opD o) := by
  cases o with
  | none => cases h; exact .non
  | some p => exact PaV.dp h
def opOk (m : Int) : Option Pa → Prop
  | none => True
  | some p => p.Ok m
/-- a clip -/
structure Cl where
  s : Int
  n : Int
  pa : Option Pa
  fi : Int
  fo : Int
structure Cl.Ok (m : Int) (c : Cl) : Prop where
  s0 : 0 ≤ c.s
  s1 : c.s ≤ m
  n1 : 1 ≤ c.n
  n2 : c.n ≤ 400
  fi0 : 0 ≤ c.fi
  fo0 : 0 ≤ c.fo
  fs : c.fi + c.fo ≤ c.n
  pa : opOk 3 c.pa
def Cl.items (c : Cl) (u : V) : List V := [.int c.s, .int c.n, u, .int c.fi, .int c.fo]
def ClV (H : Hp) (v : V) (c : Cl) : Prop := ∃ a u, v = .ref a ∧ H a = some (.tup (c.items u)) ∧ OpV H u c.pa
theorem ClV.tk {H H' : Hp} {v : V} {c : Cl} (e : TK H H') (h : ClV H v c) : ClV H' v c := by
  obtain ⟨a, u, rfl, ha, hu⟩ := h
  exact ⟨a, u, rfl, e _ _ ha, hu.tk e⟩
def Cl.fin (c : Cl) : Int := c.s + c.n
def Cl.lev (c : Cl) (f : Int) : Int := if f - c.s < c.fi then 256 * (f - c.s + 1) / (c.fi + 1) else if c.n - (f - c.s) - 1 < c.fo then 256 * (c.n - (f - c.s) - 1 + 1) / (c.fo + 1) else 256
def spEnd (K : PySem.W.Frag) : Sp := fun vs H Q _ => ∃ cv c, vs = [cv] ∧ ClV H cv c ∧ Q (.int c.fin) H
/-- a list of so many ints of this kind stands at D -/
def IntsIn (H : Hp) (D : Addr) (n : Nat) (P : Int → Prop) : Prop := ∃ ns : List Int, H D = some (.lst (ns.map V.int)) ∧ ns.length = n ∧ ∀ x ∈ ns, P x
theorem IntsIn.snoc {H0 H H2 : Hp} {D : Addr} {n : Nat} {P : Int → Prop} {x : Int} (hD : H0 D = none) (e : Ex H0 H) (h : IntsIn H D n P) (e2 : Ex H H2) (hn : n ≤ 1000) (hx : P x) : ∃ acc, H2 D = some (.lst acc) ∧ acc.length < sizeLine ∧ Ex H0 (upd H2 D (.lst (acc ++ [.int x]))) ∧ IntsIn (upd H2 D (.lst (acc ++ [.int x]))) D (n + 1) P := by
  obtain ⟨ns, h1, h2, h3⟩ := h
  refine ⟨_, e2 _ _ h1, slineL (by rw [List.length_map]; omega), (e.trans e2).mut hD, ns ++ [x], by rw [upd_same, List.map_append]; rfl, by simp [h2], fun y hy => ?_⟩
  rcases List.mem_append.mp hy with z | z
  · exact h3 y z
  · rw [List.mem_singleton.mp z]
    exact hx
end Od
namespace Od
open PySem L2 Evl
def Pa.at : Pa → Int → Int → Pt
  | .solid v, _, _ => (v, 256)
  | .steps f s z, x, y => (if (x / z + y / z) % 2 = 0 then f else s, 256)
  | .pic p, x, y => p.at x y
def opAt : Option Pa → Int → Int → Pt
  | none, _, _ => (0, 256)
  | some p, x, y => p.at x y
theorem PaV.mk {H : Hp} {v : V} {p : Pa} (h : PaV H v p) : ∃ a xs, v = .ref a ∧ H a = some (.tup (.str p.word :: xs)) := by
  cases p with
  | solid x => obtain ⟨a, rfl, ha⟩ := h; exact ⟨a, _, rfl, ha⟩
  | steps f s z => obtain ⟨a, rfl, ha⟩ := h; exact ⟨a, _, rfl, ha⟩
  | pic p => obtain ⟨a, u, rfl, ha, _⟩ := h; exact ⟨a, _, rfl, ha⟩
end Od
namespace Od
open PySem L2 Evl
theorem at_head {x : V} {xs : List V} : atI (x :: xs) 0 = some x := by
  have e := atI_nat (xs := x :: xs) (j := 0) (v := x) rfl
  exact e
theorem cutV_mid {xs : List V} {lo hi : Int} (l0 : 0 ≤ lo) (lh : lo ≤ hi) (hh : hi ≤ xs.length) : cutV xs (some lo) (some hi) = (xs.drop lo.toNat).take (hi - lo).toNat := by
  unfold cutV
  obtain ⟨l, rfl⟩ := Int.eq_ofNat_of_zero_le l0
  obtain ⟨h, rfl⟩ := Int.eq_ofNat_of_zero_le (Int.le_trans l0 lh)
  rw [HT.sIx_nat, HT.sIx_nat, Nat.min_eq_left (by omega), Nat.min_eq_left (by omega)]
  congr 1
  omega
/-- its cover is 256 at each point of this size -/
def Full (o : Option Pa) (w h : Int) : Prop := o.isSome = true ∧ ∀ x y, 0 ≤ x → x < w → 0 ≤ y → y < h → (opAt o x y).2 = 256
def spFull (K : PySem.W.Frag) : Sp := fun vs H Q _ => ∃ v o m wd hg, vs = [v, .int wd, .int hg] ∧ OpV H v o ∧ opOk m o ∧ m ≤ 12 ∧ 1 ≤ wd ∧ wd ≤ 100 ∧ 1 ≤ hg ∧ hg ≤ 100 ∧ ∀ b H', Ex H H' → (b = true ↔ Full o wd hg) → Q (.bl b) H'
end Od
namespace Od
open PySem L2 Evl
structure Ly where
  m : Md
  lv : Int
  pa : Option Pa
structure Ly.Ok (l : Ly) : Prop where
  m : l.m.Ok
  l0 : 0 ≤ l.lv
  l1 : l.lv ≤ 256
  pa : opOk 8 l.pa
def LyV (H : Hp) (v : V) (l : Ly) : Prop := ∃ a mv pv, v = .ref a ∧ H a = some (.tup [mv, .int l.lv, pv]) ∧ MdV H mv l.m ∧ OpV H pv l.pa
theorem LyV.tk {H H' : Hp} {v : V} {l : Ly} (e : TK H H') (h : LyV H v l) : LyV H' v l := by
  obtain ⟨a, mv, pv, rfl, ha, hm, hp⟩ := h
  exact ⟨a, mv, pv, rfl, e _ _ ha, hm.tk e, hp.tk e⟩
abbrev LysV (H : Hp) : List V → List Ly → Prop := Paired (LyV H)
theorem LysV.tk {H H' : Hp} {vs : List V} {ls : List Ly} (e : TK H H') (h : LysV H vs ls) : LysV H' vs ls := Paired.mapP h fun _ _ => LyV.tk e
theorem pr_take {α β : Type} {G : α → β → Prop} : ∀ {l₁ : List α} {l₂ : List β} (n : Nat), Paired G l₁ l₂ → Paired G (l₁.take n) (l₂.take n)
  | _, _, 0, _ => by simp only [List.take_zero]; exact .nil
  | _, _, _ + 1, .nil => by simp only [List.take_nil]; exact .nil
  | _, _, n + 1, .cons h t => by simp only [List.take_succ_cons]; exact .cons h (pr_take n t)
theorem pr_drop {α β : Type} {G : α → β → Prop} : ∀ {l₁ : List α} {l₂ : List β} (n : Nat), Paired G l₁ l₂ → Paired G (l₁.drop n) (l₂.drop n)
  | _, _, 0, h => h
  | _, _, _ + 1, .nil => by simp only [List.drop_nil]; exact .nil
  | _, _, n + 1, .cons h t => by simp only [List.drop_succ_cons]; exact pr_drop n t
theorem cutV_take {xs : List V} {k : Nat} (h : k ≤ xs.length) : cutV xs none (some (k : Int)) = xs.take k := by
  unfold cutV
  rw [HT.sIx_nat, HT.sIx_none, Nat.min_eq_left h, List.drop_zero, Nat.sub_zero]
theorem cutV_drop {xs : List V} {k : Nat} (h : k ≤ xs.length) : cutV xs (some (k : Int)) none = xs.drop k := by
  unfold cutV
  rw [HT.sIx_nat, HT.sIx_none, Nat.min_eq_left h]
  exact List.take_of_length_le (by rw [List.length_drop]; omega)
/-- the value behind a layer -/
def Ly.step (x y : Int) (v : Int) (l : Ly) : Int := l.m.mix v (opAt l.pa x y).1 ((opAt l.pa x y).2 * l.lv / 256)
theorem cov_in {c l : Int} (c0 : 0 ≤ c) (c1 : c ≤ 256) (l0 : 0 ≤ l) (l1 : l ≤ 256) : 0 ≤ c * l / 256 ∧ c * l / 256 ≤ 256 := by
  have h0 : 0 ≤ c * l := Int.mul_nonneg c0 l0
  have h1 : c * l ≤ 256 * 256 := Int.le_trans (Int.mul_le_mul_of_nonneg_right c1 l0) (Int.mul_le_mul_of_nonneg_left l1 (by decide))
  omega
def Md.D : Md → PyData
  | .over => .tuple [.str "over"] | .add => .tuple [.str "add"] | .times => .tuple [.str "times"] | .invert => .tuple [.str "invert"] | .shift n => .tuple [.str "shift", .int n]
theorem MdV.dp {K : PySem.W.Frag} {H : Hp} {v : V} {m : Md} (h : MdV H v m) : Dp K H v m.D := by
  obtain ⟨a, rfl, ha⟩ := h
  cases m with
  | shift n => exact .tup (SqT.of ha) (.cons (.str _) (.cons (.int _) .nil))
  | _ => exact .tup (SqT.of ha) (.cons (.str _) .nil)
theorem Md.shaped (m : Md) : SeqAt.shaped m.D = true := by
  cases m with
  | shift n => exact shaped_of (by simp only [Md.D, PyData.canLay0, PyData.canLayAll0, Bool.and_self]; decide +kernel) (by simp only [Md.D, PyData.depth, PyData.depthAll]; decide)
  | _ => decide +kernel
end Od
namespace Od
open PySem L2 Evl
structure Mv where
  f : Int
  a : Int
  d : Int
deriving DecidableEq
structure Mv.Ok (m : Mv) : Prop where
  f0 : 0 ≤ m.f
  f1 : m.f ≤ 2000
  a0 : -1000 ≤ m.a
  a1 : m.a ≤ 1000
  d0 : -1000 ≤ m.d
  d1 : m.d ≤ 1000
def MvV (H : Hp) (v : V) (m : Mv) : Prop := ∃ p, v = .ref p ∧ H p = some (.tup [.int m.f, .int m.a, .int m.d])
theorem MvV.tk {H H' : Hp} {v : V} {m : Mv} (e : TK H H') (h : MvV H v m) : MvV H' v m := by
  obtain ⟨p, rfl, hp⟩ := h
  exact ⟨p, rfl, e _ _ hp⟩
abbrev MvsV (H : Hp) : List V → List Mv → Prop := Paired (MvV H)
theorem MvsV.tk {H H' : Hp} {vs : List V} {ms : List Mv} (e : TK H H') (h : MvsV H vs ms) : MvsV H' vs ms := Paired.mapP h fun _ _ => MvV.tk e
def MAsc (ms : List Mv) : Prop := ms.Pairwise fun x y => x.f < y.f
theorem filt_split {ms : List Mv} {p : Mv → Bool} {n : Nat} (h1 : ∀ m ∈ ms.take n, p m = true) (h2 : ∀ m ∈ ms.drop n, p m = false) : ms.filter p = ms.take n := by
  have e : ms.filter p = (ms.take n ++ ms.drop n).filter p := by rw [List.take_append_drop]
  rw [e, List.filter_append, List.filter_eq_self.mpr h1, List.filter_eq_nil_iff.mpr fun m hm => by rw [h2 m hm]; exact Bool.false_ne_true, List.append_nil]
theorem asc_le {ms : List Mv} (h : MAsc ms) {i j : Nat} {x y : Mv} (hx : ms[i]? = some x) (hy : ms[j]? = some y) (hij : i < j) : x.f < y.f := by
  obtain ⟨hi, ex⟩ := List.getElem?_eq_some_iff.mp hx
  obtain ⟨hj, ey⟩ := List.getElem?_eq_some_iff.mp hy
  have := List.pairwise_iff_getElem.mp h i j hi hj hij
  rw [ex, ey] at this
  exact this
theorem nil_or_snoc {α : Type} (l : List α) : l = [] ∨ ∃ k x, l = k ++ [x] := by
  rcases List.eq_nil_or_concat l with e | ⟨k, x, e⟩
  · exact .inl e
  · exact .inr ⟨k, x, by rw [e, List.concat_eq_append]⟩
/-- how many points are not behind a frame -/
def np (ms : List Mv) (f : Int) : Nat := (ms.filter fun m => decide (m.f ≤ f)).length
theorem np_of {ms : List Mv} {f : Int} {n : Nat} (hn : n ≤ ms.length) (h1 : ∀ m ∈ ms.take n, m.f ≤ f) (h2 : ∀ m ∈ ms.drop n, f < m.f) : np ms f = n := by
  unfold np
  rw [filt_split (n := n) (fun m hm => decide_eq_true (h1 m hm)) (fun m hm => decide_eq_false (by have := h2 m hm; omega)), List.length_take]
  omega
theorem asc_split : ∀ {ms : List Mv} (f : Int), MAsc ms → ∃ n, n ≤ ms.length ∧ (∀ m ∈ ms.take n, m.f ≤ f) ∧ ∀ m ∈ ms.drop n, f < m.f
  | [], f, _ => ⟨0, Nat.le_refl _, by simp, by simp⟩
  | m :: ms, f, h => by
    obtain ⟨h0, h1⟩ := List.pairwise_cons.mp h
    by_cases c : m.f ≤ f
    · obtain ⟨n, a, b, d⟩ := asc_split f h1
      refine ⟨n + 1, by simpa using a, fun x hx => ?_, fun x hx => d x (by simpa using hx)⟩
      rw [List.take_succ_cons] at hx
      rcases List.mem_cons.mp hx with rfl | z
      · exact c
      · exact b x z
    · refine ⟨0, Nat.zero_le _, by simp, fun x hx => ?_⟩
      rw [List.drop_zero] at hx
      rcases List.mem_cons.mp hx with rfl | z
      · omega
      · have := h0 x z
        omega
theorem np_split {ms : List Mv} {f : Int} (h : MAsc ms) : np ms f ≤ ms.length ∧ (∀ m ∈ ms.take (np ms f), m.f ≤ f) ∧ (∀ m ∈ ms.drop (np ms f), f < m.f) ∧ (ms.filter fun m => decide (m.f ≤ f)) = ms.take (np ms f) ∧ (ms.filter fun m => decide (f < m.f)) = ms.drop (np ms f) := by
  obtain ⟨n, a, b, c⟩ := asc_split f h
  rw [np_of a b c]
  refine ⟨a, b, c, filt_split (fun m hm => decide_eq_true (b m hm)) (fun m hm => decide_eq_false (by have := c m hm; omega)), ?_⟩
  have e : (ms.filter fun m => decide (f < m.f)) = (ms.take n ++ ms.drop n).filter fun m => decide (f < m.f) := by rw [List.take_append_drop]
  rw [e, List.filter_append, List.filter_eq_nil_iff.mpr fun m hm => by have := b m hm; rw [decide_eq_false (by omega)]; exact Bool.false_ne_true, List.nil_append, List.filter_eq_self.mpr fun m hm => decide_eq_true (c m hm)]
/-- on the line between two points -/
def ln (v w g s : Int) : Int := v + (w - v) * g / s
def btw (x y : Mv) (f : Int) : Pt := (ln x.a y.a (f - x.f) (y.f - x.f), ln x.d y.d (f - x.f) (y.f - x.f))
def off (ms : List Mv) (f : Int) : Pt :=
  match (ms.take (np ms f)).getLast?, (ms.drop (np ms f)).head? with
  | some x, some y => btw x y f
  | some x, none => (x.a, x.d)
  | none, some y => (y.a, y.d)
  | none, none => (0, 0)
def Mv.later (l : Int) (m : Mv) : Mv := ⟨m.f + l, m.a, m.d⟩
theorem last_take {ms : List Mv} {k : Nat} {x : Mv} (h : ms[k]? = some x) : (ms.take (k + 1)).getLast? = some x := by
  rw [List.take_add_one, h]
  simp
theorem head_drop {ms : List Mv} {k : Nat} : (ms.drop k).head? = ms[k]? := by
  rw [List.head?_eq_getElem?, List.getElem?_drop]
  rfl
theorem np_at {ms : List Mv} (h : MAsc ms) {k : Nat} {x : Mv} {f : Int} (hx : ms[k]? = some x) (h0 : x.f ≤ f) (h1 : ∀ y, ms[k + 1]? = some y → f < y.f) : np ms f = k + 1 := by
  have hk := (List.getElem?_eq_some_iff.mp hx).1
  refine np_of hk (fun m hm => ?_) (fun m hm => ?_)
  · obtain ⟨i, hi⟩ := List.getElem?_of_mem hm
    rw [List.getElem?_take] at hi
    split at hi
    · by_cases e : i = k
      · subst e
        rw [hx] at hi
        cases hi
        exact h0
      · have := asc_le h hi hx (by omega)
        omega
    · cases hi
  · obtain ⟨i, hi⟩ := List.getElem?_of_mem hm
    rw [List.getElem?_drop] at hi
    by_cases e : i = 0
    · subst e
      exact h1 m hi
    · have hk1 : k + 1 < ms.length := by
        have := (List.getElem?_eq_some_iff.mp hi).1
        omega
      have a := h1 _ (List.getElem?_eq_getElem hk1)
      have b := asc_le h (List.getElem?_eq_getElem hk1) hi (by omega)
      omega
theorem off_mid {ms : List Mv} (h : MAsc ms) {k : Nat} {x y : Mv} {f : Int} (hx : ms[k]? = some x) (hy : ms[k + 1]? = some y) (h0 : x.f ≤ f) (h1 : f < y.f) : off ms f = btw x y f := by
  unfold off
  rw [np_at h hx h0 fun z hz => by rw [hy] at hz; cases hz; exact h1, last_take hx, head_drop, hy]
def mvD (m : Mv) : PyData := .tuple [.int m.f, .int m.a, .int m.d]
theorem MvV.dp {K : PySem.W.Frag} {H : Hp} {v : V} {m : Mv} (h : MvV H v m) : Dp K H v (mvD m) := by
  obtain ⟨p, rfl, hp⟩ := h
  exact .tup (SqT.of hp) (.cons (.int _) (.cons (.int _) (.cons (.int _) .nil)))
end Od
namespace Od
open PySem PySem.Spec PyProof.Rows L2
open AutoSeq1 (wpAny_loadPart')
open Sem (wp)
theorem ent_new (l : Addr) (xs : Array Value) (n : Nat) (dx : Option Addr) (sl : Array (Option Value)) :
    Meets (Builtin.«enumerate.__new__» ⟨[.type "enumerate", .ref l], []⟩) (fun _ R s =>
      s.heap.get? l = some { cls := .type "tuple", dict := dx, data := .seq xs n, slots := sl } ∧ R (.ok (.ret (.ref (s.heap.objs.size + 1))))
        { s with heap := (s.heap.push { cls := .type "tuple_iterator", data := .fields #[.ref l, .int 0 0] }).push { cls := .type "enumerate", data := .fields #[.none, .bool false, .ref s.heap.objs.size, rawInt 0, .none, .none] } }) :=
  .of_wp fun prog w A R s ⟨look, fin⟩ => by
    obtain ⟨hp, gens, drawn, tk, os⟩ := s
    have isub := sub_enumerate
    have isT : Heap.IsTuple (Shared.heap ⟨hp, gens, drawn, tk, os⟩) l xs := ⟨_, look, rfl, n, rfl⟩
    have esz : (hp.push { cls := .type "tuple_iterator", data := .fields #[.ref l, .int 0 0] }).objs.size = hp.objs.size + 1 := Heap.size_push ..
    rw [← esz] at fin
    wp_walk using wpAny_loadPart' look
    refine wpAny_stack_any fun stk => wpAny_pure ?_
    split
    · rename_i cl _ _ _ _ _
      rcases (cl == Value.type "enumerate")
      all_goals (wp_walk using wpAny_loadPart' look, wpAny_pyIter_tuple isT; exact ⟨_, rfl, fin⟩)
    · wp_walk using wpAny_loadPart' look, wpAny_pyIter_tuple isT
      exact ⟨_, rfl, fin⟩
section
variable {prog : Program} {w : World} {A : Around} {E : Value → Shared → Prop} {s : Shared}
theorem ent_make {l : Addr} {xs : Array Value} {Q : Value → Shared → Prop} (isT : s.heap.IsTuple l xs)
    (q : ∀ h', IsEnum h' (s.heap.objs.size + 1) s.heap.objs.size 0 .none → h'.IsTupleIter s.heap.objs.size l 0 →
      (∀ b o, s.heap.get? b = some o → h'.get? b = some o) → Q (.ref (s.heap.objs.size + 1)) { s with heap := h' }) :
    wpAny (model prog w) A (call (.type "enumerate") [.ref l]) Q E s := by
  obtain ⟨⟨cl, dx, dat, sl⟩, look, ec, n, ed⟩ := isT
  have ec : cl = .type "tuple" := ec
  have ed : dat = .seq xs n := ed
  subst ec
  subst ed
  refine callType_new F.called_enumerate (by decide) (F.typeCall_enumerate_1 _) (F.newCall_enumerate_1 _) (fun ob => F.args_object_init_2 ob _) F.entry_enumerate_new (ent_new l xs n dx sl) ⟨look, ?_⟩
  have esz : (s.heap.push { cls := .type "tuple_iterator", data := .fields #[.ref l, .int 0 0] }).objs.size = s.heap.objs.size + 1 := Heap.size_push ..
  have isE : IsEnum ((s.heap.push { cls := .type "tuple_iterator", data := .fields #[.ref l, .int 0 0] }).push { cls := .type "enumerate", data := .fields #[.none, .bool false, .ref s.heap.objs.size, rawInt 0, .none, .none] }) (s.heap.objs.size + 1) s.heap.objs.size 0 .none :=
    esz ▸ Heap.get?_push_size _ rfl
  exact ⟨⟨_, isE, rfl⟩, q _ isE ⟨_, Heap.get?_push_of_some _ (Heap.get?_push_size _ rfl), rfl, rfl⟩ fun b o e => Heap.get?_push_of_some _ (Heap.get?_push_of_some _ e)⟩
theorem tnx_item {it t : Addr} {i : Nat} {xs : Array Value} {x : Value} {Q : Value → Shared → Prop} (st : s.heap.IsTupleIter it t i) (isT : s.heap.IsTuple t xs) (ex : xs[i]? = some x)
    (q : ∀ h', h'.IsTupleIter it t (i + 1) → Heap.SameBut it s.heap h' → Q x { s with heap := h' }) : wpAny (model prog w) A (Builtin.SmallTypes.nextOf (.ref it)) Q E s := by
  have ty := st.typeIs
  obtain ⟨oi, looki, ci, di⟩ := st
  obtain ⟨ot, lookt, _, n, dt⟩ := isT
  unfold Builtin.SmallTypes.nextOf
  refine wpAny_bind (wpAny_callSpecial?_slot (name := Str.ofString "__next__") ty F.slot_tuple_iterator_next (wpAny_call_entry F.slot_tuple_iterator_next ty F.entry_tuple_iterator_next ?_ (F.args_tuple_iterator_next_1 _)))
  refine wpAny_bind (m := field (.ref it) 0) (wpAny_field looki di (x := .ref t) rfl ?_)
  have alive : ¬ (Value.ref t == Value.none) = true := fun z => Bool.noConfusion z
  change wpAny _ _ (if (Value.ref t == Value.none) = true then _ else _) _ _ s
  rw [if_neg alive]
  refine wpAny_bind (m := field (.ref it) 1) (wpAny_field looki di (x := .int i 0) rfl (wpAny_bind (m := seqItems? (.ref t)) (wpAny_seqItems lookt dt ?_)))
  simp only [Int.toNat_natCast, ex]
  refine wpAny_bind (wpAny_setField looki di (by simp) (wpAny_pure ⟨x, rfl, wpAny_pure (q _ ⟨_, Heap.get?_update_self _ looki (Obj.isFreed_of_fields (Obj.data_mapFields di _)), (Obj.cls_mapFields ..).trans ci, ?_⟩ (Heap.SameBut.update ..))⟩))
  rw [Obj.data_mapFields di]
  simp [rawInt]
theorem tnx_end {it t : Addr} {i : Nat} {xs : Array Value} {Q : Value → Shared → Prop} (hh : A.handled = none) (st : s.heap.IsTupleIter it t i) (isT : s.heap.IsTuple t xs) (ex : xs[i]? = none)
    (q : ∀ h' e, Heap.ExtBut it s.heap h' → (∃ o, h'.get? e = some o ∧ o.cls = .type "StopIteration") → E (.ref e) { s with heap := h' }) : wpAny (model prog w) A (Builtin.SmallTypes.nextOf (.ref it)) Q E s := by
  have ty := st.typeIs
  obtain ⟨oi, looki, ci, di⟩ := st
  obtain ⟨ot, lookt, _, n, dt⟩ := isT
  unfold Builtin.SmallTypes.nextOf
  refine wpAny_bind (wpAny_callSpecial?_slot (name := Str.ofString "__next__") ty F.slot_tuple_iterator_next (wpAny_call_entry F.slot_tuple_iterator_next ty F.entry_tuple_iterator_next ?_ (F.args_tuple_iterator_next_1 _)))
  refine wpAny_bind (m := field (.ref it) 0) (wpAny_field looki di (x := .ref t) rfl ?_)
  have alive : ¬ (Value.ref t == Value.none) = true := fun z => Bool.noConfusion z
  change wpAny _ _ (if (Value.ref t == Value.none) = true then _ else _) _ _ s
  rw [if_neg alive]
  refine wpAny_bind (m := field (.ref it) 1) (wpAny_field looki di (x := .int i 0) rfl (wpAny_bind (m := seqItems? (.ref t)) (wpAny_seqItems lookt dt ?_)))
  simp only [Int.toNat_natCast, ex]
  refine wpAny_bind (wpAny_rule (wpAny_bind (wpAny_setField looki di (by simp) (wpAny_bind (m := newExc (.type "StopIteration") []) ?_))))
  simp only [newExc, newTuple]
  refine wpAny_bind (wpAny_newObj_type (wpAny_bind (m := firstArgMember _ _) (wpAny_of_eq (a := Value.none) (by first | rfl | (simp only [firstArgMember]; rfl)) (wpAny_newObj_type ?_ (by size_fits)))) (by size_fits))
  simp only [raiseNew]
  refine wpAny_bind (wpAny_handled ?_)
  first
    | rw [show A.in1.handled = none from hh]
    | rw [hh]
  exact wpAny_bind (wpAny_pure (wpAny_throw (q _ _ (((Heap.SameBut.update ..).extBut.push _).push _) ⟨_, Heap.get?_push_size _ rfl, rfl⟩)))
/-- one turn: a new pair of the number and the item -/
theorem ent_turn {e it l : Addr} {i : Nat} {xs : Array Value} {x old : Value} {Q : Option Value → Shared → Prop} (isE : IsEnum s.heap e it i old) (st : s.heap.IsTupleIter it l i) (isT : s.heap.IsTuple l xs) (ex : xs[i]? = some x) (apart : e ≠ it)
    (q : ∀ h', IsEnumOut h' e it ((i : Int) + 1) x s.heap.objs.size → h'.IsTupleIter it l (i + 1) → h'.get? s.heap.objs.size = some { cls := .type "tuple", data := .seq #[.int i s.toks, x] } →
      (∀ b o, b ≠ e → b ≠ it → s.heap.get? b = some o → h'.get? b = some o) → Q (some (.ref s.heap.objs.size)) { s with heap := h', toks := s.toks + 1 }) :
    wpAny (model prog w) A (pyNext (.ref e)) Q E s := by
  have ty : s.TypeIs (.ref e) "enumerate" := ⟨_, isE, rfl⟩
  have low := Heap.lt_size isE
  unfold pyNext
  refine wpAny_bind (wpAny_attempt (wpAny_callSpecial?_slot (name := Str.ofString "__next__") ty F.slot_enumerate_next (wpAny_call_entry F.slot_enumerate_next ty F.entry_enumerate_next ?_ (F.args_enumerate_next_1 _))))
  obtain ⟨hp, gens, drawn, tk, os⟩ := s
  refine wpAny_bind (m := field (.ref e) 2) (wpAny_field isE rfl (x := .ref it) rfl (wpAny_bind (tnx_item st isT ex fun k1 st1 sb1 => ?_)))
  have sb1 : Heap.SameBut it hp k1 := sb1
  have f1 : IsEnum k1 e it i old := (sb1.2 e apart).trans isE
  refine wpAny_bind (m := field (.ref e) 3) (wpAny_field f1 rfl (x := rawInt i) rfl (wpAny_bind (m := field (.ref e) 4) (wpAny_field f1 rfl (x := .none) rfl (wpAny_bind (m := mkInt i) (wpAny_mkInt (wpAny_bind (wpAny_setField_rec f1 (by simp) fun k2 f2 sb2 => ?_)))))))
  have sb2 : Heap.SameBut e k1 k2 := sb2
  have f2 : IsEnum k2 e it ((i : Int) + 1) old := f2
  refine wpAny_bind (wpAny_setField_rec f2 (by simp) fun k3 f3 sb3 => ?_)
  have sb3 : Heap.SameBut e k2 k3 := sb3
  have f3 : IsEnum k3 e it ((i : Int) + 1) old := f3
  refine wpAny_bind (m := newTuple [.int i tk, x]) (wpAny_newTuple ?_)
  have size3 : k3.objs.size = hp.objs.size := by rw [sb3.1, sb2.1, sb1.1]
  have back : ∀ b o, b ≠ e → b ≠ it → hp.get? b = some o → (k3.push { cls := .type "tuple", data := .seq #[.int i tk, x] }).get? b = some o := fun b o be bi hb =>
    Heap.get?_push_of_some _ (sb3.extBut b o be (sb2.extBut b o be (sb1.extBut b o bi hb)))
  have pair : (k3.push { cls := .type "tuple", data := .seq #[.int i tk, x] }).get? hp.objs.size = some { cls := .type "tuple", data := .seq #[.int i tk, x] } := size3 ▸ Heap.get?_push_size _ rfl
  have st3 := (st1.extBut sb2.extBut (Ne.symm apart)).extBut sb3.extBut (Ne.symm apart)
  have st4 : (k3.push { cls := .type "tuple", data := .seq #[.int i tk, x] }).IsTupleIter it l (i + 1) := by
    obtain ⟨o3, look3, rest3⟩ := st3
    exact ⟨o3, Heap.get?_push_of_some _ look3, rest3⟩
  have f4 : IsEnum (k3.push { cls := .type "tuple", data := .seq #[.int i tk, x] }) e it ((i : Int) + 1) old := Heap.get?_push_of_some _ f3
  rw [show (Value.ref k3.objs.size) = .ref hp.objs.size from congrArg Value.ref size3]
  generalize k3.push { cls := .type "tuple", data := .seq #[.int i tk, x] } = k4 at back pair st4 f4
  refine wpAny_bind (m := Builtin.SmallTypes.ownedTupleIsFree (.ref e)) ?_
  unfold Builtin.SmallTypes.ownedTupleIsFree
  refine wpAny_bind (wpAny_field f4 rfl (x := .none) rfl (wpAny_pure ?_))
  simp only [if_true]
  refine wpAny_bind (wpAny_rule (wpAny_bind (wpAny_field f4 rfl (x := old) rfl (wpAny_bind (wpAny_setField_rec f4 (by simp) fun k5 f5 sb5 => ?_)))))
  have sb5 : Heap.SameBut e k4 k5 := sb5
  have f5 : IsEnum k5 e it ((i : Int) + 1) x := f5
  refine wpAny_bind (m := Builtin.SmallTypes.ownedTupleHandOut (.ref e) (.ref hp.objs.size)) ?_
  unfold Builtin.SmallTypes.ownedTupleHandOut
  refine wpAny_bind (wpAny_setField_rec f5 (by simp) fun k6 f6 sb6 => ?_)
  have sb6 : Heap.SameBut e k5 k6 := sb6
  have f6 : IsEnumOut k6 e it ((i : Int) + 1) x hp.objs.size := f6
  refine wpAny_setField_rec f6 (by simp) fun k7 f7 sb7 => ?_
  have sb7 : Heap.SameBut e k6 k7 := sb7
  have f7 : IsEnumOut k7 e it ((i : Int) + 1) x hp.objs.size := f7
  have low : e < hp.objs.size := low
  refine wpAny_bind (wpAny_letGo (wpAny_pure ⟨_, rfl, wpAny_pure (q k7 f7 ?_ ?_ ?_)⟩))
  · exact ((st4.extBut sb5.extBut (Ne.symm apart)).extBut sb6.extBut (Ne.symm apart)).extBut sb7.extBut (Ne.symm apart)
  · exact sb7.extBut _ _ (Nat.ne_of_gt low) (sb6.extBut _ _ (Nat.ne_of_gt low) (sb5.extBut _ _ (Nat.ne_of_gt low) pair))
  · exact fun b o be bi hb => sb7.extBut b o be (sb6.extBut b o be (sb5.extBut b o be (back b o be bi hb)))
theorem ent_stop {e it l : Addr} {i : Nat} {xs : Array Value} {old : Value} {Q : Option Value → Shared → Prop} (hh : A.handled = none) (isE : IsEnum s.heap e it i old) (st : s.heap.IsTupleIter it l i) (isT : s.heap.IsTuple l xs) (ex : xs[i]? = none)
    (q : ∀ h', Heap.ExtBut it s.heap h' → Q none { s with heap := h' }) : wpAny (model prog w) A (pyNext (.ref e)) Q E s := by
  have ty : s.TypeIs (.ref e) "enumerate" := ⟨_, isE, rfl⟩
  unfold pyNext
  refine wpAny_bind (wpAny_attempt (wpAny_callSpecial?_slot (name := Str.ofString "__next__") ty F.slot_enumerate_next (wpAny_call_entry F.slot_enumerate_next ty F.entry_enumerate_next ?_ (F.args_enumerate_next_1 _))))
  refine wpAny_bind (m := field (.ref e) 2) (wpAny_field isE rfl (x := .ref it) rfl (wpAny_bind (tnx_end hh st isT ex fun k x ext ⟨o, look, ec⟩ => ?_)))
  exact wpAny_bind (wpAny_isInstance (T := "StopIteration") (b := true) ⟨o, look, ec⟩ isSubtype_stop (wpAny_pure (q _ ext)))
end
/-- the tuple at a, each item in a new pair with its number -/
def ItET (K : PySem.W.Frag) (a : Addr) : It where
  go := fun i H => ∃ (xs : List V) (x : V), SqT K H a xs ∧ xs[i]? = some x
  yld := fun i H v H' => ∃ T x, v = .ref T ∧ H T = none ∧ H' = upd H T (.tup [.int (i : Nat), x]) ∧ ∀ xs, SqT K H a xs → xs[i]? = some x
  stop := fun i H => ∃ xs : List V, SqT K H a xs ∧ xs.length ≤ i
theorem turn_ET {P : Program} {w : World} {K : PySem.W.Frag} {elts : List Expr} {kk : Nat} {tpos : Pos} (a e it : Addr) :
    Turn P w K (.Tuple elts kk tpos) (ItET K a) [e, it] e (fun i h => (∃ old, IsEnum h e it ((i : Nat) : Int) old) ∧ h.IsTupleIter it a i ∧ e ≠ it) where
  mem := List.mem_cons_self
  obj := fun i h ⟨⟨_, isE⟩, ⟨o, look, _, dat⟩, _⟩ b hb => by
    rcases (by simpa using hb : b = e ∨ b = it) with rfl | rfl
    · exact ⟨_, isE, fun v z => nomatch z⟩
    · exact ⟨o, look, fun v z => by rw [dat] at z; cases z⟩
  keep := fun i h h' ⟨⟨old, isE⟩, st, ap⟩ k => ⟨⟨old, k e (by simp) _ isE⟩, st.at fun o z => k it (by simp) o z, ap⟩
  item := by
    intro X eP ew eK hc i pins s σ H E I hf st go
    subst eP ew eK
    obtain ⟨⟨old, isE⟩, st, ap⟩ := st
    obtain ⟨xs, x, sq, hx⟩ := go
    obtain ⟨vs, rel, isT, _⟩ := I.tuple sq
    obtain ⟨u, hu, ru⟩ := rel.get hx
    have le : e < s.heap.objs.size := Heap.lt_size isE
    have li : it < s.heap.objs.size := by obtain ⟨_, z, _⟩ := st; exact Heap.lt_size z
    refine ent_turn isE st (show s.heap.IsTuple a vs.toArray from isT) (x := u) (by simpa using hu) ap fun h1 o1 st1 pair1 k1 => ?_
    refine ⟨_, rfl, wpAny_letOwnedTupleGo_enum (s := { s with heap := h1, toks := s.toks + 1 }) o1 fun h2 o2 sb => ?_⟩
    have pair2 : h2.get? s.heap.objs.size = some { cls := .type "tuple", data := .seq #[.int i s.toks, u] } := (sb.2 _ (Nat.ne_of_gt le)).trans pair1
    have fresh : ObjOk X.prog X.w (upd H s.heap.objs.size (.tup [.int (i : Nat), x])) h2 s.heap.objs.size (.tup [.int (i : Nat), x]) :=
      ⟨by show 2 ≤ sizeLine; decide, [.int i s.toks, u], .cons ⟨_, rfl⟩ (.cons ru .nil), ⟨_, pair2, rfl, _, rfl⟩⟩
    have J : Inv X pins σ (upd H s.heap.objs.size (.tup [.int (i : Nat), x])) { s with heap := h2, toks := s.toks + 1 } :=
      I.turnedNew (ch := [e, it]) (fun b ob nb z => (sb.2 b (fun y => nb (by simp [y]))).trans (k1 b ob (fun y => nb (by simp [y])) (fun y => nb (by simp [y])) z)) hf (Nat.le_refl _) fresh
    refine ⟨.ref s.heap.objs.size, _, J, rfl, ⟨_, x, rfl, I.hok.fresh (Nat.le_refl _), rfl, fun ys hy => by rw [I.tuple_inj hy sq]; exact hx⟩, ⟨⟨u, ?_⟩, st1.at fun o z => (sb.2 it (Ne.symm ap)).trans z, ap⟩, fun b hb => ?_⟩
    · rw [show ((i + 1 : Nat) : Int) = (i : Int) + 1 by omega]
      exact o2
    · have lb : b < s.heap.objs.size := by
        rcases (by simpa using hb : b = e ∨ b = it) with z | z
        · rw [z]; exact le
        · rw [z]; exact li
      rw [upd_ne (Nat.ne_of_lt lb)]
      exact (hf b hb).1
  done := by
    intro X eP ew eK hc i pins s σ H E I hf st go
    subst eP ew eK
    obtain ⟨⟨old, isE⟩, st, ap⟩ := st
    obtain ⟨xs, sq, hx⟩ := go
    obtain ⟨vs, rel, isT, _⟩ := I.tuple sq
    obtain ⟨g0, g1, g2, g3, g4, g5⟩ := hf it (by simp)
    have hlen := rel.length
    exact ent_stop (I.ok.hd hc) isE st (show s.heap.IsTuple a vs.toArray from isT) (by simp; omega) fun h1 ext => ⟨rfl, I.turned (t' := s.toks) (fun b o nb z => ext b o nb z) g0 g1 g3 g4 g5⟩
  self := fun A i s Q E ⟨⟨_, isE⟩, _⟩ h => wpAny_pyIter_enum isE h
def iET (K : PySem.W.Frag) (ta : TA) : TI := fun σ H R => ta σ H fun vs H1 => ∃ a xs, vs = [.ref a] ∧ SqT K H1 a xs ∧ R (ItET K a) H1
theorem kpiET {X : Cx} {e : Expr} {ta : TA} {p pos tpos : Pos} {elts : List Expr} {kk : Nat} (K : PySem.W.Frag) (hg : Gl X "enumerate") (hm : X.mg "enumerate" = none) (ha : PA X [e] ta) (hs : starEach [e] X.env = [(false, eval e X.env)] := by rfl) (hK : X.K = K := by rfl) :
    PI X (.Tuple elts kk tpos) (.Call (.Name "enumerate" p) [e] [] pos) (iET K ta) := by
  subst hK
  refine ⟨fun pins s σ H R I h => Call_ (ld_blt I hg hm boot_enumerate (PyProof.Rows.callWith_type1 (thn (ha.run pos pins s σ H _ I h) fun us s1 ⟨vs, H1, J, r, a, xs, ev, sq, q⟩ => ?_) hs rfl))⟩
  subst ev
  cases r with
  | cons r rr =>
    cases rr
    cases r
    obtain ⟨ws, rel, isT, _⟩ := J.tuple sq
    refine ent_make (show s1.heap.IsTuple a ws.toArray from isT) fun h1 isE st k => wpAny_pyIter_enum isE ?_
    refine ⟨s1.heap.objs.size + 1, [s1.heap.objs.size + 1, s1.heap.objs.size], _, _, H1, rfl, J.kept (t' := s1.toks) k, turn_ET a _ _, ⟨⟨.none, isE⟩, st, Nat.succ_ne_self _⟩, fun b hb => ?_, q⟩
    have lb : s1.heap.objs.size ≤ b := by
      rcases (by simpa using hb : b = s1.heap.objs.size + 1 ∨ b = s1.heap.objs.size) with z | z
      · rw [z]; exact Nat.le_succ _
      · rw [z]; exact Nat.le_refl _
    exact J.fpOk lb (J.hok.fresh lb)
theorem walk_ET {K : PySem.W.Frag} {a : Addr} {xs : List V} : Walk (ItET K a) xs.length (fun H => SqT K H a xs) (YPair (fun i => some (.int (i : Nat))) (fun i => xs[i]?)) := by
  refine ⟨fun i _ hi q => ⟨xs, xs[i], q, by simp [hi]⟩, fun _ q => ⟨xs, q, Nat.le_refl _⟩, fun i H v H' _ q ⟨T, x, h1, h2, h3, h4⟩ => ?_⟩
  exact ⟨T, .int (i : Nat), x, h1, h2, h3, rfl, h4 xs q⟩
/-- for k, x in enumerate(t): -/
theorem for_ET {K : PySem.W.Frag} {a : Addr} {xs : List V} {g : TG} {tb : TS} {D : Ends} {σ : L2.St} {H : Hp} (Pv : Nat → L2.St → Hp → Prop) (h0 : Pv 0 σ H) (hl : ∀ i σ H, i ≤ xs.length → Pv i σ H → SqT K H a xs)
    (hs : ∀ i x σ H T, xs[i]? = some x → Pv i σ H → H T = none → g (.ref T) σ (upd H T (.tup [.int (i : Nat), x])) fun σ2 H2 => tb { D with nx := Pv (i + 1), ct := Pv (i + 1), bk := D.nx } σ2 H2) (hd : ∀ σ H, Pv xs.length σ H → D.nx σ H) :
    ∃ W : Nat → Nat → L2.St → Hp → Prop, (∃ m, W 0 m σ H) ∧ ∀ i m σ H, W i m σ H →
      ((ItET K a).stop i H ∧ D.nx σ H) ∨ ((ItET K a).go i H ∧ ∃ N : L2.St → Hp → Prop, (∀ σ' H', N σ' H' → ∃ m', m' < m ∧ W (i + 1) m' σ' H') ∧ ∀ x H', (ItET K a).yld i H x H' → g x σ H' fun σ2 H2 => tb { D with nx := N, ct := N, bk := D.nx } σ2 H2) := by
  refine ⟨fun i m σ H => m = xs.length - i ∧ i ≤ xs.length ∧ Pv i σ H, ⟨_, rfl, Nat.zero_le _, h0⟩, ?_⟩
  rintro i m σ H ⟨rfl, hi, p⟩
  have sq := hl i σ H hi p
  by_cases lt : i < xs.length
  · refine .inr ⟨walk_ET.goes i H lt sq, Pv (i + 1), fun σ' H' p' => ⟨xs.length - (i + 1), by omega, rfl, lt, p'⟩, fun x H' y => ?_⟩
    obtain ⟨T, n, z, rfl, h2, rfl, h3, h4⟩ := walk_ET.yields i H x H' lt sq y
    cases h3
    exact hs i z σ H T h4 p h2
  · have e : i = xs.length := by omega
    subst e
    exact .inl ⟨walk_ET.stops H sq, hd σ H p⟩
end Od
namespace Od
open PySem L2 Evl
abbrev ClsV (H : Hp) : List V → List Cl → Prop := Paired (ClV H)
theorem ClsV.tk {H H' : Hp} {vs : List V} {cs : List Cl} (e : TK H H') (h : ClsV H vs cs) : ClsV H' vs cs := Paired.mapP h fun _ _ => ClV.tk e
/-- the clip is there at the frame -/
def Cl.here (c : Cl) (f : Int) : Prop := c.s ≤ f ∧ f < c.fin
/-- the first clip that is there -/
def First (cs : List Cl) (f : Int) : Option Nat → Prop
  | none => ∀ c ∈ cs, ¬ c.here f
  | some i => ∃ c, cs[i]? = some c ∧ c.here f ∧ ∀ j < i, ∀ d, cs[j]? = some d → ¬ d.here f
theorem First.uniq {cs : List Cl} {f : Int} {o p : Option Nat} (h : First cs f o) (k : First cs f p) : o = p := by
  cases o with
  | none =>
    cases p with
    | none => rfl
    | some i =>
      obtain ⟨c, hc, h1, _⟩ := k
      exact absurd h1 (h c (List.mem_of_getElem? hc))
  | some i =>
    obtain ⟨c, hc, h1, h2⟩ := h
    cases p with
    | none => exact absurd h1 (k c (List.mem_of_getElem? hc))
    | some j =>
      obtain ⟨d, hd, k1, k2⟩ := k
      by_cases e : i = j
      · rw [e]
      · by_cases lt : i < j
        · exact absurd h1 (k2 i lt c hc)
        · exact absurd k1 (h2 j (by omega) d hd)
def idxV : Option Nat → V
  | none => .non
  | some i => .int (i : Nat)
def spClipAt (K : PySem.W.Frag) : Sp := fun vs H Q _ => ∃ a us cs f, vs = [.ref a, .int f] ∧ H a = some (.tup us) ∧ ClsV H us cs ∧ ∀ o H', Ex H H' → First cs f o → Q (idxV o) H'
/-- what stands in the lane -/
def LnV (H : Hp) (v : V) (cs : List Cl) (f : Int) : Option Nat → Prop
  | none => v = .non
  | some i => ∃ c a u, cs[i]? = some c ∧ v = .ref a ∧ H a = some (.tup [u, .int (c.lev f)]) ∧ OpV H u c.pa
theorem LnV.tk {H H' : Hp} {v : V} {cs : List Cl} {f : Int} {o : Option Nat} (e : TK H H') (h : LnV H v cs f o) : LnV H' v cs f o := by
  cases o with
  | none => exact h
  | some i =>
    obtain ⟨c, a, u, hc, rfl, ha, hu⟩ := h
    exact ⟨c, a, u, hc, rfl, e _ _ ha, hu.tk e⟩
theorem Pa.lay (p : Pa) : p.D.canLay0 = true := by
  cases p with
  | solid x => simp only [Pa.D, PyData.canLay0, PyData.canLayAll0, Bool.and_true]; decide +kernel
  | steps f s z => simp only [Pa.D, PyData.canLay0, PyData.canLayAll0, Bool.and_true]; decide +kernel
  | pic p =>
    simp only [Pa.D, PyData.canLay0, PyData.canLayAll0, Bool.and_true, pc_lay]
    decide +kernel
theorem op_lay (o : Option Pa) : (opD o).canLay0 = true := by
  cases o with
  | none => rfl
  | some p => exact p.lay
theorem pcD_depth (p : Pc) : (pcD p).depth ≤ 2 := by
  simp only [pcD, PyData.depth, PyData.depthAll, depth_ints]
  decide
theorem op_depth (o : Option Pa) : (opD o).depth ≤ 3 := by
  cases o with
  | none => decide
  | some p =>
    cases p with
    | solid x => simp only [opD, Pa.D, PyData.depth, PyData.depthAll]; decide
    | steps f s z => simp only [opD, Pa.D, PyData.depth, PyData.depthAll]; decide
    | pic p =>
      have := pcD_depth p
      simp only [opD, Pa.D, PyData.depth, PyData.depthAll]
      omega
end Od
namespace Od
open PySem L2 Evl
def Apart (cs : List Cl) : Prop := cs.Pairwise fun c d => c.fin ≤ d.s
/-- what a word of the timeline gives: clips, or an error's word and place -/
inductive TL where
  | ok (cs : List Cl) | err (w : Str) (n : Int)
def Cl.keep (a b : Int) (c : Cl) : Bool := decide (c.fin ≤ a) || decide (b ≤ c.s)
def Cl.shift (n : Int) (c : Cl) : Cl := ⟨c.s + n, c.n, c.pa, c.fi, c.fo⟩
/-- the answer as a value -/
def ResV (H : Hp) (v : V) : TL → Prop
  | .ok cs => ∃ a us, v = .ref a ∧ H a = some (.tup us) ∧ ClsV H us cs
  | .err w n => ∃ a, v = .ref a ∧ H a = some (.lst [.str w, .int n])
theorem ResV.ex {H H' : Hp} {v : V} {r : TL} (e : Ex H H') (h : ResV H v r) : ResV H' v r := by
  cases r with
  | ok cs =>
    obtain ⟨a, us, rfl, h1, h2⟩ := h
    exact ⟨a, us, rfl, e _ _ h1, h2.tk (TK.ex e)⟩
  | err w n =>
    obtain ⟨a, rfl, h1⟩ := h
    exact ⟨a, rfl, e _ _ h1⟩
def clD (c : Cl) : PyData := .tuple [.int c.s, .int c.n, opD c.pa, .int c.fi, .int c.fo]
theorem ClV.dp {K : PySem.W.Frag} {H : Hp} {v : V} {c : Cl} (h : ClV H v c) : Dp K H v (clD c) := by
  obtain ⟨a, u, rfl, ha, hu⟩ := h
  exact .tup (SqT.of ha) (.cons (.int _) (.cons (.int _) (.cons hu.dp (.cons (.int _) (.cons (.int _) .nil)))))
def clsD (cs : List Cl) : PyData := .tuple (cs.map clD)
/-- the words of the timeline -/
inductive Ask where
  | cut (m : Int) | join (p : Int) | move (p d : Int) | trim (p s n : Int) | lift (a b : Int) | place (c : Cl) | rout (a b : Int) | rin (m n : Int)
def Ask.word : Ask → Str
  | .cut _ => "cut" | .join _ => "join" | .move _ _ => "move" | .trim _ _ _ => "trim" | .lift _ _ => "lift" | .place _ => "place" | .rout _ _ => "ripple out" | .rin _ _ => "ripple in"
/-- the numbers, in a list -/
def NumsV (H : Hp) (a : Addr) : Ask → Prop
  | .cut m => H a = some (.lst [.int m])
  | .join p => H a = some (.lst [.int p])
  | .move p d => H a = some (.lst [.int p, .int d])
  | .trim p s n => H a = some (.lst [.int p, .int s, .int n])
  | .lift x y => H a = some (.lst [.int x, .int y])
  | .place c => ∃ v, H a = some (.lst [v]) ∧ ClV H v c
  | .rout x y => H a = some (.lst [.int x, .int y])
  | .rin m n => H a = some (.lst [.int m, .int n])
theorem NumsV.ex {H H' : Hp} {a : Addr} {k : Ask} (e : Ex H H') (h : NumsV H a k) : NumsV H' a k := by
  cases k with
  | place c =>
    obtain ⟨v, h1, h2⟩ := h
    exact ⟨v, e _ _ h1, h2.tk (TK.ex e)⟩
  | _ => exact e _ _ h
end Od
namespace Od
open PySem L2 Evl
/-- a layer that adjusts has bare clips, another one paints -/
def AdjOk (ad : Bool) (c : Cl) : Prop := (ad = true → c.pa = none ∧ c.fi = 0 ∧ c.fo = 0) ∧ (ad = false → ∃ p, c.pa = some p)
end Od
namespace Od
open PySem PySem.Spec PyProof.Rows L2 Evl
section
variable {X : Cx} {o e : Expr} {es : List Expr} {t : TA} {x : Str} {p1 p2 pos : Pos} {CX : CXT} {k : Nat} {f D : Addr} {fd : FuncData} {ps : List Str} {sp : Sp} {ds : List Value} {dvs : List V} {E : XK} {pl : Sem Bool}
/-- Base.__init__(self, ..), Base an own class: the def is called -/
theorem pe_binit (F1 : FnOk X.prog X.w X.K X.mg X.base CX k f fd ps sp) (hr : Room k X.A) (hg : Gl X x) (hm : X.mg x = some (.ref D)) (rd : PySem.W.readsIn X.K D (.type "type") = true)
    (ga : PySem.W.specialIn X.K (.ref D) "__getattribute__" = some (some (.builtin "type.__getattribute__"))) (fa : PySem.W.findCls X.K (.ref D) (.type "type") "__init__" = some (.val (.ref f))) (kf : PySem.W.keepIn X.K (.ref f) = true)
    (hb : Binds X.K fd ps ds) (hd : Vals dvs ds) (hx : Passes CX X E) (ha : PA X (e :: es) t)
    (hdb : (x == ("__debug__" : Str)) = false := by decide) (he : starEach (e :: es) X.env = (false, eval e X.env) :: starEach es X.env := by rfl) (hpl : (backTo pos (starEach es X.env)).any (·.1) = false := by rfl)
    (hc : eval (.Call (.Attribute (.Name x p1) "__init__" p2) (e :: es) [] pos) X.env = (do
      let base ← eval (.Name x p1) X.env
      standAt p2.atName
      let (g, first) ← holding [base] (getMethod base "__init__" pl)
      callWith pos g first (backTo pos (starEach (e :: es) X.env)) (backToKw pos (keywordEach [] X.env))) := by rfl) :
    PE X (.Call (.Attribute (.Name x p1) "__init__" p2) (e :: es) [] pos) (tCall sp dvs E t) :=
  ⟨fun pins s σ H Q I h => PySem.W.methodCall_KW (ld_glob I hg hm (PySem.W.method_cls I.kIn ga (PySem.W.cls_value I.kIn rd fa rfl
    (PySem.W.callWith_K (h₀ := X.base) I.ok.mod.kin kf (thn (ha.run pos pins _ σ H _ (I.tok _) h) fun us s1 ⟨vs, H1, J, r, q⟩ => ⟨J.kIn, run_fn F1 hr hb hd hx J r q⟩) he hpl))) hdb) hc⟩
end
/-- the def that stands first in a class's body -/
def clsDef (s : Stmt) : Stmt := match s with
  | .ClassDef _ _ _ b _ _ _ _ _ _ _ => b.getD 0 (.Pass ⟨0, 0, 0, 0⟩)
  | _ => .Pass ⟨0, 0, 0, 0⟩
/-- what the written part says of the program's own base error -/
structure FilmTxt (K : PySem.W.Frag) (mg : Str → Option Value) (D fD : Addr) : Prop where
  g : mg "FilmError" = some (.ref D)
  rd : PySem.W.readsIn K D (.type "type") = true
  ga : PySem.W.specialIn K (.ref D) "__getattribute__" = some (some (.builtin "type.__getattribute__"))
  fa : PySem.W.findCls K (.ref D) (.type "type") "__init__" = some (.val (.ref fD))
  ve : mg "ValueError" = none
  vi : PySem.W.findCls K (.type "ValueError") (.type "type") "__init__" = some (.val (.builtin "ValueError.__init__"))
/-- .. of an error of a kind -/
structure KindTxt (K : PySem.W.Frag) (mg : Str → Option Value) (x : Str) (C fC : Addr) : Prop where
  g : mg x = some (.ref C)
  T : OexC K C
  xf : XfC K C
  noW : PySem.W.findIn K (.ref C) "word" = some none
  noP : PySem.W.findIn K (.ref C) "place" = some none
  iC : PySem.W.findIn K (.ref C) "__init__" = some (some (.ref fC))
  tI : PySem.W.typeIn K (.ref fC) = some (.type "function")
  te : PySem.W.exmOne K (.ref C) (.ref C) = some true
theorem exm_self {K : PySem.W.Frag} {S : Addr} (h1 : PySem.W.subIn K (.ref S) (.type "BaseException") = some true) (h2 : PySem.W.isClsIn K S = true) (h3 : PySem.W.typeIn K (.ref S) = some (.type "type")) (h4 : PySem.W.subIn K (.ref S) (.ref S) = some true) :
    PySem.W.exmOne K (.ref S) (.ref S) = some true := by
  have c1 : (PySem.W.subIn K (.ref S) (.type "BaseException") == some true) = true := by rw [h1] <;> rfl
  have c2 : ((PySem.W.clsIn K S).isSome && PySem.W.typeIn K (.ref S) == some (.type "type")) = true := by
    rw [show (PySem.W.clsIn K S).isSome = true from h2, h3] <;> rfl
  change (if (PySem.W.subIn K (.ref S) (.type "BaseException") == some true) = true then (if ((PySem.W.clsIn K S).isSome && PySem.W.typeIn K (.ref S) == some (.type "type")) = true then PySem.W.subIn K (.ref S) (.ref S) else none) else none) = _
  rw [if_pos c1, if_pos c2, h4]
/-- behind an __init__: the error has its dict -/
def spErrInit (K : PySem.W.Frag) : Sp := fun vs H Q _ => ∃ (a C : Addr) (wd p : V), vs = [.ref a, wd, p] ∧ OexC K C ∧ H a = some (exo a C none) ∧ PySem.W.findIn K (.ref C) "word" = some none ∧ PySem.W.findIn K (.ref C) "place" = some none ∧
  ∀ dx H', H dx = none → dx ≠ a → H' a = some (exo a C (some dx)) → H' dx = some (exd dx [("place", p), ("word", wd)]) → (∀ b, b ≠ a → b ≠ dx → H' b = H b) → Q .non H'
def spKind (K : PySem.W.Frag) (x : Str) : Sp := fun vs H Q _ => ∃ (a C : Addr) (p : V), vs = [.ref a, p] ∧ OexC K C ∧ H a = some (exo a C none) ∧ PySem.W.findIn K (.ref C) "word" = some none ∧ PySem.W.findIn K (.ref C) "place" = some none ∧
  ∀ dx H', H dx = none → dx ≠ a → H' a = some (exo a C (some dx)) → H' dx = some (exd dx [("place", p), ("word", .str x)]) → (∀ b, b ≠ a → b ≠ dx → H' b = H b) → Q .non H'
/-- an error of a kind can be made -/
def KindOk (P : Program) (w : World) (K : PySem.W.Frag) (mg : Str → Option Value) (base : Heap) (x : Str) (C : Addr) : Prop :=
  ∃ fC, KindTxt K mg x C fC ∧ ∃ fd, FnOk P w K mg base CX0 2 fC fd ["self", "place"] (spKind K x) ∧ (∃ ds, Vals [.non] ds ∧ Binds K fd ["self", "place"] ds) ∧ Binds K fd ["self", "place"] []
/-- the dict of an error as it flies -/
def errD (x : Str) (p : V) : HO := .xd [("place", p), ("word", .str x)]
section
variable {X : Cx} {x : Str} {C fC : Addr} {p : V} {H : Hp} {Q : XK}
/-- what is left of Kind(..): its dict -/
theorem kind_made {K : PySem.W.Frag} {mg : Str → Option Value} (T : KindTxt K mg x C fC) {a : Addr} (ha : H a = none) (h : ∀ d H', H d = none → Ex H H' → H' d = some (errD x p) → Q (.ref C) (some d) H') :
    spKind K x [.ref a, p] (upd H a (exo a C none)) (fun v H2 => v = .non ∧ ∃ (d : Addr) (fs : List (Str × V)), H2 a = some (exo a C (some d)) ∧ H2 d = some (exd d fs) ∧ H d = none ∧ Q (.ref C) (some d) (upd (del H2 a) d (.xd fs))) (fun _ _ _ => False) := by
  refine ⟨a, C, p, rfl, T.T, upd_same, T.noW, T.noP, fun dx H' hd hne h1 h2 h3 => ⟨rfl, dx, _, h1, h2, ?_, ?_⟩⟩
  · rwa [upd_ne hne] at hd
  · rw [upd_ne hne] at hd
    refine h dx _ hd (fun b o hb => ?_) upd_same
    have n1 : b ≠ a := fun z => by rw [z, ha] at hb; cases hb
    have n2 : b ≠ dx := fun z => by rw [z, hd] at hb; cases hb
    rw [upd_ne n2, del_ne n1, h3 b n1 n2, upd_ne n1]
    exact hb
end
end Od
namespace Od
open PySem L2 Evl
theorem Kn.asTup {H : Hp} {v : V} {T : String} (k : Kn H v T) (h : isA T "tuple" = true) : ∃ a xs, v = .ref a ∧ H a = some (.tup xs) := by
  cases k with
  | tup h1 => exact ⟨_, _, rfl, h1⟩
  | non => exact absurd h (by decide +kernel)
  | bl b => exact absurd h (by decide +kernel)
  | int i => exact absurd h (by decide +kernel)
  | str x => exact absurd h (by decide +kernel)
  | lst h1 => exact absurd h (by decide +kernel)
/-- known, its tuples of at most m items, told n tuples deep -/
def Deep (m : Nat) : Nat → Hp → V → Prop
  | 0, H, v => ∃ T, Kn H v T
  | n + 1, H, v => (∃ T, Kn H v T) ∧ ∀ a xs, v = .ref a → H a = some (.tup xs) → xs.length ≤ m ∧ ∀ x ∈ xs, Deep m n H x
theorem Deep.kn {m n : Nat} {H : Hp} {v : V} (h : Deep m n H v) : ∃ T, Kn H v T := by
  cases n with
  | zero => exact h
  | succ n => exact h.1
theorem Deep.ex {m : Nat} : ∀ {n : Nat} {H H' : Hp} {v : V}, Ex H H' → Deep m n H v → Deep m n H' v
  | 0, _, _, _, e, ⟨T, k⟩ => ⟨T, k.mono e⟩
  | n + 1, H, H', v, e, ⟨⟨T, k⟩, h⟩ => by
    refine ⟨⟨T, k.mono e⟩, fun a xs ev ha => ?_⟩
    cases k with
    | tup h1 =>
      cases ev
      rw [e _ _ h1] at ha
      cases ha
      obtain ⟨l, q⟩ := h _ _ rfl h1
      exact ⟨l, fun x hx => (q x hx).ex e⟩
    | lst h1 =>
      cases ev
      rw [e _ _ h1] at ha
      cases ha
    | _ => cases ev
theorem Deep.le {m m' : Nat} (lm : m ≤ m') : ∀ {n : Nat} {H : Hp} {v : V}, Deep m n H v → Deep m' n H v
  | 0, _, _, h => h
  | n + 1, _, _, ⟨k, h⟩ => ⟨k, fun a xs ev ha => ⟨Nat.le_trans (h a xs ev ha).1 lm, fun x hx => ((h a xs ev ha).2 x hx).le lm⟩⟩
/-- nothing in it is a tuple -/
theorem Deep.flat {m n : Nat} {H : Hp} {v : V} {T : String} (k : Kn H v T) (h : ∀ a xs, v = .ref a → H a ≠ some (.tup xs)) : Deep m n H v := by
  cases n with
  | zero => exact ⟨T, k⟩
  | succ n => exact ⟨⟨T, k⟩, fun a xs ev ha => absurd ha (h a xs ev)⟩
theorem Deep.non {m n : Nat} {H : Hp} : Deep m n H .non := .flat .non fun _ _ z => by cases z
theorem Deep.bl {m n : Nat} {H : Hp} {b : Bool} : Deep m n H (.bl b) := .flat (.bl b) fun _ _ z => by cases z
theorem Deep.int {m n : Nat} {H : Hp} {i : Int} : Deep m n H (.int i) := .flat (.int i) fun _ _ z => by cases z
theorem Deep.str {m n : Nat} {H : Hp} {x : Str} : Deep m n H (.str x) := .flat (.str x) fun _ _ z => by cases z
theorem Deep.lst {m n : Nat} {H : Hp} {a : Addr} {xs : List V} (h : H a = some (.lst xs)) : Deep m n H (.ref a) := .flat (.lst h) fun _ _ e z => by
  cases e
  rw [h] at z
  cases z
theorem Deep.tup {m n : Nat} {H : Hp} {a : Addr} {xs : List V} (h : H a = some (.tup xs)) (l : xs.length ≤ m) (q : ∀ x ∈ xs, Deep m n H x) : Deep m (n + 1) H (.ref a) :=
  ⟨⟨_, .tup h⟩, fun b ys e hb => by
    cases e
    rw [h] at hb
    cases hb
    exact ⟨l, q⟩⟩
theorem Deep.at {m n : Nat} {H : Hp} {a : Addr} {xs : List V} (d : Deep m (n + 1) H (.ref a)) (h : H a = some (.tup xs)) : xs.length ≤ m ∧ ∀ x ∈ xs, Deep m n H x := d.2 a xs rfl h
/-- one of the strange values: a tuple among them has only numbers -/
def Odd (H : Hp) (v : V) : Prop := (∃ T, Kn H v T) ∧ ∀ a xs, v = .ref a → H a = some (.tup xs) → xs.length ≤ 2 ∧ ∀ x ∈ xs, ∃ i, x = .int i
theorem Odd.flat {H : Hp} {v : V} {T : String} (k : Kn H v T) (h : ∀ a xs, v = .ref a → H a ≠ some (.tup xs)) : Odd H v := ⟨⟨T, k⟩, fun a xs ev ha => absurd ha (h a xs ev)⟩
theorem Odd.lst {H : Hp} {a : Addr} {xs : List V} (h : H a = some (.lst xs)) : Odd H (.ref a) := .flat (.lst h) fun _ _ e z => by
  cases e
  rw [h] at z
  cases z
theorem Odd.tup {H : Hp} {a : Addr} {xs : List V} (h : H a = some (.tup xs)) (l : xs.length ≤ 2) (q : ∀ x ∈ xs, ∃ i, x = .int i) : Odd H (.ref a) :=
  ⟨⟨_, .tup h⟩, fun b ys e hb => by
    cases e
    rw [h] at hb
    cases hb
    exact ⟨l, q⟩⟩
theorem Odd.non {H : Hp} : Odd H .non := .flat .non fun _ _ z => by cases z
theorem Odd.bl {H : Hp} {b : Bool} : Odd H (.bl b) := .flat (.bl b) fun _ _ z => by cases z
theorem Odd.int {H : Hp} {i : Int} : Odd H (.int i) := .flat (.int i) fun _ _ z => by cases z
theorem Odd.str {H : Hp} {x : Str} : Odd H (.str x) := .flat (.str x) fun _ _ z => by cases z
theorem Odd.ex {H H' : Hp} {v : V} (e : Ex H H') (h : Odd H v) : Odd H' v := by
  obtain ⟨⟨T, k⟩, q⟩ := h
  refine ⟨⟨T, k.mono e⟩, fun a xs ev ha => ?_⟩
  cases k with
  | tup h1 =>
    cases ev
    rw [e _ _ h1] at ha
    cases ha
    exact q _ _ rfl h1
  | lst h1 =>
    cases ev
    rw [e _ _ h1] at ha
    cases ha
  | _ => cases ev
end Od
namespace Od
open PySem L2 Evl PySem.Spec PyProof.Rows
def isW (w : Str) : V → Bool
  | .str x => x == w
  | _ => false
section
variable {X : Cx}
theorem rc_of {prog : Program} {w : World} {A : Around} {E : Value → Shared → Prop} {s : Shared} {Q : Value → Shared → Prop} {a b : Value} {k : Bool} (h : SeqAt.RcAt A s a b k) (hq : Q (.bool k) s) : wpAny (model prog w) A (compareOp .Eq a b) Q E s := h prog w E Q hq
/-- x == 'w', x of a known kind -/
def rEqW : R2 := fun x y H Q => ∃ T w, Kn H x T ∧ y = .str w ∧ Q (.bl (isW w x)) H
theorem op_eqW (hu : X.A.units < cLine) : OpR X (compareOp .Eq) rEqW := by
  intro pins s σ H x y v u Q I rx ry ⟨T, w, kn, e, q⟩
  subst e
  have z := fun (h : rEq x (.str w) H Q) => op_eq pins s σ H x (.str w) v u Q I rx ry h
  have ns : ∀ {c : V}, (∀ y, c ≠ .str y) → isW w c = decide (c = V.str w) := fun {c} hc => by
    rw [decide_eq_false (hc w)]
    cases c with
    | str y => exact absurd rfl (hc y)
    | _ => rfl
  cases kn with
  | non => exact z ⟨rfl, by rw [← ns (fun _ e => by cases e)]; exact q⟩
  | bl b => exact z ⟨rfl, by rw [← ns (fun _ e => by cases e)]; exact q⟩
  | int i => exact z ⟨rfl, by rw [← ns (fun _ e => by cases e)]; exact q⟩
  | str j =>
    refine z ⟨rfl, ?_⟩
    have e : isW w (.str j) = decide (V.str j = V.str w) := by rw [dec_str]; rfl
    rw [← e]
    exact q
  | tup h =>
    cases rx
    obtain ⟨t, rfl⟩ := ry
    obtain ⟨its, _, isT, _⟩ := I.tuple (SqT.of h)
    exact rc_of (SeqAt.RcAt.tuple_str w t (show s.heap.IsTuple _ its.toArray from isT) hu) ⟨.bl false, H, I, rfl, q⟩
  | lst h =>
    cases rx
    obtain ⟨t, rfl⟩ := ry
    obtain ⟨its, _, isL, _⟩ := I.list (SqL.of h)
    exact rc_of (SeqAt.RcAt.list_str w t isL.isList hu) ⟨.bl false, H, I, rfl, q⟩
/-- what a pattern binds: slots, and the names of the model -/
inductive Bnd (X : Cx) : List (Nat × V) → List (Str × Value) → Prop
  | nil : Bnd X [] []
  | cons {i : Nat} {n : Str} {x : V} {u : Value} {vs : List (Nat × V)} {bs : List (Str × Value)} : X.N[i]? = some n → Loc X.env.scope n → (X.fn n = true ∨ X.env.scope.names.lookup n = some .local) → RelV x u → Bnd X vs bs → Bnd X ((i, x) :: vs) ((n, u) :: bs)
def sets (σ : L2.St) : List (Nat × V) → L2.St
  | [] => σ
  | p :: vs => sets (σ.set p.1 (some p.2)) vs
theorem bind_all {pins : List (Addr × Obj)} (hN : X.N.Nodup) {Q : Unit → Shared → Prop} {E : Value → Shared → Prop} : ∀ {vs : List (Nat × V)} {bs : List (Str × Value)} {s : Shared} {σ : L2.St} {H : Hp}, Bnd X vs bs → Inv X pins σ H s → (∀ s', Inv X pins (sets σ vs) H s' → Q () s') →
    wpAny (model X.prog X.w) X.A (assignInOrder (bs.map fun (n, _) => bindName X.env n) (bs.map (·.2))) Q E s
  | _, _, s, σ, H, .nil, I, q => wpAny_assignInOrder_none (q s I)
  | _, _, s, σ, H, .cons hi hx hf r b, I, q => wpAny_assignInOrder_more (wpAny_bindName (store_ok I hN hi hx r (fun s2 I2 => bind_all hN b I2 q) hf))
/-- items against values: the reading; what is bound, or no match -/
abbrev TPs := List V → Hp → (List (Nat × V) → Prop) → Prop → Prop
def MP (X : Cx) (pins : List (Addr × Obj)) (σ : L2.St) (H : Hp) (yes : List (Nat × V) → Prop) (no : Prop) (r : Option (List (Str × Value))) (s' : Shared) : Prop :=
  Inv X pins σ H s' ∧ match r with
    | none => no
    | some bs => ∃ vs, Bnd X vs bs ∧ yes vs
structure PMs (X : Cx) (ps : List Pattern) (t : TPs) : Prop where
  run : ∀ (pins : List (Addr × Obj)) (s : Shared) (σ : L2.St) (H : Hp) (xs : List V) (us : List Value) (yes : List (Nat × V) → Prop) (no : Prop), Inv X pins σ H s → Vals xs us → t xs H yes no → wpAny (model X.prog X.w) X.A (matchEach ps X.env us) (MP X pins σ H yes no) X.xe s
def mNil : TPs := fun xs H yes no => xs = [] ∧ yes []
theorem pms_nil : PMs X [] mNil := ⟨fun pins s σ H xs us yes no I r ⟨e, q⟩ => wpAny_matchEach_nil ⟨I, [], .nil, q⟩⟩
def mCap (i : Nat) (t : TPs) : TPs := fun xs H yes no => ∃ x ys, xs = x :: ys ∧ t ys H (fun bs => yes ((i, x) :: bs)) no
theorem pms_cap {i : Nat} {n : Str} {pos : Pos} {ps : List Pattern} {t : TPs} (hi : X.N[i]? = some n) (hx : Loc X.env.scope n) (h : PMs X ps t) (hf : X.fn n = true ∨ X.env.scope.names.lookup n = some .local := by first | exact .inl rfl | exact .inr rfl | assumption) : PMs X (.MatchAs none (some n) pos :: ps) (mCap i t) := by
  refine ⟨fun pins s σ H xs us yes no I r ⟨x, ys, e, q⟩ => ?_⟩
  subst e
  cases r with
  | cons r1 rr =>
    refine wpAny_matchEach_cons (wpAny_matchPattern_Capture (thn (h.run pins s σ H ys _ _ no I rr q) fun r' s2 ⟨I2, m⟩ => ?_))
    cases r' with
    | none => exact ⟨I2, m⟩
    | some bs =>
      obtain ⟨vs, b, y⟩ := m
      exact ⟨I2, _, .cons hi hx hf r1 b, y⟩
def mWild (t : TPs) : TPs := fun xs H yes no => ∃ x ys, xs = x :: ys ∧ t ys H yes no
theorem pms_wild {pos : Pos} {ps : List Pattern} {t : TPs} (h : PMs X ps t) : PMs X (.MatchAs none none pos :: ps) (mWild t) := by
  refine ⟨fun pins s σ H xs us yes no I r ⟨x, ys, e, q⟩ => ?_⟩
  subst e
  cases r with
  | cons r1 rr =>
    refine wpAny_matchEach_cons (wpAny_matchPattern_Capture (thn (h.run pins s σ H ys _ _ no I rr q) fun r' s2 ⟨I2, m⟩ => ?_))
    cases r' with
    | none => exact ⟨I2, m⟩
    | some bs => exact ⟨I2, m⟩
def mWord (w : Str) (t : TPs) : TPs := fun xs H yes no => ∃ x ys T, xs = x :: ys ∧ Kn H x T ∧ if isW w x = true then t ys H yes no else no
theorem pms_word {w : Str} {j : Nat} {p pos : Pos} {ps : List Pattern} {t : TPs} (hu : X.A.units + 64 < cLine) (h : PMs X ps t) : PMs X (.MatchValue (.Constant (.str w) j p) pos :: ps) (mWord w t) := by
  refine ⟨fun pins s σ H xs us yes no I r ⟨x, ys, T, e, kn, q⟩ => ?_⟩
  subst e
  cases r with
  | cons r1 rr =>
    refine wpAny_matchEach_cons (wpAny_matchPattern_Value (thn (pe_str.run pins s σ H (fun v H' => v = .str w ∧ H' = H) I ⟨rfl, rfl⟩) fun u s1 ⟨v, H1, I1, rv, ev, eH⟩ => ?_))
    subst ev eH
    refine thn (op_eqW (by omega) pins s1 σ H1 x (.str w) _ _ (fun v H' => v = .bl (isW w x) ∧ H' = H1) I1 r1 rv ⟨T, w, kn, rfl, rfl, rfl⟩) fun c s2 ⟨v, H2, I2, rc, ev, eH⟩ => ?_
    subst ev eH
    cases rc
    refine wpAny_truthy_bool ?_
    cases hw : isW w x with
    | false =>
      rw [hw] at q
      exact ⟨I2, q⟩
    | true =>
      rw [hw] at q
      refine thn (h.run pins s2 σ H2 ys _ _ no I2 rr q) fun r' s3 ⟨I3, m⟩ => ?_
      cases r' with
      | none => exact ⟨I3, m⟩
      | some bs => exact ⟨I3, m⟩
/-- the cases -/
structure PCs (X : Cx) (cs : List MatchCase) (t : V → TS) : Prop where
  run : ∀ (pins : List (Addr × Obj)) (s : Shared) (σ : L2.St) (H : Hp) (v : V) (u : Value) (first : Bool) (D : Ends), Inv X pins σ H s → RelV v u → t v D σ H → wpAny (model X.prog X.w) X.A (matchCases cs X.env u first) (SP X pins D) X.xe s
def cElse (tb : TS) : V → TS := fun _ D σ H => tb D σ H
theorem pcs_else {pos : Pos} {body : List Stmt} {rest : List MatchCase} {tb : TS} (hb : PSs X body tb) : PCs X (⟨.MatchAs none none pos, none, body⟩ :: rest) (cElse tb) :=
  ⟨fun pins s σ H v u first D I r q => wpAny_matchCases_cons (wpAny_matchPattern_Capture (wpAny_assignInOrder_none (hb.run pins s σ H D I q)))⟩
def cSeq (K : PySem.W.Frag) (n : Nat) (tp : TPs) (tb : TS) (tr : V → TS) : V → TS := fun v D σ H => ∃ a xs, v = .ref a ∧ SqT K H a xs ∧ if xs.length = n then tp xs H (fun bs => tb D (sets σ bs) H) (tr v D σ H) else tr v D σ H
theorem pcs_seq (K : PySem.W.Frag) {pos : Pos} {ps : List Pattern} {body : List Stmt} {rest : List MatchCase} {tp : TPs} {tb : TS} {tr : V → TS} (hc : X.calm = true) (hN : X.N.Nodup) (hp : PMs X ps tp) (hb : PSs X body tb) (hr : PCs X rest tr)
    (hstar : ps.findIdx? (·.isStar) = none := by rfl) (hwild : (ps.all fun p => p.isWildcard || (p.isStar && p.names.isEmpty)) = false := by rfl) (hK : X.K = K := by rfl) : PCs X (⟨.MatchSequence ps pos, none, body⟩ :: rest) (cSeq K ps.length tp tb tr) := by
  subst hK
  refine ⟨fun pins s σ H v u first D I r ⟨a, xs, e, sq, q⟩ => ?_⟩
  subst e
  have r0 := r
  cases r
  obtain ⟨its, rv, isT, sz⟩ := I.tuple sq
  have len := rv.length
  have fit : ((its.toArray.size : Nat) : Int) < 2 ^ 63 := by
    have e : sizeLine = 16777216 := by decide
    rw [List.size_toArray]
    omega
  refine wpAny_matchCases_cons (wpAny_matchPattern_Sequence (wpAny_collectionFlag (T := "tuple") (b := true) isT.typeIs flag_seq_tuple ?_) hstar hwild)
  refine pyLen_tuple isT fit ?_
  have I1 : Inv X pins σ H { s with toks := s.toks + 1 + 1 } := I.kept (h' := s.heap) (t' := s.toks + 1 + 1) fun _ _ z => z
  by_cases hl : xs.length = ps.length
  · rw [if_pos hl] at q
    have e1 : ((its.toArray.size : Int) != (ps.length : Int)) = false := by
      rw [List.size_toArray]
      simp only [bne_eq_false_iff_eq]
      omega
    rw [e1]
    have e2 : ps.length = its.toArray.size := by rw [List.size_toArray]; omega
    rw [e2]
    refine PySem.wpAny_unpackItems_tuple (s := { s with toks := s.toks + 1 + 1 }) (I.ok.hd hc) (show s.heap.IsTuple a its.toArray from isT) fun h' hx => ?_
    have I2 : Inv X pins σ H { s with heap := h', toks := s.toks + 1 + 1 } := I.kept (t' := s.toks + 1 + 1) fun b o z => hx b o (Nat.ne_of_lt (Heap.lt_size z)) z
    refine thn (hp.run pins _ σ H xs _ _ _ I2 (by simpa using rv) q) fun r' s3 ⟨I3, m⟩ => ?_
    cases r' with
    | none => exact hr.run pins s3 σ H _ _ false D I3 r0 m
    | some bs =>
      obtain ⟨vs, b, y⟩ := m
      exact bind_all hN b I3 fun s4 I4 => hb.run pins s4 _ H D I4 y
  · rw [if_neg hl] at q
    have e1 : ((its.toArray.size : Int) != (ps.length : Int)) = true := by
      rw [List.size_toArray]
      simp only [bne_iff_ne, ne_eq]
      omega
    rw [e1]
    exact hr.run pins _ σ H _ _ false D I1 r0 q
theorem ps_match {e : Expr} {cs : List MatchCase} {pos : Pos} {te : TE} {t : V → TS} (he : PE X e te) (hcs : PCs X cs t) : PS X (.Match e cs pos) (fun D σ H => te σ H fun v H1 => t v D σ H1) :=
  ⟨fun pins s σ H D I h => wpAny_Match (thn (he.run pins s σ H _ I h) fun u s1 ⟨v, H1, I1, r, q⟩ => hcs.run pins s1 σ H1 v u true D I1 r q)⟩
end
theorem lenY {A B : Prop} {n m : Nat} (h : n = m) (q : A) : if n = m then A else B := by
  rw [if_pos h]
  exact q
theorem lenN {A B : Prop} {n m : Nat} (h : n ≠ m) (q : B) : if n = m then A else B := by
  rw [if_neg h]
  exact q
end Od
namespace Od
open PySem L2 Evl
theorem da_kn {H : Hp} {v : V} {d : PyData} (h : Da H v d) : ∃ T, Kn H v T := by
  cases h with
  | non => exact ⟨_, .non⟩
  | bl b => exact ⟨_, .bl b⟩
  | int i => exact ⟨_, .int i⟩
  | str x => exact ⟨_, .str x⟩
  | lst h _ _ => exact ⟨_, .lst h⟩
  | tup h _ _ => exact ⟨_, .tup h⟩
theorem da_item {H : Hp} {x : V} : ∀ {xs : List V} {ds : List PyData}, DaAll H xs ds → x ∈ xs → ∃ d ∈ ds, Da H x d
  | _, _, .cons h k, hx => by
    rcases List.mem_cons.mp hx with rfl | hx
    · exact ⟨_, by simp, h⟩
    · obtain ⟨d, hd, q⟩ := da_item k hx
      exact ⟨d, by simp [hd], q⟩
/-- told, at most B heavy and n deep -/
def DX (B n : Nat) (H : Hp) (v : V) : Prop := ∃ d, Da H v d ∧ Sh B d ∧ d.depth ≤ n ∧ d.canLay0 = true
theorem DX.ex {B n : Nat} {H H' : Hp} {v : V} (e : Ex H H') (h : DX B n H v) : DX B n H' v := by
  obtain ⟨d, h1, h2⟩ := h
  exact ⟨d, h1.mono e, h2⟩
theorem DX.le {B C n m : Nat} {H : Hp} {v : V} (h : DX B n H v) (b : B ≤ C) (l : n ≤ m) : DX C m H v := by
  obtain ⟨d, h1, h2, h3, h4⟩ := h
  exact ⟨d, h1, h2.mono b, Nat.le_trans h3 l, h4⟩
theorem DX.kn {B n : Nat} {H : Hp} {v : V} (h : DX B n H v) : ∃ T, Kn H v T := by
  obtain ⟨d, h1, _⟩ := h
  exact da_kn h1
theorem dx_all {B n : Nat} {H : Hp} : ∀ {xs : List V}, (∀ x ∈ xs, DX B n H x) → ∃ ds, DaAll H xs ds ∧ ShAll ((B + 1) * xs.length) ds ∧ PyData.depthAll ds ≤ n ∧ PyData.canLayAll0 ds = true
  | [], _ => ⟨[], .nil, by rw [List.length_nil, Nat.mul_zero]; exact .nil, Nat.zero_le _, rfl⟩
  | x :: xs, h => by
    obtain ⟨d, h1, h2, h3, h4⟩ := h x (by simp)
    obtain ⟨ds, k1, k2, k3, k4⟩ := dx_all (xs := xs) fun y hy => h y (by simp [hy])
    have z := ShAll.cons h2 k2
    refine ⟨d :: ds, .cons h1 k1, ⟨z.1, z.2, z.3, Nat.le_trans z.4 ?_⟩, ?_, ?_⟩
    · rw [List.length_cons, Nat.mul_add, Nat.mul_one, Nat.add_comm]
      exact Nat.le_refl _
    · simp only [PyData.depthAll]
      exact Nat.max_le.mpr ⟨h3, k3⟩
    · simp only [PyData.canLayAll0, h4, k4, Bool.and_self]
theorem DX.tup {B n m : Nat} {H : Hp} {a : Addr} {xs : List V} (ha : H a = some (.tup xs)) (l : xs.length ≤ m) (hm : m ≤ 1000000) (h : ∀ x ∈ xs, DX B n H x) : DX ((B + 1) * m) (n + 1) H (.ref a) := by
  obtain ⟨ds, k1, k2, k3, k4⟩ := dx_all h
  refine ⟨.tuple ds, .tup ha k1 (by rw [← DaAll.length k1]; omega), k2.tup.mono (Nat.mul_le_mul_left _ l), ?_, ?_⟩
  · simp only [PyData.depth]
    omega
  · simp only [PyData.canLay0]
    exact k4
theorem DX.lst {B n m : Nat} {H : Hp} {a : Addr} {xs : List V} (ha : H a = some (.lst xs)) (l : xs.length ≤ m) (hm : m ≤ 1000000) (h : ∀ x ∈ xs, DX B n H x) : DX ((B + 1) * m) (n + 1) H (.ref a) := by
  obtain ⟨ds, k1, k2, k3, k4⟩ := dx_all h
  refine ⟨.list ds, .lst ha k1 (by rw [← DaAll.length k1]; omega), k2.lst.mono (Nat.mul_le_mul_left _ l), ?_, ?_⟩
  · simp only [PyData.depth]
    omega
  · simp only [PyData.canLay0]
    exact k4
theorem DX.non {H : Hp} : DX 60 0 H .non := ⟨_, .non, ⟨rfl, rfl, by decide, by decide⟩, by decide, rfl⟩
theorem DX.bl {H : Hp} {b : Bool} : DX 60 0 H (.bl b) := ⟨_, .bl b, by cases b <;> exact ⟨rfl, rfl, by decide, by decide⟩, by simp only [PyData.depth]; decide, rfl⟩
theorem DX.int {H : Hp} {i : Int} (h1 : -1000000 ≤ i) (h2 : i ≤ 1000000) : DX 60 0 H (.int i) := ⟨_, .int i, (sh_int h1 h2).mono (by decide), by simp only [PyData.depth]; decide, rfl⟩
theorem DX.str {H : Hp} {x : Str} (h : (PyData.str x).showable = true) (h1 : (PyData.str x).leavesShort 13 = true) (h2 : (PyData.str x).weight ≤ 60) (h3 : (PyData.str x).canLay0 = true) : DX 60 0 H (.str x) := ⟨_, .str x, ⟨h, rfl, h1, h2⟩, by simp only [PyData.depth]; decide, h3⟩
/-- the items of what is told -/
theorem sh_mem {B : Nat} {d : PyData} : ∀ {ds : List PyData}, ShAll B ds → d ∈ ds → Sh B d
  | e :: ds, h, hd => by
    have e1 := h.1
    have e2 := h.2
    have e3 := h.3
    have e4 := h.4
    simp only [PyData.showableAll, PyData.hasDictAll, PyData.leavesShortAll, PyData.weightAll, Bool.and_eq_true, Bool.or_eq_false_iff] at e1 e2 e3 e4
    rcases List.mem_cons.mp hd with rfl | hd
    · exact ⟨e1.1, e2.1, e3.1, by omega⟩
    · exact sh_mem ⟨e1.2, e2.2, e3.2, by omega⟩ hd
theorem depth_of {d : PyData} : ∀ {ds : List PyData}, d ∈ ds → d.depth ≤ PyData.depthAll ds
  | e :: ds, hd => by
    simp only [PyData.depthAll]
    rcases List.mem_cons.mp hd with rfl | hd
    · exact Nat.le_max_left _ _
    · exact Nat.le_trans (depth_of hd) (Nat.le_max_right _ _)
theorem lay_of {d : PyData} : ∀ {ds : List PyData}, PyData.canLayAll0 ds = true → d ∈ ds → d.canLay0 = true
  | e :: ds, h, hd => by
    simp only [PyData.canLayAll0, Bool.and_eq_true] at h
    rcases List.mem_cons.mp hd with rfl | hd
    · exact h.1
    · exact lay_of h.2 hd
theorem DX.items {B n : Nat} {H : Hp} {a : Addr} {xs : List V} (h : DX B n H (.ref a)) (ha : H a = some (.tup xs)) : xs.length ≤ 1000000 ∧ ∀ x ∈ xs, DX B (n - 1) H x := by
  obtain ⟨d, h1, h2, h3, h4⟩ := h
  cases h1 with
  | tup h1 k l =>
    rw [h1] at ha
    cases ha
    refine ⟨by rw [DaAll.length k]; exact l, fun x hx => ?_⟩
    obtain ⟨d, hd, q⟩ := da_item k hx
    simp only [PyData.canLay0] at h4
    simp only [PyData.depth] at h3
    have e1 := h2.1
    have e2 := h2.2
    have e3 := h2.3
    have e4 := h2.4
    simp only [PyData.showable, PyData.hasDict, PyData.leavesShort, PyData.weight] at e1 e2 e3 e4
    have := depth_of hd
    exact ⟨d, q, sh_mem ⟨e1, e2, e3, e4⟩ hd, by omega, lay_of h4 hd⟩
  | lst h1 k l =>
    rw [h1] at ha
    cases ha
theorem str_sym {x w : Str} : (x == w) = (w == x) := by
  rw [← dec_str, ← dec_str, decide_eq_decide]
  exact ⟨fun e => e.symm, fun e => e.symm⟩
theorem w_eqv {H : Hp} {v : V} {d : PyData} {w : Str} (h : Da H v d) : PyData.eqv (.str w) d = isW w v := by
  cases h with
  | str x => rw [PyData.eqv, str_sym]; rfl
  | _ => simp only [PyData.eqv] <;> rfl
section
variable {X : Cx}
/-- x in a row of texts -/
def rInW (K : PySem.W.Frag) : R2 := fun x y H Q => ∃ (d : PyData) (a : Addr) (ws : List Str), Da H x d ∧ d.canLay0 = true ∧ y = .ref a ∧ (SqL K H a (ws.map V.str) ∨ SqT K H a (ws.map V.str)) ∧ PyData.canLayAll0 (ws.map PyData.str) = true ∧ Q (.bl (ws.any fun w => isW w x)) H
theorem dp_strs {K : PySem.W.Frag} {H : Hp} : ∀ ws : List Str, DpAll K H (ws.map V.str) (ws.map PyData.str)
  | [] => .nil
  | w :: ws => .cons (.str w) (dp_strs ws)
theorem depth_strs : ∀ ws : List Str, PyData.depthAll (ws.map PyData.str) = 0
  | [] => rfl
  | w :: ws => by
    rw [List.map_cons, PyData.depthAll, depth_strs ws, PyData.depth]
    rfl
theorem any_w {H : Hp} {v : V} {d : PyData} (h : Da H v d) : ∀ ws : List Str, ((ws.map PyData.str).any fun y => PyData.eqv y d) = ws.any fun w => isW w v
  | [] => rfl
  | w :: ws => by rw [List.map_cons, List.any_cons, List.any_cons, any_w h ws, w_eqv h]
theorem op_inW (hu : X.A.units + 64 < cLine) : OpR X (compareOp .In) (rInW X.K) := by
  intro pins s σ H x y v u Q I rx ry ⟨d, a, ws, hd, ld, ey, hy, lw, q⟩
  subst ey
  obtain ⟨bs, r1⟩ := Dp.reads I d x v hd.dp rx
  rcases hy with hy | hy
  · obtain ⟨as, r2⟩ := Dp.reads I (.list (ws.map PyData.str)) _ u (.lst hy (dp_strs ws)) ry
    refine SeqAt.in_list_reads r2 r1 lw ld (by rw [depth_strs, Nat.zero_min]; omega) ⟨.bl _, H, I, rfl, ?_⟩
    rw [any_w hd]
    exact q
  · obtain ⟨as, r2⟩ := Dp.reads I (.tuple (ws.map PyData.str)) _ u (.tup hy (dp_strs ws)) ry
    refine SeqAt.in_tuple_reads r2 r1 lw ld (by rw [depth_strs, Nat.zero_min]; omega) ⟨.bl _, H, I, rfl, ?_⟩
    rw [any_w hd]
    exact q
theorem kinW (K : PySem.W.Frag) (hu : X.A.units + 64 < cLine) (h : X.K = K := by rfl) : OpR X (compareOp .In) (rInW K) := by
  subst h
  exact op_inW hu
end
end Od
namespace Od
open PySem L2 Evl PySem.Spec PyProof.Rows
def letters : List Nat := (Str.ofString "abcdefghijklmnopqrstuvwxyz").cps.toList
def nameS (z : Str) : Bool := (decide (1 ≤ (z.length : Int)) && decide ((z.length : Int) ≤ 8)) && z.cps.toList.all fun c => decide (c ∈ letters)
def nameV : V → Bool
  | .str z => nameS z
  | _ => false
end Od
namespace Od
open PySem L2 Evl
structure Bx where
  l : Int
  t : Int
  w : Int
  h : Int
structure Bx.Ok (b : Bx) : Prop where
  l0 : -3 ≤ b.l
  l1 : b.l ≤ 8
  t0 : -3 ≤ b.t
  t1 : b.t ≤ 8
  w0 : 1 ≤ b.w
  w1 : b.w ≤ 64
  h0 : 1 ≤ b.h
  h1 : b.h ≤ 64
def BxV (H : Hp) (v : V) (b : Bx) : Prop := ∃ a, v = .ref a ∧ H a = some (.tup [.int b.l, .int b.t, .int b.w, .int b.h])
theorem BxV.tk {H H' : Hp} {v : V} {b : Bx} (e : TK H H') (h : BxV H v b) : BxV H' v b := by
  obtain ⟨a, rfl, ha⟩ := h
  exact ⟨a, rfl, e _ _ ha⟩
inductive Wh where
  | invert | shift (n : Int) | paint (o : Int) (m : Str)
def Wh.items : Wh → List V
  | .invert => [.str "invert"] | .shift n => [.str "shift", .int n] | .paint o m => [.str "paint", .int o, .str m]
def Wh.word : Wh → Str
  | .invert => "invert" | .shift _ => "shift" | .paint _ _ => "paint"
/-- it adjusts -/
def Wh.adj : Wh → Bool
  | .paint _ _ => false
  | _ => true
def modes3 : List Str := ["over", "add", "times"]
def Wh.Ok : Wh → Prop
  | .invert => True
  | .shift n => -255 ≤ n ∧ n ≤ 255
  | .paint o m => 0 ≤ o ∧ o ≤ 256 ∧ m ∈ modes3
def WhV (H : Hp) (v : V) (x : Wh) : Prop := ∃ a, v = .ref a ∧ H a = some (.tup x.items)
theorem WhV.tk {H H' : Hp} {v : V} {x : Wh} (e : TK H H') (h : WhV H v x) : WhV H' v x := by
  obtain ⟨a, rfl, ha⟩ := h
  exact ⟨a, rfl, e _ _ ha⟩
theorem Wh.at0 (x : Wh) : atI x.items 0 = some (.str x.word) := by cases x <;> rfl
structure La where
  name : Str
  box : Bx
  ms : List Mv
  wh : Wh
  cs : List Cl
def LaV (H : Hp) (v : V) (l : La) : Prop := ∃ a bv ma wv ca us ws, v = .ref a ∧ H a = some (.tup [.str l.name, bv, .ref ma, wv, .ref ca]) ∧ BxV H bv l.box ∧ H ma = some (.tup us) ∧ MvsV H us l.ms ∧ WhV H wv l.wh ∧ H ca = some (.tup ws) ∧ ClsV H ws l.cs
theorem LaV.tk {H H' : Hp} {v : V} {l : La} (e : TK H H') (h : LaV H v l) : LaV H' v l := by
  obtain ⟨a, bv, ma, wv, ca, us, ws, rfl, h1, h2, h3, h4, h5, h6, h7⟩ := h
  exact ⟨a, bv, ma, wv, ca, us, ws, rfl, e _ _ h1, h2.tk e, e _ _ h3, h4.tk e, h5.tk e, e _ _ h6, h7.tk e⟩
/-- moves as drawn -/
structure MvsOk (ms : List Mv) : Prop where
  asc : MAsc ms
  ok : ∀ m ∈ ms, 0 ≤ m.f ∧ m.f ≤ 20 ∧ -5 ≤ m.a ∧ m.a ≤ 5 ∧ -5 ≤ m.d ∧ m.d ≤ 5
  len : ms.length ≤ 3
/-- a clip as drawn -/
structure Cl.OkF (c : Cl) : Prop where
  s0 : 0 ≤ c.s
  n1 : 1 ≤ c.n
  n2 : c.n ≤ 8
  fi0 : 0 ≤ c.fi
  fo0 : 0 ≤ c.fo
  fs : c.fi + c.fo ≤ c.n
  pa : opOk 6 c.pa
structure ClsOkF (ad : Bool) (cs : List Cl) : Prop where
  ap : Apart cs
  ok : ∀ c ∈ cs, c.OkF
  fin : ∀ c ∈ cs, c.fin ≤ 40
  adj : ∀ c ∈ cs, AdjOk ad c
  len : cs.length ≤ 2
structure La.Ok (l : La) : Prop where
  box : l.box.Ok
  ms : MvsOk l.ms
  wh : l.wh.Ok
  cs : ClsOkF l.wh.adj l.cs
theorem Wh.adj_eq (x : Wh) : (!decide (V.str x.word = V.str "paint")) = x.adj := by
  cases x with
  | invert => decide +kernel
  | shift n => show (!decide (V.str "shift" = V.str "paint")) = true; decide +kernel
  | paint o m => show (!decide (V.str "paint" = V.str "paint")) = false; decide +kernel
end Od
namespace Od
open PySem L2 Evl
theorem pickS {ws : List Str} {i : Int} (h0 : 0 ≤ i) (h1 : i < ws.length) : ∃ w, w ∈ ws ∧ atI (ws.map V.str) i = some (.str w) := by
  obtain ⟨m, rfl⟩ := Int.eq_ofNat_of_zero_le h0
  have hm : m < ws.length := by omega
  exact ⟨ws[m], List.getElem_mem hm, atI_nat (by rw [List.getElem?_map, List.getElem?_eq_getElem hm]; rfl)⟩
end Od
namespace Od
open PySem L2 Evl
structure Fi where
  w : Int
  h : Int
  n : Int
  b : Int
  ls : List La
def ghijkl : Str := "ghijkl"
def tails4 : List Str := ["", "b", "zz", "qwerty"]
/-- the name of a drawn layer -/
def NameOk (i : Nat) (n : Str) : Prop := ∃ c t, ghijkl.cps.toList[i]? = some c ∧ t ∈ tails4 ∧ n = ⟨#[c]⟩ ++ t
structure Fi.Ok (x : Fi) : Prop where
  w0 : 1 ≤ x.w
  w1 : x.w ≤ 64
  h0 : 1 ≤ x.h
  h1 : x.h ≤ 64
  wh : x.w * x.h ≤ 81
  n0 : 1 ≤ x.n
  n1 : x.n ≤ 10
  b0 : 0 ≤ x.b
  b1 : x.b ≤ 255
  len : x.ls.length ≤ 5
  ok : ∀ (i : Nat) l, x.ls[i]? = some l → l.Ok ∧ NameOk i l.name
def FiV (H : Hp) (v : V) (x : Fi) : Prop := ∃ a L us, v = .ref a ∧ H a = some (.tup [.int x.w, .int x.h, .int x.n, .int x.b, .ref L]) ∧ H L = some (.lst us) ∧ Paired (LaV H) us x.ls
end Od
namespace Od
open PySem L2 Evl
/-- a property that is read -/
structure Prp (P : Program) (w : World) (K : PySem.W.Frag) (mg : Str → Option Value) (base : Heap) (C : Addr) (x : Str) (k : Nat) (sp : Sp) where
  p : Addr
  f : Addr
  fd : FuncData
  hp : PropOf K C x p f
  ok : FnOk P w K mg base CX0 k f fd ["self"] sp
  b : L2.Binds K fd ["self"] []
/-- a class that is called -/
structure MkO (P : Program) (w : World) (K : PySem.W.Frag) (mg : Str → Option Value) (base : Heap) (CX : CXT) (x : Str) (C : Addr) (k : Nat) (ps : List Str) (sp : Sp) where
  f : Addr
  fd : FuncData
  M : Mk K C f
  ok : FnOk P w K mg base CX k f fd ps sp
  mgC : mg x = some (.ref C)
  b : L2.Binds K fd ps []
end Od
namespace Od
open PySem L2 Evl
/-- the slots at a def's start, written out -/
def startL : List Str → List V → L2.St
  | [], _ => []
  | _ :: N, [] => none :: startL N []
  | _ :: N, v :: vs => some v :: startL N vs
theorem startL_nil : ∀ N : List Str, startL N [] = List.replicate N.length none
  | [] => rfl
  | n :: N => by
    show none :: startL N [] = _
    rw [startL_nil N]
    rfl
theorem start_nrm : ∀ {N : List Str} {vs : List V}, vs.length ≤ N.length → L2.start N vs = startL N vs
  | [], [], _ => rfl
  | n :: N, [], _ => by
    unfold L2.start
    rw [startL_nil]
    rfl
  | [], v :: vs, h => absurd h (Nat.not_succ_le_zero _)
  | n :: N, v :: vs, h => by
    have ih := start_nrm (N := N) (vs := vs) (Nat.le_of_succ_le_succ h)
    unfold L2.start at ih ⊢
    show some v :: (vs.map some ++ List.replicate (N.length + 1 - (vs.length + 1)) none) = some v :: startL N vs
    rw [Nat.add_sub_add_right, ih]
end Od
namespace Od
open PySem L2 Evl
/-- a clip that is allowed -/
structure Cl.Vd (c : Cl) : Prop where
  s0 : 0 ≤ c.s
  s1 : c.s ≤ 10000
  n1 : 1 ≤ c.n
  n2 : c.n ≤ 10000
  fi0 : 0 ≤ c.fi
  fo0 : 0 ≤ c.fo
  fs : c.fi + c.fo ≤ c.n
  pa : opOk 12 c.pa
structure ClsVd (ad : Bool) (cs : List Cl) : Prop where
  ap : Apart cs
  ok : ∀ c ∈ cs, c.Vd
  adj : ∀ c ∈ cs, AdjOk ad c
  len : cs.length ≤ 64
structure Bx.Vd (b : Bx) : Prop where
  l0 : -1000 ≤ b.l
  l1 : b.l ≤ 1000
  t0 : -1000 ≤ b.t
  t1 : b.t ≤ 1000
  w0 : 1 ≤ b.w
  w1 : b.w ≤ 64
  h0 : 1 ≤ b.h
  h1 : b.h ≤ 64
structure MvsVd (ms : List Mv) : Prop where
  asc : MAsc ms
  ok : ∀ m ∈ ms, 0 ≤ m.f ∧ m.f ≤ 1000 ∧ -1000 ≤ m.a ∧ m.a ≤ 1000 ∧ -1000 ≤ m.d ∧ m.d ≤ 1000
  len : ms.length ≤ 16
structure La.Vd (l : La) : Prop where
  name : nameS l.name = true
  box : l.box.Vd
  ms : MvsVd l.ms
  wh : l.wh.Ok
  cs : ClsVd l.wh.adj l.cs
structure Fi.Vd (x : Fi) : Prop where
  w0 : 1 ≤ x.w
  w1 : x.w ≤ 64
  h0 : 1 ≤ x.h
  h1 : x.h ≤ 64
  n0 : 1 ≤ x.n
  n1 : x.n ≤ 1000
  b0 : 0 ≤ x.b
  b1 : x.b ≤ 255
  len : x.ls.length ≤ 16
  ok : ∀ l ∈ x.ls, l.Vd
  nd : (x.ls.map La.name).Nodup
theorem MvsVd.mok {ms : List Mv} (h : MvsVd ms) : ∀ m ∈ ms, m.Ok := fun m hm => by
  obtain ⟨h1, h2, h3, h4, h5, h6⟩ := h.ok m hm
  exact ⟨h1, by omega, h3, h4, h5, h6⟩
theorem Cl.OkF.vd {c : Cl} (h : c.OkF) (hf : c.fin ≤ 40) : c.Vd := by
  obtain ⟨h1, h2, h3, h4, h5, h6, h7⟩ := h
  unfold Cl.fin at hf
  refine ⟨h1, by omega, h2, by omega, h4, h5, h6, ?_⟩
  cases hp : c.pa with
  | none => trivial
  | some p =>
    rw [hp] at h7
    cases p with
    | solid x => exact h7
    | steps f s z => exact h7
    | pic p =>
      have h7 : p.Ok 6 := h7
      exact ⟨h7.w1, by have := h7.w2; omega, h7.h1, by have := h7.h2; omega, h7.vl, h7.cl, h7.vb, h7.cb⟩
theorem name_ok {i : Nat} {n : Str} (h : NameOk i n) : nameS n = true := by
  obtain ⟨c, t, hc, ht, rfl⟩ := h
  have hm : c ∈ ghijkl.cps.toList := List.mem_of_getElem? hc
  have hg : ghijkl.cps.toList = [103, 104, 105, 106, 107, 108] := by decide +kernel
  rw [hg] at hm
  unfold tails4 at ht
  simp only [List.mem_cons, List.not_mem_nil, or_false] at hm ht
  rcases hm with rfl | rfl | rfl | rfl | rfl | rfl <;> rcases ht with rfl | rfl | rfl | rfl <;> decide +kernel
theorem name_first {i : Nat} {n : Str} (h : NameOk i n) : n.cps.toList[0]? = ghijkl.cps.toList[i]? := by
  obtain ⟨c, t, hc, ht, rfl⟩ := h
  rw [hc]
  have e : (⟨#[c]⟩ ++ t : Str).cps.toList = c :: t.cps.toList := by
    show ((#[c] : Array Nat) ++ t.cps).toList = _
    simp
  rw [e]
  rfl
theorem name_differ {i j : Nat} {n m : Str} (h : NameOk i n) (k : NameOk j m) (e : n = m) : i = j := by
  subst e
  have h1 := name_first h
  rw [name_first k] at h1
  obtain ⟨c, _, hc, _⟩ := h
  obtain ⟨d, _, hd, _⟩ := k
  have hg : ghijkl.cps.toList = [103, 104, 105, 106, 107, 108] := by decide +kernel
  rw [hg] at h1 hc hd
  have li := (List.getElem?_eq_some_iff.mp hc).1
  have lj := (List.getElem?_eq_some_iff.mp hd).1
  have nd : ([103, 104, 105, 106, 107, 108] : List Nat).Nodup := by decide
  exact (List.getElem?_inj li nd).mp h1.symm
theorem La.Ok.vd {l : La} {i : Nat} (h : l.Ok) (hn : NameOk i l.name) : l.Vd := by
  obtain ⟨⟨b1, b2, b3, b4, b5, b6, b7, b8⟩, ⟨m1, m2, m3⟩, w, ⟨c1, c2, c3, c4, c5⟩⟩ := h
  exact ⟨name_ok hn, ⟨by omega, by omega, by omega, by omega, b5, b6, b7, b8⟩, ⟨m1, fun m hm => by have := m2 m hm; omega, by omega⟩, w, ⟨c1, fun c hc => (c2 c hc).vd (c3 c hc), c4, by omega⟩⟩
theorem Fi.Ok.vd {x : Fi} (h : x.Ok) : x.Vd := by
  refine ⟨h.w0, h.w1, h.h0, h.h1, h.n0, by have := h.n1; omega, h.b0, h.b1, by have := h.len; omega, fun l hl => ?_, ?_⟩
  · obtain ⟨i, hi⟩ := List.getElem?_of_mem hl
    obtain ⟨k1, k2⟩ := h.ok i l hi
    exact k1.vd k2
  · rw [List.Nodup, List.pairwise_iff_getElem]
    intro i j hi hj hij e
    rw [List.length_map] at hi hj
    rw [List.getElem_map, List.getElem_map] at e
    have := name_differ (h.ok i _ (List.getElem?_eq_getElem hi)).2 (h.ok j _ (List.getElem?_eq_getElem hj)).2 e
    omega
/-- the fields of a film -/
def filmF (x : Fi) (L : Addr) : List (Str × V) := [("_width", .int x.w), ("_height", .int x.h), ("_frames", .int x.n), ("_background", .int x.b), ("_layers", .ref L)]
def FlV (C : Addr) (H : Hp) (v : V) (x : Fi) : Prop := ∃ a dx L us, v = .ref a ∧ H a = some (.ins C dx (filmF x L)) ∧ H L = some (.lst us) ∧ Paired (LaV H) us x.ls
theorem FlV.ex {C : Addr} {H H' : Hp} {v : V} {x : Fi} (e : Ex H H') (h : FlV C H v x) : FlV C H' v x := by
  obtain ⟨a, dx, L, us, rfl, h1, h2, h3⟩ := h
  exact ⟨a, dx, L, us, rfl, e _ _ h1, e _ _ h2, Paired.mapP h3 fun _ _ => LaV.tk (TK.ex e)⟩
/-- what the walk asks of the class -/
structure FilmT (K : PySem.W.Frag) (C : Addr) : Prop where
  cl : Cls K C
  nW : NoAttr K C "_width"
  nH : NoAttr K C "_height"
  nN : NoAttr K C "_frames"
  nB : NoAttr K C "_background"
  nL : NoAttr K C "_layers"
theorem film_w (x : Fi) (L : Addr) : (filmF x L).lookup ("_width" : Str) = some (.int x.w) := by
  unfold filmF
  simp only [List.lookup, show (("_width" : Str) == "_width") = true by decide +kernel]
theorem film_h (x : Fi) (L : Addr) : (filmF x L).lookup ("_height" : Str) = some (.int x.h) := by
  unfold filmF
  simp only [List.lookup, show (("_height" : Str) == "_width") = false by decide +kernel, show (("_height" : Str) == "_height") = true by decide +kernel]
theorem film_n (x : Fi) (L : Addr) : (filmF x L).lookup ("_frames" : Str) = some (.int x.n) := by
  unfold filmF
  simp only [List.lookup, show (("_frames" : Str) == "_width") = false by decide +kernel, show (("_frames" : Str) == "_height") = false by decide +kernel, show (("_frames" : Str) == "_frames") = true by decide +kernel]
theorem film_b (x : Fi) (L : Addr) : (filmF x L).lookup ("_background" : Str) = some (.int x.b) := by
  unfold filmF
  simp only [List.lookup, show (("_background" : Str) == "_width") = false by decide +kernel, show (("_background" : Str) == "_height") = false by decide +kernel, show (("_background" : Str) == "_frames") = false by decide +kernel, show (("_background" : Str) == "_background") = true by decide +kernel]
theorem film_l (x : Fi) (L : Addr) : (filmF x L).lookup ("_layers" : Str) = some (.ref L) := by
  unfold filmF
  simp only [List.lookup, show (("_layers" : Str) == "_width") = false by decide +kernel, show (("_layers" : Str) == "_height") = false by decide +kernel, show (("_layers" : Str) == "_frames") = false by decide +kernel, show (("_layers" : Str) == "_background") = false by decide +kernel, show (("_layers" : Str) == "_layers") = true by decide +kernel]
theorem film_put (x : Fi) (L : Addr) : putF "_layers" (.ref L) (putF "_background" (.int x.b) (putF "_frames" (.int x.n) (putF "_height" (.int x.h) (putF "_width" (.int x.w) [])))) = filmF x L := by
  have e : ∀ (f : Str) (v : V) (g : Str) (u : V) (r : List (Str × V)), ¬ g = f → putF f v ((g, u) :: r) = (g, u) :: putF f v r := fun f v g u r h => by
    show (if g = f then _ else _) = _
    rw [if_neg h]
  show putF "_layers" (.ref L) (putF "_background" (.int x.b) (putF "_frames" (.int x.n) (putF "_height" (.int x.h) [("_width", .int x.w)]))) = _
  rw [e "_height" _ "_width" _ _ (by decide +kernel)]
  show putF "_layers" (.ref L) (putF "_background" (.int x.b) (putF "_frames" (.int x.n) [("_width", .int x.w), ("_height", .int x.h)])) = _
  rw [e "_frames" _ "_width" _ _ (by decide +kernel), e "_frames" _ "_height" _ _ (by decide +kernel)]
  show putF "_layers" (.ref L) (putF "_background" (.int x.b) [("_width", .int x.w), ("_height", .int x.h), ("_frames", .int x.n)]) = _
  rw [e "_background" _ "_width" _ _ (by decide +kernel), e "_background" _ "_height" _ _ (by decide +kernel), e "_background" _ "_frames" _ _ (by decide +kernel)]
  show putF "_layers" (.ref L) [("_width", .int x.w), ("_height", .int x.h), ("_frames", .int x.n), ("_background", .int x.b)] = _
  rw [e "_layers" _ "_width" _ _ (by decide +kernel), e "_layers" _ "_height" _ _ (by decide +kernel), e "_layers" _ "_frames" _ _ (by decide +kernel), e "_layers" _ "_background" _ _ (by decide +kernel)]
  rfl
end Od
namespace Od
open PySem L2 Evl
theorem lc_rev {K : PySem.W.Frag} {a : Addr} {xs : List V} {g : TG} {tt : TT} {te : TE} {vs : List Nat} {σ : L2.St} {H1 : Hp} {D : Addr} {Qd : Hp → Prop} (Pv : Nat → Hp → Prop) (h0 : Pv 0 (upd H1 D (.lst []))) (hl : ∀ i H, i ≤ xs.length → Pv i H → SqL K H a xs)
    (hs : ∀ i x H, xs.reverse[i]? = some x → Pv i H → g x (wipe σ vs) H fun σ2 H2 => wipe σ2 vs = wipe σ vs ∧ tt σ2 H2 fun b H3 =>
      if b = true then te σ2 H3 fun y H4 => ∃ acc, H4 D = some (.lst acc) ∧ acc.length < sizeLine ∧ Pv (i + 1) (upd H4 D (.lst (acc ++ [y]))) else Pv (i + 1) H3) (hd : ∀ H, Pv xs.length H → Qd H) :
    ∃ W : Nat → Nat → Hp → Prop, (∃ m, W 0 m (upd H1 D (.lst []))) ∧ ∀ i m H, W i m H →
      ((Itv K a xs.length).stop i H ∧ Qd H) ∨ ((Itv K a xs.length).go i H ∧ ∃ Nx : Hp → Prop, (∀ H', Nx H' → ∃ m', m' < m ∧ W (i + 1) m' H') ∧ ∀ x H', (Itv K a xs.length).yld i H x H' → g x (wipe σ vs) H' fun σ2 H2 => wipe σ2 vs = wipe σ vs ∧ tt σ2 H2 fun b H3 =>
        if b = true then te σ2 H3 fun y H4 => ∃ acc, H4 D = some (.lst acc) ∧ acc.length < sizeLine ∧ Nx (upd H4 D (.lst (acc ++ [y]))) else Nx H3) := by
  refine ⟨fun i m H => m = xs.length - i ∧ i ≤ xs.length ∧ Pv i H, ⟨xs.length, by simp, Nat.zero_le _, h0⟩, ?_⟩
  rintro i m H ⟨rfl, hi, p⟩
  have q := hl i H hi p
  by_cases hlt : i < xs.length
  · have hx : xs[xs.length - 1 - i]? = some xs[xs.length - 1 - i] := List.getElem?_eq_getElem (by omega)
    refine .inr ⟨⟨hlt, xs, _, q, hx⟩, Pv (i + 1), fun H' p' => ⟨xs.length - (i + 1), by omega, rfl, hlt, p'⟩, fun x H' y => ?_⟩
    obtain ⟨e, y⟩ := y
    subst e
    refine hs i x _ ?_ p
    rw [List.getElem?_reverse hlt]
    exact y xs q
  · have e : i = xs.length := by omega
    subst e
    exact .inl ⟨Nat.le_refl _, hd H p⟩
end Od
namespace Od
open PySem L2 PySem.Spec PyProof.Rows
/-- an empty set that can be walked -/
abbrev setOb (w : World) : Obj := { cls := .type "set", dict := none, data := .set #[] 0 (.fresh 0 0 (!w.params.followText "set-order")) }
/-- what is known behind set(xs) -/
def SetMade (w : World) (s : Shared) (ns : List Int) (s' : Shared) : Prop :=
  ∃ (g : Heap) (tk c : Nat), s' = { s with heap := g, toks := tk } ∧ SetR w g s.heap.objs.size (fun j => decide (j ∈ ns)) c ∧ c ≤ ns.length ∧ ∀ b o, s.heap.get? b = some o → g.get? b = some o
section
variable {P : Program} {w : World} {A : Around} {E : Value → Shared → Prop} {s : Shared}
theorem bt_set : bootBuiltins "set" = some (.type "set") := by decide +kernel
theorem ints_pick {its : Array Value} {ns : List Int} (hi : IntsAre its.toList ns) {i : Nat} {v : Value} (hv : its[i]? = some v) : ∃ k t, ns[i]? = some k ∧ v = .int k t := by
  have il : i < ns.length := by
    rw [← IntsAre.length hi, Array.length_toList]
    exact (Array.getElem?_eq_some_iff.mp hv).1
  obtain ⟨t, e⟩ := IntsAre.int_at hi i v (by rw [Array.getElem?_toList]; exact hv)
  rw [List.getD_eq_getElem?_getD, List.getElem?_eq_getElem il] at e
  exact ⟨ns[i], t, List.getElem?_eq_getElem il, e⟩
set_option maxHeartbeats 8000000 in
theorem set_init_list {l : Addr} {its : Array Value} (ns : List Int) (calm : A.handled = none) (hl : s.heap.IsList l its) (hi : IntsAre its.toList ns) (few : ns.length + 1 < scanBound) :
    codeAny (model P w) A (.call (.builtin "set.__init__") ⟨[.ref s.heap.objs.size, .ref l], []⟩) (wants (fun r s' => r = .none ∧ SetMade w s ns s') E) { s with heap := s.heap.push (setOb w) } := by
  have zz : its.size = ns.length := Array.length_toList.symm.trans (IntsAre.length hi)
  have at0 : (s.heap.push (setOb w)).get? s.heap.objs.size = some (setOb w) := Heap.get?_push_size _ rfl
  have ty : Shared.TypeIs { s with heap := s.heap.push (setOb w) } (.ref s.heap.objs.size) "set" := ⟨_, at0, rfl⟩
  refine codeAny_call_builtin F.called_set.init.plain F.entry_set_init (check_set_init_1 ty ?_)
  obtain ⟨⟨oc, od, ot, os⟩, ho, hc, n, hd⟩ := hl
  dsimp only at hc hd
  subst hc
  subst hd
  have ho1 : (s.heap.push (setOb w)).get? l = some ⟨.type "list", od, .seq its n, os⟩ := Heap.get?_push_of_some _ ho
  have n1 := F.sub_list_set
  have n2 := F.sub_list_frozenset
  have n3 : (Value.type "list" == Value.type "dict") = false := by decide
  have il : (s.heap.push (setOb w)).IsList l its := ⟨_, ho1, rfl, n, rfl⟩
  unfold Builtin.«set.__init__» noKeywords Builtin.Frozenset.updateFrom
  generalize hIt : pyIter = It
  wp_walk
  subst hIt
  refine wpAny_pyIter_list il ?_
  refine wpAny_bind (wpAny_runValue ?_)
  have lt : l < s.heap.objs.size := Heap.lt_size ho
  have calm3 : A.in1.in1.handled = none := by simp [calm]
  have ps : (s.heap.push (setOb w)).objs.size = s.heap.objs.size + 1 := Heap.size_push ..
  have nI : l ≠ (s.heap.push (setOb w)).objs.size := by rw [ps]; exact Nat.ne_of_lt (Nat.lt_succ_of_lt lt)
  have out : s.heap.objs.size ∉ [(s.heap.push (setOb w)).objs.size, l] := fun m => by
    rw [ps] at m
    rcases List.mem_cons.mp m with m | m
    · omega
    · exact Nat.ne_of_gt lt (List.mem_singleton.mp m)
  have start : ((s.heap.push (setOb w)).push { cls := .type "list_iterator", data := .fields #[.ref l, .int 0 0] }).get? s.heap.objs.size = some (setOb w) := Heap.get?_push_of_some _ at0
  refine set_update_ints ((Walks.list calm3 _ l nI its).toS) s.heap.objs.size out ns zz few (fun i v hv => ints_pick hi hv) (its.size - 0) 0 _ (by omega) (Nat.zero_le _) ?walk ?empty ?_
  case walk => exact ⟨⟨_, Heap.get?_push_size _ rfl, rfl, rfl⟩, il.push _⟩
  case empty => exact ⟨0, Nat.le_refl 0, setR_new_at start⟩
  rintro ⟨g, gg, gd, gt, go⟩ c mv hc hS
  obtain rfl : gg = s.gens := mv.gens
  obtain rfl : gd = s.drawn := mv.drawn
  obtain rfl : go = s.os := mv.os
  show wpAny _ _ _ _ _ _
  refine wpAny_pure ?_
  show wpAny _ _ (ret Value.none) _ _ _
  rw [zz] at hc
  refine wpAny_pure ⟨rfl, g, gt, c, rfl, hS, hc, fun b o e => ?_⟩
  have lb : b < s.heap.objs.size := Heap.lt_size e
  refine mv.heap b o (fun m => ?_) (Heap.get?_push_of_some _ (Heap.get?_push_of_some _ e))
  rw [ps] at m
  rcases List.mem_cons.mp m with m | m
  · exact Nat.ne_of_lt lb m
  · exact Nat.ne_of_lt (Nat.lt_succ_of_lt lb) (List.mem_singleton.mp m)
set_option maxHeartbeats 8000000 in
theorem set_of_list {l : Addr} {its : Array Value} (ns : List Int) {Q : Value → Shared → Prop} (calm : A.handled = none) (hl : s.heap.IsList l its) (hi : IntsAre its.toList ns) (few : ns.length + 1 < scanBound) (q : ∀ s', SetMade w s ns s' → Q (.ref s.heap.objs.size) s') : wpAny (model P w) A (call (.type "set") [.ref l]) Q E s := by
  obtain ⟨mc, mt, mro⟩ := F.called_set.mro
  have k1 := F.called_set.made
  have k2 := F.called_set.sub
  refine wpAny_call (codeAny_of_tree ?_)
  show wpAny _ _ (callAny (.type "set") _) _ _ _
  refine wpAny_pure ⟨Code.quiet_builtin _ (by decide +kernel), codeAny_builtin F.entry_type_call ?_⟩
  rw [Around.under_plain (weight_type_call_type "set" [.ref l] []) rfl]
  have k3 := F.called_set.notType
  have k4 := F.called_set.canCreate
  have k5 := F.typeCall_set_1 (.ref l)
  repeat (any_goals (first | assumption | wp_step))
  refine codeAny_mono (code_set_led1 (.ref l) (E := E) (Q₁ := fun x s1 => x = .ref s.heap.objs.size ∧ s1 = { s with heap := s.heap.push (setOb w) }) ⟨rfl, rfl⟩) fun r s1 hr => ?_
  match r, hr with
  | .error e, hr => exact hr
  | .ok (.ret x), hr =>
    obtain ⟨rfl, rfl⟩ := hr
    have at0 : (s.heap.push (setOb w)).get? s.heap.objs.size = some (setOb w) := Heap.get?_push_size _ rfl
    have ty : Shared.TypeIs { s with heap := s.heap.push (setOb w) } (.ref s.heap.objs.size) "set" := ⟨_, at0, rfl⟩
    have k6 := F.called_set.init.lookup
    have k7 := F.called_set.init.bind (.ref s.heap.objs.size)
    repeat (any_goals (first | assumption | wp_step))
    refine codeAny_mono (set_init_list (E := E) ns (by simp [calm]) hl hi few) fun r2 s2 hr2 => ?_
    match r2, hr2 with
    | .error e, hr2 => exact hr2
    | .ok (.ret y), hr2 =>
      obtain ⟨rfl, made⟩ := hr2
      repeat (any_goals (first | assumption | wp_step))
      exact q _ made
end
section
variable {X : Cx}
/-- set(xs) of a list of ints: the set, as sorted(..) takes it -/
def rSetI (K : PySem.W.Frag) (w : World) : List V → Hp → VK → Prop := fun xs H Q => ∃ (l : Addr) (ns : List Int), xs = [.ref l] ∧ SqL K H l (ns.map V.int) ∧ ns.length < 64 ∧ ∀ p c, H p = none → c ≤ ns.length → Q (.ref p) (upd H p (SetO w p (fun j => decide (j ∈ ns)) c))
theorem cr_setI (hc : X.calm = true) : CallR X (.type "set") (rSetI X.K X.w) := by
  intro pins s σ H xs us Q I r h
  obtain ⟨l, ns, rfl, hl, few, q⟩ := h
  rw [Vals.ref1 r]
  obtain ⟨its, rv, pl, hz⟩ := I.list hl
  refine set_of_list (its := its.toArray) ns (I.ok.hd hc) pl.isList (by simpa using ints_of_vals rv) (by unfold scanBound; omega) fun s' made => ?_
  obtain ⟨g, tk, c, rfl, R, cl, keep⟩ := made
  exact ⟨.ref _, upd H s.heap.objs.size (SetO X.w s.heap.objs.size (fun j => decide (j ∈ ns)) c), I.laid (t' := tk) keep (Nat.le_refl _) (setO_new R), rfl, q _ c (I.hok.fresh (Nat.le_refl _)) cl⟩
theorem ksetI (K : PySem.W.Frag) {w : World} (hc : X.calm = true) (h : X.K = K := by rfl) (hw : X.w = w := by rfl) : CallR X (.type "set") (rSetI K w) := by
  subst h
  subst hw
  exact cr_setI hc
theorem ksortedSet {w : World} (hc : X.calm = true) (hw : X.w = w := by rfl) : CallR X (.builtin "sorted") (rSortedSet w) := by
  subst hw
  exact cr_sortedSet hc
end
end Od
namespace Od
open PySem L2 Evl
theorem ksortedP {X : Cx} (K : PySem.W.Frag) (h : X.K = K := by rfl) : CallR X (.builtin "sorted") (rSortedPO K) := by
  subst h
  exact cr_sortedPO
def swp (z : Pt) : Pt := (z.2, z.1)
/-- the pair that stands at a value -/
def kf (H : Hp) : V → Int × Int
  | .ref t => match H t with
    | some (.tup [.int i, .int j]) => (i, j)
    | _ => (0, 0)
  | _ => (0, 0)
theorem kf_of {H : Hp} {v : V} {z : Pt} (h : PtV H v z) : kf H v = z := by
  obtain ⟨a, rfl, ha⟩ := h
  unfold kf
  simp only [ha]
theorem kf_map {H : Hp} : ∀ {vs : List V} {qs : List Pt}, PtsV H vs qs → vs.map (kf H) = qs
  | _, _, .nil => rfl
  | _, _, .cons h t => by rw [List.map_cons, kf_of h, kf_map t]
theorem pts_kf {H : Hp} : ∀ {vs : List V}, (∀ v ∈ vs, PtV H v (kf H v)) → PtsV H vs (vs.map (kf H))
  | [], _ => .nil
  | v :: vs, h => .cons (h v (by simp)) (pts_kf fun u hu => h u (by simp [hu]))
theorem pts_each {H : Hp} : ∀ {vs : List V} {qs : List Pt}, PtsV H vs qs → ∀ v ∈ vs, PtV H v (kf H v)
  | _, _, .nil, v, h => by simp at h
  | _, _, .cons k t, v, h => by
    rcases List.mem_cons.mp h with rfl | h
    · rw [kf_of k]
      exact k
    · exact pts_each t v h
theorem sorted_pts {H : Hp} {vs ys : List V} {qs : List Pt} (h : PtsV H vs qs) (nd : qs.Nodup) (s : SrtO.Srtd (ltP (kf H)) ys) (b : SrtO.Stb (ltP (kf H)) ys vs) :
    PtsV H ys (ys.map (kf H)) ∧ (∀ z, z ∈ ys.map (kf H) ↔ z ∈ qs) ∧ ((ys.map (kf H)).map swp).Pairwise before ∧ ys.length = qs.length := by
  have pm : (ys.map (kf H)).Perm qs := (kf_map h) ▸ b.perm.map (kf H)
  refine ⟨pts_kf fun v hv => pts_each h v (b.perm.mem_iff.mp hv), fun z => pm.mem_iff, ?_, by rw [← pm.length_eq, List.length_map]⟩
  have nd2 : (ys.map (kf H)).Nodup := pm.nodup_iff.mpr nd
  refine List.pairwise_map.mpr ?_
  have s2 : (ys.map (kf H)).Pairwise fun p q => SrtO.lexB q p = false := List.pairwise_map.mpr s
  refine (s2.and nd2).imp fun {p q} ⟨h1, h2⟩ => ?_
  have h3 := SrtO.lexB_no.mp h1
  show p.1 < q.1 ∨ (p.1 = q.1 ∧ p.2 < q.2)
  by_cases c : p.1 = q.1
  · refine .inr ⟨c, ?_⟩
    have : p.2 ≠ q.2 := fun z => h2 (Prod.ext c z)
    omega
  · omega
end Od
namespace Od
open PySem L2 Evl
def top (i : Nat) : Stmt := PySem.Challenge.pw_onlythedirt_k46_dirt.main.body.getD i (.Pass ⟨0, 0, 0, 0⟩)
structure Txt (K : PySem.W.Frag) (mg : Str → Option Value) : Prop where
  all_ : mg "all" = none
  bool_ : mg "bool" = none
  enumerate_ : mg "enumerate" = none
  int_ : mg "int" = none
  isinstance_ : mg "isinstance" = none
  len_ : mg "len" = none
  list_ : mg "list" = none
  max_ : mg "max" = none
  min_ : mg "min" = none
  range_ : mg "range" = none
  reversed_ : mg "reversed" = none
  set_ : mg "set" = none
  sorted_ : mg "sorted" = none
  str_ : mg "str" = none
  tuple_ : mg "tuple" = none
  zip_ : mg "zip" = none
  CLIPS_MOST_ : ∃ t, mg "CLIPS_MOST" = some (.int 64 t)
  COVER_MOST_ : ∃ t, mg "COVER_MOST" = some (.int 256 t)
  DISTANCE_MOST_ : ∃ t, mg "DISTANCE_MOST" = some (.int 1000 t)
  FRAMES_MOST_ : ∃ t, mg "FRAMES_MOST" = some (.int 1000 t)
  LAYERS_MOST_ : ∃ t, mg "LAYERS_MOST" = some (.int 16 t)
  LENGTH_MOST_ : ∃ t, mg "LENGTH_MOST" = some (.int 10000 t)
  LETTERS_ : ∃ t, mg "LETTERS" = some (.str "abcdefghijklmnopqrstuvwxyz" t)
  LEVEL_MOST_ : ∃ t, mg "LEVEL_MOST" = some (.int 256 t)
  MODES_ : ∃ a, mg "MODES" = some (.ref a) ∧ ∀ H, SqT K H a [.str "over", .str "add", .str "times"]
  MOVES_MOST_ : ∃ t, mg "MOVES_MOST" = some (.int 16 t)
  MOVE_FRAME_MOST_ : ∃ t, mg "MOVE_FRAME_MOST" = some (.int 1000 t)
  NAME_MOST_ : ∃ t, mg "NAME_MOST" = some (.int 8 t)
  PICTURE_SIDE_MOST_ : ∃ t, mg "PICTURE_SIDE_MOST" = some (.int 12 t)
  PLACE_MOST_ : ∃ t, mg "PLACE_MOST" = some (.int 1000 t)
  SIDE_MOST_ : ∃ t, mg "SIDE_MOST" = some (.int 64 t)
  START_MOST_ : ∃ t, mg "START_MOST" = some (.int 10000 t)
  STEP_MOST_ : ∃ t, mg "STEP_MOST" = some (.int 12 t)
  VALUE_MOST_ : ∃ t, mg "VALUE_MOST" = some (.int 255 t)
  _EITHER_ : ∃ a, mg "_EITHER" = some (.ref a) ∧ ∀ H, SqT K H a [.bl false, .bl true, .bl true, .bl true]
section
variable {P : Program} {w : World} {K : PySem.W.Frag} {mg : Str → Option Value} {base : Heap}
abbrev s_l_draw : Stmt := top 89
theorem sc_l_draw : FnScope ["script", "k", "below", "cell", "turn", "number"] ["script", "k", "below"] (defScope s_l_draw) := ⟨rfl, rfl, rfl, by decide +kernel, rfl, by decide +kernel, by decide +kernel⟩
def spDrawF (K : PySem.W.Frag) : Sp := fun vs H Q _ => ∃ (a : Addr) (ns : List Int) (k b : Int), vs = [.ref a, .int k, .int b] ∧ SqL K H a (ns.map V.int) ∧ 0 ≤ k ∧ 0 < b ∧ b < 1073741824 ∧ ∀ n, 0 ≤ n → n < b → Q (.int n) H
theorem ok_l_draw {f : Addr} {fd : FuncData} (F : Fun K "_law_draw" "_law_draw" s_l_draw f fd) (T : Txt K mg) : FnOk P w K mg base CX0 1 f fd ["script", "k", "below"] (spDrawF K) := by
  refine F.ok sc_l_draw (fun vs H Q E h => ?_) (fun cdv A outer s H vs Q E hr h => ?_)
  · obtain ⟨a, ns, k, b, rfl, _⟩ := h
    rfl
  · obtain ⟨a, ns, k, b, rfl, hS, k0, b0, b1, q⟩ := h
    refine ⟨_, (pss_cons (ps_if (pt_cmpR op_eq (pe_callB (klen K) (by rfl) T.len_ PySem.boot_len (pa_cons (pv 0) pa_nil)) pe_int (nomark _))
        (pss_one (ps_ret pe_int))
        pss_nil)
      (pss_cons (ps_set (i := 3) sc_l_draw.nd rfl (by first | exact Or.inl rfl | exact Or.inr rfl) (pe_callTy call_int1 (by rfl) T.int_ bt_int (pa_cons (pe_ix (kixL K) (pv 0) (pe_op op_mod (pe_callTy call_int1 (by rfl) T.int_ bt_int (pa_cons (pe_op op_fdiv (pv 1) pe_int) pa_nil)) (pe_callB (klen K) (by rfl) T.len_ PySem.boot_len (pa_cons (pv 0) pa_nil))) (fun _ _ => rfl)) pa_nil)))
      (pss_cons (ps_if (PW.pt (pw_and (pt_cmpR op_ge (pv 3) (pe_op op_pow pe_int pe_int) (nomark _)) (pw_and1 (pt_cmpR op_lt (pe_op op_fdiv (pv 1) pe_int) (pe_callB (klen K) (by rfl) T.len_ PySem.boot_len (pa_cons (pv 0) pa_nil)) (nomark _)))))
        (pss_cons (ps_for PassesOwn.never rfl (pi_range1 (by rfl) T.range_ (pa_cons (pe_op op_mod (pe_callTy call_int1 (by rfl) T.int_ bt_int (pa_cons (pv 1) pa_nil)) pe_int) pa_nil)) (pg_name (i := 4) sc_l_draw.nd rfl (by first | exact Or.inl rfl | exact Or.inr rfl))
          (pss_one (ps_set (i := 3) sc_l_draw.nd rfl (by first | exact Or.inl rfl | exact Or.inr rfl) (pe_op op_fdiv (pv 3) pe_int))))
        (pss_one (ps_ret (pe_op op_mod (pe_op op_mod (pe_callTy call_int1 (by rfl) T.int_ bt_int (pa_cons (pv 3) pa_nil)) pe_int) (pv 2)))))
        pss_nil)
      (pss_cons (ps_set (i := 5) sc_l_draw.nd rfl (by first | exact Or.inl rfl | exact Or.inr rfl) (pe_op op_mod (pe_callTy call_int1 (by rfl) T.int_ bt_int (pa_cons (pe_op op_add (pe_op op_add (pe_op op_mul (pv 3) pe_int) (pe_op op_mul (pv 1) pe_int)) pe_int) pa_nil)) pe_int))
      (pss_cons (ps_set (i := 5) sc_l_draw.nd rfl (by first | exact Or.inl rfl | exact Or.inr rfl) (pe_op op_mod (pe_callTy call_int1 (by rfl) T.int_ bt_int (pa_cons (pe_op op_add (pe_op op_add (pe_op op_mul (pv 5) (pv 5)) (pe_op op_mul pe_int (pv 1))) pe_int) pa_nil)) pe_int))
      (pss_cons (ps_set (i := 5) sc_l_draw.nd rfl (by first | exact Or.inl rfl | exact Or.inr rfl) (pe_op op_mod (pe_callTy call_int1 (by rfl) T.int_ bt_int (pa_cons (pe_op op_add (pe_op op_add (pe_op op_mul (pv 5) (pv 5)) (pe_op op_mul pe_int (pv 1))) (pv 3)) pa_nil)) pe_int))
      (pss_one (ps_ret (pe_op op_mod (pe_op op_fdiv (pv 5) pe_int) (pv 2)))))))))), ?_⟩
    refine ⟨_, rfl, a, _, rfl, .inl hS, rfl, _, rfl, ?_⟩
    refine ite2 (fun _ => q 0 (Int.le_refl 0) b0) (fun e0 => ?_)
    have hn : 0 < ns.length := by
      refine Nat.pos_of_ne_zero fun z => e0 (decide_eq_true ?_)
      rw [List.length_map, z]
      rfl
    have i0 : 0 ≤ k / 4 % (ns.length : Int) := Int.emod_nonneg _ (by omega)
    have i1 : k / 4 % (ns.length : Int) < ns.length := Int.emod_lt_of_pos _ (by omega)
    have hx : ns[(k / 4 % (ns.length : Int)).toNat]? = some ns[(k / 4 % (ns.length : Int)).toNat] := List.getElem?_eq_getElem (by omega)
    generalize ns[(k / 4 % (ns.length : Int)).toNat] = c at hx
    have hat : atI (ns.map V.int) (k / 4 % ((ns.map V.int).length : Int)) = some (.int c) := by
      rw [List.length_map]
      have h4 : (ns.map V.int)[(k / 4 % (ns.length : Int)).toNat]? = some (.int c) := by rw [List.getElem?_map, hx]; rfl
      have := atI_nat h4
      rwa [Int.toNat_of_nonneg i0] at this
    refine ⟨_, rfl, _, rfl, _, _, rfl, rfl, ⟨by decide, by decide⟩, .inl ⟨_, rfl, ?_⟩⟩
    refine ⟨_, rfl, a, _, rfl, .inl hS, _, _, rfl, rfl, (by show (0 : Int) < ((ns.map V.int).length : Int); rw [List.length_map]; omega), ?_⟩
    refine ⟨a, _, _, _, rfl, rfl, hS, hat, .inl ⟨_, rfl, ?_⟩⟩
    refine ⟨_, rfl, _, _, rfl, rfl, ⟨by decide, by decide, by decide⟩, ?_⟩
    refine ⟨_, _, rfl, rfl, _, rfl, ?_⟩
    refine ite2 (fun c1 => ?_) (fun c1 => ?_)
    · refine ⟨_, rfl, _, _, rfl, rfl, ⟨by decide, by decide⟩, _, rfl, a, _, rfl, .inl hS, _, _, rfl, rfl, _, rfl, ?_⟩
      refine ite2 (fun c2 => ?_) (fun c2 => ?_)
      · refine ⟨_, rfl, .inl ⟨_, rfl, _, _, rfl, rfl, (by show (0 : Int) < 4; decide), ?_⟩⟩
        have t0 : 0 ≤ k % 4 := Int.emod_nonneg _ (by decide)
        have t1 : k % 4 < 4 := Int.emod_lt_of_pos _ (by decide)
        refine ⟨_, rfl, by omega, by omega, ?_⟩
        refine for_range (lo := 0) (n := (k % 4).toNat) (fun i σ H' => H = H' ∧ ∃ (c : Int) (x : Option V), σ = [some (.ref a), some (.int k), some (.int b), some (.int c), x, none]) ⟨rfl, _, _, rfl⟩ ?_ ?_
        · rintro i σ H' _ ⟨rfl, c, x, rfl⟩
          exact ⟨_, rfl, _, _, rfl, rfl, ⟨by decide, by decide⟩, rfl, _, _, rfl⟩
        · rintro σ H' ⟨rfl, c, x, rfl⟩
          refine ⟨_, rfl, .inl ⟨_, rfl, _, _, rfl, rfl, (by show (0 : Int) < 1000; decide), ?_⟩⟩
          refine ⟨_, rfl, _, _, rfl, rfl, b0, ?_⟩
          exact q _ (Int.emod_nonneg _ (by omega)) (Int.emod_lt_of_pos _ b0)
      · skip
        refine ⟨_, rfl, _, _, rfl, rfl, .inr ⟨by decide, by decide⟩, ?_⟩
        refine ⟨_, rfl, _, _, rfl, rfl, .inr ⟨by decide, by decide⟩, ?_⟩
        refine ⟨_, _, rfl, rfl, ?_⟩
        refine ⟨_, _, rfl, rfl, .inl ⟨_, rfl, ?_⟩⟩
        refine ⟨_, _, rfl, rfl, (by show (0 : Int) < 2147483647; decide), ?_⟩
        refine ⟨_, rfl, _, rfl, _, _, rfl, rfl, .inl ⟨by omega, by omega⟩, ?_⟩
        refine ⟨_, rfl, _, _, rfl, rfl, .inl ⟨by decide, by decide⟩, ?_⟩
        refine ⟨_, _, rfl, rfl, ?_⟩
        refine ⟨_, _, rfl, rfl, .inl ⟨_, rfl, ?_⟩⟩
        refine ⟨_, _, rfl, rfl, (by show (0 : Int) < 998244353; decide), ?_⟩
        refine ⟨_, rfl, _, rfl, _, _, rfl, rfl, .inl ⟨by omega, by omega⟩, ?_⟩
        refine ⟨_, rfl, _, _, rfl, rfl, .inl ⟨by decide, by decide⟩, ?_⟩
        refine ⟨_, _, rfl, rfl, ?_⟩
        refine ⟨_, rfl, ?_⟩
        refine ⟨_, _, rfl, rfl, .inl ⟨_, rfl, ?_⟩⟩
        refine ⟨_, _, rfl, rfl, (by show (0 : Int) < 2147483629; decide), ?_⟩
        refine ⟨_, rfl, _, _, rfl, rfl, ⟨by decide, by decide⟩, ?_⟩
        refine ⟨_, rfl, _, _, rfl, rfl, b0, ?_⟩
        exact q _ (Int.emod_nonneg _ (by omega)) (Int.emod_lt_of_pos _ b0)
    · skip
      refine ⟨_, rfl, _, _, rfl, rfl, .inr ⟨by decide, by decide⟩, ?_⟩
      refine ⟨_, rfl, _, _, rfl, rfl, .inr ⟨by decide, by decide⟩, ?_⟩
      refine ⟨_, _, rfl, rfl, ?_⟩
      refine ⟨_, _, rfl, rfl, .inl ⟨_, rfl, ?_⟩⟩
      refine ⟨_, _, rfl, rfl, (by show (0 : Int) < 2147483647; decide), ?_⟩
      refine ⟨_, rfl, _, rfl, _, _, rfl, rfl, .inl ⟨by omega, by omega⟩, ?_⟩
      refine ⟨_, rfl, _, _, rfl, rfl, .inl ⟨by decide, by decide⟩, ?_⟩
      refine ⟨_, _, rfl, rfl, ?_⟩
      refine ⟨_, _, rfl, rfl, .inl ⟨_, rfl, ?_⟩⟩
      refine ⟨_, _, rfl, rfl, (by show (0 : Int) < 998244353; decide), ?_⟩
      refine ⟨_, rfl, _, rfl, _, _, rfl, rfl, .inl ⟨by omega, by omega⟩, ?_⟩
      refine ⟨_, rfl, _, _, rfl, rfl, .inl ⟨by decide, by decide⟩, ?_⟩
      refine ⟨_, _, rfl, rfl, ?_⟩
      refine ⟨_, rfl, ?_⟩
      refine ⟨_, _, rfl, rfl, .inl ⟨_, rfl, ?_⟩⟩
      refine ⟨_, _, rfl, rfl, (by show (0 : Int) < 2147483629; decide), ?_⟩
      refine ⟨_, rfl, _, _, rfl, rfl, ⟨by decide, by decide⟩, ?_⟩
      refine ⟨_, rfl, _, _, rfl, rfl, b0, ?_⟩
      exact q _ (Int.emod_nonneg _ (by omega)) (Int.emod_lt_of_pos _ b0)
abbrev s_l_picture : Stmt := top 90
theorem sc_l_picture : FnScope ["script", "k", "width", "height", "step", "first", "holes", "values", "covers", "place", "cover"] ["script", "k"] (defScope s_l_picture) := ⟨rfl, rfl, rfl, by decide +kernel, rfl, by decide +kernel, by decide +kernel⟩
def spPicF (K : PySem.W.Frag) : Sp := fun vs H Q _ => ∃ (a : Addr) (ns : List Int) (k : Int), vs = [.ref a, .int k] ∧ SqL K H a (ns.map V.int) ∧ 0 ≤ k ∧ ∀ v p H', Ex H H' → PcV H' v p → p.Ok 6 → Q v H'
theorem ok_l_picture {f : Addr} {fd : FuncData} (F : Fun K "_law_picture" "_law_picture" s_l_picture f fd) (T : Txt K mg) (D_l_draw : Def P w K mg base CX0 "_law_draw" 1 ["script", "k", "below"] (spDrawF K)) : FnOk P w K mg base CX0 2 f fd ["script", "k"] (spPicF K) := by
  refine F.ok sc_l_picture (fun vs H Q E h => ?_) (fun cdv A outer s H vs Q E hr h => ?_)
  · obtain ⟨a, ns, k, rfl, _⟩ := h
    rfl
  · obtain ⟨a, ns, k, rfl, hS, k0, q⟩ := h
    refine ⟨_, (pss_cons (ps_set (i := 2) sc_l_picture.nd rfl (by first | exact Or.inl rfl | exact Or.inr rfl) (pe_op op_add pe_int (pe_call D_l_draw.ok (hr.mono (by decide)) rfl D_l_draw.mgf D_l_draw.kp D_l_draw.b .nil pass0 (pa_cons (pv 0) (pa_cons (pv 1) (pa_cons pe_int pa_nil))))))
      (pss_cons (ps_set (i := 3) sc_l_picture.nd rfl (by first | exact Or.inl rfl | exact Or.inr rfl) (pe_op op_add pe_int (pe_call D_l_draw.ok (hr.mono (by decide)) rfl D_l_draw.mgf D_l_draw.kp D_l_draw.b .nil pass0 (pa_cons (pv 0) (pa_cons (pe_op op_add (pv 1) pe_int) (pa_cons pe_int pa_nil))))))
      (pss_cons (ps_set (i := 4) sc_l_picture.nd rfl (by first | exact Or.inl rfl | exact Or.inr rfl) (pe_op op_add pe_int (pe_call D_l_draw.ok (hr.mono (by decide)) rfl D_l_draw.mgf D_l_draw.kp D_l_draw.b .nil pass0 (pa_cons (pv 0) (pa_cons (pe_op op_add (pv 1) pe_int) (pa_cons pe_int pa_nil))))))
      (pss_cons (ps_set (i := 5) sc_l_picture.nd rfl (by first | exact Or.inl rfl | exact Or.inr rfl) (pe_call D_l_draw.ok (hr.mono (by decide)) rfl D_l_draw.mgf D_l_draw.kp D_l_draw.b .nil pass0 (pa_cons (pv 0) (pa_cons (pe_op op_add (pv 1) pe_int) (pa_cons pe_int pa_nil)))))
      (pss_cons (ps_set (i := 6) sc_l_picture.nd rfl (by first | exact Or.inl rfl | exact Or.inr rfl) (pe_call D_l_draw.ok (hr.mono (by decide)) rfl D_l_draw.mgf D_l_draw.kp D_l_draw.b .nil pass0 (pa_cons (pv 0) (pa_cons (pe_op op_add (pv 1) pe_int) (pa_cons pe_int pa_nil)))))
      (pss_cons (ps_set (i := 7) sc_l_picture.nd rfl (by first | exact Or.inl rfl | exact Or.inr rfl) (pe_lst pa_nil))
      (pss_cons (ps_set (i := 8) sc_l_picture.nd rfl (by first | exact Or.inl rfl | exact Or.inr rfl) (pe_lst pa_nil))
      (pss_cons (ps_for PassesOwn.never rfl (pi_range1 (by rfl) T.range_ (pa_cons (pe_op op_mul (pv 2) (pv 3)) pa_nil)) (pg_name (i := 9) sc_l_picture.nd rfl (by first | exact Or.inl rfl | exact Or.inr rfl))
        (pss_cons (ps_expr (pe_bm PySem.F.plainAttrs_list PySem.F.slot_list_append PySem.F.type_list_append mt_append (pv 7) (pa_cons (pe_op op_mod (pe_callTy call_int1 (by rfl) T.int_ bt_int (pa_cons (pe_op op_add (pv 5) (pe_op op_mul (pv 9) (pv 4))) pa_nil)) pe_int) pa_nil)))
        (pss_cons (ps_set (i := 10) sc_l_picture.nd rfl (by first | exact Or.inl rfl | exact Or.inr rfl) pe_int)
        (pss_cut (ps_if (PW.pt (pw_and (pt_cmpR op_eq (pv 6) pe_int (nomark _)) (pw_and1 (pt_cmpR op_eq (pe_op op_mod (pe_callTy call_int1 (by rfl) T.int_ bt_int (pa_cons (pv 9) pa_nil)) pe_int) pe_int (nomark _)))))
          (pss_one (ps_set (i := 10) sc_l_picture.nd rfl (by first | exact Or.inl rfl | exact Or.inr rfl) pe_int))
          pss_nil)
        (pss_cut (ps_if (pt_cmpR op_eq (pv 6) pe_int (nomark _))
          (pss_one (ps_set (i := 10) sc_l_picture.nd rfl (by first | exact Or.inl rfl | exact Or.inr rfl) (pe_op op_mod (pe_callTy call_int1 (by rfl) T.int_ bt_int (pa_cons (pe_op op_add (pe_op op_mul (pv 9) pe_int) (pv 5)) pa_nil)) pe_int)))
          pss_nil)
        (pss_one (ps_expr (pe_bm PySem.F.plainAttrs_list PySem.F.slot_list_append PySem.F.type_list_append mt_append (pv 8) (pa_cons (pv 10) pa_nil)))))))))
      (pss_one (ps_ret (pe_tup (pa_cons (pv 2) (pa_cons (pv 3) (pa_cons (pe_callTy (ktuple K) (by rfl) T.tuple_ bt_tuple (pa_cons (pv 7) pa_nil)) (pa_cons (pe_callTy (ktuple K) (by rfl) T.tuple_ bt_tuple (pa_cons (pv 8) pa_nil)) pa_nil))))))))))))))), ?_⟩
    refine ⟨_, rfl, _, rfl, a, ns, k, 6, rfl, hS, k0, by decide, by decide, fun wd w0 w1 => ?_⟩
    refine ⟨_, _, rfl, rfl, ?_⟩
    refine ⟨_, rfl, _, rfl, _, _, rfl, rfl, a, ns, k + 1, 6, rfl, hS, by omega, by decide, by decide, fun hg h0 h1 => ?_⟩
    refine ⟨_, _, rfl, rfl, ?_⟩
    refine ⟨_, rfl, _, rfl, _, _, rfl, rfl, a, ns, k + 2, 255, rfl, hS, by omega, by decide, by decide, fun st st0 st1 => ?_⟩
    refine ⟨_, _, rfl, rfl, ?_⟩
    refine ⟨_, rfl, _, rfl, _, _, rfl, rfl, a, ns, k + 3, 256, rfl, hS, by omega, by decide, by decide, fun fi fi0 fi1 => ?_⟩
    refine ⟨_, rfl, _, rfl, _, _, rfl, rfl, a, ns, k + 4, 4, rfl, hS, by omega, by decide, by decide, fun ho ho0 ho1 => ?_⟩
    refine ⟨Nat.zero_le _, fun D1 hD1 => ?_⟩
    have e1 := Ex.new (o := .lst []) hD1
    have g1 : upd H D1 (.lst []) D1 = some (.lst []) := upd_same
    generalize upd H D1 (.lst []) = H1 at e1 g1 ⊢
    refine ⟨Nat.zero_le _, fun D2 hD2 => ?_⟩
    have e2 := Ex.new (o := .lst []) hD2
    have g2 : upd H1 D2 (.lst []) D2 = some (.lst []) := upd_same
    have ne : D2 ≠ D1 := fun z => by rw [z, g1] at hD2; cases hD2
    have hD2' : H D2 = none := by
      cases z : H D2 with
      | none => rfl
      | some o => rw [e1 _ _ z] at hD2; cases hD2
    generalize upd H1 D2 (.lst []) = H2 at e2 g2 ⊢
    obtain ⟨a1, a2⟩ := area_le (w := 1 + wd) (h := 1 + hg) (m := 6) (by omega) (by omega) (by omega) (by omega)
    have hN : (((1 + wd) * (1 + hg)).toNat : Int) = (1 + wd) * (1 + hg) := by omega
    refine ⟨_, rfl, _, rfl, _, _, rfl, rfl, .inl ⟨by omega, by omega⟩, _, rfl, by omega, by omega, ?_⟩
    refine for_range (lo := 0) (n := ((1 + wd) * (1 + hg)).toNat) (fun i σ H' => Ex H H' ∧ ∃ (vs cs : List Int) (x y : Option V), σ = [some (.ref a), some (.int k), some (.int (1 + wd)), some (.int (1 + hg)), some (.int (1 + st)), some (.int fi), some (.int ho), some (.ref D1), some (.ref D2), x, y] ∧ H' D1 = some (.lst (vs.map V.int)) ∧ H' D2 = some (.lst (cs.map V.int)) ∧ vs.length = i ∧ cs.length = i ∧ (∀ v ∈ vs, 0 ≤ v ∧ v ≤ 255) ∧ ∀ v ∈ cs, 0 ≤ v ∧ v ≤ 256) ⟨e1.trans e2, [], [], _, _, rfl, e2 _ _ g1, g2, rfl, rfl, by simp, by simp⟩ ?_ ?_
    · rintro i σ H' hi ⟨e, vs, cs, x, y, rfl, hV, hC, lv, lc, bv, bc⟩
      refine ⟨_, rfl, .inl ⟨rfl, _, SqL.of hV⟩, _, rfl, _, rfl, _, rfl, _, _, rfl, rfl, .inl ⟨by omega, by omega⟩, _, _, rfl, rfl, .inl ⟨_, rfl, _, _, rfl, rfl, (by show (0 : Int) < 256; decide), ?_⟩⟩
      refine ⟨D1, _, _, rfl, rfl, hV, slineL (by rw [List.length_map]; omega), ?_⟩
      have m0 : 0 ≤ (fi + (0 + (i : Int)) * (1 + st)) % 256 := Int.emod_nonneg _ (by decide)
      have m1 : (fi + (0 + (i : Int)) * (1 + st)) % 256 < 256 := Int.emod_lt_of_pos _ (by decide)
      dsimp only
      generalize (fi + (0 + (i : Int)) * (1 + st)) % 256 = m at m0 m1 ⊢
      have e' : Ex H (upd H' D1 (.lst (vs.map V.int ++ [.int m]))) := e.mut hD1
      have hV' : upd H' D1 (.lst (vs.map V.int ++ [.int m])) D1 = some (.lst ((vs ++ [m]).map V.int)) := by rw [upd_same, List.map_append]; rfl
      have hC' : upd H' D1 (.lst (vs.map V.int ++ [.int m])) D2 = some (.lst (cs.map V.int)) := by rw [upd_ne ne]; exact hC
      generalize upd H' D1 (.lst (vs.map V.int ++ [.int m])) = H3 at e' hV' hC' ⊢
      refine ⟨fun σ H'' => H'' = H3 ∧ ∃ c : Int, σ = [some (.ref a), some (.int k), some (.int (1 + wd)), some (.int (1 + hg)), some (.int (1 + st)), some (.int fi), some (.int ho), some (.ref D1), some (.ref D2), some (.int (0 + (i : Int))), some (.int c)] ∧ 0 ≤ c ∧ c ≤ 256, ?_, ?_⟩
      · refine ⟨_, rfl, rfl, _, rfl, ?_⟩
        refine ite2 (fun _ => ?_) (fun _ => ⟨rfl, 256, rfl, by decide, by decide⟩)
        refine ⟨_, rfl, .inl ⟨_, rfl, _, _, rfl, rfl, (by show (0 : Int) < 3; decide), rfl, _, rfl, ?_⟩⟩
        exact ite2 (fun _ => ⟨rfl, 0, rfl, by decide, by decide⟩) (fun _ => ⟨rfl, 256, rfl, by decide, by decide⟩)
      rintro σ H4 ⟨rfl, c, rfl, c0, c1⟩
      refine ⟨fun σ H'' => H'' = H4 ∧ ∃ c : Int, σ = [some (.ref a), some (.int k), some (.int (1 + wd)), some (.int (1 + hg)), some (.int (1 + st)), some (.int fi), some (.int ho), some (.ref D1), some (.ref D2), some (.int (0 + (i : Int))), some (.int c)] ∧ 0 ≤ c ∧ c ≤ 256, ?_, ?_⟩
      · refine ⟨_, rfl, rfl, _, rfl, ?_⟩
        refine ite2 (fun _ => ?_) (fun _ => ⟨rfl, c, rfl, c0, c1⟩)
        refine ⟨_, rfl, _, _, rfl, rfl, .inr ⟨by decide, by decide⟩, _, rfl, _, _, rfl, rfl, .inl ⟨_, rfl, _, _, rfl, rfl, (by show (0 : Int) < 257; decide), ?_⟩⟩
        refine ⟨rfl, _, rfl, Int.emod_nonneg _ (by decide), ?_⟩
        have := Int.emod_lt_of_pos ((0 + (i : Int)) * 37 + fi) (show (0 : Int) < 257 by decide)
        omega
      rintro σ H5 ⟨rfl, d, rfl, d0, d1⟩
      refine ⟨_, rfl, .inl ⟨rfl, _, SqL.of hC'⟩, _, rfl, D2, _, _, rfl, rfl, hC', slineL (by rw [List.length_map]; omega), ?_⟩
      refine ⟨e'.mut hD2', vs ++ [m], cs ++ [d], _, _, rfl, by rw [upd_ne ne.symm]; exact hV', by rw [upd_same, List.map_append]; rfl, by simp [lv], by simp [lc], fun v hv => ?_, fun v hv => ?_⟩
      · rcases List.mem_append.mp hv with z | z
        · exact bv v z
        · rw [List.mem_singleton.mp z]; omega
      · rcases List.mem_append.mp hv with z | z
        · exact bc v z
        · rw [List.mem_singleton.mp z]; omega
    · rintro σ H' ⟨e, vs, cs, x, y, rfl, hV, hC, lv, lc, bv, bc⟩
      refine ⟨_, rfl, _, rfl, _, rfl, D1, _, rfl, .inl ⟨SqL.of hV, fun p1 hp1 => ?_⟩⟩
      have x1 := Ex.new (o := .tup (vs.map V.int)) hp1
      have y1 : upd H' p1 (.tup (vs.map V.int)) p1 = some (.tup (vs.map V.int)) := upd_same
      generalize upd H' p1 (.tup (vs.map V.int)) = H3 at x1 y1 ⊢
      refine ⟨_, rfl, D2, _, rfl, .inl ⟨SqL.of (x1 _ _ hC), fun p2 hp2 => ?_⟩⟩
      have x2 := Ex.new (o := .tup (cs.map V.int)) hp2
      have y2 : upd H3 p2 (.tup (cs.map V.int)) p2 = some (.tup (cs.map V.int)) := upd_same
      generalize upd H3 p2 (.tup (cs.map V.int)) = H4 at x2 y2 ⊢
      refine ⟨(by show 4 ≤ sizeLine; decide), fun p3 hp3 => ?_⟩
      have x3 := Ex.new (o := .tup [.int (1 + wd), .int (1 + hg), .ref p1, .ref p2]) hp3
      refine q (.ref p3) ⟨1 + wd, 1 + hg, vs, cs⟩ _ (((e.trans x1).trans x2).trans x3) ⟨p3, p1, p2, rfl, upd_same, (x2.trans x3) _ _ y1, x3 _ _ y2⟩ ⟨?_, ?_, ?_, ?_, ?_, ?_, bv, bc⟩ <;> dsimp only <;> omega
abbrev s_l_paint : Stmt := top 91
theorem sc_l_paint : FnScope ["script", "k", "kind"] ["script", "k"] (defScope s_l_paint) := ⟨rfl, rfl, rfl, by decide +kernel, rfl, by decide +kernel, by decide +kernel⟩
def spPaintF (K : PySem.W.Frag) : Sp := fun vs H Q _ => ∃ (a : Addr) (ns : List Int) (k : Int), vs = [.ref a, .int k] ∧ SqL K H a (ns.map V.int) ∧ 0 ≤ k ∧ ∀ v p H', Ex H H' → PaV H' v p → p.Ok 6 → Q v H'
theorem ok_l_paint {f : Addr} {fd : FuncData} (F : Fun K "_law_paint" "_law_paint" s_l_paint f fd) (T : Txt K mg) (D_l_draw : Def P w K mg base CX0 "_law_draw" 1 ["script", "k", "below"] (spDrawF K)) (D_l_picture : Def P w K mg base CX0 "_law_picture" 2 ["script", "k"] (spPicF K)) : FnOk P w K mg base CX0 3 f fd ["script", "k"] (spPaintF K) := by
  refine F.ok sc_l_paint (fun vs H Q E h => ?_) (fun cdv A outer s H vs Q E hr h => ?_)
  · obtain ⟨a, ns, k, rfl, _⟩ := h
    rfl
  · obtain ⟨a, ns, k, rfl, hS, k0, q⟩ := h
    refine ⟨_, (pss_cons (ps_set (i := 2) sc_l_paint.nd rfl (by first | exact Or.inl rfl | exact Or.inr rfl) (pe_call D_l_draw.ok (hr.mono (by decide)) rfl D_l_draw.mgf D_l_draw.kp D_l_draw.b .nil pass0 (pa_cons (pv 0) (pa_cons (pv 1) (pa_cons pe_int pa_nil)))))
      (pss_cons (ps_if (pt_cmpR op_lt (pv 2) pe_int (nomark _))
        (pss_one (ps_ret (pe_tup (pa_cons pe_str (pa_cons (pe_ix (kixL K) (pe_lst (pa_cons pe_int (pa_cons pe_int (pa_cons pe_int (pa_cons pe_int pa_nil))))) (pe_call D_l_draw.ok (hr.mono (by decide)) rfl D_l_draw.mgf D_l_draw.kp D_l_draw.b .nil pass0 (pa_cons (pv 0) (pa_cons (pe_op op_add (pv 1) pe_int) (pa_cons pe_int pa_nil)))) (fun _ _ => rfl)) pa_nil)))))
        pss_nil)
      (pss_cons (ps_if (pt_cmpR op_eq (pv 2) pe_int (nomark _))
        (pss_one (ps_ret (pe_tup (pa_cons pe_str (pa_cons (pe_call D_l_picture.ok (hr.mono (by decide)) rfl D_l_picture.mgf D_l_picture.kp D_l_picture.b .nil pass0 (pa_cons (pv 0) (pa_cons (pe_op op_add (pv 1) pe_int) pa_nil))) pa_nil)))))
        pss_nil)
      (pss_one (ps_ret (pe_tup (pa_cons pe_str (pa_cons (pe_call D_l_draw.ok (hr.mono (by decide)) rfl D_l_draw.mgf D_l_draw.kp D_l_draw.b .nil pass0 (pa_cons (pv 0) (pa_cons (pe_op op_add (pv 1) pe_int) (pa_cons pe_int pa_nil)))) (pa_cons (pe_call D_l_draw.ok (hr.mono (by decide)) rfl D_l_draw.mgf D_l_draw.kp D_l_draw.b .nil pass0 (pa_cons (pv 0) (pa_cons (pe_op op_add (pv 1) pe_int) (pa_cons pe_int pa_nil)))) (pa_cons (pe_op op_add pe_int (pe_call D_l_draw.ok (hr.mono (by decide)) rfl D_l_draw.mgf D_l_draw.kp D_l_draw.b .nil pass0 (pa_cons (pv 0) (pa_cons (pe_op op_add (pv 1) pe_int) (pa_cons pe_int pa_nil))))) pa_nil)))))))))), ?_⟩
    refine ⟨_, rfl, _, rfl, a, ns, k, 4, rfl, hS, k0, by decide, by decide, fun kd kd0 kd1 => ?_⟩
    refine ⟨_, rfl, _, _, rfl, rfl, _, rfl, ?_⟩
    refine ite2 (fun _ => ?_) (fun _ => ?_)
    · refine ⟨(by show 4 ≤ sizeLine; decide), fun l hl => ?_⟩
      have f6 := Ex.new (o := .lst [.int 0, .int 255, .int 9, .int 100]) hl
      have k6 : upd H l (.lst [.int 0, .int 255, .int 9, .int 100]) l = some (.lst ([0, 255, 9, 100].map V.int)) := upd_same
      generalize upd H l (.lst [.int 0, .int 255, .int 9, .int 100]) = H6 at f6 k6 ⊢
      refine ⟨_, rfl, _, rfl, _, _, rfl, rfl, a, ns, k + 1, 4, rfl, ex_l f6 hS, by omega, by decide, by decide, fun j j0 j1 => ?_⟩
      obtain ⟨b, hb, exb⟩ := pickI (ns := [0, 255, 9, 100]) j0 j1
      simp only [List.mem_cons, List.not_mem_nil, or_false] at hb
      refine ⟨l, _, j, _, rfl, rfl, SqL.of k6, exb, ?_⟩
      refine ⟨(by show 2 ≤ sizeLine; decide), fun t ht => ?_⟩
      exact q _ (.solid b) _ (f6.trans (Ex.new ht)) ⟨t, rfl, upd_same⟩ ⟨by omega, by omega⟩
    · refine ⟨_, rfl, rfl, _, rfl, ?_⟩
      refine ite2 (fun _ => ?_) (fun _ => ?_)
      · refine ⟨_, rfl, _, rfl, _, _, rfl, rfl, a, ns, k + 1, rfl, hS, by omega, fun u p H1 e1 hp kp => ?_⟩
        refine ⟨(by show 2 ≤ sizeLine; decide), fun t ht => ?_⟩
        exact q _ (.pic p) _ (e1.trans (Ex.new ht)) ⟨t, u, rfl, upd_same, hp.tk (TK.ex (Ex.new ht))⟩ kp
      · refine ⟨_, rfl, _, rfl, _, _, rfl, rfl, a, ns, k + 1, 256, rfl, hS, by omega, by decide, by decide, fun x x0 x1 => ?_⟩
        refine ⟨_, rfl, _, rfl, _, _, rfl, rfl, a, ns, k + 2, 256, rfl, hS, by omega, by decide, by decide, fun y y0 y1 => ?_⟩
        refine ⟨_, rfl, _, rfl, _, _, rfl, rfl, a, ns, k + 3, 3, rfl, hS, by omega, by decide, by decide, fun z z0 z1 => ?_⟩
        refine ⟨_, _, rfl, rfl, ?_⟩
        refine ⟨(by show 4 ≤ sizeLine; decide), fun t ht => ?_⟩
        exact q _ (.steps x y (1 + z)) _ (Ex.new ht) ⟨t, rfl, upd_same⟩ ⟨x0, by omega, y0, by omega, by omega, by omega⟩
abbrev s_l_clips : Stmt := top 93
theorem sc_l_clips : FnScope ["script", "k", "adjusts", "clips", "start", "j", "at", "length", "fade", "after"] ["script", "k", "adjusts"] (defScope s_l_clips) := ⟨rfl, rfl, rfl, by decide +kernel, rfl, by decide +kernel, by decide +kernel⟩
def spClipsF (K : PySem.W.Frag) : Sp := fun vs H Q _ => ∃ (a : Addr) (ns : List Int) (k : Int) (ad : Bool), vs = [.ref a, .int k, .bl ad] ∧ SqL K H a (ns.map V.int) ∧ 0 ≤ k ∧ ∀ p us cs H', Ex H H' → H' p = some (.tup us) → ClsV H' us cs → ClsOkF ad cs → Q (.ref p) H'
theorem ok_l_clips {f : Addr} {fd : FuncData} (F : Fun K "_law_clips" "_law_clips" s_l_clips f fd) (T : Txt K mg) (D_l_draw : Def P w K mg base CX0 "_law_draw" 1 ["script", "k", "below"] (spDrawF K)) (D_l_paint : Def P w K mg base CX0 "_law_paint" 3 ["script", "k"] (spPaintF K)) : FnOk P w K mg base CX0 4 f fd ["script", "k", "adjusts"] (spClipsF K) := by
  refine F.ok sc_l_clips (fun vs H Q E h => ?_) (fun cdv A outer s H vs Q E hr h => ?_)
  · obtain ⟨a, ns, k, ad, rfl, _⟩ := h
    rfl
  · obtain ⟨a, ns, k, ad, rfl, hS, k0, q⟩ := h
    refine ⟨_, (pss_cons (ps_set (i := 3) sc_l_clips.nd rfl (by first | exact Or.inl rfl | exact Or.inr rfl) (pe_lst pa_nil))
      (pss_cons (ps_set (i := 4) sc_l_clips.nd rfl (by first | exact Or.inl rfl | exact Or.inr rfl) (pe_call D_l_draw.ok (hr.mono (by decide)) rfl D_l_draw.mgf D_l_draw.kp D_l_draw.b .nil pass0 (pa_cons (pv 0) (pa_cons (pv 1) (pa_cons pe_int pa_nil)))))
      (pss_cons (ps_for PassesOwn.never rfl (pi_range1 (by rfl) T.range_ (pa_cons (pe_ix (kixL K) (pe_lst (pa_cons pe_int (pa_cons pe_int (pa_cons pe_int (pa_cons pe_int (pa_cons pe_int (pa_cons pe_int pa_nil))))))) (pe_call D_l_draw.ok (hr.mono (by decide)) rfl D_l_draw.mgf D_l_draw.kp D_l_draw.b .nil pass0 (pa_cons (pv 0) (pa_cons (pe_op op_add (pv 1) pe_int) (pa_cons pe_int pa_nil)))) (fun _ _ => rfl)) pa_nil)) (pg_name (i := 5) sc_l_clips.nd rfl (by first | exact Or.inl rfl | exact Or.inr rfl))
        (pss_cons (ps_set (i := 6) sc_l_clips.nd rfl (by first | exact Or.inl rfl | exact Or.inr rfl) (pe_op op_add (pe_op op_add (pv 1) pe_int) (pe_op op_mul pe_int (pv 5))))
        (pss_cons (ps_set (i := 7) sc_l_clips.nd rfl (by first | exact Or.inl rfl | exact Or.inr rfl) (pe_op op_add pe_int (pe_call D_l_draw.ok (hr.mono (by decide)) rfl D_l_draw.mgf D_l_draw.kp D_l_draw.b .nil pass0 (pa_cons (pv 0) (pa_cons (pv 6) (pa_cons pe_int pa_nil))))))
        (pss_cut (ps_if (pt_val (pv 2))
          (pss_one (ps_expr (pe_bm PySem.F.plainAttrs_list PySem.F.slot_list_append PySem.F.type_list_append mt_append (pv 3) (pa_cons (pe_tup (pa_cons (pv 4) (pa_cons (pv 7) (pa_cons pe_non (pa_cons pe_int (pa_cons pe_int pa_nil)))))) pa_nil))))
          (pss_cons (ps_set (i := 8) sc_l_clips.nd rfl (by first | exact Or.inl rfl | exact Or.inr rfl) pe_int)
          (pss_cons (ps_set (i := 9) sc_l_clips.nd rfl (by first | exact Or.inl rfl | exact Or.inr rfl) pe_int)
          (pss_cut (ps_if (pt_cmpR op_eq (pe_call D_l_draw.ok (hr.mono (by decide)) rfl D_l_draw.mgf D_l_draw.kp D_l_draw.b .nil pass0 (pa_cons (pv 0) (pa_cons (pe_op op_add (pv 6) pe_int) (pa_cons pe_int pa_nil)))) pe_int (nomark _))
            (pss_cons (ps_set (i := 8) sc_l_clips.nd rfl (by first | exact Or.inl rfl | exact Or.inr rfl) (pe_call D_l_draw.ok (hr.mono (by decide)) rfl D_l_draw.mgf D_l_draw.kp D_l_draw.b .nil pass0 (pa_cons (pv 0) (pa_cons (pe_op op_add (pv 6) pe_int) (pa_cons (pe_op op_add (pv 7) pe_int) pa_nil)))))
            (pss_one (ps_set (i := 9) sc_l_clips.nd rfl (by first | exact Or.inl rfl | exact Or.inr rfl) (pe_call D_l_draw.ok (hr.mono (by decide)) rfl D_l_draw.mgf D_l_draw.kp D_l_draw.b .nil pass0 (pa_cons (pv 0) (pa_cons (pe_op op_add (pv 6) pe_int) (pa_cons (pe_op op_add (pe_op op_sub (pv 7) (pv 8)) pe_int) pa_nil)))))))
            pss_nil)
          (pss_one (ps_expr (pe_bm PySem.F.plainAttrs_list PySem.F.slot_list_append PySem.F.type_list_append mt_append (pv 3) (pa_cons (pe_tup (pa_cons (pv 4) (pa_cons (pv 7) (pa_cons (pe_call D_l_paint.ok (hr.mono (by decide)) rfl D_l_paint.mgf D_l_paint.kp D_l_paint.b .nil pass0 (pa_cons (pv 0) (pa_cons (pe_op op_add (pv 6) pe_int) pa_nil))) (pa_cons (pv 8) (pa_cons (pv 9) pa_nil)))))) pa_nil))))))))
        (pss_one (ps_set (i := 4) sc_l_clips.nd rfl (by first | exact Or.inl rfl | exact Or.inr rfl) (pe_op op_add (pe_op op_add (pv 4) (pv 7)) (pe_call D_l_draw.ok (hr.mono (by decide)) rfl D_l_draw.mgf D_l_draw.kp D_l_draw.b .nil pass0 (pa_cons (pv 0) (pa_cons (pe_op op_add (pv 6) pe_int) (pa_cons pe_int pa_nil)))))))))))
      (pss_one (ps_ret (pe_callTy (ktuple K) (by rfl) T.tuple_ bt_tuple (pa_cons (pv 3) pa_nil))))))), ?_⟩
    refine ⟨Nat.zero_le _, fun D hD => ?_⟩
    have e0 := Ex.new (o := .lst []) hD
    have g0 : upd H D (.lst []) D = some (.lst []) := upd_same
    generalize upd H D (.lst []) = H0 at e0 g0 ⊢
    refine ⟨_, rfl, _, rfl, a, ns, k, 3, rfl, ex_l e0 hS, k0, by decide, by decide, fun st st0 st1 => ?_⟩
    refine ⟨(by show 6 ≤ sizeLine; decide), fun l hl => ?_⟩
    have f1 := Ex.new (o := .lst [.int 1, .int 1, .int 1, .int 2, .int 2, .int 0]) hl
    have k1 : upd H0 l (.lst [.int 1, .int 1, .int 1, .int 2, .int 2, .int 0]) l = some (.lst ([1, 1, 1, 2, 2, 0].map V.int)) := upd_same
    generalize upd H0 l (.lst [.int 1, .int 1, .int 1, .int 2, .int 2, .int 0]) = H1 at f1 k1 ⊢
    refine ⟨_, rfl, _, rfl, _, _, rfl, rfl, a, ns, k + 1, 6, rfl, ex_l (e0.trans f1) hS, by omega, by decide, by decide, fun j j0 j1 => ?_⟩
    obtain ⟨b, hb, exb⟩ := pickI (ns := [1, 1, 1, 2, 2, 0]) j0 j1
    simp only [List.mem_cons, List.not_mem_nil, or_false] at hb
    refine ⟨l, _, j, _, rfl, rfl, SqL.of k1, exb, ?_⟩
    refine ⟨_, rfl, by omega, by omega, ?_⟩
    refine for_range (lo := 0) (n := b.toNat) (fun i σ H' => Ex H H' ∧ ∃ (us : List V) (cs : List Cl) (st : Int) (x5 x6 x7 x8 x9 : Option V), σ = [some (.ref a), some (.int k), some (.bl ad), some (.ref D), some (.int st), x5, x6, x7, x8, x9] ∧ H' D = some (.lst us) ∧ ClsV H' us cs ∧ Apart cs ∧ cs.length = i ∧ 0 ≤ st ∧ st ≤ 2 + 10 * (i : Int) ∧ ∀ c ∈ cs, c.OkF ∧ c.fin ≤ st ∧ AdjOk ad c) ⟨e0.trans f1, [], [], st, _, _, _, _, _, rfl, f1 _ _ g0, .nil, .nil, rfl, st0, by omega, by simp⟩ ?_ ?_
    · rintro i σ H' hi ⟨e, us, cs, st, x5, x6, x7, x8, x9, rfl, hU, hC, hA, hn, g0', g1', kM⟩
      have hul := hC.length
      have i0 : (0 : Int) ≤ i := Int.natCast_nonneg i
      have i1 : (i : Int) ≤ 1 := by omega
      refine ⟨_, rfl, _, _, rfl, rfl, _, rfl, _, _, rfl, rfl, .inl ⟨by decide, by decide⟩, _, _, rfl, rfl, ?_⟩
      refine ⟨_, rfl, _, rfl, a, ns, k + 2 + 12 * (0 + (i : Int)), 8, rfl, ex_l e hS, by omega, by decide, by decide, fun L l0 l1 => ?_⟩
      refine ⟨_, _, rfl, rfl, ?_⟩
      refine ⟨fun σ H'' => Ex H H'' ∧ ∃ (us' : List V) (c : Cl) (x8 x9 : Option V), σ = [some (.ref a), some (.int k), some (.bl ad), some (.ref D), some (.int st), some (.int (0 + (i : Int))), some (.int (k + 2 + 12 * (0 + (i : Int)))), some (.int (1 + L)), x8, x9] ∧ H'' D = some (.lst us') ∧ ClsV H'' us' (cs ++ [c]) ∧ c.OkF ∧ c.s = st ∧ c.n = 1 + L ∧ AdjOk ad c, ?_, ?_⟩
      · refine ⟨_, rfl, _, rfl, ?_⟩
        refine ite2 (fun had => ?_) (fun had => ?_)
        · refine ⟨_, rfl, .inl ⟨rfl, _, SqL.of hU⟩, ?_⟩
          refine ⟨_, rfl, _, rfl, ?_⟩
          refine ⟨(by show 5 ≤ sizeLine; decide), fun tp htp => ?_⟩
          have f6 := Ex.new (o := .tup [.int st, .int (1 + L), .non, .int 0, .int 0]) htp
          have g6 : upd H' tp (.tup [.int st, .int (1 + L), .non, .int 0, .int 0]) tp = some (.tup [.int st, .int (1 + L), .non, .int 0, .int 0]) := upd_same
          generalize upd H' tp (.tup [.int st, .int (1 + L), .non, .int 0, .int 0]) = H6 at f6 g6 ⊢
          have hU6 := f6 _ _ hU
          have hC6 := hC.tk (TK.ex f6)
          refine ⟨D, us, _, rfl, rfl, hU6, slineL (by omega), ?_⟩
          have tk : TK H6 (upd H6 D (.lst (us ++ [.ref tp]))) := TK.lst hU6
          have e7 : Ex H (upd H6 D (.lst (us ++ [.ref tp]))) := (e.trans f6).mut hD
          have hC7 : ClsV (upd H6 D (.lst (us ++ [.ref tp]))) (us ++ [.ref tp]) (cs ++ [⟨st, 1 + L, none, 0, 0⟩]) := pr_append (hC6.tk tk) (.cons ⟨tp, .non, rfl, tk _ _ g6, rfl⟩ .nil)
          refine ⟨e7, us ++ [.ref tp], ⟨st, 1 + L, none, 0, 0⟩, _, _, rfl, upd_same, hC7, ⟨g0', by show 1 ≤ 1 + L; omega, by show 1 + L ≤ 8; omega, Int.le_refl 0, Int.le_refl 0, by show (0 : Int) + 0 ≤ 1 + L; omega, trivial⟩, rfl, rfl, ⟨fun _ => ⟨rfl, rfl, rfl⟩, fun h => by rw [h] at had; cases had⟩⟩
        · refine ⟨fun σ H'' => H'' = H' ∧ ∃ x y : Int, σ = [some (.ref a), some (.int k), some (.bl ad), some (.ref D), some (.int st), some (.int (0 + (i : Int))), some (.int (k + 2 + 12 * (0 + (i : Int)))), some (.int (1 + L)), some (.int x), some (.int y)] ∧ 0 ≤ x ∧ 0 ≤ y ∧ x + y ≤ 1 + L, ?_, ?_⟩
          · refine ⟨_, rfl, _, rfl, _, _, rfl, rfl, a, ns, k + 2 + 12 * (0 + (i : Int)) + 1, 3, rfl, ex_l e hS, by omega, by decide, by decide, fun z z0 z1 => ?_⟩
            refine ⟨rfl, _, rfl, ?_⟩
            refine ite2 (fun _ => ?_) (fun _ => ⟨rfl, 0, 0, rfl, Int.le_refl 0, Int.le_refl 0, by omega⟩)
            refine ⟨_, rfl, _, rfl, _, _, rfl, rfl, _, rfl, _, _, rfl, rfl, a, ns, k + 2 + 12 * (0 + (i : Int)) + 2, 1 + L + 1, rfl, ex_l e hS, by omega, by omega, by omega, fun x x0 x1 => ?_⟩
            refine ⟨_, rfl, _, rfl, _, _, rfl, rfl, _, rfl, _, rfl, _, _, rfl, rfl, _, _, rfl, rfl, a, ns, k + 2 + 12 * (0 + (i : Int)) + 3, 1 + L - x + 1, rfl, ex_l e hS, by omega, by omega, by omega, fun y y0 y1 => ?_⟩
            exact ⟨rfl, x, y, rfl, x0, y0, by omega⟩
          rintro σ H5 ⟨rfl, x, y, rfl, x0, y0, xy⟩
          refine ⟨_, rfl, .inl ⟨rfl, _, SqL.of hU⟩, ?_⟩
          refine ⟨_, rfl, _, rfl, _, rfl, _, rfl, _, _, rfl, rfl, a, ns, k + 2 + 12 * (0 + (i : Int)) + 4, rfl, ex_l e hS, by omega, fun u p H5 e5 hp kp => ?_⟩
          have hU5 := e5 _ _ hU
          have hC5 := hC.tk (TK.ex e5)
          have e05 := e.trans e5
          refine ⟨_, rfl, _, rfl, ?_⟩
          refine ⟨(by show 5 ≤ sizeLine; decide), fun tp htp => ?_⟩
          have f6 := Ex.new (o := .tup [.int st, .int (1 + L), u, .int x, .int y]) htp
          have g6 : upd H5 tp (.tup [.int st, .int (1 + L), u, .int x, .int y]) tp = some (.tup [.int st, .int (1 + L), u, .int x, .int y]) := upd_same
          generalize upd H5 tp (.tup [.int st, .int (1 + L), u, .int x, .int y]) = H6 at f6 g6 ⊢
          have hU6 := f6 _ _ hU5
          have hC6 := hC5.tk (TK.ex f6)
          refine ⟨D, us, _, rfl, rfl, hU6, slineL (by omega), ?_⟩
          have tk : TK H6 (upd H6 D (.lst (us ++ [.ref tp]))) := TK.lst hU6
          have e7 : Ex H (upd H6 D (.lst (us ++ [.ref tp]))) := (e05.trans f6).mut hD
          have hC7 : ClsV (upd H6 D (.lst (us ++ [.ref tp]))) (us ++ [.ref tp]) (cs ++ [⟨st, 1 + L, some p, x, y⟩]) := pr_append (hC6.tk tk) (.cons ⟨tp, u, rfl, tk _ _ g6, (hp.tk (TK.ex f6)).tk tk⟩ .nil)
          refine ⟨e7, us ++ [.ref tp], ⟨st, 1 + L, some p, x, y⟩, _, _, rfl, upd_same, hC7, ⟨g0', by show 1 ≤ 1 + L; omega, by show 1 + L ≤ 8; omega, x0, y0, xy, kp⟩, rfl, rfl, ⟨fun h => absurd h had, fun _ => ⟨p, rfl⟩⟩⟩
      rintro σ H8 ⟨e8, us', c, x8, x9, rfl, hU8, hC8, kc, es, en, ac⟩
      refine ⟨_, rfl, _, rfl, _, _, rfl, rfl, ?_⟩
      refine ⟨_, rfl, _, rfl, _, _, rfl, rfl, a, ns, k + 2 + 12 * (0 + (i : Int)) + 11, 3, rfl, ex_l e8 hS, by omega, by decide, by decide, fun r r0 r1 => ?_⟩
      refine ⟨_, _, rfl, rfl, ?_⟩
      refine ⟨e8, us', cs ++ [c], st + (1 + L) + r, _, _, _, _, _, rfl, hU8, hC8, ?_, by rw [List.length_append, hn]; rfl, by omega, by omega, fun z hz => ?_⟩
      · exact List.pairwise_append.mpr ⟨hA, List.pairwise_singleton _ _, fun x hx y hy => by rw [List.mem_singleton.mp hy, es]; exact (kM x hx).2.1⟩
      · rcases List.mem_append.mp hz with h | h
        · have := kM z h
          exact ⟨this.1, by omega, this.2.2⟩
        · rw [List.mem_singleton.mp h]
          exact ⟨kc, by unfold Cl.fin; omega, ac⟩
    · rintro σ H' ⟨e, us, cs, st, x5, x6, x7, x8, x9, rfl, hU, hC, hA, hn, g0', g1', kM⟩
      refine ⟨_, rfl, D, us, rfl, .inl ⟨SqL.of hU, fun tp htp => ?_⟩⟩
      have f9 := Ex.new (o := .tup us) htp
      exact q tp us cs _ (e.trans f9) upd_same (hC.tk (TK.ex f9)) ⟨hA, fun c hc => (kM c hc).1, fun c hc => by have := (kM c hc).2.1; omega, fun c hc => (kM c hc).2.2, by omega⟩
abbrev s_l_what : Stmt := top 94
theorem sc_l_what : FnScope ["script", "k", "kind", "opacity"] ["script", "k"] (defScope s_l_what) := ⟨rfl, rfl, rfl, by decide +kernel, rfl, by decide +kernel, by decide +kernel⟩
def spWhatF (K : PySem.W.Frag) : Sp := fun vs H Q _ => ∃ (a : Addr) (ns : List Int) (k : Int), vs = [.ref a, .int k] ∧ SqL K H a (ns.map V.int) ∧ 0 ≤ k ∧ ∀ v x H', Ex H H' → WhV H' v x → x.Ok → Q v H'
theorem ok_l_what {f : Addr} {fd : FuncData} (F : Fun K "_law_what" "_law_what" s_l_what f fd) (T : Txt K mg) (D_l_draw : Def P w K mg base CX0 "_law_draw" 1 ["script", "k", "below"] (spDrawF K)) : FnOk P w K mg base CX0 2 f fd ["script", "k"] (spWhatF K) := by
  refine F.ok sc_l_what (fun vs H Q E h => ?_) (fun cdv A outer s H vs Q E hr h => ?_)
  · obtain ⟨a, ns, k, rfl, _⟩ := h
    rfl
  · obtain ⟨a, ns, k, rfl, hS, k0, q⟩ := h
    refine ⟨_, (pss_cons (ps_set (i := 2) sc_l_what.nd rfl (by first | exact Or.inl rfl | exact Or.inr rfl) (pe_call D_l_draw.ok (hr.mono (by decide)) rfl D_l_draw.mgf D_l_draw.kp D_l_draw.b .nil pass0 (pa_cons (pv 0) (pa_cons (pv 1) (pa_cons pe_int pa_nil)))))
      (pss_cons (ps_if (pt_cmpR op_eq (pv 2) pe_int (nomark _))
        (pss_one (ps_ret (pe_tup (pa_cons pe_str pa_nil))))
        pss_nil)
      (pss_cons (ps_if (pt_cmpR op_eq (pv 2) pe_int (nomark _))
        (pss_one (ps_ret (pe_tup (pa_cons pe_str (pa_cons (pe_op op_sub (pe_call D_l_draw.ok (hr.mono (by decide)) rfl D_l_draw.mgf D_l_draw.kp D_l_draw.b .nil pass0 (pa_cons (pv 0) (pa_cons (pe_op op_add (pv 1) pe_int) (pa_cons pe_int pa_nil)))) pe_int) pa_nil)))))
        pss_nil)
      (pss_cons (ps_set (i := 3) sc_l_what.nd rfl (by first | exact Or.inl rfl | exact Or.inr rfl) (pe_ix (kixL K) (pe_lst (pa_cons pe_int (pa_cons pe_int (pa_cons pe_int (pa_cons pe_int (pa_cons pe_int (pa_cons pe_int pa_nil))))))) (pe_call D_l_draw.ok (hr.mono (by decide)) rfl D_l_draw.mgf D_l_draw.kp D_l_draw.b .nil pass0 (pa_cons (pv 0) (pa_cons (pe_op op_add (pv 1) pe_int) (pa_cons pe_int pa_nil)))) (fun _ _ => rfl)))
      (pss_one (ps_ret (pe_tup (pa_cons pe_str (pa_cons (pv 3) (pa_cons (pe_ix (kixL K) (pe_lst (pa_cons pe_str (pa_cons pe_str (pa_cons pe_str (pa_cons pe_str (pa_cons pe_str pa_nil)))))) (pe_call D_l_draw.ok (hr.mono (by decide)) rfl D_l_draw.mgf D_l_draw.kp D_l_draw.b .nil pass0 (pa_cons (pv 0) (pa_cons (pe_op op_add (pv 1) pe_int) (pa_cons pe_int pa_nil)))) (fun _ _ => rfl)) pa_nil)))))))))), ?_⟩
    refine ⟨_, rfl, _, rfl, a, ns, k, 8, rfl, hS, k0, by decide, by decide, fun kd kd0 kd1 => ?_⟩
    refine ⟨_, rfl, rfl, _, rfl, ?_⟩
    refine ite2 (fun _ => ?_) (fun _ => ?_)
    · refine ⟨(by show 1 ≤ sizeLine; decide), fun t ht => ?_⟩
      exact q _ .invert _ (Ex.new ht) ⟨t, rfl, upd_same⟩ trivial
    refine ⟨_, rfl, rfl, _, rfl, ?_⟩
    refine ite2 (fun _ => ?_) (fun _ => ?_)
    · refine ⟨_, rfl, _, rfl, _, _, rfl, rfl, a, ns, k + 1, 511, rfl, hS, by omega, by decide, by decide, fun n n0 n1 => ?_⟩
      refine ⟨_, _, rfl, rfl, ?_⟩
      refine ⟨(by show 2 ≤ sizeLine; decide), fun t ht => ?_⟩
      exact q _ (.shift (n - 255)) _ (Ex.new ht) ⟨t, rfl, upd_same⟩ ⟨by omega, by omega⟩
    refine ⟨(by show 6 ≤ sizeLine; decide), fun l hl => ?_⟩
    have f6 := Ex.new (o := .lst [.int 256, .int 256, .int 256, .int 128, .int 3, .int 0]) hl
    have k6 : upd H l (.lst [.int 256, .int 256, .int 256, .int 128, .int 3, .int 0]) l = some (.lst ([256, 256, 256, 128, 3, 0].map V.int)) := upd_same
    generalize upd H l (.lst [.int 256, .int 256, .int 256, .int 128, .int 3, .int 0]) = H6 at f6 k6 ⊢
    refine ⟨_, rfl, _, rfl, _, _, rfl, rfl, a, ns, k + 1, 6, rfl, ex_l f6 hS, by omega, by decide, by decide, fun j j0 j1 => ?_⟩
    obtain ⟨b, hb, exb⟩ := pickI (ns := [256, 256, 256, 128, 3, 0]) j0 j1
    simp only [List.mem_cons, List.not_mem_nil, or_false] at hb
    refine ⟨l, _, j, _, rfl, rfl, SqL.of k6, exb, ?_⟩
    refine ⟨_, rfl, (by show 5 ≤ sizeLine; decide), fun l2 hl2 => ?_⟩
    obtain ⟨ws, hws⟩ : ∃ ws : List Str, ws = [("over" : Str), ("over" : Str), ("over" : Str), ("add" : Str), ("times" : Str)] := ⟨_, rfl⟩
    have e0 : ws.map V.str = [.str "over", .str "over", .str "over", .str "add", .str "times"] := by rw [hws]; rfl
    have f7 := Ex.new (o := .lst (ws.map V.str)) hl2
    have k7 : upd H6 l2 (.lst (ws.map V.str)) l2 = some (.lst (ws.map V.str)) := upd_same
    rw [← e0]
    generalize upd H6 l2 (.lst (ws.map V.str)) = H7 at f7 k7 ⊢
    refine ⟨_, rfl, _, rfl, _, _, rfl, rfl, a, ns, k + 2, 5, rfl, ex_l (f6.trans f7) hS, by omega, by decide, by decide, fun i i0 i1 => ?_⟩
    obtain ⟨m, hm, exm⟩ := pickS (ws := ws) i0 (by rw [hws]; exact i1)
    refine ⟨l2, _, i, _, rfl, rfl, SqL.of k7, exm, ?_⟩
    refine ⟨(by show 3 ≤ sizeLine; decide), fun t ht => ?_⟩
    refine q _ (.paint b m) _ ((f6.trans f7).trans (Ex.new ht)) ⟨t, rfl, upd_same⟩ ⟨by omega, by omega, ?_⟩
    rw [hws] at hm
    unfold modes3
    simp only [List.mem_cons, List.not_mem_nil, or_false] at hm ⊢
    rcases hm with h | h | h | h | h
    · exact .inl h
    · exact .inl h
    · exact .inl h
    · exact .inr (.inl h)
    · exact .inr (.inr h)
abbrev s_l_box : Stmt := top 95
theorem sc_l_box : FnScope ["script", "k", "left", "top"] ["script", "k"] (defScope s_l_box) := ⟨rfl, rfl, rfl, by decide +kernel, rfl, by decide +kernel, by decide +kernel⟩
def spBoxF (K : PySem.W.Frag) : Sp := fun vs H Q _ => ∃ (a : Addr) (ns : List Int) (k : Int), vs = [.ref a, .int k] ∧ SqL K H a (ns.map V.int) ∧ 0 ≤ k ∧ ∀ v b H', Ex H H' → BxV H' v b → b.Ok → Q v H'
theorem ok_l_box {f : Addr} {fd : FuncData} (F : Fun K "_law_box" "_law_box" s_l_box f fd) (T : Txt K mg) (D_l_draw : Def P w K mg base CX0 "_law_draw" 1 ["script", "k", "below"] (spDrawF K)) : FnOk P w K mg base CX0 2 f fd ["script", "k"] (spBoxF K) := by
  refine F.ok sc_l_box (fun vs H Q E h => ?_) (fun cdv A outer s H vs Q E hr h => ?_)
  · obtain ⟨a, ns, k, rfl, _⟩ := h
    rfl
  · obtain ⟨a, ns, k, rfl, hS, k0, q⟩ := h
    refine ⟨_, (pss_cons (ps_set (i := 2) sc_l_box.nd rfl (by first | exact Or.inl rfl | exact Or.inr rfl) (pe_op op_sub (pe_call D_l_draw.ok (hr.mono (by decide)) rfl D_l_draw.mgf D_l_draw.kp D_l_draw.b .nil pass0 (pa_cons (pv 0) (pa_cons (pv 1) (pa_cons pe_int pa_nil)))) pe_int))
      (pss_cons (ps_set (i := 3) sc_l_box.nd rfl (by first | exact Or.inl rfl | exact Or.inr rfl) (pe_op op_sub (pe_call D_l_draw.ok (hr.mono (by decide)) rfl D_l_draw.mgf D_l_draw.kp D_l_draw.b .nil pass0 (pa_cons (pv 0) (pa_cons (pe_op op_add (pv 1) pe_int) (pa_cons pe_int pa_nil)))) pe_int))
      (pss_cons (ps_if (pt_cmpR op_eq (pe_call D_l_draw.ok (hr.mono (by decide)) rfl D_l_draw.mgf D_l_draw.kp D_l_draw.b .nil pass0 (pa_cons (pv 0) (pa_cons (pe_op op_add (pv 1) pe_int) (pa_cons pe_int pa_nil)))) pe_int (nomark _))
        (pss_one (ps_ret (pe_tup (pa_cons (pe_un un_neg pe_int) (pa_cons (pe_un un_neg pe_int) (pa_cons pe_int (pa_cons pe_int pa_nil)))))))
        pss_nil)
      (pss_one (ps_ret (pe_tup (pa_cons (pv 2) (pa_cons (pv 3) (pa_cons (pe_op op_add pe_int (pe_call D_l_draw.ok (hr.mono (by decide)) rfl D_l_draw.mgf D_l_draw.kp D_l_draw.b .nil pass0 (pa_cons (pv 0) (pa_cons (pe_op op_add (pv 1) pe_int) (pa_cons pe_int pa_nil))))) (pa_cons (pe_op op_add pe_int (pe_call D_l_draw.ok (hr.mono (by decide)) rfl D_l_draw.mgf D_l_draw.kp D_l_draw.b .nil pass0 (pa_cons (pv 0) (pa_cons (pe_op op_add (pv 1) pe_int) (pa_cons pe_int pa_nil))))) pa_nil)))))))))), ?_⟩
    refine ⟨_, rfl, _, rfl, a, ns, k, 12, rfl, hS, k0, by decide, by decide, fun x x0 x1 => ?_⟩
    refine ⟨_, _, rfl, rfl, ?_⟩
    refine ⟨_, rfl, _, rfl, _, _, rfl, rfl, a, ns, k + 1, 12, rfl, hS, by omega, by decide, by decide, fun y y0 y1 => ?_⟩
    refine ⟨_, _, rfl, rfl, ?_⟩
    refine ⟨_, rfl, _, rfl, _, _, rfl, rfl, a, ns, k + 2, 9, rfl, hS, by omega, by decide, by decide, fun z z0 z1 => ?_⟩
    refine ⟨rfl, _, rfl, ?_⟩
    refine ite2 (fun _ => ?_) (fun _ => ?_)
    · refine ⟨_, rfl, _, rfl, (by show 4 ≤ sizeLine; decide), fun t ht => ?_⟩
      exact q _ ⟨-2, -2, 64, 64⟩ _ (Ex.new ht) ⟨t, rfl, upd_same⟩ ⟨by decide, by decide, by decide, by decide, by decide, by decide, by decide, by decide⟩
    · refine ⟨_, rfl, _, rfl, ?_⟩
      refine ⟨_, rfl, _, rfl, _, _, rfl, rfl, a, ns, k + 3, 9, rfl, hS, by omega, by decide, by decide, fun u u0 u1 => ?_⟩
      refine ⟨_, _, rfl, rfl, ?_⟩
      refine ⟨_, rfl, _, rfl, _, _, rfl, rfl, a, ns, k + 4, 9, rfl, hS, by omega, by decide, by decide, fun r r0 r1 => ?_⟩
      refine ⟨_, _, rfl, rfl, ?_⟩
      refine ⟨(by show 4 ≤ sizeLine; decide), fun t ht => ?_⟩
      exact q _ ⟨x - 3, y - 3, 1 + u, 1 + r⟩ _ (Ex.new ht) ⟨t, rfl, upd_same⟩ ⟨by show -3 ≤ x - 3; omega, by show x - 3 ≤ 8; omega, by show -3 ≤ y - 3; omega, by show y - 3 ≤ 8; omega, by show 1 ≤ 1 + u; omega, by show 1 + u ≤ 64; omega, by show 1 ≤ 1 + r; omega, by show 1 + r ≤ 64; omega⟩
abbrev s_l_moves : Stmt := top 92
theorem sc_l_moves : FnScope ["script", "k", "points", "frame", "j"] ["script", "k"] (defScope s_l_moves) := ⟨rfl, rfl, rfl, by decide +kernel, rfl, by decide +kernel, by decide +kernel⟩
def spMovesF (K : PySem.W.Frag) : Sp := fun vs H Q _ => ∃ (a : Addr) (ns : List Int) (k : Int), vs = [.ref a, .int k] ∧ SqL K H a (ns.map V.int) ∧ 0 ≤ k ∧ ∀ p us ms H', Ex H H' → H' p = some (.tup us) → MvsV H' us ms → MvsOk ms → Q (.ref p) H'
theorem ok_l_moves {f : Addr} {fd : FuncData} (F : Fun K "_law_moves" "_law_moves" s_l_moves f fd) (T : Txt K mg) (D_l_draw : Def P w K mg base CX0 "_law_draw" 1 ["script", "k", "below"] (spDrawF K)) : FnOk P w K mg base CX0 2 f fd ["script", "k"] (spMovesF K) := by
  refine F.ok sc_l_moves (fun vs H Q E h => ?_) (fun cdv A outer s H vs Q E hr h => ?_)
  · obtain ⟨a, ns, k, rfl, _⟩ := h
    rfl
  · obtain ⟨a, ns, k, rfl, hS, k0, q⟩ := h
    refine ⟨_, (pss_cons (ps_set (i := 2) sc_l_moves.nd rfl (by first | exact Or.inl rfl | exact Or.inr rfl) (pe_lst pa_nil))
      (pss_cons (ps_set (i := 3) sc_l_moves.nd rfl (by first | exact Or.inl rfl | exact Or.inr rfl) (pe_call D_l_draw.ok (hr.mono (by decide)) rfl D_l_draw.mgf D_l_draw.kp D_l_draw.b .nil pass0 (pa_cons (pv 0) (pa_cons (pv 1) (pa_cons pe_int pa_nil)))))
      (pss_cons (ps_for PassesOwn.never rfl (pi_range1 (by rfl) T.range_ (pa_cons (pe_ix (kixL K) (pe_lst (pa_cons pe_int (pa_cons pe_int (pa_cons pe_int (pa_cons pe_int (pa_cons pe_int pa_nil)))))) (pe_call D_l_draw.ok (hr.mono (by decide)) rfl D_l_draw.mgf D_l_draw.kp D_l_draw.b .nil pass0 (pa_cons (pv 0) (pa_cons (pe_op op_add (pv 1) pe_int) (pa_cons pe_int pa_nil)))) (fun _ _ => rfl)) pa_nil)) (pg_name (i := 4) sc_l_moves.nd rfl (by first | exact Or.inl rfl | exact Or.inr rfl))
        (pss_cons (ps_expr (pe_bm PySem.F.plainAttrs_list PySem.F.slot_list_append PySem.F.type_list_append mt_append (pv 2) (pa_cons (pe_tup (pa_cons (pv 3) (pa_cons (pe_op op_sub (pe_call D_l_draw.ok (hr.mono (by decide)) rfl D_l_draw.mgf D_l_draw.kp D_l_draw.b .nil pass0 (pa_cons (pv 0) (pa_cons (pe_op op_add (pe_op op_add (pv 1) pe_int) (pe_op op_mul pe_int (pv 4))) (pa_cons pe_int pa_nil)))) pe_int) (pa_cons (pe_op op_sub (pe_call D_l_draw.ok (hr.mono (by decide)) rfl D_l_draw.mgf D_l_draw.kp D_l_draw.b .nil pass0 (pa_cons (pv 0) (pa_cons (pe_op op_add (pe_op op_add (pv 1) pe_int) (pe_op op_mul pe_int (pv 4))) (pa_cons pe_int pa_nil)))) pe_int) pa_nil)))) pa_nil)))
        (pss_one (ps_set (i := 3) sc_l_moves.nd rfl (by first | exact Or.inl rfl | exact Or.inr rfl) (pe_op op_add (pe_op op_add (pv 3) pe_int) (pe_call D_l_draw.ok (hr.mono (by decide)) rfl D_l_draw.mgf D_l_draw.kp D_l_draw.b .nil pass0 (pa_cons (pv 0) (pa_cons (pe_op op_add (pe_op op_add (pv 1) pe_int) (pe_op op_mul pe_int (pv 4))) (pa_cons pe_int pa_nil)))))))))
      (pss_one (ps_ret (pe_callTy (ktuple K) (by rfl) T.tuple_ bt_tuple (pa_cons (pv 2) pa_nil))))))), ?_⟩
    refine ⟨Nat.zero_le _, fun D hD => ?_⟩
    have e0 := Ex.new (o := .lst []) hD
    have g0 : upd H D (.lst []) D = some (.lst []) := upd_same
    generalize upd H D (.lst []) = H0 at e0 g0 ⊢
    refine ⟨_, rfl, _, rfl, a, ns, k, 3, rfl, ex_l e0 hS, k0, by decide, by decide, fun fr fr0 fr1 => ?_⟩
    refine ⟨(by show 5 ≤ sizeLine; decide), fun l hl => ?_⟩
    have f1 := Ex.new (o := .lst [.int 0, .int 0, .int 1, .int 2, .int 3]) hl
    have k1 : upd H0 l (.lst [.int 0, .int 0, .int 1, .int 2, .int 3]) l = some (.lst ([0, 0, 1, 2, 3].map V.int)) := upd_same
    generalize upd H0 l (.lst [.int 0, .int 0, .int 1, .int 2, .int 3]) = H1 at f1 k1 ⊢
    refine ⟨_, rfl, _, rfl, _, _, rfl, rfl, a, ns, k + 1, 5, rfl, ex_l (e0.trans f1) hS, by omega, by decide, by decide, fun j j0 j1 => ?_⟩
    obtain ⟨b, hb, exb⟩ := pickI (ns := [0, 0, 1, 2, 3]) j0 j1
    simp only [List.mem_cons, List.not_mem_nil, or_false] at hb
    refine ⟨l, _, j, _, rfl, rfl, SqL.of k1, exb, ?_⟩
    refine ⟨_, rfl, by omega, by omega, ?_⟩
    refine for_range (lo := 0) (n := b.toNat) (fun i σ H' => Ex H H' ∧ ∃ (us : List V) (ms : List Mv) (g : Int) (x : Option V), σ = [some (.ref a), some (.int k), some (.ref D), some (.int g), x] ∧ H' D = some (.lst us) ∧ MvsV H' us ms ∧ MAsc ms ∧ ms.length = i ∧ 0 ≤ g ∧ g ≤ 2 + 5 * (i : Int) ∧ ∀ m ∈ ms, m.f < g ∧ (0 ≤ m.f ∧ m.f ≤ 20 ∧ -5 ≤ m.a ∧ m.a ≤ 5 ∧ -5 ≤ m.d ∧ m.d ≤ 5)) ⟨e0.trans f1, [], [], fr, _, rfl, f1 _ _ g0, .nil, .nil, rfl, fr0, by omega, by simp⟩ ?_ ?_
    · rintro i σ H' hi ⟨e, us, ms, g, x, rfl, hU, hM, hA, hn, g0', g1', kM⟩
      have hul := hM.length
      have i0 : (0 : Int) ≤ i := Int.natCast_nonneg i
      refine ⟨_, rfl, .inl ⟨rfl, _, SqL.of hU⟩, ?_⟩
      refine ⟨_, rfl, _, rfl, _, rfl, _, _, rfl, rfl, _, rfl, _, _, rfl, rfl, .inl ⟨by decide, by decide⟩, _, _, rfl, rfl, a, ns, k + 2 + 3 * (0 + (i : Int)), 11, rfl, ex_l e hS, by omega, by decide, by decide, fun c c0 c1 => ?_⟩
      refine ⟨_, _, rfl, rfl, ?_⟩
      refine ⟨_, rfl, _, rfl, _, _, rfl, rfl, _, rfl, _, _, rfl, rfl, .inl ⟨by decide, by decide⟩, _, _, rfl, rfl, a, ns, k + 3 + 3 * (0 + (i : Int)), 11, rfl, ex_l e hS, by omega, by decide, by decide, fun w w0 w1 => ?_⟩
      refine ⟨_, _, rfl, rfl, ?_⟩
      refine ⟨(by show 3 ≤ sizeLine; decide), fun p hp => ?_⟩
      have e3 := Ex.new (o := .tup [.int g, .int (c - 5), .int (w - 5)]) hp
      have k3 : upd H' p (.tup [.int g, .int (c - 5), .int (w - 5)]) p = some (.tup [.int g, .int (c - 5), .int (w - 5)]) := upd_same
      generalize upd H' p (.tup [.int g, .int (c - 5), .int (w - 5)]) = H3 at e3 k3 ⊢
      have hU3 := e3 _ _ hU
      have hM3 := hM.tk (TK.ex e3)
      refine ⟨D, us, _, rfl, rfl, hU3, slineL (by omega), ?_⟩
      have tk : TK H3 (upd H3 D (.lst (us ++ [.ref p]))) := TK.lst hU3
      have e4 : Ex H (upd H3 D (.lst (us ++ [.ref p]))) := (e.trans e3).mut hD
      have k4 : upd H3 D (.lst (us ++ [.ref p])) D = some (.lst (us ++ [.ref p])) := upd_same
      have hM4 : MvsV (upd H3 D (.lst (us ++ [.ref p]))) (us ++ [.ref p]) (ms ++ [⟨g, c - 5, w - 5⟩]) := pr_append (hM3.tk tk) (.cons ⟨p, rfl, tk _ _ k3⟩ .nil)
      generalize upd H3 D (.lst (us ++ [.ref p])) = H4 at e4 k4 hM4 ⊢
      refine ⟨_, rfl, _, _, rfl, rfl, ?_⟩
      refine ⟨_, rfl, _, rfl, _, _, rfl, rfl, _, rfl, _, _, rfl, rfl, .inl ⟨by decide, by decide⟩, _, _, rfl, rfl, a, ns, k + 4 + 3 * (0 + (i : Int)), 5, rfl, ex_l e4 hS, by omega, by decide, by decide, fun st st0 st1 => ?_⟩
      refine ⟨_, _, rfl, rfl, ?_⟩
      refine ⟨e4, us ++ [.ref p], ms ++ [⟨g, c - 5, w - 5⟩], g + 1 + st, _, rfl, k4, hM4, ?_, by rw [List.length_append, hn]; rfl, by omega, by omega, fun m hm => ?_⟩
      · exact List.pairwise_append.mpr ⟨hA, List.pairwise_singleton _ _, fun x hx y hy => by rw [List.mem_singleton.mp hy]; exact (kM x hx).1⟩
      · rcases List.mem_append.mp hm with z | z
        · have := kM m z
          exact ⟨by omega, this.2⟩
        · rw [List.mem_singleton.mp z]
          exact ⟨by show g < g + 1 + st; omega, by show 0 ≤ g; omega, by show g ≤ 20; omega, by show -5 ≤ c - 5; omega, by show c - 5 ≤ 5; omega, by show -5 ≤ w - 5; omega, by show w - 5 ≤ 5; omega⟩
    · rintro σ H' ⟨e, us, ms, g, x, rfl, hU, hM, hA, hn, g0', g1', kM⟩
      refine ⟨_, rfl, D, us, rfl, .inl ⟨SqL.of hU, fun tp htp => ?_⟩⟩
      have f9 := Ex.new (o := .tup us) htp
      exact q tp us ms _ (e.trans f9) upd_same (hM.tk (TK.ex f9)) ⟨hA, fun m hm => (kM m hm).2, by omega⟩
abbrev s_l_layer : Stmt := top 96
theorem sc_l_layer : FnScope ["script", "k", "name", "what", "clips"] ["script", "k", "name"] (defScope s_l_layer) := ⟨rfl, rfl, rfl, by decide +kernel, rfl, by decide +kernel, by decide +kernel⟩
def spLayerF (K : PySem.W.Frag) : Sp := fun vs H Q _ => ∃ (a : Addr) (ns : List Int) (k : Int) (n : Str), vs = [.ref a, .int k, .str n] ∧ SqL K H a (ns.map V.int) ∧ 0 ≤ k ∧ ∀ v l H', Ex H H' → LaV H' v l → l.Ok → l.name = n → Q v H'
theorem ok_l_layer {f : Addr} {fd : FuncData} (F : Fun K "_law_layer" "_law_layer" s_l_layer f fd) (T : Txt K mg) (D_l_what : Def P w K mg base CX0 "_law_what" 2 ["script", "k"] (spWhatF K)) (D_l_clips : Def P w K mg base CX0 "_law_clips" 4 ["script", "k", "adjusts"] (spClipsF K))
    (D_l_box : Def P w K mg base CX0 "_law_box" 2 ["script", "k"] (spBoxF K)) (D_l_moves : Def P w K mg base CX0 "_law_moves" 2 ["script", "k"] (spMovesF K)) : FnOk P w K mg base CX0 5 f fd ["script", "k", "name"] (spLayerF K) := by
  refine F.ok sc_l_layer (fun vs H Q E h => ?_) (fun cdv A outer s H vs Q E hr h => ?_)
  · obtain ⟨a, ns, k, n, rfl, _⟩ := h
    rfl
  · obtain ⟨a, ns, k, n, rfl, hS, k0, q⟩ := h
    refine ⟨_, (pss_cons (ps_set (i := 3) sc_l_layer.nd rfl (by first | exact Or.inl rfl | exact Or.inr rfl) (pe_call D_l_what.ok (hr.mono (by decide)) rfl D_l_what.mgf D_l_what.kp D_l_what.b .nil pass0 (pa_cons (pv 0) (pa_cons (pv 1) pa_nil))))
      (pss_cons (ps_set (i := 4) sc_l_layer.nd rfl (by first | exact Or.inl rfl | exact Or.inr rfl) (pe_call D_l_clips.ok (hr.mono (by decide)) rfl D_l_clips.mgf D_l_clips.kp D_l_clips.b .nil pass0 (pa_cons (pv 0) (pa_cons (pe_op op_add (pv 1) pe_int) (pa_cons (pe_cmpR op_ne (pe_ix (kixT K) (pv 3) pe_int (fun _ _ => rfl)) pe_str (nomark _)) pa_nil)))))
      (pss_one (ps_ret (pe_tup (pa_cons (pv 2) (pa_cons (pe_call D_l_box.ok (hr.mono (by decide)) rfl D_l_box.mgf D_l_box.kp D_l_box.b .nil pass0 (pa_cons (pv 0) (pa_cons (pe_op op_add (pv 1) pe_int) pa_nil))) (pa_cons (pe_call D_l_moves.ok (hr.mono (by decide)) rfl D_l_moves.mgf D_l_moves.kp D_l_moves.b .nil pass0 (pa_cons (pv 0) (pa_cons (pe_op op_add (pv 1) pe_int) pa_nil))) (pa_cons (pv 3) (pa_cons (pv 4) pa_nil)))))))))), ?_⟩
    refine ⟨_, rfl, _, rfl, a, ns, k, rfl, hS, k0, fun wv x H1 e1 hx kx => ?_⟩
    obtain ⟨wa, rfl, hwa⟩ := id hx
    refine ⟨_, rfl, _, rfl, _, _, rfl, rfl, _, rfl, wa, _, 0, _, rfl, rfl, SqT.of hwa, x.at0, rfl, ?_⟩
    rw [x.adj_eq]
    refine ⟨a, ns, k + 20, x.adj, rfl, ex_l e1 hS, by omega, fun ca us cs H2 e2 hca hC kC => ?_⟩
    have e12 := e1.trans e2
    refine ⟨_, rfl, _, rfl, _, rfl, _, _, rfl, rfl, a, ns, k + 4, rfl, ex_l e12 hS, by omega, fun bv b H3 e3 hb kb => ?_⟩
    have e13 := e12.trans e3
    refine ⟨_, rfl, _, rfl, _, _, rfl, rfl, a, ns, k + 9, rfl, ex_l e13 hS, by omega, fun ma vs ms H4 e4 hma hM kM => ?_⟩
    refine ⟨_, rfl, _, rfl, ?_⟩
    refine ⟨(by show 5 ≤ sizeLine; decide), fun t ht => ?_⟩
    have f5 := Ex.new (o := .tup [.str n, bv, .ref ma, .ref wa, .ref ca]) ht
    have k5 := TK.ex f5
    have e24 := e3.trans e4
    exact q _ ⟨n, b, ms, x, cs⟩ _ ((e13.trans e4).trans f5) ⟨t, bv, ma, .ref wa, ca, vs, us, rfl, upd_same, (hb.tk (TK.ex e4)).tk k5, f5 _ _ hma, hM.tk k5, hx.tk (TK.ex ((e2.trans e24).trans f5)), (e24.trans f5) _ _ hca, hC.tk (TK.ex (e24.trans f5))⟩ ⟨kb, kM, kx, kC⟩ rfl
abbrev s_l_name : Stmt := top 97
theorem sc_l_name : FnScope ["script", "k", "first"] ["script", "k", "first"] (defScope s_l_name) := ⟨rfl, rfl, rfl, by decide +kernel, rfl, by decide +kernel, by decide +kernel⟩
def spNameF (K : PySem.W.Frag) : Sp := fun vs H Q _ => ∃ (a : Addr) (ns : List Int) (k : Int) (g : Str), vs = [.ref a, .int k, .str g] ∧ SqL K H a (ns.map V.int) ∧ 0 ≤ k ∧ g.length ≤ 10 ∧ ∀ t H', Ex H H' → t ∈ tails4 → Q (.str (g ++ t)) H'
theorem ok_l_name {f : Addr} {fd : FuncData} (F : Fun K "_law_name" "_law_name" s_l_name f fd) (T : Txt K mg) (D_l_draw : Def P w K mg base CX0 "_law_draw" 1 ["script", "k", "below"] (spDrawF K)) : FnOk P w K mg base CX0 2 f fd ["script", "k", "first"] (spNameF K) := by
  refine F.ok sc_l_name (fun vs H Q E h => ?_) (fun cdv A outer s H vs Q E hr h => ?_)
  · obtain ⟨a, ns, k, g, rfl, _⟩ := h
    rfl
  · obtain ⟨a, ns, k, g, rfl, hS, k0, gl, q⟩ := h
    refine ⟨_, (pss_one (ps_ret (pe_op op_add_str (pv 2) (pe_ix (kixL K) (pe_lst (pa_cons pe_str (pa_cons pe_str (pa_cons pe_str (pa_cons pe_str pa_nil))))) (pe_call D_l_draw.ok (hr.mono (by decide)) rfl D_l_draw.mgf D_l_draw.kp D_l_draw.b .nil pass0 (pa_cons (pv 0) (pa_cons (pv 1) (pa_cons pe_int pa_nil)))) (fun _ _ => rfl))))), ?_⟩
    refine ⟨_, rfl, (by show 4 ≤ sizeLine; decide), fun l hl => ?_⟩
    have e0 : tails4.map V.str = [.str "", .str "b", .str "zz", .str "qwerty"] := rfl
    have f7 := Ex.new (o := .lst (tails4.map V.str)) hl
    have k7 : upd H l (.lst (tails4.map V.str)) l = some (.lst (tails4.map V.str)) := upd_same
    rw [← e0]
    generalize upd H l (.lst (tails4.map V.str)) = H7 at f7 k7 ⊢
    refine ⟨_, rfl, _, rfl, a, ns, k, 4, rfl, ex_l f7 hS, k0, by decide, by decide, fun i i0 i1 => ?_⟩
    obtain ⟨m, hm, exm⟩ := pickS (ws := tails4) i0 i1
    refine ⟨l, _, i, _, rfl, rfl, SqL.of k7, exm, ?_⟩
    have ml : m.length ≤ 10 := by
      unfold tails4 at hm
      simp only [List.mem_cons, List.not_mem_nil, or_false] at hm
      rcases hm with h | h | h | h <;> (rw [h]; decide +kernel)
    exact ⟨g, m, rfl, rfl, Nat.le_of_lt (slineL (by omega)), q m _ f7 hm⟩
abbrev s_l_film : Stmt := top 98
theorem sc_l_film : FnScope ["script", "k", "layers", "j", "width", "height"] ["script", "k"] (defScope s_l_film) := ⟨rfl, rfl, rfl, by decide +kernel, rfl, by decide +kernel, by decide +kernel⟩
def spFilmF (K : PySem.W.Frag) : Sp := fun vs H Q _ => ∃ (a : Addr) (ns : List Int) (k : Int), vs = [.ref a, .int k] ∧ SqL K H a (ns.map V.int) ∧ 0 ≤ k ∧ ∀ v x H', Ex H H' → FiV H' v x → x.Ok → Q v H'
theorem ok_l_film {f : Addr} {fd : FuncData} (F : Fun K "_law_film" "_law_film" s_l_film f fd) (T : Txt K mg) (D_l_draw : Def P w K mg base CX0 "_law_draw" 1 ["script", "k", "below"] (spDrawF K)) (D_l_layer : Def P w K mg base CX0 "_law_layer" 5 ["script", "k", "name"] (spLayerF K)) (D_l_name : Def P w K mg base CX0 "_law_name" 2 ["script", "k", "first"] (spNameF K)) : FnOk P w K mg base CX0 6 f fd ["script", "k"] (spFilmF K) := by
  refine F.ok sc_l_film (fun vs H Q E h => ?_) (fun cdv A outer s H vs Q E hr h => ?_)
  · obtain ⟨a, ns, k, rfl, _⟩ := h
    rfl
  · obtain ⟨a, ns, k, rfl, hS, k0, q⟩ := h
    refine ⟨_, (pss_cons (ps_set (i := 2) sc_l_film.nd rfl (by first | exact Or.inl rfl | exact Or.inr rfl) (pe_lst pa_nil))
      (pss_cons (ps_for PassesOwn.never rfl (pi_range1 (by rfl) T.range_ (pa_cons (pe_call D_l_draw.ok (hr.mono (by decide)) rfl D_l_draw.mgf D_l_draw.kp D_l_draw.b .nil pass0 (pa_cons (pv 0) (pa_cons (pv 1) (pa_cons pe_int pa_nil)))) pa_nil)) (pg_name (i := 3) sc_l_film.nd rfl (by first | exact Or.inl rfl | exact Or.inr rfl))
        (pss_one (ps_expr (pe_bm PySem.F.plainAttrs_list PySem.F.slot_list_append PySem.F.type_list_append mt_append (pv 2) (pa_cons (pe_call D_l_layer.ok (hr.mono (by decide)) rfl D_l_layer.mgf D_l_layer.kp D_l_layer.b .nil pass0 (pa_cons (pv 0) (pa_cons (pe_op op_add (pe_op op_add (pv 1) pe_int) (pe_op op_mul pe_int (pv 3))) (pa_cons (pe_call D_l_name.ok (hr.mono (by decide)) rfl D_l_name.mgf D_l_name.kp D_l_name.b .nil pass0 (pa_cons (pv 0) (pa_cons (pe_op op_add (pe_op op_add (pv 1) pe_int) (pv 3)) (pa_cons (pe_ix ix_str pe_str (pv 3) (fun _ _ => rfl)) pa_nil)))) pa_nil)))) pa_nil)))))
      (pss_cons (ps_set (i := 4) sc_l_film.nd rfl (by first | exact Or.inl rfl | exact Or.inr rfl) (pe_op op_add pe_int (pe_call D_l_draw.ok (hr.mono (by decide)) rfl D_l_draw.mgf D_l_draw.kp D_l_draw.b .nil pass0 (pa_cons (pv 0) (pa_cons (pe_op op_add (pv 1) pe_int) (pa_cons pe_int pa_nil))))))
      (pss_cons (ps_set (i := 5) sc_l_film.nd rfl (by first | exact Or.inl rfl | exact Or.inr rfl) (pe_op op_add pe_int (pe_call D_l_draw.ok (hr.mono (by decide)) rfl D_l_draw.mgf D_l_draw.kp D_l_draw.b .nil pass0 (pa_cons (pv 0) (pa_cons (pe_op op_add (pv 1) pe_int) (pa_cons pe_int pa_nil))))))
      (pss_cut (ps_if (pt_cmpR op_eq (pe_call D_l_draw.ok (hr.mono (by decide)) rfl D_l_draw.mgf D_l_draw.kp D_l_draw.b .nil pass0 (pa_cons (pv 0) (pa_cons (pe_op op_add (pv 1) pe_int) (pa_cons pe_int pa_nil)))) pe_int (nomark _))
        (pss_one (ps_asg (pe_ix (kixL K) (pe_lst (pa_cons (pe_tup (pa_cons pe_int (pa_cons pe_int pa_nil))) (pa_cons (pe_tup (pa_cons pe_int (pa_cons pe_int pa_nil))) pa_nil))) (pe_call D_l_draw.ok (hr.mono (by decide)) rfl D_l_draw.mgf D_l_draw.kp D_l_draw.b .nil pass0 (pa_cons (pv 0) (pa_cons (pe_op op_add (pv 1) pe_int) (pa_cons pe_int pa_nil)))) (fun _ _ => rfl)) (kpgT K (n := 2) rfl (pgs_cons (pg_name (i := 4) sc_l_film.nd rfl (by first | exact Or.inl rfl | exact Or.inr rfl)) (pgs_cons (pg_name (i := 5) sc_l_film.nd rfl (by first | exact Or.inl rfl | exact Or.inr rfl)) pgs_nil)))))
        pss_nil)
      (pss_one (ps_ret (pe_tup (pa_cons (pv 4) (pa_cons (pv 5) (pa_cons (pe_op op_add pe_int (pe_call D_l_draw.ok (hr.mono (by decide)) rfl D_l_draw.mgf D_l_draw.kp D_l_draw.b .nil pass0 (pa_cons (pv 0) (pa_cons (pe_op op_add (pv 1) pe_int) (pa_cons pe_int pa_nil))))) (pa_cons (pe_ix (kixL K) (pe_lst (pa_cons pe_int (pa_cons pe_int (pa_cons pe_int pa_nil)))) (pe_call D_l_draw.ok (hr.mono (by decide)) rfl D_l_draw.mgf D_l_draw.kp D_l_draw.b .nil pass0 (pa_cons (pv 0) (pa_cons (pe_op op_add (pv 1) pe_int) (pa_cons pe_int pa_nil)))) (fun _ _ => rfl)) (pa_cons (pv 2) pa_nil))))))))))))), ?_⟩
    refine ⟨Nat.zero_le _, fun D hD => ?_⟩
    have e0 := Ex.new (o := .lst []) hD
    have g0 : upd H D (.lst []) D = some (.lst []) := upd_same
    generalize upd H D (.lst []) = H0 at e0 g0 ⊢
    refine ⟨_, rfl, _, rfl, a, ns, k, 6, rfl, ex_l e0 hS, k0, by decide, by decide, fun n n0 n1 => ?_⟩
    refine ⟨_, rfl, by omega, by omega, ?_⟩
    refine for_range (lo := 0) (n := n.toNat) (fun i σ H' => Ex H H' ∧ ∃ (us : List V) (ls : List La) (x : Option V), σ = [some (.ref a), some (.int k), some (.ref D), x, none, none] ∧ H' D = some (.lst us) ∧ Paired (LaV H') us ls ∧ ls.length = i ∧ ∀ (j : Nat) l, ls[j]? = some l → l.Ok ∧ NameOk j l.name) ⟨e0, [], [], _, rfl, g0, .nil, rfl, fun j l h => by simp at h⟩ ?_ ?_
    · rintro i σ H' hi ⟨e, us, ls, x, rfl, hU, hL, hn, kL⟩
      have hul := hL.length
      have i0 : (0 : Int) ≤ i := Int.natCast_nonneg i
      have hc6 : ghijkl.cps.toList.length = 6 := by decide +kernel
      have hgl : ghijkl.length ≤ sizeLine := by decide +kernel
      have hx : ghijkl.cps.toList[i]? = some ghijkl.cps.toList[i] := List.getElem?_eq_getElem (by omega)
      generalize ghijkl.cps.toList[i] = c at hx
      have hat : atI ghijkl.cps.toList (0 + (i : Int)) = some c := by rw [Int.zero_add]; exact atI_nat hx
      refine ⟨_, rfl, .inl ⟨rfl, _, SqL.of hU⟩, ?_⟩
      refine ⟨_, rfl, _, rfl, _, _, rfl, rfl, _, rfl, _, _, rfl, rfl, .inl ⟨by decide, by decide⟩, _, _, rfl, rfl, ?_⟩
      refine ⟨_, rfl, _, rfl, _, _, rfl, rfl, _, rfl, _, _, rfl, rfl, _, rfl, ghijkl, _, c, rfl, rfl, hgl, hat, ?_⟩
      refine ⟨a, ns, k + 4 + (0 + (i : Int)), ⟨#[c]⟩, rfl, ex_l e hS, by omega, (by show (1 : Nat) ≤ 10; decide), fun t H1 e1 ht => ?_⟩
      refine ⟨a, ns, k + 10 + 50 * (0 + (i : Int)), _, rfl, ex_l (e.trans e1) hS, by omega, fun v l H2 e2 hv kl el => ?_⟩
      have e12 := e1.trans e2
      have hU2 := e12 _ _ hU
      have hL2 := Paired.mapP hL fun _ _ => LaV.tk (TK.ex e12)
      refine ⟨D, us, _, rfl, rfl, hU2, slineL (by omega), ?_⟩
      have tk : TK H2 (upd H2 D (.lst (us ++ [v]))) := TK.lst hU2
      refine ⟨(e.trans e12).mut hD, us ++ [v], ls ++ [l], _, rfl, upd_same, pr_append (Paired.mapP hL2 fun _ _ => LaV.tk tk) (.cons (hv.tk tk) .nil), by rw [List.length_append, hn]; rfl, fun j z hz => ?_⟩
      by_cases cj : j < ls.length
      · rw [List.getElem?_append_left cj] at hz
        exact kL j z hz
      · have hj := (List.getElem?_eq_some_iff.mp hz).1
        rw [List.length_append, List.length_singleton] at hj
        have ej : j = i := by omega
        subst ej
        rw [List.getElem?_append_right (by omega), show j - ls.length = 0 by omega] at hz
        cases hz
        exact ⟨kl, c, t, hx, ht, el⟩
    · rintro σ H' ⟨e, us, ls, x, rfl, hU, hL, hn, kL⟩
      refine ⟨_, rfl, _, rfl, _, _, rfl, rfl, a, ns, k + 1, 9, rfl, ex_l e hS, by omega, by decide, by decide, fun u u0 u1 => ?_⟩
      refine ⟨_, _, rfl, rfl, ?_⟩
      refine ⟨_, rfl, _, rfl, _, _, rfl, rfl, a, ns, k + 2, 9, rfl, ex_l e hS, by omega, by decide, by decide, fun r r0 r1 => ?_⟩
      refine ⟨_, _, rfl, rfl, ?_⟩
      refine ⟨fun σ H'' => Ex H' H'' ∧ ∃ wd hg : Int, σ = [some (.ref a), some (.int k), some (.ref D), x, some (.int wd), some (.int hg)] ∧ 1 ≤ wd ∧ wd ≤ 64 ∧ 1 ≤ hg ∧ hg ≤ 64 ∧ wd * hg ≤ 81, ?_, ?_⟩
      · refine ⟨_, rfl, _, rfl, _, _, rfl, rfl, a, ns, k + 900, 16, rfl, ex_l e hS, by omega, by decide, by decide, fun z z0 z1 => ?_⟩
        refine ⟨rfl, _, rfl, ?_⟩
        refine ite2 (fun _ => ?_) (fun _ => ?_)
        · refine ⟨(by show 2 ≤ sizeLine; decide), fun t1 ht1 => ?_⟩
          have x1 := Ex.new (o := .tup [.int 64, .int 1]) ht1
          have y1 : upd H' t1 (.tup [.int 64, .int 1]) t1 = some (.tup [.int 64, .int 1]) := upd_same
          generalize upd H' t1 (.tup [.int 64, .int 1]) = H3 at x1 y1 ⊢
          refine ⟨(by show 2 ≤ sizeLine; decide), fun t2 ht2 => ?_⟩
          have x2 := Ex.new (o := .tup [.int 1, .int 64]) ht2
          have y2 : upd H3 t2 (.tup [.int 1, .int 64]) t2 = some (.tup [.int 1, .int 64]) := upd_same
          generalize upd H3 t2 (.tup [.int 1, .int 64]) = H4 at x2 y2 ⊢
          refine ⟨(by show 2 ≤ sizeLine; decide), fun l hl => ?_⟩
          have x3 := Ex.new (o := .lst [.ref t1, .ref t2]) hl
          have y3 : upd H4 l (.lst [.ref t1, .ref t2]) l = some (.lst [.ref t1, .ref t2]) := upd_same
          generalize upd H4 l (.lst [.ref t1, .ref t2]) = H5 at x3 y3 ⊢
          have e15 := (x1.trans x2).trans x3
          refine ⟨_, rfl, _, rfl, _, _, rfl, rfl, a, ns, k + 901, 2, rfl, ex_l (e.trans e15) hS, by omega, by decide, by decide, fun m m0 m1 => ?_⟩
          have hm : m = 0 ∨ m = 1 := by omega
          rcases hm with rfl | rfl
          · refine ⟨l, _, 0, .ref t1, rfl, rfl, SqL.of y3, rfl, t1, [.int 64, .int 1], rfl, SqT.of ((x2.trans x3) _ _ y1), rfl, _, _, rfl, _, _, rfl, rfl, ?_⟩
            exact ⟨e15, 64, 1, rfl, by decide, by decide, by decide, by decide, by decide⟩
          · refine ⟨l, _, 1, .ref t2, rfl, rfl, SqL.of y3, rfl, t2, [.int 1, .int 64], rfl, SqT.of (x3 _ _ y2), rfl, _, _, rfl, _, _, rfl, rfl, ?_⟩
            exact ⟨e15, 1, 64, rfl, by decide, by decide, by decide, by decide, by decide⟩
        · refine ⟨Ex.refl _, _, _, rfl, by omega, by omega, by omega, by omega, ?_⟩
          have := Int.mul_le_mul (show 1 + u ≤ 9 by omega) (show 1 + r ≤ 9 by omega) (by omega) (by decide)
          omega
      rintro σ H9 ⟨e9, wd, hg, rfl, w0, w1, h0, h1, wh⟩
      refine ⟨_, rfl, _, rfl, ?_⟩
      have e09 := e.trans e9
      refine ⟨_, rfl, _, rfl, _, _, rfl, rfl, a, ns, k + 9, 10, rfl, ex_l e09 hS, by omega, by decide, by decide, fun n2 n20 n21 => ?_⟩
      refine ⟨_, _, rfl, rfl, ?_⟩
      refine ⟨(by show 3 ≤ sizeLine; decide), fun l hl => ?_⟩
      have f6 := Ex.new (o := .lst [.int 0, .int 255, .int 77]) hl
      have k6 : upd H9 l (.lst [.int 0, .int 255, .int 77]) l = some (.lst ([0, 255, 77].map V.int)) := upd_same
      generalize upd H9 l (.lst [.int 0, .int 255, .int 77]) = H6 at f6 k6 ⊢
      refine ⟨_, rfl, _, rfl, _, _, rfl, rfl, a, ns, k + 3, 3, rfl, ex_l (e09.trans f6) hS, by omega, by decide, by decide, fun j j0 j1 => ?_⟩
      obtain ⟨b, hb, exb⟩ := pickI (ns := [0, 255, 77]) j0 j1
      simp only [List.mem_cons, List.not_mem_nil, or_false] at hb
      refine ⟨l, _, j, _, rfl, rfl, SqL.of k6, exb, ?_⟩
      refine ⟨_, rfl, ?_⟩
      refine ⟨(by show 5 ≤ sizeLine; decide), fun t ht => ?_⟩
      have f7 := Ex.new (o := .tup [.int wd, .int hg, .int (1 + n2), .int b, .ref D]) ht
      have e97 := (e9.trans f6).trans f7
      exact q _ ⟨wd, hg, 1 + n2, b, ls⟩ _ (e.trans e97) ⟨t, D, us, rfl, upd_same, e97 _ _ hU, Paired.mapP hL fun _ _ => LaV.tk (TK.ex e97)⟩ ⟨w0, w1, h0, h1, wh, by show 1 ≤ 1 + n2; omega, by show 1 + n2 ≤ 10; omega, by show 0 ≤ b; omega, by show b ≤ 255; omega, by show ls.length ≤ 5; omega, kL⟩
abbrev s_is_whole : Stmt := top 12
theorem sc_is_whole : FnScope ["value"] ["value"] (defScope s_is_whole) := ⟨rfl, rfl, rfl, by decide +kernel, rfl, by decide +kernel, by decide +kernel⟩
def spWhole : Sp := fun vs H Q _ => ∃ v T, vs = [v] ∧ Kn H v T ∧ Q (.bl (isI v)) H
theorem ok_is_whole {f : Addr} {fd : FuncData} (F : Fun K "is_whole" "is_whole" s_is_whole f fd) (T : Txt K mg) : FnOk P w K mg base CX0 1 f fd ["value"] spWhole := by
  refine F.ok sc_is_whole (fun vs H Q E h => ?_) (fun cdv A outer s H vs Q E hr h => ?_)
  · obtain ⟨v, T, rfl, _⟩ := h
    rfl
  · obtain ⟨v, T', rfl, kn, q⟩ := h
    refine ⟨_, (pss_one (ps_ret (pe_and (pe_callB (kisi K) (by rfl) T.isinstance_ bt_isinstance (pa_cons (pv 0) (pa_cons (pe_bltn (v := .ty "int") (by rfl) T.int_ bt_int rfl) pa_nil))) (pe_one (pe_not (pe_callB (kisi K) (by rfl) T.isinstance_ bt_isinstance (pa_cons (pv 0) (pa_cons (pe_bltn (v := .ty "bool") (by rfl) T.bool_ bt_bool rfl) pa_nil)))))))), ?_⟩
    refine ⟨v, rfl, v, _, _, _, _, rfl, .ty _, kn.ty, kit_ty (kit_int kn), _, rfl, ?_⟩
    refine ite2 (fun e => ?_) (fun e => ?_)
    · refine ⟨v, rfl, v, _, _, _, _, rfl, .ty _, kn.ty, kit_ty (kit_bool kn), _, rfl, ?_⟩
      have z := kn.whole
      rw [e] at z
      rw [← z] at q
      exact q
    · have z := kn.whole
      rw [eq_false_of_ne_true e] at z
      rw [← z] at q
      exact q
abbrev s_is_number : Stmt := top 17
theorem sc_is_number : FnScope ["value", "least", "most"] ["value", "least", "most"] (defScope s_is_number) := ⟨rfl, rfl, rfl, by decide +kernel, rfl, by decide +kernel, by decide +kernel⟩
def numIn (lo hi : Int) : V → Bool
  | .int i => decide (lo ≤ i) && decide (i ≤ hi)
  | _ => false
def spNumber : Sp := fun vs H Q _ => ∃ v lo hi T, vs = [v, .int lo, .int hi] ∧ Kn H v T ∧ Q (.bl (numIn lo hi v)) H
theorem ok_is_number {f : Addr} {fd : FuncData} (F : Fun K "is_number" "is_number" s_is_number f fd) (T : Txt K mg) (D_is_whole : Def P w K mg base CX0 "is_whole" 1 ["value"] spWhole) : FnOk P w K mg base CX0 2 f fd ["value", "least", "most"] spNumber := by
  refine F.ok sc_is_number (fun vs H Q E h => ?_) (fun cdv A outer s H vs Q E hr h => ?_)
  · obtain ⟨v, lo, hi, T, rfl, _⟩ := h
    rfl
  · obtain ⟨v, lo, hi, T', rfl, kn, q⟩ := h
    refine ⟨_, (pss_one (ps_ret (pe_and (pe_call D_is_whole.ok (hr.mono (by decide)) rfl D_is_whole.mgf D_is_whole.kp D_is_whole.b .nil pass0 (pa_cons (pv 0) pa_nil)) (pe_one (pe_chain op_le op_le (pv 1) (pv 0) (pv 2)))))), ?_⟩
    refine ⟨v, rfl, v, _, rfl, kn, _, rfl, ?_⟩
    cases v with
    | int i =>
      refine iteT ?_
      refine ⟨_, rfl, _, rfl, _, _, rfl, rfl, _, rfl, ?_⟩
      have e : numIn lo hi (.int i) = (decide (lo ≤ i) && decide (i ≤ hi)) := rfl
      rw [e] at q
      refine ite2 (fun c => ?_) (fun c => ?_)
      · rw [c, Bool.true_and] at q
        exact ⟨_, rfl, _, _, rfl, rfl, q⟩
      · rw [eq_false_of_ne_true c, Bool.false_and] at q
        exact q
    | _ => exact iteF q
abbrev s_has_form_blends : Stmt := top 23
theorem sc_has_form_blends : FnScope ["what", "opacity", "mode", "n"] ["what"] (defScope s_has_form_blends) := ⟨rfl, rfl, rfl, by decide +kernel, rfl, by decide +kernel, by decide +kernel⟩
def spFormWh : Sp := fun vs H Q _ => ∃ (v : V) (x : Wh), vs = [v] ∧ WhV H v x ∧ x.Ok ∧ Q (.bl true) H
def inM3 (v : V) : Bool := ["over", "add", "times"].any fun w => isW w v
theorem num_in {lo hi i : Int} (h1 : lo ≤ i) (h2 : i ≤ hi) : numIn lo hi (.int i) = true := by
  show (decide (lo ≤ i) && decide (i ≤ hi)) = true
  rw [decide_eq_true h1, decide_eq_true h2]
  rfl
theorem ok_has_form_blends {f : Addr} {fd : FuncData} (F : Fun K "_has_form" "_has_form" s_has_form_blends f fd) (T : Txt K mg) (D_is_number : Def P w K mg base CX0 "is_number" 2 ["value", "least", "most"] spNumber) : FnOk P w K mg base CX0 3 f fd ["what"] spFormWh := by
  refine F.ok sc_has_form_blends (fun vs H Q E h => ?_) (fun cdv A outer s H vs Q E hr h => ?_)
  · obtain ⟨v, x, rfl, _⟩ := h
    rfl
  · obtain ⟨v, x, rfl, ⟨a, rfl, ha⟩, k, q⟩ := h
    refine ⟨_, (pss_cons (ps_if (pt_not (pt_val (pe_callB (kisi K) (by rfl) T.isinstance_ bt_isinstance (pa_cons (pv 0) (pa_cons (pe_bltn (v := .ty "tuple") (by rfl) T.tuple_ bt_tuple rfl) pa_nil)))))
        (pss_one (ps_ret pe_bl))
        pss_nil)
      (pss_one (ps_match (pv 0) (pcs_seq K rfl sc_has_form_blends.nd (pms_word hr.units (pms_cap (i := 1) rfl (by first | exact Or.inl rfl | exact Or.inr rfl) (pms_cap (i := 2) rfl (by first | exact Or.inl rfl | exact Or.inr rfl) pms_nil)))
          (pss_one (ps_ret (pe_and (pe_call D_is_number.ok (hr.mono (by decide)) rfl D_is_number.mgf D_is_number.kp D_is_number.b .nil pass0 (pa_cons (pv 1) (pa_cons pe_int (pa_cons (pe_glob (v := .int 256) rfl T.COVER_MOST_.choose_spec ⟨_, rfl⟩) pa_nil)))) (pe_one (pe_cmpR (kinW K hr.units) (pv 2) (pe_glob (v := .ref T.MODES_.choose) rfl T.MODES_.choose_spec.1 rfl) (by rfl))))))
          (pcs_seq K rfl sc_has_form_blends.nd (pms_word hr.units pms_nil)
          (pss_one (ps_ret pe_bl))
          (pcs_seq K rfl sc_has_form_blends.nd (pms_word hr.units (pms_cap (i := 3) rfl (by first | exact Or.inl rfl | exact Or.inr rfl) pms_nil))
          (pss_one (ps_ret (pe_call D_is_number.ok (hr.mono (by decide)) rfl D_is_number.mgf D_is_number.kp D_is_number.b .nil pass0 (pa_cons (pv 3) (pa_cons (pe_un un_neg (pe_glob (v := .int 255) rfl T.VALUE_MOST_.choose_spec ⟨_, rfl⟩)) (pa_cons (pe_glob (v := .int 255) rfl T.VALUE_MOST_.choose_spec ⟨_, rfl⟩) pa_nil))))))
          (pcs_else (pss_one (ps_ret pe_bl))))))))), ?_⟩
    refine ⟨_, rfl, _, _, _, _, _, rfl, .ty _, (Kn.tup ha).ty, kit_ty (kit_tuple (Kn.tup ha)), _, rfl, ?_⟩
    refine iteF ?_
    refine ⟨_, rfl, a, _, rfl, SqT.of ha, ?_⟩
    cases x with
    | invert =>
      refine lenN (by show 1 ≠ 3; decide) ⟨a, _, rfl, SqT.of ha, lenY rfl ?_⟩
      refine ⟨.str "invert", _, _, rfl, .str _, ?_⟩
      rw [show isW "invert" (.str "invert") = true by decide +kernel]
      exact iteT ⟨rfl, q⟩
    | shift n =>
      refine lenN (by show 2 ≠ 3; decide) ⟨a, _, rfl, SqT.of ha, lenN (by show 2 ≠ 1; decide) ⟨a, _, rfl, SqT.of ha, lenY rfl ?_⟩⟩
      refine ⟨.str "shift", _, _, rfl, .str _, ?_⟩
      rw [show isW "shift" (.str "shift") = true by decide +kernel]
      refine iteT ?_
      refine ⟨_, _, rfl, rfl, ?_⟩
      refine ⟨_, rfl, _, rfl, _, -255, 255, _, rfl, .int n, ?_⟩
      rw [num_in k.1 k.2]
      exact q
    | paint o m =>
      obtain ⟨o0, o1, hm⟩ := k
      have lay : (PyData.str m).canLay0 = true ∧ inM3 (.str m) = true := by
        unfold modes3 at hm
        simp only [List.mem_cons, List.not_mem_nil, or_false] at hm
        rcases hm with rfl | rfl | rfl <;> exact ⟨by decide +kernel, by decide +kernel⟩
      refine lenY rfl ?_
      refine ⟨.str "paint", _, _, rfl, .str _, ?_⟩
      rw [show isW "paint" (.str "paint") = true by decide +kernel]
      refine iteT ?_
      refine ⟨_, _, rfl, _, _, rfl, rfl, ?_⟩
      refine ⟨_, rfl, _, 0, 256, _, rfl, .int o, _, rfl, ?_⟩
      rw [num_in o0 o1]
      refine iteT ?_
      refine ⟨_, rfl, .str m, _, ["over", "add", "times"], .str m, lay.1, rfl, .inr (T.MODES_.choose_spec.2 H), (by decide +kernel), ?_⟩
      show Q (.bl (inM3 (.str m))) H
      rw [lay.2]
      exact q
abbrev s_check_what : Stmt := top 22
theorem sc_check_what : FnScope ["what"] ["what"] (defScope s_check_what) := ⟨rfl, rfl, rfl, by decide +kernel, rfl, by decide +kernel, by decide +kernel⟩
def spWhatV : Sp := fun vs H Q _ => ∃ (v : V) (x : Wh), vs = [v] ∧ WhV H v x ∧ x.Ok ∧ Q .non H
theorem ok_check_what {f : Addr} {fd : FuncData} (F : Fun K "check_what" "check_what" s_check_what f fd) (T : Txt K mg) (D_has_form_blends : Def P w K mg base CX0 "has_form_blends" 3 ["what"] spFormWh) : FnOk P w K mg base CX0 4 f fd ["what"] spWhatV := by
  refine F.ok sc_check_what (fun vs H Q E h => ?_) (fun cdv A outer s H vs Q E hr h => ?_)
  · obtain ⟨v, x, rfl, _⟩ := h
    rfl
  · obtain ⟨v, x, rfl, hx, k, q⟩ := h
    refine ⟨_, (pss_one (ps_if (pt_not (pt_val (pe_call D_has_form_blends.ok (hr.mono (by decide)) rfl D_has_form_blends.mgf D_has_form_blends.kp D_has_form_blends.b .nil pass0 (pa_cons (pv 0) pa_nil))))
        (pss_one ps_never)
        pss_nil)), ?_⟩
    exact ⟨_, rfl, v, x, rfl, hx, k, _, rfl, iteF q⟩
abbrev s_is_distance : Stmt := top 55
theorem sc_is_distance : FnScope ["value"] ["value"] (defScope s_is_distance) := ⟨rfl, rfl, rfl, by decide +kernel, rfl, by decide +kernel, by decide +kernel⟩
def spDistV : Sp := fun vs H Q _ => ∃ i : Int, vs = [.int i] ∧ -1000 ≤ i ∧ i ≤ 1000 ∧ Q (.bl true) H
theorem ok_is_distance {f : Addr} {fd : FuncData} (F : Fun K "_is_distance" "_is_distance" s_is_distance f fd) (T : Txt K mg) (D_is_number : Def P w K mg base CX0 "is_number" 2 ["value", "least", "most"] spNumber) : FnOk P w K mg base CX0 3 f fd ["value"] spDistV := by
  refine F.ok sc_is_distance (fun vs H Q E h => ?_) (fun cdv A outer s H vs Q E hr h => ?_)
  · obtain ⟨i, rfl, _⟩ := h
    rfl
  · obtain ⟨i, rfl, h1, h2, q⟩ := h
    refine ⟨_, (pss_one (ps_ret (pe_call D_is_number.ok (hr.mono (by decide)) rfl D_is_number.mgf D_is_number.kp D_is_number.b .nil pass0 (pa_cons (pv 0) (pa_cons (pe_un un_neg (pe_glob (v := .int 1000) rfl T.DISTANCE_MOST_.choose_spec ⟨_, rfl⟩)) (pa_cons (pe_glob (v := .int 1000) rfl T.DISTANCE_MOST_.choose_spec ⟨_, rfl⟩) pa_nil)))))), ?_⟩
    refine ⟨_, rfl, _, rfl, _, -1000, 1000, _, rfl, .int i, ?_⟩
    rw [num_in h1 h2]
    exact q
abbrev s_is_point : Stmt := top 54
theorem sc_is_point : FnScope ["point", "least", "frame", "across", "down"] ["point", "least"] (defScope s_is_point) := ⟨rfl, rfl, rfl, by decide +kernel, rfl, by decide +kernel, by decide +kernel⟩
def spPtVd : Sp := fun vs H Q _ => ∃ (v : V) (m : Mv) (lo : Int), vs = [v, .int lo] ∧ MvV H v m ∧ lo ≤ m.f ∧ m.f ≤ 1000 ∧ -1000 ≤ m.a ∧ m.a ≤ 1000 ∧ -1000 ≤ m.d ∧ m.d ≤ 1000 ∧ Q (.bl true) H
theorem ok_is_point {f : Addr} {fd : FuncData} (F : Fun K "_is_point" "_is_point" s_is_point f fd) (T : Txt K mg) (D_is_number : Def P w K mg base CX0 "is_number" 2 ["value", "least", "most"] spNumber) (D_is_distance : Def P w K mg base CX0 "_is_distance" 3 ["value"] spDistV) : FnOk P w K mg base CX0 4 f fd ["point", "least"] spPtVd := by
  refine F.ok sc_is_point (fun vs H Q E h => ?_) (fun cdv A outer s H vs Q E hr h => ?_)
  · obtain ⟨v, m, lo, rfl, _⟩ := h
    rfl
  · obtain ⟨v, m, lo, rfl, ⟨a, rfl, ha⟩, f0, f1, a0, a1, d0, d1, q⟩ := h
    refine ⟨_, (pss_cons (ps_if (PW.pt (pw_or (pt_not (pt_val (pe_callB (kisi K) (by rfl) T.isinstance_ bt_isinstance (pa_cons (pv 0) (pa_cons (pe_bltn (v := .ty "tuple") (by rfl) T.tuple_ bt_tuple rfl) pa_nil))))) (pw_or1 (pt_cmpR op_ne (pe_callB (klen K) (by rfl) T.len_ PySem.boot_len (pa_cons (pv 0) pa_nil)) pe_int (nomark _)))))
        (pss_one (ps_ret pe_bl))
        pss_nil)
      (pss_cons (ps_asg (pv 0) (kpgT K (n := 3) rfl (pgs_cons (pg_name (i := 2) sc_is_point.nd rfl (by first | exact Or.inl rfl | exact Or.inr rfl)) (pgs_cons (pg_name (i := 3) sc_is_point.nd rfl (by first | exact Or.inl rfl | exact Or.inr rfl)) (pgs_cons (pg_name (i := 4) sc_is_point.nd rfl (by first | exact Or.inl rfl | exact Or.inr rfl)) pgs_nil)))))
      (pss_one (ps_ret (pe_and (pe_call D_is_number.ok (hr.mono (by decide)) rfl D_is_number.mgf D_is_number.kp D_is_number.b .nil pass0 (pa_cons (pv 2) (pa_cons (pv 1) (pa_cons (pe_glob (v := .int 1000) rfl T.MOVE_FRAME_MOST_.choose_spec ⟨_, rfl⟩) pa_nil)))) (pe_and (pe_call D_is_distance.ok (hr.mono (by decide)) rfl D_is_distance.mgf D_is_distance.kp D_is_distance.b .nil pass0 (pa_cons (pv 3) pa_nil)) (pe_one (pe_call D_is_distance.ok (hr.mono (by decide)) rfl D_is_distance.mgf D_is_distance.kp D_is_distance.b .nil pass0 (pa_cons (pv 4) pa_nil))))))))), ?_⟩
    refine ⟨_, rfl, _, _, _, _, _, rfl, .ty _, (Kn.tup ha).ty, kit_ty (kit_tuple (Kn.tup ha)), _, rfl, ?_⟩
    refine iteF ?_
    refine ⟨_, rfl, a, _, rfl, .inr (SqT.of ha), rfl, _, rfl, ?_⟩
    refine iteF ?_
    refine ⟨_, rfl, a, _, rfl, SqT.of ha, rfl, _, _, rfl, _, _, rfl, _, _, rfl, rfl, ?_⟩
    refine ⟨_, rfl, _, rfl, _, lo, 1000, _, rfl, .int m.f, _, rfl, ?_⟩
    rw [num_in f0 f1]
    refine iteT ?_
    refine ⟨_, rfl, m.a, rfl, a0, a1, _, rfl, iteT ?_⟩
    exact ⟨_, rfl, m.d, rfl, d0, d1, q⟩
abbrev s_check_moves : Stmt := top 52
theorem sc_check_moves : FnScope ["moves", "least", "place", "point"] ["moves"] (defScope s_check_moves) := ⟨rfl, rfl, rfl, by decide +kernel, rfl, by decide +kernel, by decide +kernel⟩
def spMovesV : Sp := fun vs H Q _ => ∃ (a : Addr) (us : List V) (ms : List Mv), vs = [.ref a] ∧ H a = some (.tup us) ∧ MvsV H us ms ∧ MvsVd ms ∧ ∀ H', Ex H H' → Q .non H'
theorem ok_check_moves {f : Addr} {fd : FuncData} (F : Fun K "check_moves" "check_moves" s_check_moves f fd) (T : Txt K mg) (D_is_point : Def P w K mg base CX0 "_is_point" 4 ["point", "least"] spPtVd) : FnOk P w K mg base CX0 5 f fd ["moves"] spMovesV := by
  refine F.ok sc_check_moves (fun vs H Q E h => ?_) (fun cdv A outer s H vs Q E hr h => ?_)
  · obtain ⟨a, us, ms, rfl, _⟩ := h
    rfl
  · obtain ⟨a, us, ms, rfl, ha, hM, k, q⟩ := h
    have lu := hM.length
    have lm := k.len
    refine ⟨_, (pss_cons (ps_if (PW.pt (pw_or (pt_not (pt_val (pe_callB (kisi K) (by rfl) T.isinstance_ bt_isinstance (pa_cons (pv 0) (pa_cons (pe_bltn (v := .ty "tuple") (by rfl) T.tuple_ bt_tuple rfl) pa_nil))))) (pw_or1 (pt_cmpR op_gt (pe_callB (klen K) (by rfl) T.len_ PySem.boot_len (pa_cons (pv 0) pa_nil)) (pe_glob (v := .int 16) rfl T.MOVES_MOST_.choose_spec ⟨_, rfl⟩) (nomark _)))))
        (pss_one ps_never)
        pss_nil)
      (pss_cons (ps_set (i := 1) sc_check_moves.nd rfl (by first | exact Or.inl rfl | exact Or.inr rfl) pe_int)
      (pss_one (ps_for PassesOwn.never rfl (kpiET K (by rfl) T.enumerate_ (pa_cons (pv 0) pa_nil)) (kpgT K (n := 2) rfl (pgs_cons (pg_name (i := 2) sc_check_moves.nd rfl (by first | exact Or.inl rfl | exact Or.inr rfl)) (pgs_cons (pg_name (i := 3) sc_check_moves.nd rfl (by first | exact Or.inl rfl | exact Or.inr rfl)) pgs_nil)))
        (pss_cons (ps_if (pt_not (pt_val (pe_call D_is_point.ok (hr.mono (by decide)) rfl D_is_point.mgf D_is_point.kp D_is_point.b .nil pass0 (pa_cons (pv 3) (pa_cons (pv 1) pa_nil)))))
          (pss_one ps_never)
          pss_nil)
        (pss_one (ps_set (i := 1) sc_check_moves.nd rfl (by first | exact Or.inl rfl | exact Or.inr rfl) (pe_op op_add (pe_ix (kixT K) (pv 3) pe_int (fun _ _ => rfl)) pe_int)))))))), ?_⟩
    refine ⟨_, rfl, _, _, _, _, _, rfl, .ty _, (Kn.tup ha).ty, kit_ty (kit_tuple (Kn.tup ha)), _, rfl, ?_⟩
    refine iteF ?_
    refine ⟨_, rfl, a, us, rfl, .inr (SqT.of ha), _, _, rfl, rfl, _, rfl, ?_⟩
    rw [decide_eq_false (show ¬ (16 : Int) < us.length by omega)]
    refine iteF ?_
    refine ⟨_, rfl, a, us, rfl, SqT.of ha, ?_⟩
    refine for_ET (xs := us) (fun i σ H' => Ex H H' ∧ ∃ (lo : Int) (x y : Option V), σ = [some (.ref a), some (.int lo), x, y] ∧ ∀ m, ms[i]? = some m → lo ≤ m.f) ⟨Ex.refl _, 0, _, _, rfl, fun m hm => (k.ok m (List.mem_of_getElem? hm)).1⟩ (fun i σ H' _ p => SqT.of (p.1 _ _ ha)) ?_ ?_
    · rintro i v σ H1 t hv ⟨e1, lo, x, y, rfl, hlo⟩ ht
      obtain ⟨m, hm, hmv⟩ := pr_get hM hv
      have f1 := Ex.new (o := .tup [.int (i : Nat), v]) ht
      have k1 : upd H1 t (.tup [.int (i : Nat), v]) t = some (.tup [.int (i : Nat), v]) := upd_same
      generalize upd H1 t (.tup [.int (i : Nat), v]) = H2 at f1 k1 ⊢
      have e2 := e1.trans f1
      have hmv := hmv.tk (TK.ex e2)
      obtain ⟨pa, rfl, hpa⟩ := id hmv
      obtain ⟨k1', k2, k3, k4, k5, k6⟩ := k.ok m (List.mem_of_getElem? hm)
      refine ⟨t, _, rfl, SqT.of k1, rfl, _, _, rfl, _, _, rfl, rfl, ?_⟩
      refine ⟨_, rfl, _, rfl, .ref pa, m, lo, rfl, hmv, hlo m hm, k2, k3, k4, k5, k6, _, rfl, ?_⟩
      refine iteF ?_
      refine ⟨_, rfl, pa, _, 0, _, rfl, rfl, SqT.of hpa, rfl, _, _, rfl, rfl, ?_⟩
      refine ⟨e2, m.f + 1, _, _, rfl, fun n hn => ?_⟩
      have := asc_le k.asc hm hn (Nat.lt_succ_self i)
      omega
    · rintro σ H1 ⟨e1, _⟩
      exact q H1 e1
abbrev s_has_form_clips : Stmt := top 45
theorem sc_has_form_clips : FnScope ["clip", "start", "length", "_", "fade_in", "fade_out"] ["clip"] (defScope s_has_form_clips) := ⟨rfl, rfl, rfl, by decide +kernel, rfl, by decide +kernel, by decide +kernel⟩
def spFormCV : Sp := fun vs H Q _ => ∃ (v : V) (c : Cl), vs = [v] ∧ ClV H v c ∧ c.Vd ∧ Q (.bl true) H
theorem ok_has_form_clips {f : Addr} {fd : FuncData} (F : Fun K "_has_form" "_has_form" s_has_form_clips f fd) (T : Txt K mg) (D_is_number : Def P w K mg base CX0 "is_number" 2 ["value", "least", "most"] spNumber) : FnOk P w K mg base CX0 3 f fd ["clip"] spFormCV := by
  refine F.ok sc_has_form_clips (fun vs H Q E h => ?_) (fun cdv A outer s H vs Q E hr h => ?_)
  · obtain ⟨v, c, rfl, _⟩ := h
    rfl
  · obtain ⟨v, c, rfl, ⟨a, u, rfl, ha, hu⟩, k, q⟩ := h
    have := k.fs
    have := k.fi0
    have := k.fo0
    refine ⟨_, (pss_cons (ps_if (PW.pt (pw_or (pt_not (pt_val (pe_callB (kisi K) (by rfl) T.isinstance_ bt_isinstance (pa_cons (pv 0) (pa_cons (pe_bltn (v := .ty "tuple") (by rfl) T.tuple_ bt_tuple rfl) pa_nil))))) (pw_or1 (pt_cmpR op_ne (pe_callB (klen K) (by rfl) T.len_ PySem.boot_len (pa_cons (pv 0) pa_nil)) pe_int (nomark _)))))
        (pss_one (ps_ret pe_bl))
        pss_nil)
      (pss_cons (ps_asg (pv 0) (kpgT K (n := 5) rfl (pgs_cons (pg_name (i := 1) sc_has_form_clips.nd rfl (by first | exact Or.inl rfl | exact Or.inr rfl)) (pgs_cons (pg_name (i := 2) sc_has_form_clips.nd rfl (by first | exact Or.inl rfl | exact Or.inr rfl)) (pgs_cons (pg_name (i := 3) sc_has_form_clips.nd rfl (by first | exact Or.inl rfl | exact Or.inr rfl)) (pgs_cons (pg_name (i := 4) sc_has_form_clips.nd rfl (by first | exact Or.inl rfl | exact Or.inr rfl)) (pgs_cons (pg_name (i := 5) sc_has_form_clips.nd rfl (by first | exact Or.inl rfl | exact Or.inr rfl)) pgs_nil)))))))
      (pss_cons (ps_if (PW.pt (pw_or (pt_not (pt_val (pe_call D_is_number.ok (hr.mono (by decide)) rfl D_is_number.mgf D_is_number.kp D_is_number.b .nil pass0 (pa_cons (pv 1) (pa_cons pe_int (pa_cons (pe_glob (v := .int 10000) rfl T.START_MOST_.choose_spec ⟨_, rfl⟩) pa_nil)))))) (pw_or1 (pt_not (pt_val (pe_call D_is_number.ok (hr.mono (by decide)) rfl D_is_number.mgf D_is_number.kp D_is_number.b .nil pass0 (pa_cons (pv 2) (pa_cons pe_int (pa_cons (pe_glob (v := .int 10000) rfl T.LENGTH_MOST_.choose_spec ⟨_, rfl⟩) pa_nil)))))))))
        (pss_one (ps_ret pe_bl))
        pss_nil)
      (pss_one (ps_ret (pe_and (pe_call D_is_number.ok (hr.mono (by decide)) rfl D_is_number.mgf D_is_number.kp D_is_number.b .nil pass0 (pa_cons (pv 4) (pa_cons pe_int (pa_cons (pv 2) pa_nil)))) (pe_one (pe_call D_is_number.ok (hr.mono (by decide)) rfl D_is_number.mgf D_is_number.kp D_is_number.b .nil pass0 (pa_cons (pv 5) (pa_cons pe_int (pa_cons (pe_op op_sub (pv 2) (pv 4)) pa_nil))))))))))), ?_⟩
    refine ⟨_, rfl, _, _, _, _, _, rfl, .ty _, (Kn.tup ha).ty, kit_ty (kit_tuple (Kn.tup ha)), _, rfl, ?_⟩
    refine iteF ?_
    refine ⟨_, rfl, a, _, rfl, .inr (SqT.of ha), rfl, _, rfl, ?_⟩
    refine iteF ?_
    refine ⟨_, rfl, a, _, rfl, SqT.of ha, rfl, _, _, rfl, _, _, rfl, _, _, rfl, _, _, rfl, _, _, rfl, rfl, ?_⟩
    refine ⟨_, rfl, _, 0, 10000, _, rfl, .int c.s, _, rfl, ?_⟩
    rw [num_in k.s0 k.s1]
    refine iteF ?_
    refine ⟨_, rfl, _, 1, 10000, _, rfl, .int c.n, _, rfl, ?_⟩
    rw [num_in k.n1 k.n2]
    refine iteF ?_
    refine ⟨_, rfl, _, rfl, _, 0, c.n, _, rfl, .int c.fi, _, rfl, ?_⟩
    rw [num_in k.fi0 (by omega)]
    refine iteT ?_
    refine ⟨_, rfl, _, rfl, _, rfl, _, _, rfl, rfl, _, 0, c.n - c.fi, _, rfl, .int c.fo, ?_⟩
    rw [num_in k.fo0 (by omega)]
    exact q
abbrev s_is_bare : Stmt := top 47
theorem sc_is_bare : FnScope ["clip"] ["clip"] (defScope s_is_bare) := ⟨rfl, rfl, rfl, by decide +kernel, rfl, by decide +kernel, by decide +kernel⟩
def spBareV : Sp := fun vs H Q _ => ∃ (v : V) (c : Cl), vs = [v] ∧ ClV H v c ∧ c.pa = none ∧ c.fi = 0 ∧ c.fo = 0 ∧ Q (.bl true) H
theorem ok_is_bare {f : Addr} {fd : FuncData} (F : Fun K "_is_bare" "_is_bare" s_is_bare f fd) (T : Txt K mg) : FnOk P w K mg base CX0 1 f fd ["clip"] spBareV := by
  refine F.ok sc_is_bare (fun vs H Q E h => ?_) (fun cdv A outer s H vs Q E hr h => ?_)
  · obtain ⟨v, c, rfl, _⟩ := h
    rfl
  · obtain ⟨v, c, rfl, ⟨a, u, rfl, ha, hu⟩, k1, k2, k3, q⟩ := h
    rw [k1] at hu
    cases hu
    unfold Cl.items at ha
    rw [k2, k3] at ha
    refine ⟨_, (pss_one (ps_ret (pe_and (pe_cmpR op_isN (pe_ix (kixT K) (pv 0) pe_int (fun _ _ => rfl)) pe_non (nomark _)) (pe_and (pe_cmpR op_eq (pe_ix (kixT K) (pv 0) pe_int (fun _ _ => rfl)) pe_int (nomark _)) (pe_one (pe_cmpR op_eq (pe_ix (kixT K) (pv 0) pe_int (fun _ _ => rfl)) pe_int (nomark _))))))), ?_⟩
    refine ⟨_, rfl, a, _, 2, _, rfl, rfl, SqT.of ha, rfl, rfl, _, rfl, ?_⟩
    refine iteT ?_
    refine ⟨_, rfl, a, _, 3, _, rfl, rfl, SqT.of ha, rfl, rfl, _, rfl, ?_⟩
    refine iteT ?_
    exact ⟨_, rfl, a, _, 4, _, rfl, rfl, SqT.of ha, rfl, rfl, q⟩
abbrev s_are_numbers : Stmt := top 19
theorem sc_are_numbers : FnScope ["items", "many", "most", "item"] ["items", "many", "most"] (defScope s_are_numbers) := ⟨rfl, rfl, rfl, by decide +kernel, rfl, by decide +kernel, by decide +kernel⟩
/-- what is passed: a value of a known kind; the items of a tuple, too -/
def Itm (H : Hp) (v : V) : Prop := (∃ T, Kn H v T) ∧ ∀ a xs, v = .ref a → H a = some (.tup xs) → (∀ x ∈ xs, ∃ T, Kn H x T) ∧ xs.length ≤ 1000
def numsV (H : Hp) (n m : Int) : V → Bool
  | .ref a => match H a with
    | some (.tup xs) => decide ((xs.length : Int) = n) && xs.all (numIn 0 m)
    | _ => false
  | _ => false
theorem numsV_tup {H : Hp} {n m : Int} {a : Addr} {xs : List V} (h : H a = some (.tup xs)) : numsV H n m (.ref a) = (decide ((xs.length : Int) = n) && xs.all (numIn 0 m)) := by
  unfold numsV
  simp only [h]
theorem kn_tup {H : Hp} {v : V} {T : String} (kn : Kn H v T) (c : isA T "tuple" = true) : ∃ a xs, v = .ref a ∧ H a = some (.tup xs) := by
  cases kn with
  | tup h => exact ⟨_, _, rfl, h⟩
  | non => exact absurd c (by decide +kernel)
  | bl b => exact absurd c (by decide +kernel)
  | int i => exact absurd c (by decide +kernel)
  | str x => exact absurd c (by decide +kernel)
  | lst h => exact absurd c (by decide +kernel)
theorem numsV_no {H : Hp} {n m : Int} {v : V} {T : String} (kn : Kn H v T) (c : isA T "tuple" = false) : numsV H n m v = false := by
  cases kn with
  | tup h => exact absurd c (by decide +kernel)
  | non => rfl
  | bl b => rfl
  | int i => rfl
  | str x => rfl
  | lst h =>
    unfold numsV
    simp only [h]
def spNums : Sp := fun vs H Q _ => ∃ v n m, vs = [v, .int n, .int m] ∧ Itm H v ∧ ∀ H', Ex H H' → Q (.bl (numsV H n m v)) H'
theorem ok_are_numbers {f : Addr} {fd : FuncData} (F : Fun K "_are_numbers" "_are_numbers" s_are_numbers f fd) (T : Txt K mg) (D_is_number : Def P w K mg base CX0 "is_number" 2 ["value", "least", "most"] spNumber) : FnOk P w K mg base CX0 3 f fd ["items", "many", "most"] spNums := by
  refine F.ok sc_are_numbers (fun vs H Q E h => ?_) (fun cdv A outer s H vs Q E hr h => ?_)
  · obtain ⟨v, n, m, rfl, _⟩ := h
    rfl
  · obtain ⟨v, n, m, rfl, ⟨⟨T', kn⟩, ki⟩, q⟩ := h
    refine ⟨_, (pss_cons (ps_if (PW.pt (pw_or (pt_not (pt_val (pe_callB (kisi K) (by rfl) T.isinstance_ bt_isinstance (pa_cons (pv 0) (pa_cons (pe_bltn (v := .ty "tuple") (by rfl) T.tuple_ bt_tuple rfl) pa_nil))))) (pw_or1 (pt_cmpR op_ne (pe_callB (klen K) (by rfl) T.len_ PySem.boot_len (pa_cons (pv 0) pa_nil)) (pv 1) (nomark _)))))
        (pss_one (ps_ret pe_bl))
        pss_nil)
      (pss_one (ps_ret (pe_callB (kall K rfl) (by rfl) T.all_ bt_all (pa_cons (pe_lc (own := [("item", 3)]) (tt := tYes) rfl sc_are_numbers.nd (kpiT K (pv 0)) (blkOk_by (N := ["items", "many", "most", "item"]) (sc := defScope s_are_numbers) (by decide +kernel)) (fun _ _ _ _ _ => (pg_name (i := 3) sc_are_numbers.nd rfl (by first | exact Or.inl rfl | exact Or.inr rfl))) (fun _ _ _ _ _ => pts_nil) (fun _ _ _ _ _ => (pe_call D_is_number.ok (hr.mono (by decide)) rfl D_is_number.mgf D_is_number.kp D_is_number.b .nil pass0 (pa_cons (pv 3) (pa_cons pe_int (pa_cons (pv 2) pa_nil)))))) pa_nil))))), ?_⟩
    refine ⟨v, rfl, v, _, _, _, _, rfl, .ty _, kn.ty, kit_ty (kit_tuple kn), _, rfl, ?_⟩
    cases ct : isA T' "tuple" with
    | false =>
      rw [numsV_no kn ct] at q
      refine iteT ?_
      exact iteT (q _ (Ex.refl _))
    | true =>
      obtain ⟨a, xs, rfl, ha⟩ := kn_tup kn ct
      obtain ⟨kx, hxl⟩ := ki a xs rfl ha
      rw [numsV_tup ha] at q
      refine iteF ?_
      refine ⟨_, rfl, a, xs, rfl, .inr (SqT.of ha), _, rfl, rfl, _, rfl, ?_⟩
      by_cases hn : (xs.length : Int) = n
      · have e4 : decide (V.int (xs.length : Int) = V.int n) = true := decide_eq_true (by rw [hn])
        rw [e4]
        rw [decide_eq_true hn, Bool.true_and] at q
        refine iteF ?_
        refine ⟨_, rfl, a, rfl, ⟨xs, SqT.of ha⟩, fun D hD => lc_tup (xs := xs) (fun i H' => Ex H H' ∧ H' D = some (.lst (((xs.take i).map (numIn 0 m)).map V.bl))) ⟨Ex.new hD, upd_same⟩ (fun i H' _ p => SqT.of (p.1 _ _ ha)) ?_ ?_⟩
        · intro i x H' hx p
          refine ⟨rfl, ?_⟩
          refine lcY ?_
          obtain ⟨Tx, kx⟩ := kx x (List.mem_of_getElem? hx)
          refine ⟨x, rfl, _, rfl, x, 0, m, Tx, rfl, kx.mono p.1, ?_⟩
          have hl : (xs.take i).length ≤ 1000 := by rw [List.length_take]; omega
          refine ⟨_, p.2, ?_, p.1.mut hD, ?_⟩
          · rw [List.length_map, List.length_map]
            exact Nat.lt_of_le_of_lt hl (by decide)
          · rw [upd_same, List.take_add_one, hx]
            simp
        · intro H' p
          rw [List.take_length] at p
          refine ⟨D, xs.map (numIn 0 m), rfl, SqL.of p.2, ?_⟩
          have ea : (xs.map (numIn 0 m)).all id = xs.all (numIn 0 m) := by rw [List.all_map]; rfl
          rw [ea]
          exact q _ p.1
      · have e4 : decide (V.int (xs.length : Int) = V.int n) = false := decide_eq_false (fun e => hn (by injection e))
        rw [e4]
        rw [decide_eq_false hn, Bool.false_and] at q
        refine iteT ?_
        exact q _ (Ex.refl _)
abbrev s_check_picture : Stmt := top 18
theorem sc_check_picture : FnScope ["picture", "width", "height", "values", "covers"] ["picture"] (defScope s_check_picture) := ⟨rfl, rfl, rfl, by decide +kernel, rfl, by decide +kernel, by decide +kernel⟩
theorem itm_ints {H : Hp} {a : Addr} {ns : List Int} (h : H a = some (.tup (ns.map V.int))) (hl : ns.length ≤ 1000) : Itm H (.ref a) := by
  refine ⟨⟨_, .tup h⟩, fun b xs e hb => ?_⟩
  cases e
  rw [h] at hb
  cases hb
  refine ⟨fun x hx => ?_, by rw [List.length_map]; exact hl⟩
  obtain ⟨n, _, rfl⟩ := List.mem_map.mp hx
  exact ⟨_, .int n⟩
theorem nums_ints {H : Hp} {a : Addr} {ns : List Int} {n m : Int} (h : H a = some (.tup (ns.map V.int))) (hl : (ns.length : Int) = n) (hb : ∀ v ∈ ns, 0 ≤ v ∧ v ≤ m) : numsV H n m (.ref a) = true := by
  rw [numsV_tup h, List.length_map, decide_eq_true hl, Bool.true_and, List.all_eq_true]
  intro x hx
  obtain ⟨v, hv, rfl⟩ := List.mem_map.mp hx
  show (decide (0 ≤ v) && decide (v ≤ m)) = true
  rw [decide_eq_true (hb v hv).1, decide_eq_true (hb v hv).2]
  rfl
def spCheck (K : PySem.W.Frag) : Sp := fun vs H Q _ => ∃ v p, vs = [v] ∧ PcV H v p ∧ p.Ok 12 ∧ ∀ H', Ex H H' → Q .non H'
theorem ok_check_picture {f : Addr} {fd : FuncData} (F : Fun K "check_picture" "check_picture" s_check_picture f fd) (T : Txt K mg) (D_is_number : Def P w K mg base CX0 "is_number" 2 ["value", "least", "most"] spNumber) (D_are_numbers : Def P w K mg base CX0 "_are_numbers" 3 ["items", "many", "most"] spNums) : FnOk P w K mg base CX0 4 f fd ["picture"] (spCheck K) := by
  refine F.ok sc_check_picture (fun vs H Q E h => ?_) (fun cdv A outer s H vs Q E hr h => ?_)
  · obtain ⟨v, p, rfl, _⟩ := h
    rfl
  · obtain ⟨v, p, rfl, ⟨a, va, ca, rfl, hp, hva, hca⟩, k, q⟩ := h
    refine ⟨_, (pss_cons (ps_if (PW.pt (pw_or (pt_not (pt_val (pe_callB (kisi K) (by rfl) T.isinstance_ bt_isinstance (pa_cons (pv 0) (pa_cons (pe_bltn (v := .ty "tuple") (by rfl) T.tuple_ bt_tuple rfl) pa_nil))))) (pw_or1 (pt_cmpR op_ne (pe_callB (klen K) (by rfl) T.len_ PySem.boot_len (pa_cons (pv 0) pa_nil)) pe_int (nomark _)))))
        (pss_one ps_never)
        pss_nil)
      (pss_cons (ps_asg (pv 0) (kpgT K (n := 4) rfl (pgs_cons (pg_name (i := 1) sc_check_picture.nd rfl (by first | exact Or.inl rfl | exact Or.inr rfl)) (pgs_cons (pg_name (i := 2) sc_check_picture.nd rfl (by first | exact Or.inl rfl | exact Or.inr rfl)) (pgs_cons (pg_name (i := 3) sc_check_picture.nd rfl (by first | exact Or.inl rfl | exact Or.inr rfl)) (pgs_cons (pg_name (i := 4) sc_check_picture.nd rfl (by first | exact Or.inl rfl | exact Or.inr rfl)) pgs_nil))))))
      (pss_cons (ps_if (pt_not (pt_val (pe_call D_is_number.ok (hr.mono (by decide)) rfl D_is_number.mgf D_is_number.kp D_is_number.b .nil pass0 (pa_cons (pv 1) (pa_cons pe_int (pa_cons (pe_glob (v := .int 12) rfl T.PICTURE_SIDE_MOST_.choose_spec ⟨_, rfl⟩) pa_nil))))))
        (pss_one ps_never)
        pss_nil)
      (pss_cons (ps_if (pt_not (pt_val (pe_call D_is_number.ok (hr.mono (by decide)) rfl D_is_number.mgf D_is_number.kp D_is_number.b .nil pass0 (pa_cons (pv 2) (pa_cons pe_int (pa_cons (pe_glob (v := .int 12) rfl T.PICTURE_SIDE_MOST_.choose_spec ⟨_, rfl⟩) pa_nil))))))
        (pss_one ps_never)
        pss_nil)
      (pss_cons (ps_if (pt_not (pt_val (pe_call D_are_numbers.ok (hr.mono (by decide)) rfl D_are_numbers.mgf D_are_numbers.kp D_are_numbers.b .nil pass0 (pa_cons (pv 3) (pa_cons (pe_op op_mul (pv 1) (pv 2)) (pa_cons (pe_glob (v := .int 255) rfl T.VALUE_MOST_.choose_spec ⟨_, rfl⟩) pa_nil))))))
        (pss_one ps_never)
        pss_nil)
      (pss_one (ps_if (pt_not (pt_val (pe_call D_are_numbers.ok (hr.mono (by decide)) rfl D_are_numbers.mgf D_are_numbers.kp D_are_numbers.b .nil pass0 (pa_cons (pv 4) (pa_cons (pe_op op_mul (pv 1) (pv 2)) (pa_cons (pe_glob (v := .int 256) rfl T.COVER_MOST_.choose_spec ⟨_, rfl⟩) pa_nil))))))
        (pss_one ps_never)
        pss_nil))))))), ?_⟩
    have kn := Kn.tup hp
    have := k.area
    have e0 : numIn 1 12 (.int p.w) = true := by
      show (decide (1 ≤ p.w) && decide (p.w ≤ 12)) = true
      rw [decide_eq_true k.w1, decide_eq_true k.w2]
      rfl
    have e1 : numIn 1 12 (.int p.h) = true := by
      show (decide (1 ≤ p.h) && decide (p.h ≤ 12)) = true
      rw [decide_eq_true k.h1, decide_eq_true k.h2]
      rfl
    refine ⟨_, rfl, _, _, _, _, _, rfl, .ty _, kn.ty, kit_ty (kit_tuple kn), _, rfl, ?_⟩
    refine iteF ?_
    refine ⟨_, rfl, a, _, rfl, .inr (SqT.of hp), rfl, _, rfl, ?_⟩
    refine iteF ?_
    refine ⟨_, rfl, a, _, rfl, SqT.of hp, rfl, _, _, rfl, _, _, rfl, _, _, rfl, _, _, rfl, rfl, ?_⟩
    refine ⟨_, rfl, _, _, _, _, rfl, .int _, _, rfl, ?_⟩
    rw [e0]
    refine iteF ?_
    refine ⟨_, rfl, _, _, _, _, rfl, .int _, _, rfl, ?_⟩
    rw [e1]
    refine iteF ?_
    refine ⟨_, rfl, _, rfl, _, rfl, _, _, rfl, rfl, .inl ⟨by have := k.w1; omega, by have := k.w2; omega⟩, _, _, _, rfl, itm_ints hva (by have := k.vl; omega), fun H1 x1 => ⟨_, rfl, ?_⟩⟩
    rw [nums_ints hva k.vl k.vb]
    refine iteF ?_
    refine ⟨_, rfl, _, rfl, _, rfl, _, _, rfl, rfl, .inl ⟨by have := k.w1; omega, by have := k.w2; omega⟩, _, _, _, rfl, itm_ints (x1 _ _ hca) (by have := k.cl; omega), fun H2 x2 => ⟨_, rfl, ?_⟩⟩
    rw [nums_ints (x1 _ _ hca) k.cl k.cb]
    refine iteF ?_
    exact q _ (x1.trans x2)
abbrev s_has_form_paints : Stmt := top 32
theorem sc_has_form_paints : FnScope ["paint", "value", "first", "second", "size", "are_values"] ["paint"] (defScope s_has_form_paints) := ⟨rfl, rfl, rfl, by decide +kernel, rfl, by decide +kernel, by decide +kernel⟩
/-- the items of a paint's tuple, whatever stands there as its picture -/
def formB : List V → Bool
  | [w, x] => if isW "solid" w then numIn 0 255 x else isW "picture" w
  | [w, a, b, c] => if isW "steps" w then (numIn 0 255 a && numIn 0 255 b) && numIn 1 12 c else false
  | _ => false
def formV (H : Hp) : V → Bool
  | .ref a => match H a with
    | some (.tup xs) => formB xs
    | _ => false
  | _ => false
theorem formV_tup {H : Hp} {a : Addr} {xs : List V} (h : H a = some (.tup xs)) : formV H (.ref a) = formB xs := by
  simp only [formV, h]
theorem formV_no {H : Hp} {v : V} {T : String} (k : Kn H v T) (h : isA T "tuple" = false) : formV H v = false := by
  cases k with
  | tup h1 => exact absurd h (by decide +kernel)
  | lst h1 => simp only [formV, h1]
  | _ => rfl
def spFormP (K : PySem.W.Frag) : Sp := fun vs H Q _ => ∃ v m, vs = [v] ∧ Deep m 1 H v ∧ Q (.bl (formV H v)) H
theorem ok_has_form_paints {f : Addr} {fd : FuncData} (F : Fun K "_has_form" "_has_form" s_has_form_paints f fd) (T : Txt K mg) (D_is_number : Def P w K mg base CX0 "is_number" 2 ["value", "least", "most"] spNumber) : FnOk P w K mg base CX0 3 f fd ["paint"] (spFormP K) := by
  refine F.ok sc_has_form_paints (fun vs H Q E h => ?_) (fun cdv A outer s H vs Q E hr h => ?_)
  · obtain ⟨v, m, rfl, _⟩ := h
    rfl
  · obtain ⟨v, m, rfl, dp, q⟩ := h
    obtain ⟨T', kn⟩ := dp.kn
    refine ⟨_, (pss_cons (ps_if (pt_not (pt_val (pe_callB (kisi K) (by rfl) T.isinstance_ bt_isinstance (pa_cons (pv 0) (pa_cons (pe_bltn (v := .ty "tuple") (by rfl) T.tuple_ bt_tuple rfl) pa_nil)))))
        (pss_one (ps_ret pe_bl))
        pss_nil)
      (pss_one (ps_match (pv 0) (pcs_seq K rfl sc_has_form_paints.nd (pms_word hr.units (pms_cap (i := 1) rfl (by first | exact Or.inl rfl | exact Or.inr rfl) pms_nil))
          (pss_one (ps_ret (pe_call D_is_number.ok (hr.mono (by decide)) rfl D_is_number.mgf D_is_number.kp D_is_number.b .nil pass0 (pa_cons (pv 1) (pa_cons pe_int (pa_cons (pe_glob (v := .int 255) rfl T.VALUE_MOST_.choose_spec ⟨_, rfl⟩) pa_nil))))))
          (pcs_seq K rfl sc_has_form_paints.nd (pms_word hr.units (pms_wild pms_nil))
          (pss_one (ps_ret pe_bl))
          (pcs_seq K rfl sc_has_form_paints.nd (pms_word hr.units (pms_cap (i := 2) rfl (by first | exact Or.inl rfl | exact Or.inr rfl) (pms_cap (i := 3) rfl (by first | exact Or.inl rfl | exact Or.inr rfl) (pms_cap (i := 4) rfl (by first | exact Or.inl rfl | exact Or.inr rfl) pms_nil))))
          (pss_cons (ps_set (i := 5) sc_has_form_paints.nd rfl (by first | exact Or.inl rfl | exact Or.inr rfl) (pe_and (pe_call D_is_number.ok (hr.mono (by decide)) rfl D_is_number.mgf D_is_number.kp D_is_number.b .nil pass0 (pa_cons (pv 2) (pa_cons pe_int (pa_cons (pe_glob (v := .int 255) rfl T.VALUE_MOST_.choose_spec ⟨_, rfl⟩) pa_nil)))) (pe_one (pe_call D_is_number.ok (hr.mono (by decide)) rfl D_is_number.mgf D_is_number.kp D_is_number.b .nil pass0 (pa_cons (pv 3) (pa_cons pe_int (pa_cons (pe_glob (v := .int 255) rfl T.VALUE_MOST_.choose_spec ⟨_, rfl⟩) pa_nil)))))))
          (pss_one (ps_ret (pe_and (pv 5) (pe_one (pe_call D_is_number.ok (hr.mono (by decide)) rfl D_is_number.mgf D_is_number.kp D_is_number.b .nil pass0 (pa_cons (pv 4) (pa_cons pe_int (pa_cons (pe_glob (v := .int 12) rfl T.STEP_MOST_.choose_spec ⟨_, rfl⟩) pa_nil)))))))))
          (pcs_else (pss_one (ps_ret pe_bl))))))))), ?_⟩
    refine ⟨v, rfl, v, _, _, _, _, rfl, .ty _, kn.ty, kit_ty (kit_tuple kn), _, rfl, ?_⟩
    cases ct : isA T' "tuple" with
    | false =>
      rw [formV_no kn ct] at q
      exact iteT q
    | true =>
      obtain ⟨a, xs, rfl, ha⟩ := kn.asTup ct
      rw [formV_tup ha] at q
      refine iteF ?_
      have px := (dp.at ha).2
      refine ⟨_, rfl, a, xs, rfl, SqT.of ha, ?_⟩
      match xs, ha, px, q with
      | [w, x], ha, px, q =>
        obtain ⟨T0, k0⟩ := px w (by simp)
        obtain ⟨T1, k1⟩ := px x (by simp)
        refine lenY rfl ?_
        refine ⟨w, _, T0, rfl, k0, ?_⟩
        cases c : isW "solid" w with
        | true =>
          refine iteT ?_
          refine ⟨x, _, rfl, rfl, ?_⟩
          refine ⟨_, rfl, x, 0, 255, T1, rfl, k1, ?_⟩
          simp only [formB, c, if_true] at q
          exact q
        | false =>
          simp only [formB, c] at q
          refine iteF ?_
          refine ⟨a, _, rfl, SqT.of ha, lenY rfl ?_⟩
          refine ⟨w, _, T0, rfl, k0, ?_⟩
          cases c2 : isW "picture" w with
          | true =>
            rw [c2] at q
            refine iteT ?_
            exact ⟨x, _, rfl, rfl, q⟩
          | false =>
            rw [c2] at q
            refine iteF ?_
            exact ⟨a, _, rfl, SqT.of ha, lenN (by show 2 ≠ 4; decide) q⟩
      | [w, x, y, z], ha, px, q =>
        obtain ⟨T0, k0⟩ := px w (by simp)
        obtain ⟨T1, k1⟩ := px x (by simp)
        obtain ⟨T2, k2⟩ := px y (by simp)
        obtain ⟨T3, k3⟩ := px z (by simp)
        refine lenN (by show 4 ≠ 2; decide) ?_
        refine ⟨a, _, rfl, SqT.of ha, lenN (by show 4 ≠ 2; decide) ?_⟩
        refine ⟨a, _, rfl, SqT.of ha, lenY rfl ?_⟩
        refine ⟨w, _, T0, rfl, k0, ?_⟩
        cases c : isW "steps" w with
        | true =>
          simp only [formB, c, if_true] at q
          refine iteT ?_
          refine ⟨x, _, rfl, y, _, rfl, z, _, rfl, rfl, ?_⟩
          refine ⟨_, rfl, x, 0, 255, T1, rfl, k1, _, rfl, ?_⟩
          cases c1 : numIn 0 255 x with
          | false =>
            rw [c1, Bool.false_and, Bool.false_and] at q
            exact iteF ⟨_, rfl, _, rfl, iteF q⟩
          | true =>
            rw [c1, Bool.true_and] at q
            refine iteT ?_
            refine ⟨_, rfl, y, 0, 255, T2, rfl, k2, ?_⟩
            cases c2 : numIn 0 255 y with
            | false =>
              rw [c2, Bool.false_and] at q
              exact ⟨_, rfl, _, rfl, iteF q⟩
            | true =>
              rw [c2, Bool.true_and] at q
              refine ⟨_, rfl, _, rfl, iteT ?_⟩
              exact ⟨_, rfl, z, 1, 12, T3, rfl, k3, q⟩
        | false =>
          simp only [formB, c] at q
          refine iteF ?_
          exact q
      | [], ha, px, q =>
        exact lenN (by simp only [List.length_cons, List.length_nil]; omega) ⟨a, _, rfl, SqT.of ha, lenN (by simp only [List.length_cons, List.length_nil]; omega) ⟨a, _, rfl, SqT.of ha, lenN (by simp only [List.length_cons, List.length_nil]; omega) q⟩⟩
      | [_], ha, px, q =>
        exact lenN (by simp only [List.length_cons, List.length_nil]; omega) ⟨a, _, rfl, SqT.of ha, lenN (by simp only [List.length_cons, List.length_nil]; omega) ⟨a, _, rfl, SqT.of ha, lenN (by simp only [List.length_cons, List.length_nil]; omega) q⟩⟩
      | [_, _, _], ha, px, q =>
        exact lenN (by simp only [List.length_cons, List.length_nil]; omega) ⟨a, _, rfl, SqT.of ha, lenN (by simp only [List.length_cons, List.length_nil]; omega) ⟨a, _, rfl, SqT.of ha, lenN (by simp only [List.length_cons, List.length_nil]; omega) q⟩⟩
      | _ :: _ :: _ :: _ :: _ :: _, ha, px, q =>
        exact lenN (by simp only [List.length_cons, List.length_nil]; omega) ⟨a, _, rfl, SqT.of ha, lenN (by simp only [List.length_cons, List.length_nil]; omega) ⟨a, _, rfl, SqT.of ha, lenN (by simp only [List.length_cons, List.length_nil]; omega) q⟩⟩
abbrev s_check_paint : Stmt := top 30
theorem sc_check_paint : FnScope ["paint"] ["paint"] (defScope s_check_paint) := ⟨rfl, rfl, rfl, by decide +kernel, rfl, by decide +kernel, by decide +kernel⟩
theorem pa_deep {H : Hp} {v : V} {p : Pa} (h : PaV H v p) : Deep 4 1 H v := by
  cases p with
  | solid x =>
    obtain ⟨a, rfl, ha⟩ := h
    refine .tup ha (by show 2 ≤ 4; omega) fun y hy => ?_
    simp only [List.mem_cons, List.not_mem_nil, or_false] at hy
    rcases hy with rfl | rfl
    · exact .str
    · exact .int
  | steps f s z =>
    obtain ⟨a, rfl, ha⟩ := h
    refine .tup ha (by show 4 ≤ 4; omega) fun y hy => ?_
    simp only [List.mem_cons, List.not_mem_nil, or_false] at hy
    rcases hy with rfl | rfl | rfl | rfl
    · exact .str
    · exact .int
    · exact .int
    · exact .int
  | pic p =>
    obtain ⟨a, u, rfl, ha, b, va, ca, rfl, hb, _⟩ := h
    refine .tup ha (by show 2 ≤ 4; omega) fun y hy => ?_
    simp only [List.mem_cons, List.not_mem_nil, or_false] at hy
    rcases hy with rfl | rfl
    · exact .str
    · exact ⟨_, .tup hb⟩
theorem pa_form {H : Hp} {v : V} {p : Pa} {m : Int} (h : PaV H v p) (k : p.Ok m) : formV H v = true := by
  have e : ∀ (lo hi i : Int), numIn lo hi (.int i) = (decide (lo ≤ i) && decide (i ≤ hi)) := fun _ _ _ => rfl
  cases p with
  | solid x =>
    obtain ⟨a, rfl, ha⟩ := h
    rw [formV_tup ha]
    show (if isW "solid" (.str "solid") = true then numIn 0 255 (.int x) else isW "picture" (.str "solid")) = true
    rw [show isW "solid" (.str "solid") = true from by decide +kernel, if_pos rfl, e, decide_eq_true k.1, decide_eq_true k.2]
    rfl
  | steps f s z =>
    obtain ⟨a, rfl, ha⟩ := h
    obtain ⟨k1, k2, k3, k4, k5, k6⟩ := k
    rw [formV_tup ha]
    show (if isW "steps" (.str "steps") = true then (numIn 0 255 (.int f) && numIn 0 255 (.int s)) && numIn 1 12 (.int z) else false) = true
    rw [show isW "steps" (.str "steps") = true from by decide +kernel, if_pos rfl, e, e, e, decide_eq_true k1, decide_eq_true k2, decide_eq_true k3, decide_eq_true k4, decide_eq_true k5, decide_eq_true k6]
    rfl
  | pic p =>
    obtain ⟨a, u, rfl, ha, hu⟩ := h
    rw [formV_tup ha]
    show (if isW "solid" (.str "picture") = true then numIn 0 255 u else isW "picture" (.str "picture")) = true
    rw [show isW "solid" (.str "picture") = false from by decide +kernel, if_neg (by decide), show isW "picture" (.str "picture") = true from by decide +kernel]
def spGoodP : Sp := fun vs H Q _ => ∃ v p, vs = [v] ∧ PaV H v p ∧ p.Ok 12 ∧ ∀ H', Ex H H' → Q .non H'
theorem ok_check_paint {f : Addr} {fd : FuncData} (F : Fun K "check_paint" "check_paint" s_check_paint f fd) (T : Txt K mg) (D_has_form_paints : Def P w K mg base CX0 "has_form_paints" 3 ["paint"] (spFormP K)) (D_check_picture : Def P w K mg base CX0 "check_picture" 4 ["picture"] (spCheck K)) : FnOk P w K mg base CX0 5 f fd ["paint"] spGoodP := by
  refine F.ok sc_check_paint (fun vs H Q E h => ?_) (fun cdv A outer s H vs Q E hr h => ?_)
  · obtain ⟨v, p, rfl, _⟩ := h
    rfl
  · obtain ⟨v, p, rfl, hp, k, q⟩ := h
    refine ⟨_, (pss_cons (ps_if (pt_not (pt_val (pe_call D_has_form_paints.ok (hr.mono (by decide)) rfl D_has_form_paints.mgf D_has_form_paints.kp D_has_form_paints.b .nil pass0 (pa_cons (pv 0) pa_nil))))
        (pss_one ps_never)
        pss_nil)
      (pss_one (ps_if (pt_cmpR op_eq (pe_ix (kixT K) (pv 0) pe_int (fun _ _ => rfl)) pe_str (nomark _))
        (pss_one (ps_expr (pe_call D_check_picture.ok (hr.mono (by decide)) rfl D_check_picture.mgf D_check_picture.kp D_check_picture.b .nil pass0 (pa_cons (pe_ix (kixT K) (pv 0) pe_int (fun _ _ => rfl)) pa_nil))))
        pss_nil))), ?_⟩
    refine ⟨_, rfl, v, 4, rfl, pa_deep hp, _, rfl, ?_⟩
    rw [pa_form hp k]
    refine iteF ?_
    cases p with
    | solid x =>
      obtain ⟨a, rfl, ha⟩ := hp
      refine ⟨_, rfl, a, _, 0, _, rfl, rfl, SqT.of ha, rfl, rfl, _, rfl, ?_⟩
      exact iteW (by decide +kernel) (q _ (Ex.refl _))
    | steps f s z =>
      obtain ⟨a, rfl, ha⟩ := hp
      refine ⟨_, rfl, a, _, 0, _, rfl, rfl, SqT.of ha, rfl, rfl, _, rfl, ?_⟩
      exact iteW (by decide +kernel) (q _ (Ex.refl _))
    | pic p =>
      obtain ⟨a, u, rfl, ha, hu⟩ := hp
      refine ⟨_, rfl, a, _, 0, _, rfl, rfl, SqT.of ha, rfl, rfl, _, rfl, ?_⟩
      refine iteE (by decide +kernel) ?_
      exact ⟨_, rfl, a, _, 1, _, rfl, rfl, SqT.of ha, rfl, u, p, rfl, hu, k, fun H' e => q H' e⟩
abbrev s_end_of : Stmt := top 44
theorem sc_end_of : FnScope ["clip"] ["clip"] (defScope s_end_of) := ⟨rfl, rfl, rfl, by decide +kernel, rfl, by decide +kernel, by decide +kernel⟩
theorem ok_end_of {f : Addr} {fd : FuncData} (F : Fun K "end_of" "end_of" s_end_of f fd) (T : Txt K mg) : FnOk P w K mg base CX0 1 f fd ["clip"] (spEnd K) := by
  refine F.ok sc_end_of (fun vs H Q E h => ?_) (fun cdv A outer s H vs Q E hr h => ?_)
  · obtain ⟨cv, c, rfl, _⟩ := h
    rfl
  · obtain ⟨cv, c, rfl, ⟨a, u, rfl, ha, hu⟩, q⟩ := h
    refine ⟨_, (pss_one (ps_ret (pe_op op_add (pe_ix (kixT K) (pv 0) pe_int (fun _ _ => rfl)) (pe_ix (kixT K) (pv 0) pe_int (fun _ _ => rfl))))), ?_⟩
    exact ⟨_, rfl, a, _, _, _, rfl, rfl, SqT.of ha, rfl, _, rfl, a, _, _, _, rfl, rfl, SqT.of ha, rfl, _, _, rfl, rfl, q⟩
abbrev s_is_name : Stmt := top 29
theorem sc_is_name : FnScope ["value", "letter"] ["value"] (defScope s_is_name) := ⟨rfl, rfl, rfl, by decide +kernel, rfl, by decide +kernel, by decide +kernel⟩
def spIsName : Sp := fun vs H Q _ => ∃ v T, vs = [v] ∧ Kn H v T ∧ (∀ z, v = .str z → z.length ≤ 1000) ∧ ∀ H', Ex H H' → Q (.bl (nameV v)) H'
theorem ok_is_name {f : Addr} {fd : FuncData} (F : Fun K "is_name" "is_name" s_is_name f fd) (T : Txt K mg) : FnOk P w K mg base CX0 1 f fd ["value"] spIsName := by
  refine F.ok sc_is_name (fun vs H Q E h => ?_) (fun cdv A outer s H vs Q E hr h => ?_)
  · obtain ⟨v, T, rfl, _⟩ := h
    rfl
  · obtain ⟨v, T', rfl, kn, hz, q⟩ := h
    refine ⟨_, (pss_cons (ps_if (PW.pt (pw_or (pt_not (pt_val (pe_callB (kisi K) (by rfl) T.isinstance_ bt_isinstance (pa_cons (pv 0) (pa_cons (pe_bltn (v := .ty "str") (by rfl) T.str_ bt_str rfl) pa_nil))))) (pw_or1 (pt_not (pt_chain op_le op_le pe_int (pe_callB call_len_str (by rfl) T.len_ PySem.boot_len (pa_cons (pv 0) pa_nil)) (pe_glob (v := .int 8) rfl T.NAME_MOST_.choose_spec ⟨_, rfl⟩))))))
        (pss_one (ps_ret pe_bl))
        pss_nil)
      (pss_one (ps_ret (pe_callB (kall K rfl) (by rfl) T.all_ bt_all (pa_cons (pe_lc (own := [("letter", 1)]) (tt := tYes) rfl sc_is_name.nd (pi_str (pv 0)) (blkOk_by (N := ["value", "letter"]) (sc := defScope s_is_name) (by decide +kernel)) (fun _ _ _ _ _ => (pg_name (i := 1) sc_is_name.nd rfl (by first | exact Or.inl rfl | exact Or.inr rfl))) (fun _ _ _ _ _ => pts_nil) (fun _ _ _ _ _ => (pe_cmpR op_in_sign (pv 1) (pe_glob (v := .str "abcdefghijklmnopqrstuvwxyz") rfl T.LETTERS_.choose_spec ⟨_, rfl⟩) (by rfl)))) pa_nil))))), ?_⟩
    refine ⟨v, rfl, v, _, _, _, _, rfl, .ty _, kn.ty, kit_ty (kit_str kn), _, rfl, ?_⟩
    cases ct : isA T' "str" with
    | false =>
      have e : nameV v = false := by
        cases kn with
        | str x => exact absurd ct (by decide +kernel)
        | _ => rfl
      rw [e] at q
      exact iteT (iteT (q _ (Ex.refl _)))
    | true =>
      obtain ⟨z, rfl⟩ : ∃ z, v = .str z := by
        cases kn with
        | str x => exact ⟨_, rfl⟩
        | non => exact absurd ct (by decide +kernel)
        | bl b => exact absurd ct (by decide +kernel)
        | int i => exact absurd ct (by decide +kernel)
        | tup h => exact absurd ct (by decide +kernel)
        | lst h => exact absurd ct (by decide +kernel)
      have hz := hz z rfl
      refine iteF ?_
      refine ⟨_, rfl, z, rfl, Nat.le_of_lt (slineL (by omega)), _, _, rfl, rfl, _, rfl, ?_⟩
      have e : nameV (.str z) = ((decide (1 ≤ (z.length : Int)) && decide ((z.length : Int) ≤ 8)) && z.cps.toList.all fun c => decide (c ∈ letters)) := rfl
      rw [e] at q
      cases c1 : decide (1 ≤ (z.length : Int)) with
      | false =>
        rw [c1] at q
        exact iteF ⟨_, rfl, iteT (q _ (Ex.refl _))⟩
      | true =>
        rw [c1, Bool.true_and] at q
        refine iteT ?_
        refine ⟨_, _, rfl, rfl, ?_⟩
        by_cases e8 : (z.length : Int) ≤ 8
        · rw [decide_eq_true e8, Bool.true_and] at q
          refine ⟨_, rfl, iteDn e8 ?_⟩
          refine ⟨_, rfl, z, rfl, fun D hD => ?_⟩
          refine lc_it (walk_str (z := z)) (fun i H' => Ex H H' ∧ H' D = some (.lst (((z.cps.toList.take i).map fun c => decide (c ∈ letters)).map V.bl))) ⟨Ex.new hD, upd_same⟩ (fun _ _ _ _ => trivial) ?_ ?_
          · rintro i x H1 H' hi ⟨e, hA⟩ ⟨rfl, c, hc, rfl⟩
            refine ⟨rfl, ?_⟩
            refine lcY ?_
            refine ⟨_, rfl, c, _, rfl, rfl, ?_⟩
            have hl : (z.cps.toList.take i).length ≤ 8 := by
              have : z.cps.toList.length = z.length := Array.length_toList
              rw [List.length_take]
              omega
            refine ⟨_, hA, slineL (by rw [List.length_map, List.length_map]; omega), e.mut hD, ?_⟩
            have hc' : z.cps.toList[i]? = some c := by rw [Array.getElem?_toList]; exact hc
            rw [upd_same, List.take_add_one, hc']
            rw [List.map_append, List.map_append]
            rfl
          · rintro H' ⟨e, hA⟩
            have len : z.cps.toList.length = z.cps.size := Array.length_toList
            rw [← len, List.take_length] at hA
            refine ⟨D, _, rfl, SqL.of hA, ?_⟩
            rw [List.all_map]
            exact q _ e
        · rw [decide_eq_false e8] at q
          exact ⟨_, rfl, iteNn e8 (q _ (Ex.refl _))⟩
abbrev s_check_clips : Stmt := top 40
theorem sc_check_clips : FnScope ["clips", "adjusts", "free", "place", "clip"] ["clips", "adjusts"] (defScope s_check_clips) := ⟨rfl, rfl, rfl, by decide +kernel, rfl, by decide +kernel, by decide +kernel⟩
def spClipsVd : Sp := fun vs H Q _ => ∃ (a : Addr) (us : List V) (cs : List Cl) (ad : Bool), vs = [.ref a, .bl ad] ∧ H a = some (.tup us) ∧ ClsV H us cs ∧ ClsVd ad cs ∧ ∀ H', Ex H H' → Q .non H'
theorem ok_check_clips {f : Addr} {fd : FuncData} (F : Fun K "check_clips" "check_clips" s_check_clips f fd) (T : Txt K mg) (D_has_form_clips : Def P w K mg base CX0 "has_form_clips" 3 ["clip"] spFormCV) (D_is_bare : Def P w K mg base CX0 "_is_bare" 1 ["clip"] spBareV)
    (D_check_paint : Def P w K mg base CX0 "check_paint" 5 ["paint"] spGoodP) (D_end_of : Def P w K mg base CX0 "end_of" 1 ["clip"] (spEnd K)) : FnOk P w K mg base CX0 6 f fd ["clips", "adjusts"] spClipsVd := by
  refine F.ok sc_check_clips (fun vs H Q E h => ?_) (fun cdv A outer s H vs Q E hr h => ?_)
  · obtain ⟨a, us, cs, ad, rfl, _⟩ := h
    rfl
  · obtain ⟨a, us, cs, ad, rfl, ha, hC, k, q⟩ := h
    have lu := hC.length
    have lc := k.len
    refine ⟨_, (pss_cons (ps_if (PW.pt (pw_or (pt_not (pt_val (pe_callB (kisi K) (by rfl) T.isinstance_ bt_isinstance (pa_cons (pv 0) (pa_cons (pe_bltn (v := .ty "tuple") (by rfl) T.tuple_ bt_tuple rfl) pa_nil))))) (pw_or1 (pt_cmpR op_gt (pe_callB (klen K) (by rfl) T.len_ PySem.boot_len (pa_cons (pv 0) pa_nil)) (pe_glob (v := .int 64) rfl T.CLIPS_MOST_.choose_spec ⟨_, rfl⟩) (nomark _)))))
        (pss_one ps_never)
        pss_nil)
      (pss_cons (ps_set (i := 2) sc_check_clips.nd rfl (by first | exact Or.inl rfl | exact Or.inr rfl) pe_int)
      (pss_one (ps_for PassesOwn.never rfl (kpiET K (by rfl) T.enumerate_ (pa_cons (pv 0) pa_nil)) (kpgT K (n := 2) rfl (pgs_cons (pg_name (i := 3) sc_check_clips.nd rfl (by first | exact Or.inl rfl | exact Or.inr rfl)) (pgs_cons (pg_name (i := 4) sc_check_clips.nd rfl (by first | exact Or.inl rfl | exact Or.inr rfl)) pgs_nil)))
        (pss_cons (ps_if (PW.pt (pw_or (pt_not (pt_val (pe_call D_has_form_clips.ok (hr.mono (by decide)) rfl D_has_form_clips.mgf D_has_form_clips.kp D_has_form_clips.b .nil pass0 (pa_cons (pv 4) pa_nil)))) (pw_or1 (PW.pt (pw_and (pt_val (pv 1)) (pw_and1 (pt_not (pt_val (pe_call D_is_bare.ok (hr.mono (by decide)) rfl D_is_bare.mgf D_is_bare.kp D_is_bare.b .nil pass0 (pa_cons (pv 4) pa_nil))))))))))
          (pss_one ps_never)
          pss_nil)
        (pss_cut (ps_if (pt_not (pt_val (pv 1)))
          (pss_one (ps_expr (pe_call D_check_paint.ok (hr.mono (by decide)) rfl D_check_paint.mgf D_check_paint.kp D_check_paint.b .nil pass0 (pa_cons (pe_ix (kixT K) (pv 4) pe_int (fun _ _ => rfl)) pa_nil))))
          pss_nil)
        (pss_cons (ps_if (pt_cmpR op_lt (pe_ix (kixT K) (pv 4) pe_int (fun _ _ => rfl)) (pv 2) (nomark _))
          (pss_one ps_never)
          pss_nil)
        (pss_one (ps_set (i := 2) sc_check_clips.nd rfl (by first | exact Or.inl rfl | exact Or.inr rfl) (pe_call D_end_of.ok (hr.mono (by decide)) rfl D_end_of.mgf D_end_of.kp D_end_of.b .nil pass0 (pa_cons (pv 4) pa_nil))))))))))), ?_⟩
    refine ⟨_, rfl, _, _, _, _, _, rfl, .ty _, (Kn.tup ha).ty, kit_ty (kit_tuple (Kn.tup ha)), _, rfl, ?_⟩
    refine iteF ?_
    refine ⟨_, rfl, a, us, rfl, .inr (SqT.of ha), _, _, rfl, rfl, _, rfl, ?_⟩
    rw [decide_eq_false (show ¬ (64 : Int) < us.length by omega)]
    refine iteF ?_
    refine ⟨_, rfl, a, us, rfl, SqT.of ha, ?_⟩
    refine for_ET (xs := us) (fun i σ H' => Ex H H' ∧ ∃ (lo : Int) (x y : Option V), σ = [some (.ref a), some (.bl ad), some (.int lo), x, y] ∧ ∀ c, cs[i]? = some c → lo ≤ c.s) ⟨Ex.refl _, 0, _, _, rfl, fun c hc => (k.ok c (List.mem_of_getElem? hc)).s0⟩ (fun i σ H' _ p => SqT.of (p.1 _ _ ha)) ?_ ?_
    · rintro i v σ H1 t hv ⟨e1, lo, x, y, rfl, hlo⟩ ht
      obtain ⟨c, hc, hcv⟩ := pr_get hC hv
      have hcm := List.mem_of_getElem? hc
      have f1 := Ex.new (o := .tup [.int (i : Nat), v]) ht
      have k1 : upd H1 t (.tup [.int (i : Nat), v]) t = some (.tup [.int (i : Nat), v]) := upd_same
      generalize upd H1 t (.tup [.int (i : Nat), v]) = H2 at f1 k1 ⊢
      have e2 := e1.trans f1
      have hcv := hcv.tk (TK.ex e2)
      refine ⟨t, _, rfl, SqT.of k1, rfl, _, _, rfl, _, _, rfl, rfl, ?_⟩
      refine ⟨_, rfl, v, c, rfl, hcv, k.ok c hcm, _, rfl, ?_⟩
      refine iteF ?_
      obtain ⟨ca, u, rfl, hca, hu⟩ := id hcv
      have nxt : ∀ d, cs[i + 1]? = some d → c.fin ≤ d.s := fun d hd => by
        have h1 := List.getElem?_eq_some_iff.mp hc
        have h2 := List.getElem?_eq_some_iff.mp hd
        have := List.pairwise_iff_getElem.mp k.ap i (i + 1) h1.1 h2.1 (Nat.lt_succ_self i)
        rw [h1.2, h2.2] at this
        exact this
      cases ad with
      | true =>
        obtain ⟨b1, b2, b3⟩ := (k.adj c hcm).1 rfl
        refine ⟨_, rfl, _, rfl, iteT ?_⟩
        refine ⟨_, rfl, .ref ca, c, rfl, hcv, b1, b2, b3, _, rfl, ?_⟩
        refine iteF ?_
        refine ⟨fun σ' H' => σ' = [some (.ref a), some (.bl true), some (.int lo), some (.int (i : Nat)), some (.ref ca)] ∧ Ex H2 H', ⟨_, rfl, _, rfl, iteF ⟨rfl, Ex.refl _⟩⟩, ?_⟩
        rintro σ' H3 ⟨rfl, e23⟩
        have hca3 := e23 _ _ hca
        refine ⟨_, rfl, ca, _, 0, _, rfl, rfl, SqT.of hca3, rfl, _, rfl, _, _, rfl, rfl, _, rfl, ?_⟩
        rw [decide_eq_false (show ¬ c.s < lo by have := hlo c hc; omega)]
        refine iteF ?_
        exact ⟨_, rfl, .ref ca, c, rfl, hcv.tk (TK.ex e23), e2.trans e23, c.fin, _, _, rfl, nxt⟩
      | false =>
        obtain ⟨p, hp⟩ := (k.adj c hcm).2 rfl
        have kp := (k.ok c hcm).pa
        rw [hp] at kp
        have hu' := hu
        rw [hp] at hu'
        refine ⟨_, rfl, _, rfl, iteF ?_⟩
        refine ⟨fun σ' H' => σ' = [some (.ref a), some (.bl false), some (.int lo), some (.int (i : Nat)), some (.ref ca)] ∧ Ex H2 H', ⟨_, rfl, _, rfl, iteT ⟨_, rfl, ca, _, 2, _, rfl, rfl, SqT.of hca, rfl, u, p, rfl, hu', kp, fun H' e => ⟨rfl, e⟩⟩⟩, ?_⟩
        rintro σ' H3 ⟨rfl, e23⟩
        have hca3 := e23 _ _ hca
        refine ⟨_, rfl, ca, _, 0, _, rfl, rfl, SqT.of hca3, rfl, _, rfl, _, _, rfl, rfl, _, rfl, ?_⟩
        rw [decide_eq_false (show ¬ c.s < lo by have := hlo c hc; omega)]
        refine iteF ?_
        exact ⟨_, rfl, .ref ca, c, rfl, hcv.tk (TK.ex e23), e2.trans e23, c.fin, _, _, rfl, nxt⟩
    · rintro σ H1 ⟨e1, _⟩
      exact q H1 e1
abbrev s_is_box : Stmt := top 67
theorem sc_is_box : FnScope ["value", "are_places", "item"] ["value"] (defScope s_is_box) := ⟨rfl, rfl, rfl, by decide +kernel, rfl, by decide +kernel, by decide +kernel⟩
def spBoxVd : Sp := fun vs H Q _ => ∃ (v : V) (b : Bx), vs = [v] ∧ BxV H v b ∧ b.Vd ∧ ∀ H', Ex H H' → Q (.bl true) H'
theorem ok_is_box {f : Addr} {fd : FuncData} (F : Fun K "_is_box" "_is_box" s_is_box f fd) (T : Txt K mg) (D_is_number : Def P w K mg base CX0 "is_number" 2 ["value", "least", "most"] spNumber) : FnOk P w K mg base CX0 3 f fd ["value"] spBoxVd := by
  refine F.ok sc_is_box (fun vs H Q E h => ?_) (fun cdv A outer s H vs Q E hr h => ?_)
  · obtain ⟨v, b, rfl, _⟩ := h
    rfl
  · obtain ⟨v, b, rfl, ⟨a, rfl, ha⟩, k, q⟩ := h
    refine ⟨_, (pss_cons (ps_if (PW.pt (pw_or (pt_not (pt_val (pe_callB (kisi K) (by rfl) T.isinstance_ bt_isinstance (pa_cons (pv 0) (pa_cons (pe_bltn (v := .ty "tuple") (by rfl) T.tuple_ bt_tuple rfl) pa_nil))))) (pw_or1 (pt_cmpR op_ne (pe_callB (klen K) (by rfl) T.len_ PySem.boot_len (pa_cons (pv 0) pa_nil)) pe_int (nomark _)))))
        (pss_one (ps_ret pe_bl))
        pss_nil)
      (pss_cons (ps_set (i := 1) sc_is_box.nd rfl (by first | exact Or.inl rfl | exact Or.inr rfl) (pe_callB (kall K rfl) (by rfl) T.all_ bt_all (pa_cons (pe_lc (own := [("item", 2)]) (tt := tYes) rfl sc_is_box.nd (kpiT K (pe_slice (kslA K) (pv 0) po_none (po_some pe_int))) (blkOk_by (N := ["value", "are_places", "item"]) (sc := defScope s_is_box) (by decide +kernel)) (fun _ _ _ _ _ => (pg_name (i := 2) sc_is_box.nd rfl (by first | exact Or.inl rfl | exact Or.inr rfl))) (fun _ _ _ _ _ => pts_nil) (fun _ _ _ _ _ => (pe_call D_is_number.ok (hr.mono (by decide)) rfl D_is_number.mgf D_is_number.kp D_is_number.b .nil pass0 (pa_cons (pv 2) (pa_cons (pe_un un_neg (pe_glob (v := .int 1000) rfl T.PLACE_MOST_.choose_spec ⟨_, rfl⟩)) (pa_cons (pe_glob (v := .int 1000) rfl T.PLACE_MOST_.choose_spec ⟨_, rfl⟩) pa_nil)))))) pa_nil)))
      (pss_one (ps_ret (pe_and (pv 1) (pe_one (pe_callB (kall K rfl) (by rfl) T.all_ bt_all (pa_cons (pe_lc (own := [("item", 2)]) (tt := tYes) rfl sc_is_box.nd (kpiT K (pe_slice (kslA K) (pv 0) (po_some pe_int) po_none)) (blkOk_by (N := ["value", "are_places", "item"]) (sc := defScope s_is_box) (by decide +kernel)) (fun _ _ _ _ _ => (pg_name (i := 2) sc_is_box.nd rfl (by first | exact Or.inl rfl | exact Or.inr rfl))) (fun _ _ _ _ _ => pts_nil) (fun _ _ _ _ _ => (pe_call D_is_number.ok (hr.mono (by decide)) rfl D_is_number.mgf D_is_number.kp D_is_number.b .nil pass0 (pa_cons (pv 2) (pa_cons pe_int (pa_cons (pe_glob (v := .int 64) rfl T.SIDE_MOST_.choose_spec ⟨_, rfl⟩) pa_nil)))))) pa_nil)))))))), ?_⟩
    refine ⟨_, rfl, _, _, _, _, _, rfl, .ty _, (Kn.tup ha).ty, kit_ty (kit_tuple (Kn.tup ha)), _, rfl, ?_⟩
    refine iteF ?_
    refine ⟨_, rfl, a, _, rfl, .inr (SqT.of ha), rfl, _, rfl, ?_⟩
    refine iteF ?_
    refine ⟨_, rfl, _, rfl, ?_⟩
    refine slA ha fun t1 H1 e1 ht1 => ?_
    have ht1 : H1 t1 = some (.tup ([b.l, b.t].map V.int)) := ht1
    refine ⟨t1, rfl, ⟨_, SqT.of ht1⟩, fun D hD => ?_⟩
    refine lc_tup (xs := [b.l, b.t].map V.int) (fun i H' => Ex H1 H' ∧ H' D = some (.lst ((List.replicate i true).map V.bl))) ⟨Ex.new hD, upd_same⟩ (fun i H' _ p => SqT.of (p.1 _ _ ht1)) ?_ ?_
    · rintro i uv H' hu ⟨e, hW⟩
      have hi : i < 2 := (List.getElem?_eq_some_iff.mp hu).1
      rw [List.getElem?_map] at hu
      obtain ⟨z, hz, rfl⟩ := Option.map_eq_some_iff.mp hu
      have bz : -1000 ≤ z ∧ z ≤ 1000 := by
        have := List.mem_of_getElem? hz
        simp only [List.mem_cons, List.not_mem_nil, or_false] at this
        rcases this with rfl | rfl
        · exact ⟨k.l0, k.l1⟩
        · exact ⟨k.t0, k.t1⟩
      refine ⟨rfl, ?_⟩
      refine lcY ?_
      refine ⟨_, rfl, _, rfl, .int z, -1000, 1000, _, rfl, .int z, ?_⟩
      rw [num_in bz.1 bz.2]
      refine ⟨_, hW, slineL (by simp only [List.length_map, List.length_replicate]; omega), e.mut hD, ?_⟩
      rw [upd_same, List.replicate_succ', List.map_append]
      rfl
    rintro H2 ⟨e2, hW⟩
    refine ⟨D, _, rfl, SqL.of hW, ?_⟩
    refine ⟨_, rfl, _, rfl, ?_⟩
    refine iteT ?_
    have e12 := e1.trans e2
    refine ⟨_, rfl, _, rfl, ?_⟩
    refine slA (e12 _ _ ha) fun t3 H3 e3 ht3 => ?_
    have ht3 : H3 t3 = some (.tup ([b.w, b.h].map V.int)) := ht3
    refine ⟨t3, rfl, ⟨_, SqT.of ht3⟩, fun D2 hD2 => ?_⟩
    refine lc_tup (xs := [b.w, b.h].map V.int) (fun i H' => Ex H3 H' ∧ H' D2 = some (.lst ((List.replicate i true).map V.bl))) ⟨Ex.new hD2, upd_same⟩ (fun i H' _ p => SqT.of (p.1 _ _ ht3)) ?_ ?_
    · rintro i uv H' hu ⟨e, hW⟩
      have hi : i < 2 := (List.getElem?_eq_some_iff.mp hu).1
      rw [List.getElem?_map] at hu
      obtain ⟨z, hz, rfl⟩ := Option.map_eq_some_iff.mp hu
      have bz : 1 ≤ z ∧ z ≤ 64 := by
        have := List.mem_of_getElem? hz
        simp only [List.mem_cons, List.not_mem_nil, or_false] at this
        rcases this with rfl | rfl
        · exact ⟨k.w0, k.w1⟩
        · exact ⟨k.h0, k.h1⟩
      refine ⟨rfl, ?_⟩
      refine lcY ?_
      refine ⟨_, rfl, .int z, 1, 64, _, rfl, .int z, ?_⟩
      rw [num_in bz.1 bz.2]
      refine ⟨_, hW, slineL (by simp only [List.length_map, List.length_replicate]; omega), e.mut hD2, ?_⟩
      rw [upd_same, List.replicate_succ', List.map_append]
      rfl
    rintro H4 ⟨e4, hW4⟩
    refine ⟨D2, _, rfl, SqL.of hW4, ?_⟩
    exact q H4 ((e12.trans e3).trans e4)
abbrev s_adjusts : Stmt := top 68
theorem sc_adjusts : FnScope ["what"] ["what"] (defScope s_adjusts) := ⟨rfl, rfl, rfl, by decide +kernel, rfl, by decide +kernel, by decide +kernel⟩
def spAdj (K : PySem.W.Frag) : Sp := fun vs H Q _ => ∃ (v : V) (x : Wh), vs = [v] ∧ WhV H v x ∧ Q (.bl x.adj) H
theorem ok_adjusts {f : Addr} {fd : FuncData} (F : Fun K "_adjusts" "_adjusts" s_adjusts f fd) (T : Txt K mg) : FnOk P w K mg base CX0 1 f fd ["what"] (spAdj K) := by
  refine F.ok sc_adjusts (fun vs H Q E h => ?_) (fun cdv A outer s H vs Q E hr h => ?_)
  · obtain ⟨v, x, rfl, _⟩ := h
    rfl
  · obtain ⟨v, x, rfl, ⟨a, rfl, ha⟩, q⟩ := h
    refine ⟨_, (pss_one (ps_ret (pe_cmpR op_ne (pe_ix (kixT K) (pv 0) pe_int (fun _ _ => rfl)) pe_str (nomark _)))), ?_⟩
    refine ⟨_, rfl, a, _, 0, _, rfl, rfl, SqT.of ha, x.at0, rfl, ?_⟩
    rw [← x.adj_eq] at q
    exact q
abbrev s_check_numbers : Stmt := top 65
theorem sc_check_numbers : FnScope ["width", "height", "frames", "background"] ["width", "height", "frames", "background"] (defScope s_check_numbers) := ⟨rfl, rfl, rfl, by decide +kernel, rfl, by decide +kernel, by decide +kernel⟩
def spNumsVd : Sp := fun vs H Q _ => ∃ (x : Fi), vs = [.int x.w, .int x.h, .int x.n, .int x.b] ∧ x.Vd ∧ Q .non H
theorem ok_check_numbers {f : Addr} {fd : FuncData} (F : Fun K "_check_numbers" "_check_numbers" s_check_numbers f fd) (T : Txt K mg) (D_is_number : Def P w K mg base CX0 "is_number" 2 ["value", "least", "most"] spNumber) : FnOk P w K mg base CX0 3 f fd ["width", "height", "frames", "background"] spNumsVd := by
  refine F.ok sc_check_numbers (fun vs H Q E h => ?_) (fun cdv A outer s H vs Q E hr h => ?_)
  · obtain ⟨x, rfl, _⟩ := h
    rfl
  · obtain ⟨x, rfl, k, q⟩ := h
    refine ⟨_, (pss_cons (ps_if (PW.pt (pw_or (pt_not (pt_val (pe_call D_is_number.ok (hr.mono (by decide)) rfl D_is_number.mgf D_is_number.kp D_is_number.b .nil pass0 (pa_cons (pv 0) (pa_cons pe_int (pa_cons (pe_glob (v := .int 64) rfl T.SIDE_MOST_.choose_spec ⟨_, rfl⟩) pa_nil)))))) (pw_or1 (pt_not (pt_val (pe_call D_is_number.ok (hr.mono (by decide)) rfl D_is_number.mgf D_is_number.kp D_is_number.b .nil pass0 (pa_cons (pv 1) (pa_cons pe_int (pa_cons (pe_glob (v := .int 64) rfl T.SIDE_MOST_.choose_spec ⟨_, rfl⟩) pa_nil)))))))))
        (pss_one ps_never)
        pss_nil)
      (pss_cons (ps_if (pt_not (pt_val (pe_call D_is_number.ok (hr.mono (by decide)) rfl D_is_number.mgf D_is_number.kp D_is_number.b .nil pass0 (pa_cons (pv 2) (pa_cons pe_int (pa_cons (pe_glob (v := .int 1000) rfl T.FRAMES_MOST_.choose_spec ⟨_, rfl⟩) pa_nil))))))
        (pss_one ps_never)
        pss_nil)
      (pss_one (ps_if (pt_not (pt_val (pe_call D_is_number.ok (hr.mono (by decide)) rfl D_is_number.mgf D_is_number.kp D_is_number.b .nil pass0 (pa_cons (pv 3) (pa_cons pe_int (pa_cons (pe_glob (v := .int 255) rfl T.VALUE_MOST_.choose_spec ⟨_, rfl⟩) pa_nil))))))
        (pss_one ps_never)
        pss_nil)))), ?_⟩
    refine ⟨_, rfl, _, 1, 64, _, rfl, .int x.w, _, rfl, ?_⟩
    rw [num_in k.w0 k.w1]
    refine iteF ?_
    refine ⟨_, rfl, _, 1, 64, _, rfl, .int x.h, _, rfl, ?_⟩
    rw [num_in k.h0 k.h1]
    refine iteF ?_
    refine ⟨_, rfl, _, 1, 1000, _, rfl, .int x.n, _, rfl, ?_⟩
    rw [num_in k.n0 k.n1]
    refine iteF ?_
    refine ⟨_, rfl, _, 0, 255, _, rfl, .int x.b, _, rfl, ?_⟩
    rw [num_in k.b0 k.b1]
    exact iteF q
abbrev s_check_layer : Stmt := top 66
theorem sc_check_layer : FnScope ["layer", "place", "name", "box", "moves", "what", "clips"] ["layer", "place"] (defScope s_check_layer) := ⟨rfl, rfl, rfl, by decide +kernel, rfl, by decide +kernel, by decide +kernel⟩
def spLayerVd (K : PySem.W.Frag) : Sp := fun vs H Q _ => ∃ (v : V) (l : La) (i : Int), vs = [v, .int i] ∧ LaV H v l ∧ l.Vd ∧ ∀ H', Ex H H' → Q .non H'
theorem ok_check_layer {f : Addr} {fd : FuncData} (F : Fun K "_check_layer" "_check_layer" s_check_layer f fd) (T : Txt K mg) (D_is_name : Def P w K mg base CX0 "is_name" 1 ["value"] spIsName) (D_is_box : Def P w K mg base CX0 "_is_box" 3 ["value"] spBoxVd) (D_check_moves : Def P w K mg base CX0 "check_moves" 5 ["moves"] spMovesV)
    (D_check_what : Def P w K mg base CX0 "check_what" 4 ["what"] spWhatV) (D_check_clips : Def P w K mg base CX0 "check_clips" 6 ["clips", "adjusts"] spClipsVd) (D_adjusts : Def P w K mg base CX0 "_adjusts" 1 ["what"] (spAdj K)) : FnOk P w K mg base CX0 7 f fd ["layer", "place"] (spLayerVd K) := by
  refine F.ok sc_check_layer (fun vs H Q E h => ?_) (fun cdv A outer s H vs Q E hr h => ?_)
  · obtain ⟨v, l, i, rfl, _⟩ := h
    rfl
  · obtain ⟨v, l, i, rfl, hv, k, q⟩ := h
    obtain ⟨a, bv, ma, wv, ca, us, ws, rfl, ha, hb, hma, hM, hw, hca, hC⟩ := id hv
    have nl : l.name.length ≤ 1000 := by
      have := k.name
      unfold nameS at this
      simp only [Bool.and_eq_true, decide_eq_true_eq] at this
      omega
    refine ⟨_, (pss_cons (ps_if (PW.pt (pw_or (pt_not (pt_val (pe_callB (kisi K) (by rfl) T.isinstance_ bt_isinstance (pa_cons (pv 0) (pa_cons (pe_bltn (v := .ty "tuple") (by rfl) T.tuple_ bt_tuple rfl) pa_nil))))) (pw_or1 (pt_cmpR op_ne (pe_callB (klen K) (by rfl) T.len_ PySem.boot_len (pa_cons (pv 0) pa_nil)) pe_int (nomark _)))))
        (pss_one ps_never)
        pss_nil)
      (pss_cons (ps_asg (pv 0) (kpgT K (n := 5) rfl (pgs_cons (pg_name (i := 2) sc_check_layer.nd rfl (by first | exact Or.inl rfl | exact Or.inr rfl)) (pgs_cons (pg_name (i := 3) sc_check_layer.nd rfl (by first | exact Or.inl rfl | exact Or.inr rfl)) (pgs_cons (pg_name (i := 4) sc_check_layer.nd rfl (by first | exact Or.inl rfl | exact Or.inr rfl)) (pgs_cons (pg_name (i := 5) sc_check_layer.nd rfl (by first | exact Or.inl rfl | exact Or.inr rfl)) (pgs_cons (pg_name (i := 6) sc_check_layer.nd rfl (by first | exact Or.inl rfl | exact Or.inr rfl)) pgs_nil)))))))
      (pss_cons (ps_if (PW.pt (pw_or (pt_not (pt_val (pe_call D_is_name.ok (hr.mono (by decide)) rfl D_is_name.mgf D_is_name.kp D_is_name.b .nil pass0 (pa_cons (pv 2) pa_nil)))) (pw_or1 (pt_not (pt_val (pe_call D_is_box.ok (hr.mono (by decide)) rfl D_is_box.mgf D_is_box.kp D_is_box.b .nil pass0 (pa_cons (pv 3) pa_nil)))))))
        (pss_one ps_never)
        pss_nil)
      (pss_cons (ps_expr (pe_call D_check_moves.ok (hr.mono (by decide)) rfl D_check_moves.mgf D_check_moves.kp D_check_moves.b .nil pass0 (pa_cons (pv 4) pa_nil)))
      (pss_cons (ps_expr (pe_call D_check_what.ok (hr.mono (by decide)) rfl D_check_what.mgf D_check_what.kp D_check_what.b .nil pass0 (pa_cons (pv 5) pa_nil)))
      (pss_one (ps_expr (pe_call D_check_clips.ok (hr.mono (by decide)) rfl D_check_clips.mgf D_check_clips.kp D_check_clips.b .nil pass0 (pa_cons (pv 6) (pa_cons (pe_call D_adjusts.ok (hr.mono (by decide)) rfl D_adjusts.mgf D_adjusts.kp D_adjusts.b .nil pass0 (pa_cons (pv 5) pa_nil)) pa_nil)))))))))), ?_⟩
    refine ⟨_, rfl, _, _, _, _, _, rfl, .ty _, (Kn.tup ha).ty, kit_ty (kit_tuple (Kn.tup ha)), _, rfl, ?_⟩
    refine iteF ?_
    refine ⟨_, rfl, a, _, rfl, .inr (SqT.of ha), rfl, _, rfl, ?_⟩
    refine iteF ?_
    refine ⟨_, rfl, a, _, rfl, SqT.of ha, rfl, _, _, rfl, _, _, rfl, _, _, rfl, _, _, rfl, _, _, rfl, rfl, ?_⟩
    refine ⟨_, rfl, .str l.name, _, rfl, .str _, fun z e => by cases e; exact nl, fun H1 e1 => ⟨_, rfl, ?_⟩⟩
    rw [show nameV (.str l.name) = true from k.name]
    refine iteF ?_
    refine ⟨_, rfl, bv, l.box, rfl, hb.tk (TK.ex e1), k.box, fun H2 e2 => ⟨_, rfl, ?_⟩⟩
    refine iteF ?_
    have e12 := e1.trans e2
    refine ⟨_, rfl, ma, us, l.ms, rfl, e12 _ _ hma, hM.tk (TK.ex e12), k.ms, fun H3 e3 => ?_⟩
    have e13 := e12.trans e3
    refine ⟨_, rfl, wv, l.wh, rfl, hw.tk (TK.ex e13), k.wh, ?_⟩
    refine ⟨_, rfl, _, rfl, wv, l.wh, rfl, hw.tk (TK.ex e13), ?_⟩
    exact ⟨ca, ws, l.cs, l.wh.adj, rfl, e13 _ _ hca, hC.tk (TK.ex e13), k.cs, fun H4 e4 => q H4 (e13.trans e4)⟩
/-- a film is made of allowed parts -/
def spFilmVd (C : Addr) : Sp := fun vs H Q _ => ∃ (s dx : Addr) (x : Fi) (L : Addr) (us : List V), vs = [.ref s, .int x.w, .int x.h, .int x.n, .int x.b, .ref L] ∧ H s = some (.ins C dx []) ∧ H L = some (.lst us) ∧ Paired (LaV H) us x.ls ∧ x.Vd ∧
  ∀ H' dx' L', H L' = none → (∀ b o, H b = some o → b ≠ s → H' b = some o) → H' s = some (.ins C dx' (filmF x L')) → H' L' = some (.lst us) → Q .non H'
def spGetI (C : Addr) (g : Fi → Int) : Sp := fun vs H Q _ => ∃ (v : V) (x : Fi), vs = [v] ∧ FlV C H v x ∧ Q (.int (g x)) H
/-- the layers, in a new list -/
def spGetL (C : Addr) : Sp := fun vs H Q _ => ∃ (v : V) (x : Fi), vs = [v] ∧ FlV C H v x ∧ x.ls.length ≤ 1000 ∧ ∀ p us H', H p = none → Ex H H' → H' p = some (.lst us) → Paired (LaV H') us x.ls → Q (.ref p) H'
abbrev s_Film_width : Stmt := (inClass (top 62) 1)
theorem sc_Film_width : FnScope ["self"] ["self"] (defScope s_Film_width) := ⟨rfl, rfl, rfl, by decide +kernel, rfl, by decide +kernel, by decide +kernel⟩
theorem ok_Film_width {f C : Addr} {fd : FuncData} (F : Fun K "width" "Film.width" s_Film_width f fd) (T : Txt K mg) (OT_Film : FilmT K C) : FnOk P w K mg base CX0 1 f fd ["self"] (spGetI C Fi.w) := by
  refine F.ok sc_Film_width (fun vs H Q E h => ?_) (fun cdv A outer s H vs Q E hr h => ?_)
  · obtain ⟨v, x, rfl, _⟩ := h
    rfl
  · obtain ⟨v, x, rfl, ⟨a, dx, L, us, rfl, ha, hL, hP⟩, q⟩ := h
    refine ⟨_, (pss_one (ps_ret (pe_fld (pv 0) rfl))), ?_⟩
    exact ⟨_, rfl, a, C, dx, _, _, rfl, ha, OT_Film.cl, OT_Film.nW, film_w x L, q⟩
abbrev s_Film_height : Stmt := (inClass (top 62) 2)
theorem sc_Film_height : FnScope ["self"] ["self"] (defScope s_Film_height) := ⟨rfl, rfl, rfl, by decide +kernel, rfl, by decide +kernel, by decide +kernel⟩
theorem ok_Film_height {f C : Addr} {fd : FuncData} (F : Fun K "height" "Film.height" s_Film_height f fd) (T : Txt K mg) (OT_Film : FilmT K C) : FnOk P w K mg base CX0 1 f fd ["self"] (spGetI C Fi.h) := by
  refine F.ok sc_Film_height (fun vs H Q E h => ?_) (fun cdv A outer s H vs Q E hr h => ?_)
  · obtain ⟨v, x, rfl, _⟩ := h
    rfl
  · obtain ⟨v, x, rfl, ⟨a, dx, L, us, rfl, ha, hL, hP⟩, q⟩ := h
    refine ⟨_, (pss_one (ps_ret (pe_fld (pv 0) rfl))), ?_⟩
    exact ⟨_, rfl, a, C, dx, _, _, rfl, ha, OT_Film.cl, OT_Film.nH, film_h x L, q⟩
abbrev s_Film_frames : Stmt := (inClass (top 62) 3)
theorem sc_Film_frames : FnScope ["self"] ["self"] (defScope s_Film_frames) := ⟨rfl, rfl, rfl, by decide +kernel, rfl, by decide +kernel, by decide +kernel⟩
theorem ok_Film_frames {f C : Addr} {fd : FuncData} (F : Fun K "frames" "Film.frames" s_Film_frames f fd) (T : Txt K mg) (OT_Film : FilmT K C) : FnOk P w K mg base CX0 1 f fd ["self"] (spGetI C Fi.n) := by
  refine F.ok sc_Film_frames (fun vs H Q E h => ?_) (fun cdv A outer s H vs Q E hr h => ?_)
  · obtain ⟨v, x, rfl, _⟩ := h
    rfl
  · obtain ⟨v, x, rfl, ⟨a, dx, L, us, rfl, ha, hL, hP⟩, q⟩ := h
    refine ⟨_, (pss_one (ps_ret (pe_fld (pv 0) rfl))), ?_⟩
    exact ⟨_, rfl, a, C, dx, _, _, rfl, ha, OT_Film.cl, OT_Film.nN, film_n x L, q⟩
abbrev s_Film_background : Stmt := (inClass (top 62) 4)
theorem sc_Film_background : FnScope ["self"] ["self"] (defScope s_Film_background) := ⟨rfl, rfl, rfl, by decide +kernel, rfl, by decide +kernel, by decide +kernel⟩
theorem ok_Film_background {f C : Addr} {fd : FuncData} (F : Fun K "background" "Film.background" s_Film_background f fd) (T : Txt K mg) (OT_Film : FilmT K C) : FnOk P w K mg base CX0 1 f fd ["self"] (spGetI C Fi.b) := by
  refine F.ok sc_Film_background (fun vs H Q E h => ?_) (fun cdv A outer s H vs Q E hr h => ?_)
  · obtain ⟨v, x, rfl, _⟩ := h
    rfl
  · obtain ⟨v, x, rfl, ⟨a, dx, L, us, rfl, ha, hL, hP⟩, q⟩ := h
    refine ⟨_, (pss_one (ps_ret (pe_fld (pv 0) rfl))), ?_⟩
    exact ⟨_, rfl, a, C, dx, _, _, rfl, ha, OT_Film.cl, OT_Film.nB, film_b x L, q⟩
abbrev s_Film_layers : Stmt := (inClass (top 62) 5)
theorem sc_Film_layers : FnScope ["self"] ["self"] (defScope s_Film_layers) := ⟨rfl, rfl, rfl, by decide +kernel, rfl, by decide +kernel, by decide +kernel⟩
theorem ok_Film_layers {f C : Addr} {fd : FuncData} (F : Fun K "layers" "Film.layers" s_Film_layers f fd) (T : Txt K mg) (OT_Film : FilmT K C) : FnOk P w K mg base CX0 1 f fd ["self"] (spGetL C) := by
  refine F.ok sc_Film_layers (fun vs H Q E h => ?_) (fun cdv A outer s H vs Q E hr h => ?_)
  · obtain ⟨v, x, rfl, _⟩ := h
    rfl
  · obtain ⟨v, x, rfl, ⟨a, dx, L, us, rfl, ha, hL, hP⟩, ll, q⟩ := h
    refine ⟨_, (pss_one (ps_ret (pe_callTy (klist K) (by rfl) T.list_ bt_list (pa_cons (pe_fld (pv 0) rfl) pa_nil)))), ?_⟩
    refine ⟨_, rfl, a, C, dx, _, _, rfl, ha, OT_Film.cl, OT_Film.nL, film_l x L, ?_⟩
    refine ⟨L, us, rfl, .inl (SqL.of hL), fun p hp => ?_⟩
    have f1 := Ex.new (o := .lst us) hp
    exact q p us _ hp f1 upd_same (Paired.mapP hP fun _ _ => LaV.tk (TK.ex f1))
abbrev s_Film_init : Stmt := (inClass (top 62) 0)
theorem sc_Film_init : FnScope ["self", "width", "height", "frames", "background", "layers", "place", "layer", "other"] ["self", "width", "height", "frames", "background", "layers"] (defScope s_Film_init) := ⟨rfl, rfl, rfl, by decide +kernel, rfl, by decide +kernel, by decide +kernel⟩
theorem flat_strs (ns : List Str) : (ns.map V.str).all flatV = true := by
  rw [List.all_map, List.all_eq_true]
  exact fun _ _ => rfl
theorem in_strs_no {n : Str} {ns : List Str} (h : n ∉ ns) : inV (.str n) (ns.map V.str) = false := by
  unfold inV
  rw [List.any_map, List.any_eq_false]
  intro y hy
  show ¬ (y == n) = true
  rw [beq_iff_eq]
  exact fun e => h (e ▸ hy)
theorem put_le {f : Str} {v : V} : ∀ {fs : List (Str × V)} {n : Nat}, fs.length ≤ n → (putF f v fs).length ≤ n + 1
  | [], n, _ => by show 1 ≤ n + 1; omega
  | (g, u) :: r, n, h => by
    show (if g = f then (g, v) :: r else (g, u) :: putF f v r).length ≤ n + 1
    rw [List.length_cons] at h
    split
    · rw [List.length_cons]
      omega
    · rw [List.length_cons]
      have := put_le (f := f) (v := v) (fs := r) (n := n - 1) (by omega)
      omega
theorem ok_Film_init {f C : Addr} {fd : FuncData} (F : Fun K "__init__" "Film.__init__" s_Film_init f fd) (T : Txt K mg) (OT_Film : FilmT K C) (D_check_numbers : Def P w K mg base CX0 "_check_numbers" 3 ["width", "height", "frames", "background"] spNumsVd)
    (D_check_layer : Def P w K mg base CX0 "_check_layer" 7 ["layer", "place"] (spLayerVd K)) : FnOk P w K mg base CX0 8 f fd ["self", "width", "height", "frames", "background", "layers"] (spFilmVd C) := by
  refine F.ok sc_Film_init (fun vs H Q E h => ?_) (fun cdv A outer s H vs Q E hr h => ?_)
  · obtain ⟨s, dx, x, L, us, rfl, _⟩ := h
    rfl
  · obtain ⟨sa, dx, x, L, us, rfl, hs, hL, hP, k, q⟩ := h
    have lu := hP.length
    have ll := k.len
    refine ⟨_, (pss_cons (ps_expr (pe_call D_check_numbers.ok (hr.mono (by decide)) rfl D_check_numbers.mgf D_check_numbers.kp D_check_numbers.b .nil pass0 (pa_cons (pv 1) (pa_cons (pv 2) (pa_cons (pv 3) (pa_cons (pv 4) pa_nil))))))
      (pss_cons (ps_if (pt_cmpR op_gt (pe_callB (klen K) (by rfl) T.len_ PySem.boot_len (pa_cons (pv 5) pa_nil)) (pe_glob (v := .int 16) rfl T.LAYERS_MOST_.choose_spec ⟨_, rfl⟩) (nomark _))
        (pss_one ps_never)
        pss_nil)
      (pss_cons (ps_for PassesOwn.never rfl (kpiE K (by rfl) T.enumerate_ (pa_cons (pv 5) pa_nil)) (kpgT K (n := 2) rfl (pgs_cons (pg_name (i := 6) sc_Film_init.nd rfl (by first | exact Or.inl rfl | exact Or.inr rfl)) (pgs_cons (pg_name (i := 7) sc_Film_init.nd rfl (by first | exact Or.inl rfl | exact Or.inr rfl)) pgs_nil)))
        (pss_cons (ps_expr (pe_call D_check_layer.ok (hr.mono (by decide)) rfl D_check_layer.mgf D_check_layer.kp D_check_layer.b .nil pass0 (pa_cons (pv 7) (pa_cons (pv 6) pa_nil))))
        (pss_one (ps_if (pt_cmpR (kin K) (pe_ix (kixT K) (pv 7) pe_int (fun _ _ => rfl)) (pe_lc (own := [("other", 8)]) (tt := tYes) rfl sc_Film_init.nd (kpiL K (pe_slice (kslL K) (pv 5) po_none (po_some (pv 6)))) (blkOk_by (N := ["self", "width", "height", "frames", "background", "layers", "place", "layer", "other"]) (sc := defScope s_Film_init) (by decide +kernel)) (fun _ _ _ _ _ => (pg_name (i := 8) sc_Film_init.nd rfl (by first | exact Or.inl rfl | exact Or.inr rfl))) (fun _ _ _ _ _ => pts_nil) (fun _ _ _ _ _ => (pe_ix (kixT K) (pv 8) pe_int (fun _ _ => rfl)))) (by rfl))
          (pss_one ps_never)
          pss_nil))))
      (pss_cons (ps_fld (pv 0) (pv 1) rfl)
      (pss_cons (ps_fld (pv 0) (pv 2) rfl)
      (pss_cons (ps_fld (pv 0) (pv 3) rfl)
      (pss_cons (ps_fld (pv 0) (pv 4) rfl)
      (pss_one (ps_fld (pv 0) (pe_callTy (klist K) (by rfl) T.list_ bt_list (pa_cons (pv 5) pa_nil)) rfl))))))))), ?_⟩
    refine ⟨_, rfl, _, rfl, _, rfl, _, rfl, x, rfl, k, ?_⟩
    refine ⟨_, rfl, L, us, rfl, .inl (SqL.of hL), _, _, rfl, rfl, _, rfl, ?_⟩
    rw [decide_eq_false (show ¬ (16 : Int) < us.length by omega)]
    refine iteF ?_
    refine ⟨_, rfl, L, us, rfl, SqL.of hL, ?_⟩
    refine for_it (walk_enum (xs := us)) (fun i σ H' => Ex H H' ∧ ∃ (x6 x7 : Option V), σ = [some (.ref sa), some (.int x.w), some (.int x.h), some (.int x.n), some (.int x.b), some (.ref L), x6, x7, none]) ⟨Ex.refl _, _, _, rfl⟩ (fun i σ H' _ p => SqL.of (p.1 _ _ hL)) ?_ ?_
    · rintro i v σ H1 H' hi ⟨e1, x6, x7, rfl⟩ ⟨t, xi, u, rfl, ht, rfl, hx, hu⟩
      cases hx
      have hu : us[i]? = some u := hu
      have f1 := Ex.new (o := .tup [.int (i : Nat), u]) ht
      have k1 : upd H1 t (.tup [.int (i : Nat), u]) t = some (.tup [.int (i : Nat), u]) := upd_same
      generalize upd H1 t (.tup [.int (i : Nat), u]) = H2 at f1 k1 ⊢
      have e2 := e1.trans f1
      obtain ⟨l, hl, hlv⟩ := pr_get hP hu
      have hlm := List.mem_of_getElem? hl
      refine ⟨t, _, rfl, SqT.of k1, rfl, _, _, rfl, _, _, rfl, rfl, ?_⟩
      refine ⟨_, rfl, _, rfl, u, l, (i : Nat), rfl, hlv.tk (TK.ex e2), k.ok l hlm, fun H3 e3 => ?_⟩
      have e13 := e2.trans e3
      have hlv3 := hlv.tk (TK.ex e13)
      obtain ⟨la, bv, ma, wv, ca, ms, ws, rfl, hla, _⟩ := id hlv3
      refine ⟨_, rfl, la, _, 0, _, rfl, rfl, SqT.of hla, rfl, ?_⟩
      refine ⟨_, rfl, _, rfl, _, rfl, L, us, rfl, SqL.of (e13 _ _ hL), fun p hp => ?_⟩
      have f4 := Ex.new (o := .lst (cutV us none (some (i : Int)))) hp
      have k4 : upd H3 p (.lst (cutV us none (some (i : Int)))) p = some (.lst (us.take i)) := by rw [upd_same, cutV_take (Nat.le_of_lt hi)]
      generalize upd H3 p (.lst (cutV us none (some (i : Int)))) = H4 at f4 k4 ⊢
      have e14 := e13.trans f4
      refine ⟨p, rfl, ⟨_, SqL.of k4⟩, fun D hD => ?_⟩
      refine lc_list (xs := us.take i) (fun j H' => Ex H4 H' ∧ H' D = some (.lst (((x.ls.take j).map La.name).map V.str))) ⟨Ex.new hD, upd_same⟩ (fun j H' _ p => SqL.of (p.1 _ _ k4)) ?_ ?_
      · rintro j uv H' hj ⟨e, hW⟩
        have hji : j < i := by
          have := (List.getElem?_eq_some_iff.mp hj).1
          rw [List.length_take] at this
          omega
        rw [List.getElem?_take_of_lt hji] at hj
        obtain ⟨z, hz, hzv⟩ := pr_get hP hj
        obtain ⟨za, _, _, _, _, _, _, rfl, hza, _⟩ := hzv.tk (TK.ex (e14.trans e))
        refine ⟨rfl, ?_⟩
        refine lcY ?_
        refine ⟨_, rfl, za, _, 0, _, rfl, rfl, SqT.of hza, rfl, ?_⟩
        refine ⟨_, hW, slineL (by simp only [List.length_map, List.length_take]; omega), e.mut hD, ?_⟩
        rw [upd_same, List.take_add_one, hz, List.map_append, List.map_append]
        rfl
      rintro H5 ⟨e5, hW⟩
      rw [show (us.take i).length = i by rw [List.length_take]; omega] at hW
      refine ⟨D, _, rfl, .inl (SqL.of hW), rfl, flat_strs _, _, rfl, ?_⟩
      have no : l.name ∉ (x.ls.take i).map La.name := fun hm => by
        obtain ⟨z, hz, ez⟩ := List.mem_map.mp hm
        obtain ⟨j, hj⟩ := List.getElem?_of_mem hz
        rw [List.getElem?_take] at hj
        split at hj
        · rename_i hji
          have h1 : (x.ls.map La.name)[j]? = some l.name := by rw [List.getElem?_map, hj]; exact congrArg some ez
          have h2 : (x.ls.map La.name)[i]? = some l.name := by rw [List.getElem?_map, hl]; rfl
          have := (List.getElem?_inj (List.getElem?_eq_some_iff.mp h1).1 k.nd).mp (h1.trans h2.symm)
          omega
        · cases hj
      rw [if_neg Bool.false_ne_true, in_strs_no no]
      refine iteF ?_
      exact ⟨(e14.trans e5), _, _, rfl⟩
    · rintro σ H1 ⟨e1, x6, x7, rfl⟩
      have hs1 := e1 _ _ hs
      have hL1 := e1 _ _ hL
      have ne : L ≠ sa := fun z => by rw [z, hs] at hL; cases hL
      refine ⟨_, rfl, _, rfl, sa, C, dx, [], rfl, hs1, OT_Film.cl, OT_Film.nW, (by show 0 < 1000; decide), ?_⟩
      refine ⟨_, rfl, _, rfl, sa, C, dx, _, rfl, upd_same, OT_Film.cl, OT_Film.nH, (by show 1 < 1000; decide), ?_⟩
      refine ⟨_, rfl, _, rfl, sa, C, dx, _, rfl, upd_same, OT_Film.cl, OT_Film.nN, Nat.lt_of_le_of_lt (put_le (put_le (Nat.zero_le 0))) (by decide), ?_⟩
      refine ⟨_, rfl, _, rfl, sa, C, dx, _, rfl, upd_same, OT_Film.cl, OT_Film.nB, Nat.lt_of_le_of_lt (put_le (put_le (put_le (Nat.zero_le 0)))) (by decide), ?_⟩
      have g1 : ∀ b, b ≠ sa → (upd (upd (upd (upd H1 sa (.ins C dx (putF "_width" (.int x.w) []))) sa (.ins C dx (putF "_height" (.int x.h) (putF "_width" (.int x.w) [])))) sa (.ins C dx (putF "_frames" (.int x.n) (putF "_height" (.int x.h) (putF "_width" (.int x.w) []))))) sa (.ins C dx (putF "_background" (.int x.b) (putF "_frames" (.int x.n) (putF "_height" (.int x.h) (putF "_width" (.int x.w) [])))))) b = H1 b := fun b hb => by
        rw [upd_ne hb, upd_ne hb, upd_ne hb, upd_ne hb]
      have g2 : (upd (upd (upd (upd H1 sa (.ins C dx (putF "_width" (.int x.w) []))) sa (.ins C dx (putF "_height" (.int x.h) (putF "_width" (.int x.w) [])))) sa (.ins C dx (putF "_frames" (.int x.n) (putF "_height" (.int x.h) (putF "_width" (.int x.w) []))))) sa (.ins C dx (putF "_background" (.int x.b) (putF "_frames" (.int x.n) (putF "_height" (.int x.h) (putF "_width" (.int x.w) [])))))) sa = some (.ins C dx (putF "_background" (.int x.b) (putF "_frames" (.int x.n) (putF "_height" (.int x.h) (putF "_width" (.int x.w) []))))) := upd_same
      generalize upd (upd (upd (upd H1 sa (.ins C dx (putF "_width" (.int x.w) []))) sa (.ins C dx (putF "_height" (.int x.h) (putF "_width" (.int x.w) [])))) sa (.ins C dx (putF "_frames" (.int x.n) (putF "_height" (.int x.h) (putF "_width" (.int x.w) []))))) sa (.ins C dx (putF "_background" (.int x.b) (putF "_frames" (.int x.n) (putF "_height" (.int x.h) (putF "_width" (.int x.w) []))))) = G at g1 g2 ⊢
      refine ⟨_, rfl, L, us, rfl, .inl (SqL.of ((g1 L ne).trans hL1)), fun l hl => ?_⟩
      have nl : l ≠ sa := fun z => by rw [z, g2] at hl; cases hl
      refine ⟨_, rfl, sa, C, dx, _, rfl, (by rw [upd_ne (Ne.symm nl)]; exact g2), OT_Film.cl, OT_Film.nL, Nat.lt_of_le_of_lt (put_le (put_le (put_le (put_le (Nat.zero_le 0))))) (by decide), ?_⟩
      rw [film_put]
      refine q _ dx l ?_ (fun b o hb nb => ?_) upd_same (by rw [upd_ne nl, upd_same])
      · exact ex_free e1 ((g1 l nl).symm.trans hl)
      · have nbl : b ≠ l := fun z => by
          have h1 := e1 _ _ hb
          rw [z, (g1 l nl).symm.trans hl] at h1
          cases h1
        rw [upd_ne nb, upd_ne nbl, g1 b nb]
        exact e1 _ _ hb
abbrev s_between : Stmt := top 56
theorem sc_between : FnScope ["first", "second", "frame", "start", "across", "down", "gone", "span"] ["first", "second", "frame"] (defScope s_between) := ⟨rfl, rfl, rfl, by decide +kernel, rfl, by decide +kernel, by decide +kernel⟩
def spBtw (K : PySem.W.Frag) : Sp := fun vs H Q _ => ∃ u v x y f, vs = [u, v, .int f] ∧ MvV H u x ∧ MvV H v y ∧ x.Ok ∧ y.Ok ∧ x.f ≤ f ∧ f < y.f ∧ ∀ r H', Ex H H' → PtV H' r (btw x y f) → Q r H'
theorem ok_between {f : Addr} {fd : FuncData} (F : Fun K "_between" "_between" s_between f fd) (T : Txt K mg) : FnOk P w K mg base CX0 1 f fd ["first", "second", "frame"] (spBtw K) := by
  refine F.ok sc_between (fun vs H Q E h => ?_) (fun cdv A outer s H vs Q E hr h => ?_)
  · obtain ⟨u, v, x, y, f, rfl, _⟩ := h
    rfl
  · obtain ⟨u, v, x, y, f, rfl, ⟨p, rfl, hp⟩, ⟨r, rfl, hr'⟩, kx, ky, h0, h1, q⟩ := h
    have := kx.f0
    have := kx.a0
    have := kx.a1
    have := kx.d0
    have := kx.d1
    have := ky.a0
    have := ky.a1
    have := ky.d0
    have := ky.d1
    have := ky.f1
    refine ⟨_, (pss_cons (ps_asg (pv 0) (kpgT K (n := 3) rfl (pgs_cons (pg_name (i := 3) sc_between.nd rfl (by first | exact Or.inl rfl | exact Or.inr rfl)) (pgs_cons (pg_name (i := 4) sc_between.nd rfl (by first | exact Or.inl rfl | exact Or.inr rfl)) (pgs_cons (pg_name (i := 5) sc_between.nd rfl (by first | exact Or.inl rfl | exact Or.inr rfl)) pgs_nil)))))
      (pss_cons (ps_set (i := 6) sc_between.nd rfl (by first | exact Or.inl rfl | exact Or.inr rfl) (pe_op op_sub (pv 2) (pv 3)))
      (pss_cons (ps_set (i := 7) sc_between.nd rfl (by first | exact Or.inl rfl | exact Or.inr rfl) (pe_op op_sub (pe_ix (kixT K) (pv 1) pe_int (fun _ _ => rfl)) (pv 3)))
      (pss_one (ps_ret (pe_tup (pa_cons (pe_op op_add (pv 4) (pe_op op_fdiv (pe_op op_mul (pe_op op_sub (pe_ix (kixT K) (pv 1) pe_int (fun _ _ => rfl)) (pv 4)) (pv 6)) (pv 7))) (pa_cons (pe_op op_add (pv 5) (pe_op op_fdiv (pe_op op_mul (pe_op op_sub (pe_ix (kixT K) (pv 1) pe_int (fun _ _ => rfl)) (pv 5)) (pv 6)) (pv 7))) pa_nil)))))))), ?_⟩
    refine ⟨_, rfl, p, _, rfl, SqT.of hp, rfl, _, _, rfl, _, _, rfl, _, _, rfl, rfl, ?_⟩
    refine ⟨_, rfl, _, rfl, _, _, rfl, rfl, ?_⟩
    refine ⟨_, rfl, r, _, _, _, rfl, rfl, SqT.of hr', rfl, _, rfl, _, _, rfl, rfl, ?_⟩
    refine ⟨_, rfl, _, rfl, r, _, _, _, rfl, rfl, SqT.of hr', rfl, _, rfl, _, _, rfl, rfl, _, rfl, _, _, rfl, rfl, .inl ⟨by omega, by omega⟩, _, rfl, _, _, rfl, rfl, ⟨by omega, by omega⟩, _, _, rfl, rfl, ?_⟩
    refine ⟨_, rfl, _, rfl, r, _, _, _, rfl, rfl, SqT.of hr', rfl, _, rfl, _, _, rfl, rfl, _, rfl, _, _, rfl, rfl, .inl ⟨by omega, by omega⟩, _, rfl, _, _, rfl, rfl, ⟨by omega, by omega⟩, _, _, rfl, rfl, ?_⟩
    refine ⟨(by show 2 ≤ sizeLine; decide), fun l hl => ?_⟩
    exact q _ _ (Ex.new hl) ⟨l, rfl, upd_same⟩
abbrev s_offset_at : Stmt := top 53
theorem sc_offset_at : FnScope ["moves", "frame", "passed", "coming", "point"] ["moves", "frame"] (defScope s_offset_at) := ⟨rfl, rfl, rfl, by decide +kernel, rfl, by decide +kernel, by decide +kernel⟩
def spOff (K : PySem.W.Frag) : Sp := fun vs H Q _ => ∃ a us ms f, vs = [.ref a, .int f] ∧ H a = some (.tup us) ∧ MvsV H us ms ∧ MAsc ms ∧ (∀ m ∈ ms, m.Ok) ∧ ms.length ≤ 100 ∧ ∀ r H', Ex H H' → PtV H' r (off ms f) → Q r H'
theorem ok_offset_at {f : Addr} {fd : FuncData} (F : Fun K "offset_at" "offset_at" s_offset_at f fd) (T : Txt K mg) (D_between : Def P w K mg base CX0 "_between" 1 ["first", "second", "frame"] (spBtw K)) : FnOk P w K mg base CX0 2 f fd ["moves", "frame"] (spOff K) := by
  refine F.ok sc_offset_at (fun vs H Q E h => ?_) (fun cdv A outer s H vs Q E hr h => ?_)
  · obtain ⟨a, us, ms, f, rfl, _⟩ := h
    rfl
  · obtain ⟨a, us, ms, f, rfl, ha, hM, hA, kM, hn, q⟩ := h
    refine ⟨_, (pss_cons (ps_setLc (i := 2)  (own := [("point", 4)]) rfl sc_offset_at.nd rfl rfl (sw_true rfl rfl rfl (by decide +kernel)) (kpiT K (pv 0)) (blkOk_by (N := ["moves", "frame", "passed", "coming", "point"]) (sc := defScope s_offset_at) (by decide +kernel)) (fun _ _ _ _ _ => (pg_name (i := 4) sc_offset_at.nd rfl (by first | exact Or.inl rfl | exact Or.inr rfl))) (fun _ _ _ _ _ => (pts_one (pt_cmpR op_le (pe_ix (kixT K) (pv 4) pe_int (fun _ _ => rfl)) (pv 1) (nomark _)))) (fun _ _ _ _ _ => (pv 4)))
      (pss_cons (ps_set (i := 3) sc_offset_at.nd rfl (by first | exact Or.inl rfl | exact Or.inr rfl) (pe_slice (kslA K) (pv 0) (po_some (pe_callB (klen K) (by rfl) T.len_ PySem.boot_len (pa_cons (pv 2) pa_nil))) po_none))
      (pss_cons (ps_if (PW.pt (pw_and (ktru K (pv 2)) (pw_and1 (ktru K (pv 3)))))
        (pss_one (ps_ret (pe_call D_between.ok (hr.mono (by decide)) rfl D_between.mgf D_between.kp D_between.b .nil pass0 (pa_cons (pe_ix (kixL K) (pv 2) (pe_un un_neg pe_int) (fun _ _ => rfl)) (pa_cons (pe_ix (kixT K) (pv 3) pe_int (fun _ _ => rfl)) (pa_cons (pv 1) pa_nil))))))
        pss_nil)
      (pss_cons (ps_if (ktru K (pv 2))
        (pss_one (ps_ret (pe_slice (kslA K) (pe_ix (kixL K) (pv 2) (pe_un un_neg pe_int) (fun _ _ => rfl)) (po_some pe_int) po_none)))
        pss_nil)
      (pss_cons (ps_if (ktru K (pv 3))
        (pss_one (ps_ret (pe_slice (kslA K) (pe_ix (kixT K) (pv 3) pe_int (fun _ _ => rfl)) (po_some pe_int) po_none)))
        pss_nil)
      (pss_one (ps_ret (pe_tup (pa_cons pe_int (pa_cons pe_int pa_nil)))))))))), ?_⟩
    obtain ⟨n1, n2, n3, n4, n5⟩ := np_split (f := f) hA
    have hul := hM.length
    refine ⟨_, rfl, a, rfl, ⟨us, SqT.of ha⟩, fun D hD => ?_⟩
    refine lc_tup (xs := us) (fun i H' => Ex H H' ∧ ∃ vs, H' D = some (.lst vs) ∧ MvsV H' vs ((ms.take i).filter fun m => decide (m.f ≤ f)) ∧ vs.length ≤ i) ⟨Ex.new hD, [], upd_same, .nil, Nat.le_refl _⟩ (fun i H' _ p => SqT.of (p.1 _ _ ha)) ?_ ?_
    · rintro i v H' hv ⟨e, vs, hV, hP, hl⟩
      obtain ⟨m, hm, p, rfl, hp⟩ := pr_get hM hv
      have hi : i < us.length := (List.getElem?_eq_some_iff.mp hv).1
      refine ⟨rfl, ?_⟩
      refine ⟨_, rfl, p, _, _, _, rfl, rfl, SqT.of (e _ _ hp), rfl, _, rfl, _, _, rfl, rfl, _, rfl, ?_⟩
      have et : (ms.take (i + 1)).filter (fun m => decide (m.f ≤ f)) = (ms.take i).filter (fun m => decide (m.f ≤ f)) ++ if decide (m.f ≤ f) = true then [m] else [] := by
        rw [List.take_add_one, hm, List.filter_append]
        show _ ++ List.filter _ [m] = _
        rw [List.filter_cons]
        rfl
      refine ite2 (fun c => ?_) (fun c => ?_)
      · rw [if_pos c] at et
        have tk : TK H' (upd H' D (.lst (vs ++ [.ref p]))) := TK.lst hV
        refine ⟨_, rfl, vs, hV, slineL (by omega), e.mut hD, vs ++ [.ref p], upd_same, ?_, by rw [List.length_append]; simp; omega⟩
        rw [et]
        exact pr_append (hP.tk tk) (.cons (MvV.tk tk ⟨p, rfl, e _ _ hp⟩) .nil)
      · rw [if_neg c, List.append_nil] at et
        exact ⟨e, vs, hV, by rw [et]; exact hP, by omega⟩
    rintro H1 ⟨e1, vs, hV, hP, hl⟩
    rw [hul, List.take_length, n4] at hP
    have hvl := hP.length
    rw [List.length_take, Nat.min_eq_left n1] at hvl
    -- coming
    refine ⟨_, rfl, _, rfl, D, vs, rfl, .inl (SqL.of hV), _, rfl, ?_⟩
    refine slA (e1 _ _ ha) fun c H2 e2 hc => ?_
    rw [cutV_drop (by omega), hvl] at hc
    have hV2 := e2 _ _ hV
    have hP2 := hP.tk (TK.ex e2)
    have hM2 := hM.tk (TK.ex (e1.trans e2))
    have hC2 : MvsV H2 (us.drop (np ms f)) (ms.drop (np ms f)) := pr_drop _ hM2
    have kA : ∀ m ∈ ms.take (np ms f), m.Ok := fun m hm => kM m (List.mem_of_mem_take hm)
    have kB : ∀ m ∈ ms.drop (np ms f), m.Ok := fun m hm => kM m (List.mem_of_mem_drop hm)
    unfold off at q
    generalize us.drop (np ms f) = cs at hc hC2
    generalize ms.drop (np ms f) = B at n3 hC2 kB q
    generalize ms.take (np ms f) = A at n2 hP2 kA q hP
    have e12 := e1.trans e2
    cases hC2 with
    | nil =>
      rcases nil_or_snoc vs with rfl | ⟨vs', v, rfl⟩
      · cases hP2
        refine ⟨_, rfl, false, .inl ⟨_, SqL.of hV2, rfl⟩, iteF ?_⟩
        refine ⟨_, rfl, false, .inl ⟨_, SqL.of hV2, rfl⟩, iteF ?_⟩
        refine ⟨_, rfl, false, .inr (.inl ⟨_, SqT.of hc, rfl⟩), iteF ?_⟩
        refine ⟨(by show 2 ≤ sizeLine; decide), fun l hl => ?_⟩
        exact q _ _ (e12.trans (Ex.new hl)) ⟨l, rfl, upd_same⟩
      · rcases nil_or_snoc A with rfl | ⟨A', x, rfl⟩
        · have := hP2.length
          simp at this
        obtain ⟨_, xp, rfl, hx⟩ := pr_split hP2
        refine ⟨_, rfl, true, .inl ⟨_, SqL.of hV2, by simp⟩, iteT ?_⟩
        refine ⟨_, rfl, false, .inr (.inl ⟨_, SqT.of hc, rfl⟩), iteF ?_⟩
        refine ⟨_, rfl, true, .inl ⟨_, SqL.of hV2, by simp⟩, iteT ?_⟩
        refine ⟨_, rfl, _, rfl, D, _, _, _, rfl, rfl, SqL.of hV2, atI_last _ _, _, rfl, ?_⟩
        refine slA hx fun r H3 e3 hr3 => ?_
        rw [List.getLast?_concat] at q
        exact q _ _ (e12.trans e3) ⟨r, rfl, hr3⟩
    | cons hy hC3 =>
      obtain ⟨yp, rfl, hy⟩ := hy
      rcases nil_or_snoc vs with rfl | ⟨vs', v, rfl⟩
      · cases hP2
        refine ⟨_, rfl, false, .inl ⟨_, SqL.of hV2, rfl⟩, iteF ?_⟩
        refine ⟨_, rfl, false, .inl ⟨_, SqL.of hV2, rfl⟩, iteF ?_⟩
        refine ⟨_, rfl, true, .inr (.inl ⟨_, SqT.of hc, rfl⟩), iteT ?_⟩
        refine ⟨_, rfl, c, _, _, _, rfl, rfl, SqT.of hc, at_head, _, rfl, ?_⟩
        refine slA hy fun r H3 e3 hr3 => ?_
        exact q _ _ (e12.trans e3) ⟨r, rfl, hr3⟩
      · rcases nil_or_snoc A with rfl | ⟨A', x, rfl⟩
        · have := hP2.length
          simp at this
        obtain ⟨_, xp, rfl, hx⟩ := pr_split hP2
        refine ⟨_, rfl, true, .inl ⟨_, SqL.of hV2, by simp⟩, iteT ?_⟩
        refine ⟨_, rfl, true, .inr (.inl ⟨_, SqT.of hc, rfl⟩), iteT ?_⟩
        refine ⟨_, rfl, _, rfl, D, _, _, _, rfl, rfl, SqL.of hV2, atI_last _ _, _, rfl, c, _, _, _, rfl, rfl, SqT.of hc, at_head, _, rfl, ?_⟩
        refine ⟨_, _, _, _, _, rfl, ⟨xp, rfl, hx⟩, ⟨yp, rfl, hy⟩, kA _ (by simp), kB _ (by simp), n2 _ (by simp), n3 _ (by simp), fun r H3 e3 hr3 => ?_⟩
        rw [List.getLast?_concat] at q
        exact q _ _ (e12.trans e3) hr3
abbrev s_corner_of : Stmt := top 69
theorem sc_corner_of : FnScope ["layer", "frame", "across", "down", "left", "top", "_"] ["layer", "frame"] (defScope s_corner_of) := ⟨rfl, rfl, rfl, by decide +kernel, rfl, by decide +kernel, by decide +kernel⟩
def La.corner (l : La) (f : Int) : Pt := (l.box.l + (off l.ms f).1, l.box.t + (off l.ms f).2)
def spCorner (K : PySem.W.Frag) : Sp := fun vs H Q _ => ∃ (v : V) (l : La) (f : Int), vs = [v, .int f] ∧ LaV H v l ∧ l.Vd ∧ ∀ r H', Ex H H' → PtV H' r (l.corner f) → Q r H'
theorem ok_corner_of {f : Addr} {fd : FuncData} (F : Fun K "_corner_of" "_corner_of" s_corner_of f fd) (T : Txt K mg) (D_offset_at : Def P w K mg base CX0 "offset_at" 2 ["moves", "frame"] (spOff K)) : FnOk P w K mg base CX0 3 f fd ["layer", "frame"] (spCorner K) := by
  refine F.ok sc_corner_of (fun vs H Q E h => ?_) (fun cdv A outer s H vs Q E hr h => ?_)
  · obtain ⟨v, l, fr, rfl, _⟩ := h
    rfl
  · obtain ⟨v, l, fr, rfl, hv, k, q⟩ := h
    obtain ⟨a, bv, ma, wv, ca, us, ws, rfl, ha, hb, hma, hM, hw, hca, hC⟩ := id hv
    refine ⟨_, (pss_cons (ps_asg (pe_call D_offset_at.ok (hr.mono (by decide)) rfl D_offset_at.mgf D_offset_at.kp D_offset_at.b .nil pass0 (pa_cons (pe_ix (kixT K) (pv 0) pe_int (fun _ _ => rfl)) (pa_cons (pv 1) pa_nil))) (kpgT K (n := 2) rfl (pgs_cons (pg_name (i := 2) sc_corner_of.nd rfl (by first | exact Or.inl rfl | exact Or.inr rfl)) (pgs_cons (pg_name (i := 3) sc_corner_of.nd rfl (by first | exact Or.inl rfl | exact Or.inr rfl)) pgs_nil))))
      (pss_cons (ps_asg (pe_ix (kixT K) (pv 0) pe_int (fun _ _ => rfl)) (kpgT K (n := 4) rfl (pgs_cons (pg_name (i := 4) sc_corner_of.nd rfl (by first | exact Or.inl rfl | exact Or.inr rfl)) (pgs_cons (pg_name (i := 5) sc_corner_of.nd rfl (by first | exact Or.inl rfl | exact Or.inr rfl)) (pgs_cons (pg_name (i := 6) sc_corner_of.nd rfl (by first | exact Or.inl rfl | exact Or.inr rfl)) (pgs_cons (pg_name (i := 6) sc_corner_of.nd rfl (by first | exact Or.inl rfl | exact Or.inr rfl)) pgs_nil))))))
      (pss_one (ps_ret (pe_tup (pa_cons (pe_op op_add (pv 4) (pv 2)) (pa_cons (pe_op op_add (pv 5) (pv 3)) pa_nil))))))), ?_⟩
    refine ⟨_, rfl, a, _, 2, _, rfl, rfl, SqT.of ha, rfl, _, rfl, ma, us, l.ms, fr, rfl, hma, hM, k.ms.asc, k.ms.mok, by have := k.ms.len; omega, fun r H1 e1 hr1 => ?_⟩
    obtain ⟨ra, rfl, hra⟩ := id hr1
    refine ⟨ra, _, rfl, SqT.of hra, rfl, _, _, rfl, _, _, rfl, rfl, ?_⟩
    obtain ⟨ba, rfl, hba⟩ := hb.tk (TK.ex e1)
    refine ⟨_, rfl, a, _, 1, _, rfl, rfl, SqT.of (e1 _ _ ha), rfl, ?_⟩
    refine ⟨ba, _, rfl, SqT.of hba, rfl, _, _, rfl, _, _, rfl, _, _, rfl, _, _, rfl, rfl, ?_⟩
    refine ⟨_, rfl, _, rfl, _, _, rfl, rfl, _, rfl, _, rfl, _, _, rfl, rfl, (by show 2 ≤ sizeLine; decide), fun t ht => ?_⟩
    have f1 := Ex.new (o := .tup [.int (l.box.l + (off l.ms fr).1), .int (l.box.t + (off l.ms fr).2)]) ht
    exact q _ _ (e1.trans f1) ⟨t, rfl, upd_same⟩
abbrev s_level_at : Stmt := top 42
theorem sc_level_at : FnScope ["clip", "frame", "start", "length", "_", "fade_in", "fade_out", "before", "behind"] ["clip", "frame"] (defScope s_level_at) := ⟨rfl, rfl, rfl, by decide +kernel, rfl, by decide +kernel, by decide +kernel⟩
/-- numbers of a clip within bounds -/
structure Cl.Num (c : Cl) : Prop where
  s0 : 0 ≤ c.s
  s1 : c.s ≤ 100000
  n1 : 1 ≤ c.n
  n2 : c.n ≤ 100000
  fi0 : 0 ≤ c.fi
  fo0 : 0 ≤ c.fo
  fs : c.fi + c.fo ≤ c.n
theorem Cl.Vd.num {c : Cl} (h : c.Vd) : c.Num := ⟨h.s0, by have := h.s1; omega, h.n1, by have := h.n2; omega, h.fi0, h.fo0, h.fs⟩
def spLevelF (K : PySem.W.Frag) : Sp := fun vs H Q _ => ∃ cv c f, vs = [cv, .int f] ∧ ClV H cv c ∧ c.Num ∧ c.s ≤ f ∧ f < c.fin ∧ Q (.int (c.lev f)) H
theorem ok_level_at {f : Addr} {fd : FuncData} (F : Fun K "level_at" "level_at" s_level_at f fd) (T : Txt K mg) : FnOk P w K mg base CX0 1 f fd ["clip", "frame"] (spLevelF K) := by
  refine F.ok sc_level_at (fun vs H Q E h => ?_) (fun cdv A outer s H vs Q E hr h => ?_)
  · obtain ⟨cv, c, f, rfl, _⟩ := h
    rfl
  · obtain ⟨cv, c, f, rfl, ⟨a, u, rfl, ha, hu⟩, k, f0, f1, q⟩ := h
    have := k.s0
    have := k.s1
    have := k.n1
    have := k.n2
    have := k.fi0
    have := k.fo0
    have := k.fs
    unfold Cl.fin at f1
    refine ⟨_, (pss_cons (ps_asg (pv 0) (kpgT K (n := 5) rfl (pgs_cons (pg_name (i := 2) sc_level_at.nd rfl (by first | exact Or.inl rfl | exact Or.inr rfl)) (pgs_cons (pg_name (i := 3) sc_level_at.nd rfl (by first | exact Or.inl rfl | exact Or.inr rfl)) (pgs_cons (pg_name (i := 4) sc_level_at.nd rfl (by first | exact Or.inl rfl | exact Or.inr rfl)) (pgs_cons (pg_name (i := 5) sc_level_at.nd rfl (by first | exact Or.inl rfl | exact Or.inr rfl)) (pgs_cons (pg_name (i := 6) sc_level_at.nd rfl (by first | exact Or.inl rfl | exact Or.inr rfl)) pgs_nil)))))))
      (pss_cons (ps_set (i := 7) sc_level_at.nd rfl (by first | exact Or.inl rfl | exact Or.inr rfl) (pe_op op_sub (pv 1) (pv 2)))
      (pss_cons (ps_set (i := 8) sc_level_at.nd rfl (by first | exact Or.inl rfl | exact Or.inr rfl) (pe_op op_sub (pe_op op_sub (pv 3) (pv 7)) pe_int))
      (pss_cons (ps_if (pt_cmpR op_lt (pv 7) (pv 5) (nomark _))
        (pss_one (ps_ret (pe_op op_fdiv (pe_op op_mul (pe_glob (v := .int 256) rfl T.LEVEL_MOST_.choose_spec ⟨_, rfl⟩) (pe_op op_add (pv 7) pe_int)) (pe_op op_add (pv 5) pe_int))))
        pss_nil)
      (pss_cons (ps_if (pt_cmpR op_lt (pv 8) (pv 6) (nomark _))
        (pss_one (ps_ret (pe_op op_fdiv (pe_op op_mul (pe_glob (v := .int 256) rfl T.LEVEL_MOST_.choose_spec ⟨_, rfl⟩) (pe_op op_add (pv 8) pe_int)) (pe_op op_add (pv 6) pe_int))))
        pss_nil)
      (pss_one (ps_ret (pe_glob (v := .int 256) rfl T.LEVEL_MOST_.choose_spec ⟨_, rfl⟩)))))))), ?_⟩
    refine ⟨_, rfl, a, _, rfl, SqT.of ha, rfl, _, _, rfl, _, _, rfl, _, _, rfl, _, _, rfl, _, _, rfl, rfl, ?_⟩
    refine ⟨_, rfl, _, rfl, _, _, rfl, rfl, ?_⟩
    refine ⟨_, rfl, _, rfl, _, _, rfl, rfl, _, _, rfl, rfl, ?_⟩
    unfold Cl.lev at q
    refine ⟨_, rfl, _, rfl, _, _, rfl, rfl, _, rfl, ?_⟩
    refine ite2 (fun c1 => ?_) (fun c1 => ?_)
    · rw [if_pos (of_decide_eq_true c1)] at q
      exact ⟨_, rfl, _, _, rfl, rfl, _, _, rfl, rfl, .inl ⟨by decide, by decide⟩, _, rfl, _, _, rfl, rfl, _, _, rfl, rfl, ⟨by omega, by omega⟩, q⟩
    · rw [if_neg (fun z => c1 (decide_eq_true z))] at q
      refine ⟨_, rfl, _, rfl, _, _, rfl, rfl, _, rfl, ?_⟩
      refine ite2 (fun c2 => ?_) (fun c2 => ?_)
      · rw [if_pos (of_decide_eq_true c2)] at q
        exact ⟨_, rfl, _, _, rfl, rfl, _, _, rfl, rfl, .inl ⟨by decide, by decide⟩, _, rfl, _, _, rfl, rfl, _, _, rfl, rfl, ⟨by omega, by omega⟩, q⟩
      · rw [if_neg (fun z => c2 (decide_eq_true z))] at q
        exact q
abbrev s_clip_at : Stmt := top 41
theorem sc_clip_at : FnScope ["clips", "frame", "place", "clip"] ["clips", "frame"] (defScope s_clip_at) := ⟨rfl, rfl, rfl, by decide +kernel, rfl, by decide +kernel, by decide +kernel⟩
theorem ok_clip_at {f : Addr} {fd : FuncData} (F : Fun K "clip_at" "clip_at" s_clip_at f fd) (T : Txt K mg) (D_end_of : Def P w K mg base CX0 "end_of" 1 ["clip"] (spEnd K)) : FnOk P w K mg base CX0 2 f fd ["clips", "frame"] (spClipAt K) := by
  refine F.ok sc_clip_at (fun vs H Q E h => ?_) (fun cdv A outer s H vs Q E hr h => ?_)
  · obtain ⟨a, us, cs, f, rfl, _⟩ := h
    rfl
  · obtain ⟨a, us, cs, f, rfl, hU, hC, q⟩ := h
    refine ⟨_, (pss_cons (ps_for PassesOwn.never rfl (kpiET K (by rfl) T.enumerate_ (pa_cons (pv 0) pa_nil)) (kpgT K (n := 2) rfl (pgs_cons (pg_name (i := 2) sc_clip_at.nd rfl (by first | exact Or.inl rfl | exact Or.inr rfl)) (pgs_cons (pg_name (i := 3) sc_clip_at.nd rfl (by first | exact Or.inl rfl | exact Or.inr rfl)) pgs_nil)))
        (pss_one (ps_if (pt_chain op_le op_lt (pe_ix (kixT K) (pv 3) pe_int (fun _ _ => rfl)) (pv 1) (pe_call D_end_of.ok (hr.mono (by decide)) rfl D_end_of.mgf D_end_of.kp D_end_of.b .nil pass0 (pa_cons (pv 3) pa_nil)))
          (pss_one (ps_ret (pv 2)))
          pss_nil)))
      (pss_one (ps_ret pe_non))), ?_⟩
    have hul := hC.length
    refine ⟨_, rfl, a, us, rfl, SqT.of hU, ?_⟩
    refine for_ET (xs := us) (fun i σ H' => Ex H H' ∧ (∃ x y, σ = [some (.ref a), some (.int f), x, y]) ∧ ∀ j < i, ∀ d, cs[j]? = some d → ¬ d.here f) ⟨Ex.refl _, ⟨_, _, rfl⟩, fun j hj => absurd hj (Nat.not_lt_zero _)⟩ (fun i σ H' _ p => SqT.of (p.1 _ _ hU)) ?_ ?_
    · rintro i v σ H1 t hv ⟨e1, ⟨x, y, rfl⟩, hno⟩ ht
      obtain ⟨c, hc, hcv⟩ := pr_get hC hv
      have f1 := Ex.new (o := .tup [.int (i : Nat), v]) ht
      have k1 : upd H1 t (.tup [.int (i : Nat), v]) t = some (.tup [.int (i : Nat), v]) := upd_same
      generalize upd H1 t (.tup [.int (i : Nat), v]) = H2 at f1 k1 ⊢
      have e2 := e1.trans f1
      have hcv := hcv.tk (TK.ex e2)
      obtain ⟨ca, u, rfl, hca, hu⟩ := id hcv
      refine ⟨t, _, rfl, SqT.of k1, rfl, _, _, rfl, _, _, rfl, rfl, ?_⟩
      refine ⟨_, rfl, ca, _, _, _, rfl, rfl, SqT.of hca, rfl, _, rfl, _, _, rfl, rfl, _, rfl, ?_⟩
      have next : ¬ c.here f → Ex H H2 ∧ (∃ x y, [some (V.ref a), some (.int f), some (.int (i : Nat)), some (.ref ca)] = [some (.ref a), some (.int f), x, y]) ∧ ∀ j < i + 1, ∀ d, cs[j]? = some d → ¬ d.here f := fun no =>
        ⟨e2, ⟨_, _, rfl⟩, fun j hj d hd => by
          by_cases e : j = i
          · subst e
            rw [hc] at hd
            cases hd
            exact no
          · exact hno j (by omega) d hd⟩
      refine ite2 (fun c1 => ?_) (fun c1 => ⟨_, rfl, iteF (next fun z => c1 (decide_eq_true z.1))⟩)
      have c1 := of_decide_eq_true c1
      refine ⟨_, rfl, _, c, rfl, hcv, _, _, rfl, rfl, _, rfl, ?_⟩
      refine ite2 (fun c2 => ?_) (fun c2 => next fun z => c2 (decide_eq_true z.2))
      have c2 := of_decide_eq_true c2
      exact ⟨_, rfl, q (some i) H2 e2 ⟨c, hc, ⟨c1, c2⟩, hno⟩⟩
    · rintro σ H1 ⟨e1, ⟨x, y, rfl⟩, hno⟩
      refine q none H1 e1 fun c hc => ?_
      obtain ⟨j, hj⟩ := List.getElem?_of_mem hc
      exact hno j (by rw [hul]; exact (List.getElem?_eq_some_iff.mp hj).1) c hj
abbrev s_lane : Stmt := top 43
theorem sc_lane : FnScope ["clips", "frame", "place", "clip"] ["clips", "frame"] (defScope s_lane) := ⟨rfl, rfl, rfl, by decide +kernel, rfl, by decide +kernel, by decide +kernel⟩
def spLaneF (K : PySem.W.Frag) : Sp := fun vs H Q _ => ∃ a us cs f, vs = [.ref a, .int f] ∧ H a = some (.tup us) ∧ ClsV H us cs ∧ (∀ c ∈ cs, c.Num) ∧ ∀ o v H', Ex H H' → First cs f o → LnV H' v cs f o → Q v H'
theorem ok_lane {f : Addr} {fd : FuncData} (F : Fun K "lane" "lane" s_lane f fd) (T : Txt K mg) (D_clip_at : Def P w K mg base CX0 "clip_at" 2 ["clips", "frame"] (spClipAt K)) (D_level_at : Def P w K mg base CX0 "level_at" 1 ["clip", "frame"] (spLevelF K)) : FnOk P w K mg base CX0 3 f fd ["clips", "frame"] (spLaneF K) := by
  refine F.ok sc_lane (fun vs H Q E h => ?_) (fun cdv A outer s H vs Q E hr h => ?_)
  · obtain ⟨a, us, cs, f, rfl, _⟩ := h
    rfl
  · obtain ⟨a, us, cs, f, rfl, hU, hC, kC, q⟩ := h
    refine ⟨_, (pss_cons (ps_set (i := 2) sc_lane.nd rfl (by first | exact Or.inl rfl | exact Or.inr rfl) (pe_call D_clip_at.ok (hr.mono (by decide)) rfl D_clip_at.mgf D_clip_at.kp D_clip_at.b .nil pass0 (pa_cons (pv 0) (pa_cons (pv 1) pa_nil))))
      (pss_cons (ps_if (pt_cmpR op_isN (pv 2) pe_non (nomark _))
        (pss_one (ps_ret pe_non))
        pss_nil)
      (pss_cons (ps_set (i := 3) sc_lane.nd rfl (by first | exact Or.inl rfl | exact Or.inr rfl) (pe_ix (kixT K) (pv 0) (pv 2) (fun _ _ => rfl)))
      (pss_one (ps_ret (pe_tup (pa_cons (pe_ix (kixT K) (pv 3) pe_int (fun _ _ => rfl)) (pa_cons (pe_call D_level_at.ok (hr.mono (by decide)) rfl D_level_at.mgf D_level_at.kp D_level_at.b .nil pass0 (pa_cons (pv 3) (pa_cons (pv 1) pa_nil))) pa_nil)))))))), ?_⟩
    refine ⟨_, rfl, _, rfl, a, us, cs, f, rfl, hU, hC, fun o H1 e1 ho => ?_⟩
    refine ⟨_, rfl, rfl, _, rfl, ?_⟩
    cases o with
    | none =>
      refine iteD rfl ?_
      exact q none _ H1 e1 ho rfl
    | some i =>
      refine iteN (fun z => nomatch z) ?_
      obtain ⟨c, hc, hh, _⟩ := id ho
      obtain ⟨v, hv, hcv⟩ := pr_getR hC hc
      have hcv := hcv.tk (TK.ex e1)
      obtain ⟨ca, u, rfl, hca, hu⟩ := id hcv
      refine ⟨_, rfl, _, rfl, a, _, _, _, rfl, rfl, SqT.of (e1 _ _ hU), atI_nat hv, ?_⟩
      refine ⟨_, rfl, ca, _, _, _, rfl, rfl, SqT.of hca, rfl, ?_⟩
      refine ⟨_, rfl, _, rfl, _, c, f, rfl, hcv, kC c (List.mem_of_getElem? hc), hh.1, hh.2, ?_⟩
      refine ⟨(by show 2 ≤ sizeLine; decide), fun t ht => ?_⟩
      have f1 := Ex.new (o := .tup [u, .int (c.lev f)]) ht
      exact q (some i) _ _ (e1.trans f1) ho ⟨c, t, u, hc, rfl, upd_same, hu.tk (TK.ex f1)⟩
abbrev s_is_full_picture : Stmt := top 34
theorem sc_is_full_picture : FnScope ["picture", "width", "height", "across", "down", "_", "covers", "starts", "y", "start", "cover"] ["picture", "width", "height"] (defScope s_is_full_picture) := ⟨rfl, rfl, rfl, by decide +kernel, rfl, by decide +kernel, by decide +kernel⟩
def spFullP (K : PySem.W.Frag) : Sp := fun vs H Q _ => ∃ v p m wd hg, vs = [v, .int wd, .int hg] ∧ PcV H v p ∧ p.Ok m ∧ m ≤ 12 ∧ 1 ≤ wd ∧ wd ≤ 100 ∧ 1 ≤ hg ∧ hg ≤ 100 ∧ ∀ b H', Ex H H' → (b = true ↔ Full (some (.pic p)) wd hg) → Q (.bl b) H'
theorem all_app {bs : List Bool} {b : Bool} : (bs ++ [b]).all id = true ↔ bs.all id = true ∧ b = true := by
  rw [List.all_append]
  cases bs.all id <;> cases b <;> simp
theorem cover_at {p : Pc} {x y : Int} (h : p.In x y) : (opAt (some (.pic p)) x y).2 = p.cs.getD (y * p.w + x).toNat 0 := by
  show (p.at x y).2 = _
  unfold Pc.at
  rw [if_pos h]
theorem ok_is_full_picture {f : Addr} {fd : FuncData} (F : Fun K "_is_full_picture" "_is_full_picture" s_is_full_picture f fd) (T : Txt K mg) : FnOk P w K mg base CX0 1 f fd ["picture", "width", "height"] (spFullP K) := by
  refine F.ok sc_is_full_picture (fun vs H Q E h => ?_) (fun cdv A outer s H vs Q E hr h => ?_)
  · obtain ⟨v, p, m, wd, hg, rfl, _⟩ := h
    rfl
  · obtain ⟨v, p, m, wd, hg, rfl, ⟨a, va, ca, rfl, hp, hva, hca⟩, k, hm, wd1, wd2, hg1, hg2, q⟩ := h
    have w1 := k.w1
    have w2 := k.w2
    have h1 := k.h1
    have h2 := k.h2
    refine ⟨_, (pss_cons (ps_asg (pv 0) (kpgT K (n := 4) rfl (pgs_cons (pg_name (i := 3) sc_is_full_picture.nd rfl (by first | exact Or.inl rfl | exact Or.inr rfl)) (pgs_cons (pg_name (i := 4) sc_is_full_picture.nd rfl (by first | exact Or.inl rfl | exact Or.inr rfl)) (pgs_cons (pg_name (i := 5) sc_is_full_picture.nd rfl (by first | exact Or.inl rfl | exact Or.inr rfl)) (pgs_cons (pg_name (i := 6) sc_is_full_picture.nd rfl (by first | exact Or.inl rfl | exact Or.inr rfl)) pgs_nil))))))
      (pss_cons (ps_if (PW.pt (pw_or (pt_cmpR op_gt (pv 1) (pv 3) (nomark _)) (pw_or1 (pt_cmpR op_gt (pv 2) (pv 4) (nomark _)))))
        (pss_one (ps_ret pe_bl))
        pss_nil)
      (pss_cons (ps_setLc (i := 7)  (own := [("y", 8)]) (tt := tYes) rfl sc_is_full_picture.nd rfl rfl (sw_true rfl rfl rfl (by decide +kernel)) (pi_range1 (by rfl) T.range_ (pa_cons (pv 2) pa_nil)) (blkOk_by (N := ["picture", "width", "height", "across", "down", "_", "covers", "starts", "y", "start", "cover"]) (sc := defScope s_is_full_picture) (by decide +kernel)) (fun _ _ _ _ _ => (pg_name (i := 8) sc_is_full_picture.nd rfl (by first | exact Or.inl rfl | exact Or.inr rfl))) (fun _ _ _ _ _ => pts_nil) (fun _ _ _ _ _ => (pe_op op_mul (pv 8) (pv 3))))
      (pss_one (ps_ret (pe_callB (kall K rfl) (by rfl) T.all_ bt_all (pa_cons (pe_lc2 (own := [("start", 9), ("cover", 10)]) (vs1 := [10]) rfl sc_is_full_picture.nd (kpiL K (pv 7)) (blkOk_by (N := ["picture", "width", "height", "across", "down", "_", "covers", "starts", "y", "start", "cover"]) (sc := defScope s_is_full_picture) (by decide +kernel)) (by decide) (fun _ _ _ _ _ => (pg_name (i := 9) sc_is_full_picture.nd rfl (by first | exact Or.inl rfl | exact Or.inr rfl))) (fun _ _ _ _ _ => pts_nil) (fun _ _ _ _ _ => (kpiT K (pe_slice (kslA K) (pv 6) (po_some (pv 9)) (po_some (pe_op op_add (pv 9) (pv 1)))))) (fun _ _ _ _ _ => (pg_name (i := 10) sc_is_full_picture.nd rfl (by first | exact Or.inl rfl | exact Or.inr rfl))) (fun _ _ _ _ _ => pts_nil) (fun _ _ _ _ _ => (pe_cmpR op_eq (pv 10) (pe_glob (v := .int 256) rfl T.COVER_MOST_.choose_spec ⟨_, rfl⟩) (nomark _)))) pa_nil))))))), ?_⟩
    refine ⟨_, rfl, a, _, rfl, SqT.of hp, rfl, _, _, rfl, _, _, rfl, _, _, rfl, _, _, rfl, rfl, ?_⟩
    have out : ∀ x y : Int, 0 ≤ x → x < wd → 0 ≤ y → y < hg → ¬ p.In x y → Q (.bl false) H := fun x y x0 x1 y0 y1 no => q false H (Ex.refl _) ⟨(fun z => nomatch z), fun z => by
      have e := z.2 x y x0 x1 y0 y1
      have e : (p.at x y).2 = 256 := e
      unfold Pc.at at e
      rw [if_neg no] at e
      exact absurd e (by decide)⟩
    refine ⟨_, rfl, _, rfl, _, _, rfl, rfl, _, rfl, ?_⟩
    refine ite2 (fun c1 => iteT (out (wd - 1) 0 (by omega) (by omega) (by omega) (by omega) fun z => ?_)) (fun c1 => ?_)
    · have := of_decide_eq_true c1
      have := z.2.1
      omega
    have n1 : ¬ wd > p.w := fun z => c1 (decide_eq_true z)
    refine ⟨_, rfl, _, rfl, _, _, rfl, rfl, _, rfl, ?_⟩
    refine ite2 (fun c2 => out 0 (hg - 1) (by omega) (by omega) (by omega) (by omega) fun z => ?_) (fun c2 => ?_)
    · have := of_decide_eq_true c2
      have := z.2.2.2
      omega
    have n2 : ¬ hg > p.h := fun z => c2 (decide_eq_true z)
    -- starts
    refine ⟨_, rfl, _, rfl, by omega, by omega, fun D hD => ?_⟩
    refine lc_range (lo := 0) (n := hg.toNat) (fun i H' => Ex H H' ∧ H' D = some (.lst (((List.range i).map fun (k : Nat) => (k : Int) * p.w).map V.int))) ⟨Ex.new hD, upd_same⟩ ?_ ?_
    · rintro i H' hi ⟨e, hI⟩
      refine ⟨rfl, ?_⟩
      refine lcY ?_
      refine ⟨_, rfl, _, rfl, _, _, rfl, rfl, .inl ⟨by omega, by omega⟩, ?_⟩
      refine ⟨_, hI, slineL (by rw [List.length_map, List.length_map, List.length_range]; omega), e.mut hD, ?_⟩
      rw [upd_same, List.range_succ, List.map_append, List.map_append, Int.zero_add]
      rfl
    rintro H1 ⟨e1, hS⟩
    have hca1 := e1 _ _ hca
    -- all
    refine ⟨_, rfl, D, rfl, ⟨_, SqL.of hS⟩, fun D2 hD2 => ?_⟩
    have hlen : (((List.range hg.toNat).map fun (k : Nat) => (k : Int) * p.w).map V.int).length = hg.toNat := by rw [List.length_map, List.length_map, List.length_range]
    refine turns (walk_list (K := K) (a := D) (xs := ((List.range hg.toNat).map fun (k : Nat) => (k : Int) * p.w).map V.int)) (fun i H' => Ex H1 H' ∧ ∃ bs : List Bool, H' D2 = some (.lst (bs.map V.bl)) ∧ bs.length = i * wd.toNat ∧ (bs.all id = true ↔ ∀ x y : Int, 0 ≤ x → x < wd → 0 ≤ y → y < i → (opAt (some (.pic p)) x y).2 = 256)) ⟨Ex.new hD2, [], upd_same, by simp, by simp; intro x y _ _ a b; omega⟩ (fun i H' _ p => SqL.of (p.1 _ _ hS)) ?_ ?_
    · rintro i x H' H'' hi ⟨e2, bs, hB, hbl, hb⟩ ⟨rfl, hx⟩
      rw [hlen] at hi
      have ex : x = .int ((i : Int) * p.w) := by
        rw [List.getElem?_map, List.getElem?_map, List.getElem?_range hi] at hx
        exact (Option.some.inj hx).symm
      subst ex
      refine ⟨rfl, ?_⟩
      refine lcY ?_
      have l0 : 0 ≤ (i : Int) * p.w := Int.mul_nonneg (by omega) (by omega)
      have l1 : (i : Int) * p.w + wd ≤ p.cs.length := by
        have := k.cl
        have z : (i : Int) * p.w + p.w ≤ p.h * p.w := by
          have : ((i : Int) + 1) * p.w ≤ p.h * p.w := Int.mul_le_mul_of_nonneg_right (by omega) (by omega)
          rwa [Int.add_mul, Int.one_mul] at this
        rw [this, Int.mul_comm p.w p.h]
        omega
      refine ⟨_, rfl, _, rfl, _, rfl, _, rfl, _, rfl, _, _, rfl, rfl, _, rfl, ?_⟩
      refine slA (e2 _ _ hca1) fun c3 H3 e3 hc3 => ?_
      rw [cutV_mid l0 (by omega) (by rw [List.length_map]; exact l1)] at hc3
      have kc := k.cl
      have hl3 : (((p.cs.map V.int).drop ((i : Int) * p.w).toNat).take ((i : Int) * p.w + wd - (i : Int) * p.w).toNat).length = wd.toNat := by
        rw [List.length_take, List.length_drop, List.length_map]
        omega
      refine ⟨c3, rfl, ⟨_, SqT.of hc3⟩, ?_⟩
      refine turns (walk_tup (K := K) (a := c3) (xs := ((p.cs.map V.int).drop ((i : Int) * p.w).toNat).take ((i : Int) * p.w + wd - (i : Int) * p.w).toNat)) (fun j H' => Ex H1 H' ∧ H' c3 = H3 c3 ∧ ∃ bs : List Bool, H' D2 = some (.lst (bs.map V.bl)) ∧ bs.length = i * wd.toNat + j ∧ (bs.all id = true ↔ (∀ x y : Int, 0 ≤ x → x < wd → 0 ≤ y → y < i → (opAt (some (.pic p)) x y).2 = 256) ∧ ∀ x : Int, 0 ≤ x → x < j → (opAt (some (.pic p)) x i).2 = 256)) ⟨e2.trans e3, rfl, bs, e3 _ _ hB, hbl, ?_⟩ (fun j H' _ p => SqT.of (p.2.1.trans hc3)) ?_ ?_
      · rw [hb]
        exact ⟨fun z => ⟨z, fun x a b => by omega⟩, fun z => z.1⟩
      · rintro j x H4 H5 hj ⟨e4, hc4, bs, hB, hbl, hb⟩ ⟨rfl, hx⟩
        rw [hl3] at hj
        have hin : p.In (j : Int) (i : Int) := ⟨by omega, by omega, by omega, by omega⟩
        have hk : ((i : Int) * p.w + j).toNat < p.cs.length := by omega
        have ex : x = .int (opAt (some (.pic p)) j i).2 := by
          rw [cover_at hin, List.getD_eq_getElem?_getD, List.getElem?_eq_getElem hk]
          rw [List.getElem?_take, if_pos (by omega), List.getElem?_drop, List.getElem?_map] at hx
          have e5 : ((i : Int) * p.w).toNat + j = ((i : Int) * p.w + j).toNat := by omega
          rw [e5, List.getElem?_eq_getElem hk] at hx
          exact (Option.some.inj hx).symm
        subst ex
        refine ⟨rfl, ?_⟩
        refine lcY ?_
        refine ⟨_, rfl, rfl, ?_⟩
        have hbl2 : bs.length ≤ 20000 := by
          have : i * wd.toNat ≤ 100 * 100 := Nat.mul_le_mul (by omega) (by omega)
          omega
        refine ⟨_, hB, slineL (by rw [List.length_map]; omega), e4.mut hD2, ?_, bs ++ [decide (V.int (opAt (some (.pic p)) j i).2 = V.int 256)], by rw [upd_same, List.map_append]; rfl, by rw [List.length_append]; simp; omega, ?_⟩
        · rw [upd_ne (ne_of (hc4.trans hc3) hB (by intro z; cases z))]
          exact hc4
        · rw [all_app, hb, and_assoc]
          refine and_congr_right fun _ => ?_
          constructor
          · rintro ⟨z1, z2⟩ x a b
            by_cases ex : x = j
            · rw [ex]
              exact V.int.inj (of_decide_eq_true z2)
            · exact z1 x a (by omega)
          · intro z
            exact ⟨fun x a b => z x a (by omega), decide_eq_true (congrArg V.int (z j (by omega) (by omega)))⟩
      · rintro H4 ⟨e4, hc4, bs, hB, hbl, hb⟩
        rw [hl3] at hbl hb
        refine ⟨e4, bs, hB, by rw [hbl, Nat.add_mul, Nat.one_mul], ?_⟩
        rw [hb]
        constructor
        · rintro ⟨z1, z2⟩ x y a b c d
          by_cases ey : y = i
          · rw [ey]
            exact z2 x a (by omega)
          · exact z1 x y a b c (by omega)
        · intro z
          exact ⟨fun x y a b c d => z x y a b c (by omega), fun x a b => z x i a (by omega) (by omega) (by omega)⟩
    · rintro H2 ⟨e2, bs, hB, hbl, hb⟩
      rw [hlen] at hb
      refine ⟨D2, bs, rfl, SqL.of hB, ?_⟩
      refine q _ _ (e1.trans e2) ?_
      rw [hb]
      exact ⟨fun z => ⟨rfl, fun x y a b c d => z x y a b c (by omega)⟩, fun z x y a b c d => z.2 x y a b c (by omega)⟩
abbrev s_is_full : Stmt := top 31
theorem sc_is_full : FnScope ["paint", "width", "height"] ["paint", "width", "height"] (defScope s_is_full) := ⟨rfl, rfl, rfl, by decide +kernel, rfl, by decide +kernel, by decide +kernel⟩
theorem ok_is_full {f : Addr} {fd : FuncData} (F : Fun K "is_full" "is_full" s_is_full f fd) (T : Txt K mg) (D_is_full_picture : Def P w K mg base CX0 "_is_full_picture" 1 ["picture", "width", "height"] (spFullP K)) : FnOk P w K mg base CX0 2 f fd ["paint", "width", "height"] (spFull K) := by
  refine F.ok sc_is_full (fun vs H Q E h => ?_) (fun cdv A outer s H vs Q E hr h => ?_)
  · obtain ⟨v, o, m, x, y, rfl, _⟩ := h
    rfl
  · obtain ⟨v, o, m, wd, hg, rfl, ho, k, hm, x0, x1, y0, y1, q⟩ := h
    refine ⟨_, (pss_cons (ps_if (pt_cmpR op_isN (pv 0) pe_non (nomark _))
        (pss_one (ps_ret pe_bl))
        pss_nil)
      (pss_cons (ps_if (pt_cmpR op_ne (pe_ix (kixT K) (pv 0) pe_int (fun _ _ => rfl)) pe_str (nomark _))
        (pss_one (ps_ret pe_bl))
        pss_nil)
      (pss_one (ps_ret (pe_call D_is_full_picture.ok (hr.mono (by decide)) rfl D_is_full_picture.mgf D_is_full_picture.kp D_is_full_picture.b .nil pass0 (pa_cons (pe_ix (kixT K) (pv 0) pe_int (fun _ _ => rfl)) (pa_cons (pv 1) (pa_cons (pv 2) pa_nil)))))))), ?_⟩
    refine ⟨_, rfl, rfl, _, rfl, ?_⟩
    cases o with
    | none =>
      cases ho
      refine iteD rfl ?_
      exact q false _ (Ex.refl _) ⟨(fun z => nomatch z), fun z => nomatch z.1⟩
    | some p =>
      obtain ⟨a, xs, rfl, ha⟩ := PaV.mk ho
      refine iteN (fun z => nomatch z) ?_
      cases p with
      | solid c =>
        obtain ⟨a', e, ha⟩ := ho
        cases e
        refine ⟨_, rfl, a, _, _, _, rfl, rfl, SqT.of ha, rfl, rfl, _, rfl, ?_⟩
        refine iteWn (by decide +kernel) ?_
        exact q true _ (Ex.refl _) ⟨fun _ => ⟨rfl, fun _ _ _ _ _ _ => rfl⟩, fun _ => rfl⟩
      | steps f s z =>
        obtain ⟨a', e, ha⟩ := ho
        cases e
        refine ⟨_, rfl, a, _, _, _, rfl, rfl, SqT.of ha, rfl, rfl, _, rfl, ?_⟩
        refine iteWn (by decide +kernel) ?_
        exact q true _ (Ex.refl _) ⟨fun _ => ⟨rfl, fun _ _ _ _ _ _ => rfl⟩, fun _ => rfl⟩
      | pic p =>
        obtain ⟨a', u, e, ha, hu⟩ := ho
        cases e
        refine ⟨_, rfl, a, _, _, _, rfl, rfl, SqT.of ha, rfl, rfl, _, rfl, ?_⟩
        refine iteEn (by decide +kernel) ?_
        exact ⟨_, rfl, a, _, _, _, rfl, rfl, SqT.of ha, rfl, _, rfl, _, rfl, u, p, m, wd, hg, rfl, hu, k, hm, x0, x1, y0, y1, fun b H' e hb => q b H' e hb⟩
abbrev s_extent_of : Stmt := top 63
theorem sc_extent_of : FnScope ["film", "layer", "frame", "x", "y", "_", "width", "height", "left", "top", "right", "bottom"] ["film", "layer", "frame"] (defScope s_extent_of) := ⟨rfl, rfl, rfl, by decide +kernel, rfl, by decide +kernel, by decide +kernel⟩
def box4 (x : Fi) (l : La) (f : Int) : Rc := ⟨if (l.corner f).1 > 0 then (l.corner f).1 else 0, if (l.corner f).2 > 0 then (l.corner f).2 else 0, if (l.corner f).1 + l.box.w < x.w then (l.corner f).1 + l.box.w else x.w, if (l.corner f).2 + l.box.h < x.h then (l.corner f).2 + l.box.h else x.h⟩
/-- what lies on the canvas -/
def Fi.ext (x : Fi) (l : La) (f : Int) : Option Rc :=
  if (box4 x l f).l ≥ (box4 x l f).r ∨ (box4 x l f).t ≥ (box4 x l f).b then none else some (box4 x l f)
def OptRcV (H : Hp) (v : V) : Option Rc → Prop
  | none => v = .non
  | some r => RcV H v r
theorem OptRcV.tk {H H' : Hp} {v : V} {o : Option Rc} (e : TK H H') (h : OptRcV H v o) : OptRcV H' v o := by
  cases o with
  | none => exact h
  | some r =>
    obtain ⟨a, rfl, ha⟩ := h
    exact ⟨a, rfl, e _ _ ha⟩
def spExt (K : PySem.W.Frag) (C : Addr) : Sp := fun vs H Q _ => ∃ (fv v : V) (x : Fi) (l : La) (f : Int), vs = [fv, v, .int f] ∧ FlV C H fv x ∧ LaV H v l ∧ l.Vd ∧ ∀ r H', Ex H H' → OptRcV H' r (x.ext l f) → Q r H'
theorem ok_extent_of {f C : Addr} {fd : FuncData} (F : Fun K "extent_of" "extent_of" s_extent_of f fd) (T : Txt K mg) (OT_Film : FilmT K C) (D_corner_of : Def P w K mg base CX0 "_corner_of" 3 ["layer", "frame"] (spCorner K)) (PF_Film_width : Prp P w K mg base C "width" 1 (spGetI C Fi.w)) (PF_Film_height : Prp P w K mg base C "height" 1 (spGetI C Fi.h)) : FnOk P w K mg base CX0 4 f fd ["film", "layer", "frame"] (spExt K C) := by
  refine F.ok sc_extent_of (fun vs H Q E h => ?_) (fun cdv A outer s H vs Q E hr h => ?_)
  · obtain ⟨fv, v, x, l, fr, rfl, _⟩ := h
    rfl
  · obtain ⟨fv, v, x, l, fr, rfl, hf, hv, k, q⟩ := h
    obtain ⟨a, bv, ma, wv, ca, us, ws, rfl, ha, hb, _⟩ := id hv
    refine ⟨_, (pss_cons (ps_asg (pe_call D_corner_of.ok (hr.mono (by decide)) rfl D_corner_of.mgf D_corner_of.kp D_corner_of.b .nil pass0 (pa_cons (pv 1) (pa_cons (pv 2) pa_nil))) (kpgT K (n := 2) rfl (pgs_cons (pg_name (i := 3) sc_extent_of.nd rfl (by first | exact Or.inl rfl | exact Or.inr rfl)) (pgs_cons (pg_name (i := 4) sc_extent_of.nd rfl (by first | exact Or.inl rfl | exact Or.inr rfl)) pgs_nil))))
      (pss_cons (ps_asg (pe_ix (kixT K) (pv 1) pe_int (fun _ _ => rfl)) (kpgT K (n := 4) rfl (pgs_cons (pg_name (i := 5) sc_extent_of.nd rfl (by first | exact Or.inl rfl | exact Or.inr rfl)) (pgs_cons (pg_name (i := 5) sc_extent_of.nd rfl (by first | exact Or.inl rfl | exact Or.inr rfl)) (pgs_cons (pg_name (i := 6) sc_extent_of.nd rfl (by first | exact Or.inl rfl | exact Or.inr rfl)) (pgs_cons (pg_name (i := 7) sc_extent_of.nd rfl (by first | exact Or.inl rfl | exact Or.inr rfl)) pgs_nil))))))
      (pss_cons (ps_par (i := 8) (j := 9) rfl sc_extent_of.nd rfl rfl (by decide) rfl rfl (pa_cons (pe_callB (call_max2 rfl) (by rfl) T.max_ bt_max (pa_cons pe_int (pa_cons (pv 3) pa_nil))) (pa_cons (pe_callB (call_max2 rfl) (by rfl) T.max_ bt_max (pa_cons pe_int (pa_cons (pv 4) pa_nil))) pa_nil)) (by rfl))
      (pss_cons (ps_par (i := 10) (j := 11) rfl sc_extent_of.nd rfl rfl (by decide) rfl rfl (pa_cons (pe_callB (call_min2 rfl) (by rfl) T.min_ bt_min (pa_cons (pe_prop (pv 0) OT_Film.cl PF_Film_width.hp PF_Film_width.ok (hr.mono (by decide)) PF_Film_width.b .nil pass0 rfl) (pa_cons (pe_op op_add (pv 3) (pv 6)) pa_nil))) (pa_cons (pe_callB (call_min2 rfl) (by rfl) T.min_ bt_min (pa_cons (pe_prop (pv 0) OT_Film.cl PF_Film_height.hp PF_Film_height.ok (hr.mono (by decide)) PF_Film_height.b .nil pass0 rfl) (pa_cons (pe_op op_add (pv 4) (pv 7)) pa_nil))) pa_nil)) (by rfl))
      (pss_cons (ps_if (PW.pt (pw_or (pt_cmpR op_ge (pv 8) (pv 10) (nomark _)) (pw_or1 (pt_cmpR op_ge (pv 9) (pv 11) (nomark _)))))
        (pss_one (ps_ret pe_non))
        pss_nil)
      (pss_one (ps_ret (pe_tup (pa_cons (pv 8) (pa_cons (pv 9) (pa_cons (pv 10) (pa_cons (pv 11) pa_nil)))))))))))), ?_⟩
    rw [start_nrm (Nat.le_of_ble_eq_true rfl)]; dsimp only [startL]
    refine ⟨_, rfl, _, rfl, .ref a, l, fr, rfl, hv, k, fun r H1 e1 hr1 => ?_⟩
    obtain ⟨ra, rfl, hra⟩ := id hr1
    refine ⟨ra, _, rfl, SqT.of hra, rfl, _, _, rfl, _, _, rfl, rfl, ?_⟩
    obtain ⟨ba, rfl, hba⟩ := hb.tk (TK.ex e1)
    have hf1 := hf.ex e1
    obtain ⟨fa, dx, L, ls, rfl, hfa, _⟩ := id hf1
    refine ⟨_, rfl, a, _, 1, _, rfl, rfl, SqT.of (e1 _ _ ha), rfl, ?_⟩
    refine ⟨ba, _, rfl, SqT.of hba, rfl, _, _, rfl, _, _, rfl, _, _, rfl, _, _, rfl, rfl, ?_⟩
    dsimp only [List.set]
    refine ⟨_, rfl, _, _, rfl, _, rfl, _, _, rfl, _, _, rfl, ?_⟩
    dsimp only [List.set]
    refine ⟨_, rfl, fa, dx, _, rfl, hfa, .ref fa, x, rfl, hf1, _, rfl, _, rfl, _, _, rfl, rfl, _, _, rfl, ?_⟩
    refine ⟨_, rfl, fa, dx, _, rfl, hfa, .ref fa, x, rfl, hf1, _, rfl, _, rfl, _, _, rfl, rfl, _, _, rfl, _, _, rfl, ?_⟩
    refine ⟨_, rfl, _, rfl, _, _, rfl, rfl, _, rfl, ?_⟩
    dsimp only [List.set]
    have no : (box4 x l fr).l ≥ (box4 x l fr).r ∨ (box4 x l fr).t ≥ (box4 x l fr).b → Q .non H1 := fun h => q .non H1 e1 (by unfold Fi.ext; rw [if_pos h]; exact rfl)
    refine ite2 (fun c1 => no (.inl (of_decide_eq_true c1))) (fun c1 => ?_)
    refine ⟨_, rfl, _, rfl, _, _, rfl, rfl, _, rfl, ?_⟩
    refine ite2 (fun c2 => no (.inr (of_decide_eq_true c2))) (fun c2 => ?_)
    refine ⟨_, rfl, _, rfl, _, rfl, _, rfl, (by show 4 ≤ sizeLine; decide), fun t ht => ?_⟩
    have f1 := Ex.new (o := .tup [.int (box4 x l fr).l, .int (box4 x l fr).t, .int (box4 x l fr).r, .int (box4 x l fr).b]) ht
    refine q (.ref t) _ (e1.trans f1) ?_
    unfold Fi.ext
    rw [if_neg (show ¬ ((box4 x l fr).l ≥ (box4 x l fr).r ∨ (box4 x l fr).t ≥ (box4 x l fr).b) from fun h => h.elim (fun h => c1 (decide_eq_true h)) fun h => c2 (decide_eq_true h))]
    exact ⟨t, rfl, upd_same⟩
abbrev s_item_of : Stmt := top 70
theorem sc_item_of : FnScope ["film", "layer", "frame", "_", "box", "what", "clips", "there", "extent", "corner", "opacity", "mode", "paint", "level", "hides"] ["film", "layer", "frame"] (defScope s_item_of) := ⟨rfl, rfl, rfl, by decide +kernel, rfl, by decide +kernel, by decide +kernel⟩
/-- an item of a frame -/
structure It where
  ext : Rc
  at_ : Pt
  pa : Option Pa
  lv : Int
  md : Md
  hides : Bool
def ItV (H : Hp) (v : V) (i : It) : Prop := ∃ a ev cv pv mv, v = .ref a ∧ H a = some (.tup [ev, cv, pv, .int i.lv, mv, .bl i.hides]) ∧ RcV H ev i.ext ∧ PtV H cv i.at_ ∧ OpV H pv i.pa ∧ MdV H mv i.md
theorem ItV.tk {H H' : Hp} {v : V} {i : It} (e : TK H H') (h : ItV H v i) : ItV H' v i := by
  obtain ⟨a, ev, cv, pv, mv, rfl, h1, h2, h3, h4, h5⟩ := h
  exact ⟨a, ev, cv, pv, mv, rfl, e _ _ h1, h2.tk e, h3.tk e, h4.tk e, h5.tk e⟩
def OptItV (H : Hp) (v : V) : Option It → Prop
  | none => v = .non
  | some i => ItV H v i
theorem OptItV.tk {H H' : Hp} {v : V} {o : Option It} (e : TK H H') (h : OptItV H v o) : OptItV H' v o := by
  cases o with
  | none => exact h
  | some i => exact ItV.tk e h
/-- the mode of what a layer does -/
def Wh.md : Wh → Md
  | .invert => .invert | .shift n => .shift n
  | .paint _ m => if m = "over" then .over else if m = "add" then .add else .times
/-- the clip that is there at a frame -/
def La.there (l : La) (f : Int) : Option Cl := l.cs.find? fun c => decide (c.s ≤ f) && decide (f < c.fin)
def La.lev (l : La) (f : Int) (c : Cl) : Int := match l.wh with
  | .paint o _ => o * c.lev f / 256
  | _ => 256
noncomputable def fullB (o : Option Pa) (w h : Int) : Bool := @decide (Full o w h) (Classical.propDecidable _)
theorem fullB_iff {o : Option Pa} {w h : Int} : fullB o w h = true ↔ Full o w h := @decide_eq_true_iff _ (Classical.propDecidable _)
/-- the item of a layer at a frame -/
noncomputable def Fi.item (x : Fi) (l : La) (f : Int) : Option It := match l.there f, x.ext l f with
  | some c, some r => if l.lev f c = 0 then none else some ⟨r, l.corner f, c.pa, l.lev f c, l.wh.md, (decide (l.wh.md = .over) && decide (l.lev f c = 256) && fullB c.pa l.box.w l.box.h)⟩
  | _, _ => none
theorem there_some {l : La} {f : Int} {i : Nat} (h : First l.cs f (some i)) : ∃ c, l.cs[i]? = some c ∧ l.there f = some c ∧ c.here f := by
  obtain ⟨c, hc, hh, hb⟩ := h
  refine ⟨c, hc, ?_, hh⟩
  unfold La.there
  rw [List.find?_eq_some_iff_getElem]
  obtain ⟨hi, e⟩ := List.getElem?_eq_some_iff.mp hc
  refine ⟨by rw [decide_eq_true hh.1, decide_eq_true hh.2]; rfl, i, hi, e, fun j hj => ?_⟩
  have := hb j hj _ (List.getElem?_eq_getElem (by omega))
  by_cases k1 : l.cs[j].s ≤ f
  · have k2 : ¬ f < l.cs[j].fin := fun z => this ⟨k1, z⟩
    rw [decide_eq_true k1, decide_eq_false k2]
    rfl
  · rw [decide_eq_false k1]
    rfl
theorem there_none {l : La} {f : Int} (h : First l.cs f none) : l.there f = none := by
  unfold La.there
  rw [List.find?_eq_none]
  intro c hc z
  rw [Bool.and_eq_true, decide_eq_true_eq, decide_eq_true_eq] at z
  exact h c hc z
theorem Cl.lev_num (c : Cl) (k : c.Num) {f : Int} (h0 : c.s ≤ f) (h1 : f < c.fin) : 0 ≤ c.lev f ∧ c.lev f ≤ 256 := by
  have := k.fi0
  have := k.fo0
  unfold Cl.lev
  unfold Cl.fin at h1
  have aux : ∀ x y : Int, 0 ≤ x → x < y → 0 ≤ 256 * (x + 1) / (y + 1) ∧ 256 * (x + 1) / (y + 1) ≤ 256 := fun x y x0 xy => by
    refine ⟨Int.ediv_nonneg (by omega) (by omega), ?_⟩
    have : 256 * (x + 1) / (y + 1) < 257 := Int.ediv_lt_of_lt_mul (by omega) (by omega)
    omega
  split
  · exact aux _ _ (by omega) (by omega)
  · split
    · exact aux _ _ (by omega) (by omega)
    · omega
theorem md_items {o : Int} {m : Str} (h : m ∈ modes3) : (Wh.paint o m).md.items = [.str m] ∧ ((Wh.paint o m).md = .over ↔ m = "over") := by
  unfold modes3 at h
  simp only [List.mem_cons, List.not_mem_nil, or_false] at h
  have n1 : ¬ ("add" : Str) = "over" := by decide +kernel
  have n2 : ¬ ("times" : Str) = "over" := by decide +kernel
  have n3 : ¬ ("times" : Str) = "add" := by decide +kernel
  rcases h with rfl | rfl | rfl
  · exact ⟨by simp [Wh.md, Md.items, Md.word, Md.rest], by simp [Wh.md]⟩
  · exact ⟨by simp [Wh.md, Md.items, Md.word, Md.rest, n1], by simp [Wh.md, n1]⟩
  · exact ⟨by simp [Wh.md, Md.items, Md.word, Md.rest, n2, n3], by simp [Wh.md, n2, n3]⟩
def spItem (K : PySem.W.Frag) (C : Addr) : Sp := fun vs H Q _ => ∃ (fv v : V) (x : Fi) (l : La) (f : Int), vs = [fv, v, .int f] ∧ FlV C H fv x ∧ LaV H v l ∧ l.Vd ∧ ∀ r H', Ex H H' → OptItV H' r (x.item l f) → Q r H'
theorem ok_item_of {f C : Addr} {fd : FuncData} (F : Fun K "_item_of" "_item_of" s_item_of f fd) (T : Txt K mg) (OT_Film : FilmT K C) (D_lane : Def P w K mg base CX0 "lane" 3 ["clips", "frame"] (spLaneF K)) (D_extent_of : Def P w K mg base CX0 "extent_of" 4 ["film", "layer", "frame"] (spExt K C))
    (D_corner_of : Def P w K mg base CX0 "_corner_of" 3 ["layer", "frame"] (spCorner K)) (D_adjusts : Def P w K mg base CX0 "_adjusts" 1 ["what"] (spAdj K)) (D_is_full : Def P w K mg base CX0 "is_full" 2 ["paint", "width", "height"] (spFull K)) : FnOk P w K mg base CX0 5 f fd ["film", "layer", "frame"] (spItem K C) := by
  refine F.ok sc_item_of (fun vs H Q E h => ?_) (fun cdv A outer s H vs Q E hr h => ?_)
  · obtain ⟨fv, v, x, l, fr, rfl, _⟩ := h
    rfl
  · obtain ⟨fv, v, x, l, fr, rfl, hf, hv, k, q⟩ := h
    obtain ⟨a, bv, ma, wv, ca, us, ws, rfl, ha, hb, hma, hM, hw, hca, hC⟩ := id hv
    refine ⟨_, (pss_cons (ps_asg (pv 1) (kpgT K (n := 5) rfl (pgs_cons (pg_name (i := 3) sc_item_of.nd rfl (by first | exact Or.inl rfl | exact Or.inr rfl)) (pgs_cons (pg_name (i := 4) sc_item_of.nd rfl (by first | exact Or.inl rfl | exact Or.inr rfl)) (pgs_cons (pg_name (i := 3) sc_item_of.nd rfl (by first | exact Or.inl rfl | exact Or.inr rfl)) (pgs_cons (pg_name (i := 5) sc_item_of.nd rfl (by first | exact Or.inl rfl | exact Or.inr rfl)) (pgs_cons (pg_name (i := 6) sc_item_of.nd rfl (by first | exact Or.inl rfl | exact Or.inr rfl)) pgs_nil)))))))
      (pss_cons (ps_set (i := 7) sc_item_of.nd rfl (by first | exact Or.inl rfl | exact Or.inr rfl) (pe_call D_lane.ok (hr.mono (by decide)) rfl D_lane.mgf D_lane.kp D_lane.b .nil pass0 (pa_cons (pv 6) (pa_cons (pv 2) pa_nil))))
      (pss_cons (ps_set (i := 8) sc_item_of.nd rfl (by first | exact Or.inl rfl | exact Or.inr rfl) (pe_call D_extent_of.ok (hr.mono (by decide)) rfl D_extent_of.mgf D_extent_of.kp D_extent_of.b .nil pass0 (pa_cons (pv 0) (pa_cons (pv 1) (pa_cons (pv 2) pa_nil)))))
      (pss_cons (ps_if (PW.pt (pw_or (pt_cmpR op_isN (pv 7) pe_non (nomark _)) (pw_or1 (pt_cmpR op_isN (pv 8) pe_non (nomark _)))))
        (pss_one (ps_ret pe_non))
        pss_nil)
      (pss_cons (ps_set (i := 9) sc_item_of.nd rfl (by first | exact Or.inl rfl | exact Or.inr rfl) (pe_call D_corner_of.ok (hr.mono (by decide)) rfl D_corner_of.mgf D_corner_of.kp D_corner_of.b .nil pass0 (pa_cons (pv 1) (pa_cons (pv 2) pa_nil))))
      (pss_cons (ps_if (pt_val (pe_call D_adjusts.ok (hr.mono (by decide)) rfl D_adjusts.mgf D_adjusts.kp D_adjusts.b .nil pass0 (pa_cons (pv 5) pa_nil)))
        (pss_one (ps_ret (pe_tup (pa_cons (pv 8) (pa_cons (pv 9) (pa_cons pe_non (pa_cons (pe_glob (v := .int 256) rfl T.LEVEL_MOST_.choose_spec ⟨_, rfl⟩) (pa_cons (pv 5) (pa_cons pe_bl pa_nil)))))))))
        pss_nil)
      (pss_cons (ps_asg (pv 5) (kpgT K (n := 3) rfl (pgs_cons (pg_name (i := 3) sc_item_of.nd rfl (by first | exact Or.inl rfl | exact Or.inr rfl)) (pgs_cons (pg_name (i := 10) sc_item_of.nd rfl (by first | exact Or.inl rfl | exact Or.inr rfl)) (pgs_cons (pg_name (i := 11) sc_item_of.nd rfl (by first | exact Or.inl rfl | exact Or.inr rfl)) pgs_nil)))))
      (pss_cons (ps_set (i := 12) sc_item_of.nd rfl (by first | exact Or.inl rfl | exact Or.inr rfl) (pe_ix (kixT K) (pv 7) pe_int (fun _ _ => rfl)))
      (pss_cons (ps_set (i := 13) sc_item_of.nd rfl (by first | exact Or.inl rfl | exact Or.inr rfl) (pe_op op_fdiv (pe_op op_mul (pv 10) (pe_ix (kixT K) (pv 7) pe_int (fun _ _ => rfl))) (pe_glob (v := .int 256) rfl T.LEVEL_MOST_.choose_spec ⟨_, rfl⟩)))
      (pss_cons (ps_if (pt_cmpR op_eq (pv 13) pe_int (nomark _))
        (pss_one (ps_ret pe_non))
        pss_nil)
      (pss_cons (ps_set (i := 14) sc_item_of.nd rfl (by first | exact Or.inl rfl | exact Or.inr rfl) (pe_and (pe_cmpR op_eq (pv 11) pe_str (nomark _)) (pe_and (pe_cmpR op_eq (pv 13) (pe_glob (v := .int 256) rfl T.LEVEL_MOST_.choose_spec ⟨_, rfl⟩) (nomark _)) (pe_one (pe_call D_is_full.ok (hr.mono (by decide)) rfl D_is_full.mgf D_is_full.kp D_is_full.b .nil pass0 (pa_cons (pv 12) (pa_cons (pe_ix (kixT K) (pv 4) pe_int (fun _ _ => rfl)) (pa_cons (pe_ix (kixT K) (pv 4) pe_int (fun _ _ => rfl)) pa_nil))))))))
      (pss_one (ps_ret (pe_tup (pa_cons (pv 8) (pa_cons (pv 9) (pa_cons (pv 12) (pa_cons (pv 13) (pa_cons (pe_tup (pa_cons (pv 11) pa_nil)) (pa_cons (pv 14) pa_nil)))))))))))))))))))), ?_⟩
    rw [start_nrm (Nat.le_of_ble_eq_true rfl)]; dsimp only [startL]
    refine ⟨_, rfl, a, _, rfl, SqT.of ha, rfl, _, _, rfl, _, _, rfl, _, _, rfl, _, _, rfl, _, _, rfl, rfl, ?_⟩
    dsimp only [List.set]
    refine ⟨_, rfl, _, rfl, ca, ws, l.cs, fr, rfl, hca, hC, fun c hc => (k.cs.ok c hc).num, fun o tv H1 e1 ho htv => ?_⟩
    dsimp only [List.set]
    refine ⟨_, rfl, _, rfl, _, rfl, fv, .ref a, x, l, fr, rfl, hf.ex e1, hv.tk (TK.ex e1), k, fun ev H2 e2 hev => ?_⟩
    have e12 := e1.trans e2
    have htv := htv.tk (TK.ex e2)
    dsimp only [List.set]
    refine ⟨_, rfl, rfl, _, rfl, ?_⟩
    cases o with
    | none =>
      cases htv
      refine iteD rfl ?_
      exact q .non H2 e12 (by unfold Fi.item; rw [there_none ho]; exact rfl)
    | some i =>
      obtain ⟨c, hc, hth, hh⟩ := there_some ho
      obtain ⟨c', la, u, hc', rfl, hla, hu⟩ := htv
      rw [hc] at hc'
      cases hc'
      have hcm := List.mem_of_getElem? hc
      refine iteN (fun z => nomatch z) ?_
      refine ⟨_, rfl, rfl, _, rfl, ?_⟩
      cases hx : x.ext l fr with
      | none =>
        rw [hx] at hev
        cases hev
        refine iteD rfl ?_
        exact q .non H2 e12 (by unfold Fi.item; rw [hth, hx]; exact rfl)
      | some r =>
        rw [hx] at hev
        obtain ⟨ra, rfl, hra⟩ := hev
        refine iteN (fun z => nomatch z) ?_
        refine ⟨_, rfl, _, rfl, .ref a, l, fr, rfl, hv.tk (TK.ex e12), k, fun cv H3 e3 hcv => ?_⟩
        have e13 := e12.trans e3
        have hw3 := hw.tk (TK.ex e13)
        dsimp only [List.set]
        refine ⟨_, rfl, wv, l.wh, rfl, hw3, _, rfl, ?_⟩
        have e23 := e3
        obtain ⟨wa, rfl, hwa⟩ := id hw3
        have hra3 := e3 _ _ hra
        have hla3 := e3 _ _ hla
        have hu3 := hu.tk (TK.ex e3)
        have lv := c.lev_num (k.cs.ok c hcm).num hh.1 hh.2
        by_cases adj : l.wh.adj = true
        · rw [adj]
          refine iteT ?_
          refine ⟨_, rfl, _, rfl, _, rfl, (by show 6 ≤ sizeLine; decide), fun t ht => ?_⟩
          have f1 := Ex.new (o := .tup [.ref ra, cv, .non, .int 256, .ref wa, .bl false]) ht
          obtain ⟨pn, _, _⟩ := (k.cs.adj c hcm).1 adj
          refine q (.ref t) _ (e13.trans f1) ?_
          have el : l.lev fr c = 256 := by
            unfold La.lev
            cases h : l.wh with
            | paint o m => rw [h] at adj; cases adj
            | _ => rfl
          have em : l.wh.md ≠ .over := by
            cases h : l.wh with
            | paint o m => rw [h] at adj; cases adj
            | invert => show Md.invert ≠ .over; decide
            | shift n => show Md.shift n ≠ .over; exact fun z => by cases z
          unfold Fi.item
          rw [hth, hx]
          show OptItV _ _ (if l.lev fr c = 0 then none else _)
          rw [el, if_neg (by decide)]
          refine ⟨t, .ref ra, cv, .non, .ref wa, rfl, ?_, ⟨ra, rfl, f1 _ _ hra3⟩, hcv.tk (TK.ex f1), by show OpV _ _ c.pa; rw [pn]; exact rfl, wa, rfl, ?_⟩
          · rw [upd_same]
            congr 3
            rw [decide_eq_false em]
            rfl
          · rw [f1 _ _ hwa]
            cases h : l.wh with
            | paint o m => rw [h] at adj; cases adj
            | _ => rfl
        · have adj := eq_false_of_ne_true adj
          rw [adj]
          refine iteF ?_
          obtain ⟨p, hp⟩ := (k.cs.adj c hcm).2 adj
          cases hwh : l.wh with
          | invert => rw [hwh] at adj; cases adj
          | shift n => rw [hwh] at adj; cases adj
          | paint o m =>
            rw [hwh] at hwa
            have kw := k.wh
            rw [hwh] at kw
            obtain ⟨o0, o1, hm⟩ := kw
            have el : l.lev fr c = o * c.lev fr / 256 := by unfold La.lev; rw [hwh]
            refine ⟨_, rfl, wa, _, rfl, SqT.of hwa, rfl, _, _, rfl, _, _, rfl, _, _, rfl, rfl, ?_⟩
            dsimp only [List.set]
            refine ⟨_, rfl, la, _, 0, _, rfl, rfl, SqT.of hla3, rfl, ?_⟩
            dsimp only [List.set]
            refine ⟨_, rfl, _, rfl, la, _, 1, _, rfl, rfl, SqT.of hla3, rfl, _, _, rfl, rfl, .inl ⟨by omega, by omega⟩, _, _, rfl, rfl, ⟨by decide, by decide⟩, ?_⟩
            change (L2.tSeq _ _) _ _ _
            have el2 : V.int (o * c.lev fr / 256) = .int (l.lev fr c) := by rw [el]
            dsimp only [List.set]
            refine ⟨_, rfl, rfl, _, rfl, ?_⟩
            obtain ⟨mi, mo⟩ := md_items (o := o) hm
            have fin : ∀ (b : Bool) (H4 : Hp), ¬ o * c.lev fr / 256 = 0 → Ex H3 H4 → (b = true ↔ m = "over" ∧ o * c.lev fr / 256 = 256 ∧ Full c.pa l.box.w l.box.h) → ∀ t1, H4 t1 = none → ∀ t, (upd H4 t1 (.tup [.str m])) t = none → Q (.ref t) (upd (upd H4 t1 (.tup [.str m])) t (.tup [.ref ra, cv, u, .int (o * c.lev fr / 256), .ref t1, .bl b])) := fun b H4 c0 e4 hb t1 ht1 t ht => by
              have f1 := Ex.new (o := .tup [.str m]) ht1
              have f2 := Ex.new (o := .tup [.ref ra, cv, u, .int (o * c.lev fr / 256), .ref t1, .bl b]) ht
              have e34 := (e4.trans f1).trans f2
              refine q (.ref t) _ (e13.trans e34) ?_
              unfold Fi.item
              rw [hth, hx]
              show OptItV _ _ (if l.lev fr c = 0 then none else _)
              rw [el, if_neg c0]
              refine ⟨t, .ref ra, cv, u, .ref t1, rfl, ?_, ⟨ra, rfl, e34 _ _ hra3⟩, hcv.tk (TK.ex e34), hu3.tk (TK.ex e34), t1, rfl, ?_⟩
              · rw [upd_same]
                have eb : b = (decide (l.wh.md = .over) && decide (o * c.lev fr / 256 = 256) && fullB c.pa l.box.w l.box.h) := by
                  rw [Bool.eq_iff_iff, Bool.and_eq_true, Bool.and_eq_true, decide_eq_true_iff, decide_eq_true_iff, fullB_iff, hb, hwh, mo, and_assoc]
                rw [eb]
              · rw [f2 _ _ upd_same, hwh, mi]
            by_cases c0 : o * c.lev fr / 256 = 0
            · rw [decide_eq_true (congrArg V.int c0)]
              refine iteT ?_
              exact q .non H3 e13 (by unfold Fi.item; rw [hth, hx]; show OptItV _ _ (if l.lev fr c = 0 then none else _); rw [el, if_pos c0]; exact rfl)
            · rw [decide_eq_false fun z => c0 (V.int.inj z)]
              refine iteF ?_
              refine ⟨_, rfl, rfl, _, rfl, ?_⟩
              by_cases c1 : m = "over"
              · rw [decide_eq_true (congrArg V.str c1)]
                refine iteT ?_
                refine ⟨_, rfl, rfl, _, rfl, ?_⟩
                by_cases c2 : o * c.lev fr / 256 = 256
                · rw [decide_eq_true (congrArg V.int c2)]
                  refine iteT ?_
                  obtain ⟨ba, rfl, hba⟩ := hb.tk (TK.ex e13)
                  refine ⟨_, rfl, _, rfl, ba, _, 2, _, rfl, rfl, SqT.of hba, rfl, _, rfl, ba, _, 3, _, rfl, rfl, SqT.of hba, rfl, ?_⟩
                  refine ⟨u, c.pa, 12, l.box.w, l.box.h, rfl, hu3, (k.cs.ok c hcm).pa, by decide, k.box.w0, by have := k.box.w1; omega, k.box.h0, by have := k.box.h1; omega, fun b H4 e4 hb4 => ?_⟩
                  dsimp only [List.set]
                  refine ⟨_, rfl, _, rfl, _, rfl, _, rfl, _, rfl, (by show 1 ≤ sizeLine; decide), fun t1 ht1 => ⟨_, rfl, (by show 6 ≤ sizeLine; decide), fun t ht => ?_⟩⟩
                  exact fin b H4 c0 e4 ⟨fun z => ⟨c1, c2, hb4.mp z⟩, fun z => hb4.mpr z.2.2⟩ t1 ht1 t ht
                · rw [decide_eq_false fun z => c2 (V.int.inj z)]
                  refine iteF ?_
                  dsimp only [List.set]
                  refine ⟨_, rfl, _, rfl, _, rfl, _, rfl, _, rfl, (by show 1 ≤ sizeLine; decide), fun t1 ht1 => ⟨_, rfl, (by show 6 ≤ sizeLine; decide), fun t ht => ?_⟩⟩
                  exact fin false H3 c0 (Ex.refl _) ⟨fun z => (by cases z), fun z => absurd z.2.1 c2⟩ t1 ht1 t ht
              · rw [decide_eq_false fun z => c1 (V.str.inj z)]
                refine iteF ?_
                dsimp only [List.set]
                refine ⟨_, rfl, _, rfl, _, rfl, _, rfl, _, rfl, (by show 1 ≤ sizeLine; decide), fun t1 ht1 => ⟨_, rfl, (by show 6 ≤ sizeLine; decide), fun t ht => ?_⟩⟩
                exact fin false H3 c0 (Ex.refl _) ⟨fun z => (by cases z), fun z => absurd z.1 c1⟩ t1 ht1 t ht
abbrev s_items_at : Stmt := top 64
theorem sc_items_at : FnScope ["film", "frame", "items", "layer", "item"] ["film", "frame"] (defScope s_items_at) := ⟨rfl, rfl, rfl, by decide +kernel, rfl, by decide +kernel, by decide +kernel⟩
noncomputable def Fi.items (x : Fi) (f : Int) : List It := x.ls.filterMap fun l => x.item l f
def spItems (K : PySem.W.Frag) (C : Addr) : Sp := fun vs H Q _ => ∃ (fv : V) (x : Fi) (f : Int), vs = [fv, .int f] ∧ FlV C H fv x ∧ (∀ l ∈ x.ls, l.Vd) ∧ x.ls.length ≤ 16 ∧ ∀ p us H', H p = none → Ex H H' → H' p = some (.lst us) → Paired (ItV H') us (x.items f) → Q (.ref p) H'
theorem ok_items_at {f C : Addr} {fd : FuncData} (F : Fun K "items_at" "items_at" s_items_at f fd) (T : Txt K mg) (OT_Film : FilmT K C) (PF_Film_layers : Prp P w K mg base C "layers" 1 (spGetL C)) (D_item_of : Def P w K mg base CX0 "_item_of" 5 ["film", "layer", "frame"] (spItem K C)) : FnOk P w K mg base CX0 6 f fd ["film", "frame"] (spItems K C) := by
  refine F.ok sc_items_at (fun vs H Q E h => ?_) (fun cdv A outer s H vs Q E hr h => ?_)
  · obtain ⟨fv, x, fr, rfl, _⟩ := h
    rfl
  · obtain ⟨fv, x, fr, rfl, hf, k, ll, q⟩ := h
    obtain ⟨fa, dx, L, ls, rfl, hfa, _⟩ := id hf
    refine ⟨_, (pss_cons (ps_setLc (i := 2)  (own := [("layer", 3)]) (tt := tYes) rfl sc_items_at.nd rfl rfl (sw_true rfl rfl rfl (by decide +kernel)) (kpiL K (pe_prop (pv 0) OT_Film.cl PF_Film_layers.hp PF_Film_layers.ok (hr.mono (by decide)) PF_Film_layers.b .nil pass0 rfl)) (blkOk_by (N := ["film", "frame", "items", "layer", "item"]) (sc := defScope s_items_at) (by decide +kernel)) (fun _ _ _ _ _ => (pg_name (i := 3) sc_items_at.nd rfl (by first | exact Or.inl rfl | exact Or.inr rfl))) (fun _ _ _ _ _ => pts_nil) (fun _ _ _ _ _ => (pe_call D_item_of.ok (hr.mono (by decide)) rfl D_item_of.mgf D_item_of.kp D_item_of.b .nil pass0 (pa_cons (pv 0) (pa_cons (pv 3) (pa_cons (pv 1) pa_nil))))))
      (pss_one (ps_ret (pe_lc (own := [("item", 4)]) rfl sc_items_at.nd (kpiL K (pv 2)) (blkOk_by (N := ["film", "frame", "items", "layer", "item"]) (sc := defScope s_items_at) (by decide +kernel)) (fun _ _ _ _ _ => (pg_name (i := 4) sc_items_at.nd rfl (by first | exact Or.inl rfl | exact Or.inr rfl))) (fun _ _ _ _ _ => (pts_one (pt_cmpR op_notN (pv 4) pe_non (nomark _)))) (fun _ _ _ _ _ => (pv 4)))))), ?_⟩
    rw [start_nrm (Nat.le_of_ble_eq_true rfl)]; dsimp only [startL]
    refine ⟨_, rfl, fa, dx, _, rfl, hfa, .ref fa, x, rfl, hf, by omega, fun p us H1 hp e1 hpl hP => ?_⟩
    have lu := hP.length
    refine ⟨p, rfl, ⟨us, SqL.of hpl⟩, fun D hD => ?_⟩
    refine lc_list (xs := us) (fun i H' => Ex H1 H' ∧ ∃ ws, H' D = some (.lst ws) ∧ Paired (OptItV H') ws ((x.ls.take i).map fun l => x.item l fr)) ⟨Ex.new hD, [], upd_same, .nil⟩ (fun i H' _ p => SqL.of (p.1 _ _ hpl)) ?_ ?_
    · rintro i uv H2 hu ⟨e2, ws, hW, hI⟩
      obtain ⟨l, hl, hlv⟩ := pr_get hP hu
      have e12 := e1.trans e2
      refine ⟨rfl, ?_⟩
      refine lcY ?_
      refine ⟨_, rfl, _, rfl, _, rfl, .ref fa, uv, x, l, fr, rfl, hf.ex e12, hlv.tk (TK.ex e2), k l (List.mem_of_getElem? hl), fun r H3 e3 hr3 => ?_⟩
      have hW3 := e3 _ _ hW
      have lw := hI.length
      refine ⟨ws, hW3, slineL (by rw [lw, List.length_map, List.length_take]; omega), (e2.trans e3).mut hD, ws ++ [r], upd_same, ?_⟩
      rw [List.take_add_one, hl, List.map_append]
      have tk := TK.lst (o := .lst (ws ++ [r])) hW3
      exact pr_append (Paired.mapP (Paired.mapP hI fun _ _ => OptItV.tk (TK.ex e3)) fun _ _ => OptItV.tk tk) (.cons (hr3.tk tk) .nil)
    · rintro H2 ⟨e2, ws, hW, hI⟩
      rw [lu, List.take_length] at hI
      have lw := hI.length
      rw [List.length_map] at lw
      refine ⟨_, rfl, D, rfl, ⟨ws, SqL.of hW⟩, fun D2 hD2 => ?_⟩
      refine lc_list (xs := ws) (fun i H' => Ex H2 H' ∧ ∃ zs, H' D2 = some (.lst zs) ∧ Paired (ItV H') zs ((x.ls.take i).filterMap fun l => x.item l fr)) ⟨Ex.new hD2, [], upd_same, .nil⟩ (fun i H' _ p => SqL.of (p.1 _ _ hW)) ?_ ?_
      · rintro i uv H3 hu ⟨e3, zs, hZ, hJ⟩
        obtain ⟨o, ho, hov⟩ := pr_get hI hu
        rw [List.getElem?_map] at ho
        obtain ⟨l, hl, rfl⟩ := Option.map_eq_some_iff.mp ho
        have hov := hov.tk (TK.ex e3)
        have lz := hJ.length
        have fl := List.length_filterMap_le (fun l => x.item l fr) (x.ls.take i)
        rw [List.length_take] at fl
        refine ⟨rfl, ?_⟩
        refine ⟨_, rfl, rfl, _, rfl, ?_⟩
        cases hx : x.item l fr with
        | none =>
          rw [hx] at hov
          cases hov
          refine iteF ?_
          refine ⟨e3, zs, hZ, ?_⟩
          rw [List.take_add_one, hl, List.filterMap_append]
          have : (Option.toList (some l)).filterMap (fun l => x.item l fr) = [] := by simp [hx]
          rw [this, List.append_nil]
          exact hJ
        | some it =>
          rw [hx] at hov
          obtain ⟨ia, _, _, _, _, rfl, _⟩ := id hov
          refine iteT ?_
          have tk := TK.lst (o := .lst (zs ++ [.ref ia])) hZ
          refine ⟨_, rfl, zs, hZ, slineL (by omega), e3.mut hD2, zs ++ [.ref ia], upd_same, ?_⟩
          rw [List.take_add_one, hl, List.filterMap_append]
          have : (Option.toList (some l)).filterMap (fun l => x.item l fr) = [it] := by simp [hx]
          rw [this]
          exact pr_append (Paired.mapP hJ fun _ _ => ItV.tk tk) (.cons (ItV.tk tk hov) .nil)
      · rintro H3 ⟨e3, zs, hZ, hJ⟩
        rw [lw, List.take_length] at hJ
        exact q D2 zs H3 (ex_free (e1.trans e2) hD2) ((e1.trans e2).trans e3) hZ hJ
abbrev s_l_made : Stmt := top 99
theorem sc_l_made : FnScope ["parts"] ["parts"] (defScope s_l_made) := ⟨rfl, rfl, rfl, by decide +kernel, rfl, by decide +kernel, by decide +kernel⟩
def spMade (K : PySem.W.Frag) (C : Addr) : Sp := fun vs H Q _ => ∃ (v : V) (x : Fi), vs = [v] ∧ FiV H v x ∧ x.Vd ∧ ∀ u H', Ex H H' → FlV C H' u x → Q u H'
theorem ok_l_made {f C : Addr} {fd : FuncData} (F : Fun K "_law_made" "_law_made" s_l_made f fd) (T : Txt K mg) (MK_Film : MkO P w K mg base CX0 "Film" C 8 ["self", "width", "height", "frames", "background", "layers"] (spFilmVd C)) : FnOk P w K mg base CX0 10 f fd ["parts"] (spMade K C) := by
  refine F.ok sc_l_made (fun vs H Q E h => ?_) (fun cdv A outer s H vs Q E hr h => ?_)
  · obtain ⟨v, x, rfl, _⟩ := h
    rfl
  · obtain ⟨v, x, rfl, ⟨a, L, us, rfl, ha, hL, hP⟩, k, q⟩ := h
    refine ⟨_, (pss_one (ps_ret (pe_make MK_Film.M MK_Film.ok (hr.mono (by decide)) rfl MK_Film.mgC MK_Film.b .nil pass0 (pa_cons (pe_ix (kixT K) (pv 0) pe_int (fun _ _ => rfl)) (pa_cons (pe_ix (kixT K) (pv 0) pe_int (fun _ _ => rfl)) (pa_cons (pe_ix (kixT K) (pv 0) pe_int (fun _ _ => rfl)) (pa_cons (pe_ix (kixT K) (pv 0) pe_int (fun _ _ => rfl)) (pa_cons (pe_callTy (klist K) (by rfl) T.list_ bt_list (pa_cons (pe_ix (kixT K) (pv 0) pe_int (fun _ _ => rfl)) pa_nil)) pa_nil)))))))), ?_⟩
    rw [start_nrm (Nat.le_of_ble_eq_true rfl)]; dsimp only [startL]
    refine ⟨_, rfl, a, _, 0, _, rfl, rfl, SqT.of ha, rfl, _, rfl, a, _, 1, _, rfl, rfl, SqT.of ha, rfl, _, rfl, a, _, 2, _, rfl, rfl, SqT.of ha, rfl, _, rfl, a, _, 3, _, rfl, rfl, SqT.of ha, rfl, _, rfl, a, _, 4, _, rfl, rfl, SqT.of ha, rfl, L, us, rfl, .inl (SqL.of hL), fun l hl => ?_⟩
    have f1 := Ex.new (o := .lst us) hl
    have k1 : upd H l (.lst us) l = some (.lst us) := upd_same
    generalize upd H l (.lst us) = H1 at f1 k1 ⊢
    intro s dx hs hdx ne
    have e2 : Ex H1 (upd (upd H1 dx (.own s)) s (.ins C dx [])) := (Ex.new hdx).trans (Ex.new (by rw [upd_ne (Ne.symm ne)]; exact hs))
    have ks : upd (upd H1 dx (.own s)) s (.ins C dx []) s = some (.ins C dx []) := upd_same
    generalize upd (upd H1 dx (.own s)) s (.ins C dx []) = H2 at e2 ks ⊢
    refine ⟨s, dx, x, l, us, rfl, ks, e2 _ _ k1, Paired.mapP hP fun _ _ => LaV.tk (TK.ex (f1.trans e2)), k, fun H3 dx' L' hL' keep hs3 hL3 => ⟨rfl, ?_⟩⟩
    have e3 : Ex H H3 := fun b o hb => by
      have h2 := (f1.trans e2) _ _ hb
      refine keep b o h2 fun z => ?_
      subst z
      have := f1 _ _ hb
      rw [hs] at this
      cases this
    refine q (.ref s) H3 e3 ⟨s, dx', L', us, rfl, hs3, hL3, Paired.mapP hP fun _ _ => LaV.tk (TK.ex e3)⟩
abbrev s_l_line : Stmt := top 100
theorem sc_l_line : FnScope ["one", "other", "part", "whole"] ["one", "other", "part", "whole"] (defScope s_l_line) := ⟨rfl, rfl, rfl, by decide +kernel, rfl, by decide +kernel, by decide +kernel⟩
def spLn : Sp := fun vs H Q _ => ∃ v w g s : Int, vs = [.int v, .int w, .int g, .int s] ∧ -100000 ≤ v ∧ v ≤ 100000 ∧ -100000 ≤ w ∧ w ≤ 100000 ∧ 0 < s ∧ s ≤ 100000 ∧ Q (.int (ln v w g s)) H
theorem ok_l_line {f : Addr} {fd : FuncData} (F : Fun K "_law_line" "_law_line" s_l_line f fd) (T : Txt K mg) : FnOk P w K mg base CX0 1 f fd ["one", "other", "part", "whole"] spLn := by
  refine F.ok sc_l_line (fun vs H Q E h => ?_) (fun cdv A outer s H vs Q E hr h => ?_)
  · obtain ⟨v, w, g, s, rfl, _⟩ := h
    rfl
  · obtain ⟨v, w, g, s, rfl, v0, v1, w0, w1, s0, s1, q⟩ := h
    refine ⟨_, (pss_one (ps_ret (pe_op op_add (pv 0) (pe_op op_fdiv (pe_op op_mul (pe_op op_sub (pv 1) (pv 0)) (pv 2)) (pv 3))))), ?_⟩
    rw [start_nrm (Nat.le_of_ble_eq_true rfl)]; dsimp only [startL]
    exact ⟨_, rfl, _, rfl, _, rfl, _, _, rfl, rfl, _, rfl, _, _, rfl, rfl, .inl ⟨by omega, by omega⟩, _, rfl, _, _, rfl, rfl, ⟨by omega, by omega⟩, _, _, rfl, rfl, q⟩
abbrev s_l_offset : Stmt := top 101
theorem sc_l_offset : FnScope ["moves", "frame", "j", "one", "other", "part", "whole"] ["moves", "frame"] (defScope s_l_offset) := ⟨rfl, rfl, rfl, by decide +kernel, rfl, by decide +kernel, by decide +kernel⟩
def spOffF (K : PySem.W.Frag) : Sp := fun vs H Q _ => ∃ a us ms f, vs = [.ref a, .int f] ∧ H a = some (.tup us) ∧ MvsV H us ms ∧ MAsc ms ∧ (∀ m ∈ ms, m.Ok) ∧ ms.length ≤ 100 ∧ ∀ r H', Ex H H' → PtV H' r (off ms f) → Q r H'
theorem off_first {ms : List Mv} (h : MAsc ms) {x : Mv} {f : Int} (hx : ms[0]? = some x) (hf : f < x.f) : off ms f = (x.a, x.d) := by
  have hl := (List.getElem?_eq_some_iff.mp hx).1
  have e : np ms f = 0 := np_of (Nat.zero_le _) (by simp) fun m hm => by
    rw [List.drop_zero] at hm
    obtain ⟨i, hi⟩ := List.getElem?_of_mem hm
    cases i with
    | zero => rw [hx] at hi; cases hi; exact hf
    | succ i => have := asc_le h hx hi (Nat.succ_pos i); omega
  unfold off
  rw [e, List.take_zero, head_drop, hx]
  rfl
theorem off_last {ms : List Mv} (h : MAsc ms) {k : Nat} {x : Mv} {f : Int} (hx : ms[k]? = some x) (hk : k + 1 = ms.length) (hf : x.f ≤ f) : off ms f = (x.a, x.d) := by
  unfold off
  rw [np_at h hx hf fun y hy => by have := (List.getElem?_eq_some_iff.mp hy).1; omega, last_take hx, head_drop, List.getElem?_eq_none (by omega)]
theorem ok_l_offset {f : Addr} {fd : FuncData} (F : Fun K "_law_offset" "_law_offset" s_l_offset f fd) (T : Txt K mg) (D_l_line : Def P w K mg base CX0 "_law_line" 1 ["one", "other", "part", "whole"] spLn) : FnOk P w K mg base CX0 2 f fd ["moves", "frame"] (spOffF K) := by
  refine F.ok sc_l_offset (fun vs H Q E h => ?_) (fun cdv A outer s H vs Q E hr h => ?_)
  · obtain ⟨a, us, ms, f, rfl, _⟩ := h
    rfl
  · obtain ⟨a, us, ms, f, rfl, ha, hM, hA, kM, hn, q⟩ := h
    have lu := hM.length
    refine ⟨_, (pss_cons (ps_if (pt_cmpR op_eq (pe_callB (klen K) (by rfl) T.len_ PySem.boot_len (pa_cons (pv 0) pa_nil)) pe_int (nomark _))
        (pss_one (ps_ret (pe_tup (pa_cons pe_int (pa_cons pe_int pa_nil)))))
        pss_nil)
      (pss_cons (ps_if (pt_cmpR op_lt (pv 1) (pe_ix (kixT K) (pe_ix (kixT K) (pv 0) pe_int (fun _ _ => rfl)) pe_int (fun _ _ => rfl)) (nomark _))
        (pss_one (ps_ret (pe_tup (pa_cons (pe_ix (kixT K) (pe_ix (kixT K) (pv 0) pe_int (fun _ _ => rfl)) pe_int (fun _ _ => rfl)) (pa_cons (pe_ix (kixT K) (pe_ix (kixT K) (pv 0) pe_int (fun _ _ => rfl)) pe_int (fun _ _ => rfl)) pa_nil)))))
        pss_nil)
      (pss_cons (ps_for PassesOwn.never rfl (pi_range1 (by rfl) T.range_ (pa_cons (pe_op op_sub (pe_callB (klen K) (by rfl) T.len_ PySem.boot_len (pa_cons (pv 0) pa_nil)) pe_int) pa_nil)) (pg_name (i := 2) sc_l_offset.nd rfl (by first | exact Or.inl rfl | exact Or.inr rfl))
        (pss_cons (ps_par (i := 3) (j := 4) rfl sc_l_offset.nd rfl rfl (by decide) rfl rfl (pa_cons (pe_ix (kixT K) (pv 0) (pv 2) (fun _ _ => rfl)) (pa_cons (pe_ix (kixT K) (pv 0) (pe_op op_add (pv 2) pe_int) (fun _ _ => rfl)) pa_nil)) (by rfl))
        (pss_one (ps_if (PW.pt (pw_and (pt_cmpR op_le (pe_ix (kixT K) (pv 3) pe_int (fun _ _ => rfl)) (pv 1) (nomark _)) (pw_and1 (pt_cmpR op_lt (pv 1) (pe_ix (kixT K) (pv 4) pe_int (fun _ _ => rfl)) (nomark _)))))
          (pss_cons (ps_par (i := 5) (j := 6) rfl sc_l_offset.nd rfl rfl (by decide) rfl rfl (pa_cons (pe_op op_sub (pv 1) (pe_ix (kixT K) (pv 3) pe_int (fun _ _ => rfl))) (pa_cons (pe_op op_sub (pe_ix (kixT K) (pv 4) pe_int (fun _ _ => rfl)) (pe_ix (kixT K) (pv 3) pe_int (fun _ _ => rfl))) pa_nil)) (by rfl))
          (pss_one (ps_ret (pe_tup (pa_cons (pe_call D_l_line.ok (hr.mono (by decide)) rfl D_l_line.mgf D_l_line.kp D_l_line.b .nil pass0 (pa_cons (pe_ix (kixT K) (pv 3) pe_int (fun _ _ => rfl)) (pa_cons (pe_ix (kixT K) (pv 4) pe_int (fun _ _ => rfl)) (pa_cons (pv 5) (pa_cons (pv 6) pa_nil))))) (pa_cons (pe_call D_l_line.ok (hr.mono (by decide)) rfl D_l_line.mgf D_l_line.kp D_l_line.b .nil pass0 (pa_cons (pe_ix (kixT K) (pv 3) pe_int (fun _ _ => rfl)) (pa_cons (pe_ix (kixT K) (pv 4) pe_int (fun _ _ => rfl)) (pa_cons (pv 5) (pa_cons (pv 6) pa_nil))))) pa_nil))))))
          pss_nil))))
      (pss_one (ps_ret (pe_tup (pa_cons (pe_ix (kixT K) (pe_ix (kixT K) (pv 0) (pe_un un_neg pe_int) (fun _ _ => rfl)) pe_int (fun _ _ => rfl)) (pa_cons (pe_ix (kixT K) (pe_ix (kixT K) (pv 0) (pe_un un_neg pe_int) (fun _ _ => rfl)) pe_int (fun _ _ => rfl)) pa_nil)))))))), ?_⟩
    rw [start_nrm (Nat.le_of_ble_eq_true rfl)]; dsimp only [startL]
    refine ⟨_, rfl, a, us, rfl, .inr (SqT.of ha), rfl, _, rfl, ?_⟩
    cases hms : ms with
    | nil =>
      subst hms
      rw [List.length_nil] at lu
      rw [lu]
      refine iteT ?_
      refine ⟨(by show 2 ≤ sizeLine; decide), fun l hl => ?_⟩
      exact q _ _ (Ex.new hl) ⟨l, rfl, upd_same⟩
    | cons m0 mt =>
      have hm0 : ms[0]? = some m0 := by rw [hms]; rfl
      have lm : 0 < ms.length := by rw [hms]; exact Nat.succ_pos _
      have hu0 : us[0]? = some us[0] := List.getElem?_eq_getElem (by omega)
      obtain ⟨m0', hm0', hv0⟩ := pr_get hM hu0
      rw [hm0] at hm0'
      cases hm0'
      generalize us[0] = u0 at hv0 hu0
      obtain ⟨p0, rfl, hp0⟩ := id hv0
      refine iteN (by show ¬ V.int (us.length : Int) = V.int 0; intro z; have := V.int.inj z; omega) ?_
      refine ⟨_, rfl, _, rfl, a, us, 0, _, rfl, rfl, SqT.of ha, atI_nat (j := 0) hu0, p0, _, 0, _, rfl, rfl, SqT.of hp0, rfl, _, _, rfl, rfl, _, rfl, ?_⟩
      refine ite2 (fun c => ?_) (fun c => ?_)
      · have c := of_decide_eq_true c
        refine ⟨_, rfl, a, us, 0, _, rfl, rfl, SqT.of ha, atI_nat (j := 0) hu0, p0, _, 1, _, rfl, rfl, SqT.of hp0, rfl, _, rfl, a, us, 0, _, rfl, rfl, SqT.of ha, atI_nat (j := 0) hu0, p0, _, 2, _, rfl, rfl, SqT.of hp0, rfl, ?_⟩
        refine ⟨(by show 2 ≤ sizeLine; decide), fun l hl => ?_⟩
        exact q _ _ (Ex.new hl) (by rw [off_first hA hm0 c]; exact ⟨l, rfl, upd_same⟩)
      have c0 : m0.f ≤ f := by
        have : ¬ f < m0.f := fun z => c (decide_eq_true z)
        omega
      refine ⟨_, rfl, a, us, rfl, .inr (SqT.of ha), _, _, rfl, rfl, _, rfl, by omega, by omega, ?_⟩
      refine for_range (lo := 0) (n := ((us.length : Int) - 1).toNat) (fun j σ H' => H' = H ∧ (∃ (x2 x3 x4 x5 x6 : Option V), σ = [some (.ref a), some (.int f), x2, x3, x4, x5, x6]) ∧ ∀ m, ms[j]? = some m → m.f ≤ f) ⟨rfl, ⟨_, _, _, _, _, rfl⟩, fun m hm => by rw [hm0] at hm; cases hm; exact c0⟩ ?_ ?_
      · rintro j σ H' hj ⟨rfl, ⟨x2, x3, x4, x5, x6, rfl⟩, hlo⟩
        have hj : j + 1 < us.length := by omega
        have h1 : us[j]? = some us[j] := List.getElem?_eq_getElem (by omega)
        have h2 : us[j + 1]? = some us[j + 1] := List.getElem?_eq_getElem hj
        obtain ⟨x, hx, hxv⟩ := pr_get hM h1
        obtain ⟨y, hy, hyv⟩ := pr_get hM h2
        generalize us[j] = u1 at hxv h1
        generalize us[j + 1] = u2 at hyv h2
        obtain ⟨px, rfl, hpx⟩ := id hxv
        obtain ⟨py, rfl, hpy⟩ := id hyv
        have kx := kM x (List.mem_of_getElem? hx)
        have ky := kM y (List.mem_of_getElem? hy)
        have hlt := asc_le hA hx hy (Nat.lt_succ_self j)
        obtain ⟨_, _, xa0, xa1, xd0, xd1⟩ := kx
        obtain ⟨yf0, yf1, ya0, ya1, yd0, yd1⟩ := ky
        have hxf := hlo x hx
        have e1 : atI us (0 + (j : Int)) = some (.ref px) := by rw [Int.zero_add]; exact atI_nat h1
        have e2 : atI us (0 + (j : Int) + 1) = some (.ref py) := by rw [Int.zero_add]; exact atI_nat (j := j + 1) h2
        refine ⟨_, rfl, _, rfl, a, us, 0 + (j : Int), _, rfl, rfl, SqT.of ha, e1, _, rfl, _, rfl, _, _, rfl, rfl, a, us, 0 + (j : Int) + 1, _, rfl, rfl, SqT.of ha, e2, _, _, rfl, ?_⟩
        dsimp only [List.set]
        refine ⟨_, rfl, px, _, 0, _, rfl, rfl, SqT.of hpx, rfl, _, rfl, _, _, rfl, rfl, _, rfl, ?_⟩
        rw [decide_eq_true hxf]
        refine iteT ?_
        refine ⟨_, rfl, _, rfl, py, _, 0, _, rfl, rfl, SqT.of hpy, rfl, _, _, rfl, rfl, _, rfl, ?_⟩
        refine ite2 (fun c => ?_) (fun c => ?_)
        · have c := of_decide_eq_true c
          refine ⟨_, rfl, _, rfl, px, _, 0, _, rfl, rfl, SqT.of hpx, rfl, _, _, rfl, rfl, _, rfl, py, _, 0, _, rfl, rfl, SqT.of hpy, rfl, _, rfl, px, _, 0, _, rfl, rfl, SqT.of hpx, rfl, _, _, rfl, rfl, _, _, rfl, ?_⟩
          dsimp only [List.set]
          refine ⟨_, rfl, px, _, 1, _, rfl, rfl, SqT.of hpx, rfl, _, rfl, py, _, 1, _, rfl, rfl, SqT.of hpy, rfl, _, rfl, _, rfl, x.a, y.a, f - x.f, y.f - x.f, rfl, by omega, by omega, by omega, by omega, by omega, by omega, ?_⟩
          refine ⟨_, rfl, px, _, 2, _, rfl, rfl, SqT.of hpx, rfl, _, rfl, py, _, 2, _, rfl, rfl, SqT.of hpy, rfl, _, rfl, _, rfl, x.d, y.d, f - x.f, y.f - x.f, rfl, by omega, by omega, by omega, by omega, by omega, by omega, ?_⟩
          refine ⟨(by show 2 ≤ sizeLine; decide), fun l hl => ?_⟩
          exact q _ _ (Ex.new hl) (by rw [off_mid hA hx hy hxf c]; exact ⟨l, rfl, upd_same⟩)
        · refine ⟨rfl, ⟨_, _, _, _, _, rfl⟩, fun m hm => ?_⟩
          rw [hy] at hm
          cases hm
          have : ¬ f < y.f := fun z => c (decide_eq_true z)
          omega
      · rintro σ H' ⟨rfl, ⟨x2, x3, x4, x5, x6, rfl⟩, hlo⟩
        have hl : us[us.length - 1]? = some us[us.length - 1] := List.getElem?_eq_getElem (by omega)
        obtain ⟨x, hx, hxv⟩ := pr_get hM hl
        have hat : atI us (-1) = some us[us.length - 1] := by
          have e : us = us.take (us.length - 1) ++ [us[us.length - 1]] := by
            conv => lhs; rw [← List.take_append_drop (us.length - 1) us]
            congr 1
            rw [List.drop_eq_getElem_cons (by omega)]
            congr 1
            exact List.drop_of_length_le (by omega)
          have := atI_last (us.take (us.length - 1)) us[us.length - 1]
          rw [← e] at this
          exact this
        generalize us[us.length - 1] = u1 at hxv hat
        obtain ⟨px, rfl, hpx⟩ := id hxv
        have hxf := hlo x (by rw [show ((us.length : Int) - 1).toNat = us.length - 1 by omega]; exact hx)
        refine ⟨_, rfl, _, rfl, a, us, -1, _, rfl, rfl, SqT.of ha, hat, px, _, 1, _, rfl, rfl, SqT.of hpx, rfl, _, rfl, _, rfl, a, us, -1, _, rfl, rfl, SqT.of ha, hat, px, _, 2, _, rfl, rfl, SqT.of hpx, rfl, ?_⟩
        refine ⟨(by show 2 ≤ sizeLine; decide), fun l hl => ?_⟩
        exact q _ _ (Ex.new hl) (by rw [off_last hA hx (by omega) hxf]; exact ⟨l, rfl, upd_same⟩)
abbrev s_l_there : Stmt := top 102
theorem sc_l_there : FnScope ["clips", "frame", "clip", "before", "behind"] ["clips", "frame"] (defScope s_l_there) := ⟨rfl, rfl, rfl, by decide +kernel, rfl, by decide +kernel, by decide +kernel⟩
/-- what is there in the lane: a paint and a level -/
def ThV (H : Hp) (v : V) : Option (Option Pa × Int) → Prop
  | none => v = .non
  | some (p, l) => ∃ a u, v = .ref a ∧ H a = some (.tup [u, .int l]) ∧ OpV H u p
theorem ThV.ex {H H' : Hp} {v : V} {o : Option (Option Pa × Int)} (e : Ex H H') (h : ThV H v o) : ThV H' v o := by
  match o, h with
  | none, h => exact h
  | some (p, l), ⟨a, u, e1, h1, h2⟩ => exact ⟨a, u, e1, e _ _ h1, h2.tk (TK.ex e)⟩
def thereC (cs : List Cl) (f : Int) : Option Cl := cs.find? fun c => decide (c.s ≤ f) && decide (f < c.fin)
def spThere (K : PySem.W.Frag) : Sp := fun vs H Q _ => ∃ a us cs f, vs = [.ref a, .int f] ∧ H a = some (.tup us) ∧ ClsV H us cs ∧ (∀ c ∈ cs, c.Num) ∧ ∀ v H', Ex H H' → ThV H' v ((thereC cs f).map fun c => (c.pa, c.lev f)) → Q v H'
theorem find_take {α : Type} {p : α → Bool} : ∀ {l : List α} {i : Nat} {x : α}, l[i]? = some x → (∀ y ∈ l.take i, p y = false) → p x = true → l.find? p = some x
  | y :: l, 0, x, h, _, hp => by
    cases h
    rw [List.find?_cons, hp]
  | y :: l, i + 1, x, h, hn, hp => by
    rw [List.find?_cons, hn y (by simp)]
    exact find_take (by simpa using h) (fun z hz => hn z (by simp [hz])) hp
theorem ok_l_there {f : Addr} {fd : FuncData} (F : Fun K "_law_there" "_law_there" s_l_there f fd) (T : Txt K mg) : FnOk P w K mg base CX0 1 f fd ["clips", "frame"] (spThere K) := by
  refine F.ok sc_l_there (fun vs H Q E h => ?_) (fun cdv A outer s H vs Q E hr h => ?_)
  · obtain ⟨a, us, cs, f, rfl, _⟩ := h
    rfl
  · obtain ⟨a, us, cs, f, rfl, ha, hC, kN, q⟩ := h
    have lu := hC.length
    refine ⟨_, (pss_cons (ps_for PassesOwn.never rfl (kpiT K (pv 0)) (pg_name (i := 2) sc_l_there.nd rfl (by first | exact Or.inl rfl | exact Or.inr rfl))
        (pss_cons (ps_set (i := 3) sc_l_there.nd rfl (by first | exact Or.inl rfl | exact Or.inr rfl) (pe_op op_sub (pv 1) (pe_ix (kixT K) (pv 2) pe_int (fun _ _ => rfl))))
        (pss_cons (ps_set (i := 4) sc_l_there.nd rfl (by first | exact Or.inl rfl | exact Or.inr rfl) (pe_op op_sub (pe_op op_sub (pe_op op_add (pe_ix (kixT K) (pv 2) pe_int (fun _ _ => rfl)) (pe_ix (kixT K) (pv 2) pe_int (fun _ _ => rfl))) pe_int) (pv 1)))
        (pss_one (ps_if (PW.pt (pw_and (pt_cmpR op_ge (pv 3) pe_int (nomark _)) (pw_and1 (pt_cmpR op_ge (pv 4) pe_int (nomark _)))))
          (pss_cons (ps_if (pt_cmpR op_lt (pv 3) (pe_ix (kixT K) (pv 2) pe_int (fun _ _ => rfl)) (nomark _))
            (pss_one (ps_ret (pe_tup (pa_cons (pe_ix (kixT K) (pv 2) pe_int (fun _ _ => rfl)) (pa_cons (pe_op op_fdiv (pe_op op_mul pe_int (pe_op op_add (pv 3) pe_int)) (pe_op op_add (pe_ix (kixT K) (pv 2) pe_int (fun _ _ => rfl)) pe_int)) pa_nil)))))
            pss_nil)
          (pss_cons (ps_if (pt_cmpR op_lt (pv 4) (pe_ix (kixT K) (pv 2) pe_int (fun _ _ => rfl)) (nomark _))
            (pss_one (ps_ret (pe_tup (pa_cons (pe_ix (kixT K) (pv 2) pe_int (fun _ _ => rfl)) (pa_cons (pe_op op_fdiv (pe_op op_mul pe_int (pe_op op_add (pv 4) pe_int)) (pe_op op_add (pe_ix (kixT K) (pv 2) pe_int (fun _ _ => rfl)) pe_int)) pa_nil)))))
            pss_nil)
          (pss_one (ps_ret (pe_tup (pa_cons (pe_ix (kixT K) (pv 2) pe_int (fun _ _ => rfl)) (pa_cons pe_int pa_nil)))))))
          pss_nil)))))
      (pss_one (ps_ret pe_non))), ?_⟩
    rw [start_nrm (Nat.le_of_ble_eq_true rfl)]; dsimp only [startL]
    refine ⟨_, rfl, a, rfl, ⟨us, SqT.of ha⟩, for_tup (K := K) (a := a) (xs := us) (fun i σ H' => H' = H ∧ (∃ (x2 x3 x4 : Option V), σ = [some (.ref a), some (.int f), x2, x3, x4]) ∧ ∀ c ∈ cs.take i, (decide (c.s ≤ f) && decide (f < c.fin)) = false) ?_ ?_ ?_ ?_⟩
    · exact ⟨rfl, ⟨_, _, _, rfl⟩, fun c hc => by simp at hc⟩
    · rintro i σ H' _ ⟨rfl, _⟩
      exact SqT.of ha
    · rintro i uv σ H' hi ⟨rfl, ⟨x2, x3, x4, rfl⟩, hno⟩
      obtain ⟨c, hc, hcv⟩ := pr_get hC hi
      obtain ⟨ca, u, rfl, hca, hu⟩ := id hcv
      have kc := kN c (List.mem_of_getElem? hc)
      obtain ⟨k1, k2, k3, k4, k5, k6, k7⟩ := kc
      refine ⟨_, rfl, _, rfl, ca, _, 0, _, rfl, rfl, SqT.of hca, rfl, _, _, rfl, rfl, ?_⟩
      refine ⟨_, rfl, ca, _, 0, _, rfl, rfl, SqT.of hca, rfl, _, rfl, ca, _, 1, _, rfl, rfl, SqT.of hca, rfl, _, _, rfl, rfl, _, _, rfl, rfl, _, rfl, _, _, rfl, rfl, ?_⟩
      dsimp only [List.set]
      have next : (decide (c.s ≤ f) && decide (f < c.fin)) = false → ∀ c' ∈ cs.take (i + 1), (decide (c'.s ≤ f) && decide (f < c'.fin)) = false := fun no c' hc' => by
        rw [List.take_add_one, hc] at hc'
        rcases List.mem_append.mp hc' with z | z
        · exact hno c' z
        · simp only [Option.toList_some, List.mem_singleton] at z
          rw [z]
          exact no
      refine ⟨_, rfl, _, _, rfl, rfl, _, rfl, ?_⟩
      refine ite2 (fun c1 => ?_) (fun c1 => ?_)
      · have c1 := of_decide_eq_true c1
        refine ⟨_, rfl, _, _, rfl, rfl, _, rfl, ?_⟩
        refine ite2 (fun c2 => ?_) (fun c2 => ?_)
        · have c2 := of_decide_eq_true c2
          have h1 : c.s ≤ f := by omega
          have h2 : f < c.fin := by unfold Cl.fin; omega
          have th : thereC cs f = some c := find_take hc hno (by rw [decide_eq_true h1, decide_eq_true h2]; rfl)
          have fin : ∀ lv : Int, lv = c.lev f → ∀ t, H' t = none → Q (.ref t) (upd H' t (.tup [u, .int lv])) := fun lv el t ht => by
            have f1 := Ex.new (o := .tup [u, .int lv]) ht
            refine q (.ref t) _ f1 ?_
            rw [th, el]
            rw [el] at f1
            exact ⟨t, u, rfl, upd_same, hu.tk (TK.ex f1)⟩
          refine ⟨_, rfl, _, rfl, ca, _, 3, _, rfl, rfl, SqT.of hca, rfl, _, _, rfl, rfl, _, rfl, ?_⟩
          refine ite2 (fun c3 => ?_) (fun c3 => ?_)
          · have c3 := of_decide_eq_true c3
            refine ⟨_, rfl, ca, _, 2, _, rfl, rfl, SqT.of hca, rfl, _, rfl, _, _, rfl, rfl, _, _, rfl, rfl, .inl ⟨by decide, by decide⟩, _, rfl, ca, _, 3, _, rfl, rfl, SqT.of hca, rfl, _, _, rfl, rfl, _, _, rfl, rfl, ⟨by omega, by omega⟩, (by show 2 ≤ sizeLine; decide), fun t ht => ?_⟩
            exact fin _ (by unfold Cl.lev; rw [if_pos c3]) t ht
          · have c3 : ¬ f - c.s < c.fi := fun z => c3 (decide_eq_true z)
            refine ⟨_, rfl, _, rfl, ca, _, 4, _, rfl, rfl, SqT.of hca, rfl, _, _, rfl, rfl, _, rfl, ?_⟩
            have eb : c.s + c.n - 1 - f = c.n - (f - c.s) - 1 := by omega
            refine ite2 (fun c4 => ?_) (fun c4 => ?_)
            · have c4 := of_decide_eq_true c4
              refine ⟨_, rfl, ca, _, 2, _, rfl, rfl, SqT.of hca, rfl, _, rfl, _, _, rfl, rfl, _, _, rfl, rfl, .inl ⟨by decide, by decide⟩, _, rfl, ca, _, 4, _, rfl, rfl, SqT.of hca, rfl, _, _, rfl, rfl, _, _, rfl, rfl, ⟨by omega, by omega⟩, (by show 2 ≤ sizeLine; decide), fun t ht => ?_⟩
              exact fin _ (by unfold Cl.lev; rw [if_neg c3, if_pos (by omega), eb]) t ht
            · have c4 : ¬ c.s + c.n - 1 - f < c.fo := fun z => c4 (decide_eq_true z)
              refine ⟨_, rfl, ca, _, 2, _, rfl, rfl, SqT.of hca, rfl, (by show 2 ≤ sizeLine; decide), fun t ht => ?_⟩
              exact fin 256 (by unfold Cl.lev; rw [if_neg c3, if_neg (by omega)]) t ht
        · refine ⟨rfl, ⟨_, _, _, rfl⟩, next ?_⟩
          rw [Bool.and_eq_false_iff, decide_eq_false_iff_not, decide_eq_false_iff_not]
          exact .inr fun z => c2 (decide_eq_true (by unfold Cl.fin at z; omega))
      · refine iteF ?_
        refine ⟨rfl, ⟨_, _, _, rfl⟩, next ?_⟩
        rw [Bool.and_eq_false_iff, decide_eq_false_iff_not, decide_eq_false_iff_not]
        exact .inl fun z => c1 (decide_eq_true (by omega))
    · rintro σ H' ⟨rfl, ⟨x2, x3, x4, rfl⟩, hno⟩
      rw [lu, List.take_length] at hno
      refine q .non H' (Ex.refl _) ?_
      have th : thereC cs f = none := by
        unfold thereC
        rw [List.find?_eq_none]
        intro c hc z
        rw [hno c hc] at z
        cases z
      rw [th]
      exact rfl
abbrev s_l_paint_at : Stmt := top 103
theorem sc_l_paint_at : FnScope ["paint", "x", "y", "width", "height", "values", "covers"] ["paint", "x", "y"] (defScope s_l_paint_at) := ⟨rfl, rfl, rfl, by decide +kernel, rfl, by decide +kernel, by decide +kernel⟩
/-- as paint_at, also outside -/
def spAtL (K : PySem.W.Frag) : Sp := fun vs H Q _ => ∃ v o x y, vs = [v, .int x, .int y] ∧ OpV H v o ∧ opOk 12 o ∧ -2000 ≤ x ∧ x ≤ 2000 ∧ -2000 ≤ y ∧ y ≤ 2000 ∧ ∀ u H', Ex H H' → PtV H' u (opAt o x y) → Q u H'
theorem ok_l_paint_at {f : Addr} {fd : FuncData} (F : Fun K "_law_paint_at" "_law_paint_at" s_l_paint_at f fd) (T : Txt K mg) : FnOk P w K mg base CX0 1 f fd ["paint", "x", "y"] (spAtL K) := by
  refine F.ok sc_l_paint_at (fun vs H Q E h => ?_) (fun cdv A outer s H vs Q E hr h => ?_)
  · obtain ⟨v, o, x, y, rfl, _⟩ := h
    rfl
  · obtain ⟨v, o, x, y, rfl, hv, ko, x0, x1, y0, y1, q⟩ := h
    refine ⟨_, (pss_cons (ps_if (pt_cmpR op_isN (pv 0) pe_non (nomark _))
        (pss_one (ps_ret (pe_tup (pa_cons pe_int (pa_cons pe_int pa_nil)))))
        pss_nil)
      (pss_cons (ps_if (pt_cmpR op_eq (pe_ix (kixT K) (pv 0) pe_int (fun _ _ => rfl)) pe_str (nomark _))
        (pss_one (ps_ret (pe_tup (pa_cons (pe_ix (kixT K) (pv 0) pe_int (fun _ _ => rfl)) (pa_cons pe_int pa_nil)))))
        pss_nil)
      (pss_cons (ps_if (pt_cmpR op_eq (pe_ix (kixT K) (pv 0) pe_int (fun _ _ => rfl)) pe_str (nomark _))
        (pss_one (ps_ret (pe_tup (pa_cons (pe_ix (kixL K) (pe_lst (pa_cons (pe_ix (kixT K) (pv 0) pe_int (fun _ _ => rfl)) (pa_cons (pe_ix (kixT K) (pv 0) pe_int (fun _ _ => rfl)) pa_nil))) (pe_op op_mod (pe_callTy call_int1 (by rfl) T.int_ bt_int (pa_cons (pe_op op_add (pe_op op_fdiv (pv 1) (pe_ix (kixT K) (pv 0) pe_int (fun _ _ => rfl))) (pe_op op_fdiv (pv 2) (pe_ix (kixT K) (pv 0) pe_int (fun _ _ => rfl)))) pa_nil)) pe_int) (fun _ _ => rfl)) (pa_cons pe_int pa_nil)))))
        pss_nil)
      (pss_cons (ps_asg (pe_ix (kixT K) (pv 0) pe_int (fun _ _ => rfl)) (kpgT K (n := 4) rfl (pgs_cons (pg_name (i := 3) sc_l_paint_at.nd rfl (by first | exact Or.inl rfl | exact Or.inr rfl)) (pgs_cons (pg_name (i := 4) sc_l_paint_at.nd rfl (by first | exact Or.inl rfl | exact Or.inr rfl)) (pgs_cons (pg_name (i := 5) sc_l_paint_at.nd rfl (by first | exact Or.inl rfl | exact Or.inr rfl)) (pgs_cons (pg_name (i := 6) sc_l_paint_at.nd rfl (by first | exact Or.inl rfl | exact Or.inr rfl)) pgs_nil))))))
      (pss_cons (ps_if (PW.pt (pw_or (pt_cmpR op_lt (pv 1) pe_int (nomark _)) (pw_or (pt_cmpR op_lt (pv 2) pe_int (nomark _)) (pw_or (pt_cmpR op_ge (pv 1) (pv 3) (nomark _)) (pw_or1 (pt_cmpR op_ge (pv 2) (pv 4) (nomark _)))))))
        (pss_one (ps_ret (pe_tup (pa_cons pe_int (pa_cons pe_int pa_nil)))))
        pss_nil)
      (pss_one (ps_ret (pe_tup (pa_cons (pe_ix (kixT K) (pv 5) (pe_op op_add (pe_op op_mul (pv 2) (pv 3)) (pv 1)) (fun _ _ => rfl)) (pa_cons (pe_ix (kixT K) (pv 6) (pe_op op_add (pe_op op_mul (pv 2) (pv 3)) (pv 1)) (fun _ _ => rfl)) pa_nil)))))))))), ?_⟩
    rw [start_nrm (Nat.le_of_ble_eq_true rfl)]; dsimp only [startL]
    refine ⟨_, rfl, rfl, _, rfl, ?_⟩
    cases o with
    | none =>
      cases hv
      refine iteD rfl ?_
      refine ⟨(by show 2 ≤ sizeLine; decide), fun t ht => ?_⟩
      exact q _ _ (Ex.new ht) ⟨t, rfl, upd_same⟩
    | some p =>
      have hv : PaV H v p := hv
      cases p with
      | solid z =>
        obtain ⟨a, rfl, ha⟩ := hv
        refine iteN (fun z => nomatch z) ?_
        refine ⟨_, rfl, a, _, 0, _, rfl, rfl, SqT.of ha, rfl, rfl, _, rfl, ?_⟩
        refine iteE (by decide +kernel) ?_
        refine ⟨_, rfl, a, _, 1, _, rfl, rfl, SqT.of ha, rfl, (by show 2 ≤ sizeLine; decide), fun t ht => ?_⟩
        exact q _ _ (Ex.new ht) ⟨t, rfl, upd_same⟩
      | steps z1 z2 z =>
        obtain ⟨a, rfl, ha⟩ := hv
        obtain ⟨k1, k2, k3, k4, k5, k6⟩ := ko
        refine iteN (fun z => nomatch z) ?_
        refine ⟨_, rfl, a, _, 0, _, rfl, rfl, SqT.of ha, rfl, rfl, _, rfl, ?_⟩
        refine iteW (by decide +kernel) ?_
        refine ⟨_, rfl, a, _, 0, _, rfl, rfl, SqT.of ha, rfl, rfl, _, rfl, ?_⟩
        refine iteE (by decide +kernel) ?_
        refine ⟨_, rfl, a, _, 1, _, rfl, rfl, SqT.of ha, rfl, _, rfl, a, _, 2, _, rfl, rfl, SqT.of ha, rfl, (by show 2 ≤ sizeLine; decide), fun l hl => ?_⟩
        have f1 := Ex.new (o := .lst [.int z1, .int z2]) hl
        have k1' : upd H l (.lst [.int z1, .int z2]) l = some (.lst [.int z1, .int z2]) := upd_same
        generalize upd H l (.lst [.int z1, .int z2]) = H1 at f1 k1' ⊢
        have ha1 := f1 _ _ ha
        refine ⟨_, rfl, _, rfl, a, _, 3, _, rfl, rfl, SqT.of ha1, rfl, _, _, rfl, rfl, ⟨by omega, by omega⟩, _, rfl, _, rfl, a, _, 3, _, rfl, rfl, SqT.of ha1, rfl, _, _, rfl, rfl, ⟨by omega, by omega⟩, _, _, rfl, rfl, ?_⟩
        refine .inl ⟨_, rfl, _, _, rfl, rfl, (by show (0 : Int) < 2; decide), ?_⟩
        have fin : ∀ w : Int, w = (if (x / z + y / z) % 2 = 0 then z1 else z2) → ∀ t, H1 t = none → Q (.ref t) (upd H1 t (.tup [.int w, .int 256])) := fun w ew t ht => q _ _ (f1.trans (Ex.new ht)) ⟨t, rfl, by rw [upd_same, ew]; rfl⟩
        have two : (x / z + y / z) % 2 = 0 ∨ (x / z + y / z) % 2 = 1 := by omega
        rcases two with e | e
        · refine ⟨l, _, _, .int z1, rfl, rfl, SqL.of k1', by show atI _ ((x / z + y / z) % 2) = _; rw [e]; rfl, (by show 2 ≤ sizeLine; decide), fun t ht => ?_⟩
          exact fin z1 (by rw [if_pos e]) t ht
        · refine ⟨l, _, _, .int z2, rfl, rfl, SqL.of k1', by show atI _ ((x / z + y / z) % 2) = _; rw [e]; rfl, (by show 2 ≤ sizeLine; decide), fun t ht => ?_⟩
          exact fin z2 (by rw [if_neg (by omega)]) t ht
      | pic p =>
        obtain ⟨a, u, rfl, ha, hu⟩ := hv
        have kp : p.Ok 12 := ko
        obtain ⟨b, va, ca, rfl, hb, hva, hca⟩ := id hu
        refine iteN (fun z => nomatch z) ?_
        refine ⟨_, rfl, a, _, 0, _, rfl, rfl, SqT.of ha, rfl, rfl, _, rfl, ?_⟩
        refine iteW (by decide +kernel) ?_
        refine ⟨_, rfl, a, _, 0, _, rfl, rfl, SqT.of ha, rfl, rfl, _, rfl, ?_⟩
        refine iteW (by decide +kernel) ?_
        refine ⟨_, rfl, a, _, 1, _, rfl, rfl, SqT.of ha, rfl, ?_⟩
        refine ⟨b, _, rfl, SqT.of hb, rfl, _, _, rfl, _, _, rfl, _, _, rfl, _, _, rfl, rfl, ?_⟩
        dsimp only [List.set]
        have out : ¬ p.In x y → ∀ t, H t = none → Q (.ref t) (upd H t (.tup [.int 0, .int 0])) := fun no t ht => q _ _ (Ex.new ht) ⟨t, rfl, by rw [upd_same]; show _ = some (HO.tup [.int (p.at x y).1, .int (p.at x y).2]); unfold Pc.at; rw [if_neg no]⟩
        refine ⟨_, rfl, _, _, rfl, rfl, _, rfl, ?_⟩
        refine ite2 (fun c1 => ?_) (fun c1 => ?_)
        · refine iteT ⟨(by show 2 ≤ sizeLine; decide), out fun z => ?_⟩
          have := of_decide_eq_true c1
          have := z.1
          omega
        refine ⟨_, rfl, _, _, rfl, rfl, _, rfl, ?_⟩
        refine ite2 (fun c2 => ?_) (fun c2 => ?_)
        · refine iteT ⟨(by show 2 ≤ sizeLine; decide), out fun z => ?_⟩
          have := of_decide_eq_true c2
          have := z.2.2.1
          omega
        refine ⟨_, rfl, _, rfl, _, _, rfl, rfl, _, rfl, ?_⟩
        refine ite2 (fun c3 => ?_) (fun c3 => ?_)
        · refine iteT ⟨(by show 2 ≤ sizeLine; decide), out fun z => ?_⟩
          have := of_decide_eq_true c3
          have := z.2.1
          omega
        refine ⟨_, rfl, _, rfl, _, _, rfl, rfl, _, rfl, ?_⟩
        refine ite2 (fun c4 => ?_) (fun c4 => ?_)
        · refine ⟨(by show 2 ≤ sizeLine; decide), out fun z => ?_⟩
          have := of_decide_eq_true c4
          have := z.2.2.2
          omega
        have hin : p.In x y := ⟨by have : ¬ x < 0 := fun z => c1 (decide_eq_true z); omega, by have : ¬ x ≥ p.w := fun z => c3 (decide_eq_true z); omega, by have : ¬ y < 0 := fun z => c2 (decide_eq_true z); omega, by have : ¬ y ≥ p.h := fun z => c4 (decide_eq_true z); omega⟩
        obtain ⟨b0, b1⟩ := place_lt hin.1 hin.2.1 hin.2.2.1 hin.2.2.2
        have w1 := kp.w1
        have w2 := kp.w2
        refine ⟨_, rfl, _, rfl, _, rfl, _, _, rfl, rfl, .inr ⟨by omega, by omega⟩, _, rfl, _, _, rfl, rfl, va, _, _, _, rfl, rfl, SqT.of hva, atD b0 (by rw [kp.vl]; exact b1), ?_⟩
        refine ⟨_, rfl, _, rfl, _, rfl, _, _, rfl, rfl, .inr ⟨by omega, by omega⟩, _, rfl, _, _, rfl, rfl, ca, _, _, _, rfl, rfl, SqT.of hca, atD b0 (by rw [kp.cl]; exact b1), ?_⟩
        refine ⟨(by show 2 ≤ sizeLine; decide), fun t ht => ?_⟩
        refine q _ _ (Ex.new ht) ⟨t, rfl, ?_⟩
        rw [upd_same]
        show _ = some (HO.tup [.int (p.at x y).1, .int (p.at x y).2])
        unfold Pc.at
        rw [if_pos hin]
abbrev s_l_items : Stmt := top 105
theorem sc_l_items : FnScope ["parts", "frame", "found", "layer", "there", "across", "down", "level", "mode", "box"] ["parts", "frame"] (defScope s_l_items) := ⟨rfl, rfl, rfl, by decide +kernel, rfl, by decide +kernel, by decide +kernel⟩
/-- an item as the law works it out: a box, not cut to the canvas -/
structure LI where
  x : Int
  y : Int
  w : Int
  h : Int
  pa : Option Pa
  lv : Int
  md : Md
def LIV (H : Hp) (v : V) (i : LI) : Prop := ∃ a pv mv, v = .ref a ∧ H a = some (.tup [.int i.x, .int i.y, .int i.w, .int i.h, pv, .int i.lv, mv]) ∧ OpV H pv i.pa ∧ MdV H mv i.md
theorem LIV.tk {H H' : Hp} {v : V} {i : LI} (e : TK H H') (h : LIV H v i) : LIV H' v i := by
  obtain ⟨a, pv, mv, rfl, h1, h2, h3⟩ := h
  exact ⟨a, pv, mv, rfl, e _ _ h1, h2.tk e, h3.tk e⟩
def La.litem (l : La) (f : Int) : Option LI := match thereC l.cs f with
  | none => none
  | some c => if 0 < l.lev f c then some ⟨(l.corner f).1, (l.corner f).2, l.box.w, l.box.h, c.pa, l.lev f c, l.wh.md⟩ else none
def Fi.litems (x : Fi) (f : Int) : List LI := x.ls.filterMap fun l => l.litem f
def spLItems (K : PySem.W.Frag) : Sp := fun vs H Q _ => ∃ (v : V) (x : Fi) (f : Int), vs = [v, .int f] ∧ FiV H v x ∧ (∀ l ∈ x.ls, l.Vd) ∧ x.ls.length ≤ 100 ∧ ∀ p us H', H p = none → Ex H H' → H' p = some (.lst us) → Paired (LIV H') us (x.litems f) → Q (.ref p) H'
theorem ok_l_items {f : Addr} {fd : FuncData} (F : Fun K "_law_items" "_law_items" s_l_items f fd) (T : Txt K mg) (D_l_there : Def P w K mg base CX0 "_law_there" 1 ["clips", "frame"] (spThere K)) (D_l_offset : Def P w K mg base CX0 "_law_offset" 2 ["moves", "frame"] (spOffF K)) : FnOk P w K mg base CX0 3 f fd ["parts", "frame"] (spLItems K) := by
  refine F.ok sc_l_items (fun vs H Q E h => ?_) (fun cdv A outer s H vs Q E hr h => ?_)
  · obtain ⟨v, x, fr, rfl, _⟩ := h
    rfl
  · obtain ⟨v, x, fr, rfl, ⟨a, L, us, rfl, ha, hL, hP⟩, k, ll, q⟩ := h
    have lu := hP.length
    refine ⟨_, (pss_cons (ps_set (i := 2) sc_l_items.nd rfl (by first | exact Or.inl rfl | exact Or.inr rfl) (pe_lst pa_nil))
      (pss_cons (ps_for PassesOwn.never rfl (kpiL K (pe_ix (kixT K) (pv 0) pe_int (fun _ _ => rfl))) (pg_name (i := 3) sc_l_items.nd rfl (by first | exact Or.inl rfl | exact Or.inr rfl))
        (pss_cons (ps_set (i := 4) sc_l_items.nd rfl (by first | exact Or.inl rfl | exact Or.inr rfl) (pe_call D_l_there.ok (hr.mono (by decide)) rfl D_l_there.mgf D_l_there.kp D_l_there.b .nil pass0 (pa_cons (pe_ix (kixT K) (pv 3) pe_int (fun _ _ => rfl)) (pa_cons (pv 1) pa_nil))))
        (pss_one (ps_if (pt_cmpR op_notN (pv 4) pe_non (nomark _))
          (pss_cons (ps_asg (pe_call D_l_offset.ok (hr.mono (by decide)) rfl D_l_offset.mgf D_l_offset.kp D_l_offset.b .nil pass0 (pa_cons (pe_ix (kixT K) (pv 3) pe_int (fun _ _ => rfl)) (pa_cons (pv 1) pa_nil))) (kpgT K (n := 2) rfl (pgs_cons (pg_name (i := 5) sc_l_items.nd rfl (by first | exact Or.inl rfl | exact Or.inr rfl)) (pgs_cons (pg_name (i := 6) sc_l_items.nd rfl (by first | exact Or.inl rfl | exact Or.inr rfl)) pgs_nil))))
          (pss_cons (ps_set (i := 7) sc_l_items.nd rfl (by first | exact Or.inl rfl | exact Or.inr rfl) pe_int)
          (pss_cons (ps_set (i := 8) sc_l_items.nd rfl (by first | exact Or.inl rfl | exact Or.inr rfl) (pe_ix (kixT K) (pv 3) pe_int (fun _ _ => rfl)))
          (pss_cut (ps_if (pt_cmpR op_eq (pe_ix (kixT K) (pv 8) pe_int (fun _ _ => rfl)) pe_str (nomark _))
            (pss_cons (ps_set (i := 7) sc_l_items.nd rfl (by first | exact Or.inl rfl | exact Or.inr rfl) (pe_op op_fdiv (pe_op op_mul (pe_ix (kixT K) (pe_ix (kixT K) (pv 3) pe_int (fun _ _ => rfl)) pe_int (fun _ _ => rfl)) (pe_ix (kixT K) (pv 4) pe_int (fun _ _ => rfl))) pe_int))
            (pss_one (ps_set (i := 8) sc_l_items.nd rfl (by first | exact Or.inl rfl | exact Or.inr rfl) (pe_tup (pa_cons (pe_ix (kixT K) (pe_ix (kixT K) (pv 3) pe_int (fun _ _ => rfl)) pe_int (fun _ _ => rfl)) pa_nil)))))
            pss_nil)
          (pss_one (ps_if (pt_cmpR op_gt (pv 7) pe_int (nomark _))
            (pss_cons (ps_set (i := 9) sc_l_items.nd rfl (by first | exact Or.inl rfl | exact Or.inr rfl) (pe_ix (kixT K) (pv 3) pe_int (fun _ _ => rfl)))
            (pss_one (ps_expr (pe_bm PySem.F.plainAttrs_list PySem.F.slot_list_append PySem.F.type_list_append mt_append (pv 2) (pa_cons (pe_tup (pa_cons (pe_op op_add (pe_ix (kixT K) (pv 9) pe_int (fun _ _ => rfl)) (pv 5)) (pa_cons (pe_op op_add (pe_ix (kixT K) (pv 9) pe_int (fun _ _ => rfl)) (pv 6)) (pa_cons (pe_ix (kixT K) (pv 9) pe_int (fun _ _ => rfl)) (pa_cons (pe_ix (kixT K) (pv 9) pe_int (fun _ _ => rfl)) (pa_cons (pe_ix (kixT K) (pv 4) pe_int (fun _ _ => rfl)) (pa_cons (pv 7) (pa_cons (pv 8) pa_nil)))))))) pa_nil)))))
            pss_nil))))))
          pss_nil))))
      (pss_one (ps_ret (pv 2))))), ?_⟩
    rw [start_nrm (Nat.le_of_ble_eq_true rfl)]; dsimp only [startL]
    refine ⟨(by show 0 ≤ sizeLine; decide), fun D hD => ?_⟩
    have e0 := Ex.new (o := .lst []) hD
    have g0 : upd H D (.lst []) D = some (.lst []) := upd_same
    generalize upd H D (.lst []) = H0 at e0 g0 ⊢
    dsimp only [List.set]
    refine ⟨_, rfl, a, _, 4, _, rfl, rfl, SqT.of (e0 _ _ ha), rfl, L, rfl, ⟨us, SqL.of (e0 _ _ hL)⟩, for_list (K := K) (a := L) (xs := us) (fun i σ H' => Ex H H' ∧ (∃ (x3 x4 x5 x6 x7 x8 x9 : Option V), σ = [some (.ref a), some (.int fr), some (.ref D), x3, x4, x5, x6, x7, x8, x9]) ∧ ∃ ws, H' D = some (.lst ws) ∧ Paired (LIV H') ws ((x.ls.take i).filterMap fun l => l.litem fr)) ?_ ?_ ?_ ?_⟩
    · exact ⟨e0, ⟨_, _, _, _, _, _, _, rfl⟩, [], g0, .nil⟩
    · rintro i σ H' _ ⟨e, _⟩
      exact SqL.of (e _ _ hL)
    · rintro i uv σ H1 hi ⟨e1, ⟨x3, x4, x5, x6, x7, x8, x9, rfl⟩, ws, hW, hI⟩
      obtain ⟨l, hl, hlv⟩ := pr_get hP hi
      have kl := k l (List.mem_of_getElem? hl)
      have lw := hI.length
      have fl := List.length_filterMap_le (fun l => l.litem fr) (x.ls.take i)
      rw [List.length_take] at fl
      have stp : (x.ls.take (i + 1)).filterMap (fun l => l.litem fr) = (x.ls.take i).filterMap (fun l => l.litem fr) ++ (l.litem fr).toList := by
        rw [List.take_add_one, hl, List.filterMap_append]
        cases h : l.litem fr <;> simp [h]
      obtain ⟨la, bv, ma, wv, ca, ms, cl, rfl, hla, hb, hma, hM, hw, hca, hC⟩ := hlv.tk (TK.ex e1)
      refine ⟨_, rfl, la, _, 4, _, rfl, rfl, SqT.of hla, rfl, _, rfl, ca, cl, l.cs, fr, rfl, hca, hC, fun c hc => (kl.cs.ok c hc).num, fun tv H2 e2 htv => ?_⟩
      have e12 := e1.trans e2
      have hW2 := e2 _ _ hW
      have hI2 := Paired.mapP hI fun _ _ => LIV.tk (TK.ex e2)
      dsimp only [List.set]
      refine ⟨_, rfl, rfl, _, rfl, ?_⟩
      cases hth : thereC l.cs fr with
      | none =>
        rw [hth] at htv
        cases htv
        have en : l.litem fr = none := by unfold La.litem; rw [hth]
        refine iteF ?_
        refine ⟨e12, ⟨_, _, _, _, _, _, _, rfl⟩, ws, hW2, ?_⟩
        rw [stp, en, Option.toList_none, List.append_nil]
        exact hI2
      | some c =>
        rw [hth] at htv
        obtain ⟨ta, tu, rfl, hta, htu⟩ := htv
        have hcm : c ∈ l.cs := List.mem_of_find?_eq_some hth
        have hh := List.find?_some hth
        rw [Bool.and_eq_true, decide_eq_true_eq, decide_eq_true_eq] at hh
        have lv := c.lev_num (kl.cs.ok c hcm).num hh.1 hh.2
        have el : l.litem fr = if 0 < l.lev fr c then some ⟨(l.corner fr).1, (l.corner fr).2, l.box.w, l.box.h, c.pa, l.lev fr c, l.wh.md⟩ else none := by unfold La.litem; rw [hth]
        refine iteT ?_
        refine ⟨_, rfl, la, _, 2, _, rfl, rfl, SqT.of (e2 _ _ hla), rfl, _, rfl, ma, ms, l.ms, fr, rfl, e2 _ _ hma, hM.tk (TK.ex e2), kl.ms.asc, kl.ms.mok, by have := kl.ms.len; omega, fun r H3 e3 hr3 => ?_⟩
        have e13 := e12.trans e3
        obtain ⟨ra, rfl, hra⟩ := hr3
        have e23 := e2.trans e3
        have hla3 := e23 _ _ hla
        obtain ⟨ba, rfl, hba⟩ := hb.tk (TK.ex e23)
        obtain ⟨wa, rfl, hwa⟩ := hw.tk (TK.ex e23)
        refine ⟨ra, _, rfl, SqT.of hra, rfl, _, _, rfl, _, _, rfl, rfl, ?_⟩
        refine ⟨_, rfl, la, _, 3, _, rfl, rfl, SqT.of hla3, rfl, ?_⟩
        dsimp only [List.set]
        have hta3 := e3 _ _ hta
        refine ⟨fun σ H' => Ex H3 H' ∧ ∃ mv, σ = [some (.ref a), some (.int fr), some (.ref D), some (.ref la), some (.ref ta), some (.int (off l.ms fr).1), some (.int (off l.ms fr).2), some (.int (l.lev fr c)), some mv, x9] ∧ MdV H' mv l.wh.md, ?_, ?_⟩
        · dsimp only [List.set]
          refine ⟨_, rfl, wa, _, 0, _, rfl, rfl, SqT.of hwa, l.wh.at0, rfl, _, rfl, ?_⟩
          cases hwh : l.wh with
          | invert =>
            refine iteW (by decide +kernel) ?_
            refine ⟨Ex.refl _, .ref wa, ?_, wa, rfl, by rw [hwa, hwh]; rfl⟩
            unfold La.lev
            rw [hwh]
            first | done | rfl
          | shift n =>
            refine iteW (by show Str.ofString "shift" ≠ _; decide +kernel) ?_
            refine ⟨Ex.refl _, .ref wa, ?_, wa, rfl, by rw [hwa, hwh]; rfl⟩
            unfold La.lev
            rw [hwh]
            first | done | rfl
          | paint o m =>
            rw [hwh] at hwa
            have kw := kl.wh
            rw [hwh] at kw
            obtain ⟨o0, o1, hm⟩ := kw
            refine iteE (by show Str.ofString "paint" = _; decide +kernel) ?_
            refine ⟨_, rfl, la, _, 3, _, rfl, rfl, SqT.of hla3, rfl, wa, _, 1, _, rfl, rfl, SqT.of hwa, rfl, _, rfl, ta, _, 1, _, rfl, rfl, SqT.of hta3, rfl, _, _, rfl, rfl, .inl ⟨by omega, by omega⟩, _, _, rfl, rfl, ⟨by decide, by decide⟩, ?_⟩
            dsimp only [List.set]
            refine ⟨_, rfl, la, _, 3, _, rfl, rfl, SqT.of hla3, rfl, wa, _, 2, _, rfl, rfl, SqT.of hwa, rfl, (by show 1 ≤ sizeLine; decide), fun t ht => ?_⟩
            dsimp only [List.set]
            have f1 := Ex.new (o := .tup [.str m]) ht
            refine ⟨f1, .ref t, ?_, t, rfl, by rw [upd_same, (md_items hm).1]⟩
            unfold La.lev
            rw [hwh]
            first | done | rfl
        rintro σ H4 ⟨e4, mv, rfl, hmv⟩
        have hla4 := e4 _ _ hla3
        have hba4 := e4 _ _ hba
        have hta4 := e4 _ _ hta3
        have e34 := e3.trans e4
        refine ⟨_, rfl, _, _, rfl, rfl, _, rfl, ?_⟩
        refine ite2 (fun cl0 => ?_) (fun cl0 => ?_)
        · have cl0 := of_decide_eq_true cl0
          refine ⟨_, rfl, la, _, 1, _, rfl, rfl, SqT.of hla4, rfl, ?_⟩
          dsimp only [List.set]
          have hW4 := e34 _ _ hW2
          refine ⟨_, rfl, .inl ⟨rfl, _, SqL.of hW4⟩, ?_⟩
          refine ⟨_, rfl, ba, _, 0, _, rfl, rfl, SqT.of hba4, rfl, _, rfl, _, _, rfl, rfl, ?_⟩
          refine ⟨_, rfl, ba, _, 1, _, rfl, rfl, SqT.of hba4, rfl, _, rfl, _, _, rfl, rfl, ?_⟩
          refine ⟨_, rfl, ba, _, 2, _, rfl, rfl, SqT.of hba4, rfl, _, rfl, ba, _, 3, _, rfl, rfl, SqT.of hba4, rfl, ?_⟩
          refine ⟨_, rfl, ta, _, 0, _, rfl, rfl, SqT.of hta4, rfl, _, rfl, _, rfl, (by show 7 ≤ sizeLine; decide), fun t ht => ?_⟩
          have f5 := Ex.new (o := .tup [.int (l.corner fr).1, .int (l.corner fr).2, .int l.box.w, .int l.box.h, tu, .int (l.lev fr c), mv]) ht
          have g5 : upd H4 t (.tup [.int (l.corner fr).1, .int (l.corner fr).2, .int l.box.w, .int l.box.h, tu, .int (l.lev fr c), mv]) t = some (.tup [.int (l.corner fr).1, .int (l.corner fr).2, .int l.box.w, .int l.box.h, tu, .int (l.lev fr c), mv]) := upd_same
          have hW5 := f5 _ _ hW4
          refine ⟨D, ws, .ref t, rfl, rfl, hW5, slineL (by omega), ?_⟩
          have e05 := (e13.trans e4).trans f5
          refine ⟨e05.mut hD, ⟨_, _, _, _, _, _, _, rfl⟩, ws ++ [.ref t], upd_same, ?_⟩
          rw [stp, el, if_pos cl0]
          have tk := TK.lst (o := .lst (ws ++ [.ref t])) hW5
          exact pr_append (Paired.mapP (Paired.mapP hI2 fun _ _ => LIV.tk (TK.ex (e34.trans f5))) fun _ _ => LIV.tk tk) (.cons (LIV.tk tk ⟨t, tu, mv, rfl, g5, (htu.tk (TK.ex e34)).tk (TK.ex f5), hmv.tk (TK.ex f5)⟩) .nil)
        · refine ⟨e13.trans e4, ⟨_, _, _, _, _, _, _, rfl⟩, ws, e34 _ _ hW2, ?_⟩
          rw [stp, el, if_neg (fun z => cl0 (decide_eq_true z)), Option.toList_none, List.append_nil]
          exact Paired.mapP hI2 fun _ _ => LIV.tk (TK.ex e34)
    · rintro σ H1 ⟨e1, ⟨x3, x4, x5, x6, x7, x8, x9, rfl⟩, ws, hW, hI⟩
      rw [lu, List.take_length] at hI
      exact ⟨_, rfl, q D ws H1 hD e1 hW hI⟩
abbrev s_l_in : Stmt := top 106
theorem sc_l_in : FnScope ["item", "x", "y"] ["item", "x", "y"] (defScope s_l_in) := ⟨rfl, rfl, rfl, by decide +kernel, rfl, by decide +kernel, by decide +kernel⟩
def LI.here (i : LI) (x y : Int) : Bool := decide (i.x ≤ x) && decide (x < i.x + i.w) && decide (i.y ≤ y) && decide (y < i.y + i.h)
def spLIn (K : PySem.W.Frag) : Sp := fun vs H Q _ => ∃ (v : V) (i : LI) (x y : Int), vs = [v, .int x, .int y] ∧ LIV H v i ∧ Q (.bl (i.here x y)) H
theorem ok_l_in {f : Addr} {fd : FuncData} (F : Fun K "_law_in" "_law_in" s_l_in f fd) (T : Txt K mg) : FnOk P w K mg base CX0 1 f fd ["item", "x", "y"] (spLIn K) := by
  refine F.ok sc_l_in (fun vs H Q E h => ?_) (fun cdv A outer s H vs Q E hr h => ?_)
  · obtain ⟨v, i, x, y, rfl, _⟩ := h
    rfl
  · obtain ⟨v, i, x, y, rfl, ⟨a, pw, mv, rfl, ha, _⟩, q⟩ := h
    refine ⟨_, (pss_one (ps_ret (pe_and (pe_cmpR op_le (pe_ix (kixT K) (pv 0) pe_int (fun _ _ => rfl)) (pv 1) (nomark _)) (pe_and (pe_cmpR op_lt (pv 1) (pe_op op_add (pe_ix (kixT K) (pv 0) pe_int (fun _ _ => rfl)) (pe_ix (kixT K) (pv 0) pe_int (fun _ _ => rfl))) (nomark _)) (pe_and (pe_cmpR op_le (pe_ix (kixT K) (pv 0) pe_int (fun _ _ => rfl)) (pv 2) (nomark _)) (pe_one (pe_cmpR op_lt (pv 2) (pe_op op_add (pe_ix (kixT K) (pv 0) pe_int (fun _ _ => rfl)) (pe_ix (kixT K) (pv 0) pe_int (fun _ _ => rfl))) (nomark _)))))))), ?_⟩
    rw [start_nrm (Nat.le_of_ble_eq_true rfl)]; dsimp only [startL]
    unfold LI.here at q
    refine ⟨_, rfl, a, _, 0, _, rfl, rfl, SqT.of ha, rfl, _, rfl, _, _, rfl, rfl, _, rfl, ?_⟩
    cases c1 : decide (i.x ≤ x) with
    | false => rw [c1, Bool.false_and, Bool.false_and, Bool.false_and] at q; exact iteF q
    | true =>
      rw [c1, Bool.true_and] at q
      refine iteT ?_
      refine ⟨_, rfl, _, rfl, a, _, 0, _, rfl, rfl, SqT.of ha, rfl, _, rfl, a, _, 2, _, rfl, rfl, SqT.of ha, rfl, _, _, rfl, rfl, _, _, rfl, rfl, _, rfl, ?_⟩
      cases c2 : decide (x < i.x + i.w) with
      | false => rw [c2, Bool.false_and, Bool.false_and] at q; exact iteF q
      | true =>
        rw [c2, Bool.true_and] at q
        refine iteT ?_
        refine ⟨_, rfl, a, _, 1, _, rfl, rfl, SqT.of ha, rfl, _, rfl, _, _, rfl, rfl, _, rfl, ?_⟩
        cases c3 : decide (i.y ≤ y) with
        | false => rw [c3, Bool.false_and] at q; exact iteF q
        | true =>
          rw [c3, Bool.true_and] at q
          refine iteT ?_
          exact ⟨_, rfl, _, rfl, a, _, 1, _, rfl, rfl, SqT.of ha, rfl, _, rfl, a, _, 3, _, rfl, rfl, SqT.of ha, rfl, _, _, rfl, rfl, _, _, rfl, rfl, q⟩
theorem La.lev_in {l : La} {f : Int} {c : Cl} (k : l.Vd) (h : l.there f = some c) : 0 ≤ l.lev f c ∧ l.lev f c ≤ 256 := by
  have hcm : c ∈ l.cs := List.mem_of_find?_eq_some h
  have hh := List.find?_some h
  rw [Bool.and_eq_true, decide_eq_true_eq, decide_eq_true_eq] at hh
  have lv := c.lev_num (k.cs.ok c hcm).num hh.1 hh.2
  unfold La.lev
  cases hw : l.wh with
  | paint o m =>
    have kw := k.wh
    rw [hw] at kw
    obtain ⟨o0, o1, _⟩ := kw
    exact cov_in o0 o1 lv.1 lv.2
  | invert => exact ⟨by show (0 : Int) ≤ 256; decide, Int.le_refl 256⟩
  | shift n => exact ⟨by show (0 : Int) ≤ 256; decide, Int.le_refl 256⟩
def bxD (b : Bx) : PyData := .tuple [.int b.l, .int b.t, .int b.w, .int b.h]
def whD : Wh → PyData
  | .invert => .tuple [.str "invert"] | .shift n => .tuple [.str "shift", .int n] | .paint o m => .tuple [.str "paint", .int o, .str m]
def laD (l : La) : PyData := .tuple [.str l.name, bxD l.box, .tuple (l.ms.map mvD), whD l.wh, clsD l.cs]
theorem LaV.dp {K : PySem.W.Frag} {H : Hp} {v : V} {l : La} (h : LaV H v l) : Dp K H v (laD l) := by
  obtain ⟨a, bv, ma, wv, ca, us, ws, rfl, h1, ⟨ba, rfl, hb⟩, h3, h4, ⟨wa, rfl, hw⟩, h6, h7⟩ := h
  refine .tup (SqT.of h1) (.cons (.str _) (.cons (.tup (SqT.of hb) (dp_ints [l.box.l, l.box.t, l.box.w, l.box.h])) (.cons (.tup (SqT.of h3) (dp_all (fun _ _ z => MvV.dp z) h4)) (.cons ?_ (.cons (.tup (SqT.of h6) (dp_all (fun _ _ z => ClV.dp z) h7)) .nil)))))
  cases hx : l.wh with
  | invert => rw [hx] at hw; exact .tup (SqT.of hw) (.cons (.str _) .nil)
  | shift n => rw [hx] at hw; exact .tup (SqT.of hw) (.cons (.str _) (.cons (.int _) .nil))
  | paint o m => rw [hx] at hw; exact .tup (SqT.of hw) (.cons (.str _) (.cons (.int _) (.cons (.str _) .nil)))
/-- all parts of a film, layers in a list -/
def fiD (x : Fi) : PyData := .tuple [.int x.w, .int x.h, .int x.n, .int x.b, .list (x.ls.map laD)]
theorem FiV.dp {K : PySem.W.Frag} {H : Hp} {v : V} {x : Fi} (h : FiV H v x) : Dp K H v (fiD x) := by
  obtain ⟨a, L, us, rfl, ha, hL, hP⟩ := h
  exact .tup (SqT.of ha) (.cons (.int _) (.cons (.int _) (.cons (.int _) (.cons (.int _) (.cons (.lst (SqL.of hL) (dp_all (fun _ _ z => LaV.dp z) hP)) .nil)))))
abbrev s_entry_of : Stmt := top 85
theorem sc_entry_of : FnScope ["item", "_", "corner", "paint", "level", "mode"] ["item"] (defScope s_entry_of) := ⟨rfl, rfl, rfl, by decide +kernel, rfl, by decide +kernel, by decide +kernel⟩
/-- an entry of a stack -/
structure En where
  pa : Option Pa
  at_ : Option Pt
  lv : Int
  md : Md
def OptPtV (H : Hp) (v : V) : Option Pt → Prop
  | none => v = .non
  | some p => PtV H v p
theorem OptPtV.tk {H H' : Hp} {v : V} {o : Option Pt} (e : TK H H') (h : OptPtV H v o) : OptPtV H' v o := by
  cases o with
  | none => exact h
  | some r => exact PtV.tk e h
def EnV (H : Hp) (v : V) (e : En) : Prop := ∃ a pav cv mv, v = .ref a ∧ H a = some (.tup [pav, cv, .int e.lv, mv]) ∧ OpV H pav e.pa ∧ OptPtV H cv e.at_ ∧ MdV H mv e.md
theorem EnV.tk {H H' : Hp} {v : V} {i : En} (e : TK H H') (h : EnV H v i) : EnV H' v i := by
  obtain ⟨a, pav, cv, mv, rfl, h1, h2, h3, h4⟩ := h
  exact ⟨a, pav, cv, mv, rfl, e _ _ h1, h2.tk e, h3.tk e, h4.tk e⟩
def solidO : Option Pa → Bool
  | none => true
  | some (.solid _) => true
  | _ => false
def enOf (pa : Option Pa) (c : Pt) (lv : Int) (md : Md) : En := ⟨pa, if solidO pa = true then none else some c, lv, md⟩
def It.en (i : It) : En := enOf i.pa i.at_ i.lv i.md
def spEntry (K : PySem.W.Frag) : Sp := fun vs H Q _ => ∃ (v : V) (i : It), vs = [v] ∧ ItV H v i ∧ ∀ u H', Ex H H' → EnV H' u i.en → Q u H'
theorem ok_entry_of {f : Addr} {fd : FuncData} (F : Fun K "_entry_of" "_entry_of" s_entry_of f fd) (T : Txt K mg) : FnOk P w K mg base CX0 1 f fd ["item"] (spEntry K) := by
  refine F.ok sc_entry_of (fun vs H Q E h => ?_) (fun cdv A outer s H vs Q E hr h => ?_)
  · obtain ⟨v, i, rfl, _⟩ := h
    rfl
  · obtain ⟨v, i, rfl, hi, q⟩ := h
    obtain ⟨a, ev, cv, pav, mv, rfl, ha, hev, hcv, hpv, hmv⟩ := id hi
    refine ⟨_, (pss_cons (ps_asg (pv 0) (kpgT K (n := 6) rfl (pgs_cons (pg_name (i := 1) sc_entry_of.nd rfl (by first | exact Or.inl rfl | exact Or.inr rfl)) (pgs_cons (pg_name (i := 2) sc_entry_of.nd rfl (by first | exact Or.inl rfl | exact Or.inr rfl)) (pgs_cons (pg_name (i := 3) sc_entry_of.nd rfl (by first | exact Or.inl rfl | exact Or.inr rfl)) (pgs_cons (pg_name (i := 4) sc_entry_of.nd rfl (by first | exact Or.inl rfl | exact Or.inr rfl)) (pgs_cons (pg_name (i := 5) sc_entry_of.nd rfl (by first | exact Or.inl rfl | exact Or.inr rfl)) (pgs_cons (pg_name (i := 1) sc_entry_of.nd rfl (by first | exact Or.inl rfl | exact Or.inr rfl)) pgs_nil))))))))
      (pss_cons (ps_if (PW.pt (pw_or (pt_cmpR op_isN (pv 3) pe_non (nomark _)) (pw_or1 (pt_cmpR op_eq (pe_ix (kixT K) (pv 3) pe_int (fun _ _ => rfl)) pe_str (nomark _)))))
        (pss_one (ps_ret (pe_tup (pa_cons (pv 3) (pa_cons pe_non (pa_cons (pv 4) (pa_cons (pv 5) pa_nil)))))))
        pss_nil)
      (pss_one (ps_ret (pe_tup (pa_cons (pv 3) (pa_cons (pv 2) (pa_cons (pv 4) (pa_cons (pv 5) pa_nil))))))))), ?_⟩
    rw [start_nrm (Nat.le_of_ble_eq_true rfl)]; dsimp only [startL]
    refine ⟨_, rfl, a, _, rfl, SqT.of ha, rfl, _, _, rfl, _, _, rfl, _, _, rfl, _, _, rfl, _, _, rfl, _, _, rfl, rfl, ?_⟩
    dsimp only [List.set]
    have yes : solidO i.pa = true → ∀ t, H t = none → Q (.ref t) (upd H t (.tup [pav, .non, .int i.lv, mv])) := fun e t ht => by
      refine q _ _ (Ex.new ht) ⟨t, pav, .non, mv, rfl, upd_same, hpv.tk (TK.ex (Ex.new ht)), ?_, hmv.tk (TK.ex (Ex.new ht))⟩
      show OptPtV _ _ (if solidO i.pa = true then none else some i.at_)
      rw [if_pos e]
      rfl
    have no : solidO i.pa = false → ∀ t, H t = none → Q (.ref t) (upd H t (.tup [pav, cv, .int i.lv, mv])) := fun e t ht => by
      refine q _ _ (Ex.new ht) ⟨t, pav, cv, mv, rfl, upd_same, hpv.tk (TK.ex (Ex.new ht)), ?_, hmv.tk (TK.ex (Ex.new ht))⟩
      show OptPtV _ _ (if solidO i.pa = true then none else some i.at_)
      rw [e, if_neg Bool.false_ne_true]
      exact PtV.tk (TK.ex (Ex.new ht)) hcv
    refine ⟨_, rfl, rfl, _, rfl, ?_⟩
    cases hp : i.pa with
    | none =>
      rw [hp] at hpv yes
      cases hpv
      refine iteD rfl ?_
      refine iteT ?_
      exact ⟨_, rfl, _, rfl, _, rfl, (by show 4 ≤ sizeLine; decide), fun t ht => yes rfl t ht⟩
    | some p =>
      rw [hp] at hpv yes no
      have hpv : PaV H pav p := hpv
      cases p with
      | solid z =>
        obtain ⟨b, rfl, hb⟩ := hpv
        refine iteN (fun z => nomatch z) ?_
        refine ⟨_, rfl, b, _, 0, _, rfl, rfl, SqT.of hb, rfl, rfl, _, rfl, ?_⟩
        refine iteE (by decide +kernel) ?_
        exact ⟨_, rfl, _, rfl, _, rfl, (by show 4 ≤ sizeLine; decide), fun t ht => yes rfl t ht⟩
      | steps z1 z2 z =>
        obtain ⟨b, rfl, hb⟩ := hpv
        refine iteN (fun z => nomatch z) ?_
        refine ⟨_, rfl, b, _, 0, _, rfl, rfl, SqT.of hb, rfl, rfl, _, rfl, ?_⟩
        refine iteW (by decide +kernel) ?_
        exact ⟨_, rfl, _, rfl, _, rfl, _, rfl, (by show 4 ≤ sizeLine; decide), fun t ht => no rfl t ht⟩
      | pic p =>
        obtain ⟨b, u, rfl, hb, hu⟩ := hpv
        refine iteN (fun z => nomatch z) ?_
        refine ⟨_, rfl, b, _, 0, _, rfl, rfl, SqT.of hb, rfl, rfl, _, rfl, ?_⟩
        refine iteW (by decide +kernel) ?_
        exact ⟨_, rfl, _, rfl, _, rfl, _, rfl, (by show 4 ≤ sizeLine; decide), fun t ht => no rfl t ht⟩
abbrev s_sheets_of : Stmt := top 84
theorem sc_sheets_of : FnScope ["film", "frame", "sheets", "item"] ["film", "frame"] (defScope s_sheets_of) := ⟨rfl, rfl, rfl, by decide +kernel, rfl, by decide +kernel, by decide +kernel⟩
theorem pr_reverse {α β : Type} {G : α → β → Prop} : ∀ {l₁ : List α} {l₂ : List β}, Paired G l₁ l₂ → Paired G l₁.reverse l₂.reverse
  | _, _, .nil => .nil
  | _, _, .cons r t => by
    rw [List.reverse_cons, List.reverse_cons]
    exact pr_append (pr_reverse t) (.cons r .nil)
/-- a sheet: where, what, and whether it hides -/
structure Sht where
  ext : Rc
  en : En ⊕ Int
  hides : Bool
def SeV (H : Hp) (v : V) : En ⊕ Int → Prop
  | .inl e => EnV H v e
  | .inr b => v = .int b
theorem SeV.tk {H H' : Hp} {v : V} {o : En ⊕ Int} (e : TK H H') (h : SeV H v o) : SeV H' v o := by
  cases o with
  | inl x => exact EnV.tk e h
  | inr b => exact h
def ShtV (H : Hp) (v : V) (s : Sht) : Prop := ∃ a ev sv, v = .ref a ∧ H a = some (.tup [ev, sv, .bl s.hides]) ∧ RcV H ev s.ext ∧ SeV H sv s.en
theorem ShtV.tk {H H' : Hp} {v : V} {s : Sht} (e : TK H H') (h : ShtV H v s) : ShtV H' v s := by
  obtain ⟨a, ev, sv, rfl, h1, h2, h3⟩ := h
  exact ⟨a, ev, sv, rfl, e _ _ h1, h2.tk e, h3.tk e⟩
def It.sh (i : It) : Sht := ⟨i.ext, .inl i.en, i.hides⟩
noncomputable def Fi.sheets (x : Fi) (f : Int) : List Sht := (x.items f).reverse.map It.sh ++ [⟨⟨0, 0, x.w, x.h⟩, .inr x.b, true⟩]
def spSheets (K : PySem.W.Frag) (C : Addr) : Sp := fun vs H Q _ => ∃ (fv : V) (x : Fi) (f : Int), vs = [fv, .int f] ∧ FlV C H fv x ∧ (∀ l ∈ x.ls, l.Vd) ∧ x.ls.length ≤ 16 ∧ ∀ p us H', H p = none → Ex H H' → H' p = some (.lst us) → Paired (ShtV H') us (x.sheets f) → Q (.ref p) H'
theorem ok_sheets_of {f C : Addr} {fd : FuncData} (F : Fun K "_sheets_of" "_sheets_of" s_sheets_of f fd) (T : Txt K mg) (OT_Film : FilmT K C) (D_items_at : Def P w K mg base CX0 "items_at" 6 ["film", "frame"] (spItems K C)) (D_entry_of : Def P w K mg base CX0 "_entry_of" 1 ["item"] (spEntry K))
    (PF_Film_background : Prp P w K mg base C "background" 1 (spGetI C Fi.b)) (PF_Film_height : Prp P w K mg base C "height" 1 (spGetI C Fi.h)) (PF_Film_width : Prp P w K mg base C "width" 1 (spGetI C Fi.w)) : FnOk P w K mg base CX0 7 f fd ["film", "frame"] (spSheets K C) := by
  refine F.ok sc_sheets_of (fun vs H Q E h => ?_) (fun cdv A outer s H vs Q E hr h => ?_)
  · obtain ⟨fv, x, fr, rfl, _⟩ := h
    rfl
  · obtain ⟨fv, x, fr, rfl, hf, k, ll, q⟩ := h
    obtain ⟨fa, dx, L, ls, rfl, hfa, _⟩ := id hf
    refine ⟨_, (pss_cons (ps_setLc (i := 2)  (own := [("item", 3)]) (tt := tYes) rfl sc_sheets_of.nd rfl rfl (sw_true rfl rfl rfl (by decide +kernel)) (pi_reversed (by rfl) T.reversed_ (pa_cons (pe_call D_items_at.ok (hr.mono (by decide)) rfl D_items_at.mgf D_items_at.kp D_items_at.b .nil pass0 (pa_cons (pv 0) (pa_cons (pv 1) pa_nil))) pa_nil)) (blkOk_by (N := ["film", "frame", "sheets", "item"]) (sc := defScope s_sheets_of) (by decide +kernel)) (fun _ _ _ _ _ => (pg_name (i := 3) sc_sheets_of.nd rfl (by first | exact Or.inl rfl | exact Or.inr rfl))) (fun _ _ _ _ _ => pts_nil) (fun _ _ _ _ _ => (pe_tup (pa_cons (pe_ix (kixT K) (pv 3) pe_int (fun _ _ => rfl)) (pa_cons (pe_call D_entry_of.ok (hr.mono (by decide)) rfl D_entry_of.mgf D_entry_of.kp D_entry_of.b .nil pass0 (pa_cons (pv 3) pa_nil)) (pa_cons (pe_ix (kixT K) (pv 3) pe_int (fun _ _ => rfl)) pa_nil))))))
      (pss_one (ps_ret (pe_op op_cat (pv 2) (pe_lst (pa_cons (pe_tup (pa_cons (pe_tup (pa_cons pe_int (pa_cons pe_int (pa_cons (pe_prop (pv 0) OT_Film.cl PF_Film_width.hp PF_Film_width.ok (hr.mono (by decide)) PF_Film_width.b .nil pass0 rfl) (pa_cons (pe_prop (pv 0) OT_Film.cl PF_Film_height.hp PF_Film_height.ok (hr.mono (by decide)) PF_Film_height.b .nil pass0 rfl) pa_nil))))) (pa_cons (pe_prop (pv 0) OT_Film.cl PF_Film_background.hp PF_Film_background.ok (hr.mono (by decide)) PF_Film_background.b .nil pass0 rfl) (pa_cons pe_bl pa_nil)))) pa_nil)))))), ?_⟩
    rw [start_nrm (Nat.le_of_ble_eq_true rfl)]; dsimp only [startL]
    refine ⟨_, rfl, _, rfl, .ref fa, x, fr, rfl, hf, k, ll, fun p us H1 hp e1 hpl hI => ?_⟩
    have lu := hI.length
    have li : (x.items fr).length ≤ 16 := Nat.le_trans (List.length_filterMap_le _ _) ll
    refine ⟨p, us, rfl, SqL.of hpl, fun D hD => ?_⟩
    refine lc_rev (xs := us) (fun i H' => Ex H1 H' ∧ ∃ ws, H' D = some (.lst ws) ∧ Paired (ShtV H') ws ((((x.items fr).reverse).take i).map It.sh)) ⟨Ex.new hD, [], upd_same, .nil⟩ (fun i H' _ p => SqL.of (p.1 _ _ hpl)) ?_ ?_
    · rintro i uv H2 hu ⟨e2, ws, hW, hJ⟩
      obtain ⟨it, hit, hiv⟩ := pr_get (pr_reverse hI) hu
      have hiv := hiv.tk (TK.ex e2)
      have lw := hJ.length
      rw [List.length_map, List.length_take, List.length_reverse] at lw
      obtain ⟨ia, ev, cv, pav, mv, rfl, h1, hev, _⟩ := id hiv
      refine ⟨rfl, ?_⟩
      refine lcY ?_
      refine ⟨_, rfl, ia, _, 0, _, rfl, rfl, SqT.of h1, rfl, ?_⟩
      refine ⟨_, rfl, .ref ia, it, rfl, hiv, fun u H3 e3 hu3 => ?_⟩
      have h13 := e3 _ _ h1
      refine ⟨_, rfl, ia, _, 5, _, rfl, rfl, SqT.of h13, rfl, (by show 3 ≤ sizeLine; decide), fun t ht => ?_⟩
      have f4 := Ex.new (o := .tup [ev, u, .bl it.hides]) ht
      have g4 : upd H3 t (.tup [ev, u, .bl it.hides]) t = some (.tup [ev, u, .bl it.hides]) := upd_same
      generalize upd H3 t (.tup [ev, u, .bl it.hides]) = H4 at f4 g4 ⊢
      have e34 := e3.trans f4
      have hW4 := e34 _ _ hW
      refine ⟨ws, hW4, slineL (by omega), (e2.trans e34).mut hD, ws ++ [.ref t], upd_same, ?_⟩
      rw [List.take_add_one, hit, List.map_append]
      have tk := TK.lst (o := .lst (ws ++ [.ref t])) hW4
      exact pr_append (Paired.mapP (Paired.mapP hJ fun _ _ => ShtV.tk (TK.ex e34)) fun _ _ => ShtV.tk tk) (.cons (ShtV.tk tk ⟨t, ev, u, rfl, g4, hev.tk (TK.ex e34), hu3.tk (TK.ex f4)⟩) .nil)
    · rintro H2 ⟨e2, ws, hW, hJ⟩
      have e12 := e1.trans e2
      have hf2 := hf.ex e12
      have hfa2 := e12 _ _ hfa
      rw [lu, ← List.length_reverse, List.take_length] at hJ
      have lw := hJ.length
      rw [List.length_map, List.length_reverse] at lw
      refine ⟨_, rfl, ?_⟩
      refine ⟨_, rfl, fa, dx, _, rfl, hfa2, .ref fa, x, rfl, hf2, ?_⟩
      refine ⟨_, rfl, fa, dx, _, rfl, hfa2, .ref fa, x, rfl, hf2, ?_⟩
      refine ⟨(by show 4 ≤ sizeLine; decide), fun t ht => ?_⟩
      have f3 := Ex.new (o := .tup [.int 0, .int 0, .int x.w, .int x.h]) ht
      have g3 : upd H2 t (.tup [.int 0, .int 0, .int x.w, .int x.h]) t = some (.tup [.int 0, .int 0, .int x.w, .int x.h]) := upd_same
      generalize upd H2 t (.tup [.int 0, .int 0, .int x.w, .int x.h]) = H3 at f3 g3 ⊢
      refine ⟨_, rfl, fa, dx, _, rfl, f3 _ _ hfa2, .ref fa, x, rfl, hf2.ex f3, ?_⟩
      refine ⟨(by show 3 ≤ sizeLine; decide), fun t2 ht2 => ?_⟩
      have f4 := Ex.new (o := .tup [.ref t, .int x.b, .bl true]) ht2
      have g4 : upd H3 t2 (.tup [.ref t, .int x.b, .bl true]) t2 = some (.tup [.ref t, .int x.b, .bl true]) := upd_same
      generalize upd H3 t2 (.tup [.ref t, .int x.b, .bl true]) = H4 at f4 g4 ⊢
      refine ⟨(by show 1 ≤ sizeLine; decide), fun l hl => ?_⟩
      have f5 := Ex.new (o := .lst [.ref t2]) hl
      have g5 : upd H4 l (.lst [.ref t2]) l = some (.lst [.ref t2]) := upd_same
      generalize upd H4 l (.lst [.ref t2]) = H5 at f5 g5 ⊢
      have e25 := (f3.trans f4).trans f5
      refine ⟨D, l, ws, [.ref t2], rfl, rfl, e25 _ _ hW, g5, Nat.le_of_lt (slineL (by rw [List.length_singleton]; omega)), fun r hr => ?_⟩
      have f6 := Ex.new (o := .lst (ws ++ [.ref t2])) hr
      have e26 := e25.trans f6
      refine q r _ _ (ex_free (e12.trans e25) hr) (e12.trans e26) upd_same (pr_append (Paired.mapP hJ fun _ _ => ShtV.tk (TK.ex e26)) (.cons ⟨t2, .ref t, .int x.b, rfl, (f5.trans f6) _ _ g4, ⟨t, rfl, ((f4.trans f5).trans f6) _ _ g3⟩, rfl⟩ .nil))
abbrev s_stack_of : Stmt := top 86
theorem sc_stack_of : FnScope ["sheets", "x", "y", "stack", "left", "top", "right", "bottom", "entry", "hides"] ["sheets", "x", "y"] (defScope s_stack_of) := ⟨rfl, rfl, rfl, by decide +kernel, rfl, by decide +kernel, by decide +kernel⟩
def Sht.here (s : Sht) (x y : Int) : Prop := s.ext.l ≤ x ∧ x < s.ext.r ∧ s.ext.t ≤ y ∧ y < s.ext.b
instance (s : Sht) (x y : Int) : Decidable (s.here x y) := inferInstanceAs (Decidable (_ ∧ _ ∧ _ ∧ _))
/-- the stack of a point -/
def stackS (x y : Int) : List Sht → List (En ⊕ Int)
  | [] => []
  | s :: r => if s.here x y then (if s.hides = true then [s.en] else s.en :: stackS x y r) else stackS x y r
def spStackOf (K : PySem.W.Frag) : Sp := fun vs H Q _ => ∃ (a : Addr) (us : List V) (ss : List Sht) (x y : Int), vs = [.ref a, .int x, .int y] ∧ H a = some (.lst us) ∧ Paired (ShtV H) us ss ∧ ss.length ≤ 1000 ∧ ∀ p vs H', H p = none → Ex H H' → H' p = some (.lst vs) → Paired (SeV H') vs (stackS x y ss) → Q (.ref p) H'
theorem ok_stack_of {f : Addr} {fd : FuncData} (F : Fun K "_stack_of" "_stack_of" s_stack_of f fd) (T : Txt K mg) : FnOk P w K mg base CX0 1 f fd ["sheets", "x", "y"] (spStackOf K) := by
  refine F.ok sc_stack_of (fun vs H Q E h => ?_) (fun cdv A outer s H vs Q E hr h => ?_)
  · obtain ⟨a, us, ss, x, y, rfl, _⟩ := h
    rfl
  · obtain ⟨a, us, ss, x, y, rfl, ha, hS, ll, q⟩ := h
    have lu := hS.length
    refine ⟨_, (pss_cons (ps_set (i := 3) sc_stack_of.nd rfl (by first | exact Or.inl rfl | exact Or.inr rfl) (pe_lst pa_nil))
      (pss_cons (ps_for PassesOwn.never rfl (kpiL K (pv 0)) (kpgT K (n := 3) rfl (pgs_cons (kpgT K (n := 4) rfl (pgs_cons (pg_name (i := 4) sc_stack_of.nd rfl (by first | exact Or.inl rfl | exact Or.inr rfl)) (pgs_cons (pg_name (i := 5) sc_stack_of.nd rfl (by first | exact Or.inl rfl | exact Or.inr rfl)) (pgs_cons (pg_name (i := 6) sc_stack_of.nd rfl (by first | exact Or.inl rfl | exact Or.inr rfl)) (pgs_cons (pg_name (i := 7) sc_stack_of.nd rfl (by first | exact Or.inl rfl | exact Or.inr rfl)) pgs_nil))))) (pgs_cons (pg_name (i := 8) sc_stack_of.nd rfl (by first | exact Or.inl rfl | exact Or.inr rfl)) (pgs_cons (pg_name (i := 9) sc_stack_of.nd rfl (by first | exact Or.inl rfl | exact Or.inr rfl)) pgs_nil))))
        (pss_one (ps_if (PW.pt (pw_and (pt_chain op_le op_lt (pv 4) (pv 1) (pv 6)) (pw_and1 (pt_chain op_le op_lt (pv 5) (pv 2) (pv 7)))))
          (pss_cons (ps_expr (pe_bm PySem.F.plainAttrs_list PySem.F.slot_list_append PySem.F.type_list_append mt_append (pv 3) (pa_cons (pv 8) pa_nil)))
          (pss_one (ps_if (pt_val (pv 9))
            (pss_one (ps_ret (pv 3)))
            pss_nil)))
          pss_nil)))
      (pss_one (ps_ret (pv 3))))), ?_⟩
    rw [start_nrm (Nat.le_of_ble_eq_true rfl)]; dsimp only [startL]
    refine ⟨(by show 0 ≤ sizeLine; decide), fun D hD => ?_⟩
    dsimp only [List.set]
    have e0 := Ex.new (o := .lst []) hD
    have g0 : upd H D (.lst []) D = some (.lst []) := upd_same
    generalize upd H D (.lst []) = H0 at e0 g0 ⊢
    refine ⟨_, rfl, a, rfl, ⟨_, SqL.of (e0 _ _ ha)⟩, ?_⟩
    refine for_list (K := K) (a := a) (xs := us) (fun i σ H' => Ex H H' ∧ (∃ (z4 z5 z6 z7 z8 z9 : Option V), σ = [some (.ref a), some (.int x), some (.int y), some (.ref D), z4, z5, z6, z7, z8, z9]) ∧ ∃ ws acc, H' D = some (.lst ws) ∧ Paired (SeV H') ws acc ∧ acc.length ≤ i ∧ acc ++ stackS x y (ss.drop i) = stackS x y ss) ⟨e0, ⟨_, _, _, _, _, _, rfl⟩, [], [], g0, .nil, Nat.le_refl _, rfl⟩ (fun i σ H' _ p => SqL.of (p.1 _ _ ha)) ?_ ?_
    · rintro i uv σ H1 hu ⟨e1, ⟨z4, z5, z6, z7, z8, z9, rfl⟩, ws, acc, hW, hA, la, stk⟩
      obtain ⟨sh, hsh, hsv⟩ := pr_get hS hu
      have lti := (List.getElem?_eq_some_iff.mp hsh).1
      have dr : ss.drop i = sh :: ss.drop (i + 1) := by
        have := List.drop_eq_getElem_cons lti
        rw [(List.getElem?_eq_some_iff.mp hsh).2] at this
        exact this
      rw [dr] at stk
      have hsv := hsv.tk (TK.ex e1)
      obtain ⟨sa, ev, nv, rfl, h1, ⟨ea, rfl, hea⟩, hnv⟩ := id hsv
      refine ⟨sa, _, rfl, SqT.of h1, rfl, _, _, rfl, ea, _, rfl, SqT.of hea, rfl, _, _, rfl, _, _, rfl, _, _, rfl, _, _, rfl, rfl, _, _, rfl, _, _, rfl, rfl, ?_⟩
      dsimp only [List.set]
      have next : ¬ sh.here x y → Ex H H1 ∧ (∃ (w4 w5 w6 w7 w8 w9 : Option V), [some (.ref a), some (.int x), some (.int y), some (.ref D), some (.int sh.ext.l), some (.int sh.ext.t), some (.int sh.ext.r), some (.int sh.ext.b), some nv, some (.bl sh.hides)] = [some (.ref a), some (.int x), some (.int y), some (.ref D), w4, w5, w6, w7, w8, w9]) ∧ ∃ ws acc, H1 D = some (.lst ws) ∧ Paired (SeV H1) ws acc ∧ acc.length ≤ i + 1 ∧ acc ++ stackS x y (ss.drop (i + 1)) = stackS x y ss := fun no => by
        refine ⟨e1, ⟨_, _, _, _, _, _, rfl⟩, ws, acc, hW, hA, by omega, ?_⟩
        rw [← stk, stackS, if_neg no]
      refine ⟨_, rfl, _, rfl, _, _, rfl, rfl, _, rfl, ?_⟩
      refine ite2 (fun c1 => ?_) (fun c1 => ⟨_, rfl, iteF (iteF (next fun z => c1 (decide_eq_true z.1)))⟩)
      have c1 := of_decide_eq_true c1
      refine ⟨_, rfl, _, _, rfl, rfl, _, rfl, ?_⟩
      refine ite2 (fun c2 => ?_) (fun c2 => iteF (next fun z => c2 (decide_eq_true z.2.1)))
      have c2 := of_decide_eq_true c2
      refine ⟨_, rfl, _, rfl, _, _, rfl, rfl, _, rfl, ?_⟩
      refine ite2 (fun c3 => ?_) (fun c3 => ⟨_, rfl, iteF (next fun z => c3 (decide_eq_true z.2.2.1))⟩)
      have c3 := of_decide_eq_true c3
      refine ⟨_, rfl, _, _, rfl, rfl, _, rfl, ?_⟩
      refine ite2 (fun c4 => ?_) (fun c4 => next fun z => c4 (decide_eq_true z.2.2.2))
      have c4 := of_decide_eq_true c4
      have yes : sh.here x y := ⟨c1, c2, c3, c4⟩
      rw [stackS, if_pos yes] at stk
      have lw := hA.length
      refine ⟨_, rfl, .inl ⟨rfl, _, SqL.of hW⟩, ?_⟩
      refine ⟨_, rfl, D, ws, nv, rfl, rfl, hW, slineL (by omega), ?_⟩
      have tk := TK.lst (o := .lst (ws ++ [nv])) hW
      have eD : Ex H (upd H1 D (.lst (ws ++ [nv]))) := e1.mut hD
      have gD : upd H1 D (.lst (ws ++ [nv])) D = some (.lst (ws ++ [nv])) := upd_same
      generalize upd H1 D (.lst (ws ++ [nv])) = H2 at tk eD gD ⊢
      have hA2 : Paired (SeV H2) (ws ++ [nv]) (acc ++ [sh.en]) := pr_append (Paired.mapP hA fun _ _ => SeV.tk tk) (.cons (hnv.tk tk) .nil)
      cases hh : sh.hides with
      | true =>
        rw [hh, if_pos rfl] at stk
        refine ⟨_, rfl, _, rfl, iteT ?_⟩
        refine ⟨_, rfl, ?_⟩
        rw [stk] at hA2
        exact q D _ H2 hD eD gD hA2
      | false =>
        rw [hh, if_neg Bool.false_ne_true] at stk
        refine ⟨_, rfl, _, rfl, iteF ?_⟩
        refine ⟨eD, ⟨_, _, _, _, _, _, rfl⟩, ws ++ [nv], acc ++ [sh.en], gD, hA2, by rw [List.length_append, List.length_singleton]; omega, ?_⟩
        rw [List.append_assoc]
        exact stk
    · rintro σ H1 ⟨e1, ⟨z4, z5, z6, z7, z8, z9, rfl⟩, ws, acc, hW, hA, la, stk⟩
      rw [lu, List.drop_length, stackS, List.append_nil] at stk
      rw [stk] at hA
      exact ⟨_, rfl, q D ws H1 hD e1 hW hA⟩
noncomputable def Fi.stack (x : Fi) (f px py : Int) : List (En ⊕ Int) := stackS px py (x.sheets f)
/-- a box cut to the canvas -/
def cutR (cw ch X Y bw bh : Int) : Rc := ⟨if X > 0 then X else 0, if Y > 0 then Y else 0, if X + bw < cw then X + bw else cw, if Y + bh < ch then Y + bh else ch⟩
def cutO (cw ch X Y bw bh : Int) : Option Rc := if (cutR cw ch X Y bw bh).l ≥ (cutR cw ch X Y bw bh).r ∨ (cutR cw ch X Y bw bh).t ≥ (cutR cw ch X Y bw bh).b then none else some (cutR cw ch X Y bw bh)
theorem ext_cut (x : Fi) (l : La) (f : Int) : x.ext l f = cutO x.w x.h (l.corner f).1 (l.corner f).2 l.box.w l.box.h := rfl
theorem md_lay (m : Md) : m.D.canLay0 = true := by
  cases m with
  | shift n => simp only [Md.D, PyData.canLay0, PyData.canLayAll0, Bool.and_true]; decide +kernel
  | _ => simp only [Md.D, Md.word, PyData.canLay0, PyData.canLayAll0, Bool.and_true]; decide +kernel
theorem md_depth (m : Md) : m.D.depth ≤ 1 := by cases m <;> simp [Md.D, PyData.depth, PyData.depthAll]
theorem md_shaped (m : Md) : SeqAt.shaped m.D = true := shaped_of (md_lay m) (Nat.le_trans (md_depth m) (by decide))
theorem md_eqv_over (m : Md) : PyData.eqv m.D (Md.over).D = decide (m = .over) := by
  cases m with
  | over => rw [eqv_self (md_lay _)]; rfl
  | shift n => simp [Md.D, PyData.eqv, PyData.eqvAll]
  | _ =>
    simp only [Md.D, PyData.eqv, PyData.eqvAll, Bool.and_true, Md.word]
    decide +kernel
abbrev s_l_hides : Stmt := top 107
theorem sc_l_hides : FnScope ["item", "y", "x"] ["item"] (defScope s_l_hides) := ⟨rfl, rfl, rfl, by decide +kernel, rfl, by decide +kernel, by decide +kernel⟩
/-- does it hide all below -/
noncomputable def LI.hides (i : LI) : Bool := decide (i.md = .over) && decide (i.lv = 256) && fullB i.pa i.w i.h
/-- items that hide have a paint -/
structure LI.Ok2 (i : LI) : Prop where
  pa : opOk 12 i.pa
  w0 : 1 ≤ i.w
  w1 : i.w ≤ 64
  h0 : 1 ≤ i.h
  h1 : i.h ≤ 64
  some : i.md = .over → ∃ p, i.pa = some p
def spLHides (K : PySem.W.Frag) : Sp := fun vs H Q _ => ∃ (v : V) (i : LI), vs = [v] ∧ LIV H v i ∧ i.Ok2 ∧ ∀ H', Ex H H' → Q (.bl i.hides) H'
theorem ok_l_hides {f : Addr} {fd : FuncData} (F : Fun K "_law_hides" "_law_hides" s_l_hides f fd) (T : Txt K mg) (D_l_paint_at : Def P w K mg base CX0 "_law_paint_at" 1 ["paint", "x", "y"] (spAtL K)) : FnOk P w K mg base CX0 2 f fd ["item"] (spLHides K) := by
  refine F.ok sc_l_hides (fun vs H Q E h => ?_) (fun cdv A outer s H vs Q E hr h => ?_)
  · obtain ⟨v, i, rfl, _⟩ := h
    rfl
  · obtain ⟨v, i, rfl, hi, k, q⟩ := h
    obtain ⟨a, pw, mv, rfl, ha, hpv, hmv⟩ := id hi
    have kw0 := k.w0
    have kw1 := k.w1
    have kh0 := k.h0
    have kh1 := k.h1
    refine ⟨_, (pss_cons (ps_if (PW.pt (pw_or (pt_cmpR (kneD K hr.units) (pe_ix (kixT K) (pv 0) pe_int (fun _ _ => rfl)) (pe_tup (pa_cons pe_str pa_nil)) (nomark _)) (pw_or1 (pt_cmpR op_ne (pe_ix (kixT K) (pv 0) pe_int (fun _ _ => rfl)) pe_int (nomark _)))))
        (pss_one (ps_ret pe_bl))
        pss_nil)
      (pss_cons (ps_for PassesOwn.never rfl (pi_range1 (by rfl) T.range_ (pa_cons (pe_ix (kixT K) (pv 0) pe_int (fun _ _ => rfl)) pa_nil)) (pg_name (i := 1) sc_l_hides.nd rfl (by first | exact Or.inl rfl | exact Or.inr rfl))
        (pss_one (ps_for PassesOwn.never rfl (pi_range1 (by rfl) T.range_ (pa_cons (pe_ix (kixT K) (pv 0) pe_int (fun _ _ => rfl)) pa_nil)) (pg_name (i := 2) sc_l_hides.nd rfl (by first | exact Or.inl rfl | exact Or.inr rfl))
          (pss_cons (ps_if (pt_cmpR op_ne (pe_ix (kixT K) (pe_call D_l_paint_at.ok (hr.mono (by decide)) rfl D_l_paint_at.mgf D_l_paint_at.kp D_l_paint_at.b .nil pass0 (pa_cons (pe_ix (kixT K) (pv 0) pe_int (fun _ _ => rfl)) (pa_cons (pv 2) (pa_cons (pv 1) pa_nil)))) pe_int (fun _ _ => rfl)) pe_int (nomark _))
            (pss_one (ps_ret pe_bl))
            pss_nil)
          (pss_one (ps_if (pt_cmpR op_ne (pe_ix (kixT K) (pe_ix (kixT K) (pv 0) pe_int (fun _ _ => rfl)) pe_int (fun _ _ => rfl)) pe_str (nomark _))
            (pss_one (ps_ret pe_bl))
            pss_nil))))))
      (pss_one (ps_ret pe_bl)))), ?_⟩
    rw [start_nrm (Nat.le_of_ble_eq_true rfl)]; dsimp only [startL]
    refine ⟨_, rfl, a, _, 6, _, rfl, rfl, SqT.of ha, rfl, (by show 1 ≤ sizeLine; decide), fun t ht => ?_⟩
    have e1 := Ex.new (o := .tup [.str "over"]) ht
    have g1 : upd H t (.tup [.str "over"]) t = some (.tup [.str "over"]) := upd_same
    generalize upd H t (.tup [.str "over"]) = H1 at e1 g1 ⊢
    have ht1 : MdV H1 (.ref t) .over := ⟨t, rfl, g1⟩
    refine ⟨_, _, (hmv.ex e1).dp, ht1.dp, md_shaped _, md_shaped _, _, rfl, ?_⟩
    rw [md_eqv_over]
    by_cases c1 : i.md = .over
    case neg =>
      rw [decide_eq_false c1]
      refine iteT ?_
      have : i.hides = false := by unfold LI.hides; rw [decide_eq_false c1]; rfl
      rw [← this]
      exact q _ e1
    rw [decide_eq_true c1]
    refine iteF ?_
    have ha1 := e1 _ _ ha
    refine ⟨_, rfl, a, _, 5, _, rfl, rfl, SqT.of ha1, rfl, rfl, _, rfl, ?_⟩
    by_cases c2 : i.lv = 256
    case neg =>
      refine ite2 (fun _ => ?_) (fun z => absurd (by rw [Bool.not_eq_true', decide_eq_false_iff_not]; exact fun h => c2 (V.int.inj h)) z)
      have : i.hides = false := by unfold LI.hides; rw [decide_eq_false c2, Bool.and_false, Bool.false_and]
      rw [← this]
      exact q _ e1
    refine ite2 (fun z => absurd (congrArg V.int c2) (by rw [Bool.not_eq_true', decide_eq_false_iff_not] at z; exact z)) (fun _ => ?_)
    have hid : i.hides = fullB i.pa i.w i.h := by unfold LI.hides; rw [decide_eq_true c1, decide_eq_true c2]; rfl
    rw [hid] at q
    obtain ⟨p, hp⟩ := k.some c1
    have hpv1 := hpv.tk (TK.ex e1)
    have notF : ∀ (X Y : Int), 0 ≤ X → X < i.w → 0 ≤ Y → Y < i.h → ¬ (opAt i.pa X Y).2 = 256 → fullB i.pa i.w i.h = false := fun X Y x0 x1 y0 y1 h => by
      cases hb : fullB i.pa i.w i.h with
      | false => rfl
      | true => exact absurd ((fullB_iff.mp hb).2 X Y x0 x1 y0 y1) h
    refine ⟨_, rfl, a, _, 3, _, rfl, rfl, SqT.of ha1, rfl, i.h, rfl, by omega, by omega, ?_⟩
    refine for_range (lo := 0) (n := i.h.toNat) (fun j σ H' => Ex H1 H' ∧ (∃ (z1 z2 : Option V), σ = [some (.ref a), z1, z2]) ∧ ∀ X Y : Int, 0 ≤ X → X < i.w → 0 ≤ Y → Y < j → (opAt i.pa X Y).2 = 256) ⟨Ex.refl _, ⟨_, _, rfl⟩, fun X Y _ _ y0 y1 => absurd y1 (by omega)⟩ ?_ ?_
    · rintro j σ H2 hj ⟨e2, ⟨z1, z2, rfl⟩, cov⟩
      dsimp only [List.set]
      refine ⟨_, rfl, a, _, 2, _, rfl, rfl, SqT.of (e2 _ _ ha1), rfl, i.w, rfl, by omega, by omega, ?_⟩
      refine for_range (lo := 0) (n := i.w.toNat) (fun n σ H' => Ex H1 H' ∧ (∃ (z2 : Option V), σ = [some (.ref a), some (.int (0 + (j : Int))), z2]) ∧ ∀ X : Int, 0 ≤ X → X < n → (opAt i.pa X j).2 = 256) ⟨e2, ⟨_, rfl⟩, fun X x0 x1 => absurd x1 (by omega)⟩ ?_ ?_
      · rintro n σ H3 hn ⟨e3, ⟨z2, rfl⟩, cv⟩
        dsimp only [List.set]
        have ha3 := e3 _ _ ha1
        refine ⟨_, rfl, a, _, 4, _, rfl, rfl, SqT.of ha3, rfl, _, rfl, _, rfl, pw, i.pa, 0 + (n : Int), 0 + (j : Int), rfl, hpv1.tk (TK.ex e3), k.pa, by omega, by omega, by omega, by omega, fun u H4 e4 hu => ?_⟩
        obtain ⟨ua, rfl, hua⟩ := hu
        rw [Int.zero_add, Int.zero_add] at hua
        refine ⟨ua, _, 1, _, rfl, rfl, SqT.of hua, rfl, rfl, _, rfl, ?_⟩
        by_cases c3 : (opAt i.pa n j).2 = 256
        case neg =>
          refine ite2 (fun _ => ?_) (fun z => absurd (by rw [Bool.not_eq_true', decide_eq_false_iff_not]; exact fun h => c3 (V.int.inj h)) z)
          rw [← notF n j (by omega) (by omega) (by omega) (by omega) c3]
          exact q _ ((e1.trans e3).trans e4)
        refine ite2 (fun z => absurd (congrArg V.int c3) (by rw [Bool.not_eq_true', decide_eq_false_iff_not] at z; exact z)) (fun _ => ?_)
        have e34 := e3.trans e4
        have ha4 := e34 _ _ ha1
        have hpv4 := hpv1.tk (TK.ex e34)
        rw [hp] at hpv4
        have hpv4 : PaV H4 pw p := hpv4
        have next : Ex H1 H4 ∧ (∃ (z2 : Option V), [some (.ref a), some (.int (0 + (j : Int))), some (.int (0 + (n : Int)))] = [some (.ref a), some (.int (0 + (j : Int))), z2]) ∧ ∀ X : Int, 0 ≤ X → X < (n + 1 : Nat) → (opAt i.pa X j).2 = 256 := by
          refine ⟨e34, ⟨_, rfl⟩, fun X x0 x1 => ?_⟩
          by_cases hx : X = n
          · rw [hx]; exact c3
          · exact cv X x0 (by omega)
        cases p with
        | solid z =>
          obtain ⟨b, rfl, hb⟩ := hpv4
          refine ⟨_, rfl, a, _, 4, _, rfl, rfl, SqT.of ha4, rfl, b, _, 0, _, rfl, rfl, SqT.of hb, rfl, rfl, _, rfl, ?_⟩
          refine ite2 (fun _ => ?_) (fun z => absurd (by decide +kernel) z)
          have : fullB i.pa i.w i.h = true := fullB_iff.mpr (by rw [hp]; exact ⟨rfl, fun _ _ _ _ _ _ => rfl⟩)
          rw [← this]
          exact q _ (e1.trans e34)
        | steps z1 z2 z =>
          obtain ⟨b, rfl, hb⟩ := hpv4
          refine ⟨_, rfl, a, _, 4, _, rfl, rfl, SqT.of ha4, rfl, b, _, 0, _, rfl, rfl, SqT.of hb, rfl, rfl, _, rfl, ?_⟩
          refine ite2 (fun _ => ?_) (fun z => absurd (by decide +kernel) z)
          have : fullB i.pa i.w i.h = true := fullB_iff.mpr (by rw [hp]; exact ⟨rfl, fun _ _ _ _ _ _ => rfl⟩)
          rw [← this]
          exact q _ (e1.trans e34)
        | pic p =>
          obtain ⟨b, u, rfl, hb, hu⟩ := hpv4
          refine ⟨_, rfl, a, _, 4, _, rfl, rfl, SqT.of ha4, rfl, b, _, 0, _, rfl, rfl, SqT.of hb, rfl, rfl, _, rfl, ?_⟩
          refine ite2 (fun z => absurd z (by decide +kernel)) (fun _ => ?_)
          exact next
      · rintro σ H3 ⟨e3, ⟨z2, rfl⟩, cv⟩
        refine ⟨e3, ⟨_, _, rfl⟩, fun X Y x0 x1 y0 y1 => ?_⟩
        by_cases hy : Y = j
        · rw [hy]; exact cv X x0 (by omega)
        · exact cov X Y x0 x1 y0 (by omega)
    · rintro σ H2 ⟨e2, ⟨z1, z2, rfl⟩, cov⟩
      have : fullB i.pa i.w i.h = true := fullB_iff.mpr ⟨by rw [hp]; rfl, fun X Y x0 x1 y0 y1 => cov X Y x0 x1 y0 (by omega)⟩
      rw [← this]
      exact q _ (e1.trans e2)
abbrev s_l_hiding : Stmt := top 110
theorem sc_l_hiding : FnScope ["items", "item"] ["items"] (defScope s_l_hiding) := ⟨rfl, rfl, rfl, by decide +kernel, rfl, by decide +kernel, by decide +kernel⟩
def spLHiding (K : PySem.W.Frag) : Sp := fun vs H Q _ => ∃ (a : Addr) (us : List V) (is : List LI), vs = [.ref a] ∧ H a = some (.lst us) ∧ Paired (LIV H) us is ∧ (∀ i ∈ is, i.Ok2) ∧ is.length ≤ 1000 ∧ ∀ p H', Ex H H' → H' p = some (.lst (is.map fun i => .bl i.hides)) → Q (.ref p) H'
theorem ok_l_hiding {f : Addr} {fd : FuncData} (F : Fun K "_law_hiding" "_law_hiding" s_l_hiding f fd) (T : Txt K mg) (D_l_hides : Def P w K mg base CX0 "_law_hides" 2 ["item"] (spLHides K)) : FnOk P w K mg base CX0 3 f fd ["items"] (spLHiding K) := by
  refine F.ok sc_l_hiding (fun vs H Q E h => ?_) (fun cdv A outer s H vs Q E hr h => ?_)
  · obtain ⟨a, us, is, rfl, _⟩ := h
    rfl
  · obtain ⟨a, us, is, rfl, ha, hI, k, ll, q⟩ := h
    have lu := hI.length
    refine ⟨_, (pss_one (ps_ret (pe_lc (own := [("item", 1)]) (tt := tYes) rfl sc_l_hiding.nd (kpiL K (pv 0)) (blkOk_by (N := ["items", "item"]) (sc := defScope s_l_hiding) (by decide +kernel)) (fun _ _ _ _ _ => (pg_name (i := 1) sc_l_hiding.nd rfl (by first | exact Or.inl rfl | exact Or.inr rfl))) (fun _ _ _ _ _ => pts_nil) (fun _ _ _ _ _ => (pe_call D_l_hides.ok (hr.mono (by decide)) rfl D_l_hides.mgf D_l_hides.kp D_l_hides.b .nil pass0 (pa_cons (pv 1) pa_nil)))))), ?_⟩
    rw [start_nrm (Nat.le_of_ble_eq_true rfl)]; dsimp only [startL]
    refine ⟨_, rfl, a, rfl, ⟨us, SqL.of ha⟩, fun D hD => ?_⟩
    refine lc_list (xs := us) (fun i H' => Ex H H' ∧ H' D = some (.lst ((is.take i).map fun i => .bl i.hides))) ⟨Ex.new hD, upd_same⟩ (fun i H' _ p => SqL.of (p.1 _ _ ha)) ?_ ?_
    · rintro i uv H2 hu ⟨e2, hW⟩
      obtain ⟨it, hit, hiv⟩ := pr_get hI hu
      refine ⟨rfl, ?_⟩
      refine lcY ?_
      refine ⟨_, rfl, uv, it, rfl, hiv.tk (TK.ex e2), k it (List.mem_of_getElem? hit), fun H3 e3 => ?_⟩
      refine ⟨_, e3 _ _ hW, slineL (by rw [List.length_map, List.length_take]; omega), (e2.trans e3).mut hD, ?_⟩
      rw [upd_same, List.take_add_one, hit, List.map_append]
      rfl
    · rintro H2 ⟨e2, hW⟩
      rw [lu, List.take_length] at hW
      exact q D H2 e2 hW
abbrev s_l_stack : Stmt := top 111
theorem sc_l_stack : FnScope ["items", "hiding", "background", "x", "y", "found", "j", "item", "corner"] ["items", "hiding", "background", "x", "y"] (defScope s_l_stack) := ⟨rfl, rfl, rfl, by decide +kernel, rfl, by decide +kernel, by decide +kernel⟩
def LI.en (i : LI) : En := enOf i.pa (i.x, i.y) i.lv i.md
/-- the stack as the law works it out, from the highest item on -/
noncomputable def stackL (x y b : Int) : List LI → List (En ⊕ Int)
  | [] => [.inr b]
  | i :: r => if i.here x y = true then (if i.hides = true then [.inl i.en] else .inl i.en :: stackL x y b r) else stackL x y b r
def spLStack (K : PySem.W.Frag) : Sp := fun vs H Q _ => ∃ (a h : Addr) (us : List V) (is : List LI) (b x y : Int), vs = [.ref a, .ref h, .int b, .int x, .int y] ∧ H a = some (.lst us) ∧ Paired (LIV H) us is ∧ is.length ≤ 1000 ∧ H h = some (.lst (is.map fun i => .bl i.hides)) ∧ ∀ p vs H', H p = none → Ex H H' → H' p = some (.lst vs) → Paired (SeV H') vs (stackL x y b is.reverse) → Q (.ref p) H'
theorem ok_l_stack {f : Addr} {fd : FuncData} (F : Fun K "_law_stack" "_law_stack" s_l_stack f fd) (T : Txt K mg) (D_l_in : Def P w K mg base CX0 "_law_in" 1 ["item", "x", "y"] (spLIn K)) : FnOk P w K mg base CX0 2 f fd ["items", "hiding", "background", "x", "y"] (spLStack K) := by
  refine F.ok sc_l_stack (fun vs H Q E h => ?_) (fun cdv A outer s H vs Q E hr h => ?_)
  · obtain ⟨a, h', us, is, b, x, y, rfl, _⟩ := h
    rfl
  · obtain ⟨a, h', us, is, b, x, y, rfl, ha, hI, ll, hh, q⟩ := h
    have lu := hI.length
    refine ⟨_, (pss_cons (ps_set (i := 5) sc_l_stack.nd rfl (by first | exact Or.inl rfl | exact Or.inr rfl) (pe_lst pa_nil))
      (pss_cons (ps_for PassesOwn.never rfl (pi_range3 (by rfl) T.range_ (pa_cons (pe_op op_sub (pe_callB (klen K) (by rfl) T.len_ PySem.boot_len (pa_cons (pv 0) pa_nil)) pe_int) (pa_cons (pe_un un_neg pe_int) (pa_cons (pe_un un_neg pe_int) pa_nil)))) (pg_name (i := 6) sc_l_stack.nd rfl (by first | exact Or.inl rfl | exact Or.inr rfl))
        (pss_cons (ps_set (i := 7) sc_l_stack.nd rfl (by first | exact Or.inl rfl | exact Or.inr rfl) (pe_ix (kixL K) (pv 0) (pv 6) (fun _ _ => rfl)))
        (pss_one (ps_if (pt_val (pe_call D_l_in.ok (hr.mono (by decide)) rfl D_l_in.mgf D_l_in.kp D_l_in.b .nil pass0 (pa_cons (pv 7) (pa_cons (pv 3) (pa_cons (pv 4) pa_nil)))))
          (pss_cons (ps_set (i := 8) sc_l_stack.nd rfl (by first | exact Or.inl rfl | exact Or.inr rfl) (pe_tup (pa_cons (pe_ix (kixT K) (pv 7) pe_int (fun _ _ => rfl)) (pa_cons (pe_ix (kixT K) (pv 7) pe_int (fun _ _ => rfl)) pa_nil))))
          (pss_cut (ps_if (PW.pt (pw_or (pt_cmpR op_isN (pe_ix (kixT K) (pv 7) pe_int (fun _ _ => rfl)) pe_non (nomark _)) (pw_or1 (pt_cmpR op_eq (pe_ix (kixT K) (pe_ix (kixT K) (pv 7) pe_int (fun _ _ => rfl)) pe_int (fun _ _ => rfl)) pe_str (nomark _)))))
            (pss_one (ps_set (i := 8) sc_l_stack.nd rfl (by first | exact Or.inl rfl | exact Or.inr rfl) pe_non))
            pss_nil)
          (pss_cons (ps_expr (pe_bm PySem.F.plainAttrs_list PySem.F.slot_list_append PySem.F.type_list_append mt_append (pv 5) (pa_cons (pe_tup (pa_cons (pe_ix (kixT K) (pv 7) pe_int (fun _ _ => rfl)) (pa_cons (pv 8) (pa_cons (pe_ix (kixT K) (pv 7) pe_int (fun _ _ => rfl)) (pa_cons (pe_ix (kixT K) (pv 7) pe_int (fun _ _ => rfl)) pa_nil))))) pa_nil)))
          (pss_one (ps_if (pt_val (pe_ix (kixL K) (pv 1) (pv 6) (fun _ _ => rfl)))
            (pss_one (ps_ret (pv 5)))
            pss_nil)))))
          pss_nil))))
      (pss_one (ps_ret (pe_op op_cat (pv 5) (pe_lst (pa_cons (pv 2) pa_nil))))))), ?_⟩
    rw [start_nrm (Nat.le_of_ble_eq_true rfl)]; dsimp only [startL]
    refine ⟨(by show 0 ≤ sizeLine; decide), fun D hD => ?_⟩
    dsimp only [List.set]
    have e0 := Ex.new (o := .lst []) hD
    have g0 : upd H D (.lst []) D = some (.lst []) := upd_same
    generalize upd H D (.lst []) = H0 at e0 g0 ⊢
    have ha0 := e0 _ _ ha
    refine ⟨_, rfl, a, us, rfl, .inl (SqL.of ha0), _, _, rfl, rfl, _, rfl, _, rfl, ?_⟩
    refine ⟨_, _, _, is.length, rfl, ?_, ?_⟩
    · have z := RgC.neg (i := (us.length : Int) - 1) (j := -1) (by omega) (by omega) (by omega) (by omega)
      have e : ((us.length : Int) - 1 - -1).toNat = is.length := by omega
      rw [e] at z
      exact z
    refine for_rangeC (lo := (us.length : Int) - 1) (c := -1) (n := is.length) (fun i σ H' => Ex H H' ∧ (∃ (z6 z7 z8 : Option V), σ = [some (.ref a), some (.ref h'), some (.int b), some (.int x), some (.int y), some (.ref D), z6, z7, z8]) ∧ ∃ ws acc, H' D = some (.lst ws) ∧ Paired (SeV H') ws acc ∧ acc.length ≤ i ∧ acc ++ stackL x y b (is.reverse.drop i) = stackL x y b is.reverse) ⟨e0, ⟨_, _, _, rfl⟩, [], [], g0, .nil, Nat.le_refl _, rfl⟩ ?_ ?_
    · rintro i σ H1 hi ⟨e1, ⟨z6, z7, z8, rfl⟩, ws, acc, hW, hA, la, stk⟩
      dsimp only [List.set]
      have hj : (us.length : Int) - 1 + (i : Nat) * -1 = ((is.length - 1 - i : Nat) : Int) := by omega
      rw [hj]
      have hx : is[is.length - 1 - i]? = some is[is.length - 1 - i] := List.getElem?_eq_getElem (by omega)
      generalize is[is.length - 1 - i] = it at hx
      obtain ⟨uv, huv, hiv⟩ := pr_getR hI hx
      have lti : i < is.reverse.length := by rw [List.length_reverse]; exact hi
      have hrx : is.reverse[i]? = some it := by rw [List.getElem?_reverse hi]; exact hx
      have dr : is.reverse.drop i = it :: is.reverse.drop (i + 1) := by
        have := List.drop_eq_getElem_cons lti
        rw [(List.getElem?_eq_some_iff.mp hrx).2] at this
        exact this
      rw [dr] at stk
      have hiv := hiv.tk (TK.ex e1)
      obtain ⟨ia, pav, mv, rfl, h1, hpv, hmv⟩ := id hiv
      refine ⟨_, rfl, _, rfl, a, _, _, _, rfl, rfl, SqL.of (e1 _ _ ha), atI_nat huv, ?_⟩
      dsimp only [List.set]
      refine ⟨_, rfl, _, rfl, _, rfl, .ref ia, it, x, y, rfl, hiv, _, rfl, ?_⟩
      cases hh2 : it.here x y with
      | false =>
        refine iteF ?_
        refine ⟨e1, ⟨_, _, _, rfl⟩, ws, acc, hW, hA, by omega, ?_⟩
        rw [← stk, stackL, if_neg (by rw [hh2]; exact Bool.false_ne_true)]
      | true =>
        refine iteT ?_
        rw [stackL, if_pos hh2] at stk
        refine ⟨_, rfl, ia, _, 0, _, rfl, rfl, SqT.of h1, rfl, _, rfl, ia, _, 1, _, rfl, rfl, SqT.of h1, rfl, (by show 2 ≤ sizeLine; decide), fun t ht => ?_⟩
        have f2 := Ex.new (o := .tup [.int it.x, .int it.y]) ht
        have g2 : upd H1 t (.tup [.int it.x, .int it.y]) t = some (.tup [.int it.x, .int it.y]) := upd_same
        generalize upd H1 t (.tup [.int it.x, .int it.y]) = H2 at f2 g2 ⊢
        dsimp only [List.set]
        have h12 := f2 _ _ h1
        have hpv2 := hpv.tk (TK.ex f2)
        refine ⟨fun σ H' => H' = H2 ∧ ∃ cv, σ = [some (.ref a), some (.ref h'), some (.int b), some (.int x), some (.int y), some (.ref D), some (.int ((is.length - 1 - i : Nat) : Int)), some (.ref ia), some cv] ∧ OptPtV H2 cv it.en.at_, ?_, ?_⟩
        · have yes : solidO it.pa = true → OptPtV H2 .non it.en.at_ := fun e => by
            show OptPtV _ _ (if solidO it.pa = true then none else some (it.x, it.y))
            rw [if_pos e]
            rfl
          have no : solidO it.pa = false → OptPtV H2 (.ref t) it.en.at_ := fun e => by
            show OptPtV _ _ (if solidO it.pa = true then none else some (it.x, it.y))
            rw [e, if_neg Bool.false_ne_true]
            exact ⟨t, rfl, g2⟩
          refine ⟨_, rfl, ia, _, 4, _, rfl, rfl, SqT.of h12, rfl, rfl, _, rfl, ?_⟩
          cases hp : it.pa with
          | none =>
            rw [hp] at hpv2 yes
            cases hpv2
            refine iteD rfl ?_
            refine iteT ?_
            exact ⟨rfl, _, rfl, yes rfl⟩
          | some p =>
            rw [hp] at hpv2 yes no
            have hpv2 : PaV H2 pav p := hpv2
            cases p with
            | solid z =>
              obtain ⟨c, rfl, hb⟩ := hpv2
              refine iteN (fun z => nomatch z) ?_
              refine ⟨_, rfl, ia, _, 4, _, rfl, rfl, SqT.of h12, rfl, c, _, 0, _, rfl, rfl, SqT.of hb, rfl, rfl, _, rfl, ?_⟩
              refine iteE (by decide +kernel) ?_
              exact ⟨rfl, _, rfl, yes rfl⟩
            | steps z1 z2 z =>
              obtain ⟨c, rfl, hb⟩ := hpv2
              refine iteN (fun z => nomatch z) ?_
              refine ⟨_, rfl, ia, _, 4, _, rfl, rfl, SqT.of h12, rfl, c, _, 0, _, rfl, rfl, SqT.of hb, rfl, rfl, _, rfl, ?_⟩
              refine iteW (by decide +kernel) ?_
              exact ⟨rfl, _, rfl, no rfl⟩
            | pic p =>
              obtain ⟨c, u, rfl, hb, hu⟩ := hpv2
              refine iteN (fun z => nomatch z) ?_
              refine ⟨_, rfl, ia, _, 4, _, rfl, rfl, SqT.of h12, rfl, c, _, 0, _, rfl, rfl, SqT.of hb, rfl, rfl, _, rfl, ?_⟩
              refine iteW (by decide +kernel) ?_
              exact ⟨rfl, _, rfl, no rfl⟩
        rintro σ H' ⟨rfl, cv, rfl, hcv⟩
        have lw := hA.length
        have hW2 := f2 _ _ hW
        refine ⟨_, rfl, .inl ⟨rfl, _, SqL.of hW2⟩, ?_⟩
        refine ⟨_, rfl, ia, _, 4, _, rfl, rfl, SqT.of h12, rfl, _, rfl, _, rfl, ia, _, 5, _, rfl, rfl, SqT.of h12, rfl, _, rfl, ia, _, 6, _, rfl, rfl, SqT.of h12, rfl, (by show 4 ≤ sizeLine; decide), fun t2 ht2 => ?_⟩
        have f3 := Ex.new (o := .tup [pav, cv, .int it.lv, mv]) ht2
        have g3 : upd H' t2 (.tup [pav, cv, .int it.lv, mv]) t2 = some (.tup [pav, cv, .int it.lv, mv]) := upd_same
        generalize upd H' t2 (.tup [pav, cv, .int it.lv, mv]) = H3 at f3 g3 ⊢
        have hW3 := f3 _ _ hW2
        refine ⟨D, ws, .ref t2, rfl, rfl, hW3, slineL (by omega), ?_⟩
        have tk := TK.lst (o := .lst (ws ++ [.ref t2])) hW3
        have e13 := (e1.trans f2).trans f3
        have eD : Ex H (upd H3 D (.lst (ws ++ [.ref t2]))) := e13.mut hD
        have gD : upd H3 D (.lst (ws ++ [.ref t2])) D = some (.lst (ws ++ [.ref t2])) := upd_same
        generalize upd H3 D (.lst (ws ++ [.ref t2])) = H4 at tk eD gD ⊢
        have f23 := f2.trans f3
        have hen : EnV H3 (.ref t2) it.en := ⟨t2, pav, cv, mv, rfl, g3, hpv.tk (TK.ex f23), hcv.tk (TK.ex f3), hmv.tk (TK.ex f23)⟩
        have hA2 : Paired (SeV H4) (ws ++ [.ref t2]) (acc ++ [.inl it.en]) := pr_append (Paired.mapP (Paired.mapP hA fun _ _ => SeV.tk (TK.ex f23)) fun _ _ => SeV.tk tk) (.cons (hen.tk tk) .nil)
        have hhx : (is.map fun i => V.bl i.hides)[is.length - 1 - i]? = some (.bl it.hides) := by rw [List.getElem?_map, hx]; rfl
        refine ⟨_, rfl, _, rfl, h', _, _, _, rfl, rfl, SqL.of (eD _ _ hh), atI_nat hhx, _, rfl, ?_⟩
        cases hd : it.hides with
        | true =>
          rw [hd, if_pos rfl] at stk
          refine iteT ?_
          refine ⟨_, rfl, ?_⟩
          rw [stk] at hA2
          exact q D _ H4 hD eD gD hA2
        | false =>
          rw [hd, if_neg Bool.false_ne_true] at stk
          refine iteF ?_
          refine ⟨eD, ⟨_, _, _, rfl⟩, ws ++ [.ref t2], acc ++ [.inl it.en], gD, hA2, by rw [List.length_append, List.length_singleton]; omega, ?_⟩
          rw [List.append_assoc]
          exact stk
    · rintro σ H1 ⟨e1, ⟨z6, z7, z8, rfl⟩, ws, acc, hW, hA, la, stk⟩
      rw [← List.length_reverse, List.drop_length, stackL] at stk
      have lw := hA.length
      refine ⟨_, rfl, _, rfl, (by show 1 ≤ sizeLine; decide), fun l hl => ?_⟩
      have f2 := Ex.new (o := .lst [.int b]) hl
      have g2 : upd H1 l (.lst [.int b]) l = some (.lst [.int b]) := upd_same
      generalize upd H1 l (.lst [.int b]) = H2 at f2 g2 ⊢
      refine ⟨D, l, ws, [.int b], rfl, rfl, f2 _ _ hW, g2, Nat.le_of_lt (slineL (by rw [List.length_singleton]; omega)), fun r hr => ?_⟩
      have f3 := Ex.new (o := .lst (ws ++ [.int b])) hr
      have e23 := f2.trans f3
      have hA2 : Paired (SeV (upd H2 r (.lst (ws ++ [.int b])))) (ws ++ [.int b]) (acc ++ [.inr b]) := pr_append (Paired.mapP hA fun _ _ => SeV.tk (TK.ex e23)) (.cons rfl .nil)
      rw [stk] at hA2
      exact q r _ _ (ex_free (e1.trans f2) hr) (e1.trans e23) upd_same hA2
abbrev s_l_stacks : Stmt := top 112
theorem sc_l_stacks : FnScope ["parts", "frame", "items", "hiding", "rows", "y", "x"] ["parts", "frame"] (defScope s_l_stacks) := ⟨rfl, rfl, rfl, by decide +kernel, rfl, by decide +kernel, by decide +kernel⟩
theorem wh_over {x : Wh} (h : x.md = .over) : x.adj = false := by
  cases x with
  | paint o m => rfl
  | invert => cases h
  | shift n => cases h
theorem litem_ok2 {l : La} {f : Int} {i : LI} (k : l.Vd) (h : l.litem f = some i) : i.Ok2 := by
  unfold La.litem at h
  split at h
  · cases h
  · rename_i c hc
    have hcm : c ∈ l.cs := List.mem_of_find?_eq_some hc
    split at h
    · cases h
      exact ⟨(k.cs.ok c hcm).pa, k.box.w0, k.box.w1, k.box.h0, k.box.h1, fun e => (k.cs.adj c hcm).2 (wh_over e)⟩
    · cases h
theorem litems_ok2 {x : Fi} {f : Int} (k : ∀ l ∈ x.ls, l.Vd) : ∀ i ∈ x.litems f, i.Ok2 := fun i hi => by
  obtain ⟨l, hl, h⟩ := List.mem_filterMap.mp hi
  exact litem_ok2 (k l hl) h
/-- a stack as a list, at none of some places -/
def StkP (H : Hp) (av : List Addr) (v : V) (s : List (En ⊕ Int)) : Prop := ∃ p us, v = .ref p ∧ p ∉ av ∧ H p = some (.lst us) ∧ Paired (SeV H) us s
theorem StkP.ex {H H' : Hp} {av : List Addr} {v : V} {s : List (En ⊕ Int)} (e : Ex H H') (h : StkP H av v s) : StkP H' av v s := by
  obtain ⟨p, us, rfl, n, h1, h2⟩ := h
  exact ⟨p, us, rfl, n, e _ _ h1, Paired.mapP h2 fun _ _ => SeV.tk (TK.ex e)⟩
theorem StkP.put {H : Hp} {av : List Addr} {v : V} {s : List (En ⊕ Int)} {D : Addr} {xs : List V} {o : HO} (hD : H D = some (.lst xs)) (hm : D ∈ av) (h : StkP H av v s) : StkP (upd H D o) av v s := by
  obtain ⟨p, us, rfl, n, h1, h2⟩ := h
  exact ⟨p, us, rfl, n, by rw [upd_ne (show ¬ p = D from fun z => n (by rw [z]; exact hm))]; exact h1, Paired.mapP h2 fun _ _ => SeV.tk (TK.lst hD)⟩
theorem StkP.less {H : Hp} {av bv : List Addr} {v : V} {s : List (En ⊕ Int)} (hs : ∀ a ∈ bv, a ∈ av) (h : StkP H av v s) : StkP H bv v s := by
  obtain ⟨p, us, rfl, n, h1, h2⟩ := h
  exact ⟨p, us, rfl, fun z => n (hs p z), h1, h2⟩
/-- a row of stacks -/
def RowK (H : Hp) (av : List Addr) (v : V) (r : List (List (En ⊕ Int))) : Prop := ∃ b ws, v = .ref b ∧ b ∉ av ∧ H b = some (.lst ws) ∧ Paired (StkP H av) ws r
theorem RowK.ex {H H' : Hp} {av : List Addr} {v : V} {r : List (List (En ⊕ Int))} (e : Ex H H') (h : RowK H av v r) : RowK H' av v r := by
  obtain ⟨b, ws, rfl, n, h1, h2⟩ := h
  exact ⟨b, ws, rfl, n, e _ _ h1, Paired.mapP h2 fun _ _ => StkP.ex e⟩
theorem RowK.put {H : Hp} {av : List Addr} {v : V} {r : List (List (En ⊕ Int))} {D : Addr} {xs : List V} {o : HO} (hD : H D = some (.lst xs)) (hm : D ∈ av) (h : RowK H av v r) : RowK (upd H D o) av v r := by
  obtain ⟨b, ws, rfl, n, h1, h2⟩ := h
  exact ⟨b, ws, rfl, n, by rw [upd_ne (show ¬ b = D from fun z => n (by rw [z]; exact hm))]; exact h1, Paired.mapP h2 fun _ _ => StkP.put hD hm⟩
def GridV (H : Hp) (v : V) (g : List (List (List (En ⊕ Int)))) : Prop := ∃ a us, v = .ref a ∧ H a = some (.lst us) ∧ Paired (RowK H [a]) us g
theorem GridV.ex {H H' : Hp} {v : V} {g : List (List (List (En ⊕ Int)))} (e : Ex H H') (h : GridV H v g) : GridV H' v g := by
  obtain ⟨a, us, rfl, h1, h2⟩ := h
  exact ⟨a, us, rfl, e _ _ h1, Paired.mapP h2 fun _ _ => RowK.ex e⟩
noncomputable def Fi.lstack (x : Fi) (f px py : Int) : List (En ⊕ Int) := stackL px py x.b (x.litems f).reverse
noncomputable def Fi.lsrow (x : Fi) (f py : Int) : List (List (En ⊕ Int)) := (List.range x.w.toNat).map fun (i : Nat) => x.lstack f i py
noncomputable def Fi.lgrid (x : Fi) (f : Int) : List (List (List (En ⊕ Int))) := (List.range x.h.toNat).map fun (j : Nat) => x.lsrow f j
def spLStacks (K : PySem.W.Frag) : Sp := fun vs H Q _ => ∃ (v : V) (x : Fi) (f : Int), vs = [v, .int f] ∧ FiV H v x ∧ x.Vd ∧ ∀ u H', Ex H H' → GridV H' u (x.lgrid f) → Q u H'
theorem ok_l_stacks {f : Addr} {fd : FuncData} (F : Fun K "_law_stacks" "_law_stacks" s_l_stacks f fd) (T : Txt K mg) (D_l_items : Def P w K mg base CX0 "_law_items" 3 ["parts", "frame"] (spLItems K)) (D_l_hiding : Def P w K mg base CX0 "_law_hiding" 3 ["items"] (spLHiding K))
    (D_l_stack : Def P w K mg base CX0 "_law_stack" 2 ["items", "hiding", "background", "x", "y"] (spLStack K)) : FnOk P w K mg base CX0 4 f fd ["parts", "frame"] (spLStacks K) := by
  refine F.ok sc_l_stacks (fun vs H Q E h => ?_) (fun cdv A outer s H vs Q E hr h => ?_)
  · obtain ⟨v, x, fr, rfl, _⟩ := h
    rfl
  · obtain ⟨v, x, fr, rfl, hf, k, q⟩ := h
    obtain ⟨a, L, us, rfl, ha, hL, hP⟩ := id hf
    have kh0 := k.h0
    have kh1 := k.h1
    have kw0 := k.w0
    have kw1 := k.w1
    have lI : (x.litems fr).length ≤ 16 := Nat.le_trans (List.length_filterMap_le _ _) k.len
    refine ⟨_, (pss_cons (ps_set (i := 2) sc_l_stacks.nd rfl (by first | exact Or.inl rfl | exact Or.inr rfl) (pe_call D_l_items.ok (hr.mono (by decide)) rfl D_l_items.mgf D_l_items.kp D_l_items.b .nil pass0 (pa_cons (pv 0) (pa_cons (pv 1) pa_nil))))
      (pss_cons (ps_set (i := 3) sc_l_stacks.nd rfl (by first | exact Or.inl rfl | exact Or.inr rfl) (pe_call D_l_hiding.ok (hr.mono (by decide)) rfl D_l_hiding.mgf D_l_hiding.kp D_l_hiding.b .nil pass0 (pa_cons (pv 2) pa_nil)))
      (pss_cons (ps_set (i := 4) sc_l_stacks.nd rfl (by first | exact Or.inl rfl | exact Or.inr rfl) (pe_lst pa_nil))
      (pss_cons (ps_for PassesOwn.never rfl (pi_range1 (by rfl) T.range_ (pa_cons (pe_ix (kixT K) (pv 0) pe_int (fun _ _ => rfl)) pa_nil)) (pg_name (i := 5) sc_l_stacks.nd rfl (by first | exact Or.inl rfl | exact Or.inr rfl))
        (pss_one (ps_expr (pe_bm PySem.F.plainAttrs_list PySem.F.slot_list_append PySem.F.type_list_append mt_append (pv 4) (pa_cons (pe_lc (own := [("x", 6)]) (tt := tYes) rfl sc_l_stacks.nd (pi_range1 (by rfl) T.range_ (pa_cons (pe_ix (kixT K) (pv 0) pe_int (fun _ _ => rfl)) pa_nil)) (blkOk_by (N := ["parts", "frame", "items", "hiding", "rows", "y", "x"]) (sc := defScope s_l_stacks) (by decide +kernel)) (fun _ _ _ _ _ => (pg_name (i := 6) sc_l_stacks.nd rfl (by first | exact Or.inl rfl | exact Or.inr rfl))) (fun _ _ _ _ _ => pts_nil) (fun _ _ _ _ _ => (pe_call D_l_stack.ok (hr.mono (by decide)) rfl D_l_stack.mgf D_l_stack.kp D_l_stack.b .nil pass0 (pa_cons (pv 2) (pa_cons (pv 3) (pa_cons (pe_ix (kixT K) (pv 0) pe_int (fun _ _ => rfl)) (pa_cons (pv 6) (pa_cons (pv 5) pa_nil)))))))) pa_nil)))))
      (pss_one (ps_ret (pv 4))))))), ?_⟩
    rw [start_nrm (Nat.le_of_ble_eq_true rfl)]; dsimp only [startL]
    refine ⟨_, rfl, _, rfl, .ref a, x, fr, rfl, hf, k.ok, by have := k.len; omega, fun p is H1 hp e1 hpl hI => ?_⟩
    dsimp only [List.set]
    refine ⟨_, rfl, p, is, x.litems fr, rfl, hpl, hI, litems_ok2 k.ok, by omega, fun h1 Hb eb hh => ?_⟩
    dsimp only [List.set]
    refine ⟨(by show 0 ≤ sizeLine; decide), fun D hD => ?_⟩
    have e2 := Ex.new (o := .lst []) hD
    have g2 : upd Hb D (.lst []) D = some (.lst []) := upd_same
    generalize upd Hb D (.lst []) = H2 at e2 g2 ⊢
    dsimp only [List.set]
    have e1b := e1.trans eb
    have e12 := e1b.trans e2
    refine ⟨_, rfl, a, _, 1, _, rfl, rfl, SqT.of (e12 _ _ ha), rfl, x.h, rfl, by omega, by omega, ?_⟩
    refine for_range (lo := 0) (n := x.h.toNat) (fun j σ H' => Ex Hb H' ∧ (∃ (x5 x6 : Option V), σ = [some (.ref a), some (.int fr), some (.ref p), some (.ref h1), some (.ref D), x5, x6]) ∧ ∃ ws, H' D = some (.lst ws) ∧ Paired (RowK H' [D]) ws ((List.range j).map fun (i : Nat) => x.lsrow fr i)) ⟨e2, ⟨_, _, rfl⟩, [], g2, .nil⟩ ?_ ?_
    · rintro j σ H3 hj ⟨e3, ⟨x5, x6, rfl⟩, ws, hW, hR⟩
      have lw := hR.length
      rw [List.length_map, List.length_range] at lw
      have e13 := e1b.trans e3
      dsimp only [List.set]
      refine ⟨_, rfl, .inl ⟨rfl, _, SqL.of hW⟩, ?_⟩
      refine ⟨_, rfl, a, _, 0, _, rfl, rfl, SqT.of (e13 _ _ ha), rfl, x.w, rfl, by omega, by omega, fun D2 hD2 => ?_⟩
      have nd : D2 ≠ D := fun z => by rw [z, hW] at hD2; cases hD2
      refine lc_range (lo := 0) (n := x.w.toNat) (fun i H' => Ex H3 H' ∧ ∃ zs, H' D2 = some (.lst zs) ∧ Paired (StkP H' [D2, D]) zs ((List.range i).map fun (i : Nat) => x.lstack fr i j)) ⟨Ex.new hD2, [], upd_same, .nil⟩ ?_ ?_
      · rintro i H4 hi ⟨e4, zs, hZ, hS⟩
        have lz := hS.length
        rw [List.length_map, List.length_range] at lz
        have e34 := e3.trans e4
        have eb4 := eb.trans e34
        refine ⟨rfl, lcY ?_⟩
        refine ⟨_, rfl, _, rfl, _, rfl, a, _, 3, _, rfl, rfl, SqT.of ((e1b.trans e34) _ _ ha), rfl, _, rfl, _, rfl, p, h1, is, x.litems fr, x.b, 0 + (i : Int), 0 + (j : Int), rfl, eb4 _ _ hpl, Paired.mapP hI fun _ _ => LIV.tk (TK.ex eb4), by omega, e34 _ _ hh, fun r rs H5 hr5 e5 hrs hRS => ?_⟩
        rw [Int.zero_add, Int.zero_add] at hRS
        have hZ5 := e5 _ _ hZ
        have nr : r ∉ [D2, D] := by
          intro z
          rcases List.mem_cons.mp z with rfl | z
          · rw [hZ] at hr5; cases hr5
          · have := List.mem_singleton.mp z
            subst this
            have := e4 _ _ hW
            rw [this] at hr5
            cases hr5
        refine ⟨zs, hZ5, slineL (by omega), (e4.trans e5).mut hD2, zs ++ [.ref r], upd_same, ?_⟩
        rw [List.range_succ, List.map_append]
        refine pr_append (Paired.mapP hS fun _ _ h => StkP.put hZ5 (List.mem_cons_self ..) (h.ex e5)) (.cons (StkP.put hZ5 (List.mem_cons_self ..) ⟨r, rs, rfl, nr, hrs, hRS⟩) .nil)
      · rintro H4 ⟨e4, zs, hZ, hS⟩
        have hW4 := e4 _ _ hW
        refine ⟨D, ws, .ref D2, rfl, rfl, hW4, slineL (by omega), ?_⟩
        refine ⟨(e3.trans e4).mut hD, ⟨_, _, rfl⟩, ws ++ [.ref D2], upd_same, ?_⟩
        rw [List.range_succ, List.map_append]
        refine pr_append (Paired.mapP hR fun _ _ h => RowK.put hW4 (List.mem_cons_self ..) (h.ex e4)) (.cons (RowK.put hW4 (List.mem_cons_self ..) ⟨D2, zs, rfl, fun z => nd (List.mem_singleton.mp z), hZ, Paired.mapP hS fun _ _ => StkP.less fun a ha => List.mem_cons_of_mem _ ha⟩) .nil)
    · rintro σ H3 ⟨e3, ⟨x5, x6, rfl⟩, ws, hW, hR⟩
      exact ⟨_, rfl, q (.ref D) H3 (e1b.trans e3) ⟨D, ws, rfl, hW, hR⟩⟩
noncomputable def LI.cut (cw ch : Int) (i : LI) : Option It := (cutO cw ch i.x i.y i.w i.h).map fun r => ⟨r, (i.x, i.y), i.pa, i.lv, i.md, i.hides⟩
theorem item_cut (x : Fi) (l : La) (f : Int) (k : l.Vd) : x.item l f = (l.litem f).bind (LI.cut x.w x.h) := by
  have et : thereC l.cs f = l.there f := rfl
  unfold Fi.item La.litem
  rw [et]
  cases hc : l.there f with
  | none => rfl
  | some c =>
    obtain ⟨l0, l1⟩ := La.lev_in k hc
    by_cases hz : l.lev f c = 0
    · dsimp only
      rw [if_neg (show ¬ 0 < l.lev f c by omega)]
      cases x.ext l f with
      | none => rfl
      | some r => dsimp only; rw [if_pos hz]; rfl
    · dsimp only
      rw [if_pos (show 0 < l.lev f c by omega)]
      show _ = (cutO x.w x.h (l.corner f).1 (l.corner f).2 l.box.w l.box.h).map _
      rw [← ext_cut]
      cases x.ext l f with
      | none => rfl
      | some r => dsimp only; rw [if_neg hz]; rfl
theorem filterMap_congr' {α β : Type} {g h : α → Option β} : ∀ {l : List α}, (∀ a ∈ l, g a = h a) → l.filterMap g = l.filterMap h
  | [], _ => rfl
  | a :: l, e => by
    rw [List.filterMap_cons, List.filterMap_cons, e a (List.mem_cons_self ..), filterMap_congr' fun b hb => e b (List.mem_cons_of_mem _ hb)]
theorem items_cut {x : Fi} (k : x.Vd) (f : Int) : x.items f = (x.litems f).filterMap (LI.cut x.w x.h) := by
  unfold Fi.items Fi.litems
  rw [List.filterMap_filterMap]
  exact filterMap_congr' fun l hl => item_cut x l f (k.ok l hl)
def optPtD : Option Pt → PyData
  | none => .none
  | some p => ptD p
theorem OptPtV.dp {K : PySem.W.Frag} {H : Hp} {v : V} {o : Option Pt} (h : OptPtV H v o) : Dp K H v (optPtD o) := by
  cases o with
  | none => cases h; exact .non
  | some p => exact PtV.dp h
def itD (i : It) : PyData := .tuple [rcD i.ext, ptD i.at_, opD i.pa, .int i.lv, i.md.D, .bool i.hides]
theorem ItV.dp {K : PySem.W.Frag} {H : Hp} {v : V} {i : It} (h : ItV H v i) : Dp K H v (itD i) := by
  obtain ⟨a, ev, cv, pav, mv, rfl, h1, h2, h3, h4, h5⟩ := h
  exact .tup (SqT.of h1) (.cons h2.dp (.cons h3.dp (.cons h4.dp (.cons (.int _) (.cons h5.dp (.cons (.bl _) .nil))))))
def optRcD : Option Rc → PyData
  | none => .none
  | some r => rcD r
theorem OptRcV.dp {K : PySem.W.Frag} {H : Hp} {v : V} {o : Option Rc} (h : OptRcV H v o) : Dp K H v (optRcD o) := by
  cases o with
  | none => cases h; exact .non
  | some p => exact RcV.dp h
def enD (e : En) : PyData := .tuple [opD e.pa, optPtD e.at_, .int e.lv, e.md.D]
def seD : En ⊕ Int → PyData
  | .inl e => enD e
  | .inr b => .int b
theorem SeV.dp {K : PySem.W.Frag} {H : Hp} {v : V} {s : En ⊕ Int} (h : SeV H v s) : Dp K H v (seD s) := by
  cases s with
  | inl e =>
    obtain ⟨a, pav, cv, mv, rfl, h1, h2, h3, h4⟩ := h
    exact .tup (SqT.of h1) (.cons h2.dp (.cons h3.dp (.cons (.int _) (.cons h4.dp .nil))))
  | inr b => cases h; exact .int _
theorem optPt_lay (o : Option Pt) : (optPtD o).canLay0 = true := by
  cases o with
  | none => rfl
  | some r => exact eqs_pt.2.1 r
theorem optPt_depth (o : Option Pt) : (optPtD o).depth ≤ 1 := by
  cases o with
  | none => decide
  | some r => exact eqs_pt.2.2 r
theorem se_lay (s : En ⊕ Int) : (seD s).canLay0 = true := by
  cases s with
  | inl e => simp only [seD, enD, PyData.canLay0, PyData.canLayAll0, op_lay, optPt_lay, md_lay, Bool.and_true]
  | inr b => simp [seD, PyData.canLay0]
theorem se_depth (s : En ⊕ Int) : (seD s).depth ≤ 4 := by
  cases s with
  | inl e =>
    have h1 := op_depth e.pa
    have h2 := md_depth e.md
    have h3 := optPt_depth e.at_
    simp only [seD, enD, PyData.depth, PyData.depthAll]
    omega
  | inr b => simp [seD, PyData.depth]
def stkD (s : List (En ⊕ Int)) : PyData := .list (s.map seD)
theorem stk_lay (s : List (En ⊕ Int)) : (stkD s).canLay0 = true := by
  simp only [stkD, PyData.canLay0]
  exact canLay_map se_lay _
theorem stk_shaped (s : List (En ⊕ Int)) : SeqAt.shaped (stkD s) = true := shaped_of (stk_lay s) (by
  have h : PyData.depthAll (s.map seD) ≤ 4 := depth_map se_depth _
  simp only [stkD, PyData.depth]
  omega)
theorem stk_dp {K : PySem.W.Frag} {H : Hp} {p : Addr} {us : List V} {s : List (En ⊕ Int)} (hp : H p = some (.lst us)) (h : Paired (SeV H) us s) : Dp K H (.ref p) (stkD s) := .lst (SqL.of hp) (dp_all (fun _ _ z => SeV.dp z) h)
theorem li_here {i : LI} {x y : Int} : i.here x y = true ↔ (i.x ≤ x ∧ x < i.x + i.w ∧ i.y ≤ y ∧ y < i.y + i.h) := by
  unfold LI.here
  simp only [Bool.and_eq_true, decide_eq_true_eq]
  constructor
  · rintro ⟨⟨⟨a, b⟩, c⟩, d⟩
    exact ⟨a, b, c, d⟩
  · rintro ⟨a, b, c, d⟩
    exact ⟨⟨⟨a, b⟩, c⟩, d⟩
theorem cut_cases (cw ch X Y bw bh px py : Int) (x0 : 0 ≤ px) (x1 : px < cw) (y0 : 0 ≤ py) (y1 : py < ch) :
    match cutO cw ch X Y bw bh with
    | none => ¬ (X ≤ px ∧ px < X + bw ∧ Y ≤ py ∧ py < Y + bh)
    | some r => (r.l ≤ px ∧ px < r.r ∧ r.t ≤ py ∧ py < r.b) ↔ (X ≤ px ∧ px < X + bw ∧ Y ≤ py ∧ py < Y + bh) := by
  have h1 : (cutR cw ch X Y bw bh).l ≤ px ↔ X ≤ px := by
    show (if X > 0 then X else 0) ≤ px ↔ _
    split <;> omega
  have h2 : (cutR cw ch X Y bw bh).t ≤ py ↔ Y ≤ py := by
    show (if Y > 0 then Y else 0) ≤ py ↔ _
    split <;> omega
  have h3 : px < (cutR cw ch X Y bw bh).r ↔ px < X + bw := by
    show px < (if X + bw < cw then X + bw else cw) ↔ _
    split <;> omega
  have h4 : py < (cutR cw ch X Y bw bh).b ↔ py < Y + bh := by
    show py < (if Y + bh < ch then Y + bh else ch) ↔ _
    split <;> omega
  by_cases c : (cutR cw ch X Y bw bh).l ≥ (cutR cw ch X Y bw bh).r ∨ (cutR cw ch X Y bw bh).t ≥ (cutR cw ch X Y bw bh).b
  · have e : cutO cw ch X Y bw bh = none := if_pos c
    rw [e]
    rintro ⟨k1, k2, k3, k4⟩
    have := h1.mpr k1
    have := h3.mpr k2
    have := h2.mpr k3
    have := h4.mpr k4
    omega
  · have e : cutO cw ch X Y bw bh = some (cutR cw ch X Y bw bh) := if_neg c
    rw [e]
    show (_ ∧ _ ∧ _ ∧ _) ↔ _
    rw [h1, h2, h3, h4]
theorem stack_same {cw ch b px py : Int} (x0 : 0 ≤ px) (x1 : px < cw) (y0 : 0 ≤ py) (y1 : py < ch) : ∀ is : List LI, stackS px py ((is.filterMap (LI.cut cw ch)).map It.sh ++ [⟨⟨0, 0, cw, ch⟩, .inr b, true⟩]) = stackL px py b is
  | [] => by
    show (if _ then _ else _) = _
    rw [if_pos (show Sht.here ⟨⟨0, 0, cw, ch⟩, .inr b, true⟩ px py from ⟨x0, x1, y0, y1⟩), if_pos rfl]
    rfl
  | i :: is => by
    have ih := stack_same (b := b) x0 x1 y0 y1 is
    have hc := cut_cases cw ch i.x i.y i.w i.h px py x0 x1 y0 y1
    rw [List.filterMap_cons, stackL]
    cases hcu : cutO cw ch i.x i.y i.w i.h with
    | none =>
      rw [hcu] at hc
      have en : i.cut cw ch = none := by unfold LI.cut; rw [hcu]; rfl
      rw [en, if_neg fun z => hc (li_here.mp z)]
      exact ih
    | some r =>
      rw [hcu] at hc
      have hc : (r.l ≤ px ∧ px < r.r ∧ r.t ≤ py ∧ py < r.b) ↔ _ := hc
      have en : i.cut cw ch = some ⟨r, (i.x, i.y), i.pa, i.lv, i.md, i.hides⟩ := by unfold LI.cut; rw [hcu]; rfl
      rw [en]
      show stackS px py (It.sh ⟨r, (i.x, i.y), i.pa, i.lv, i.md, i.hides⟩ :: ((is.filterMap (LI.cut cw ch)).map It.sh ++ _)) = _
      rw [stackS]
      by_cases hh : i.here px py = true
      · rw [if_pos hh]
        have h2 : Sht.here (It.sh ⟨r, (i.x, i.y), i.pa, i.lv, i.md, i.hides⟩) px py := hc.mpr (li_here.mp hh)
        rw [if_pos h2]
        show (if i.hides = true then [.inl i.en] else .inl i.en :: stackS px py _) = _
        rw [ih]
      · have h2 : ¬ Sht.here (It.sh ⟨r, (i.x, i.y), i.pa, i.lv, i.md, i.hides⟩) px py := fun z => hh (li_here.mpr (hc.mp z))
        rw [if_neg hh, if_neg h2, ih]
theorem stack_eq {x : Fi} (k : x.Vd) {f px py : Int} (x0 : 0 ≤ px) (x1 : px < x.w) (y0 : 0 ≤ py) (y1 : py < x.h) : x.stack f px py = x.lstack f px py := by
  unfold Fi.stack Fi.lstack Fi.sheets
  rw [items_cut k, ← stack_same x0 x1 y0 y1, List.filterMap_reverse]
abbrev s_l_what_like : Stmt := top 114
theorem sc_l_what_like : FnScope ["script", "k", "what"] ["script", "k", "what"] (defScope s_l_what_like) := ⟨rfl, rfl, rfl, by decide +kernel, rfl, by decide +kernel, by decide +kernel⟩
def spWhatLike (K : PySem.W.Frag) : Sp := fun vs H Q _ => ∃ (a : Addr) (ns : List Int) (k : Int) (v : V) (x : Wh), vs = [.ref a, .int k, v] ∧ SqL K H a (ns.map V.int) ∧ 0 ≤ k ∧ WhV H v x ∧ ∀ v y H', Ex H H' → WhV H' v y → y.Ok → y.adj = x.adj → Q v H'
theorem ok_l_what_like {f : Addr} {fd : FuncData} (F : Fun K "_law_what_like" "_law_what_like" s_l_what_like f fd) (T : Txt K mg) (D_l_draw : Def P w K mg base CX0 "_law_draw" 1 ["script", "k", "below"] (spDrawF K)) : FnOk P w K mg base CX0 2 f fd ["script", "k", "what"] (spWhatLike K) := by
  refine F.ok sc_l_what_like (fun vs H Q E h => ?_) (fun cdv A outer s H vs Q E hr h => ?_)
  · obtain ⟨a, ns, k, v, x, rfl, _⟩ := h
    rfl
  · obtain ⟨a, ns, k, v, x, rfl, hS, k0, hx, q⟩ := h
    obtain ⟨wa, rfl, hwa⟩ := id hx
    refine ⟨_, (pss_cons (ps_if (pt_cmpR op_eq (pe_ix (kixT K) (pv 2) pe_int (fun _ _ => rfl)) pe_str (nomark _))
        (pss_one (ps_ret (pe_tup (pa_cons pe_str (pa_cons (pe_ix (kixL K) (pe_lst (pa_cons pe_int (pa_cons pe_int (pa_cons pe_int (pa_cons pe_int pa_nil))))) (pe_call D_l_draw.ok (hr.mono (by decide)) rfl D_l_draw.mgf D_l_draw.kp D_l_draw.b .nil pass0 (pa_cons (pv 0) (pa_cons (pv 1) (pa_cons pe_int pa_nil)))) (fun _ _ => rfl)) (pa_cons (pe_ix (kixL K) (pe_lst (pa_cons pe_str (pa_cons pe_str (pa_cons pe_str pa_nil)))) (pe_call D_l_draw.ok (hr.mono (by decide)) rfl D_l_draw.mgf D_l_draw.kp D_l_draw.b .nil pass0 (pa_cons (pv 0) (pa_cons (pe_op op_add (pv 1) pe_int) (pa_cons pe_int pa_nil)))) (fun _ _ => rfl)) pa_nil))))))
        pss_nil)
      (pss_one (ps_ret (pe_ix (kixL K) (pe_lst (pa_cons (pe_tup (pa_cons pe_str pa_nil)) (pa_cons (pe_tup (pa_cons pe_str (pa_cons pe_int pa_nil))) (pa_cons (pe_tup (pa_cons pe_str (pa_cons (pe_un un_neg pe_int) pa_nil))) pa_nil)))) (pe_call D_l_draw.ok (hr.mono (by decide)) rfl D_l_draw.mgf D_l_draw.kp D_l_draw.b .nil pass0 (pa_cons (pv 0) (pa_cons (pv 1) (pa_cons pe_int pa_nil)))) (fun _ _ => rfl))))), ?_⟩
    rw [start_nrm (Nat.le_of_ble_eq_true rfl)]; dsimp only [startL]
    refine ⟨_, rfl, wa, _, 0, _, rfl, rfl, SqT.of hwa, x.at0, rfl, _, rfl, ?_⟩
    have adjs : x.adj = true → x.word ≠ "paint" := fun h => by
      cases x with
      | paint o m => cases h
      | invert => show Str.ofString "invert" ≠ _; decide +kernel
      | shift n => show Str.ofString "shift" ≠ _; decide +kernel
    cases ha : x.adj with
    | false =>
      have hw : x.word = "paint" := by cases x with
        | paint o m => rfl
        | invert => cases ha
        | shift n => cases ha
      refine iteE hw ?_
      refine ⟨(by show 4 ≤ sizeLine; decide), fun l hl => ?_⟩
      have f1 := Ex.new (o := .lst [.int 256, .int 256, .int 200, .int 0]) hl
      have g1 : upd H l (.lst [.int 256, .int 256, .int 200, .int 0]) l = some (.lst ([256, 256, 200, 0].map V.int)) := upd_same
      generalize upd H l (.lst [.int 256, .int 256, .int 200, .int 0]) = H1 at f1 g1 ⊢
      refine ⟨_, rfl, _, rfl, a, ns, k, 4, rfl, ex_l f1 hS, by omega, by decide, by decide, fun n n0 n1 => ?_⟩
      obtain ⟨o, ho, eo⟩ := pickI (ns := [256, 256, 200, 0]) n0 n1
      simp only [List.mem_cons, List.not_mem_nil, or_false] at ho
      refine ⟨l, _, n, _, rfl, rfl, SqL.of g1, eo, ?_⟩
      refine ⟨(by show 3 ≤ sizeLine; decide), fun l2 hl2 => ?_⟩
      have f2 := Ex.new (o := .lst [.str "over", .str "add", .str "times"]) hl2
      have g2 : upd H1 l2 (.lst [.str "over", .str "add", .str "times"]) l2 = some (.lst (modes3.map V.str)) := upd_same
      generalize upd H1 l2 (.lst [.str "over", .str "add", .str "times"]) = H2 at f2 g2 ⊢
      have f12 := f1.trans f2
      refine ⟨_, rfl, _, rfl, _, _, rfl, rfl, a, ns, k + 1, 3, rfl, ex_l f12 hS, by omega, by decide, by decide, fun m m0 m1 => ?_⟩
      obtain ⟨z, hz, ez⟩ := pickS (ws := modes3) m0 m1
      refine ⟨l2, _, m, _, rfl, rfl, SqL.of g2, ez, ?_⟩
      refine ⟨(by show 3 ≤ sizeLine; decide), fun t ht => ?_⟩
      have f3 := Ex.new (o := .tup [.str "paint", .int o, .str z]) ht
      exact q _ (.paint o z) _ (f12.trans f3) ⟨t, rfl, upd_same⟩ ⟨by omega, by omega, hz⟩ (by rw [ha]; rfl)
    | true =>
      refine iteW (adjs ha) ?_
      refine ⟨(by show 1 ≤ sizeLine; decide), fun t1 ht1 => ?_⟩
      have f1 := Ex.new (o := .tup [.str "invert"]) ht1
      have g1 : upd H t1 (.tup [.str "invert"]) t1 = some (.tup [.str "invert"]) := upd_same
      generalize upd H t1 (.tup [.str "invert"]) = H1 at f1 g1 ⊢
      refine ⟨(by show 2 ≤ sizeLine; decide), fun t2 ht2 => ?_⟩
      have f2 := Ex.new (o := .tup [.str "shift", .int 7]) ht2
      have g2 : upd H1 t2 (.tup [.str "shift", .int 7]) t2 = some (.tup [.str "shift", .int 7]) := upd_same
      generalize upd H1 t2 (.tup [.str "shift", .int 7]) = H2 at f2 g2 ⊢
      refine ⟨_, rfl, ?_⟩
      refine ⟨(by show 2 ≤ sizeLine; decide), fun t3 ht3 => ?_⟩
      have f3 := Ex.new (o := .tup [.str "shift", .int (-200)]) ht3
      have g3 : upd H2 t3 (.tup [.str "shift", .int (-200)]) t3 = some (.tup [.str "shift", .int (-200)]) := upd_same
      generalize upd H2 t3 (.tup [.str "shift", .int (-200)]) = H3 at f3 g3 ⊢
      refine ⟨(by show 3 ≤ sizeLine; decide), fun l hl => ?_⟩
      have f4 := Ex.new (o := .lst [.ref t1, .ref t2, .ref t3]) hl
      have g4 : upd H3 l (.lst [.ref t1, .ref t2, .ref t3]) l = some (.lst [.ref t1, .ref t2, .ref t3]) := upd_same
      generalize upd H3 l (.lst [.ref t1, .ref t2, .ref t3]) = H4 at f4 g4 ⊢
      have e4 := ((f1.trans f2).trans f3).trans f4
      refine ⟨_, rfl, _, rfl, a, ns, k, 3, rfl, ex_l e4 hS, by omega, by decide, by decide, fun n n0 n1 => ?_⟩
      have hn : n = 0 ∨ n = 1 ∨ n = 2 := by omega
      rcases hn with rfl | rfl | rfl
      · refine ⟨l, _, 0, .ref t1, rfl, rfl, SqL.of g4, rfl, ?_⟩
        exact q _ .invert _ e4 ⟨t1, rfl, ((f2.trans f3).trans f4) _ _ g1⟩ trivial (by rw [ha]; rfl)
      · refine ⟨l, _, 1, .ref t2, rfl, rfl, SqL.of g4, rfl, ?_⟩
        exact q _ (.shift 7) _ e4 ⟨t2, rfl, (f3.trans f4) _ _ g2⟩ ⟨by decide, by decide⟩ (by rw [ha]; rfl)
      · refine ⟨l, _, 2, .ref t3, rfl, rfl, SqL.of g4, rfl, ?_⟩
        exact q _ (.shift (-200)) _ e4 ⟨t3, rfl, f4 _ _ g3⟩ ⟨by decide, by decide⟩ (by rw [ha]; rfl)
abbrev s_l_layer_like : Stmt := top 115
theorem sc_l_layer_like : FnScope ["script", "k", "layer", "name", "box", "moves", "what", "clips", "kind"] ["script", "k", "layer"] (defScope s_l_layer_like) := ⟨rfl, rfl, rfl, by decide +kernel, rfl, by decide +kernel, by decide +kernel⟩
def hdS (z : Str) : Option Nat := z.cps.toList.head?
theorem sIx1 {n : Nat} (h : 1 ≤ n) : HT.sIx n 0 (some 1) = 1 := by
  rw [show (1 : Int) = ((1 : Nat) : Int) from rfl, HT.sIx_nat]
  omega
theorem name_head {z w : Str} {c : Nat} (h : nameS z = true) (hc : c ∈ letters) (hw : w.cps.toList = [c]) : nameS (w ++ cutS z (some 1) none) = true ∧ hdS (w ++ cutS z (some 1) none) = some c := by
  have hl : (w ++ cutS z (some 1) none : Str).cps.toList = c :: (cutS z (some 1) none).cps.toList := by
    show (w.cps ++ (cutS z (some 1) none).cps).toList = _
    rw [Array.toList_append, hw]
    rfl
  unfold nameS at h
  rw [Bool.and_eq_true, Bool.and_eq_true, decide_eq_true_eq, decide_eq_true_eq] at h
  obtain ⟨⟨z1, z2⟩, z3⟩ := h
  have hcut : (cutS z (some 1) none).cps.toList = z.cps.toList.drop 1 := by
    unfold cutS
    have lz : z.cps.toList.length = z.length := Array.length_toList
    rw [sIx1 (by omega), HT.sIx_none]
    show (List.take (z.length - 1) (List.drop 1 z.cps.toList)) = _
    rw [List.take_of_length_le (by rw [List.length_drop, lz]; omega)]
  refine ⟨?_, by unfold hdS; rw [hl]; rfl⟩
  have ln : (w ++ cutS z (some 1) none : Str).length = z.length := by
    show (w ++ cutS z (some 1) none : Str).cps.size = _
    have lz : z.cps.toList.length = z.length := Array.length_toList
    rw [← Array.length_toList, hl, List.length_cons, hcut, List.length_drop, lz]
    omega
  unfold nameS
  rw [ln, hl, hcut, Bool.and_eq_true, Bool.and_eq_true, decide_eq_true_eq, decide_eq_true_eq]
  refine ⟨⟨z1, z2⟩, ?_⟩
  rw [List.all_cons, Bool.and_eq_true]
  refine ⟨decide_eq_true hc, List.all_eq_true.mpr fun x hx => List.all_eq_true.mp z3 x (List.mem_of_mem_drop hx)⟩
/-- a layer that is allowed, its box near the origin -/
structure La.Dr (B : Int) (l : La) : Prop where
  vd : l.Vd
  l0 : -B ≤ l.box.l
  l1 : l.box.l ≤ B
  t0 : -B ≤ l.box.t
  t1 : l.box.t ≤ B
theorem La.Dr.le {B B' : Int} {l : La} (h : l.Dr B) (hb : B ≤ B') : l.Dr B' := by
  obtain ⟨a, b, c, d, e⟩ := h
  exact ⟨a, by omega, by omega, by omega, by omega⟩
def PartsV (H : Hp) (n bv mv wv cv : V) (l : La) : Prop := n = .str l.name ∧ BxV H bv l.box ∧ (∃ ma us, mv = .ref ma ∧ H ma = some (.tup us) ∧ MvsV H us l.ms) ∧ WhV H wv l.wh ∧ ∃ ca ws, cv = .ref ca ∧ H ca = some (.tup ws) ∧ ClsV H ws l.cs
theorem PartsV.tk {H H' : Hp} {n bv mv wv cv : V} {l : La} (e : TK H H') (h : PartsV H n bv mv wv cv l) : PartsV H' n bv mv wv cv l := by
  obtain ⟨h0, h1, ⟨ma, us, rfl, h2, h3⟩, h4, ca, ws, rfl, h5, h6⟩ := h
  exact ⟨h0, h1.tk e, ⟨ma, us, rfl, e _ _ h2, h3.tk e⟩, h4.tk e, ca, ws, rfl, e _ _ h5, h6.tk e⟩
def NameL (k : Int) (l l' : La) : Prop := l'.name = l.name ∨ hdS l'.name = some (if k > 450 then 111 else 109)
def spLayerLike (K : PySem.W.Frag) : Sp := fun vs H Q _ => ∃ (a : Addr) (ns : List Int) (k : Int) (v : V) (l : La) (B : Int), vs = [.ref a, .int k, v] ∧ SqL K H a (ns.map V.int) ∧ 0 ≤ k ∧ LaV H v l ∧ l.Dr B ∧ 8 ≤ B ∧ B ≤ 900 ∧ ∀ v l' H', Ex H H' → LaV H' v l' → l'.Dr (B + 2) → NameL k l l' → Q v H'
theorem ok_l_layer_like {f : Addr} {fd : FuncData} (F : Fun K "_law_layer_like" "_law_layer_like" s_l_layer_like f fd) (T : Txt K mg) (D_l_draw : Def P w K mg base CX0 "_law_draw" 1 ["script", "k", "below"] (spDrawF K)) (D_l_what_like : Def P w K mg base CX0 "_law_what_like" 2 ["script", "k", "what"] (spWhatLike K))
    (D_l_moves : Def P w K mg base CX0 "_law_moves" 2 ["script", "k"] (spMovesF K)) (D_l_clips : Def P w K mg base CX0 "_law_clips" 4 ["script", "k", "adjusts"] (spClipsF K)) (D_l_box : Def P w K mg base CX0 "_law_box" 2 ["script", "k"] (spBoxF K)) : FnOk P w K mg base CX0 5 f fd ["script", "k", "layer"] (spLayerLike K) := by
  refine F.ok sc_l_layer_like (fun vs H Q E h => ?_) (fun cdv A outer s H vs Q E hr h => ?_)
  · obtain ⟨a, ns, k, v, l, B, rfl, _⟩ := h
    rfl
  · obtain ⟨a, ns, k, v, l, B, rfl, hS, k0, hv, dr, B0, B1, q⟩ := h
    obtain ⟨la, bv, ma, wv, ca, us, ws, rfl, hla, hb, hma, hM, hw, hca, hC⟩ := id hv
    refine ⟨_, (pss_cons (ps_asg (pv 2) (kpgT K (n := 5) rfl (pgs_cons (pg_name (i := 3) sc_l_layer_like.nd rfl (by first | exact Or.inl rfl | exact Or.inr rfl)) (pgs_cons (pg_name (i := 4) sc_l_layer_like.nd rfl (by first | exact Or.inl rfl | exact Or.inr rfl)) (pgs_cons (pg_name (i := 5) sc_l_layer_like.nd rfl (by first | exact Or.inl rfl | exact Or.inr rfl)) (pgs_cons (pg_name (i := 6) sc_l_layer_like.nd rfl (by first | exact Or.inl rfl | exact Or.inr rfl)) (pgs_cons (pg_name (i := 7) sc_l_layer_like.nd rfl (by first | exact Or.inl rfl | exact Or.inr rfl)) pgs_nil)))))))
      (pss_cons (ps_set (i := 8) sc_l_layer_like.nd rfl (by first | exact Or.inl rfl | exact Or.inr rfl) (pe_call D_l_draw.ok (hr.mono (by decide)) rfl D_l_draw.mgf D_l_draw.kp D_l_draw.b .nil pass0 (pa_cons (pv 0) (pa_cons (pv 1) (pa_cons pe_int pa_nil)))))
      (pss_cut (ps_if (pt_cmpR op_eq (pv 8) pe_int (nomark _))
        (pss_one (ps_set (i := 3) sc_l_layer_like.nd rfl (by first | exact Or.inl rfl | exact Or.inr rfl) (pe_op op_add_str (pe_ix (kixL K) (pe_lst (pa_cons pe_str (pa_cons pe_str pa_nil))) (pe_callTy call_int1 (by rfl) T.int_ bt_int (pa_cons (pe_cmpR op_gt (pv 1) pe_int (nomark _)) pa_nil)) (fun _ _ => rfl)) (pe_slice sl_str (pv 3) (po_some pe_int) po_none))))
        pss_nil)
      (pss_cut (ps_if (pt_cmpR op_eq (pv 8) pe_int (nomark _))
        (pss_one (ps_set (i := 4) sc_l_layer_like.nd rfl (by first | exact Or.inl rfl | exact Or.inr rfl) (pe_tup (pa_cons (pe_op op_sub (pe_op op_add (pe_ix (kixT K) (pv 4) pe_int (fun _ _ => rfl)) (pe_call D_l_draw.ok (hr.mono (by decide)) rfl D_l_draw.mgf D_l_draw.kp D_l_draw.b .nil pass0 (pa_cons (pv 0) (pa_cons (pe_op op_add (pv 1) pe_int) (pa_cons pe_int pa_nil))))) pe_int) (pa_cons (pe_op op_sub (pe_op op_add (pe_ix (kixT K) (pv 4) pe_int (fun _ _ => rfl)) (pe_call D_l_draw.ok (hr.mono (by decide)) rfl D_l_draw.mgf D_l_draw.kp D_l_draw.b .nil pass0 (pa_cons (pv 0) (pa_cons (pe_op op_add (pv 1) pe_int) (pa_cons pe_int pa_nil))))) pe_int) (pa_cons (pe_ix (kixT K) (pv 4) pe_int (fun _ _ => rfl)) (pa_cons (pe_ix (kixT K) (pv 4) pe_int (fun _ _ => rfl)) pa_nil)))))))
        pss_nil)
      (pss_cut (ps_if (pt_cmpR op_eq (pv 8) pe_int (nomark _))
        (pss_one (ps_set (i := 6) sc_l_layer_like.nd rfl (by first | exact Or.inl rfl | exact Or.inr rfl) (pe_call D_l_what_like.ok (hr.mono (by decide)) rfl D_l_what_like.mgf D_l_what_like.kp D_l_what_like.b .nil pass0 (pa_cons (pv 0) (pa_cons (pe_op op_add (pv 1) pe_int) (pa_cons (pv 6) pa_nil))))))
        pss_nil)
      (pss_cut (ps_if (pt_cmpR op_eq (pv 8) pe_int (nomark _))
        (pss_one (ps_set (i := 5) sc_l_layer_like.nd rfl (by first | exact Or.inl rfl | exact Or.inr rfl) (pe_call D_l_moves.ok (hr.mono (by decide)) rfl D_l_moves.mgf D_l_moves.kp D_l_moves.b .nil pass0 (pa_cons (pv 0) (pa_cons (pe_op op_add (pv 1) pe_int) pa_nil)))))
        pss_nil)
      (pss_cut (ps_if (pt_cmpR op_eq (pv 8) pe_int (nomark _))
        (pss_one (ps_set (i := 7) sc_l_layer_like.nd rfl (by first | exact Or.inl rfl | exact Or.inr rfl) (pe_call D_l_clips.ok (hr.mono (by decide)) rfl D_l_clips.mgf D_l_clips.kp D_l_clips.b .nil pass0 (pa_cons (pv 0) (pa_cons (pe_op op_add (pv 1) pe_int) (pa_cons (pe_cmpR op_ne (pe_ix (kixT K) (pv 6) pe_int (fun _ _ => rfl)) pe_str (nomark _)) pa_nil))))))
        pss_nil)
      (pss_cut (ps_if (pt_cmpR op_eq (pv 8) pe_int (nomark _))
        (pss_one (ps_set (i := 4) sc_l_layer_like.nd rfl (by first | exact Or.inl rfl | exact Or.inr rfl) (pe_call D_l_box.ok (hr.mono (by decide)) rfl D_l_box.mgf D_l_box.kp D_l_box.b .nil pass0 (pa_cons (pv 0) (pa_cons (pe_op op_add (pv 1) pe_int) pa_nil)))))
        pss_nil)
      (pss_one (ps_ret (pe_tup (pa_cons (pv 3) (pa_cons (pv 4) (pa_cons (pv 5) (pa_cons (pv 6) (pa_cons (pv 7) pa_nil)))))))))))))))), ?_⟩
    rw [start_nrm (Nat.le_of_ble_eq_true rfl)]; dsimp only [startL]
    refine ⟨_, rfl, la, _, rfl, SqT.of hla, rfl, _, _, rfl, _, _, rfl, _, _, rfl, _, _, rfl, _, _, rfl, rfl, ?_⟩
    dsimp only [List.set]
    refine ⟨_, rfl, _, rfl, a, ns, k, 6, rfl, hS, k0, by decide, by decide, fun kd kd0 kd1 => ?_⟩
    dsimp only [List.set]
    have St : ∃ St : Int → L2.St → Hp → Prop, St = fun (C : Int) σ H' => Ex H H' ∧ ∃ n bv mv wv cv l', σ = [some (.ref a), some (.int k), some (.ref la), some n, some bv, some mv, some wv, some cv, some (.int kd)] ∧ PartsV H' n bv mv wv cv l' ∧ l'.Dr C ∧ NameL k l l' := ⟨_, rfl⟩
    obtain ⟨St, hSt⟩ := St
    -- a name
    refine ⟨St B, ?_, ?_⟩
    · rw [hSt]
      refine ⟨_, rfl, rfl, _, rfl, ?_⟩
      refine ite2 (fun _ => ?_) (fun _ => ⟨Ex.refl _, _, _, _, _, _, l, rfl, ⟨rfl, hb, ⟨ma, us, rfl, hma, hM⟩, hw, ca, ws, rfl, hca, hC⟩, dr, .inl rfl⟩)
      refine ⟨(by show 2 ≤ sizeLine; decide), fun t ht => ?_⟩
      have f1 := Ex.new (o := .lst [.str "m", .str "o"]) ht
      have g1 : upd H t (.lst [.str "m", .str "o"]) t = some (.lst [.str "m", .str "o"]) := upd_same
      generalize upd H t (.lst [.str "m", .str "o"]) = H1 at f1 g1 ⊢
      have nz := dr.vd.name
      have fin : ∀ (w : Str) (c : Nat), w.cps.toList = [c] → c ∈ letters → c = (if k > 450 then 111 else 109) → ∀ z, z = w ++ cutS l.name (some 1) none → (Ex H H1 ∧ ∃ n bv' mv wv' cv l', [some (.ref a), some (.int k), some (.ref la), some (.str z), some bv, some (.ref ma), some wv, some (.ref ca), some (.int kd)] = [some (.ref a), some (.int k), some (.ref la), some n, some bv', some mv, some wv', some cv, some (.int kd)] ∧ PartsV H1 n bv' mv wv' cv l' ∧ l'.Dr B ∧ NameL k l l') := fun w c hw1 hc ec z ez => by
        obtain ⟨n1, n2⟩ := name_head nz hc hw1
        rw [← ez] at n1 n2
        obtain ⟨⟨_, d2, d3, d4, d5⟩, dl0, dl1, dt0, dt1⟩ := dr
        refine ⟨f1, _, _, _, _, _, ⟨z, l.box, l.ms, l.wh, l.cs⟩, rfl, PartsV.tk (TK.ex f1) ⟨rfl, hb, ⟨ma, us, rfl, hma, hM⟩, hw, ca, ws, rfl, hca, hC⟩, ⟨⟨n1, d2, d3, d4, d5⟩, dl0, dl1, dt0, dt1⟩, .inr ?_⟩
        rw [← ec]
        exact n2
      have nz8 : l.name.length ≤ 8 := by
        unfold nameS at nz
        rw [Bool.and_eq_true, Bool.and_eq_true, decide_eq_true_eq, decide_eq_true_eq] at nz
        have := nz.1.2
        omega
      have cl := cutS_length l.name (some 1) none
      by_cases hk : k > 450
      · refine ⟨_, rfl, _, _, rfl, rfl, .inr ⟨_, rfl, t, _, 1, .str "o", rfl, by rw [decide_eq_true hk]; rfl, SqL.of g1, rfl, ?_⟩⟩
        refine ⟨_, rfl, _, rfl, _, rfl, Nat.le_of_lt (slineL (by omega)), _, _, rfl, rfl, ?_, ?_⟩
        · have : ("o" : Str).length = 1 := by decide +kernel
          rw [this]
          exact Nat.le_of_lt (slineL (by omega))
        exact fin "o" 111 (by decide +kernel) (by decide +kernel) (by rw [if_pos hk]) _ rfl
      · refine ⟨_, rfl, _, _, rfl, rfl, .inr ⟨_, rfl, t, _, 0, .str "m", rfl, by rw [decide_eq_false hk]; rfl, SqL.of g1, rfl, ?_⟩⟩
        refine ⟨_, rfl, _, rfl, _, rfl, Nat.le_of_lt (slineL (by omega)), _, _, rfl, rfl, ?_, ?_⟩
        · have : ("m" : Str).length = 1 := by decide +kernel
          rw [this]
          exact Nat.le_of_lt (slineL (by omega))
        exact fin "m" 109 (by decide +kernel) (by decide +kernel) (by rw [if_neg hk]) _ rfl
    -- a box moved
    rintro σ H1 hs
    rw [hSt] at hs
    obtain ⟨e1, n, bv, mv, wv, cv, l1, rfl, pw, d1, nm⟩ := hs
    refine ⟨St (B + 2), ?_, ?_⟩
    · rw [hSt]
      refine ⟨_, rfl, rfl, _, rfl, ?_⟩
      refine ite2 (fun _ => ?_) (fun _ => ⟨e1, n, bv, mv, wv, cv, l1, rfl, pw, d1.le (by omega), nm⟩)
      obtain ⟨hn, ⟨ba, rfl, hba⟩, hM, hw, hC⟩ := id pw
      refine ⟨_, rfl, ba, _, 0, _, rfl, rfl, SqT.of hba, rfl, _, rfl, _, rfl, _, _, rfl, rfl, a, ns, k + 1, 5, rfl, ex_l e1 hS, by omega, by decide, by decide, fun m m0 m1 => ?_⟩
      refine ⟨_, _, rfl, rfl, _, _, rfl, rfl, ?_⟩
      refine ⟨_, rfl, ba, _, 1, _, rfl, rfl, SqT.of hba, rfl, _, rfl, _, rfl, _, _, rfl, rfl, a, ns, k + 2, 3, rfl, ex_l e1 hS, by omega, by decide, by decide, fun r r0 r1 => ?_⟩
      refine ⟨_, _, rfl, rfl, _, _, rfl, rfl, ?_⟩
      refine ⟨_, rfl, ba, _, 2, _, rfl, rfl, SqT.of hba, rfl, _, rfl, ba, _, 3, _, rfl, rfl, SqT.of hba, rfl, (by show 4 ≤ sizeLine; decide), fun t ht => ?_⟩
      have f2 := Ex.new (o := .tup [.int (l1.box.l + m - 2), .int (l1.box.t + r - 1), .int l1.box.w, .int l1.box.h]) ht
      obtain ⟨⟨v1, v2, v3, v4, v5⟩, dl0, dl1, dt0, dt1⟩ := d1
      obtain ⟨b1, b2, b3, b4, b5, b6, b7, b8⟩ := v2
      obtain ⟨_, _, hM2, hw2, hC2⟩ := pw.tk (TK.ex f2)
      refine ⟨e1.trans f2, n, .ref t, mv, wv, cv, ⟨l1.name, ⟨l1.box.l + m - 2, l1.box.t + r - 1, l1.box.w, l1.box.h⟩, l1.ms, l1.wh, l1.cs⟩, rfl, ⟨hn, ⟨t, rfl, upd_same⟩, hM2, hw2, hC2⟩, ⟨⟨v1, ⟨?_, ?_, ?_, ?_, b5, b6, b7, b8⟩, v3, v4, v5⟩, ?_, ?_, ?_, ?_⟩, nm⟩
      · show -1000 ≤ l1.box.l + m - 2; omega
      · show l1.box.l + m - 2 ≤ 1000; omega
      · show -1000 ≤ l1.box.t + r - 1; omega
      · show l1.box.t + r - 1 ≤ 1000; omega
      · show -(B + 2) ≤ l1.box.l + m - 2; omega
      · show l1.box.l + m - 2 ≤ B + 2; omega
      · show -(B + 2) ≤ l1.box.t + r - 1; omega
      · show l1.box.t + r - 1 ≤ B + 2; omega
    clear e1 pw d1 nm
    -- what it does
    rintro σ H1 hs
    rw [hSt] at hs
    obtain ⟨e1, n, bv, mv, wv, cv, l1, rfl, pw, d1, nm⟩ := hs
    refine ⟨St (B + 2), ?_, ?_⟩
    · rw [hSt]
      refine ⟨_, rfl, rfl, _, rfl, ?_⟩
      refine ite2 (fun _ => ?_) (fun _ => ⟨e1, n, bv, mv, wv, cv, l1, rfl, pw, d1, nm⟩)
      obtain ⟨hn, hb, hM, hw, hC⟩ := id pw
      refine ⟨_, rfl, _, rfl, _, _, rfl, rfl, _, rfl, a, ns, k + 1, wv, l1.wh, rfl, ex_l e1 hS, by omega, hw, fun v y H2 e2 hv ho ha => ?_⟩
      obtain ⟨_, hb2, hM2, _, hC2⟩ := pw.tk (TK.ex e2)
      obtain ⟨⟨v1, v2, v3, v4, v5⟩, dl0, dl1, dt0, dt1⟩ := d1
      exact ⟨e1.trans e2, n, bv, mv, v, cv, ⟨l1.name, l1.box, l1.ms, y, l1.cs⟩, rfl, ⟨hn, hb2, hM2, hv, hC2⟩, ⟨⟨v1, v2, v3, ho, by show ClsVd y.adj l1.cs; rw [ha]; exact v5⟩, dl0, dl1, dt0, dt1⟩, nm⟩
    clear e1 pw d1 nm
    -- moves
    rintro σ H1 hs
    rw [hSt] at hs
    obtain ⟨e1, n, bv, mv, wv, cv, l1, rfl, pw, d1, nm⟩ := hs
    refine ⟨St (B + 2), ?_, ?_⟩
    · rw [hSt]
      refine ⟨_, rfl, rfl, _, rfl, ?_⟩
      refine ite2 (fun _ => ?_) (fun _ => ⟨e1, n, bv, mv, wv, cv, l1, rfl, pw, d1, nm⟩)
      obtain ⟨hn, hb, hM, hw, hC⟩ := id pw
      refine ⟨_, rfl, _, rfl, _, _, rfl, rfl, a, ns, k + 1, rfl, ex_l e1 hS, by omega, fun p us ms H2 e2 hp hMs mo => ?_⟩
      obtain ⟨_, hb2, _, hw2, hC2⟩ := pw.tk (TK.ex e2)
      obtain ⟨⟨v1, v2, v3, v4, v5⟩, dl0, dl1, dt0, dt1⟩ := d1
      obtain ⟨m1, m2, m3⟩ := mo
      exact ⟨e1.trans e2, n, bv, .ref p, wv, cv, ⟨l1.name, l1.box, ms, l1.wh, l1.cs⟩, rfl, ⟨hn, hb2, ⟨p, us, rfl, hp, hMs⟩, hw2, hC2⟩, ⟨⟨v1, v2, ⟨m1, fun m hm => by have := m2 m hm; omega, by show ms.length ≤ 16; omega⟩, v4, v5⟩, dl0, dl1, dt0, dt1⟩, nm⟩
    clear e1 pw d1 nm
    -- clips
    rintro σ H1 hs
    rw [hSt] at hs
    obtain ⟨e1, n, bv, mv, wv, cv, l1, rfl, pw, d1, nm⟩ := hs
    refine ⟨St (B + 2), ?_, ?_⟩
    · rw [hSt]
      refine ⟨_, rfl, rfl, _, rfl, ?_⟩
      refine ite2 (fun _ => ?_) (fun _ => ⟨e1, n, bv, mv, wv, cv, l1, rfl, pw, d1, nm⟩)
      obtain ⟨hn, hb, hM, ⟨wa, rfl, hwa⟩, hC⟩ := id pw
      refine ⟨_, rfl, _, rfl, _, _, rfl, rfl, _, rfl, wa, _, 0, _, rfl, rfl, SqT.of hwa, l1.wh.at0, rfl, a, ns, k + 1, l1.wh.adj, by rw [Wh.adj_eq]; rfl, ex_l e1 hS, by omega, fun p us cs H2 e2 hp hCs co => ?_⟩
      obtain ⟨_, hb2, hM2, hw2, _⟩ := pw.tk (TK.ex e2)
      obtain ⟨⟨v1, v2, v3, v4, v5⟩, dl0, dl1, dt0, dt1⟩ := d1
      obtain ⟨c1, c2, c3, c4, c5⟩ := co
      exact ⟨e1.trans e2, n, bv, mv, .ref wa, .ref p, ⟨l1.name, l1.box, l1.ms, l1.wh, cs⟩, rfl, ⟨hn, hb2, hM2, hw2, ⟨p, us, rfl, hp, hCs⟩⟩, ⟨⟨v1, v2, v3, v4, ⟨c1, fun c hc => (c2 c hc).vd (c3 c hc), c4, by show cs.length ≤ 64; omega⟩⟩, dl0, dl1, dt0, dt1⟩, nm⟩
    clear e1 pw d1 nm
    -- a box
    rintro σ H1 hs
    rw [hSt] at hs
    obtain ⟨e1, n, bv, mv, wv, cv, l1, rfl, pw, d1, nm⟩ := hs
    refine ⟨St (B + 2), ?_, ?_⟩
    · rw [hSt]
      refine ⟨_, rfl, rfl, _, rfl, ?_⟩
      refine ite2 (fun _ => ?_) (fun _ => ⟨e1, n, bv, mv, wv, cv, l1, rfl, pw, d1, nm⟩)
      obtain ⟨hn, hb, hM, hw, hC⟩ := id pw
      refine ⟨_, rfl, _, rfl, _, _, rfl, rfl, a, ns, k + 1, rfl, ex_l e1 hS, by omega, fun v b H2 e2 hbv bo => ?_⟩
      obtain ⟨_, _, hM2, hw2, hC2⟩ := pw.tk (TK.ex e2)
      obtain ⟨⟨v1, v2, v3, v4, v5⟩, dl0, dl1, dt0, dt1⟩ := d1
      obtain ⟨b1, b2, b3, b4, b5, b6, b7, b8⟩ := bo
      refine ⟨e1.trans e2, n, v, mv, wv, cv, ⟨l1.name, b, l1.ms, l1.wh, l1.cs⟩, rfl, ⟨hn, hbv, hM2, hw2, hC2⟩, ⟨⟨v1, ⟨by show -1000 ≤ b.l; omega, by show b.l ≤ 1000; omega, by show -1000 ≤ b.t; omega, by show b.t ≤ 1000; omega, b5, b6, b7, b8⟩, v3, v4, v5⟩, by show -(B + 2) ≤ b.l; omega, by show b.l ≤ B + 2; omega, by show -(B + 2) ≤ b.t; omega, by show b.t ≤ B + 2; omega⟩, nm⟩
    clear e1 pw d1 nm
    rintro σ H1 hs
    rw [hSt] at hs
    obtain ⟨e1, n, bv, mv, wv, cv, l1, rfl, ⟨rfl, hb, ⟨ma, us, rfl, hma, hM⟩, hw, ca, ws, rfl, hca, hC⟩, d1, nm⟩ := hs
    refine ⟨_, rfl, _, rfl, _, rfl, _, rfl, _, rfl, (by show 5 ≤ sizeLine; decide), fun t ht => ?_⟩
    have f2 := Ex.new (o := .tup [.str l1.name, bv, .ref ma, wv, .ref ca]) ht
    have tk := TK.ex f2
    exact q (.ref t) l1 _ (e1.trans f2) ⟨t, bv, ma, wv, ca, us, ws, rfl, upd_same, hb.tk tk, f2 _ _ hma, hM.tk tk, hw.tk tk, f2 _ _ hca, hC.tk tk⟩ d1 nm
abbrev s_l_changed : Stmt := top 116
theorem sc_l_changed : FnScope ["script", "k", "parts", "layers", "background", "kind", "at"] ["script", "k", "parts"] (defScope s_l_changed) := ⟨rfl, rfl, rfl, by decide +kernel, rfl, by decide +kernel, by decide +kernel⟩
theorem pr_eraseN {α β : Type} {G : α → β → Prop} : ∀ {l₁ : List α} {l₂ : List β} (n : Nat), Paired G l₁ l₂ → Paired G (l₁.eraseIdx n) (l₂.eraseIdx n)
  | _, _, _, .nil => .nil
  | _, _, 0, .cons r t => t
  | _, _, n + 1, .cons r t => .cons r (pr_eraseN n t)
theorem pr_setN {α β : Type} {G : α → β → Prop} : ∀ {l₁ : List α} {l₂ : List β} (n : Nat) {x : α} {y : β}, Paired G l₁ l₂ → G x y → Paired G (l₁.set n x) (l₂.set n y)
  | _, _, _, _, _, .nil, _ => .nil
  | _, _, 0, _, _, .cons r t, h => .cons h t
  | _, _, n + 1, _, _, .cons r t, h => .cons r (pr_setN n t h)
theorem nd_set {α : Type} : ∀ {xs : List α} {j : Nat} {c : α}, xs.Nodup → c ∉ xs → (xs.set j c).Nodup
  | [], _, _, _, _ => List.nodup_nil
  | x :: xs, 0, c, h, n => List.nodup_cons.mpr ⟨fun z => n (List.mem_cons_of_mem _ z), (List.nodup_cons.mp h).2⟩
  | x :: xs, j + 1, c, h, n => by
    obtain ⟨h1, h2⟩ := List.nodup_cons.mp h
    refine List.nodup_cons.mpr ⟨fun z => ?_, nd_set h2 fun z => n (List.mem_cons_of_mem _ z)⟩
    rcases List.mem_or_eq_of_mem_set z with z | z
    · exact h1 z
    · exact n (z ▸ List.mem_cons_self ..)
theorem nd_of_map {α β : Type} (f : α → β) : ∀ {l : List α}, (l.map f).Nodup → l.Nodup
  | [], _ => List.nodup_nil
  | x :: l, h => by
    rw [List.map_cons, List.nodup_cons] at h
    exact List.nodup_cons.mpr ⟨fun z => h.1 (List.mem_map_of_mem z), nd_of_map f h.2⟩
def La.hd (l : La) : Option Nat := hdS l.name
/-- layers near the origin, told apart by the first letters of their names -/
structure LsDr (B : Int) (N : Nat) (ls : List La) : Prop where
  ok : ∀ l ∈ ls, l.Dr B
  nd : (ls.map La.hd).Nodup
  len : ls.length ≤ N
theorem LsDr.names {B : Int} {N : Nat} {ls : List La} (h : LsDr B N ls) : (ls.map La.name).Nodup := by
  have e : ls.map La.hd = (ls.map La.name).map hdS := by rw [List.map_map]; rfl
  have := h.nd
  rw [e] at this
  exact nd_of_map _ this
theorem La.Ok.vdn {l : La} (h : l.Ok) (hn : nameS l.name = true) : l.Vd := by
  obtain ⟨⟨b1, b2, b3, b4, b5, b6, b7, b8⟩, ⟨m1, m2, m3⟩, w, ⟨c1, c2, c3, c4, c5⟩⟩ := h
  exact ⟨hn, ⟨by omega, by omega, by omega, by omega, b5, b6, b7, b8⟩, ⟨m1, fun m hm => by have := m2 m hm; omega, by omega⟩, w, ⟨c1, fun c hc => (c2 c hc).vd (c3 c hc), c4, by omega⟩⟩
theorem La.Ok.dr {l : La} {B : Int} (h : l.Ok) (hn : nameS l.name = true) (hB : 8 ≤ B) : l.Dr B := by
  obtain ⟨b1, b2, b3, b4, _⟩ := h.box
  exact ⟨h.vdn hn, by omega, by omega, by omega, by omega⟩
theorem set_same' {α : Type} : ∀ {xs : List α} {j : Nat} {a : α}, xs[j]? = some a → xs.set j a = xs
  | [], _, _, h => rfl
  | x :: xs, 0, a, h => by
    simp at h
    rw [h]
    rfl
  | x :: xs, j + 1, a, h => by
    simp at h
    show x :: xs.set j a = _
    rw [set_same' (by simpa using h)]
theorem LsDr.insert {B : Int} {N : Nat} {ls : List La} (h : LsDr B N ls) {l : La} (hl : l.Dr (B + 2)) (n : l.hd ∉ ls.map La.hd) (i : Nat) : LsDr (B + 2) (N + 1) (ls.take i ++ [l] ++ ls.drop i) ∧ ∀ y ∈ ls.take i ++ [l] ++ ls.drop i, y ∈ ls ∨ y = l := by
  have p : (ls.take i ++ [l] ++ ls.drop i).Perm (l :: ls) := by
    rw [List.append_assoc]
    have z := List.perm_middle (l₁ := ls.take i) (l₂ := ls.drop i) (a := l)
    rw [List.take_append_drop] at z
    exact z
  refine ⟨⟨fun x hx => ?_, (p.map La.hd).nodup_iff.mpr (List.nodup_cons.mpr ⟨n, h.nd⟩), ?_⟩, fun y hy => (List.mem_cons.mp (p.mem_iff.mp hy)).symm⟩
  · rcases List.mem_cons.mp (p.mem_iff.mp hx) with rfl | hx
    · exact hl
    · exact (h.ok x hx).le (by omega)
  · rw [p.length_eq, List.length_cons]
    have := h.len
    omega
theorem LsDr.sub {B : Int} {N : Nat} {ls ms : List La} (h : LsDr B N ls) (s : ms.Sublist ls) : LsDr (B + 2) (N + 1) ms ∧ ∀ y ∈ ms, y ∈ ls :=
  ⟨⟨fun x hx => (h.ok x (s.subset hx)).le (by omega), List.Nodup.sublist (s.map La.hd) h.nd, by have := s.length_le; have := h.len; omega⟩, fun y hy => s.subset hy⟩
theorem LsDr.perm {B : Int} {N : Nat} {ls ms : List La} (h : LsDr B N ls) (p : ms.Perm ls) : LsDr (B + 2) (N + 1) ms ∧ ∀ y ∈ ms, y ∈ ls :=
  ⟨⟨fun x hx => (h.ok x (p.mem_iff.mp hx)).le (by omega), (p.map La.hd).nodup_iff.mpr h.nd, by have := p.length_eq; have := h.len; omega⟩, fun y hy => p.mem_iff.mp hy⟩
theorem LsDr.set {B : Int} {N : Nat} {ls : List La} (h : LsDr B N ls) {j : Nat} {l l' : La} (hj : ls[j]? = some l) (hl : l'.Dr (B + 2)) (n : l'.hd = l.hd ∨ l'.hd ∉ ls.map La.hd) : LsDr (B + 2) (N + 1) (ls.set j l') ∧ ∀ y ∈ ls.set j l', y ∈ ls ∨ y = l' := by
  have hjm : (ls.map La.hd)[j]? = some l.hd := by rw [List.getElem?_map, hj]; rfl
  refine ⟨⟨fun x hx => ?_, ?_, by rw [List.length_set]; have := h.len; omega⟩, fun y hy => List.mem_or_eq_of_mem_set hy⟩
  · rcases List.mem_or_eq_of_mem_set hx with hx | rfl
    · exact (h.ok x hx).le (by omega)
    · exact hl
  · rw [List.map_set]
    rcases n with e | n
    · rw [e, set_same' hjm]
      exact h.nd
    · exact nd_set h.nd n
/-- a film as drawn and changed -/
structure Fi.Dr (B : Int) (N : Nat) (x : Fi) : Prop where
  w0 : 1 ≤ x.w
  w1 : x.w ≤ 64
  h0 : 1 ≤ x.h
  h1 : x.h ≤ 64
  n0 : 1 ≤ x.n
  n1 : x.n ≤ 10
  b0 : 0 ≤ x.b
  b1 : x.b ≤ 255
  ls : LsDr B N x.ls
theorem Fi.Dr.vd {B : Int} {N : Nat} {x : Fi} (h : x.Dr B N) (hN : N ≤ 16) : x.Vd :=
  ⟨h.w0, h.w1, h.h0, h.h1, h.n0, by have := h.n1; omega, h.b0, h.b1, Nat.le_trans h.ls.len hN, fun l hl => (h.ls.ok l hl).vd, h.ls.names⟩
def ck (k : Int) : Option Nat := some (if k > 450 then 111 else 109)
def spChanged (K : PySem.W.Frag) : Sp := fun vs H Q _ => ∃ (a : Addr) (ns : List Int) (k : Int) (v : V) (x : Fi) (B : Int) (N : Nat), vs = [.ref a, .int k, v] ∧ SqL K H a (ns.map V.int) ∧ 0 ≤ k ∧ FiV H v x ∧ x.Dr B N ∧ 8 ≤ B ∧ B ≤ 900 ∧ N ≤ 15 ∧ some 110 ∉ x.ls.map La.hd ∧ ck (k + 4) ∉ x.ls.map La.hd ∧
  ∀ v x' H', Ex H H' → FiV H' v x' → x'.Dr (B + 2) (N + 1) → x'.w = x.w → x'.h = x.h → x'.n = x.n → (∀ y ∈ x'.ls, y.hd ∈ x.ls.map La.hd ∨ y.name = "n" ∨ y.hd = ck (k + 4)) → Q v H'
theorem ok_l_changed {f : Addr} {fd : FuncData} (F : Fun K "_law_changed" "_law_changed" s_l_changed f fd) (T : Txt K mg) (D_l_draw : Def P w K mg base CX0 "_law_draw" 1 ["script", "k", "below"] (spDrawF K)) (D_l_layer : Def P w K mg base CX0 "_law_layer" 5 ["script", "k", "name"] (spLayerF K))
    (D_l_layer_like : Def P w K mg base CX0 "_law_layer_like" 5 ["script", "k", "layer"] (spLayerLike K)) : FnOk P w K mg base CX0 6 f fd ["script", "k", "parts"] (spChanged K) := by
  refine F.ok sc_l_changed (fun vs H Q E h => ?_) (fun cdv A outer s H vs Q E hr h => ?_)
  · obtain ⟨a, ns, k, v, x, B, N, rfl, _⟩ := h
    rfl
  · obtain ⟨a, ns, k, v, x, B, N, rfl, hS, k0, ⟨pa, L, us, rfl, hpa, hL, hP⟩, dr, B0, B1, N1, n110, nck, q⟩ := h
    have lu := hP.length
    have lN := dr.ls.len
    refine ⟨_, (pss_cons (ps_set (i := 3) sc_l_changed.nd rfl (by first | exact Or.inl rfl | exact Or.inr rfl) (pe_callTy (klist K) (by rfl) T.list_ bt_list (pa_cons (pe_ix (kixT K) (pv 2) pe_int (fun _ _ => rfl)) pa_nil)))
      (pss_cons (ps_set (i := 4) sc_l_changed.nd rfl (by first | exact Or.inl rfl | exact Or.inr rfl) (pe_ix (kixT K) (pv 2) pe_int (fun _ _ => rfl)))
      (pss_cons (ps_set (i := 5) sc_l_changed.nd rfl (by first | exact Or.inl rfl | exact Or.inr rfl) (pe_call D_l_draw.ok (hr.mono (by decide)) rfl D_l_draw.mgf D_l_draw.kp D_l_draw.b .nil pass0 (pa_cons (pv 0) (pa_cons (pv 1) (pa_cons pe_int pa_nil)))))
      (pss_cons (ps_set (i := 6) sc_l_changed.nd rfl (by first | exact Or.inl rfl | exact Or.inr rfl) (pe_call D_l_draw.ok (hr.mono (by decide)) rfl D_l_draw.mgf D_l_draw.kp D_l_draw.b .nil pass0 (pa_cons (pv 0) (pa_cons (pe_op op_add (pv 1) pe_int) (pa_cons (pe_callB (call_max2 rfl) (by rfl) T.max_ bt_max (pa_cons pe_int (pa_cons (pe_callB (klen K) (by rfl) T.len_ PySem.boot_len (pa_cons (pv 3) pa_nil)) pa_nil))) pa_nil)))))
      (pss_cut (ps_if (PW.pt (pw_or (pt_cmpR op_eq (pv 5) pe_int (nomark _)) (pw_or1 (pt_cmpR op_eq (pe_callB (klen K) (by rfl) T.len_ PySem.boot_len (pa_cons (pv 3) pa_nil)) pe_int (nomark _)))))
        (pss_one (ps_expr (pe_bm PySem.F.plainAttrs_list PySem.F.slot_list_insert PySem.F.type_list_insert mt_insert (pv 3) (pa_cons (pe_call D_l_draw.ok (hr.mono (by decide)) rfl D_l_draw.mgf D_l_draw.kp D_l_draw.b .nil pass0 (pa_cons (pv 0) (pa_cons (pe_op op_add (pv 1) pe_int) (pa_cons (pe_op op_add (pe_callB (klen K) (by rfl) T.len_ PySem.boot_len (pa_cons (pv 3) pa_nil)) pe_int) pa_nil)))) (pa_cons (pe_call D_l_layer.ok (hr.mono (by decide)) rfl D_l_layer.mgf D_l_layer.kp D_l_layer.b .nil pass0 (pa_cons (pv 0) (pa_cons (pe_op op_add (pv 1) pe_int) (pa_cons pe_str pa_nil)))) pa_nil)))))
        (pss_one (ps_if (pt_cmpR op_eq (pv 5) pe_int (nomark _))
          (pss_one (ps_expr (pe_bm PySem.F.plainAttrs_list PySem.F.slot_list_pop PySem.F.type_list_pop mt_popAt (pv 3) (pa_cons (pv 6) pa_nil))))
          (pss_one (ps_if (pt_cmpR op_eq (pv 5) pe_int (nomark _))
            (pss_one (ps_set (i := 3) sc_l_changed.nd rfl (by first | exact Or.inl rfl | exact Or.inr rfl) (pe_op op_cat (pe_slice (kslL K) (pv 3) (po_some (pv 6)) po_none) (pe_slice (kslL K) (pv 3) po_none (po_some (pv 6))))))
            (pss_one (ps_if (pt_cmpR op_eq (pv 5) pe_int (nomark _))
              (pss_one (ps_set (i := 4) sc_l_changed.nd rfl (by first | exact Or.inl rfl | exact Or.inr rfl) (pe_ix (kixL K) (pe_lst (pa_cons pe_int (pa_cons pe_int (pa_cons pe_int pa_nil)))) (pe_call D_l_draw.ok (hr.mono (by decide)) rfl D_l_draw.mgf D_l_draw.kp D_l_draw.b .nil pass0 (pa_cons (pv 0) (pa_cons (pe_op op_add (pv 1) pe_int) (pa_cons pe_int pa_nil)))) (fun _ _ => rfl))))
              (pss_one (ps_asg (pe_call D_l_layer_like.ok (hr.mono (by decide)) rfl D_l_layer_like.mgf D_l_layer_like.kp D_l_layer_like.b .nil pass0 (pa_cons (pv 0) (pa_cons (pe_op op_add (pv 1) pe_int) (pa_cons (pe_ix (kixL K) (pv 3) (pv 6) (fun _ _ => rfl)) pa_nil)))) (pg_sub (pv 3) (pv 6) set_list))))))))))
      (pss_one (ps_ret (pe_tup (pa_cons (pe_ix (kixT K) (pv 2) pe_int (fun _ _ => rfl)) (pa_cons (pe_ix (kixT K) (pv 2) pe_int (fun _ _ => rfl)) (pa_cons (pe_ix (kixT K) (pv 2) pe_int (fun _ _ => rfl)) (pa_cons (pv 4) (pa_cons (pv 3) pa_nil))))))))))))), ?_⟩
    rw [start_nrm (Nat.le_of_ble_eq_true rfl)]; dsimp only [startL]
    refine ⟨_, rfl, pa, _, 4, _, rfl, rfl, SqT.of hpa, rfl, L, us, rfl, .inl (SqL.of hL), fun D hD => ?_⟩
    have e1 := Ex.new (o := .lst us) hD
    have g1 : upd H D (.lst us) D = some (.lst us) := upd_same
    generalize upd H D (.lst us) = H1 at e1 g1 ⊢
    dsimp only [List.set]
    have hpa1 := e1 _ _ hpa
    refine ⟨_, rfl, pa, _, 3, _, rfl, rfl, SqT.of hpa1, rfl, ?_⟩
    dsimp only [List.set]
    refine ⟨_, rfl, _, rfl, a, ns, k, 9, rfl, ex_l e1 hS, k0, by decide, by decide, fun kd kd0 kd1 => ?_⟩
    dsimp only [List.set]
    refine ⟨_, rfl, _, rfl, _, _, rfl, rfl, _, rfl, D, us, rfl, .inl (SqL.of g1), _, _, rfl, a, ns, k + 1, (if (us.length : Int) > 1 then (us.length : Int) else 1), rfl, ex_l e1 hS, by omega, by split <;> omega, by split <;> omega, fun at_ at0 at1 => ?_⟩
    dsimp only [List.set]
    have hP1 := Paired.mapP hP fun _ _ => LaV.tk (TK.ex e1)
    refine ⟨fun σ H' => Ex H H' ∧ ∃ (D' : Addr) (bg : Int) (us' : List V) (ls' : List La), σ = [some (.ref a), some (.int k), some (.ref pa), some (.ref D'), some (.int bg), some (.int kd), some (.int at_)] ∧ 0 ≤ bg ∧ bg ≤ 255 ∧ H' D' = some (.lst us') ∧ Paired (LaV H') us' ls' ∧ LsDr (B + 2) (N + 1) ls' ∧ ∀ y ∈ ls', y.hd ∈ x.ls.map La.hd ∨ y.name = "n" ∨ y.hd = ck (k + 4), ?_, ?_⟩
    · refine ⟨_, rfl, rfl, _, rfl, ?_⟩
      refine ite2 (fun _ => ?_) (fun _ => ?_)
      · refine iteT ?_
        refine ⟨_, rfl, .inl ⟨rfl, _, SqL.of g1⟩, ?_⟩
        refine ⟨_, rfl, _, rfl, _, _, rfl, rfl, _, rfl, D, us, rfl, .inl (SqL.of g1), _, _, rfl, rfl, a, ns, k + 2, (us.length : Int) + 1, rfl, ex_l e1 hS, by omega, by omega, by omega, fun m m0 m1 => ?_⟩
        refine ⟨_, rfl, _, rfl, _, _, rfl, rfl, a, ns, k + 4, "n", rfl, ex_l e1 hS, by omega, fun v l H2 e2 hv lo ln => ?_⟩
        refine ⟨D, us, m, v, rfl, rfl, e2 _ _ g1, slineL (by omega), m0, by omega, ?_⟩
        have P2 := Paired.mapP hP1 fun _ _ => LaV.tk (TK.ex e2)
        have tk := TK.lst (o := .lst (us.take m.toNat ++ [v] ++ us.drop m.toNat)) (e2 _ _ g1)
        have hh : l.hd = some 110 := by unfold La.hd; rw [ln]; decide +kernel
        obtain ⟨i1, i2⟩ := dr.ls.insert (lo.dr (by rw [ln]; decide +kernel) (by omega)) (by rw [hh]; exact n110) m.toNat
        refine ⟨(e1.trans e2).mut hD, D, x.b, _, _, rfl, dr.b0, dr.b1, upd_same, Paired.mapP (pr_append (pr_append (pr_take m.toNat P2) (.cons hv .nil)) (pr_drop m.toNat P2)) fun _ _ => LaV.tk tk, i1, fun y hy => (i2 y hy).elim (fun m => .inl (List.mem_map_of_mem m)) fun e => .inr (.inl (by rw [e]; exact ln))⟩
      refine ⟨_, rfl, D, us, rfl, .inl (SqL.of g1), rfl, _, rfl, ?_⟩
      refine ite2 (fun _ => ?_) (fun c2 => ?_)
      · refine ⟨_, rfl, .inl ⟨rfl, _, SqL.of g1⟩, ?_⟩
        refine ⟨_, rfl, _, rfl, _, _, rfl, rfl, _, rfl, D, us, rfl, .inl (SqL.of g1), _, _, rfl, rfl, a, ns, k + 2, (us.length : Int) + 1, rfl, ex_l e1 hS, by omega, by omega, by omega, fun m m0 m1 => ?_⟩
        refine ⟨_, rfl, _, rfl, _, _, rfl, rfl, a, ns, k + 4, "n", rfl, ex_l e1 hS, by omega, fun v l H2 e2 hv lo ln => ?_⟩
        refine ⟨D, us, m, v, rfl, rfl, e2 _ _ g1, slineL (by omega), m0, by omega, ?_⟩
        have P2 := Paired.mapP hP1 fun _ _ => LaV.tk (TK.ex e2)
        have tk := TK.lst (o := .lst (us.take m.toNat ++ [v] ++ us.drop m.toNat)) (e2 _ _ g1)
        have hh : l.hd = some 110 := by unfold La.hd; rw [ln]; decide +kernel
        obtain ⟨i1, i2⟩ := dr.ls.insert (lo.dr (by rw [ln]; decide +kernel) (by omega)) (by rw [hh]; exact n110) m.toNat
        refine ⟨(e1.trans e2).mut hD, D, x.b, _, _, rfl, dr.b0, dr.b1, upd_same, Paired.mapP (pr_append (pr_append (pr_take m.toNat P2) (.cons hv .nil)) (pr_drop m.toNat P2)) fun _ _ => LaV.tk tk, i1, fun y hy => (i2 y hy).elim (fun m => .inl (List.mem_map_of_mem m)) fun e => .inr (.inl (by rw [e]; exact ln))⟩
      have c2 : ¬ us.length = 0 := fun z => c2 (decide_eq_true (by rw [z]; rfl))
      have hat : at_ < us.length := by
        split at at1 <;> omega
      obtain ⟨j, rfl⟩ := Int.eq_ofNat_of_zero_le at0
      have hj : j < us.length := by omega
      have huj : us[j]? = some us[j] := List.getElem?_eq_getElem hj
      generalize us[j] = uv at huj
      obtain ⟨lj, hlj, hljv⟩ := pr_get hP1 huj
      refine ⟨_, rfl, rfl, _, rfl, ?_⟩
      refine ite2 (fun _ => ?_) (fun _ => ?_)
      · refine ⟨_, rfl, .inl ⟨rfl, _, SqL.of g1⟩, ?_⟩
        refine ⟨_, rfl, D, us, (j : Int), j, uv, rfl, rfl, g1, by omega, by omega, PySem.seqIndex_of (by omega) (by omega), huj, ?_⟩
        have tk := TK.lst (o := .lst (us.eraseIdx j)) g1
        obtain ⟨i1, i2⟩ := dr.ls.sub (List.eraseIdx_sublist x.ls j)
        exact ⟨e1.mut hD, D, x.b, _, _, rfl, dr.b0, dr.b1, upd_same, Paired.mapP (pr_eraseN j hP1) fun _ _ => LaV.tk tk, i1, fun y hy => .inl (List.mem_map_of_mem (i2 y hy))⟩
      refine ⟨_, rfl, rfl, _, rfl, ?_⟩
      refine ite2 (fun _ => ?_) (fun _ => ?_)
      · refine ⟨_, rfl, _, rfl, _, rfl, D, us, rfl, SqL.of g1, fun p hp => ?_⟩
        have f2 := Ex.new (o := .lst (cutV us (some (j : Int)) none)) hp
        have g2 : upd H1 p (.lst (cutV us (some (j : Int)) none)) p = some (.lst (cutV us (some (j : Int)) none)) := upd_same
        generalize upd H1 p (.lst (cutV us (some (j : Int)) none)) = H2 at f2 g2 ⊢
        refine ⟨_, rfl, _, rfl, _, rfl, D, us, rfl, SqL.of (f2 _ _ g1), fun p2 hp2 => ?_⟩
        have f3 := Ex.new (o := .lst (cutV us none (some (j : Int)))) hp2
        have g3 : upd H2 p2 (.lst (cutV us none (some (j : Int)))) p2 = some (.lst (cutV us none (some (j : Int)))) := upd_same
        generalize upd H2 p2 (.lst (cutV us none (some (j : Int)))) = H3 at f3 g3 ⊢
        have g23 := f3 _ _ g2
        rw [cutV_take (by omega)] at g3
        rw [cutV_drop (by omega)] at g23
        refine ⟨p, p2, _, _, rfl, rfl, g23, g3, Nat.le_of_lt (slineL (by rw [List.length_drop, List.length_take]; omega)), fun r hr => ?_⟩
        have f4 := Ex.new (o := .lst (us.drop j ++ us.take j)) hr
        have f14 := (f2.trans f3).trans f4
        have P4 := Paired.mapP hP1 fun _ _ => LaV.tk (TK.ex f14)
        obtain ⟨i1, i2⟩ := dr.ls.perm (ms := x.ls.drop j ++ x.ls.take j) (List.perm_append_comm.trans (List.Perm.of_eq (List.take_append_drop j x.ls)))
        exact ⟨e1.trans f14, r, x.b, _, _, rfl, dr.b0, dr.b1, upd_same, pr_append (pr_drop j P4) (pr_take j P4), i1, fun y hy => .inl (List.mem_map_of_mem (i2 y hy))⟩
      refine ⟨_, rfl, rfl, _, rfl, ?_⟩
      refine ite2 (fun _ => ?_) (fun _ => ?_)
      · refine ⟨(by show 3 ≤ sizeLine; decide), fun l hl => ?_⟩
        have f2 := Ex.new (o := .lst [.int 0, .int 255, .int 78]) hl
        have g2 : upd H1 l (.lst [.int 0, .int 255, .int 78]) l = some (.lst ([0, 255, 78].map V.int)) := upd_same
        generalize upd H1 l (.lst [.int 0, .int 255, .int 78]) = H2 at f2 g2 ⊢
        refine ⟨_, rfl, _, rfl, _, _, rfl, rfl, a, ns, k + 2, 3, rfl, ex_l (e1.trans f2) hS, by omega, by decide, by decide, fun m m0 m1 => ?_⟩
        obtain ⟨b, hb, exb⟩ := pickI (ns := [0, 255, 78]) m0 m1
        simp only [List.mem_cons, List.not_mem_nil, or_false] at hb
        refine ⟨l, _, m, _, rfl, rfl, SqL.of g2, exb, ?_⟩
        obtain ⟨i1, i2⟩ := dr.ls.sub (List.Sublist.refl x.ls)
        exact ⟨e1.trans f2, D, b, us, x.ls, rfl, by omega, by omega, f2 _ _ g1, Paired.mapP hP1 fun _ _ => LaV.tk (TK.ex f2), i1, fun y hy => .inl (List.mem_map_of_mem (i2 y hy))⟩
      refine ⟨_, rfl, _, rfl, _, _, rfl, rfl, _, rfl, _, rfl, D, us, (j : Int), uv, rfl, rfl, SqL.of g1, atI_nat huj, ?_⟩
      refine ⟨a, ns, k + 4, uv, lj, B, rfl, ex_l e1 hS, by omega, hljv, dr.ls.ok lj (List.mem_of_getElem? hlj), B0, B1, fun v l' H2 e2 hv dl nl => ?_⟩
      have hn : l'.hd = lj.hd ∨ l'.hd = ck (k + 4) := nl.elim (fun e => .inl (by unfold La.hd; rw [e])) .inr
      obtain ⟨i1, i2⟩ := dr.ls.set hlj dl (hn.imp_right fun e => by rw [e]; exact nck)
      have P2 := Paired.mapP hP1 fun _ _ => LaV.tk (TK.ex e2)
      refine ⟨_, rfl, _, rfl, D, us, (j : Int), j, rfl, rfl, e2 _ _ g1, by unfold ixN; rw [if_pos (by omega), if_pos (by omega)]; rfl, ?_⟩
      have tk := TK.lst (o := .lst (us.set j v)) (e2 _ _ g1)
      refine ⟨(e1.trans e2).mut hD, D, x.b, _, _, rfl, dr.b0, dr.b1, upd_same, Paired.mapP (pr_setN j P2 hv) fun _ _ => LaV.tk tk, i1, fun y hy => ?_⟩
      rcases i2 y hy with z | rfl
      · exact .inl (List.mem_map_of_mem z)
      · rcases hn with e | e
        · refine .inl ?_
          rw [e]
          exact List.mem_map_of_mem (List.mem_of_getElem? hlj)
        · exact .inr (.inr e)
    · rintro σ H2 ⟨e2, D', bg, us', ls', rfl, bg0, bg1, hD', hP', dr', hh⟩
      have hpa2 := e2 _ _ hpa
      refine ⟨_, rfl, pa, _, 0, _, rfl, rfl, SqT.of hpa2, rfl, _, rfl, pa, _, 1, _, rfl, rfl, SqT.of hpa2, rfl, _, rfl, pa, _, 2, _, rfl, rfl, SqT.of hpa2, rfl, _, rfl, _, rfl, (by show 5 ≤ sizeLine; decide), fun t ht => ?_⟩
      have f3 := Ex.new (o := .tup [.int x.w, .int x.h, .int x.n, .int bg, .ref D']) ht
      exact q (.ref t) ⟨x.w, x.h, x.n, bg, ls'⟩ _ (e2.trans f3) ⟨t, D', us', rfl, upd_same, f3 _ _ hD', Paired.mapP hP' fun _ _ => LaV.tk (TK.ex f3)⟩ ⟨dr.w0, dr.w1, dr.h0, dr.h1, dr.n0, dr.n1, bg0, bg1, dr'⟩ rfl rfl rfl hh
theorem eqvAll_inj {α : Type} {f : α → PyData} (h : ∀ x y, PyData.eqv (f x) (f y) = true → x = y) : ∀ {xs ys : List α}, PyData.eqvAll (xs.map f) (ys.map f) = true → xs = ys
  | [], [], _ => rfl
  | [], y :: ys, e => by simp [PyData.eqvAll] at e
  | x :: xs, [], e => by simp [PyData.eqvAll] at e
  | x :: xs, y :: ys, e => by
    rw [List.map_cons, List.map_cons, PyData.eqvAll, Bool.and_eq_true] at e
    rw [h x y e.1, eqvAll_inj h e.2]
theorem int_inj (x y : Int) (h : PyData.eqv (.int x) (.int y) = true) : x = y := by
  rw [eqs_int.1] at h
  exact of_decide_eq_true h
theorem pc_inj {p q : Pc} (h : PyData.eqv (pcD p) (pcD q) = true) : p = q := by
  unfold pcD at h
  simp only [PyData.eqv, PyData.eqvAll, Bool.and_true, Bool.and_eq_true] at h
  obtain ⟨h1, h2, h3, h4⟩ := h
  cases p
  cases q
  congr
  · simpa using h1
  · simpa using h2
  · exact eqvAll_inj int_inj h3
  · exact eqvAll_inj int_inj h4
theorem pa_inj {p q : Pa} (h : PyData.eqv p.D q.D = true) : p = q := by
  cases p with
  | solid x =>
    cases q with
    | solid y =>
      simp only [Pa.D, PyData.eqv, PyData.eqvAll, Bool.and_true, Bool.and_eq_true] at h
      have := h.2
      rw [show x = y by simpa using this]
    | steps a b c => simp [Pa.D, PyData.eqv, PyData.eqvAll] at h
    | pic p => simp [Pa.D, PyData.eqv, PyData.eqvAll, pcD] at h
  | steps a b c =>
    cases q with
    | solid y => simp [Pa.D, PyData.eqv, PyData.eqvAll] at h
    | steps a' b' c' =>
      simp only [Pa.D, PyData.eqv, PyData.eqvAll, Bool.and_true, Bool.and_eq_true] at h
      obtain ⟨_, h1, h2, h3⟩ := h
      rw [show a = a' by simpa using h1, show b = b' by simpa using h2, show c = c' by simpa using h3]
    | pic p => simp [Pa.D, PyData.eqv, PyData.eqvAll] at h
  | pic p =>
    cases q with
    | solid y => simp [Pa.D, PyData.eqv, PyData.eqvAll, pcD] at h
    | steps a b c => simp [Pa.D, PyData.eqv, PyData.eqvAll] at h
    | pic r =>
      simp only [Pa.D, PyData.eqv, PyData.eqvAll, Bool.and_true, Bool.and_eq_true] at h
      have h2 : PyData.eqv (pcD p) (pcD r) = true := by
        unfold pcD
        simp only [PyData.eqv, PyData.eqvAll, Bool.and_true, Bool.and_eq_true]
        simpa [pcD, PyData.eqv, PyData.eqvAll] using h.2
      rw [pc_inj h2]
theorem op_inj {p q : Option Pa} (h : PyData.eqv (opD p) (opD q) = true) : p = q := by
  cases p with
  | none =>
    cases q with
    | none => rfl
    | some q => cases q <;> simp [opD, Pa.D, PyData.eqv] at h
  | some p =>
    cases q with
    | none => cases p <;> simp [opD, Pa.D, PyData.eqv] at h
    | some q => rw [pa_inj h]
theorem md_inj {m n : Md} (h : PyData.eqv m.D n.D = true) : m = n := by
  cases m <;> cases n <;> first
    | rfl
    | exact absurd h (by decide +kernel)
    | (simp [Md.D, PyData.eqv, PyData.eqvAll] at h; done)
    | (simp only [Md.D, PyData.eqv, PyData.eqvAll, Bool.and_true, Bool.and_eq_true] at h
       have := h.2
       congr
       simpa using this)
theorem optPt_inj {p q : Option Pt} (h : PyData.eqv (optPtD p) (optPtD q) = true) : p = q := by
  cases p with
  | none =>
    cases q with
    | none => rfl
    | some q => simp [optPtD, ptD, intD, PyData.eqv] at h
  | some p =>
    cases q with
    | none => simp [optPtD, ptD, intD, PyData.eqv] at h
    | some q =>
      have h : PyData.eqv (ptD p) (ptD q) = true := h
      rw [eqs_pt.1] at h
      rw [of_decide_eq_true h]
theorem se_inj (s t : En ⊕ Int) (h : PyData.eqv (seD s) (seD t) = true) : s = t := by
  cases s with
  | inl e =>
    cases t with
    | inl f =>
      have h : PyData.eqv (enD e) (enD f) = true := h
      unfold enD at h
      rw [PyData.eqv, PyData.eqvAll, PyData.eqvAll, PyData.eqvAll, PyData.eqvAll, PyData.eqvAll] at h
      simp only [Bool.and_true, Bool.and_eq_true] at h
      obtain ⟨h1, h2, h3, h4⟩ := h
      have g1 := op_inj h1
      have g2 := optPt_inj h2
      have g3 := int_inj _ _ h3
      have g4 := md_inj h4
      cases e
      cases f
      simp only at g1 g2 g3 g4
      rw [g1, g2, g3, g4]
    | inr b => simp [seD, enD, PyData.eqv] at h
  | inr b =>
    cases t with
    | inl f => simp [seD, enD, PyData.eqv] at h
    | inr c => rw [int_inj b c h]
theorem stk_inj {s t : List (En ⊕ Int)} (h : PyData.eqv (stkD s) (stkD t) = true) : s = t := by
  unfold stkD at h
  rw [PyData.eqv] at h
  exact eqvAll_inj se_inj h
/-- other names of the layers -/
def Fi.ren (x : Fi) : Fi := ⟨x.w, x.h, x.n, x.b, x.ls.map fun l => ⟨"z" ++ l.name, l.box, l.ms, l.wh, l.cs⟩⟩
theorem ren_items (x : Fi) (f : Int) : x.ren.items f = x.items f := by
  show (x.ls.map _).filterMap _ = _
  rw [List.filterMap_map]
  rfl
theorem ren_stack (x : Fi) (f px py : Int) : x.ren.stack f px py = x.stack f px py := by
  unfold Fi.stack Fi.sheets
  rw [ren_items]
  rfl
theorem z_cps (n : Str) : ("z" ++ n : Str).cps.toList = 122 :: n.cps.toList := by
  show (("z" : Str).cps ++ n.cps).toList = _
  rw [Array.toList_append]
  rfl
theorem z_inj {a b : Str} (h : ("z" ++ a : Str) = "z" ++ b) : a = b := by
  have e := congrArg (fun s : Str => s.cps.toList) h
  simp only [z_cps] at e
  have e2 := List.cons.inj e
  cases a
  cases b
  congr
  exact Array.toList_inj.mp e2.2
theorem zname_ok {i : Nat} {n : Str} (h : NameOk i n) : nameS ("z" ++ n) = true := by
  obtain ⟨c, t, hc, ht, rfl⟩ := h
  have hm : c ∈ ghijkl.cps.toList := List.mem_of_getElem? hc
  have hg : ghijkl.cps.toList = [103, 104, 105, 106, 107, 108] := by decide +kernel
  rw [hg] at hm
  unfold tails4 at ht
  simp only [List.mem_cons, List.not_mem_nil, or_false] at hm ht
  rcases hm with rfl | rfl | rfl | rfl | rfl | rfl <;> rcases ht with rfl | rfl | rfl | rfl <;> decide +kernel
theorem ren_vd {x : Fi} (h : x.Ok) : x.ren.Vd := by
  have k := h.vd
  refine ⟨k.w0, k.w1, k.h0, k.h1, k.n0, k.n1, k.b0, k.b1, by show (x.ls.map _).length ≤ 16; rw [List.length_map]; exact k.len, fun l hl => ?_, ?_⟩
  · obtain ⟨l0, h0, rfl⟩ := List.mem_map.mp hl
    obtain ⟨i, hi⟩ := List.getElem?_of_mem h0
    obtain ⟨a, b, c, d, e⟩ := k.ok l0 h0
    exact ⟨zname_ok (h.ok i l0 hi).2, b, c, d, e⟩
  · show ((x.ls.map _).map La.name).Nodup
    rw [List.map_map]
    have e : (La.name ∘ fun l : La => (⟨"z" ++ l.name, l.box, l.ms, l.wh, l.cs⟩ : La)) = (fun n : Str => "z" ++ n) ∘ La.name := rfl
    rw [e, ← List.map_map]
    have nd := k.nd
    rw [List.Nodup, List.pairwise_map]
    exact List.Pairwise.imp (fun hne z => hne (z_inj z)) nd
theorem ok_dr {x : Fi} (h : x.Ok) : x.Dr 8 5 := by
  refine ⟨h.w0, h.w1, h.h0, h.h1, h.n0, h.n1, h.b0, h.b1, ⟨fun l hl => ?_, ?_, h.len⟩⟩
  · obtain ⟨i, hi⟩ := List.getElem?_of_mem hl
    obtain ⟨k1, k2⟩ := h.ok i l hi
    exact k1.dr (name_ok k2) (by decide)
  · rw [List.Nodup, List.pairwise_iff_getElem]
    intro i j hi hj hij e
    rw [List.length_map] at hi hj
    rw [List.getElem_map, List.getElem_map] at e
    have n1 := (h.ok i _ (List.getElem?_eq_getElem hi)).2
    have n2 := (h.ok j _ (List.getElem?_eq_getElem hj)).2
    have f1 := name_first n1
    have f2 := name_first n2
    unfold La.hd hdS at e
    rw [List.head?_eq_getElem?, List.head?_eq_getElem?, f1, f2] at e
    have hg : ghijkl.cps.toList = [103, 104, 105, 106, 107, 108] := by decide +kernel
    obtain ⟨c, _, hc, _⟩ := n1
    have li := (List.getElem?_eq_some_iff.mp hc).1
    rw [hg] at e li
    have := (List.getElem?_inj li (by decide)).mp e
    omega
theorem ok_heads {x : Fi} (h : x.Ok) {c : Nat} (hc : 108 < c) : some c ∉ x.ls.map La.hd := fun z => by
  obtain ⟨l, hl, e⟩ := List.mem_map.mp z
  obtain ⟨i, hi⟩ := List.getElem?_of_mem hl
  have f1 := name_first (h.ok i l hi).2
  unfold La.hd hdS at e
  rw [List.head?_eq_getElem?, f1] at e
  have hm := List.mem_of_getElem? e
  have hg : ghijkl.cps.toList = [103, 104, 105, 106, 107, 108] := by decide +kernel
  rw [hg] at hm
  simp only [List.mem_cons, List.not_mem_nil, or_false] at hm
  omega
abbrev s_is_rectangle : Stmt := top 73
theorem sc_is_rectangle : FnScope ["value", "left", "top", "right", "bottom", "item"] ["value"] (defScope s_is_rectangle) := ⟨rfl, rfl, rfl, by decide +kernel, rfl, by decide +kernel, by decide +kernel⟩
/-- the answer of is_rectangle -/
def rectL : List V → Bool
  | [.int l, .int t, .int r, .int b] => decide (l < r) && decide (t < b)
  | _ => false
def rectV (H : Hp) : V → Bool
  | .ref a => match H a with
    | some (.tup xs) => rectL xs
    | _ => false
  | _ => false
theorem rectV_tup {H : Hp} {a : Addr} {xs : List V} (h : H a = some (.tup xs)) : rectV H (.ref a) = rectL xs := by
  simp only [rectV, h]
theorem rectL_len {xs : List V} (h : xs.length ≠ 4) : rectL xs = false := by
  unfold rectL
  split
  · exact absurd rfl h
  · rfl
theorem rectL_int {xs : List V} (h : xs.all isI = false) : rectL xs = false := by
  unfold rectL
  split
  · simp [isI] at h
  · rfl
theorem Kn.notup {H : Hp} {v : V} {T : String} (k : Kn H v T) (h : isA T "tuple" = false) : rectV H v = false := by
  cases k with
  | tup h1 => exact absurd h (by decide +kernel)
  | lst h1 =>
    simp only [rectV, h1]
  | _ => rfl
theorem Kn.istup {H : Hp} {v : V} {T : String} (k : Kn H v T) (h : isA T "tuple" = true) : ∃ a xs, v = .ref a ∧ H a = some (.tup xs) := by
  cases k with
  | tup h1 => exact ⟨_, _, rfl, h1⟩
  | non => exact absurd h (by decide +kernel)
  | bl b => exact absurd h (by decide +kernel)
  | int i => exact absurd h (by decide +kernel)
  | str x => exact absurd h (by decide +kernel)
  | lst h1 => exact absurd h (by decide +kernel)
theorem all_isI : ∀ {xs : List V}, xs.all isI = true → ∃ ns : List Int, xs = ns.map V.int
  | [], _ => ⟨[], rfl⟩
  | x :: xs, h => by
    rw [List.all_cons, Bool.and_eq_true] at h
    obtain ⟨ns, e⟩ := all_isI h.2
    cases x with
    | int i => exact ⟨i :: ns, by rw [e]; rfl⟩
    | _ => simp [isI] at h
theorem four {α : Type} {xs : List α} (h : xs.length = 4) : ∃ a b c d, xs = [a, b, c, d] := by
  match xs, h with
  | [a, b, c, d], _ => exact ⟨a, b, c, d, rfl⟩
/-- what is passed: a value of a known kind; the items of a tuple, too -/
def Item (H : Hp) (v : V) : Prop := (∃ T, Kn H v T) ∧ ∀ a xs, v = .ref a → H a = some (.tup xs) → ∀ x ∈ xs, ∃ T, Kn H x T
def spRect : Sp := fun vs H Q _ => ∃ v, vs = [v] ∧ Item H v ∧ ∀ H', Ex H H' → Q (.bl (rectV H v)) H'
theorem ok_is_rectangle {f : Addr} {fd : FuncData} (F : Fun K "is_rectangle" "is_rectangle" s_is_rectangle f fd) (T : Txt K mg) (D_is_whole : Def P w K mg base CX0 "is_whole" 1 ["value"] spWhole) : FnOk P w K mg base CX0 2 f fd ["value"] spRect := by
  refine F.ok sc_is_rectangle (fun vs H Q E h => ?_) (fun cdv A outer s H vs Q E hr h => ?_)
  · obtain ⟨v, rfl, _⟩ := h
    rfl
  · obtain ⟨v, rfl, ⟨⟨T', kn⟩, ki⟩, q⟩ := h
    refine ⟨_, (pss_cons (ps_if (PW.pt (pw_or (pt_not (pt_val (pe_callB (kisi K) (by rfl) T.isinstance_ bt_isinstance (pa_cons (pv 0) (pa_cons (pe_bltn (v := .ty "tuple") (by rfl) T.tuple_ bt_tuple rfl) pa_nil))))) (pw_or1 (pt_cmpR op_ne (pe_callB (klen K) (by rfl) T.len_ PySem.boot_len (pa_cons (pv 0) pa_nil)) pe_int (nomark _)))))
        (pss_one (ps_ret pe_bl))
        pss_nil)
      (pss_cons (ps_if (pt_not (pt_val (pe_callB (kall K rfl) (by rfl) T.all_ bt_all (pa_cons (pe_lc (own := [("item", 5)]) (tt := tYes) rfl sc_is_rectangle.nd (kpiT K (pv 0)) (blkOk_by (N := ["value", "left", "top", "right", "bottom", "item"]) (sc := defScope s_is_rectangle) (by decide +kernel)) (fun _ _ _ _ _ => (pg_name (i := 5) sc_is_rectangle.nd rfl (by first | exact Or.inl rfl | exact Or.inr rfl))) (fun _ _ _ _ _ => pts_nil) (fun _ _ _ _ _ => (pe_call D_is_whole.ok (hr.mono (by decide)) rfl D_is_whole.mgf D_is_whole.kp D_is_whole.b .nil pass0 (pa_cons (pv 5) pa_nil)))) pa_nil))))
        (pss_one (ps_ret pe_bl))
        pss_nil)
      (pss_cons (ps_asg (pv 0) (kpgT K (n := 4) rfl (pgs_cons (pg_name (i := 1) sc_is_rectangle.nd rfl (by first | exact Or.inl rfl | exact Or.inr rfl)) (pgs_cons (pg_name (i := 2) sc_is_rectangle.nd rfl (by first | exact Or.inl rfl | exact Or.inr rfl)) (pgs_cons (pg_name (i := 3) sc_is_rectangle.nd rfl (by first | exact Or.inl rfl | exact Or.inr rfl)) (pgs_cons (pg_name (i := 4) sc_is_rectangle.nd rfl (by first | exact Or.inl rfl | exact Or.inr rfl)) pgs_nil))))))
      (pss_one (ps_ret (pe_and (pe_cmpR op_lt (pv 1) (pv 3) (nomark _)) (pe_one (pe_cmpR op_lt (pv 2) (pv 4) (nomark _))))))))), ?_⟩
    refine ⟨v, rfl, v, _, _, _, _, rfl, .ty _, kn.ty, kit_ty (kit_tuple kn), _, rfl, ?_⟩
    cases ct : isA T' "tuple" with
    | false =>
      rw [kn.notup ct] at q
      refine iteT ?_
      exact iteT (q _ (Ex.refl _))
    | true =>
      obtain ⟨a, xs, rfl, ha⟩ := kn.istup ct
      rw [rectV_tup ha] at q
      refine iteF ?_
      refine ⟨_, rfl, a, xs, rfl, .inr (SqT.of ha), rfl, _, rfl, ?_⟩
      by_cases h4 : xs.length = 4
      · have e4 : decide (V.int (xs.length : Int) = V.int 4) = true := decide_eq_true (by rw [h4]; rfl)
        rw [e4]
        refine iteF ?_
        refine ⟨_, rfl, a, rfl, ⟨xs, SqT.of ha⟩, fun D hD => lc_tup (xs := xs) (fun i H' => Ex H H' ∧ H' D = some (.lst (((xs.take i).map isI).map V.bl))) ⟨Ex.new hD, upd_same⟩ (fun i H' _ p => SqT.of (p.1 _ _ ha)) ?_ ?_⟩
        · intro i x H' hx p
          refine ⟨rfl, ?_⟩
          refine lcY ?_
          obtain ⟨Tx, kx⟩ := ki a xs rfl ha x (List.mem_of_getElem? hx)
          refine ⟨x, rfl, x, Tx, rfl, kx.mono p.1, ?_⟩
          have hl : (xs.take i).length ≤ 4 := by rw [List.length_take]; omega
          refine ⟨_, p.2, ?_, p.1.mut hD, ?_⟩
          · rw [List.length_map, List.length_map]
            exact Nat.lt_of_le_of_lt hl (by decide)
          · rw [upd_same, List.take_add_one, hx]
            simp
        · intro H' p
          rw [List.take_length] at p
          refine ⟨D, xs.map isI, rfl, SqL.of p.2, _, rfl, ?_⟩
          have ea : (xs.map isI).all id = xs.all isI := by rw [List.all_map]; rfl
          rw [ea]
          cases hall : xs.all isI with
          | false =>
            rw [rectL_int hall] at q
            refine iteT ?_
            exact q _ p.1
          | true =>
            refine iteF ?_
            obtain ⟨ns, rfl⟩ := all_isI hall
            rw [List.length_map] at h4
            obtain ⟨l, t, r, b, rfl⟩ := four h4
            refine ⟨_, rfl, a, _, rfl, SqT.of (p.1 _ _ ha), rfl, _, _, rfl, _, _, rfl, _, _, rfl, _, _, rfl, rfl, ?_⟩
            refine ⟨_, rfl, _, rfl, _, _, rfl, rfl, _, rfl, ?_⟩
            refine ite2 (fun e => ?_) (fun e => ?_)
            · refine ⟨_, rfl, _, rfl, _, _, rfl, rfl, ?_⟩
              have q2 := q _ p.1
              have e2 : rectL (List.map V.int [l, t, r, b]) = decide (t < b) := by
                show (decide (l < r) && decide (t < b)) = decide (t < b)
                rw [e, Bool.true_and]
              rw [e2] at q2
              exact q2
            · have q2 := q _ p.1
              have e2 : rectL (List.map V.int [l, t, r, b]) = false := by
                show (decide (l < r) && decide (t < b)) = false
                rw [eq_false_of_ne_true e, Bool.false_and]
              rw [e2] at q2
              exact q2
      · have e4 : decide (V.int (xs.length : Int) = V.int 4) = false := decide_eq_false (fun e => h4 (by injection e with e; omega))
        rw [e4]
        rw [rectL_len h4] at q
        refine iteT ?_
        exact q _ (Ex.refl _)
abbrev s_FilmErr : Stmt := clsDef (top 1)
theorem sc_FilmErr : FnScope ["self", "word", "place"] ["self", "word", "place"] (defScope s_FilmErr) := ⟨rfl, rfl, rfl, by decide +kernel, rfl, by decide +kernel, by decide +kernel⟩
theorem ok_FilmErr {f : Addr} {fd : FuncData} (F : FunD K "__init__" "FilmError.__init__" (defArgs s_FilmErr) (defBody s_FilmErr) (defScope s_FilmErr) [.non] [] f fd) {D fD : Addr} (FT : FilmTxt K mg D fD) : FnOk P w K mg base CX0 1 f fd ["self", "word", "place"] (spErrInit K) := by
  refine F.ok sc_FilmErr (fun vs H Q E h => ?_) (fun cdv A outer s H vs Q E hr h => ?_)
  · obtain ⟨a, C, wd, p, rfl, _⟩ := h
    rfl
  · obtain ⟨a, C, wd, p, rfl, T, ha, nw, np, q⟩ := h
    refine ⟨_, pss_cons (ps_expr (pe_veinit rfl FT.ve FT.vi (pa_cons (pv 0) (pa_cons (pv 1) pa_nil)))) (pss_cons (ps_ost (pv 0) (pv 1)) (pss_one (ps_ost (pv 0) (pv 2)))), ?_⟩
    refine ⟨_, rfl, _, rfl, a, C, [wd], rfl, (by show 1 ≤ 1000; decide), T, ha, ?_⟩
    refine ⟨_, rfl, _, rfl, a, C, rfl, T, nw, .inl ⟨ha, fun dx hd hne => ?_⟩⟩
    refine ⟨_, rfl, _, rfl, a, C, rfl, T, np, .inr ⟨dx, [("word", wd)], upd_same, by rw [upd_ne hne]; exact upd_same, (by show 1 ≤ 900; decide), ?_⟩⟩
    refine q dx _ hd hne (by rw [upd_ne (Ne.symm hne)]; exact upd_same) upd_same fun b n1 n2 => ?_
    rw [upd_ne n2, upd_ne n1, upd_ne n2]
theorem binds_FilmErr {f : Addr} {fd : FuncData} (F : FunD K "__init__" "FilmError.__init__" (defArgs s_FilmErr) (defBody s_FilmErr) (defScope s_FilmErr) [.non] [] f fd) : Binds K fd ["self", "word", "place"] [] := by
  obtain ⟨ds, r, b⟩ := F.binds1 (ps := ["self", "word", "place"]) 3 1 (by simp) rfl fun T kV doc pm an cdv ct us its hu hi => match us, hu, its, hi with | [_, _, _], _, [_], _ => ⟨_, rfl, rfl⟩
  cases r
  exact b
abbrev s_BadRectangle : Stmt := clsDef (top 10)
theorem sc_BadRectangle : FnScope ["self", "place"] ["self", "place"] (defScope s_BadRectangle) := ⟨rfl, rfl, rfl, by decide +kernel, rfl, by decide +kernel, by decide +kernel⟩
theorem ok_BadRectangle {f : Addr} {fd : FuncData} (F : FunD K "__init__" "BadRectangle.__init__" (defArgs s_BadRectangle) (defBody s_BadRectangle) (defScope s_BadRectangle) [.non] [] f fd) {D fD : Addr} {fdD : FuncData} (FT : FilmTxt K mg D fD)
    (G : FnOk P w K mg base CX0 1 fD fdD ["self", "word", "place"] (spErrInit K)) (kf : PySem.W.keepIn K (.ref fD) = true) (b : Binds K fdD ["self", "word", "place"] []) : FnOk P w K mg base CX0 2 f fd ["self", "place"] (spKind K "BadRectangle") := by
  refine F.ok sc_BadRectangle (fun vs H Q E h => ?_) (fun cdv A outer s H vs Q E hr h => ?_)
  · obtain ⟨a, C, p, rfl, _⟩ := h
    rfl
  · obtain ⟨a, C, p, rfl, T, ha, nw, np, q⟩ := h
    refine ⟨_, pss_one (ps_expr (pe_binit G (hr.mono (by decide)) rfl FT.g FT.rd FT.ga FT.fa kf b .nil pass0 (pa_cons (pv 0) (pa_cons pe_str (pa_cons (pv 1) pa_nil))))), ?_⟩
    exact ⟨_, rfl, _, rfl, a, C, .str "BadRectangle", p, rfl, T, ha, nw, np, fun dx H' h1 h2 h3 h4 h5 => q dx H' h1 h2 h3 h4 h5⟩
theorem binds_BadRectangle {f : Addr} {fd : FuncData} (F : FunD K "__init__" "BadRectangle.__init__" (defArgs s_BadRectangle) (defBody s_BadRectangle) (defScope s_BadRectangle) [.non] [] f fd) : (∃ ds, Vals [.non] ds ∧ Binds K fd ["self", "place"] ds) ∧ Binds K fd ["self", "place"] [] := by
  refine ⟨F.binds1 (ps := ["self", "place"]) 1 0 (by simp) rfl fun T kV doc pm an cdv ct us its hu hi => match us, hu, its, hi with | [_], _, [_], _ => ⟨_, rfl, rfl⟩, ?_⟩
  obtain ⟨ds, r, b⟩ := F.binds1 (ps := ["self", "place"]) 2 1 (by simp) rfl fun T kV doc pm an cdv ct us its hu hi => match us, hu, its, hi with | [_, _], _, [_], _ => ⟨_, rfl, rfl⟩
  cases r
  exact b
abbrev s_steps_of : Stmt := top 79
theorem sc_steps_of : FnScope ["rectangles", "steps", "end", "left", "top", "right", "bottom"] ["rectangles"] (defScope s_steps_of) := ⟨rfl, rfl, rfl, by decide +kernel, rfl, by decide +kernel, by decide +kernel⟩
def spStepsOf (K : PySem.W.Frag) : Sp := fun vs H Q _ => ∃ a us fm, vs = [.ref a] ∧ SqL K H a us ∧ RcsV H us fm ∧ fm.length ≤ 900000 ∧
  ∀ p ws H', H p = none → Ex H H' → H' p = some (.lst ws) → StsV H' ws (stepsF fm) → (stepsF fm).length ≤ 2 * fm.length + 1 → (∀ z ∈ stepsF fm, z.2.length ≤ 2 * fm.length) → Q (.ref p) H'
theorem rstep_len {st : RSt} {q : Rc} {n : Nat} (h : st.1.length ≤ 2 * n) (k : ∀ z ∈ st.1, z.2.length ≤ 2 * n) : (rstep st q).1.length ≤ 2 * (n + 1) ∧ ∀ z ∈ (rstep st q).1, z.2.length ≤ 2 * (n + 1) := by
  unfold rstep
  split
  · rename_i hl
    unfold addL
    cases hg : st.1.getLast? with
    | none => exact ⟨by show st.1.length ≤ _; omega, fun z hz => by have := k z hz; omega⟩
    | some s =>
      have hs := k s (List.mem_of_getLast? hg)
      refine ⟨?_, fun z hz => ?_⟩
      · show (st.1.dropLast ++ [(s.1, s.2 ++ [q.l, q.r])]).length ≤ _
        rw [List.length_append, List.length_dropLast]
        simp
        omega
      · have hz : z ∈ st.1.dropLast ++ [(s.1, s.2 ++ [q.l, q.r])] := hz
        rcases List.mem_append.mp hz with w | w
        · have := k z (List.dropLast_subset _ w)
          omega
        · rw [List.mem_singleton.mp w]
          show (s.2 ++ [q.l, q.r]).length ≤ _
          rw [List.length_append]
          simp
          omega
  · have hg : (gap st.2 q.t).length ≤ 1 ∧ ∀ z ∈ gap st.2 q.t, z.2.length = 0 := by
      unfold gap
      split
      · split
        · exact ⟨Nat.le_refl _, fun z hz => by rw [List.mem_singleton.mp hz]; rfl⟩
        · exact ⟨Nat.zero_le _, fun z hz => by simp at hz⟩
      · exact ⟨Nat.zero_le _, fun z hz => by simp at hz⟩
    refine ⟨?_, fun z hz => ?_⟩
    · show (st.1 ++ gap st.2 q.t ++ [(q.t, [q.l, q.r])]).length ≤ _
      rw [List.length_append, List.length_append]
      have := hg.1
      simp
      omega
    · have hz : z ∈ st.1 ++ gap st.2 q.t ++ [(q.t, [q.l, q.r])] := hz
      rcases List.mem_append.mp hz with w | w
      · rcases List.mem_append.mp w with w | w
        · have := k z w
          omega
        · rw [hg.2 z w]
          omega
      · rw [List.mem_singleton.mp w]
        simp
        omega
/-- the steps so far: the last one's list may change -/
def StM (D L : Addr) (H : Hp) (v : V) (s : Stp) : Prop := ∃ p M, v = .ref p ∧ H p = some (.tup [.int s.1, .ref M]) ∧ M ≠ D ∧ M ≠ L ∧ H M = some (.lst (s.2.map V.int))
theorem StM.ex {D L : Addr} {H H' : Hp} {v : V} {s : Stp} (e : Ex H H') (h : StM D L H v s) : StM D L H' v s := by
  obtain ⟨p, M, rfl, h1, n, n2, h2⟩ := h
  exact ⟨p, M, rfl, e _ _ h1, n, n2, e _ _ h2⟩
theorem StM.mut {D L : Addr} {H : Hp} {v : V} {s : Stp} {xs : List V} {o : HO} (hD : H D = some (.lst xs)) (h : StM D L H v s) : StM D L (upd H D o) v s := by
  obtain ⟨p, M, rfl, h1, n, n2, h2⟩ := h
  refine ⟨p, M, rfl, TK.lst hD _ _ h1, n, n2, ?_⟩
  rw [upd_ne n]
  exact h2
theorem StM.mutL {D L : Addr} {H : Hp} {v : V} {s : Stp} {xs : List V} {o : HO} (hL : H L = some (.lst xs)) (h : StM D L H v s) : StM D L (upd H L o) v s := by
  obtain ⟨p, M, rfl, h1, n, n2, h2⟩ := h
  refine ⟨p, M, rfl, TK.lst hL _ _ h1, n, n2, ?_⟩
  rw [upd_ne n2]
  exact h2
def Rep (H0 : Hp) (D : Addr) (H : Hp) (ws : List V) (ss : List Stp) : Prop := (ss = [] ∧ ws = []) ∨ ∃ ws0 ss0 p L y es, ws = ws0 ++ [.ref p] ∧ ss = ss0 ++ [(y, es)] ∧ H p = some (.tup [.int y, .ref L]) ∧ H L = some (.lst ((es : List Int).map V.int)) ∧ L ≠ D ∧ H0 L = none ∧ Paired (StM D L H) ws0 ss0
theorem Rep.len {H0 : Hp} {D : Addr} {H : Hp} {ws : List V} {ss : List Stp} (h : Rep H0 D H ws ss) : ws.length = ss.length := by
  rcases h with ⟨rfl, rfl⟩ | ⟨ws0, ss0, p, L, y, es, rfl, rfl, _, _, _, _, hp⟩
  · rfl
  · rw [List.length_append, List.length_append, hp.length]
    rfl
theorem Rep.ex {H0 : Hp} {D : Addr} {H H' : Hp} {ws : List V} {ss : List Stp} (e : Ex H H') (h : Rep H0 D H ws ss) : Rep H0 D H' ws ss := by
  rcases h with h | ⟨ws0, ss0, p, L, y, es, rfl, rfl, h1, h2, h3, h4, hp⟩
  · exact .inl h
  · exact .inr ⟨ws0, ss0, p, L, y, es, rfl, rfl, e _ _ h1, e _ _ h2, h3, h4, Paired.mapP hp fun _ _ => StM.ex e⟩
theorem Rep.snoc {H0 : Hp} {D : Addr} {H G : Hp} {ws xs : List V} {ss : List Stp} {p L : Addr} {y : Int} {es : List Int} (o : HO) (h : Rep H0 D H ws ss) (e : Ex H G) (hD : G D = some (.lst xs)) (hLn : H L = none) (hL0 : H0 L = none) (hL : G L = some (.lst (es.map V.int))) (hLD : L ≠ D) (hp : G p = some (.tup [.int y, .ref L])) :
    Rep H0 D (upd G D o) (ws ++ [.ref p]) (ss ++ [(y, es)]) := by
  refine .inr ⟨ws, ss, p, L, y, es, rfl, rfl, TK.lst hD _ _ hp, by rw [upd_ne hLD]; exact hL, hLD, hL0, ?_⟩
  rcases h with ⟨rfl, rfl⟩ | ⟨ws0, ss0, p0, L0, y0, es0, rfl, rfl, h1, h2, h3, h4, hp0⟩
  · exact .nil
  · have ne : ∀ {M : Addr} {u : HO}, H M = some u → M ≠ L := fun hM z => by
      rw [z, hLn] at hM
      cases hM
    refine (Paired.mapP hp0 fun v s hs => ?_).snoc ?_
    · obtain ⟨q, M, rfl, g1, g2, g3, g4⟩ := hs
      exact StM.mut hD (StM.ex e ⟨q, M, rfl, g1, g2, ne g4, g4⟩)
    · exact StM.mut hD (StM.ex e ⟨p0, L0, rfl, h1, h3, ne h2, h2⟩)
theorem Rep.st {H0 : Hp} {D : Addr} {H : Hp} {ws : List V} {ss : List Stp} (h : Rep H0 D H ws ss) : StsV H ws ss := by
  rcases h with ⟨rfl, rfl⟩ | ⟨ws0, ss0, p, L, y, es, rfl, rfl, h1, h2, h3, h4, hp⟩
  · exact .nil
  · exact (Paired.mapP hp fun v s hs => by
      obtain ⟨q, M, rfl, g1, _, _, g4⟩ := hs
      exact ⟨q, M, rfl, g1, g4⟩).snoc ⟨p, L, rfl, h1, h2⟩
def endV : Option Int → V
  | none => .non
  | some e => .int e
theorem fold_len : ∀ {fm : List Rc} {i : Nat} {q : Rc}, fm[i]? = some q → (fm.take (i + 1)).foldl rstep ([], none) = rstep ((fm.take i).foldl rstep ([], none)) q := fun {fm i q} h => by
  rw [List.take_add_one, h, List.foldl_append]
  rfl
theorem fold_bound (fm : List Rc) : ∀ i, i ≤ fm.length → ((fm.take i).foldl rstep ([], none)).1.length ≤ 2 * i ∧ ∀ z ∈ ((fm.take i).foldl rstep ([], none)).1, z.2.length ≤ 2 * i
  | 0, _ => ⟨Nat.le_refl _, fun z hz => by simp at hz⟩
  | i + 1, h => by
    have hi : i < fm.length := h
    rw [fold_len (List.getElem?_eq_getElem hi)]
    obtain ⟨h1, h2⟩ := fold_bound fm i (by omega)
    exact rstep_len h1 h2
theorem ok_steps_of {f : Addr} {fd : FuncData} (F : Fun K "_steps_of" "_steps_of" s_steps_of f fd) (T : Txt K mg) : FnOk P w K mg base CX0 1 f fd ["rectangles"] (spStepsOf K) := by
  refine F.ok sc_steps_of (fun vs H Q E h => ?_) (fun cdv A outer s H vs Q E hr h => ?_)
  · obtain ⟨a, us, fm, rfl, _⟩ := h
    rfl
  · obtain ⟨a, us, fm, rfl, hS, hq, hn, q⟩ := h
    refine ⟨_, (pss_cons (ps_set (i := 1) sc_steps_of.nd rfl (by first | exact Or.inl rfl | exact Or.inr rfl) (pe_lst pa_nil))
      (pss_cons (ps_set (i := 2) sc_steps_of.nd rfl (by first | exact Or.inl rfl | exact Or.inr rfl) pe_non)
      (pss_cons (ps_for PassesOwn.never rfl (kpiL K (pv 0)) (kpgT K (n := 4) rfl (pgs_cons (pg_name (i := 3) sc_steps_of.nd rfl (by first | exact Or.inl rfl | exact Or.inr rfl)) (pgs_cons (pg_name (i := 4) sc_steps_of.nd rfl (by first | exact Or.inl rfl | exact Or.inr rfl)) (pgs_cons (pg_name (i := 5) sc_steps_of.nd rfl (by first | exact Or.inl rfl | exact Or.inr rfl)) (pgs_cons (pg_name (i := 6) sc_steps_of.nd rfl (by first | exact Or.inl rfl | exact Or.inr rfl)) pgs_nil)))))
        (pss_cons (ps_if (PW.pt (pw_and (ktru K (pv 1)) (pw_and1 (pt_cmpR op_eq (pe_ix (kixT K) (pe_ix (kixL K) (pv 1) (pe_un un_neg pe_int) (fun _ _ => rfl)) pe_int (fun _ _ => rfl)) (pv 4) (nomark _)))))
          (pss_cons (ps_expr (pe_bm PySem.F.plainAttrs_list PySem.F.slot_list_extend PySem.F.type_list_extend mt_extend (pe_ix (kixT K) (pe_ix (kixL K) (pv 1) (pe_un un_neg pe_int) (fun _ _ => rfl)) pe_int (fun _ _ => rfl)) (pa_cons (pe_lst (pa_cons (pv 3) (pa_cons (pv 5) pa_nil))) pa_nil)))
          (pss_one ps_continue))
          pss_nil)
        (pss_cut (ps_if (PW.pt (pw_and (pt_cmpR op_notN (pv 2) pe_non (nomark _)) (pw_and1 (pt_cmpR op_lt (pv 2) (pv 4) (nomark _)))))
          (pss_one (ps_expr (pe_bm PySem.F.plainAttrs_list PySem.F.slot_list_append PySem.F.type_list_append mt_append (pv 1) (pa_cons (pe_tup (pa_cons (pv 2) (pa_cons (pe_lst pa_nil) pa_nil))) pa_nil))))
          pss_nil)
        (pss_cons (ps_expr (pe_bm PySem.F.plainAttrs_list PySem.F.slot_list_append PySem.F.type_list_append mt_append (pv 1) (pa_cons (pe_tup (pa_cons (pv 4) (pa_cons (pe_lst (pa_cons (pv 3) (pa_cons (pv 5) pa_nil))) pa_nil))) pa_nil)))
        (pss_one (ps_set (i := 2) sc_steps_of.nd rfl (by first | exact Or.inl rfl | exact Or.inr rfl) (pv 6)))))))
      (pss_cut (ps_if (pt_cmpR op_notN (pv 2) pe_non (nomark _))
        (pss_one (ps_expr (pe_bm PySem.F.plainAttrs_list PySem.F.slot_list_append PySem.F.type_list_append mt_append (pv 1) (pa_cons (pe_tup (pa_cons (pv 2) (pa_cons (pe_lst pa_nil) pa_nil))) pa_nil))))
        pss_nil)
      (pss_one (ps_ret (pv 1))))))), ?_⟩
    have hlen : us.length = fm.length := hq.length
    refine ⟨(by show 0 ≤ sizeLine; decide), fun D hD => ?_⟩
    have e1 := Ex.new (o := .lst []) hD
    have hD1 : upd H D (.lst []) D = some (.lst []) := upd_same
    generalize upd H D (.lst []) = H1 at e1 hD1
    refine ⟨_, rfl, a, rfl, ⟨_, ex_l e1 hS⟩, ?_⟩
    refine for_list (K := K) (a := a) (xs := us) (fun i σ H' => ∃ ws v3 v4 v5 v6, σ = [some (.ref a), some (.ref D), some (endV ((fm.take i).foldl rstep ([], none)).2), v3, v4, v5, v6] ∧ Ex H H' ∧ H' D = some (.lst ws) ∧ Rep H D H' ws ((fm.take i).foldl rstep ([], none)).1)
      ⟨[], _, _, _, _, rfl, e1, hD1, .inl ⟨rfl, rfl⟩⟩ (fun i σ H' _ p => by obtain ⟨_, _, _, _, _, _, h, _⟩ := p; exact ex_l h hS) ?_ ?_
    · rintro i u σ H' hu ⟨ws, v3, v4, v5, v6, rfl, e, hD', hR⟩
      obtain ⟨rc, hrc, pr, rfl, hp⟩ := pr_get hq hu
      have hi : i < fm.length := (List.getElem?_eq_some_iff.mp hrc).1
      have hwl := hR.len
      obtain ⟨bl, be⟩ := fold_bound fm i (by omega)
      rw [fold_len hrc]
      generalize (fm.take i).foldl rstep ([], none) = st at hR bl be hwl
      obtain ⟨ss, oe⟩ := st
      dsimp only at hR bl be hwl
      refine ⟨pr, _, rfl, SqT.of (e _ _ hp), rfl, _, _, rfl, _, _, rfl, _, _, rfl, _, _, rfl, rfl, ?_⟩
      -- a further run, or not
      have hlast : ∀ {ws0 : List V} {ss0 : List Stp} {y : Int} {es : List Int}, lastY (ss0 ++ [(y, es)]) = some y := fun {ws0 ss0 y es} => lastY_snoc _ _
      by_cases hl : lastY ss = some rc.t
      · rcases hR with ⟨rfl, rfl⟩ | ⟨ws0, ss0, p, L, y, es, rfl, rfl, h1, h2, h3, h4, hpd⟩
        · cases hl
        · have hy : y = rc.t := Option.some.inj ((lastY_snoc ss0 (y, es)).symm.trans hl)
          subst hy
          refine st_seq ?_
          refine st_yes ?_ ?_
          · intro Q' q'
            refine ⟨_, rfl, true, .inl ⟨_, SqL.of hD', by simp⟩, iteT ?_⟩
            refine ⟨_, rfl, _, rfl, D, _, _, .ref p, rfl, rfl, SqL.of hD', atI_last _ _, p, _, _, _, rfl, rfl, SqT.of h1, rfl, _, rfl, rfl, _, rfl, ?_⟩
            rw [decide_eq_true rfl]
            exact q'
          · refine ⟨_, rfl, _, rfl, D, _, _, .ref p, rfl, rfl, SqL.of hD', atI_last _ _, p, _, _, .ref L, rfl, rfl, SqT.of h1, rfl, .inl ⟨rfl, _, SqL.of h2⟩, ?_⟩
            refine ⟨_, rfl, _, rfl, (by show 2 ≤ sizeLine; decide), fun p2 hp2 => ?_⟩
            have f1 := Ex.new (o := .lst [.int rc.l, .int rc.r]) hp2
            have hp2' : upd H' p2 (.lst [.int rc.l, .int rc.r]) p2 = some (.lst [.int rc.l, .int rc.r]) := upd_same
            generalize upd H' p2 (.lst [.int rc.l, .int rc.r]) = G at f1 hp2'
            have hel := be (rc.t, es) (by simp)
            refine ⟨L, p2, _, _, rfl, rfl, f1 _ _ h2, hp2', sline2 (by rw [List.length_map]; dsimp only at hel; show es.length + 2 ≤ _; omega), ?_⟩
            have hst : rstep (ss0 ++ [(rc.t, es)], oe) rc = (ss0 ++ [(rc.t, es ++ [rc.l, rc.r])], oe) := by
              unfold rstep
              rw [if_pos hl]
              show (addL (ss0 ++ [(rc.t, es)]) [rc.l, rc.r], oe) = _
              rw [addL_snoc]
            rw [hst]
            refine ⟨_, _, _, _, _, rfl, (e.trans f1).mut h4, ?_, .inr ⟨ws0, ss0, p, L, rc.t, es ++ [rc.l, rc.r], rfl, rfl, TK.lst (f1 _ _ h2) _ _ (f1 _ _ h1), ?_, h3, h4, ?_⟩⟩
            · rw [upd_ne h3.symm]
              exact f1 _ _ hD'
            · rw [upd_same, List.map_append]
              rfl
            · exact Paired.mapP hpd fun _ _ z => StM.mutL (f1 _ _ h2) (StM.ex f1 z)
      · refine st_seq ?_
        refine st_no ?_ ?_
        · intro Q' q'
          rcases hR with ⟨rfl, rfl⟩ | ⟨ws0, ss0, p, L, y, es, rfl, rfl, h1, h2, h3, h4, hpd⟩
          · exact ⟨_, rfl, false, .inl ⟨_, SqL.of hD', rfl⟩, iteF q'⟩
          · have hy : y ≠ rc.t := fun z => hl (by rw [lastY_snoc, z])
            refine ⟨_, rfl, true, .inl ⟨_, SqL.of hD', by simp⟩, iteT ?_⟩
            refine ⟨_, rfl, _, rfl, D, _, _, .ref p, rfl, rfl, SqL.of hD', atI_last _ _, p, _, _, _, rfl, rfl, SqT.of h1, rfl, _, rfl, rfl, _, rfl, ?_⟩
            rw [decide_eq_false fun z => hy (V.int.inj z)]
            exact q'
        · have hst : rstep (ss, oe) rc = (ss ++ gap oe rc.t ++ [(rc.t, [rc.l, rc.r])], some rc.b) := by
            unfold rstep
            rw [if_neg hl]
          rw [hst]
          refine ⟨fun σ H2 => ∃ ws2, σ = [some (.ref a), some (.ref D), some (endV oe), some (.int rc.l), some (.int rc.t), some (.int rc.r), some (.int rc.b)] ∧ Ex H H2 ∧ H2 D = some (.lst ws2) ∧ Rep H D H2 ws2 (ss ++ gap oe rc.t), ?_, ?_⟩
          · cases oe with
            | none =>
              refine ⟨_, rfl, rfl, _, rfl, ?_⟩
              refine iteF ?_
              exact ⟨ws, rfl, e, hD', by rw [show gap none rc.t = [] from rfl, List.append_nil]; exact hR⟩
            | some e0 =>
              refine ⟨_, rfl, rfl, _, rfl, ?_⟩
              refine iteT ?_
              refine ⟨_, rfl, _, rfl, _, _, rfl, rfl, _, rfl, ?_⟩
              refine ite2 (fun c => ?_) (fun c => ?_)
              · have hg : gap (some e0) rc.t = [(e0, [])] := if_pos (of_decide_eq_true c)
                rw [hg]
                refine ⟨_, rfl, .inl ⟨rfl, _, SqL.of hD'⟩, _, rfl, (by show 0 ≤ sizeLine; decide), fun L hL => ?_⟩
                have f1 := Ex.new (o := .lst []) hL
                have hL1 : upd H' L (.lst []) L = some (.lst (([] : List Int).map V.int)) := upd_same
                have hLD : L ≠ D := fun z => by rw [z, hD'] at hL; cases hL
                generalize upd H' L (.lst []) = G1 at f1 hL1
                refine ⟨(by show 2 ≤ sizeLine; decide), fun p hp => ?_⟩
                have f2 := Ex.new (o := .tup [endV ((ss, some e0) : RSt).snd, .ref L]) hp
                have hp1 : upd G1 p (.tup [endV ((ss, some e0) : RSt).snd, .ref L]) p = some (.tup [.int e0, .ref L]) := upd_same
                generalize upd G1 p (.tup [endV ((ss, some e0) : RSt).snd, .ref L]) = G2 at f2 hp1
                have f12 := f1.trans f2
                refine ⟨D, ws, _, rfl, rfl, f12 _ _ hD', slineL2 (by omega), ?_⟩
                exact ⟨_, rfl, (e.trans f12).mut hD, upd_same, Rep.snoc _ hR f12 (f12 _ _ hD') hL (ex_free e hL) (f2 _ _ hL1) hLD hp1⟩
              · have hg : gap (some e0) rc.t = [] := if_neg (fun z => c (decide_eq_true z))
                rw [hg, List.append_nil]
                exact ⟨ws, rfl, e, hD', hR⟩
          · rintro σ H2 ⟨ws2, rfl, e2, hD2, hR2⟩
            have hw2 := hR2.len
            have hgl : (ss ++ gap oe rc.t).length ≤ 2 * i + 1 := by
              rw [List.length_append]
              have : (gap oe rc.t).length ≤ 1 := by
                unfold gap
                split
                · split
                  · exact Nat.le_refl _
                  · exact Nat.zero_le _
                · exact Nat.zero_le _
              omega
            refine ⟨_, rfl, .inl ⟨rfl, _, SqL.of hD2⟩, _, rfl, _, rfl, _, rfl, (by show 2 ≤ sizeLine; decide), fun L hL => ?_⟩
            have f1 := Ex.new (o := .lst [.int rc.l, .int rc.r]) hL
            have hL1 : upd H2 L (.lst [.int rc.l, .int rc.r]) L = some (.lst ([rc.l, rc.r].map V.int)) := upd_same
            have hLD : L ≠ D := fun z => by rw [z, hD2] at hL; cases hL
            generalize upd H2 L (.lst [.int rc.l, .int rc.r]) = G1 at f1 hL1
            refine ⟨(by show 2 ≤ sizeLine; decide), fun p hp => ?_⟩
            have f2 := Ex.new (o := .tup [.int rc.t, .ref L]) hp
            have hp1 : upd G1 p (.tup [.int rc.t, .ref L]) p = some (.tup [.int rc.t, .ref L]) := upd_same
            generalize upd G1 p (.tup [.int rc.t, .ref L]) = G2 at f2 hp1
            have f12 := f1.trans f2
            refine ⟨D, ws2, _, rfl, rfl, f12 _ _ hD2, slineL2 (by omega), ?_⟩
            refine ⟨_, rfl, ?_⟩
            exact ⟨_, _, _, _, _, rfl, (e2.trans f12).mut hD, upd_same, Rep.snoc _ hR2 f12 (f12 _ _ hD2) hL (ex_free e2 hL) (f2 _ _ hL1) hLD hp1⟩
    · rintro σ H' ⟨ws, v3, v4, v5, v6, rfl, e, hD', hR⟩
      rw [hlen, List.take_length] at hR
      obtain ⟨bl, be⟩ := fold_bound fm fm.length (Nat.le_refl _)
      rw [List.take_length] at bl be
      have hF : stepsF fm = fin (fm.foldl rstep ([], none)) := rfl
      rw [hF] at q
      rw [hlen, List.take_length]
      generalize fm.foldl rstep ([], none) = st at hR bl be q
      obtain ⟨ss, oe⟩ := st
      dsimp only at hR bl be
      refine ⟨fun σ H2 => ∃ ws2, σ = [some (.ref a), some (.ref D), some (endV oe), v3, v4, v5, v6] ∧ Ex H H2 ∧ H2 D = some (.lst ws2) ∧ Rep H D H2 ws2 (fin (ss, oe)), ?_, ?_⟩
      · have hwl := hR.len
        cases oe with
        | none =>
          refine ⟨_, rfl, rfl, _, rfl, ?_⟩
          refine iteF ?_
          exact ⟨ws, rfl, e, hD', hR⟩
        | some e0 =>
          refine ⟨_, rfl, rfl, _, rfl, ?_⟩
          refine iteT ?_
          refine ⟨_, rfl, .inl ⟨rfl, _, SqL.of hD'⟩, _, rfl, (by show 0 ≤ sizeLine; decide), fun L hL => ?_⟩
          have f1 := Ex.new (o := .lst []) hL
          have hL1 : upd H' L (.lst []) L = some (.lst (([] : List Int).map V.int)) := upd_same
          have hLD : L ≠ D := fun z => by rw [z, hD'] at hL; cases hL
          generalize upd H' L (.lst []) = G1 at f1 hL1
          refine ⟨(by show 2 ≤ sizeLine; decide), fun p hp => ?_⟩
          have f2 := Ex.new (o := .tup [endV ((ss, some e0) : RSt).snd, .ref L]) hp
          have hp1 : upd G1 p (.tup [endV ((ss, some e0) : RSt).snd, .ref L]) p = some (.tup [.int e0, .ref L]) := upd_same
          generalize upd G1 p (.tup [endV ((ss, some e0) : RSt).snd, .ref L]) = G2 at f2 hp1
          have f12 := f1.trans f2
          refine ⟨D, ws, _, rfl, rfl, f12 _ _ hD', slineL2 (by omega), ?_⟩
          exact ⟨_, rfl, (e.trans f12).mut hD, upd_same, Rep.snoc _ hR f12 (f12 _ _ hD') hL (ex_free e hL) (f2 _ _ hL1) hLD hp1⟩
      · rintro σ H2 ⟨ws2, rfl, e2, hD2, hR2⟩
        refine ⟨_, rfl, ?_⟩
        refine q D ws2 H2 hD e2 hD2 hR2.st ?_ ?_
        · cases oe with
          | none => show ss.length ≤ _; omega
          | some e0 =>
            show (ss ++ [(e0, [])]).length ≤ _
            rw [List.length_append]
            simp
            omega
        · intro z hz
          cases oe with
          | none => exact be z hz
          | some e0 =>
            have hz : z ∈ ss ++ [(e0, [])] := hz
            rcases List.mem_append.mp hz with w | w
            · exact be z w
            · rw [List.mem_singleton.mp w]
              exact Nat.zero_le _
abbrev s_edges_behind : Stmt := top 77
theorem sc_edges_behind : FnScope ["steps", "passed"] ["steps", "passed"] (defScope s_edges_behind) := ⟨rfl, rfl, rfl, by decide +kernel, rfl, by decide +kernel, by decide +kernel⟩
def spBehind : Sp := fun vs H Q _ => ∃ a us ss m, vs = [.ref a, .int ((m : Nat) : Int)] ∧ H a = some (.lst us) ∧ StsV H us ss ∧ m ≤ ss.length ∧ ∀ L H', Ex H H' → H' L = some (.lst ((eb ss m).map V.int)) → Q (.ref L) H'
theorem ok_edges_behind {f : Addr} {fd : FuncData} (F : Fun K "_edges_behind" "_edges_behind" s_edges_behind f fd) (T : Txt K mg) : FnOk P w K mg base CX0 1 f fd ["steps", "passed"] spBehind := by
  refine F.ok sc_edges_behind (fun vs H Q E h => ?_) (fun cdv A outer s H vs Q E hr h => ?_)
  · obtain ⟨a, us, ss, m, rfl, _⟩ := h
    rfl
  · obtain ⟨a, us, ss, m, rfl, ha, hu, hm, q⟩ := h
    refine ⟨_, (pss_cons (ps_if (pt_cmpR op_eq (pv 1) pe_int (nomark _))
        (pss_one (ps_ret (pe_lst pa_nil)))
        pss_nil)
      (pss_one (ps_ret (pe_ix (kixT K) (pe_ix (kixL K) (pv 0) (pe_op op_sub (pv 1) pe_int) (fun _ _ => rfl)) pe_int (fun _ _ => rfl))))), ?_⟩
    refine ⟨_, rfl, rfl, _, rfl, ?_⟩
    refine ite2 (fun c => ?_) (fun c => ?_)
    · have e : m = 0 := by
        have := of_decide_eq_true c
        injection this with this
        omega
      subst e
      exact ⟨(by show 0 ≤ sizeLine; decide), fun L hL => q L _ (Ex.new hL) upd_same⟩
    · have e : m ≠ 0 := fun z => c (by rw [z]; rfl)
      obtain ⟨k, rfl⟩ : ∃ k, m = k + 1 := ⟨m - 1, by omega⟩
      have hk : k < ss.length := by omega
      obtain ⟨v, hv, p, L, rfl, h1, h2⟩ := pr_getR hu (List.getElem?_eq_getElem hk)
      refine ⟨_, rfl, _, rfl, _, _, rfl, rfl, ?_⟩
      have ei : (((k + 1 : Nat) : Int) - 1) = ((k : Nat) : Int) := by omega
      refine ⟨a, us, _, .ref p, rfl, rfl, SqL.of ha, by rw [ei]; exact atI_nat hv, ?_⟩
      refine ⟨p, _, _, _, rfl, rfl, SqT.of h1, rfl, ?_⟩
      refine q L H (Ex.refl _) ?_
      rw [h2]
      unfold eb
      rw [if_neg (by omega), Nat.add_sub_cancel, List.getD_eq_getElem?_getD, List.getElem?_eq_getElem hk]
      rfl
abbrev s_combined_edges : Stmt := top 78
theorem sc_combined_edges : FnScope ["first", "second", "kept", "edges", "in_first", "in_second", "x", "inside"] ["first", "second", "kept"] (defScope s_combined_edges) := ⟨rfl, rfl, rfl, by decide +kernel, rfl, by decide +kernel, by decide +kernel⟩
def spEdges (K : PySem.W.Frag) : Sp := fun vs H Q _ => ∃ a b c f s kf, vs = [.ref a, .ref b, .ref c] ∧ H a = some (.lst (f.map V.int)) ∧ H b = some (.lst (s.map V.int)) ∧ SqT K H c (keptV kf) ∧ kf false false = false ∧ EvE f ∧ EvE s ∧ f.length ≤ 4000000 ∧ s.length ≤ 4000000 ∧
  ∀ p es H', H p = none → Ex H H' → H' p = some (.lst (es.map V.int)) → Comb kf f s es → es.length ≤ f.length + s.length → Q (.ref p) H'
theorem ok_combined_edges {f : Addr} {fd : FuncData} (F : Fun K "_combined_edges" "_combined_edges" s_combined_edges f fd) (T : Txt K mg) : FnOk P w K mg base CX0 1 f fd ["first", "second", "kept"] (spEdges K) := by
  refine F.ok sc_combined_edges (fun vs H Q E h => ?_) (fun cdv A outer s H vs Q E hr h => ?_)
  · obtain ⟨a, b, c, f, s, kf, rfl, _⟩ := h
    rfl
  · obtain ⟨a, b, c, f, s, kf, rfl, ha, hb, hc, hk, hf, hs, lf, ls, q⟩ := h
    refine ⟨_, (pss_cons (ps_set (i := 3) sc_combined_edges.nd rfl (by first | exact Or.inl rfl | exact Or.inr rfl) (pe_lst pa_nil))
      (pss_cons (ps_asg2 pe_int (pg_name (i := 4) sc_combined_edges.nd rfl (by first | exact Or.inl rfl | exact Or.inr rfl)) (pg_name (i := 5) sc_combined_edges.nd rfl (by first | exact Or.inl rfl | exact Or.inr rfl)))
      (pss_cons (ps_for PassesOwn.never rfl (kpiL K (pe_callB (ksorted K) (by rfl) T.sorted_ bt_sorted (pa_cons (pe_op op_cat (pv 0) (pv 1)) pa_nil))) (pg_name (i := 6) sc_combined_edges.nd rfl (by first | exact Or.inl rfl | exact Or.inr rfl))
        (pss_cut (ps_if (PW.pt (pw_and (pt_cmpR op_lt (pv 4) (pe_callB (klen K) (by rfl) T.len_ PySem.boot_len (pa_cons (pv 0) pa_nil)) (nomark _)) (pw_and1 (pt_cmpR op_eq (pe_ix (kixL K) (pv 0) (pv 4) (fun _ _ => rfl)) (pv 6) (nomark _)))))
          (pss_one (ps_aug (i := 4) sc_combined_edges.nd rfl (by first | exact Or.inl rfl | exact Or.inr rfl) pe_int ip_add))
          pss_nil)
        (pss_cut (ps_if (PW.pt (pw_and (pt_cmpR op_lt (pv 5) (pe_callB (klen K) (by rfl) T.len_ PySem.boot_len (pa_cons (pv 1) pa_nil)) (nomark _)) (pw_and1 (pt_cmpR op_eq (pe_ix (kixL K) (pv 1) (pv 5) (fun _ _ => rfl)) (pv 6) (nomark _)))))
          (pss_one (ps_aug (i := 5) sc_combined_edges.nd rfl (by first | exact Or.inl rfl | exact Or.inr rfl) pe_int ip_add))
          pss_nil)
        (pss_cons (ps_set (i := 7) sc_combined_edges.nd rfl (by first | exact Or.inl rfl | exact Or.inr rfl) (pe_ix (kixT K) (pv 2) (pe_op op_add (pe_op op_mul pe_int (pe_op op_and (pv 4) pe_int)) (pe_op op_and (pv 5) pe_int)) (fun _ _ => rfl)))
        (pss_one (ps_if (pt_cmpR op_ne (pv 7) (pe_cmpR op_eq (pe_op op_and (pe_callB (klen K) (by rfl) T.len_ PySem.boot_len (pa_cons (pv 3) pa_nil)) pe_int) pe_int (nomark _)) (nomark _))
          (pss_one (ps_expr (pe_bm PySem.F.plainAttrs_list PySem.F.slot_list_append PySem.F.type_list_append mt_append (pv 3) (pa_cons (pv 6) pa_nil))))
          pss_nil))))))
      (pss_one (ps_ret (pv 3)))))), ?_⟩
    refine ⟨(by show 0 ≤ sizeLine; decide), fun D hD => ?_⟩
    have e1 := Ex.new (o := .lst []) hD
    refine ⟨_, rfl, _, rfl, a, b, _, _, rfl, rfl, e1 _ _ ha, e1 _ _ hb, sline2 (by rw [List.length_map, List.length_map]; omega), fun p1 hp1 => ?_⟩
    have e2 := Ex.new (o := .lst (f.map V.int ++ s.map V.int)) hp1
    refine ⟨p1, f ++ s, rfl, by rw [List.map_append]; exact SqL.of upd_same, fun l p2 perm srt hp2 => ?_⟩
    have e3 := Ex.new (o := .lst (l.map V.int)) hp2
    have hDp : D ≠ p2 := fun z => by
      have h1 := e2 _ _ (show upd H D (.lst []) D = some (.lst []) from upd_same)
      rw [← z, h1] at hp2
      cases hp2
    have hlen : l.length = f.length + s.length := by rw [perm.length_eq, List.length_append]
    have hD3 : upd (upd (upd H D (.lst [])) p1 (.lst (f.map V.int ++ s.map V.int))) p2 (.lst (l.map V.int)) D = some (.lst (([] : List Int).map V.int)) := e3 _ _ (e2 _ _ upd_same)
    have hp3 : upd (upd (upd H D (.lst [])) p1 (.lst (f.map V.int ++ s.map V.int))) p2 (.lst (l.map V.int)) p2 = some (.lst (l.map V.int)) := upd_same
    have e13 := (e1.trans e2).trans e3
    generalize upd (upd (upd H D (.lst [])) p1 (.lst (f.map V.int ++ s.map V.int))) p2 (.lst (l.map V.int)) = H3 at hD3 hp3 e13
    refine ⟨p2, rfl, ⟨_, SqL.of hp3⟩, ?_⟩
    refine for_list (K := K) (a := p2) (xs := l.map V.int) (fun i σ H' => ∃ k1 k2 es v6 v7, σ = [some (.ref a), some (.ref b), some (.ref c), some (.ref D), some (.int ((k1 : Nat) : Int)), some (.int ((k2 : Nat) : Int)), v6, v7] ∧ Ex H H' ∧ H' D = some (.lst ((es : List Int).map V.int)) ∧ H' p2 = some (.lst (l.map V.int)) ∧ CI kf f s (l.drop i) k1 k2 es ∧ es.length ≤ i)
      ⟨0, 0, [], _, _, rfl, e13, hD3, hp3, CI.start hk (fun e he => perm.mem_iff.mpr (List.mem_append_left _ he)) (fun e he => perm.mem_iff.mpr (List.mem_append_right _ he)), Nat.le_refl _⟩ (fun i σ H' _ p => by obtain ⟨_, _, _, _, _, _, _, _, h, _⟩ := p; exact SqL.of h) ?_ ?_
    · rintro i u σ H' hu ⟨k1, k2, es, v6, v7, rfl, e, hD', hp', ci, hel⟩
      rw [List.getElem?_map] at hu
      have hi : i < l.length := by
        cases hx : l[i]? with
        | none => rw [hx] at hu; cases hu
        | some z => exact (List.getElem?_eq_some_iff.mp hx).1
      rw [List.getElem?_eq_getElem hi] at hu
      cases hu
      rw [List.drop_eq_getElem_cons hi] at ci
      have srt' : ∀ z ∈ l.drop (i + 1), l[i] ≤ z := by
        have := srt.sublist (List.drop_sublist i l)
        rw [List.drop_eq_getElem_cons hi] at this
        exact (List.pairwise_cons.mp this).1
      have nx := ci.step hf.asc hs.asc srt'
      generalize l[i] = x at nx ⊢
      have ha' := e _ _ ha
      have hb' := e _ _ hb
      -- the first one
      refine ⟨fun σ H2 => H2 = H' ∧ σ = [some (.ref a), some (.ref b), some (.ref c), some (.ref D), some (.int ((nxt f k1 x : Nat) : Int)), some (.int ((k2 : Nat) : Int)), some (.int x), v7], ?_, ?_⟩
      · refine ⟨_, rfl, _, rfl, a, _, rfl, .inl (SqL.of ha'), _, _, rfl, rfl, _, rfl, ?_⟩
        rw [List.length_map]
        refine ite2 (fun c1 => ?_) (fun c1 => ?_)
        · have h1 : k1 < f.length := by
            have := of_decide_eq_true c1
            omega
          refine ⟨_, rfl, _, rfl, a, _, _, _, rfl, rfl, SqL.of ha', atI_nat (by rw [List.getElem?_map, List.getElem?_eq_getElem h1]; rfl), _, rfl, rfl, _, rfl, ?_⟩
          refine ite2 (fun c2 => ?_) (fun c2 => ?_)
          · have h2 : f[k1]? = some x := by
              rw [List.getElem?_eq_getElem h1]
              have := of_decide_eq_true c2
              injection this with this
              rw [this]
            refine ⟨_, rfl, _, _, rfl, rfl, rfl, ?_⟩
            rw [nxt_yes h2]
            rfl
          · refine ⟨rfl, ?_⟩
            rw [nxt_no fun z => c2 (by rw [List.getElem?_eq_getElem h1] at z; rw [Option.some.inj z]; exact decide_eq_true rfl)]
            rfl
        · refine ⟨rfl, ?_⟩
          rw [nxt_no fun z => c1 (decide_eq_true (by have := (List.getElem?_eq_some_iff.mp z).1; omega))]
          rfl
      rintro σ H2 ⟨rfl, rfl⟩
      -- the second one
      refine ⟨fun σ H3 => H3 = H2 ∧ σ = [some (.ref a), some (.ref b), some (.ref c), some (.ref D), some (.int ((nxt f k1 x : Nat) : Int)), some (.int ((nxt s k2 x : Nat) : Int)), some (.int x), v7], ?_, ?_⟩
      · refine ⟨_, rfl, _, rfl, b, _, rfl, .inl (SqL.of hb'), _, _, rfl, rfl, _, rfl, ?_⟩
        rw [List.length_map]
        refine ite2 (fun c1 => ?_) (fun c1 => ?_)
        · have h1 : k2 < s.length := by
            have := of_decide_eq_true c1
            omega
          refine ⟨_, rfl, _, rfl, b, _, _, _, rfl, rfl, SqL.of hb', atI_nat (by rw [List.getElem?_map, List.getElem?_eq_getElem h1]; rfl), _, rfl, rfl, _, rfl, ?_⟩
          refine ite2 (fun c2 => ?_) (fun c2 => ?_)
          · have h2 : s[k2]? = some x := by
              rw [List.getElem?_eq_getElem h1]
              have := of_decide_eq_true c2
              injection this with this
              rw [this]
            refine ⟨_, rfl, _, _, rfl, rfl, rfl, ?_⟩
            rw [nxt_yes (f := s) (k := k2) h2]
            rfl
          · refine ⟨rfl, ?_⟩
            rw [nxt_no (f := s) (k := k2) fun z => c2 (by rw [List.getElem?_eq_getElem h1] at z; rw [Option.some.inj z]; exact decide_eq_true rfl)]
        · refine ⟨rfl, ?_⟩
          rw [nxt_no (f := s) (k := k2) fun z => c1 (decide_eq_true (by have := (List.getElem?_eq_some_iff.mp z).1; omega))]
      rintro σ H3 ⟨rfl, rfl⟩
      -- inside
      refine ⟨_, rfl, _, rfl, _, _, rfl, rfl, _, _, rfl, rfl, .inl ⟨by decide, by decide⟩, _, rfl, _, _, rfl, rfl, _, _, rfl, rfl, ?_⟩
      refine ⟨c, _, _, _, rfl, rfl, ex_t e hc, by rw [and_one, and_one]; exact kept_at kf _ _, ?_⟩
      refine ⟨_, rfl, _, rfl, D, _, rfl, .inl (SqL.of hD'), _, _, rfl, rfl, rfl, rfl, _, rfl, ?_⟩
      show (if (!decide (V.bl (kf (odd (nxt f k1 x)) (odd (nxt s k2 x))) = V.bl (decide (V.int (Builtin.bitAnd ((((es.map V.int).length : Nat) : Int)) 1) = V.int 1)))) = true then _ else _)
      rw [List.length_map, and_one, odd_eq, dec_ne]
      refine ite2 (fun c3 => ?_) (fun c3 => ?_)
      · have hne : kf (odd (nxt f k1 x)) (odd (nxt s k2 x)) ≠ odd es.length := fun z => by
          rw [z] at c3
          simp at c3
        rw [if_neg hne] at nx
        refine ⟨_, rfl, .inl ⟨rfl, _, SqL.of hD'⟩, _, rfl, D, _, _, rfl, rfl, hD', slineL2 (by rw [List.length_map]; omega), ?_⟩
        refine ⟨nxt f k1 x, nxt s k2 x, es ++ [x], _, _, rfl, e.mut hD, ?_, ?_, nx, by rw [List.length_append]; simp; omega⟩
        · rw [upd_same, List.map_append]
          rfl
        · rw [upd_ne hDp.symm]
          exact hp'
      · have heq : kf (odd (nxt f k1 x)) (odd (nxt s k2 x)) = odd es.length := by
          revert c3
          cases kf (odd (nxt f k1 x)) (odd (nxt s k2 x)) <;> cases odd es.length <;> simp
        rw [if_pos heq] at nx
        exact ⟨nxt f k1 x, nxt s k2 x, es, _, _, rfl, e, hD', hp', nx, by omega⟩
    · rintro σ H' ⟨k1, k2, es, v6, v7, rfl, e, hD', hp', ci, hel⟩
      rw [List.length_map] at ci hel
      rw [List.drop_length] at ci
      refine ⟨_, rfl, ?_⟩
      exact q D es H' hD e hD' (ci.done hk hf hs) (by omega)
abbrev s_combined_steps : Stmt := top 76
theorem sc_combined_steps : FnScope ["first", "second", "kept", "steps", "latest", "in_first", "in_second", "y", "edges", "step"] ["first", "second", "kept"] (defScope s_combined_steps) := ⟨rfl, rfl, rfl, by decide +kernel, rfl, by decide +kernel, by decide +kernel⟩
def spSteps (K : PySem.W.Frag) : Sp := fun vs H Q _ => ∃ a b c ua ub f s kf, vs = [.ref a, .ref b, .ref c] ∧ H a = some (.lst ua) ∧ StsV H ua f ∧ H b = some (.lst ub) ∧ StsV H ub s ∧ SqT K H c (keptV kf) ∧ kf false false = false ∧ VS f ∧ VS s ∧ f.length ≤ 2000000 ∧ s.length ≤ 2000000 ∧
  (∀ z ∈ f, z.2.length ≤ 2000000) ∧ (∀ z ∈ s, z.2.length ≤ 2000000) ∧
  ∀ p us rs H', H p = none → Ex H H' → H' p = some (.lst us) → StsV H' us rs → VS rs → (∀ y, Comb kf (eFrom [] f y) (eFrom [] s y) (eFrom [] rs y)) → rs.length ≤ f.length + s.length → Q (.ref p) H'
theorem ok_combined_steps {f : Addr} {fd : FuncData} (F : Fun K "_combined_steps" "_combined_steps" s_combined_steps f fd) (T : Txt K mg) (D_edges_behind : Def P w K mg base CX0 "_edges_behind" 1 ["steps", "passed"] spBehind) (D_combined_edges : Def P w K mg base CX0 "_combined_edges" 1 ["first", "second", "kept"] (spEdges K)) : FnOk P w K mg base CX0 2 f fd ["first", "second", "kept"] (spSteps K) := by
  refine F.ok sc_combined_steps (fun vs H Q E h => ?_) (fun cdv A outer s H vs Q E hr h => ?_)
  · obtain ⟨a, b, c, ua, ub, f, s, kf, rfl, _⟩ := h
    rfl
  · obtain ⟨a, b, c, ua, ub, f, s, kf, rfl, ha, hua, hb, hub, hc, hk, hf, hs, lf, ls, mf, ms, q⟩ := h
    refine ⟨_, (pss_cons (ps_set (i := 3) sc_combined_steps.nd rfl (by first | exact Or.inl rfl | exact Or.inr rfl) (pe_lst pa_nil))
      (pss_cons (ps_set (i := 4) sc_combined_steps.nd rfl (by first | exact Or.inl rfl | exact Or.inr rfl) (pe_lst pa_nil))
      (pss_cons (ps_asg2 pe_int (pg_name (i := 5) sc_combined_steps.nd rfl (by first | exact Or.inl rfl | exact Or.inr rfl)) (pg_name (i := 6) sc_combined_steps.nd rfl (by first | exact Or.inl rfl | exact Or.inr rfl)))
      (pss_cons (ps_for PassesOwn.never rfl (kpiL K (pe_callB (ksorted K) (by rfl) T.sorted_ bt_sorted (pa_cons (pe_lc (own := [("step", 9)]) (tt := tYes) rfl sc_combined_steps.nd (kpiL K (pe_op op_cat (pv 0) (pv 1))) (blkOk_by (N := ["first", "second", "kept", "steps", "latest", "in_first", "in_second", "y", "edges", "step"]) (sc := defScope s_combined_steps) (by decide +kernel)) (fun _ _ _ _ _ => (pg_name (i := 9) sc_combined_steps.nd rfl (by first | exact Or.inl rfl | exact Or.inr rfl))) (fun _ _ _ _ _ => pts_nil) (fun _ _ _ _ _ => (pe_ix (kixT K) (pv 9) pe_int (fun _ _ => rfl)))) pa_nil))) (pg_name (i := 7) sc_combined_steps.nd rfl (by first | exact Or.inl rfl | exact Or.inr rfl))
        (pss_cut (ps_if (PW.pt (pw_and (pt_cmpR op_lt (pv 5) (pe_callB (klen K) (by rfl) T.len_ PySem.boot_len (pa_cons (pv 0) pa_nil)) (nomark _)) (pw_and1 (pt_cmpR op_eq (pe_ix (kixT K) (pe_ix (kixL K) (pv 0) (pv 5) (fun _ _ => rfl)) pe_int (fun _ _ => rfl)) (pv 7) (nomark _)))))
          (pss_one (ps_aug (i := 5) sc_combined_steps.nd rfl (by first | exact Or.inl rfl | exact Or.inr rfl) pe_int ip_add))
          pss_nil)
        (pss_cut (ps_if (PW.pt (pw_and (pt_cmpR op_lt (pv 6) (pe_callB (klen K) (by rfl) T.len_ PySem.boot_len (pa_cons (pv 1) pa_nil)) (nomark _)) (pw_and1 (pt_cmpR op_eq (pe_ix (kixT K) (pe_ix (kixL K) (pv 1) (pv 6) (fun _ _ => rfl)) pe_int (fun _ _ => rfl)) (pv 7) (nomark _)))))
          (pss_one (ps_aug (i := 6) sc_combined_steps.nd rfl (by first | exact Or.inl rfl | exact Or.inr rfl) pe_int ip_add))
          pss_nil)
        (pss_cons (ps_set (i := 8) sc_combined_steps.nd rfl (by first | exact Or.inl rfl | exact Or.inr rfl) (pe_call D_combined_edges.ok (hr.mono (by decide)) rfl D_combined_edges.mgf D_combined_edges.kp D_combined_edges.b .nil pass0 (pa_cons (pe_call D_edges_behind.ok (hr.mono (by decide)) rfl D_edges_behind.mgf D_edges_behind.kp D_edges_behind.b .nil pass0 (pa_cons (pv 0) (pa_cons (pv 5) pa_nil))) (pa_cons (pe_call D_edges_behind.ok (hr.mono (by decide)) rfl D_edges_behind.mgf D_edges_behind.kp D_edges_behind.b .nil pass0 (pa_cons (pv 1) (pa_cons (pv 6) pa_nil))) (pa_cons (pv 2) pa_nil)))))
        (pss_one (ps_if (pt_cmpR (kneD K hr.units) (pv 8) (pv 4) (nomark _))
          (pss_cons (ps_expr (pe_bm PySem.F.plainAttrs_list PySem.F.slot_list_append PySem.F.type_list_append mt_append (pv 3) (pa_cons (pe_tup (pa_cons (pv 7) (pa_cons (pv 8) pa_nil))) pa_nil)))
          (pss_one (ps_set (i := 4) sc_combined_steps.nd rfl (by first | exact Or.inl rfl | exact Or.inr rfl) (pv 8))))
          pss_nil))))))
      (pss_one (ps_ret (pv 3))))))), ?_⟩
    have hal := hua.length
    have hbl := hub.length
    refine ⟨(by show 0 ≤ sizeLine; decide), fun D hD => ?_⟩
    have e1 := Ex.new (o := .lst []) hD
    have hD1 : upd H D (.lst []) D = some (.lst []) := upd_same
    generalize upd H D (.lst []) = H1 at e1 hD1
    refine ⟨(by show 0 ≤ sizeLine; decide), fun L0 hL0 => ?_⟩
    have e2 := Ex.new (o := .lst []) hL0
    have hD2 := e2 _ _ hD1
    have hL2 : upd H1 L0 (.lst []) L0 = some (.lst []) := upd_same
    have hLD : L0 ≠ D := fun z => by rw [z, hD1] at hL0; cases hL0
    generalize upd H1 L0 (.lst []) = H2 at e2 hD2 hL2
    have e12 := e1.trans e2
    refine ⟨_, rfl, _, rfl, a, b, _, _, rfl, rfl, e12 _ _ ha, e12 _ _ hb, sline2 (by omega), fun p1 hp1 => ?_⟩
    have e3 := Ex.new (o := .lst (ua ++ ub)) hp1
    have hp1' : upd H2 p1 (.lst (ua ++ ub)) p1 = some (.lst (ua ++ ub)) := upd_same
    have hD3 := e3 _ _ hD2
    have hL3 := e3 _ _ hL2
    have e13 := e12.trans e3
    generalize upd H2 p1 (.lst (ua ++ ub)) = H3 at e3 hp1' hD3 hL3 e13
    have hall : StsV H3 (ua ++ ub) (f ++ s) := pr_append (hua.ex e13) (hub.ex e13)
    have hlen := hall.length
    refine ⟨p1, rfl, ⟨_, SqL.of hp1'⟩, fun D2 hD2n => ?_⟩
    refine lc_list (K := K) (a := p1) (xs := ua ++ ub) (fun i H' => Ex H3 H' ∧ H' D2 = some (.lst (((ysOf (f ++ s)).take i).map V.int))) ⟨Ex.new hD2n, upd_same⟩ (fun i H' _ p => SqL.of (p.1 _ _ hp1')) ?_ ?_
    · rintro i u H' hu ⟨e, hW⟩
      obtain ⟨st, hst, p, L, rfl, h1, h2⟩ := pr_get hall hu
      refine ⟨rfl, ?_⟩
      refine lcY ?_
      refine ⟨_, rfl, p, _, _, _, rfl, rfl, SqT.of (e _ _ h1), rfl, ?_⟩
      refine ⟨_, hW, slineL2 (by rw [List.length_map, List.length_take, ysOf_len, List.length_append]; omega), e.mut hD2n, ?_⟩
      rw [upd_same, List.take_add_one, ysOf_get hst, List.map_append]
      rfl
    rintro H4 ⟨e4, hW4⟩
    rw [hlen, ← ysOf_len, List.take_length] at hW4
    refine ⟨D2, ysOf (f ++ s), rfl, SqL.of hW4, fun l p3 perm srt hp3 => ?_⟩
    have e5 := Ex.new (o := .lst (l.map V.int)) hp3
    have hp3' : upd H4 p3 (.lst (l.map V.int)) p3 = some (.lst (l.map V.int)) := upd_same
    have hD5 := e5 _ _ (e4 _ _ hD3)
    have hL5 := e5 _ _ (e4 _ _ hL3)
    have hDp : D ≠ p3 := fun z => by
      have h1 := e4 _ _ hD3
      rw [← z, h1] at hp3
      cases hp3
    have e15 := (e13.trans e4).trans e5
    generalize upd H4 p3 (.lst (l.map V.int)) = H5 at hp3' hD5 hL5 e15
    have hll : l.length = f.length + s.length := by rw [perm.length_eq, ysOf_len, List.length_append]
    refine ⟨p3, rfl, ⟨_, SqL.of hp3'⟩, ?_⟩
    refine for_list (K := K) (a := p3) (xs := l.map V.int) (fun i σ H' => ∃ k1 k2 rs lt us La v7 v8, σ = [some (.ref a), some (.ref b), some (.ref c), some (.ref D), some (.ref La), some (.int ((k1 : Nat) : Int)), some (.int ((k2 : Nat) : Int)), v7, v8, none] ∧ Ex H H' ∧ H' D = some (.lst us) ∧ Paired (StN D H') us rs ∧ H' p3 = some (.lst (l.map V.int)) ∧
        La ≠ D ∧ H' La = some (.lst ((lt : List Int).map V.int)) ∧ SI kf f s (l.drop i) k1 k2 rs lt ∧ rs.length ≤ i)
      ⟨0, 0, [], [], [], L0, _, _, rfl, e15, hD5, .nil, hp3', hLD, hL5, SI.start hk (fun e he => perm.mem_iff.mpr (by unfold ysOf at he ⊢; rw [List.map_append]; exact List.mem_append_left _ he)) (fun e he => perm.mem_iff.mpr (by unfold ysOf at he ⊢; rw [List.map_append]; exact List.mem_append_right _ he)), Nat.le_refl _⟩ (fun i σ H' _ p => by obtain ⟨_, _, _, _, _, _, _, _, _, _, _, _, h, _⟩ := p; exact SqL.of h) ?_ ?_
    · rintro i u σ H' hu ⟨k1, k2, rs, lt, us, La, v7, v8, rfl, e, hD', hus, hp', hLa, hlt, si, hrl⟩
      rw [List.getElem?_map] at hu
      have hi : i < l.length := by
        cases hx : l[i]? with
        | none => rw [hx] at hu; cases hu
        | some z => exact (List.getElem?_eq_some_iff.mp hx).1
      rw [List.getElem?_eq_getElem hi] at hu
      cases hu
      rw [List.drop_eq_getElem_cons hi] at si
      have srt' : ∀ z ∈ l.drop (i + 1), l[i] ≤ z := by
        have := srt.sublist (List.drop_sublist i l)
        rw [List.drop_eq_getElem_cons hi] at this
        exact (List.pairwise_cons.mp this).1
      have bh := si.behind hf hs srt'
      have nx := fun es => si.step (es := es) hf hs srt'
      generalize l[i] = y at nx bh ⊢
      have ha' := e _ _ ha
      have hb' := e _ _ hb
      have hua' := hua.ex e
      have hub' := hub.ex e
      -- the first one
      refine ⟨fun σ H2 => H2 = H' ∧ σ = [some (.ref a), some (.ref b), some (.ref c), some (.ref D), some (.ref La), some (.int ((nxt (ysOf f) k1 y : Nat) : Int)), some (.int ((k2 : Nat) : Int)), some (.int y), v8, none], ?_, ?_⟩
      · refine ⟨_, rfl, _, rfl, a, _, rfl, .inl (SqL.of ha'), _, _, rfl, rfl, _, rfl, ?_⟩
        rw [hal]
        refine ite2 (fun c1 => ?_) (fun c1 => ?_)
        · have h1 : k1 < f.length := by
            have := of_decide_eq_true c1
            omega
          obtain ⟨v, hv, p, L, rfl, h2, h3⟩ := pr_getR hua' (List.getElem?_eq_getElem h1)
          have hy := ysOf_get (List.getElem?_eq_getElem h1)
          refine ⟨_, rfl, _, rfl, a, _, _, _, rfl, rfl, SqL.of ha', atI_nat hv, ?_⟩
          refine ⟨p, _, _, _, rfl, rfl, SqT.of h2, rfl, _, rfl, rfl, _, rfl, ?_⟩
          refine ite2 (fun c2 => ?_) (fun c2 => ?_)
          · have h4 : (ysOf f)[k1]? = some y := by
              rw [hy]
              have := of_decide_eq_true c2
              injection this with this
              rw [this]
            refine ⟨_, rfl, _, _, rfl, rfl, rfl, ?_⟩
            rw [nxt_yes h4]
            rfl
          · refine ⟨rfl, ?_⟩
            rw [nxt_no (f := ysOf f) (k := k1) fun z => c2 (by rw [hy] at z; rw [Option.some.inj z]; exact decide_eq_true rfl)]
            rfl
        · refine ⟨rfl, ?_⟩
          rw [nxt_no (f := ysOf f) (k := k1) fun z => c1 (decide_eq_true (by have := (List.getElem?_eq_some_iff.mp z).1; rw [ysOf_len] at this; omega))]
          rfl
      rintro σ H2 ⟨rfl, rfl⟩
      -- the second one
      refine ⟨fun σ H3 => H3 = H2 ∧ σ = [some (.ref a), some (.ref b), some (.ref c), some (.ref D), some (.ref La), some (.int ((nxt (ysOf f) k1 y : Nat) : Int)), some (.int ((nxt (ysOf s) k2 y : Nat) : Int)), some (.int y), v8, none], ?_, ?_⟩
      · refine ⟨_, rfl, _, rfl, b, _, rfl, .inl (SqL.of hb'), _, _, rfl, rfl, _, rfl, ?_⟩
        rw [hbl]
        refine ite2 (fun c1 => ?_) (fun c1 => ?_)
        · have h1 : k2 < s.length := by
            have := of_decide_eq_true c1
            omega
          obtain ⟨v, hv, p, L, rfl, h2, h3⟩ := pr_getR hub' (List.getElem?_eq_getElem h1)
          have hy := ysOf_get (List.getElem?_eq_getElem h1)
          refine ⟨_, rfl, _, rfl, b, _, _, _, rfl, rfl, SqL.of hb', atI_nat hv, ?_⟩
          refine ⟨p, _, _, _, rfl, rfl, SqT.of h2, rfl, _, rfl, rfl, _, rfl, ?_⟩
          refine ite2 (fun c2 => ?_) (fun c2 => ?_)
          · have h4 : (ysOf s)[k2]? = some y := by
              rw [hy]
              have := of_decide_eq_true c2
              injection this with this
              rw [this]
            refine ⟨_, rfl, _, _, rfl, rfl, rfl, ?_⟩
            rw [nxt_yes (f := ysOf s) (k := k2) h4]
            rfl
          · refine ⟨rfl, ?_⟩
            rw [nxt_no (f := ysOf s) (k := k2) fun z => c2 (by rw [hy] at z; rw [Option.some.inj z]; exact decide_eq_true rfl)]
        · refine ⟨rfl, ?_⟩
          rw [nxt_no (f := ysOf s) (k := k2) fun z => c1 (decide_eq_true (by have := (List.getElem?_eq_some_iff.mp z).1; rw [ysOf_len] at this; omega))]
      rintro σ H3 ⟨rfl, rfl⟩
      -- the edges
      have le1 : nxt (ysOf f) k1 y ≤ f.length := by rw [bh.1, ← ysOf_len]; exact cnt_le _ _
      have le2 : nxt (ysOf s) k2 y ≤ s.length := by rw [bh.2, ← ysOf_len]; exact cnt_le _ _
      have ev1 : EvE (eb f (nxt (ysOf f) k1 y)) := by rw [bh.1, eb_at hf.asc]; exact eFrom_ev EvE.nil hf.ev
      have ev2 : EvE (eb s (nxt (ysOf s) k2 y)) := by rw [bh.2, eb_at hs.asc]; exact eFrom_ev EvE.nil hs.ev
      refine ⟨_, rfl, _, rfl, a, ua, f, _, rfl, ha', hua', le1, fun L1 G1 f1 hL1 => ?_⟩
      refine ⟨_, rfl, _, rfl, b, ub, s, _, rfl, f1 _ _ hb', hub'.ex f1, le2, fun L2 G2 f2 hL2 => ?_⟩
      have f12 := f1.trans f2
      refine ⟨_, rfl, L1, L2, c, _, _, kf, rfl, f2 _ _ hL1, hL2, ex_t (e.trans f12) hc, hk, ev1, ev2, by have := eb_len mf (nxt (ysOf f) k1 y); omega, by have := eb_len ms (nxt (ysOf s) k2 y); omega, fun pe es G3 hpe f3 hes comb hel => ?_⟩
      have f13 := f12.trans f3
      have nx := nx es comb
      have hpD : pe ≠ D := fun z => by
        rw [z, f12 _ _ hD'] at hpe
        cases hpe
      refine ⟨_, rfl, _, rfl, _, _, dp_il hes, dp_il (f13 _ _ hlt), eqs_int.lst.shaped (by decide) _, eqs_int.lst.shaped (by decide) _, _, rfl, ?_⟩
      rw [eqs_int.lst.1]
      have hus3 : Paired (StN D G3) us rs := Paired.mapP hus fun _ _ => StN.ex f13
      refine ite2 (fun c3 => ?_) (fun c3 => ?_)
      · have hne : es ≠ lt := fun z => by
          rw [decide_eq_true z] at c3
          cases c3
        rw [if_neg hne] at nx
        refine ⟨_, rfl, .inl ⟨rfl, _, SqL.of (f13 _ _ hD')⟩, _, rfl, _, rfl, (by show 2 ≤ sizeLine; decide), fun p5 hp5 => ?_⟩
        have f4 := Ex.new (o := .tup [.int y, .ref pe]) hp5
        have hp5' : upd G3 p5 (.tup [.int y, .ref pe]) p5 = some (.tup [.int y, .ref pe]) := upd_same
        generalize upd G3 p5 (.tup [.int y, .ref pe]) = G4 at f4 hp5'
        have hD4 := f4 _ _ (f13 _ _ hD')
        have hul := hus.length
        refine ⟨D, us, _, rfl, rfl, hD4, slineL2 (by omega), ?_⟩
        refine ⟨_, rfl, ?_⟩
        have hus4 : Paired (StN D G4) us rs := Paired.mapP hus3 fun _ _ => StN.ex f4
        refine ⟨nxt (ysOf f) k1 y, nxt (ysOf s) k2 y, rs ++ [(y, es)], es, us ++ [.ref p5], pe, _, _, rfl, ((e.trans f13).trans f4).mut hD, upd_same, ?_, ?_, hpD, ?_, nx, by rw [List.length_append]; simp; omega⟩
        · exact (Paired.mapP hus4 fun _ _ => StN.mut hD4).snoc (StN.mut hD4 ⟨p5, pe, rfl, hp5', hpD, f4 _ _ hes⟩)
        · rw [upd_ne hDp.symm]
          exact f4 _ _ (f13 _ _ hp')
        · rw [upd_ne hpD]
          exact f4 _ _ hes
      · have heq : es = lt := by
          revert c3
          by_cases z : es = lt
          · exact fun _ => z
          · rw [decide_eq_false z]
            exact fun c => absurd rfl c
        rw [if_pos heq] at nx
        rw [heq] at nx
        exact ⟨nxt (ysOf f) k1 y, nxt (ysOf s) k2 y, rs, lt, us, La, _, _, rfl, e.trans f13, f13 _ _ hD', hus3, f13 _ _ hp', hLa, f13 _ _ hlt, nx, by omega⟩
    · rintro σ H' ⟨k1, k2, rs, lt, us, La, v7, v8, rfl, e, hD', hus, hp', hLa, hlt, si, hrl⟩
      rw [List.length_map] at si hrl
      rw [List.drop_length] at si
      obtain ⟨v, cmb⟩ := si.done hk hf hs
      refine ⟨_, rfl, ?_⟩
      exact q D us rs H' hD e hD' (Paired.mapP hus fun _ _ => StN.st) v cmb (by omega)
abbrev s_bands_of : Stmt := top 80
theorem sc_bands_of : FnScope ["steps", "place", "top", "edges"] ["steps"] (defScope s_bands_of) := ⟨rfl, rfl, rfl, by decide +kernel, rfl, by decide +kernel, by decide +kernel⟩
/-- a band: its rows, its runs -/
def BaV (H : Hp) (v : V) (d : Bd) : Prop := ∃ p L ts, v = .ref p ∧ H p = some (.tup [.int d.t, .int d.b, .ref L]) ∧ H L = some (.lst ts) ∧ PtsV H ts d.rs
theorem BaV.ex {H H' : Hp} {v : V} {d : Bd} (e : Ex H H') (h : BaV H v d) : BaV H' v d := by
  obtain ⟨p, L, ts, rfl, h1, h2, h3⟩ := h
  exact ⟨p, L, ts, rfl, e _ _ h1, e _ _ h2, h3.tk (TK.ex e)⟩
def BaN (D : Addr) (H : Hp) (v : V) (d : Bd) : Prop := ∃ p L ts, v = .ref p ∧ H p = some (.tup [.int d.t, .int d.b, .ref L]) ∧ L ≠ D ∧ H L = some (.lst ts) ∧ PtsV H ts d.rs
theorem BaN.step {D : Addr} {H H' : Hp} {xs : List V} {o : HO} {v : V} {d : Bd} (h : BaN D H v d) (e : Ex H H') (hD : H' D = some (.lst xs)) : BaN D (upd H' D o) v d := by
  obtain ⟨p, L, ts, rfl, h1, n, h2, h3⟩ := h
  refine ⟨p, L, ts, rfl, TK.lst hD _ _ (e _ _ h1), n, ?_, (h3.tk (TK.ex e)).tk (TK.lst hD)⟩
  rw [upd_ne n]
  exact e _ _ h2
theorem BaN.st {D : Addr} {H : Hp} {v : V} {d : Bd} (h : BaN D H v d) : BaV H v d := by
  obtain ⟨p, L, ts, rfl, h1, n, h2, h3⟩ := h
  exact ⟨p, L, ts, rfl, h1, h2, h3⟩
/-- all the bands between the steps, those without runs, too -/
def bandsA : List Stp → List Bd
  | s :: r :: t => ⟨s.1, r.1, pairs s.2⟩ :: bandsA (r :: t)
  | _ => []
theorem bandsA_get : ∀ {ss : List Stp} {i : Nat} {s r : Stp}, ss[i]? = some s → ss[i + 1]? = some r → (bandsA ss)[i]? = some ⟨s.1, r.1, pairs s.2⟩
  | [], i, s, r, h, _ => by simp at h
  | [x], i, s, r, _, h => by simp at h
  | x :: y :: t, 0, s, r, h, k => by
    simp at h k
    subst h k
    rfl
  | x :: y :: t, i + 1, s, r, h, k => by
    have ih := bandsA_get (ss := y :: t) (i := i) (s := s) (r := r) (by simpa using h) (by simpa using k)
    simpa [bandsA] using ih
theorem bandsA_len : ∀ ss : List Stp, (bandsA ss).length = ss.length - 1
  | [] => rfl
  | [_] => rfl
  | x :: y :: t => by
    have ih := bandsA_len (y :: t)
    simp only [bandsA, List.length_cons] at ih ⊢
    omega
theorem bandsA_form : ∀ ss : List Stp, formOf (bandsA ss) = formOf (bandsP ss)
  | [] => rfl
  | [_] => rfl
  | x :: y :: t => by
    have ih := bandsA_form (y :: t)
    unfold formOf at ih ⊢
    show bandRc ⟨x.1, y.1, pairs x.2⟩ ++ List.flatMap bandRc (bandsA (y :: t)) = List.flatMap bandRc (if x.2 = [] then bandsP (y :: t) else ⟨x.1, y.1, pairs x.2⟩ :: bandsP (y :: t))
    rw [ih]
    by_cases c : x.2 = []
    · rw [if_pos c, c]
      rfl
    · rw [if_neg c, List.flatMap_cons]
def spBands (K : PySem.W.Frag) : Sp := fun vs H Q _ => ∃ a us ss, vs = [.ref a] ∧ H a = some (.lst us) ∧ StsV H us ss ∧ ss.length ≤ 4000000 ∧ (∀ z ∈ ss, z.2.length % 2 = 0) ∧
  ∀ p ws H', H p = none → Ex H H' → H' p = some (.lst ws) → Paired (BaV H') ws (bandsA ss) → Q (.ref p) H'
theorem cut_last {xs : List V} : cutV xs none (some (-1)) = xs.take (xs.length - 1) := by
  unfold cutV
  have e : HT.sIx xs.length xs.length (some (-1)) = xs.length - 1 := by
    show (if (-1 : Int) < 0 then ((-1 : Int) + (xs.length : Int)).toNat else min (-1 : Int).toNat xs.length) = xs.length - 1
    rw [if_pos (by decide)]
    omega
  rw [e]
  rfl
theorem pts_of {H : Hp} : ∀ {ts : List Addr} {qs : List Pt}, Paired (fun (t : Addr) (q : V × V) => H t = some (.tup [q.1, q.2])) ts (qs.map fun q => (V.int q.1, V.int q.2)) → PtsV H (ts.map V.ref) qs
  | [], [], _ => .nil
  | t :: ts, q :: qs, .cons h k => .cons ⟨t, rfl, h⟩ (pts_of k)
theorem ok_bands_of {f : Addr} {fd : FuncData} (F : Fun K "_bands_of" "_bands_of" s_bands_of f fd) (T : Txt K mg) : FnOk P w K mg base CX0 1 f fd ["steps"] (spBands K) := by
  refine F.ok sc_bands_of (fun vs H Q E h => ?_) (fun cdv A outer s H vs Q E hr h => ?_)
  · obtain ⟨a, us, ss, rfl, _⟩ := h
    rfl
  · obtain ⟨a, us, ss, rfl, ha, hu, hn, hev, q⟩ := h
    refine ⟨_, (pss_one (ps_ret (pe_lc (own := [("place", 1), ("top", 2), ("edges", 3)]) (tt := tYes) rfl sc_bands_of.nd (kpiE K (by rfl) T.enumerate_ (pa_cons (pe_slice (kslL K) (pv 0) po_none (po_some (pe_un un_neg pe_int))) pa_nil)) (blkOk_by (N := ["steps", "place", "top", "edges"]) (sc := defScope s_bands_of) (by decide +kernel)) (fun _ _ _ _ _ => (kpgT K (n := 2) rfl (pgs_cons (pg_name (i := 1) sc_bands_of.nd rfl (by first | exact Or.inl rfl | exact Or.inr rfl)) (pgs_cons (kpgT K (n := 2) rfl (pgs_cons (pg_name (i := 2) sc_bands_of.nd rfl (by first | exact Or.inl rfl | exact Or.inr rfl)) (pgs_cons (pg_name (i := 3) sc_bands_of.nd rfl (by first | exact Or.inl rfl | exact Or.inr rfl)) pgs_nil))) pgs_nil)))) (fun _ _ _ _ _ => pts_nil) (fun _ _ _ _ _ => (pe_tup (pa_cons (pv 2) (pa_cons (pe_ix (kixT K) (pe_ix (kixL K) (pv 0) (pe_op op_add (pv 1) pe_int) (fun _ _ => rfl)) pe_int (fun _ _ => rfl)) (pa_cons (pe_listZip K rfl (by rfl) T.list_ bt_list (by rfl) T.zip_ (pa_cons (pe_ev K (pv 3)) (pa_cons (pe_od K (pv 3)) pa_nil))) pa_nil)))))))), ?_⟩
    have hlen := hu.length
    refine ⟨_, rfl, _, rfl, _, rfl, a, us, rfl, SqL.of ha, fun p1 hp1 => ?_⟩
    rw [cut_last]
    have e1 := Ex.new (o := .lst (us.take (us.length - 1))) hp1
    have hp1' : upd H p1 (.lst (us.take (us.length - 1))) p1 = some (.lst (us.take (us.length - 1))) := upd_same
    generalize upd H p1 (.lst (us.take (us.length - 1))) = H1 at e1 hp1'
    have ha1 := e1 _ _ ha
    have hu1 := hu.ex e1
    refine ⟨p1, _, rfl, SqL.of hp1', fun D hD => ?_⟩
    have hbl := bandsA_len ss
    refine lc_it (walk_enum (K := K) (a := p1) (xs := us.take (us.length - 1))) (fun i H' => Ex H1 H' ∧ ∃ ws, H' D = some (.lst ws) ∧ Paired (BaN D H') ws ((bandsA ss).take i)) ⟨Ex.new hD, [], upd_same, .nil⟩ (fun i H' _ p => SqL.of (p.1 _ _ hp1')) ?_ ?_
    · rintro i x H2 H3 hi ⟨e2, ws, hW, hP⟩ ⟨T, x', y', rfl, hT, rfl, hx', hy'⟩
      cases hx'
      rw [List.length_take] at hi
      have hi1 : i < ss.length := by omega
      have hi2 : i + 1 < ss.length := by omega
      obtain ⟨v, hv, p, L, rfl, h1, h2⟩ := pr_getR hu1 (List.getElem?_eq_getElem hi1)
      obtain ⟨v2, hv2, p2, L2, rfl, h3, h4⟩ := pr_getR hu1 (List.getElem?_eq_getElem hi2)
      have hy' : (us.take (us.length - 1))[i]? = some y' := hy'
      rw [List.getElem?_take_of_lt (by omega), hv] at hy'
      cases hy'
      have hg := bandsA_get (List.getElem?_eq_getElem hi1) (List.getElem?_eq_getElem hi2)
      have hE := hev _ (List.getElem_mem hi1)
      generalize ss[i] = s1 at h1 h2 hg hE
      generalize ss[i + 1] = s2 at h3 h4 hg
      have f1 := Ex.new (o := .tup [.int (i : Nat), .ref p]) hT
      have hT1 : upd H2 T (.tup [.int (i : Nat), .ref p]) T = some (.tup [.int (i : Nat), .ref p]) := upd_same
      generalize upd H2 T (.tup [.int (i : Nat), .ref p]) = H3 at f1 hT1
      have e3 := e2.trans f1
      refine ⟨T, _, rfl, SqT.of hT1, rfl, _, _, rfl, _, _, rfl, p, _, rfl, SqT.of (e3 _ _ h1), rfl, _, _, rfl, _, _, rfl, rfl, rfl, ?_⟩
      refine ⟨rfl, ?_⟩
      refine lcY ?_
      refine ⟨_, rfl, ?_⟩
      refine ⟨_, rfl, _, rfl, _, _, rfl, rfl, a, us, _, .ref p2, rfl, rfl, SqL.of (e3 _ _ ha1), (by rw [show ((i : Nat) : Int) + 1 = ((i + 1 : Nat) : Int) by omega]; exact atI_nat hv2), p2, _, _, _, rfl, rfl, SqT.of (e3 _ _ h3), rfl, ?_⟩
      refine ⟨_, rfl, L, _, rfl, SqL.of (e3 _ _ h2), fun q1 hq1 => ?_⟩
      have f2 := Ex.new (o := .lst (evs (s1.2.map V.int))) hq1
      have hq1' : upd H3 q1 (.lst (evs (s1.2.map V.int))) q1 = _ := upd_same
      generalize upd H3 q1 (.lst (evs (s1.2.map V.int))) = H4 at f2 hq1'
      refine ⟨_, rfl, L, _, rfl, SqL.of (f2 _ _ (e3 _ _ h2)), fun q2 hq2 => ?_⟩
      have f3 := Ex.new (o := .lst (ods (s1.2.map V.int))) hq2
      have hq2' : upd H4 q2 (.lst (ods (s1.2.map V.int))) q2 = _ := upd_same
      generalize upd H4 q2 (.lst (ods (s1.2.map V.int))) = H5 at f3 hq2'
      refine ⟨q1, q2, _, _, rfl, SqL.of (f3 _ _ hq1'), SqL.of hq2', fun H6 p6 ts f4 hp6 hz hts => ?_⟩
      rw [zip_pairs hE] at hts
      have hts := pts_of hts
      refine ⟨(by show 3 ≤ sizeLine; decide), fun p7 hp7 => ?_⟩
      have f5 := Ex.new (o := .tup [.int s1.1, .int s2.1, .ref p6]) hp7
      have hp7' : upd H6 p7 (.tup [.int s1.1, .int s2.1, .ref p6]) p7 = some (.tup [.int s1.1, .int s2.1, .ref p6]) := upd_same
      generalize upd H6 p7 (.tup [.int s1.1, .int s2.1, .ref p6]) = H7 at f5 hp7'
      have f25 := ((f2.trans f3).trans f4).trans f5
      have hwl := hP.length
      rw [List.length_take] at hwl
      refine ⟨ws, f25 _ _ (f1 _ _ hW), slineL2 (by omega), ?_⟩
      have fin1 := e3.trans f25
      have hD7 := f25 _ _ (f1 _ _ hW)
      have pD : p6 ≠ D := fun z => by
        have h := (f2.trans f3) _ _ (f1 _ _ hW)
        rw [← z, hp6] at h
        cases h
      refine ⟨fin1.mut hD, ws ++ [.ref p7], upd_same, ?_⟩
      rw [List.take_add_one, hg]
      refine (Paired.mapP hP fun _ _ h => BaN.step h (f1.trans f25) hD7).snoc ⟨p7, p6, ts.map V.ref, rfl, TK.lst hD7 _ _ hp7', pD, ?_, ?_⟩
      · rw [upd_ne pD]
        exact f5 _ _ hz
      · exact (hts.tk (TK.ex f5)).tk (TK.lst hD7)
    · rintro H2 ⟨e2, ws, hW, hP⟩
      rw [List.length_take, List.take_of_length_le (by omega)] at hP
      exact q D ws H2 (ex_free e1 hD) (e1.trans e2) hW (Paired.mapP hP fun _ _ => BaN.st)
abbrev s_rectangles_of : Stmt := top 81
theorem sc_rectangles_of : FnScope ["steps", "top", "bottom", "runs", "left", "right"] ["steps"] (defScope s_rectangles_of) := ⟨rfl, rfl, rfl, by decide +kernel, rfl, by decide +kernel, by decide +kernel⟩
def spRectsOf (K : PySem.W.Frag) : Sp := fun vs H Q _ => ∃ a us ss, vs = [.ref a] ∧ H a = some (.lst us) ∧ StsV H us ss ∧ ss.length ≤ 4000000 ∧ (∀ z ∈ ss, z.2.length % 2 = 0) ∧ (formOf (bandsP ss)).length ≤ 4000000 ∧
  ∀ p ws H', H p = none → Ex H H' → H' p = some (.lst ws) → RcsV H' ws (formOf (bandsP ss)) → Q (.ref p) H'
theorem ok_rectangles_of {f : Addr} {fd : FuncData} (F : Fun K "_rectangles_of" "_rectangles_of" s_rectangles_of f fd) (T : Txt K mg) (D_bands_of : Def P w K mg base CX0 "_bands_of" 1 ["steps"] (spBands K)) : FnOk P w K mg base CX0 2 f fd ["steps"] (spRectsOf K) := by
  refine F.ok sc_rectangles_of (fun vs H Q E h => ?_) (fun cdv A outer s H vs Q E hr h => ?_)
  · obtain ⟨a, us, ss, rfl, _⟩ := h
    rfl
  · obtain ⟨a, us, ss, rfl, ha, hu, hn, hev, hfl, q⟩ := h
    refine ⟨_, (pss_one (ps_ret (pe_lc2 (own := [("top", 1), ("bottom", 2), ("runs", 3), ("left", 4), ("right", 5)]) (vs1 := [4, 5]) rfl sc_rectangles_of.nd (kpiL K (pe_call D_bands_of.ok (hr.mono (by decide)) rfl D_bands_of.mgf D_bands_of.kp D_bands_of.b .nil pass0 (pa_cons (pv 0) pa_nil))) (blkOk_by (N := ["steps", "top", "bottom", "runs", "left", "right"]) (sc := defScope s_rectangles_of) (by decide +kernel)) (by decide) (fun _ _ _ _ _ => (kpgT K (n := 3) rfl (pgs_cons (pg_name (i := 1) sc_rectangles_of.nd rfl (by first | exact Or.inl rfl | exact Or.inr rfl)) (pgs_cons (pg_name (i := 2) sc_rectangles_of.nd rfl (by first | exact Or.inl rfl | exact Or.inr rfl)) (pgs_cons (pg_name (i := 3) sc_rectangles_of.nd rfl (by first | exact Or.inl rfl | exact Or.inr rfl)) pgs_nil))))) (fun _ _ _ _ _ => pts_nil) (fun _ _ _ _ _ => (kpiL K (pv 3))) (fun _ _ _ _ _ => (kpgT K (n := 2) rfl (pgs_cons (pg_name (i := 4) sc_rectangles_of.nd rfl (by first | exact Or.inl rfl | exact Or.inr rfl)) (pgs_cons (pg_name (i := 5) sc_rectangles_of.nd rfl (by first | exact Or.inl rfl | exact Or.inr rfl)) pgs_nil)))) (fun _ _ _ _ _ => pts_nil) (fun _ _ _ _ _ => (pe_tup (pa_cons (pv 4) (pa_cons (pv 1) (pa_cons (pv 5) (pa_cons (pv 2) pa_nil))))))))), ?_⟩
    rw [← bandsA_form] at hfl q
    refine ⟨_, rfl, a, us, ss, rfl, ha, hu, hn, hev, fun p1 us1 H1 hp1n e1 hp1 hB => ?_⟩
    have hbl := hB.length
    refine ⟨p1, rfl, ⟨_, SqL.of hp1⟩, fun D hD => ?_⟩
    refine turns (walk_list (K := K) (a := p1) (xs := us1)) (fun i H' => Ex H1 H' ∧ ∃ ws, H' D = some (.lst ws) ∧ RcsV H' ws (formOf ((bandsA ss).take i))) ⟨Ex.new hD, [], upd_same, .nil⟩ (fun i H' _ p => SqL.of (p.1 _ _ hp1)) ?_ ?_
    · rintro i u H2 H3 hi ⟨e2, ws, hW, hP⟩ ⟨rfl, hui⟩
      obtain ⟨d, hd, p, L, ts, rfl, h1, h2, h3⟩ := pr_get hB hui
      refine ⟨p, _, rfl, SqT.of (e2 _ _ h1), rfl, _, _, rfl, _, _, rfl, _, _, rfl, rfl, ?_⟩
      refine ⟨rfl, ?_⟩
      refine lcY ?_
      have hform : formOf ((bandsA ss).take (i + 1)) = formOf ((bandsA ss).take i) ++ bandRc d := by
        rw [List.take_add_one, hd]
        unfold formOf
        rw [List.flatMap_append]
        show _ ++ List.flatMap bandRc [d] = _
        rw [List.flatMap_cons, List.flatMap_nil, List.append_nil]
      have hfle : (formOf ((bandsA ss).take (i + 1))).length ≤ 4000000 := by
        refine Nat.le_trans ?_ hfl
        have e : bandsA ss = (bandsA ss).take (i + 1) ++ (bandsA ss).drop (i + 1) := (List.take_append_drop _ _).symm
        have e2 : formOf (bandsA ss) = formOf ((bandsA ss).take (i + 1)) ++ formOf ((bandsA ss).drop (i + 1)) := by
          unfold formOf
          rw [← List.flatMap_append, ← e]
        rw [e2, List.length_append]
        omega
      rw [hform, List.length_append] at hfle
      have hbr : (bandRc d).length = d.rs.length := List.length_map _
      refine ⟨_, rfl, L, rfl, ⟨_, SqL.of (e2 _ _ h2)⟩, ?_⟩
      refine turns (walk_list (K := K) (a := L) (xs := ts)) (fun j H' => Ex H1 H' ∧ ∃ ws, H' D = some (.lst ws) ∧ RcsV H' ws (formOf ((bandsA ss).take i) ++ (bandRc d).take j)) ⟨e2, ws, hW, by rw [List.take_zero, List.append_nil]; exact hP⟩ (fun i H' _ p => SqL.of (p.1 _ _ h2)) ?_ ?_
      · rintro j v H3 H4 hj ⟨e3, ws, hW, hP⟩ ⟨rfl, hvj⟩
        obtain ⟨z, hz, pz, rfl, hpz⟩ := pr_get h3 hvj
        refine ⟨pz, _, rfl, SqT.of (e3 _ _ hpz), rfl, _, _, rfl, _, _, rfl, rfl, ?_⟩
        refine ⟨rfl, ?_⟩
        refine lcY ?_
        refine ⟨_, rfl, _, rfl, _, rfl, _, rfl, (by show 4 ≤ sizeLine; decide), fun p4 hp4 => ?_⟩
        have f1 := Ex.new (o := .tup [.int z.1, .int d.t, .int z.2, .int d.b]) hp4
        have hp4' : upd H4 p4 (.tup [.int z.1, .int d.t, .int z.2, .int d.b]) p4 = some (.tup [.int z.1, .int d.t, .int z.2, .int d.b]) := upd_same
        generalize upd H4 p4 (.tup [.int z.1, .int d.t, .int z.2, .int d.b]) = H5 at f1 hp4'
        have hwl := hP.length
        rw [List.length_append, List.length_take] at hwl
        have hD5 := f1 _ _ hW
        refine ⟨ws, hD5, slineL2 (by omega), (e3.trans f1).mut hD, ws ++ [.ref p4], upd_same, ?_⟩
        have hb : (bandRc d)[j]? = some ⟨z.1, d.t, z.2, d.b⟩ := by
          unfold bandRc
          rw [List.getElem?_map, hz]
          rfl
        rw [List.take_add_one, hb, ← List.append_assoc]
        exact ((hP.tk (TK.ex f1)).tk (TK.lst hD5)).snoc ⟨p4, rfl, TK.lst hD5 _ _ hp4'⟩
      · rintro H3 ⟨e3, ws, hW, hP⟩
        rw [h3.length, ← hbr, List.take_length, ← hform] at hP
        exact ⟨e3, ws, hW, hP⟩
    · rintro H2 ⟨e2, ws, hW, hP⟩
      rw [hbl, List.take_length] at hP
      exact q D ws H2 (ex_free e1 hD) (e1.trans e2) hW hP
abbrev s_joined : Stmt := top 75
theorem sc_joined : FnScope ["rectangles", "middle"] ["rectangles"] (defScope s_joined) := ⟨rfl, rfl, rfl, by decide +kernel, rfl, by decide +kernel, by decide +kernel⟩
def spJoined (K : PySem.W.Frag) (n : Nat) : Sp := fun vs H Q _ => ∃ a us qs, vs = [.ref a] ∧ SqL K H a us ∧ RcsV H us qs ∧ Wide qs ∧ qs.length ≤ 2 ^ n ∧ n ≤ 18 ∧
  ∀ p ws ss H', H p = none → Ex H H' → H' p = some (.lst ws) → StsV H' ws ss → Tells ss qs → Q (.ref p) H'
theorem ok_joined_n {f : Addr} {fd : FuncData} (F : Fun K "_joined" "_joined" s_joined f fd) (T : Txt K mg) (mgf : mg "_joined" = some (.ref f)) (b : L2.Binds K fd ["rectangles"] []) (D_steps_of : Def P w K mg base CX0 "_steps_of" 1 ["rectangles"] (spStepsOf K))
    (D_combined_steps : Def P w K mg base CX0 "_combined_steps" 2 ["first", "second", "kept"] (spSteps K)) : ∀ n, FnOk P w K mg base CX0 (n + 3) f fd ["rectangles"] (spJoined K n) := by
  intro n
  induction n with
  | zero =>
    have D_joined : Def P w K mg base CX0 "_joined" 2 ["rectangles"] (fun vs H Q _ => vs.length = 1 ∧ False) := ⟨f, fd, ⟨fun vs H Q E h => h.1, fun A outer s H args us vs Q E _ _ _ _ h => h.2.elim⟩, mgf, F.kp, b⟩
    refine F.ok sc_joined (fun vs H Q E h => ?_) (fun cdv A outer s H vs Q E hr h => ?_)
    · obtain ⟨a, us, qs, rfl, _⟩ := h
      rfl
    · obtain ⟨a, us, qs, rfl, ha, hq, hw, hl, h18, q⟩ := h
      have hul := hq.length
      refine ⟨_, (pss_cons (ps_if (pt_cmpR op_lt (pe_callB (klen K) (by rfl) T.len_ PySem.boot_len (pa_cons (pv 0) pa_nil)) pe_int (nomark _))
        (pss_one (ps_ret (pe_call D_steps_of.ok (hr.mono (by omega)) rfl D_steps_of.mgf D_steps_of.kp D_steps_of.b .nil pass0 (pa_cons (pv 0) pa_nil))))
        pss_nil)
      (pss_cons (ps_set (i := 1) sc_joined.nd rfl (by first | exact Or.inl rfl | exact Or.inr rfl) (pe_op op_fdiv (pe_callB (klen K) (by rfl) T.len_ PySem.boot_len (pa_cons (pv 0) pa_nil)) pe_int))
      (pss_one (ps_ret (pe_call D_combined_steps.ok (hr.mono (by omega)) rfl D_combined_steps.mgf D_combined_steps.kp D_combined_steps.b .nil pass0 (pa_cons (pe_call D_joined.ok hr rfl D_joined.mgf D_joined.kp D_joined.b .nil pass0 (pa_cons (pe_slice (kslL K) (pv 0) po_none (po_some (pv 1))) pa_nil)) (pa_cons (pe_call D_joined.ok hr rfl D_joined.mgf D_joined.kp D_joined.b .nil pass0 (pa_cons (pe_slice (kslL K) (pv 0) (po_some (pv 1)) po_none) pa_nil)) (pa_cons (pe_glob (v := .ref T._EITHER_.choose) rfl T._EITHER_.choose_spec.1 rfl) pa_nil)))))))), ?_⟩
      refine ⟨_, rfl, a, us, rfl, .inl ha, _, _, rfl, rfl, _, rfl, ?_⟩
      have hl : qs.length ≤ 1 := hl
      refine iteD (show ((us.length : Int) < 2) by omega) ?_
      refine ⟨_, rfl, a, us, qs, rfl, ha, hq, by omega, fun p ws H' hp e hw' hs _ _ => ?_⟩
      match qs, hl, hw, hs, q with
      | [], _, hw, hs, q => exact q p ws _ H' hp e hw' hs tells_nil
      | [z], _, hw, hs, q => exact q p ws _ H' hp e hw' hs (tells_one (hw z (by simp)).1 (hw z (by simp)).2)
  | succ n ih =>
    have D_joined : Def P w K mg base CX0 "_joined" (n + 3) ["rectangles"] (spJoined K n) := ⟨f, fd, ih, mgf, F.kp, b⟩
    refine F.ok sc_joined (fun vs H Q E h => ?_) (fun cdv A outer s H vs Q E hr h => ?_)
    · obtain ⟨a, us, qs, rfl, _⟩ := h
      rfl
    · obtain ⟨a, us, qs, rfl, ha, hq, hw, hl, h18, q⟩ := h
      have hul := hq.length
      refine ⟨_, (pss_cons (ps_if (pt_cmpR op_lt (pe_callB (klen K) (by rfl) T.len_ PySem.boot_len (pa_cons (pv 0) pa_nil)) pe_int (nomark _))
        (pss_one (ps_ret (pe_call D_steps_of.ok (hr.mono (by omega)) rfl D_steps_of.mgf D_steps_of.kp D_steps_of.b .nil pass0 (pa_cons (pv 0) pa_nil))))
        pss_nil)
      (pss_cons (ps_set (i := 1) sc_joined.nd rfl (by first | exact Or.inl rfl | exact Or.inr rfl) (pe_op op_fdiv (pe_callB (klen K) (by rfl) T.len_ PySem.boot_len (pa_cons (pv 0) pa_nil)) pe_int))
      (pss_one (ps_ret (pe_call D_combined_steps.ok (hr.mono (by omega)) rfl D_combined_steps.mgf D_combined_steps.kp D_combined_steps.b .nil pass0 (pa_cons (pe_call D_joined.ok hr rfl D_joined.mgf D_joined.kp D_joined.b .nil pass0 (pa_cons (pe_slice (kslL K) (pv 0) po_none (po_some (pv 1))) pa_nil)) (pa_cons (pe_call D_joined.ok hr rfl D_joined.mgf D_joined.kp D_joined.b .nil pass0 (pa_cons (pe_slice (kslL K) (pv 0) (po_some (pv 1)) po_none) pa_nil)) (pa_cons (pe_glob (v := .ref T._EITHER_.choose) rfl T._EITHER_.choose_spec.1 rfl) pa_nil)))))))), ?_⟩
      refine ⟨_, rfl, a, us, rfl, .inl ha, _, _, rfl, rfl, _, rfl, ?_⟩
      refine ite2 (fun c => ?_) (fun c => ?_)
      · have c := of_decide_eq_true c
        refine ⟨_, rfl, a, us, qs, rfl, ha, hq, by omega, fun p ws H' hp e hw' hs _ _ => ?_⟩
        have hl : qs.length ≤ 1 := by omega
        match qs, hl, hw, hs, q with
        | [], _, hw, hs, q => exact q p ws _ H' hp e hw' hs tells_nil
        | [z], _, hw, hs, q => exact q p ws _ H' hp e hw' hs (tells_one (hw z (by simp)).1 (hw z (by simp)).2)
      · have c : ¬ (us.length : Int) < 2 := fun z => c (decide_eq_true z)
        refine ⟨_, rfl, a, us, rfl, .inl ha, _, _, rfl, rfl, ⟨by decide, by decide⟩, ?_⟩
        have em : (us.length : Int) / 2 = ((us.length / 2 : Nat) : Int) := by omega
        simp only [em]
        have hp2 : 2 ^ (n + 1) = 2 * 2 ^ n := Nat.pow_succ'
        have h2n : 2 ^ n ≤ 2 ^ 18 := Nat.pow_le_pow_right (by decide) (by omega)
        have e18 : 2 ^ 18 = 262144 := by decide
        have hm : us.length / 2 ≤ us.length := Nat.div_le_self _ _
        refine ⟨_, rfl, _, rfl, _, rfl, a, us, rfl, ha, fun p1 hp1 => ?_⟩
        rw [jcut_take hm]
        have e1 := Ex.new (o := .lst (us.take (us.length / 2))) hp1
        have k1 : upd H p1 (.lst (us.take (us.length / 2))) p1 = some (.lst (us.take (us.length / 2))) := upd_same
        generalize upd H p1 (.lst (us.take (us.length / 2))) = H1 at e1 k1 ⊢
        refine ⟨p1, _, qs.take (us.length / 2), rfl, SqL.of k1, jo_take _ (hq.tk (TK.ex e1)), fun z hz => hw z (List.mem_of_mem_take hz), by rw [List.length_take]; omega, by omega, fun p2 w2 s2 H2 hp2 e2 k2 r2 t2 => ?_⟩
        have e12 := e1.trans e2
        refine ⟨_, rfl, _, rfl, _, rfl, a, us, rfl, ex_l e12 ha, fun p3 hp3 => ?_⟩
        rw [jcut_drop hm]
        have e3 := Ex.new (o := .lst (us.drop (us.length / 2))) hp3
        have k3 : upd H2 p3 (.lst (us.drop (us.length / 2))) p3 = some (.lst (us.drop (us.length / 2))) := upd_same
        generalize upd H2 p3 (.lst (us.drop (us.length / 2))) = H3 at e3 k3 ⊢
        have e13 := e12.trans e3
        refine ⟨p3, _, qs.drop (us.length / 2), rfl, SqL.of k3, jo_drop _ (hq.tk (TK.ex e13)), fun z hz => hw z (List.mem_of_mem_drop hz), by rw [List.length_drop]; omega, by omega, fun p4 w4 s4 H4 hp4 e4 k4 r4 t4 => ?_⟩
        have e14 := e13.trans e4
        have l2 := t2.len
        have l4 := t4.len
        rw [List.length_take] at l2
        rw [List.length_drop] at l4
        refine ⟨p2, p4, T._EITHER_.choose, w2, w4, s2, s4, fun i j => i || j, rfl, (e3.trans e4) _ _ k2, r2.ex (e3.trans e4), k4, r4, T._EITHER_.choose_spec.2 H4, rfl, t2.v, t4.v, by omega, by omega, fun z hz => ?_, fun z hz => ?_, fun p5 w5 s5 H5 hp5 e5 k5 r5 v5 c5 l5 => ?_⟩
        · have := t2.wide z hz
          rw [List.length_take] at this
          omega
        · have := t4.wide z hz
          rw [List.length_drop] at this
          omega
        · have t5 := tells_app t2 t4 v5 c5 l5
          rw [List.take_append_drop] at t5
          exact q p5 w5 s5 H5 (ex_free e14 hp5) (e14.trans e5) k5 r5 t5
theorem ok_joined {f : Addr} {fd : FuncData} (F : Fun K "_joined" "_joined" s_joined f fd) (T : Txt K mg) (mgf : mg "_joined" = some (.ref f)) (D_steps_of : Def P w K mg base CX0 "_steps_of" 1 ["rectangles"] (spStepsOf K))
    (D_combined_steps : Def P w K mg base CX0 "_combined_steps" 2 ["first", "second", "kept"] (spSteps K)) : FnOk P w K mg base CX0 13 f fd ["rectangles"] (spJoined K 10) :=
  ok_joined_n F T mgf (F.binds (ps := ["rectangles"]) fun _ _ _ _ _ _ us hl => match us, hl with | [_], _ => rfl) D_steps_of D_combined_steps 10
abbrev s_region_of : Stmt := top 74
theorem sc_region_of : FnScope ["rectangles", "place", "rectangle"] ["rectangles"] (defScope s_region_of) := ⟨rfl, rfl, rfl, by decide +kernel, rfl, by decide +kernel, by decide +kernel⟩
def lamT (PT : Addr) : List (Addr × Str) := [(PT, "region_of.<locals>.<lambda>")]
theorem rcV_mono {H H' : Hp} {v : V} (e : Ex H H') (h : Item H v) : rectV H' v = rectV H v := by
  obtain ⟨⟨T, k⟩, q⟩ := h
  cases k with
  | tup h1 => rw [rectV_tup h1, rectV_tup (e _ _ h1)]
  | lst h1 => simp only [rectV, h1, e _ _ h1]
  | _ => rfl
theorem item_ex {H H' : Hp} {v : V} (e : Ex H H') (h : Item H v) : Item H' v := by
  obtain ⟨⟨T, k⟩, q⟩ := h
  refine ⟨⟨T, k.mono e⟩, fun a xs ev ha x hx => ?_⟩
  cases k with
  | tup h1 =>
    cases ev
    rw [e _ _ h1] at ha
    cases ha
    obtain ⟨Tx, kx⟩ := q _ _ rfl h1 x hx
    exact ⟨Tx, kx.mono e⟩
  | lst h1 =>
    cases ev
    rw [e _ _ h1] at ha
    cases ha
  | _ => cases ev
theorem rect_yes {H : Hp} {v : V} (h : rectV H v = true) : ∃ q : Rc, RcV H v q ∧ q.l < q.r ∧ q.t < q.b := by
  cases v with
  | ref a =>
    cases e : H a with
    | none => simp only [rectV, e] at h; cases h
    | some o =>
      cases o with
      | tup xs =>
        rw [rectV_tup e] at h
        unfold rectL at h
        split at h
        · rw [Bool.and_eq_true] at h
          exact ⟨⟨_, _, _, _⟩, ⟨a, rfl, e⟩, of_decide_eq_true h.1, of_decide_eq_true h.2⟩
        · cases h
      | _ => simp only [rectV, e] at h; cases h
  | _ => cases h
theorem rects_yes {H : Hp} : ∀ {us : List V}, (∀ v ∈ us, rectV H v = true) → ∃ qs, RcsV H us qs ∧ Wide qs
  | [], _ => ⟨[], .nil, fun q hq => by simp at hq⟩
  | u :: us, h => by
    obtain ⟨q, h1, h2⟩ := rect_yes (h u (by simp))
    obtain ⟨qs, h3, h4⟩ := rects_yes (us := us) fun v hv => h v (by simp [hv])
    refine ⟨q :: qs, .cons h1 h3, fun z hz => ?_⟩
    rcases List.mem_cons.mp hz with rfl | hz
    · exact h2
    · exact h4 z hz
theorem rcs_perm {H : Hp} {us us' : List V} (h : us'.Perm us) : ∀ {qs : List Rc}, RcsV H us qs → ∃ qs' : List Rc, qs'.Perm qs ∧ RcsV H us' qs' := by
  induction h with
  | nil => intro xs r; exact ⟨xs, List.Perm.refl _, r⟩
  | cons u h ih =>
    intro xs r
    cases r with
    | cons a r =>
      obtain ⟨ys, h1, h2⟩ := ih r
      exact ⟨_, h1.cons _, .cons a h2⟩
  | swap u v l =>
    intro xs r
    cases r with
    | cons a r =>
      cases r with
      | cons b r => exact ⟨_, .swap _ _ _, .cons b (.cons a r)⟩
  | trans h1 h2 ih1 ih2 =>
    intro xs r
    obtain ⟨ys, p1, r1⟩ := ih2 r
    obtain ⟨zs, p2, r2⟩ := ih1 r1
    exact ⟨zs, p2.trans p1, r2⟩
def topOf (H : Hp) : V → Int
  | .ref a => match H a with
    | some (.tup [_, .int t, _, _]) => t
    | _ => 0
  | _ => 0
/-- the first that is none, or the written form of all -/
def spRegionOf (K : PySem.W.Frag) (PT C : Addr) : Sp := fun vs H Q E => ∃ a us, vs = [.ref a] ∧ SqL K H a us ∧ us.length ≤ 1000 ∧ (∀ v ∈ us, Item H v) ∧ LamX.Tabs (lamT PT) H ∧
  (∀ i v, us[i]? = some v → rectV H v = false → (∀ j w, j < i → us[j]? = some w → rectV H w = true) → ∀ d H', H d = none → Ex H H' → H' d = some (errD "BadRectangle" (.int (i : Nat))) → E (.ref C) (some d) H') ∧
  ∀ qs, RcsV H us qs → Wide qs → ∀ p ws fm H', (∀ b o, H b = some o → (∀ ps, o ≠ .tbl ps) → b ≠ p) → LamX.ExtN H H' → LamX.Tabs (lamT PT) H' → H' p = some (.lst ws) → RcsV H' ws fm → IsForm (covers qs) fm → fm.length ≤ 2 * qs.length * (2 * qs.length) → Q (.ref p) H'
theorem ok_region_of {f cT PT : Addr} {fd : FuncData} (F : FunT K "region_of" "region_of" s_region_of f fd cT) (TB : LamX.TabB base mg cT PT) (T : Txt K mg) {C : Addr} (KB : KindOk P w K mg base "BadRectangle" C) (D_is_rectangle : Def P w K mg base CX0 "is_rectangle" 2 ["value"] spRect)
    (D_rectangles_of : Def P w K mg base CX0 "_rectangles_of" 2 ["steps"] (spRectsOf K)) (D_joined : Def P w K mg base CX0 "_joined" 13 ["rectangles"] (spJoined K 10)) : FnOk P w K mg base (L2.CX P w) 14 f fd ["rectangles"] (spRegionOf K PT C) := by
  refine F.okX sc_region_of (fun vs H Q E h => ?_) (fun A outer s H vs Q E hr h => ?_)
  · obtain ⟨a, us, rfl, _⟩ := h
    rfl
  · obtain ⟨a, us, rfl, ha, lu, it, tb, qE, qN⟩ := h
    obtain ⟨fC, KT, fdC, GC, ⟨ds, hds, bC⟩, bA⟩ := KB
    refine ⟨_, (pss_cons (ps_for (passes_of rfl) rfl (kpiE K (by rfl) T.enumerate_ (pa_cons (pv 0) pa_nil)) (kpgT K (n := 2) rfl (pgs_cons (pg_name (i := 1) sc_region_of.nd rfl (by first | exact Or.inl rfl | exact Or.inr rfl)) (pgs_cons (pg_name (i := 2) sc_region_of.nd rfl (by first | exact Or.inl rfl | exact Or.inr rfl)) pgs_nil)))
        (pss_one (ps_if (pt_not (pt_val (pe_call D_is_rectangle.ok (hr.mono (by decide)) rfl D_is_rectangle.mgf D_is_rectangle.kp D_is_rectangle.b .nil pass0 (pa_cons (pv 2) pa_nil))))
          (pss_one (ps_raise rfl (takes_of rfl rfl rfl rfl) (pmk_oex KT.T KT.iC KT.tI GC (hr.mono (by decide)) bA .nil pass0 rfl KT.g (pa_cons (pv 1) pa_nil))))
          pss_nil)))
      (pss_one (ps_ret (pe_call D_rectangles_of.ok (hr.mono (by decide)) rfl D_rectangles_of.mgf D_rectangles_of.kp D_rectangles_of.b .nil pass0 (pa_cons (pe_call D_joined.ok (hr.mono (by decide)) rfl D_joined.mgf D_joined.kp D_joined.b .nil pass0 (pa_cons (pe_sortedLam K (N := ["rectangle"]) (T := [(PT, "region_of.<locals>.<lambda>")]) TB rfl (List.mem_singleton.mpr rfl) (fun p hp _ => congrArg Prod.snd (List.mem_singleton.mp hp)) (hr.mono (by decide)) rfl rfl (by rfl) T.sorted_ (pa_cons (pv 0) pa_nil) ⟨rfl, rfl, rfl, by decide +kernel, rfl, by decide +kernel, by decide +kernel⟩ (fun _ _ _ _ _ => (pe_ix (kixT K) (pv 0) pe_int (fun _ _ => rfl)))) pa_nil)) pa_nil))))), ?_⟩
    refine ⟨_, rfl, a, us, rfl, ha, ?_⟩
    refine for_it (walk_enum (xs := us)) (fun i σ H' => Ex H H' ∧ (∃ x y, σ = [some (.ref a), x, y]) ∧ ∀ j w, j < i → us[j]? = some w → rectV H w = true) ⟨Ex.refl _, ⟨_, _, rfl⟩, fun j w hj => absurd hj (Nat.not_lt_zero _)⟩ (fun i σ H' _ p => ex_l p.1 ha) ?_ ?_
    · rintro i v σ H1 H' hi ⟨e1, ⟨x, y, rfl⟩, hall⟩ ⟨t, xi, u, rfl, ht, rfl, hx, hu⟩
      cases hx
      have hu : us[i]? = some u := hu
      have f1 := Ex.new (o := .tup [.int (i : Nat), u]) ht
      have k1 : upd H1 t (.tup [.int (i : Nat), u]) t = some (.tup [.int (i : Nat), u]) := upd_same
      generalize upd H1 t (.tup [.int (i : Nat), u]) = H2 at f1 k1 ⊢
      have e2 := e1.trans f1
      have iu := it u (List.mem_of_getElem? hu)
      refine ⟨t, _, rfl, SqT.of k1, rfl, _, _, rfl, _, _, rfl, rfl, ?_⟩
      refine ⟨_, rfl, u, rfl, item_ex e2 iu, fun H3 e3 => ⟨_, rfl, ?_⟩⟩
      rw [rcV_mono e2 iu]
      have e13 := e2.trans e3
      cases c : rectV H u with
      | false =>
        refine iteT ?_
        exact ⟨_, rfl, (by show 1 ≤ 1000; decide), fun b hb => kind_made KT hb fun d H' h1 h2 h3 => qE i u hu c hall d H' (ex_free e13 h1) (e13.trans h2) h3⟩
      | true =>
        refine iteF ?_
        refine ⟨e13, ⟨_, _, rfl⟩, fun j w hj hw => ?_⟩
        by_cases e : j = i
        · subst e
          rw [hu] at hw
          cases hw
          exact c
        · exact hall j w (by omega) hw
    · rintro σ H1 ⟨e1, ⟨x, y, rfl⟩, hall⟩
      have all : ∀ v ∈ us, rectV H v = true := fun v hv => by
        obtain ⟨j, hj⟩ := List.getElem?_of_mem hv
        exact hall j v (List.getElem?_eq_some_iff.mp hj).1 hj
      obtain ⟨qs, hq, hw⟩ := rects_yes all
      have hul := hq.length
      refine ⟨_, rfl, a, us, topOf H, rfl, ex_l e1 ha, tb.ext e1, fun v hv H2 en => ?_, fun H2 p us' en tb2 np hp => ?_⟩
      · obtain ⟨q, ⟨b, rfl, hb⟩, _⟩ := rect_yes (all v hv)
        have et : topOf H (.ref b) = q.t := by simp only [topOf, hb]
        rw [et]
        exact ⟨_, rfl, b, _, 1, _, rfl, rfl, SqT.of (extN_tk en _ _ (e1 _ _ hb)), rfl, rfl, rfl⟩
      · have f2 := Ex.new (o := .lst us') np
        have k2 : upd H2 p (.lst us') p = some (.lst us') := upd_same
        have tb3 : LamX.Tabs (lamT PT) (upd H2 p (.lst us')) := tb2.ext f2
        generalize upd H2 p (.lst us') = H3 at f2 k2 tb3 ⊢
        have en3 : LamX.ExtN H H3 := fun b o hb n => f2 _ _ (en b o (e1 b o hb) n)
        obtain ⟨qs', hp', hq'⟩ := rcs_perm hp (hq.tk (extN_tk en3))
        have len := hp'.length_eq
        refine ⟨p, us', qs', rfl, SqL.of k2, hq', fun z hz => hw z (hp'.mem_iff.mp hz), by show qs'.length ≤ 1024; omega, by decide, fun p4 w4 s4 H4 hp4 e4 k4 r4 t4 => ?_⟩
        have fl := t4.flen
        have sl := t4.len
        have big : 2 * qs'.length * (2 * qs'.length) ≤ 2000 * 2000 := Nat.mul_le_mul (by omega) (by omega)
        refine ⟨p4, w4, s4, rfl, k4, r4, by omega, fun z hz => (t4.v.ev z hz).even, by omega, fun p5 w5 H5 hp5 e5 k5 r5 => ?_⟩
        have en5 : LamX.ExtN H H5 := fun b o hb n => e5 _ _ (e4 _ _ (en3 b o hb n))
        have nf : ∀ b o, H b = some o → (∀ ps, o ≠ .tbl ps) → b ≠ p5 := fun b o hb nt z => by
          have := e4 _ _ (en3 b o hb nt)
          rw [z, hp5] at this
          cases this
        refine qN qs hq hw p5 w5 _ H5 nf en5 ((tb3.ext e4).ext e5) k5 r5 ?_ (by rw [len] at fl; exact fl)
        obtain ⟨y, bs, h1, h2, h3⟩ := t4.form
        exact ⟨y, bs, h1, fun x y => (h2 x y).trans (covers_perm hp'), h3⟩
theorem rcs_one {H : Hp} : ∀ {us : List V} {qs zs : List Rc}, RcsV H us qs → RcsV H us zs → qs = zs := by
  have one : ∀ {v : V} {q z : Rc}, RcV H v q → RcV H v z → q = z := fun {v q z} h k => by
    obtain ⟨p, rfl, hp⟩ := h
    obtain ⟨p', e, hp'⟩ := k
    cases e
    rw [hp] at hp'
    cases q
    cases z
    simp only [Option.some.injEq, HO.tup.injEq, List.cons.injEq, V.int.injEq, and_true] at hp'
    obtain ⟨rfl, rfl, rfl, rfl⟩ := hp'
    rfl
  intro us
  induction us with
  | nil => intro qs zs h k; cases h; cases k; rfl
  | cons u us ih =>
    intro qs zs h k
    cases h with
    | cons a r =>
      cases k with
      | cons b t => rw [one a b, ih r t]
theorem rc_item {H : Hp} {v : V} {q : Rc} (h : RcV H v q) : Item H v := by
  obtain ⟨p, rfl, hp⟩ := h
  refine ⟨⟨_, .tup hp⟩, fun b ys e hb x hx => ?_⟩
  cases e
  rw [hp] at hb
  cases hb
  simp only [List.mem_cons, List.not_mem_nil, or_false] at hx
  rcases hx with rfl | rfl | rfl | rfl <;> exact ⟨_, .int _⟩
theorem Reg.extN {H H' : Hp} {pts : List Pt} {a : Addr} {S : Int → Int → Prop} (h : Reg H pts a S) (e : LamX.ExtN H H') : Reg H' pts a S := by
  obtain ⟨us, f, h1, h2, h3⟩ := h
  exact ⟨us, f, e _ _ h1 (fun ps z => by cases z), h2.tk (extN_tk e), h3⟩
theorem rcs_items {H : Hp} {us : List V} {qs : List Rc} (hq : RcsV H us qs) : ∀ v ∈ us, Item H v := fun v hv => by
  obtain ⟨j, hj⟩ := List.getElem?_of_mem hv
  obtain ⟨z, _, hz⟩ := pr_get hq hj
  exact rc_item hz
theorem rcs_good {H : Hp} {us : List V} {qs : List Rc} (hq : RcsV H us qs) (hw : Wide qs) {i : Nat} {v : V} (h1 : us[i]? = some v) (h2 : rectV H v = false) : False := by
  obtain ⟨z, hz, hzv⟩ := pr_get hq h1
  have := hw z (List.mem_of_getElem? hz)
  obtain ⟨p, rfl, hp⟩ := hzv
  rw [rectV_tup hp] at h2
  have e : rectL [.int z.l, .int z.t, .int z.r, .int z.b] = (decide (z.l < z.r) && decide (z.t < z.b)) := rfl
  rw [e, decide_eq_true this.1, decide_eq_true this.2] at h2
  cases h2
theorem Reg.made {H : Hp} {p : Addr} {ws : List V} {fm qs : List Rc} (hT : H p = some (.lst ws)) (hTc : RcsV H ws fm) (form : IsForm (covers qs) fm) : Reg H (covPts qs) p (covers qs) := ⟨ws, fm, hT, hTc, form, fun x y h => mem_covPts.mpr h⟩
abbrev s_l_unlike : Stmt := top 113
theorem sc_l_unlike : FnScope ["one", "other", "frame", "before", "behind", "found", "y", "x"] ["one", "other", "frame"] (defScope s_l_unlike) := ⟨rfl, rfl, rfl, by decide +kernel, rfl, by decide +kernel, by decide +kernel⟩
/-- the points of a canvas whose stacks differ, row by row -/
noncomputable def unlikeRow (x o : Fi) (f : Int) (j n : Nat) : List Pt := (List.range n).filterMap fun (i : Nat) => if PyData.eqv (stkD (x.lstack f i j)) (stkD (o.lstack f i j)) = true then none else some ((i : Int), (j : Int))
noncomputable def unlike (x o : Fi) (f : Int) (n : Nat) : List Pt := (List.range n).flatMap fun j => unlikeRow x o f j x.w.toNat
theorem unlikeRow_succ (x o : Fi) (f : Int) (j n : Nat) : unlikeRow x o f j (n + 1) = unlikeRow x o f j n ++ (if PyData.eqv (stkD (x.lstack f n j)) (stkD (o.lstack f n j)) = true then [] else [((n : Int), (j : Int))]) := by
  unfold unlikeRow
  rw [List.range_succ, List.filterMap_append]
  congr 1
  by_cases h : PyData.eqv (stkD (x.lstack f n j)) (stkD (o.lstack f n j)) = true
  · simp [h]
  · simp [h]
theorem unlikeRow_len (x o : Fi) (f : Int) (j n : Nat) : (unlikeRow x o f j n).length ≤ n := by
  have := List.length_filterMap_le (fun (i : Nat) => if PyData.eqv (stkD (x.lstack f i j)) (stkD (o.lstack f i j)) = true then none else some ((i : Int), (j : Int))) (List.range n)
  rw [List.length_range] at this
  exact this
theorem unlike_succ (x o : Fi) (f : Int) (n : Nat) : unlike x o f (n + 1) = unlike x o f n ++ unlikeRow x o f n x.w.toNat := by
  unfold unlike
  rw [List.range_succ, List.flatMap_append]
  simp
theorem unlike_len (x o : Fi) (f : Int) : ∀ n, (unlike x o f n).length ≤ n * x.w.toNat
  | 0 => by simp [unlike]
  | n + 1 => by
    rw [unlike_succ, List.length_append, Nat.succ_mul]
    exact Nat.add_le_add (unlike_len x o f n) (unlikeRow_len ..)
def spUnlike (K : PySem.W.Frag) : Sp := fun vs H Q _ => ∃ (v u : V) (x o : Fi) (f : Int), vs = [v, u, .int f] ∧ FiV H v x ∧ FiV H u o ∧ x.Vd ∧ o.Vd ∧ o.w = x.w ∧ o.h = x.h ∧ ∀ p us H', H p = none → Ex H H' → H' p = some (.lst us) → PtsV H' us (unlike x o f x.h.toNat) → Q (.ref p) H'
theorem ok_l_unlike {f : Addr} {fd : FuncData} (F : Fun K "_law_unlike" "_law_unlike" s_l_unlike f fd) (T : Txt K mg) (D_l_stacks : Def P w K mg base CX0 "_law_stacks" 4 ["parts", "frame"] (spLStacks K)) : FnOk P w K mg base CX0 5 f fd ["one", "other", "frame"] (spUnlike K) := by
  refine F.ok sc_l_unlike (fun vs H Q E h => ?_) (fun cdv A outer s H vs Q E hr h => ?_)
  · obtain ⟨v, u, x, o, fr, rfl, _⟩ := h
    rfl
  · obtain ⟨v, u, x, o, fr, rfl, hv, hu, k, k2, ow, oh, q⟩ := h
    obtain ⟨a, L, us, rfl, ha, hL, hP⟩ := id hv
    have kh0 := k.h0
    have kh1 := k.h1
    have kw0 := k.w0
    have kw1 := k.w1
    refine ⟨_, (pss_cons (ps_set (i := 3) sc_l_unlike.nd rfl (by first | exact Or.inl rfl | exact Or.inr rfl) (pe_call D_l_stacks.ok (hr.mono (by decide)) rfl D_l_stacks.mgf D_l_stacks.kp D_l_stacks.b .nil pass0 (pa_cons (pv 0) (pa_cons (pv 2) pa_nil))))
      (pss_cons (ps_set (i := 4) sc_l_unlike.nd rfl (by first | exact Or.inl rfl | exact Or.inr rfl) (pe_call D_l_stacks.ok (hr.mono (by decide)) rfl D_l_stacks.mgf D_l_stacks.kp D_l_stacks.b .nil pass0 (pa_cons (pv 1) (pa_cons (pv 2) pa_nil))))
      (pss_cons (ps_set (i := 5) sc_l_unlike.nd rfl (by first | exact Or.inl rfl | exact Or.inr rfl) (pe_lst pa_nil))
      (pss_cons (ps_for PassesOwn.never rfl (pi_range1 (by rfl) T.range_ (pa_cons (pe_ix (kixT K) (pv 0) pe_int (fun _ _ => rfl)) pa_nil)) (pg_name (i := 6) sc_l_unlike.nd rfl (by first | exact Or.inl rfl | exact Or.inr rfl))
        (pss_one (ps_for PassesOwn.never rfl (pi_range1 (by rfl) T.range_ (pa_cons (pe_ix (kixT K) (pv 0) pe_int (fun _ _ => rfl)) pa_nil)) (pg_name (i := 7) sc_l_unlike.nd rfl (by first | exact Or.inl rfl | exact Or.inr rfl))
          (pss_one (ps_if (pt_cmpR (kneD K hr.units) (pe_ix (kixL K) (pe_ix (kixL K) (pv 3) (pv 6) (fun _ _ => rfl)) (pv 7) (fun _ _ => rfl)) (pe_ix (kixL K) (pe_ix (kixL K) (pv 4) (pv 6) (fun _ _ => rfl)) (pv 7) (fun _ _ => rfl)) (nomark _))
            (pss_one (ps_expr (pe_bm PySem.F.plainAttrs_list PySem.F.slot_list_append PySem.F.type_list_append mt_append (pv 5) (pa_cons (pe_tup (pa_cons (pv 7) (pa_cons (pv 6) pa_nil))) pa_nil))))
            pss_nil)))))
      (pss_one (ps_ret (pv 5))))))), ?_⟩
    rw [start_nrm (Nat.le_of_ble_eq_true rfl)]; dsimp only [startL]
    refine ⟨_, rfl, _, rfl, .ref a, x, fr, rfl, hv, k, fun d1 H1 e1 hG1 => ?_⟩
    dsimp only [List.set]
    have hu1 : FiV H1 u o := by
      obtain ⟨b, M, ws, rfl, hb, hM, hQ⟩ := hu
      exact ⟨b, M, ws, rfl, e1 _ _ hb, e1 _ _ hM, Paired.mapP hQ fun _ _ => LaV.tk (TK.ex e1)⟩
    refine ⟨_, rfl, _, rfl, u, o, fr, rfl, hu1, k2, fun d2 H2 e2 hG2 => ?_⟩
    dsimp only [List.set]
    have hG1 := hG1.ex e2
    refine ⟨(by show 0 ≤ sizeLine; decide), fun D hD => ?_⟩
    have e3 := Ex.new (o := .lst []) hD
    have g3 : upd H2 D (.lst []) D = some (.lst []) := upd_same
    generalize upd H2 D (.lst []) = H3 at e3 g3 ⊢
    dsimp only [List.set]
    have e12 := e1.trans e2
    have hG1 := hG1
    obtain ⟨da, gs, rfl, hda, hGG1⟩ := id hG1
    obtain ⟨db, gt, rfl, hdb, hGG2⟩ := id hG2
    have ha2 := e12 _ _ ha
    refine ⟨_, rfl, a, _, 1, _, rfl, rfl, SqT.of (e3 _ _ ha2), rfl, x.h, rfl, by omega, by omega, ?_⟩
    refine for_range (lo := 0) (n := x.h.toNat) (fun j σ H' => Ex H2 H' ∧ (∃ (y6 y7 : Option V), σ = [some (.ref a), some u, some (.int fr), some (.ref da), some (.ref db), some (.ref D), y6, y7]) ∧ ∃ ws, H' D = some (.lst ws) ∧ PtsV H' ws (unlike x o fr j)) ⟨e3, ⟨_, _, rfl⟩, [], g3, .nil⟩ ?_ ?_
    · rintro j σ H4 hj ⟨e4, ⟨y6, y7, rfl⟩, ws, hW, hPW⟩
      dsimp only [List.set]
      refine ⟨_, rfl, a, _, 0, _, rfl, rfl, SqT.of (e4 _ _ ha2), rfl, x.w, rfl, by omega, by omega, ?_⟩
      refine for_range (lo := 0) (n := x.w.toNat) (fun i σ H' => Ex H2 H' ∧ (∃ (y7 : Option V), σ = [some (.ref a), some u, some (.int fr), some (.ref da), some (.ref db), some (.ref D), some (.int (0 + (j : Int))), y7]) ∧ ∃ ws, H' D = some (.lst ws) ∧ PtsV H' ws (unlike x o fr j ++ unlikeRow x o fr j i)) ⟨e4, ⟨_, rfl⟩, ws, hW, by have z : unlikeRow x o fr j 0 = [] := rfl; rw [z, List.append_nil]; exact hPW⟩ ?_ ?_
      · rintro i σ H5 hi ⟨e5, ⟨y7, rfl⟩, ws, hW, hPW⟩
        dsimp only [List.set]
        have r1 : (x.lgrid fr)[j]? = some (x.lsrow fr j) := by
          unfold Fi.lgrid
          rw [List.getElem?_map, List.getElem?_range (by omega)]
          rfl
        have r2 : (o.lgrid fr)[j]? = some (o.lsrow fr j) := by
          unfold Fi.lgrid
          rw [List.getElem?_map, List.getElem?_range (by omega)]
          rfl
        have c1 : (x.lsrow fr j)[i]? = some (x.lstack fr i j) := by
          unfold Fi.lsrow
          rw [List.getElem?_map, List.getElem?_range (by omega)]
          rfl
        have c2 : (o.lsrow fr j)[i]? = some (o.lstack fr i j) := by
          unfold Fi.lsrow
          rw [List.getElem?_map, List.getElem?_range (by omega)]
          rfl
        obtain ⟨v1, hv1, b1, w1, rfl, _, hb1, hR1⟩ := pr_getR hGG1 r1
        obtain ⟨v2, hv2, b2, w2, rfl, _, hb2, hR2⟩ := pr_getR hGG2 r2
        obtain ⟨s1, hs1, p1, t1, rfl, _, hp1, hS1⟩ := pr_getR hR1 c1
        obtain ⟨s2, hs2, p2, t2, rfl, _, hp2, hS2⟩ := pr_getR hR2 c2
        have z1 : atI gs (0 + (j : Int)) = some (.ref b1) := by rw [Int.zero_add]; exact atI_nat hv1
        have z2 : atI gt (0 + (j : Int)) = some (.ref b2) := by rw [Int.zero_add]; exact atI_nat hv2
        have z3 : atI w1 (0 + (i : Int)) = some (.ref p1) := by rw [Int.zero_add]; exact atI_nat hs1
        have z4 : atI w2 (0 + (i : Int)) = some (.ref p2) := by rw [Int.zero_add]; exact atI_nat hs2
        refine ⟨_, rfl, _, rfl, da, gs, _, _, rfl, rfl, SqL.of (e5 _ _ hda), z1, _, rfl, b1, w1, _, _, rfl, rfl, SqL.of (e5 _ _ hb1), z3, ?_⟩
        refine ⟨_, rfl, _, rfl, db, gt, _, _, rfl, rfl, SqL.of (e5 _ _ hdb), z2, _, rfl, b2, w2, _, _, rfl, rfl, SqL.of (e5 _ _ hb2), z4, ?_⟩
        refine ⟨_, _, stk_dp (e5 _ _ hp1) (Paired.mapP hS1 fun _ _ => SeV.tk (TK.ex e5)), stk_dp (e5 _ _ hp2) (Paired.mapP hS2 fun _ _ => SeV.tk (TK.ex e5)), stk_shaped _, stk_shaped _, _, rfl, ?_⟩
        rw [unlikeRow_succ]
        cases he : PyData.eqv (stkD (x.lstack fr i j)) (stkD (o.lstack fr i j)) with
        | true =>
          refine iteF ?_
          refine ⟨e5, ⟨_, rfl⟩, ws, hW, ?_⟩
          rw [if_pos rfl, List.append_nil]
          exact hPW
        | false =>
          refine iteT ?_
          rw [if_neg Bool.false_ne_true]
          have lw := hPW.length
          rw [List.length_append] at lw
          have l1 := unlike_len x o fr j
          have l2 := unlikeRow_len x o fr j i
          have l3 : j * x.w.toNat ≤ 64 * 64 := Nat.mul_le_mul (by omega) (by omega)
          refine ⟨_, rfl, .inl ⟨rfl, _, SqL.of hW⟩, ?_⟩
          refine ⟨_, rfl, _, rfl, (by show 2 ≤ sizeLine; decide), fun t ht => ?_⟩
          have f6 := Ex.new (o := .tup [.int (0 + (i : Int)), .int (0 + (j : Int))]) ht
          have g6 : upd H5 t (.tup [.int (0 + (i : Int)), .int (0 + (j : Int))]) t = some (.tup [.int (0 + (i : Int)), .int (0 + (j : Int))]) := upd_same
          generalize upd H5 t (.tup [.int (0 + (i : Int)), .int (0 + (j : Int))]) = H6 at f6 g6 ⊢
          have hW6 := f6 _ _ hW
          refine ⟨D, ws, .ref t, rfl, rfl, hW6, slineL (by omega), ?_⟩
          have tk := TK.lst (o := .lst (ws ++ [.ref t])) hW6
          refine ⟨(e5.trans f6).mut hD, ⟨_, rfl⟩, ws ++ [.ref t], upd_same, ?_⟩
          rw [Int.zero_add, Int.zero_add] at g6
          rw [← List.append_assoc]
          exact pr_append (Paired.mapP (Paired.mapP hPW fun _ _ => PtV.tk (TK.ex f6)) fun _ _ => PtV.tk tk) (.cons (PtV.tk tk ⟨t, rfl, g6⟩) .nil)
      · rintro σ H5 ⟨e5, ⟨y7, rfl⟩, ws, hW, hPW⟩
        rw [← unlike_succ] at hPW
        exact ⟨e5, ⟨_, _, rfl⟩, ws, hW, hPW⟩
    · rintro σ H4 ⟨e4, ⟨y6, y7, rfl⟩, ws, hW, hPW⟩
      exact ⟨_, rfl, q D ws H4 (ex_free e12 hD) (e12.trans e4) hW hPW⟩
def stretch (es : List Int) : List Pt := es.zip (es.drop 1)
theorem stretch_in : ∀ {es : List Int}, es.Pairwise (· < ·) → ∀ q ∈ stretch es, q.1 ∈ es ∧ q.2 ∈ es ∧ q.1 < q.2 ∧ ∀ e ∈ es, e ≤ q.1 ∨ q.2 ≤ e
  | [], _, q, h => by simp [stretch] at h
  | [a], _, q, h => by simp [stretch] at h
  | a :: b :: t, p, q, h => by
    have e : stretch (a :: b :: t) = (a, b) :: stretch (b :: t) := rfl
    rw [e] at h
    obtain ⟨p1, p2⟩ := List.pairwise_cons.mp p
    rcases List.mem_cons.mp h with rfl | h
    · refine ⟨by simp, by simp, p1 b (by simp), fun e he => ?_⟩
      rcases List.mem_cons.mp he with rfl | he
      · exact .inl (Int.le_refl _)
      · rcases List.mem_cons.mp he with rfl | he
        · exact .inr (Int.le_refl _)
        · exact .inr (Int.le_of_lt ((List.pairwise_cons.mp p2).1 e he))
    · obtain ⟨h1, h2, h3, h4⟩ := stretch_in p2 q h
      refine ⟨List.mem_cons_of_mem _ h1, List.mem_cons_of_mem _ h2, h3, fun e he => ?_⟩
      rcases List.mem_cons.mp he with rfl | he
      · have := p1 _ h1
        exact .inl (by omega)
      · exact h4 e he
theorem stretch_cov : ∀ {es : List Int} {a b z : Int}, es.Pairwise (· < ·) → a ∈ es → b ∈ es → a ≤ z → z < b → ∃ q ∈ stretch es, q.1 ≤ z ∧ z < q.2
  | [], a, b, z, _, h, _, _, _ => by simp at h
  | [c], a, b, z, _, h, k, h1, h2 => by
    rw [List.mem_singleton] at h k
    omega
  | c :: d :: t, a, b, z, p, h, k, h1, h2 => by
    have e : stretch (c :: d :: t) = (c, d) :: stretch (d :: t) := rfl
    obtain ⟨p1, p2⟩ := List.pairwise_cons.mp p
    have ca : c ≤ a := by
      rcases List.mem_cons.mp h with rfl | h
      · exact Int.le_refl _
      · exact Int.le_of_lt (p1 a h)
    by_cases hz : z < d
    · exact ⟨(c, d), by rw [e]; exact List.mem_cons_self .., by show c ≤ z; omega, hz⟩
    · have cd := p1 d (by simp)
      have kb : b ∈ d :: t := by
        rcases List.mem_cons.mp k with rfl | k
        · omega
        · exact k
      obtain ⟨q, hq, k1, k2⟩ := stretch_cov (a := d) (b := b) (z := z) p2 (List.mem_cons_self ..) kb (by omega) h2
      exact ⟨q, by rw [e]; exact List.mem_cons_of_mem _ hq, k1, k2⟩
theorem stretch_len (es : List Int) : (stretch es).length ≤ es.length - 1 := by
  unfold stretch
  rw [List.length_zip, List.length_drop]
  omega
theorem stack_const {a z c y : Int} : ∀ {ss : List Sht}, (∀ s ∈ ss, (s.ext.l ≤ a ↔ s.ext.l ≤ z) ∧ (a < s.ext.r ↔ z < s.ext.r) ∧ (s.ext.t ≤ c ↔ s.ext.t ≤ y) ∧ (c < s.ext.b ↔ y < s.ext.b)) → stackS a c ss = stackS z y ss
  | [], _ => rfl
  | s :: ss, h => by
    have ih := stack_const (ss := ss) fun t ht => h t (List.mem_cons_of_mem _ ht)
    obtain ⟨h1, h2, h3, h4⟩ := h s (List.mem_cons_self ..)
    rw [stackS, stackS]
    have e : s.here a c ↔ s.here z y := by
      unfold Sht.here
      rw [h1, h2, h3, h4]
    by_cases hh : s.here a c
    · rw [if_pos hh, if_pos (e.mp hh), ih]
    · rw [if_neg hh, if_neg fun k => hh (e.mpr k), ih]
def cellRow (A B : List Sht) (xs : List Pt) (r : Pt) : List Rc := (xs.filter fun c => !PyData.eqv (stkD (stackS c.1 r.1 A)) (stkD (stackS c.1 r.1 B))).map fun c => ⟨c.1, r.1, c.2, r.2⟩
def cellsD (A B : List Sht) (xs ys : List Pt) : List Rc := ys.flatMap (cellRow A B xs)
theorem cellRow_len (A B : List Sht) (xs : List Pt) (r : Pt) : (cellRow A B xs r).length ≤ xs.length := by
  unfold cellRow
  rw [List.length_map]
  exact List.length_filter_le ..
theorem cellsD_len (A B : List Sht) (xs ys : List Pt) : (cellsD A B xs ys).length ≤ ys.length * xs.length := flatMap_len fun r _ => cellRow_len A B xs r
theorem mem_cells {A B : List Sht} {xs ys : List Pt} {q : Rc} : q ∈ cellsD A B xs ys ↔ (q.l, q.r) ∈ xs ∧ (q.t, q.b) ∈ ys ∧ stackS q.l q.t A ≠ stackS q.l q.t B := by
  unfold cellsD cellRow
  rw [List.mem_flatMap]
  constructor
  · rintro ⟨r, hr, h⟩
    obtain ⟨c, hc, rfl⟩ := List.mem_map.mp h
    obtain ⟨h1, h2⟩ := List.mem_filter.mp hc
    refine ⟨h1, hr, fun e => ?_⟩
    have e : stackS c.1 r.1 A = stackS c.1 r.1 B := e
    rw [e, eqv_self (stk_lay _)] at h2
    cases h2
  · rintro ⟨h1, h2, h3⟩
    refine ⟨_, h2, List.mem_map.mpr ⟨(q.l, q.r), List.mem_filter.mpr ⟨h1, ?_⟩, rfl⟩⟩
    cases he : PyData.eqv (stkD (stackS q.l q.t A)) (stkD (stackS q.l q.t B)) with
    | true => exact absurd (stk_inj he) h3
    | false => rfl
/-- the sheets lie on a canvas, the lowest one covers it -/
structure OnCanvas (w h : Int) (ss : List Sht) : Prop where
  on : ∀ s ∈ ss, 0 ≤ s.ext.l ∧ s.ext.r ≤ w ∧ 0 ≤ s.ext.t ∧ s.ext.b ≤ h ∧ s.ext.l ≤ w ∧ 0 ≤ s.ext.r ∧ s.ext.t ≤ h ∧ 0 ≤ s.ext.b
  all : ∃ s ∈ ss, s.ext = ⟨0, 0, w, h⟩
theorem cells_cover {w h : Int} {A B : List Sht} {xs ys : List Int} (oa : OnCanvas w h A) (ob : OnCanvas w h B) (px : xs.Pairwise (· < ·)) (py : ys.Pairwise (· < ·)) (mx : ∀ k, k ∈ xs ↔ ∃ s ∈ A ++ B, k = s.ext.l ∨ k = s.ext.r) (my : ∀ k, k ∈ ys ↔ ∃ s ∈ A ++ B, k = s.ext.t ∨ k = s.ext.b) (x y : Int) :
    covers (cellsD A B (stretch xs) (stretch ys)) x y ↔ 0 ≤ x ∧ x < w ∧ 0 ≤ y ∧ y < h ∧ stackS x y A ≠ stackS x y B := by
  have on : ∀ s ∈ A ++ B, 0 ≤ s.ext.l ∧ s.ext.r ≤ w ∧ 0 ≤ s.ext.t ∧ s.ext.b ≤ h ∧ s.ext.l ≤ w ∧ 0 ≤ s.ext.r ∧ s.ext.t ≤ h ∧ 0 ≤ s.ext.b := fun s hs => by
    rcases List.mem_append.mp hs with hs | hs
    · exact oa.on s hs
    · exact ob.on s hs
  have key : ∀ {c r : Pt}, c ∈ stretch xs → r ∈ stretch ys → c.1 ≤ x → x < c.2 → r.1 ≤ y → y < r.2 → ∀ s ∈ A ++ B, (s.ext.l ≤ c.1 ↔ s.ext.l ≤ x) ∧ (c.1 < s.ext.r ↔ x < s.ext.r) ∧ (s.ext.t ≤ r.1 ↔ s.ext.t ≤ y) ∧ (r.1 < s.ext.b ↔ y < s.ext.b) := fun {c r} hc hr a1 a2 a3 a4 s hs => by
    obtain ⟨_, _, _, k1⟩ := stretch_in px c hc
    obtain ⟨_, _, _, k2⟩ := stretch_in py r hr
    have b1 := k1 s.ext.l ((mx _).mpr ⟨s, hs, .inl rfl⟩)
    have b2 := k1 s.ext.r ((mx _).mpr ⟨s, hs, .inr rfl⟩)
    have b3 := k2 s.ext.t ((my _).mpr ⟨s, hs, .inl rfl⟩)
    have b4 := k2 s.ext.b ((my _).mpr ⟨s, hs, .inr rfl⟩)
    refine ⟨⟨fun _ => ?_, fun _ => ?_⟩, ⟨fun _ => ?_, fun _ => ?_⟩, ⟨fun _ => ?_, fun _ => ?_⟩, ⟨fun _ => ?_, fun _ => ?_⟩⟩ <;> omega
  constructor
  · rintro ⟨q, hq, h1, h2, h3, h4⟩
    obtain ⟨k1, k2, k3⟩ := mem_cells.mp hq
    have kk := key k1 k2 h1 h2 h3 h4
    obtain ⟨m1, m2, _, _⟩ := stretch_in px _ k1
    obtain ⟨m3, m4, _, _⟩ := stretch_in py _ k2
    obtain ⟨s1, hs1, e1⟩ := (mx _).mp m1
    obtain ⟨s2, hs2, e2⟩ := (mx _).mp m2
    obtain ⟨s3, hs3, e3⟩ := (my _).mp m3
    obtain ⟨s4, hs4, e4⟩ := (my _).mp m4
    have o1 := on s1 hs1
    have o2 := on s2 hs2
    have o3 := on s3 hs3
    have o4 := on s4 hs4
    dsimp only at e1 e2 e3 e4
    refine ⟨by omega, by omega, by omega, by omega, ?_⟩
    rw [← stack_const fun s hs => kk s (List.mem_append.mpr (.inl hs)), ← stack_const fun s hs => kk s (List.mem_append.mpr (.inr hs))]
    exact k3
  · rintro ⟨x0, x1, y0, y1, ne⟩
    obtain ⟨s, hs, es⟩ := oa.all
    have hs2 := List.mem_append.mpr (.inl hs : s ∈ A ∨ s ∈ B)
    obtain ⟨c, hc, c1, c2⟩ := stretch_cov (a := 0) (b := w) (z := x) px ((mx _).mpr ⟨s, hs2, .inl (by rw [es])⟩) ((mx _).mpr ⟨s, hs2, .inr (by rw [es])⟩) x0 x1
    obtain ⟨r, hr, r1, r2⟩ := stretch_cov (a := 0) (b := h) (z := y) py ((my _).mpr ⟨s, hs2, .inl (by rw [es])⟩) ((my _).mpr ⟨s, hs2, .inr (by rw [es])⟩) y0 y1
    have kk := key hc hr c1 c2 r1 r2
    refine ⟨⟨c.1, r.1, c.2, r.2⟩, mem_cells.mpr ⟨hc, hr, ?_⟩, c1, c2, r1, r2⟩
    show stackS c.1 r.1 A ≠ stackS c.1 r.1 B
    rw [stack_const fun s hs => kk s (List.mem_append.mpr (.inl hs)), stack_const fun s hs => kk s (List.mem_append.mpr (.inr hs))]
    exact ne
theorem cells_wide {A B : List Sht} {xs ys : List Int} (px : xs.Pairwise (· < ·)) (py : ys.Pairwise (· < ·)) : Wide (cellsD A B (stretch xs) (stretch ys)) := fun q hq => by
  obtain ⟨k1, k2, _⟩ := mem_cells.mp hq
  exact ⟨(stretch_in px _ k1).2.2.1, (stretch_in py _ k2).2.2.1⟩
theorem sheets_on (x : Fi) (f : Int) (w0 : 1 ≤ x.w) (h0 : 1 ≤ x.h) : OnCanvas x.w x.h (x.sheets f) := by
  unfold Fi.sheets
  refine ⟨fun s hs => ?_, ⟨_, List.mem_append.mpr (.inr (List.mem_singleton_self _)), rfl⟩⟩
  rcases List.mem_append.mp hs with hs | hs
  · obtain ⟨i, hi, rfl⟩ := List.mem_map.mp hs
    obtain ⟨l, hl, h⟩ := List.mem_filterMap.mp (List.mem_reverse.mp hi)
    unfold Fi.item at h
    split at h
    · rename_i c r hc hr
      split at h
      · cases h
      · cases h
        show 0 ≤ r.l ∧ r.r ≤ x.w ∧ 0 ≤ r.t ∧ r.b ≤ x.h ∧ r.l ≤ x.w ∧ 0 ≤ r.r ∧ r.t ≤ x.h ∧ 0 ≤ r.b
        unfold Fi.ext at hr
        split at hr
        · cases hr
        · rename_i no
          obtain rfl := Option.some.inj hr
          have b1 : 0 ≤ (box4 x l f).l := by
            show 0 ≤ (if (l.corner f).1 > 0 then (l.corner f).1 else 0)
            split <;> omega
          have b2 : 0 ≤ (box4 x l f).t := by
            show 0 ≤ (if (l.corner f).2 > 0 then (l.corner f).2 else 0)
            split <;> omega
          have b3 : (box4 x l f).r ≤ x.w := by
            show (if (l.corner f).1 + l.box.w < x.w then (l.corner f).1 + l.box.w else x.w) ≤ x.w
            split <;> omega
          have b4 : (box4 x l f).b ≤ x.h := by
            show (if (l.corner f).2 + l.box.h < x.h then (l.corner f).2 + l.box.h else x.h) ≤ x.h
            split <;> omega
          omega
    · cases h
  · obtain rfl := List.mem_singleton.mp hs
    show 0 ≤ (0 : Int) ∧ x.w ≤ x.w ∧ 0 ≤ (0 : Int) ∧ x.h ≤ x.h ∧ 0 ≤ x.w ∧ 0 ≤ x.w ∧ 0 ≤ x.h ∧ 0 ≤ x.h
    omega
theorem sheets_len (x : Fi) (f : Int) : (x.sheets f).length ≤ x.ls.length + 1 := by
  have : (x.items f).length ≤ x.ls.length := List.length_filterMap_le _ _
  unfold Fi.sheets
  rw [List.length_append, List.length_map, List.length_reverse, List.length_singleton]
  omega
def shtD (s : Sht) : PyData := .tuple [rcD s.ext, seD s.en, .bool s.hides]
theorem ShtV.dp {K : PySem.W.Frag} {H : Hp} {v : V} {s : Sht} (h : ShtV H v s) : Dp K H v (shtD s) := by
  obtain ⟨a, ev, sv, rfl, h1, h2, h3⟩ := h
  exact .tup (SqT.of h1) (.cons h2.dp (.cons h3.dp (.cons (.bl _) .nil)))
theorem sht_lay (s : Sht) : (shtD s).canLay0 = true := by
  simp only [shtD, PyData.canLay0, PyData.canLayAll0, se_lay, eqs_rc.2.1, Bool.and_true]
theorem sht_depth (s : Sht) : (shtD s).depth ≤ 5 := by
  have h1 := se_depth s.en
  have h2 := eqs_rc.2.2 s.ext
  simp only [shtD, PyData.depth, PyData.depthAll]
  omega
def shtsD (s : List Sht) : PyData := .list (s.map shtD)
theorem shts_lay (s : List Sht) : (shtsD s).canLay0 = true := by
  simp only [shtsD, PyData.canLay0]
  exact canLay_map sht_lay _
theorem shts_shaped (s : List Sht) : SeqAt.shaped (shtsD s) = true := shaped_of (shts_lay s) (by
  have h : PyData.depthAll (s.map shtD) ≤ 5 := depth_map sht_depth _
  simp only [shtsD, PyData.depth]
  omega)
theorem shts_dp {K : PySem.W.Frag} {H : Hp} {p : Addr} {us : List V} {s : List Sht} (hp : H p = some (.lst us)) (h : Paired (ShtV H) us s) : Dp K H (.ref p) (shtsD s) := .lst (SqL.of hp) (dp_all (fun _ _ z => ShtV.dp z) h)
theorem sht_inj (s t : Sht) (h : PyData.eqv (shtD s) (shtD t) = true) : s = t := by
  unfold shtD at h
  simp only [PyData.eqv, PyData.eqvAll, Bool.and_true, Bool.and_eq_true] at h
  obtain ⟨h1, h2, h3⟩ := h
  rw [eqs_rc.1, decide_eq_true_eq] at h1
  have h4 := se_inj _ _ h2
  clear h2
  obtain ⟨e, n, b⟩ := s
  obtain ⟨e', n', b'⟩ := t
  dsimp only at h1 h4 h3
  subst h1 h4
  have : b = b' := by
    cases b <;> cases b' <;> first | rfl | (simp at h3)
  rw [this]
theorem shts_inj {s t : List Sht} (h : PyData.eqv (shtsD s) (shtsD t) = true) : s = t := by
  unfold shtsD at h
  rw [PyData.eqv] at h
  exact eqvAll_inj sht_inj h
/-- where the stacks of two films differ -/
def diffP (x o : Fi) (f px py : Int) : Prop := 0 ≤ px ∧ px < x.w ∧ 0 ≤ py ∧ py < x.h ∧ x.stack f px py ≠ o.stack f px py
def grid (x : Fi) : List Pt := rcPts ⟨0, 0, x.w, x.h⟩
theorem diff_grid {x o : Fi} {f px py : Int} (h : diffP x o f px py) : (px, py) ∈ grid x := mem_rcPts.mpr ⟨h.1, h.2.1, h.2.2.1, h.2.2.2.1⟩
theorem form_none {S : Int → Int → Prop} (h : ∀ x y, ¬ S x y) : IsForm S [] := ⟨0, [], trivial, fun x y => ⟨fun ⟨_, hb, _⟩ => (by cases hb), fun k => absurd k (h x y)⟩, rfl⟩
abbrev s_stretches : Stmt := top 87
theorem sc_stretches : FnScope ["edges", "ascending"] ["edges"] (defScope s_stretches) := ⟨rfl, rfl, rfl, by decide +kernel, rfl, by decide +kernel, by decide +kernel⟩
theorem cut_tail {xs : List V} : cutV xs (some 1) none = xs.drop 1 := by
  unfold cutV
  have e0 : HT.sIx xs.length xs.length none = xs.length := rfl
  rw [e0]
  have e : HT.sIx xs.length 0 (some 1) = min 1 xs.length := by
    show (if (1 : Int) < 0 then ((1 : Int) + (xs.length : Int)).toNat else min (1 : Int).toNat xs.length) = _
    rw [if_neg (by decide)]
    rfl
  rw [e, List.take_of_length_le (by rw [List.length_drop]; exact Nat.le_refl _)]
  cases xs with
  | nil => rfl
  | cons x t =>
    have : min 1 (x :: t).length = 1 := by rw [List.length_cons]; omega
    rw [this]
def spStretches (K : PySem.W.Frag) : Sp := fun vs H Q _ => ∃ (a : Addr) (ns : List Int), vs = [.ref a] ∧ H a = some (.lst (ns.map V.int)) ∧ ns.length < 64 ∧
  ∀ p us asc H', H p = none → Ex H H' → H' p = some (.lst us) → PtsV H' us (stretch asc) → asc.Pairwise (· < ·) → (∀ k, k ∈ asc ↔ k ∈ ns) → asc.length ≤ ns.length → Q (.ref p) H'
theorem ok_stretches {f : Addr} {fd : FuncData} (F : Fun K "_stretches" "_stretches" s_stretches f fd) (T : Txt K mg) : FnOk P w K mg base CX0 1 f fd ["edges"] (spStretches K) := by
  refine F.ok sc_stretches (fun vs H Q E h => ?_) (fun cdv A outer s H vs Q E hr h => ?_)
  · obtain ⟨a, ns, rfl, _⟩ := h
    rfl
  · obtain ⟨a, ns, rfl, ha, few, q⟩ := h
    refine ⟨_, (pss_cons (ps_set (i := 1) sc_stretches.nd rfl (by first | exact Or.inl rfl | exact Or.inr rfl) (pe_callB (ksortedSet (w := w) rfl) (by rfl) T.sorted_ bt_sorted (pa_cons (pe_callTy (ksetI K (w := w) rfl) (by rfl) T.set_ bt_set (pa_cons (pv 0) pa_nil)) pa_nil)))
      (pss_one (ps_ret (pe_listZip K rfl (by rfl) T.list_ bt_list (by rfl) T.zip_ (pa_cons (pv 1) (pa_cons (pe_slice (kslL K) (pv 1) (po_some pe_int) po_none) pa_nil)))))), ?_⟩
    rw [start_nrm (Nat.le_of_ble_eq_true rfl)]; dsimp only [startL]
    refine ⟨_, rfl, a, ns, rfl, SqL.of ha, few, fun p c hp hc => ?_⟩
    have e1 := Ex.new (o := SetO w p (fun j => decide (j ∈ ns)) c) hp
    have g1 : upd H p (SetO w p (fun j => decide (j ∈ ns)) c) p = some (SetO w p (fun j => decide (j ∈ ns)) c) := upd_same
    generalize upd H p (SetO w p (fun j => decide (j ∈ ns)) c) = H1 at e1 g1 ⊢
    refine ⟨p, _, c, rfl, g1, Nat.lt_of_le_of_lt hc few, fun ms r asc mem len hr => ?_⟩
    have e2 := Ex.new (o := .lst (ms.map V.int)) hr
    have g2 : upd H1 r (.lst (ms.map V.int)) r = some (.lst (ms.map V.int)) := upd_same
    generalize upd H1 r (.lst (ms.map V.int)) = H2 at e2 g2 ⊢
    dsimp only [List.set]
    refine ⟨_, rfl, _, rfl, _, rfl, r, _, rfl, SqL.of g2, fun t ht => ?_⟩
    rw [cut_tail]
    have e3 := Ex.new (o := .lst ((ms.map V.int).drop 1)) ht
    have g3 : upd H2 t (.lst ((ms.map V.int).drop 1)) t = some (.lst ((ms.map V.int).drop 1)) := upd_same
    generalize upd H2 t (.lst ((ms.map V.int).drop 1)) = H3 at e3 g3 ⊢
    refine ⟨r, t, _, _, rfl, SqL.of (e3 _ _ g2), SqL.of g3, fun H4 z ts e4 hz h4 hts => ?_⟩
    have e := (e1.trans e2).trans e3
    have ez : (ms.map V.int).zip ((ms.map V.int).drop 1) = (stretch ms).map fun q => (V.int q.1, V.int q.2) := by
      unfold stretch
      rw [← List.map_drop, List.zip_map, ]
      rfl
    rw [ez] at hts
    refine q z _ ms H4 (ex_free e hz) (e.trans e4) h4 (pts_of hts) asc (fun k => ?_) (by rw [len]; exact hc)
    rw [mem k, decide_eq_true_eq]
abbrev s_dirt_of : Stmt := top 83
theorem sc_dirt_of : FnScope ["first", "second", "frame", "before", "behind", "extents", "columns", "rows", "cells", "sheet", "top", "bottom", "left", "right", "_"] ["first", "second", "frame"] (defScope s_dirt_of) := ⟨rfl, rfl, rfl, by decide +kernel, rfl, by decide +kernel, by decide +kernel⟩
theorem mem_edges {A : List Sht} {k : Int} (g h : Rc → Int) : k ∈ (A.map Sht.ext).map g ++ (A.map Sht.ext).map h ↔ ∃ s ∈ A, k = g s.ext ∨ k = h s.ext := by
  rw [List.mem_append, List.mem_map, List.mem_map]
  constructor
  · rintro (⟨r, hr, rfl⟩ | ⟨r, hr, rfl⟩)
    · obtain ⟨s, hs, rfl⟩ := List.mem_map.mp hr
      exact ⟨s, hs, .inl rfl⟩
    · obtain ⟨s, hs, rfl⟩ := List.mem_map.mp hr
      exact ⟨s, hs, .inr rfl⟩
  · rintro ⟨s, hs, rfl | rfl⟩
    · exact .inl ⟨_, List.mem_map_of_mem hs, rfl⟩
    · exact .inr ⟨_, List.mem_map_of_mem hs, rfl⟩
theorem pr_len {α β : Type} {G : α → β → Prop} {l : List α} {m : List β} (h : Paired G l m) : l.length = m.length := h.length
def spDirtOf (K : PySem.W.Frag) (PT C CR : Addr) : Sp := fun vs H Q _ => ∃ (fv gv : V) (x o : Fi) (f : Int), vs = [fv, gv, .int f] ∧ FlV C H fv x ∧ FlV C H gv o ∧ x.Vd ∧ o.Vd ∧ o.w = x.w ∧ o.h = x.h ∧ x.ls.length + o.ls.length ≤ 14 ∧ LamX.Tabs (lamT PT) H ∧
  ∀ p H', (∀ b ob, H b = some ob → (∀ ps, ob ≠ .tbl ps) → b ≠ p) → LamX.ExtN H H' → LamX.Tabs (lamT PT) H' → Reg H' (grid x) p (diffP x o f) → Q (.ref p) H'
theorem ok_dirt_of {f : Addr} {fd : FuncData} (F : Fun K "dirt_of" "dirt_of" s_dirt_of f fd) (T : Txt K mg) {C CR PT : Addr} (D_sheets_of : Def P w K mg base CX0 "_sheets_of" 7 ["film", "frame"] (spSheets K C)) (D_stack_of : Def P w K mg base CX0 "_stack_of" 1 ["sheets", "x", "y"] (spStackOf K))
    (D_stretches : Def P w K mg base CX0 "_stretches" 1 ["edges"] (spStretches K)) (D_region_of : Def P w K mg base (L2.CX P w) "region_of" 14 ["rectangles"] (spRegionOf K PT CR)) : FnOk P w K mg base CX0 15 f fd ["first", "second", "frame"] (spDirtOf K PT C CR) := by
  refine F.ok sc_dirt_of (fun vs H Q E h => ?_) (fun cdv A outer s H vs Q E hr h => ?_)
  · obtain ⟨fv, gv, x, o, fr, rfl, _⟩ := h
    rfl
  · obtain ⟨fv, gv, x, o, fr, rfl, hf, hg, kx, ko, ow, oh, ll, tb, q⟩ := h
    have sa := sheets_len x fr
    have sb := sheets_len o fr
    refine ⟨_, (pss_cons (ps_asg (pe_tup (pa_cons (pe_call D_sheets_of.ok (hr.mono (by decide)) rfl D_sheets_of.mgf D_sheets_of.kp D_sheets_of.b .nil pass0 (pa_cons (pv 0) (pa_cons (pv 2) pa_nil))) (pa_cons (pe_call D_sheets_of.ok (hr.mono (by decide)) rfl D_sheets_of.mgf D_sheets_of.kp D_sheets_of.b .nil pass0 (pa_cons (pv 1) (pa_cons (pv 2) pa_nil))) pa_nil))) (kpgT K (n := 2) rfl (pgs_cons (pg_name (i := 3) sc_dirt_of.nd rfl (by first | exact Or.inl rfl | exact Or.inr rfl)) (pgs_cons (pg_name (i := 4) sc_dirt_of.nd rfl (by first | exact Or.inl rfl | exact Or.inr rfl)) pgs_nil))))
      (pss_cons (ps_if (pt_cmpR (keqD K hr.units) (pv 3) (pv 4) (nomark _))
        (pss_one (ps_ret (pe_lst pa_nil)))
        pss_nil)
      (pss_cons (ps_setLc (i := 5)  (own := [("sheet", 9)]) (tt := tYes) rfl sc_dirt_of.nd rfl rfl (sw_true rfl rfl rfl (by decide +kernel)) (kpiL K (pe_op op_cat (pv 3) (pv 4))) (blkOk_by (N := ["first", "second", "frame", "before", "behind", "extents", "columns", "rows", "cells", "sheet", "top", "bottom", "left", "right", "_"]) (sc := defScope s_dirt_of) (by decide +kernel)) (fun _ _ _ _ _ => (pg_name (i := 9) sc_dirt_of.nd rfl (by first | exact Or.inl rfl | exact Or.inr rfl))) (fun _ _ _ _ _ => pts_nil) (fun _ _ _ _ _ => (pe_ix (kixT K) (pv 9) pe_int (fun _ _ => rfl))))
      (pss_cons (ps_set (i := 6) sc_dirt_of.nd rfl (by first | exact Or.inl rfl | exact Or.inr rfl) (pe_call D_stretches.ok (hr.mono (by decide)) rfl D_stretches.mgf D_stretches.kp D_stretches.b .nil pass0 (pa_cons (pe_op op_cat (pe_lc (own := [("left", 12), ("_", 14)]) (tt := tYes) rfl sc_dirt_of.nd (kpiL K (pv 5)) (blkOk_by (N := ["first", "second", "frame", "before", "behind", "extents", "columns", "rows", "cells", "sheet", "top", "bottom", "left", "right", "_"]) (sc := defScope s_dirt_of) (by decide +kernel)) (fun _ _ _ _ _ => (kpgT K (n := 4) rfl (pgs_cons (pg_name (i := 12) sc_dirt_of.nd rfl (by first | exact Or.inl rfl | exact Or.inr rfl)) (pgs_cons (pg_name (i := 14) sc_dirt_of.nd rfl (by first | exact Or.inl rfl | exact Or.inr rfl)) (pgs_cons (pg_name (i := 14) sc_dirt_of.nd rfl (by first | exact Or.inl rfl | exact Or.inr rfl)) (pgs_cons (pg_name (i := 14) sc_dirt_of.nd rfl (by first | exact Or.inl rfl | exact Or.inr rfl)) pgs_nil)))))) (fun _ _ _ _ _ => pts_nil) (fun _ _ _ _ _ => (pv 12))) (pe_lc (own := [("_", 14), ("right", 13)]) (tt := tYes) rfl sc_dirt_of.nd (kpiL K (pv 5)) (blkOk_by (N := ["first", "second", "frame", "before", "behind", "extents", "columns", "rows", "cells", "sheet", "top", "bottom", "left", "right", "_"]) (sc := defScope s_dirt_of) (by decide +kernel)) (fun _ _ _ _ _ => (kpgT K (n := 4) rfl (pgs_cons (pg_name (i := 14) sc_dirt_of.nd rfl (by first | exact Or.inl rfl | exact Or.inr rfl)) (pgs_cons (pg_name (i := 14) sc_dirt_of.nd rfl (by first | exact Or.inl rfl | exact Or.inr rfl)) (pgs_cons (pg_name (i := 13) sc_dirt_of.nd rfl (by first | exact Or.inl rfl | exact Or.inr rfl)) (pgs_cons (pg_name (i := 14) sc_dirt_of.nd rfl (by first | exact Or.inl rfl | exact Or.inr rfl)) pgs_nil)))))) (fun _ _ _ _ _ => pts_nil) (fun _ _ _ _ _ => (pv 13)))) pa_nil)))
      (pss_cons (ps_set (i := 7) sc_dirt_of.nd rfl (by first | exact Or.inl rfl | exact Or.inr rfl) (pe_call D_stretches.ok (hr.mono (by decide)) rfl D_stretches.mgf D_stretches.kp D_stretches.b .nil pass0 (pa_cons (pe_op op_cat (pe_lc (own := [("_", 14), ("top", 10)]) (tt := tYes) rfl sc_dirt_of.nd (kpiL K (pv 5)) (blkOk_by (N := ["first", "second", "frame", "before", "behind", "extents", "columns", "rows", "cells", "sheet", "top", "bottom", "left", "right", "_"]) (sc := defScope s_dirt_of) (by decide +kernel)) (fun _ _ _ _ _ => (kpgT K (n := 4) rfl (pgs_cons (pg_name (i := 14) sc_dirt_of.nd rfl (by first | exact Or.inl rfl | exact Or.inr rfl)) (pgs_cons (pg_name (i := 10) sc_dirt_of.nd rfl (by first | exact Or.inl rfl | exact Or.inr rfl)) (pgs_cons (pg_name (i := 14) sc_dirt_of.nd rfl (by first | exact Or.inl rfl | exact Or.inr rfl)) (pgs_cons (pg_name (i := 14) sc_dirt_of.nd rfl (by first | exact Or.inl rfl | exact Or.inr rfl)) pgs_nil)))))) (fun _ _ _ _ _ => pts_nil) (fun _ _ _ _ _ => (pv 10))) (pe_lc (own := [("_", 14), ("bottom", 11)]) (tt := tYes) rfl sc_dirt_of.nd (kpiL K (pv 5)) (blkOk_by (N := ["first", "second", "frame", "before", "behind", "extents", "columns", "rows", "cells", "sheet", "top", "bottom", "left", "right", "_"]) (sc := defScope s_dirt_of) (by decide +kernel)) (fun _ _ _ _ _ => (kpgT K (n := 4) rfl (pgs_cons (pg_name (i := 14) sc_dirt_of.nd rfl (by first | exact Or.inl rfl | exact Or.inr rfl)) (pgs_cons (pg_name (i := 14) sc_dirt_of.nd rfl (by first | exact Or.inl rfl | exact Or.inr rfl)) (pgs_cons (pg_name (i := 14) sc_dirt_of.nd rfl (by first | exact Or.inl rfl | exact Or.inr rfl)) (pgs_cons (pg_name (i := 11) sc_dirt_of.nd rfl (by first | exact Or.inl rfl | exact Or.inr rfl)) pgs_nil)))))) (fun _ _ _ _ _ => pts_nil) (fun _ _ _ _ _ => (pv 11)))) pa_nil)))
      (pss_cons (ps_setLc2 (i := 8)  (own := [("top", 10), ("bottom", 11), ("left", 12), ("right", 13)]) (vs1 := [12, 13]) rfl sc_dirt_of.nd rfl rfl (sw_true rfl rfl rfl (by decide +kernel)) (kpiL K (pv 7)) (blkOk_by (N := ["first", "second", "frame", "before", "behind", "extents", "columns", "rows", "cells", "sheet", "top", "bottom", "left", "right", "_"]) (sc := defScope s_dirt_of) (by decide +kernel)) (by decide) (fun _ _ _ _ _ => (kpgT K (n := 2) rfl (pgs_cons (pg_name (i := 10) sc_dirt_of.nd rfl (by first | exact Or.inl rfl | exact Or.inr rfl)) (pgs_cons (pg_name (i := 11) sc_dirt_of.nd rfl (by first | exact Or.inl rfl | exact Or.inr rfl)) pgs_nil)))) (fun _ _ _ _ _ => pts_nil) (fun _ _ _ _ _ => (kpiL K (pv 6))) (fun _ _ _ _ _ => (kpgT K (n := 2) rfl (pgs_cons (pg_name (i := 12) sc_dirt_of.nd rfl (by first | exact Or.inl rfl | exact Or.inr rfl)) (pgs_cons (pg_name (i := 13) sc_dirt_of.nd rfl (by first | exact Or.inl rfl | exact Or.inr rfl)) pgs_nil)))) (fun _ _ _ _ _ => (pts_one (pt_cmpR (kneD K hr.units) (pe_call D_stack_of.ok (hr.mono (by decide)) rfl D_stack_of.mgf D_stack_of.kp D_stack_of.b .nil pass0 (pa_cons (pv 3) (pa_cons (pv 12) (pa_cons (pv 10) pa_nil)))) (pe_call D_stack_of.ok (hr.mono (by decide)) rfl D_stack_of.mgf D_stack_of.kp D_stack_of.b .nil pass0 (pa_cons (pv 4) (pa_cons (pv 12) (pa_cons (pv 10) pa_nil)))) (nomark _)))) (fun _ _ _ _ _ => (pe_tup (pa_cons (pv 12) (pa_cons (pv 10) (pa_cons (pv 13) (pa_cons (pv 11) pa_nil)))))))
      (pss_one (ps_ret (pe_call D_region_of.ok (hr.mono (by decide)) rfl D_region_of.mgf D_region_of.kp D_region_of.b .nil passL (pa_cons (pv 8) pa_nil)))))))))), ?_⟩
    rw [start_nrm (Nat.le_of_ble_eq_true rfl)]; dsimp only [startL]
    refine ⟨_, rfl, _, rfl, fv, x, fr, rfl, hf, kx.ok, kx.len, fun p1 us1 H1 hp1 e1 g1 hS1 => ?_⟩
    refine ⟨_, rfl, _, rfl, gv, o, fr, rfl, hg.ex e1, ko.ok, ko.len, fun p2 us2 H2 hp2 e2 g2 hS2 => ?_⟩
    have g1 := e2 _ _ g1
    have hS1 := Paired.mapP hS1 fun _ _ => ShtV.tk (TK.ex e2)
    have e12 := e1.trans e2
    clear e1 e2 hp1
    have lu1 := pr_len hS1
    have lu2 := pr_len hS2
    refine ⟨(by show 2 ≤ sizeLine; decide), fun t ht => ?_⟩
    have e3 := Ex.new (o := .tup [.ref p1, .ref p2]) ht
    have g3 : upd H2 t (.tup [.ref p1, .ref p2]) t = some (.tup [.ref p1, .ref p2]) := upd_same
    generalize upd H2 t (.tup [.ref p1, .ref p2]) = H3 at e3 g3 ⊢
    refine ⟨t, _, rfl, SqT.of g3, rfl, _, _, rfl, _, _, rfl, rfl, ?_⟩
    dsimp only [List.set]
    have hS1b := Paired.mapP hS1 fun _ _ => ShtV.tk (TK.ex e3)
    have hS2b := Paired.mapP hS2 fun _ _ => ShtV.tk (TK.ex e3)
    refine ⟨_, rfl, _, rfl, _, _, shts_dp (e3 _ _ g1) hS1b, shts_dp (e3 _ _ g2) hS2b, shts_shaped _, shts_shaped _, _, rfl, ?_⟩
    refine ite2 (fun heq => ?_) (fun _ => ?_)
    · have same := shts_inj heq
      refine ⟨(by show 0 ≤ sizeLine; decide), fun p hp => ?_⟩
      have e4 := Ex.new (o := .lst []) hp
      have e := (e12.trans e3)
      refine q p _ (fun b ob hb _ z => ?_) (ExtN.ex (e.trans e4)) (tb.ext (e.trans e4)) ⟨[], [], upd_same, .nil, form_none fun px py h => h.2.2.2.2 ?_, fun px py h => diff_grid h⟩
      · have := e _ _ hb
        rw [z, hp] at this
        cases this
      · unfold Fi.stack
        rw [same]
    refine ⟨_, rfl, _, rfl, p1, p2, us1, us2, rfl, rfl, e3 _ _ g1, e3 _ _ g2, Nat.le_of_lt (slineL (by omega)), fun r hr => ?_⟩
    have e4 := Ex.new (o := .lst (us1 ++ us2)) hr
    have g4 : upd H3 r (.lst (us1 ++ us2)) r = some (.lst (us1 ++ us2)) := upd_same
    generalize upd H3 r (.lst (us1 ++ us2)) = H4 at e4 g4 ⊢
    have hAB := pr_append (Paired.mapP hS1b fun _ _ => ShtV.tk (TK.ex e4)) (Paired.mapP hS2b fun _ _ => ShtV.tk (TK.ex e4))
    have lAB := pr_len hAB
    rw [List.length_append, List.length_append] at lAB
    refine ⟨r, rfl, ⟨_, SqL.of g4⟩, fun q_ hq_ => ?_⟩
    refine lc_list (xs := us1 ++ us2) (fun i H' => Ex H4 H' ∧ ∃ ws, H' q_ = some (.lst ws) ∧ RcsV H' ws (((x.sheets fr ++ o.sheets fr).take i).map Sht.ext)) ⟨Ex.new hq_, [], upd_same, .nil⟩ (fun i H' _ p => SqL.of (p.1 _ _ g4)) ?_ ?_
    · rintro i uv G hu ⟨eg, ws, hW, hJ⟩
      obtain ⟨sh, hsh, a, ev, sv, rfl, hta, hev, _⟩ := pr_get (Paired.mapP hAB fun _ _ => ShtV.tk (TK.ex eg)) hu
      have lw := pr_len hJ
      rw [List.length_map, List.length_take, List.length_append] at lw
      refine ⟨rfl, ?_⟩
      refine lcY ?_
      refine ⟨_, rfl, a, _, 0, _, rfl, rfl, SqT.of hta, rfl, ?_⟩
      refine ⟨ws, hW, slineL (by omega), eg.mut hq_, ws ++ [ev], upd_same, ?_⟩
      rw [List.take_add_one, hsh, List.map_append]
      have tk := TK.lst (o := .lst (ws ++ [ev])) hW
      exact (hJ.tk tk).snoc (hev.tk tk)
    rintro H5 ⟨e5, ws, hW, hJ⟩
    rw [List.length_append, lAB, ← List.length_append, List.take_length] at hJ
    obtain ⟨exts, hexts⟩ : ∃ e : List Rc, e = (x.sheets fr ++ o.sheets fr).map Sht.ext := ⟨_, rfl⟩
    rw [← hexts] at hJ
    have lw := pr_len hJ
    have le : exts.length = (x.sheets fr).length + (o.sheets fr).length := by rw [hexts, List.length_map, List.length_append]
    have e5 : Ex H2 H5 := (e3.trans e4).trans e5
    dsimp only [List.set]
    refine ⟨_, rfl, q_, rfl, ⟨_, SqL.of ((Ex.refl H5) _ _ hW)⟩, fun ca hca => ?_⟩
    refine lc_list (xs := ws) (fun i H' => Ex H5 H' ∧ H' ca = some (.lst ((((exts.take i).map fun r : Rc => r.l)).map V.int))) ⟨Ex.new hca, upd_same⟩ (fun i H' _ p => SqL.of (p.1 _ _ ((Ex.refl H5) _ _ hW))) ?_ ?_
    · rintro i uv G hu ⟨eg, hG⟩
      obtain ⟨rx, hrx, rxa, rfl, hrxa⟩ := pr_get (hJ.tk (TK.ex (Ex.trans (Ex.refl H5) eg))) hu
      refine ⟨rxa, _, rfl, SqT.of hrxa, rfl, _, _, rfl, _, _, rfl, _, _, rfl, _, _, rfl, rfl, ?_⟩
      refine ⟨rfl, ?_⟩
      refine lcY ?_
      refine ⟨_, rfl, _, hG, slineL (by rw [List.length_map, List.length_map, List.length_take]; omega), eg.mut hca, ?_⟩
      rw [upd_same, List.take_add_one, hrx, List.map_append, List.map_append]
      rfl
    rintro HA1 ⟨eAa, gca⟩
    rw [lw, List.take_length] at gca
    refine ⟨_, rfl, q_, rfl, ⟨_, SqL.of (((Ex.refl H5).trans eAa) _ _ hW)⟩, fun cb hcb => ?_⟩
    refine lc_list (xs := ws) (fun i H' => Ex HA1 H' ∧ H' cb = some (.lst ((((exts.take i).map fun r : Rc => r.r)).map V.int))) ⟨Ex.new hcb, upd_same⟩ (fun i H' _ p => SqL.of (p.1 _ _ (((Ex.refl H5).trans eAa) _ _ hW))) ?_ ?_
    · rintro i uv G hu ⟨eg, hG⟩
      obtain ⟨rx, hrx, rxa, rfl, hrxa⟩ := pr_get (hJ.tk (TK.ex (Ex.trans ((Ex.refl H5).trans eAa) eg))) hu
      refine ⟨rxa, _, rfl, SqT.of hrxa, rfl, _, _, rfl, _, _, rfl, _, _, rfl, _, _, rfl, rfl, ?_⟩
      refine ⟨rfl, ?_⟩
      refine lcY ?_
      refine ⟨_, rfl, _, hG, slineL (by rw [List.length_map, List.length_map, List.length_take]; omega), eg.mut hcb, ?_⟩
      rw [upd_same, List.take_add_one, hrx, List.map_append, List.map_append]
      rfl
    rintro HA2 ⟨eAb, gcb⟩
    rw [lw, List.take_length] at gcb
    refine ⟨ca, cb, _, _, rfl, rfl, eAb _ _ gca, gcb, Nat.le_of_lt (slineL (by rw [List.length_map, List.length_map, List.length_map, List.length_map]; omega)), fun cc hcc => ?_⟩
    rw [← List.map_append]
    have fA := Ex.new (o := .lst (((exts.map fun r : Rc => r.l) ++ exts.map fun r : Rc => r.r).map V.int)) hcc
    have kcc : upd HA2 cc (.lst (((exts.map fun r : Rc => r.l) ++ exts.map fun r : Rc => r.r).map V.int)) cc = some (.lst (((exts.map fun r : Rc => r.l) ++ exts.map fun r : Rc => r.r).map V.int)) := upd_same
    generalize upd HA2 cc (.lst (((exts.map fun r : Rc => r.l) ++ exts.map fun r : Rc => r.r).map V.int)) = HA3 at fA kcc ⊢
    refine ⟨cc, _, rfl, kcc, by rw [List.length_append, List.length_map, List.length_map]; omega, fun cols uscols ascols HA4 hcols sA kcols ptscols asccols memcols lencols => ?_⟩
    have eA := ((eAa.trans eAb).trans fA).trans sA
    have mmcols : ∀ k, k ∈ ascols ↔ ∃ s ∈ x.sheets fr ++ o.sheets fr, k = s.ext.l ∨ k = s.ext.r := fun k => (memcols k).trans (by rw [hexts]; exact mem_edges (fun s => s.l) (fun s => s.r))
    rw [List.length_append, List.length_map, List.length_map] at lencols
    have slcols := stretch_len ascols
    dsimp only [List.set]
    refine ⟨_, rfl, q_, rfl, ⟨_, SqL.of (eA _ _ hW)⟩, fun ra hra => ?_⟩
    refine lc_list (xs := ws) (fun i H' => Ex HA4 H' ∧ H' ra = some (.lst ((((exts.take i).map fun r : Rc => r.t)).map V.int))) ⟨Ex.new hra, upd_same⟩ (fun i H' _ p => SqL.of (p.1 _ _ (eA _ _ hW))) ?_ ?_
    · rintro i uv G hu ⟨eg, hG⟩
      obtain ⟨rx, hrx, rxa, rfl, hrxa⟩ := pr_get (hJ.tk (TK.ex (Ex.trans eA eg))) hu
      refine ⟨rxa, _, rfl, SqT.of hrxa, rfl, _, _, rfl, _, _, rfl, _, _, rfl, _, _, rfl, rfl, ?_⟩
      refine ⟨rfl, ?_⟩
      refine lcY ?_
      refine ⟨_, rfl, _, hG, slineL (by rw [List.length_map, List.length_map, List.length_take]; omega), eg.mut hra, ?_⟩
      rw [upd_same, List.take_add_one, hrx, List.map_append, List.map_append]
      rfl
    rintro HB1 ⟨eBa, gra⟩
    rw [lw, List.take_length] at gra
    refine ⟨_, rfl, q_, rfl, ⟨_, SqL.of ((eA.trans eBa) _ _ hW)⟩, fun rb hrb => ?_⟩
    refine lc_list (xs := ws) (fun i H' => Ex HB1 H' ∧ H' rb = some (.lst ((((exts.take i).map fun r : Rc => r.b)).map V.int))) ⟨Ex.new hrb, upd_same⟩ (fun i H' _ p => SqL.of (p.1 _ _ ((eA.trans eBa) _ _ hW))) ?_ ?_
    · rintro i uv G hu ⟨eg, hG⟩
      obtain ⟨rx, hrx, rxa, rfl, hrxa⟩ := pr_get (hJ.tk (TK.ex (Ex.trans (eA.trans eBa) eg))) hu
      refine ⟨rxa, _, rfl, SqT.of hrxa, rfl, _, _, rfl, _, _, rfl, _, _, rfl, _, _, rfl, rfl, ?_⟩
      refine ⟨rfl, ?_⟩
      refine lcY ?_
      refine ⟨_, rfl, _, hG, slineL (by rw [List.length_map, List.length_map, List.length_take]; omega), eg.mut hrb, ?_⟩
      rw [upd_same, List.take_add_one, hrx, List.map_append, List.map_append]
      rfl
    rintro HB2 ⟨eBb, grb⟩
    rw [lw, List.take_length] at grb
    refine ⟨ra, rb, _, _, rfl, rfl, eBb _ _ gra, grb, Nat.le_of_lt (slineL (by rw [List.length_map, List.length_map, List.length_map, List.length_map]; omega)), fun rc hrc => ?_⟩
    rw [← List.map_append]
    have fB := Ex.new (o := .lst (((exts.map fun r : Rc => r.t) ++ exts.map fun r : Rc => r.b).map V.int)) hrc
    have krc : upd HB2 rc (.lst (((exts.map fun r : Rc => r.t) ++ exts.map fun r : Rc => r.b).map V.int)) rc = some (.lst (((exts.map fun r : Rc => r.t) ++ exts.map fun r : Rc => r.b).map V.int)) := upd_same
    generalize upd HB2 rc (.lst (((exts.map fun r : Rc => r.t) ++ exts.map fun r : Rc => r.b).map V.int)) = HB3 at fB krc ⊢
    refine ⟨rc, _, rfl, krc, by rw [List.length_append, List.length_map, List.length_map]; omega, fun rows usrows asrows HB4 hrows sB krows ptsrows ascrows memrows lenrows => ?_⟩
    have eB := ((eBa.trans eBb).trans fB).trans sB
    have mmrows : ∀ k, k ∈ asrows ↔ ∃ s ∈ x.sheets fr ++ o.sheets fr, k = s.ext.t ∨ k = s.ext.b := fun k => (memrows k).trans (by rw [hexts]; exact mem_edges (fun s => s.t) (fun s => s.b))
    rw [List.length_append, List.length_map, List.length_map] at lenrows
    have slrows := stretch_len asrows
    dsimp only [List.set]
    have e24 := (e5.trans eA).trans eB
    have lus := pr_len ptscols
    have lur := pr_len ptsrows
    have gcols := eB _ _ kcols
    have pcols := ptscols.tk (TK.ex eB)
    refine ⟨_, rfl, rows, rfl, ⟨_, SqL.of krows⟩, fun D hD => ?_⟩
    refine turns (walk_list (K := K) (a := rows) (xs := usrows)) (fun i H' => Ex HB4 H' ∧ ∃ zs, H' D = some (.lst zs) ∧ RcsV H' zs (cellsD (x.sheets fr) (o.sheets fr) (stretch ascols) ((stretch asrows).take i))) ⟨Ex.new hD, [], upd_same, .nil⟩ (fun i H' _ p => SqL.of (p.1 _ _ krows)) ?_ ?_
    · rintro i uv G1 G2 hi ⟨eg, zs, hZ, hP⟩ ⟨rfl, hu⟩
      obtain ⟨rw_, hrw, pa, rfl, hpa⟩ := pr_get (ptsrows.tk (TK.ex eg)) hu
      refine ⟨pa, _, rfl, SqT.of hpa, rfl, _, _, rfl, _, _, rfl, rfl, ?_⟩
      refine ⟨rfl, ?_⟩
      refine lcY ?_
      have lz := hP.length
      have lz2 := cellsD_len (x.sheets fr) (o.sheets fr) (stretch ascols) ((stretch asrows).take i)
      rw [List.length_take] at lz2
      have lz3 : min i (stretch asrows).length * (stretch ascols).length ≤ 31 * 31 := Nat.mul_le_mul (by omega) (by omega)
      refine ⟨_, rfl, cols, rfl, ⟨_, SqL.of (eg _ _ gcols)⟩, ?_⟩
      refine turns (walk_list (K := K) (a := cols) (xs := uscols)) (fun j H' => Ex HB4 H' ∧ ∃ zs, H' D = some (.lst zs) ∧ RcsV H' zs (cellsD (x.sheets fr) (o.sheets fr) (stretch ascols) ((stretch asrows).take i) ++ cellRow (x.sheets fr) (o.sheets fr) ((stretch ascols).take j) rw_)) ⟨eg, zs, hZ, by rw [List.take_zero]; show RcsV _ _ (_ ++ []); rw [List.append_nil]; exact hP⟩ (fun j H' _ p => SqL.of (p.1 _ _ gcols)) ?_ ?_
      · rintro j uv G2 G3 hj ⟨eg2, zs, hZ, hP⟩ ⟨rfl, hv⟩
        obtain ⟨cl, hcl, pb, rfl, hpb⟩ := pr_get (pcols.tk (TK.ex eg2)) hv
        refine ⟨pb, _, rfl, SqT.of hpb, rfl, _, _, rfl, _, _, rfl, rfl, ?_⟩
        refine ⟨rfl, ?_⟩
        have lw2 := hP.length
        have lc := cellRow_len (x.sheets fr) (o.sheets fr) ((stretch ascols).take j) rw_
        rw [List.length_take] at lc
        rw [List.length_append] at lw2
        have h2g := e24.trans eg2
        refine ⟨_, rfl, _, rfl, _, rfl, p1, us1, x.sheets fr, cl.1, rw_.1, rfl, h2g _ _ g1, Paired.mapP hS1 (fun _ _ => ShtV.tk (TK.ex h2g)), by omega, fun t1 v1 G4 ht1 f4 kt1 hV1 => ?_⟩
        refine ⟨_, rfl, _, rfl, _, rfl, p2, us2, o.sheets fr, cl.1, rw_.1, rfl, (h2g.trans f4) _ _ g2, Paired.mapP hS2 (fun _ _ => ShtV.tk (TK.ex (h2g.trans f4))), by omega, fun t2 v2 G5 ht2 f5 kt2 hV2 => ?_⟩
        refine ⟨_, _, stk_dp (f5 _ _ kt1) (Paired.mapP hV1 fun _ _ => SeV.tk (TK.ex f5)), stk_dp kt2 hV2, stk_shaped _, stk_shaped _, _, rfl, ?_⟩
        have f45 := f4.trans f5
        have cr : cellRow (x.sheets fr) (o.sheets fr) ((stretch ascols).take (j + 1)) rw_ = cellRow (x.sheets fr) (o.sheets fr) ((stretch ascols).take j) rw_ ++ (if (!PyData.eqv (stkD (stackS cl.1 rw_.1 (x.sheets fr))) (stkD (stackS cl.1 rw_.1 (o.sheets fr)))) = true then [⟨cl.1, rw_.1, cl.2, rw_.2⟩] else []) := by
          unfold cellRow
          rw [List.take_add_one, hcl, List.filter_append, List.map_append]
          congr 1
          by_cases hb : (!PyData.eqv (stkD (stackS cl.1 rw_.1 (x.sheets fr))) (stkD (stackS cl.1 rw_.1 (o.sheets fr)))) = true
          · rw [if_pos hb]
            show List.map _ (List.filter _ [cl]) = _
            rw [List.filter_cons, if_pos hb]
            rfl
          · rw [if_neg hb]
            show List.map _ (List.filter _ [cl]) = _
            rw [List.filter_cons, if_neg hb]
            rfl
        rw [cr]
        refine ite2 (fun c => ?_) (fun c => ?_)
        · rw [if_pos c, ← List.append_assoc]
          refine ⟨_, rfl, _, rfl, _, rfl, _, rfl, (by show 4 ≤ sizeLine; decide), fun t ht => ?_⟩
          have f6 := Ex.new (o := .tup [.int cl.1, .int rw_.1, .int cl.2, .int rw_.2]) ht
          have kt : upd G5 t (.tup [.int cl.1, .int rw_.1, .int cl.2, .int rw_.2]) t = some (.tup [.int cl.1, .int rw_.1, .int cl.2, .int rw_.2]) := upd_same
          generalize upd G5 t (.tup [.int cl.1, .int rw_.1, .int cl.2, .int rw_.2]) = G6 at f6 kt ⊢
          have f46 := f45.trans f6
          have hZ6 := f46 _ _ hZ
          refine ⟨zs, hZ6, slineL (by omega), (eg2.trans f46).mut hD, zs ++ [.ref t], upd_same, ?_⟩
          exact ((hP.tk (TK.ex f46)).tk (TK.lst hZ6)).snoc ⟨t, rfl, TK.lst hZ6 _ _ kt⟩
        · rw [if_neg c, List.append_nil]
          exact ⟨eg2.trans f45, zs, f45 _ _ hZ, hP.tk (TK.ex f45)⟩
      · rintro G2 ⟨eg2, zs, hZ, hP⟩
        rw [lus, List.take_length] at hP
        refine ⟨eg2, zs, hZ, ?_⟩
        have : cellsD (x.sheets fr) (o.sheets fr) (stretch ascols) ((stretch asrows).take (i + 1)) = cellsD (x.sheets fr) (o.sheets fr) (stretch ascols) ((stretch asrows).take i) ++ cellRow (x.sheets fr) (o.sheets fr) (stretch ascols) rw_ := by
          unfold cellsD
          rw [List.take_add_one, hrw, List.flatMap_append]
          show _ ++ List.flatMap _ [rw_] = _
          rw [List.flatMap_cons, List.flatMap_nil, List.append_nil]
        rw [this]
        exact hP
    · rintro G ⟨eg, zs, hZ, hP⟩
      rw [lur, List.take_length] at hP
      dsimp only [List.set]
      have lz := hP.length
      have lz2 := cellsD_len (x.sheets fr) (o.sheets fr) (stretch ascols) (stretch asrows)
      have lz3 : (stretch asrows).length * (stretch ascols).length ≤ 31 * 31 := Nat.mul_le_mul (by omega) (by omega)
      have wide := cells_wide (A := x.sheets fr) (B := o.sheets fr) asccols ascrows
      have eG := ((e12.trans e24).trans eg)
      refine ⟨_, rfl, D, zs, rfl, SqL.of hZ, by omega, rcs_items hP, tb.ext eG, (fun i v h1 h2 => (rcs_good hP wide h1 h2).elim), fun qz hqz _ p ws' fm H' nf en tb2 hp hR form fl => ?_⟩
      obtain rfl := rcs_one hP hqz
      refine q p H' (fun b ob hb nt => nf b ob (eG _ _ hb) nt) ((ExtN.ex eG).trans en) tb2 ⟨ws', fm, hp, hR, ?_, fun px py h => diff_grid h⟩
      obtain ⟨y, bs, k1, k2, k3⟩ := form
      refine ⟨y, bs, k1, fun px py => (k2 px py).trans ?_, k3⟩
      exact cells_cover (sheets_on x fr kx.w0 kx.h0) (by have := sheets_on o fr ko.w0 ko.h0; rw [ow, oh] at this; exact this) asccols ascrows mmcols mmrows px py
theorem tabs_lst {T : List (Addr × Str)} {H : Hp} {D : Addr} {xs : List V} {o : HO} (t : LamX.Tabs T H) (h : H D = some (.lst xs)) : LamX.Tabs T (upd H D o) := fun p hp => by
  obtain ⟨ps, h1, h2, h3⟩ := t p hp
  refine ⟨ps, ?_, h2, fun pos cv hc => ?_⟩
  · rw [upd_ne]
    · exact h1
    · intro z
      rw [z, h] at h1
      cases h1
  · obtain ⟨c, e1, e2⟩ := h3 pos cv hc
    refine ⟨c, e1, ?_⟩
    rw [upd_ne]
    · exact e2
    · intro z
      rw [z, h] at e2
      cases e2
theorem extN_mut {H H' : Hp} {D : Addr} {o : HO} (e : LamX.ExtN H H') (nf : ∀ b ob, H b = some ob → (∀ ps, ob ≠ .tbl ps) → b ≠ D) : LamX.ExtN H (upd H' D o) := fun b ob hb nt => by
  rw [upd_ne (nf b ob hb nt)]
  exact e b ob hb nt
theorem up_next (a : Int) (j : Nat) : upFrom a (a + ((j + 1 : Nat) : Int)) = upFrom a (a + (j : Int)) ++ [a + (j : Int)] := by
  unfold upFrom
  have e1 : (a + ((j + 1 : Nat) : Int) - a).toNat = j + 1 := by omega
  have e2 : (a + (j : Int) - a).toNat = j := by omega
  rw [e1, e2, List.range_succ, List.map_append]
  rfl
theorem up_none (a : Int) : upFrom a (a + ((0 : Nat) : Int)) = [] := by
  unfold upFrom
  have e2 : (a + ((0 : Nat) : Int) - a).toNat = 0 := by omega
  rw [e2]
  rfl
theorem up_whole {a b : Int} (h : a ≤ b) : upFrom a (a + ((b - a).toNat : Int)) = upFrom a b := by
  have : a + ((b - a).toNat : Int) = b := by omega
  rw [this]
def rowA (y : Int) (xs : List Int) : List Pt := xs.map fun x => (x, y)
def rowsA (ys xs : List Int) : List Pt := ys.flatMap fun y => rowA y xs
theorem rowsA_snoc (ys xs : List Int) (y : Int) : rowsA (ys ++ [y]) xs = rowsA ys xs ++ rowA y xs := by
  unfold rowsA
  rw [List.flatMap_append]
  show _ ++ List.flatMap _ [y] = _
  rw [List.flatMap_cons, List.flatMap_nil, List.append_nil]
theorem rowA_snoc (y : Int) (xs : List Int) (x : Int) : rowA y (xs ++ [x]) = rowA y xs ++ [(x, y)] := by
  unfold rowA
  rw [List.map_append]
  rfl
theorem rcPts_rows (q : Rc) : rcPts q = rowsA (upFrom q.t q.b) (upFrom q.l q.r) := rfl
theorem rowsA_len (ys xs : List Int) : (rowsA ys xs).length ≤ ys.length * xs.length := flatMap_len fun y _ => by
  unfold rowA
  rw [List.length_map]
  exact Nat.le_refl _
theorem cov_snoc {qs : List Rc} {i : Nat} {q : Rc} (h : qs[i]? = some q) : covPts (qs.take (i + 1)) = covPts (qs.take i) ++ rcPts q := by
  unfold covPts
  rw [List.take_add_one, h, List.flatMap_append]
  show _ ++ List.flatMap _ [q] = _
  rw [List.flatMap_cons, List.flatMap_nil, List.append_nil]
theorem runs_apart : ∀ {rs : List Pt} {b : Int}, RunsFrom b rs → rs.Pairwise fun p q => p.2 ≤ q.1
  | [], _, _ => List.Pairwise.nil
  | q :: t, b, h => List.pairwise_cons.mpr ⟨fun p hp => Int.le_of_lt (RunsFrom.lt (b := b) h.2.2 ⟨p, hp, Int.le_refl _, h.2.2.wide p hp⟩), runs_apart h.2.2⟩
/-- two rectangles have no point in common -/
def Apt (q r : Rc) : Prop := q.b ≤ r.t ∨ q.r ≤ r.l
theorem form_apart {bs : List Bd} {y : Int} {p : List Pt} (h : BandsFrom y p bs) : (formOf bs).Pairwise Apt := by
  unfold formOf
  refine pw_flat (bands_apart h).1 (fun d hd => ?_) (fun c hc d hd hcd x hx z hz => ?_)
  · obtain ⟨⟨b, hb⟩, _⟩ := band_runs h d hd
    unfold bandRc
    rw [List.pairwise_map]
    exact (runs_apart hb).imp fun {p q} k => .inr k
  · unfold bandRc at hx hz
    obtain ⟨q, _, rfl⟩ := List.mem_map.mp hx
    obtain ⟨r, _, rfl⟩ := List.mem_map.mp hz
    exact .inl hcd
theorem nd_up (a b : Int) : (upFrom a b).Nodup := by
  unfold upFrom List.Nodup
  rw [List.pairwise_map]
  exact List.Pairwise.imp (fun {i j} h z => h (by omega)) List.nodup_range
theorem nd_rows (ys xs : List Int) (hy : ys.Nodup) (hx : xs.Nodup) : (rowsA ys xs).Nodup := by
  unfold rowsA
  refine pw_flat hy (fun y _ => ?_) (fun y _ z _ hyz p hp q hq => ?_)
  · unfold rowA
    rw [List.pairwise_map]
    exact hx.imp fun {i j} h z => h (congrArg Prod.fst z)
  · obtain ⟨_, _, rfl⟩ := List.mem_map.mp hp
    obtain ⟨_, _, rfl⟩ := List.mem_map.mp hq
    exact fun e => hyz (congrArg Prod.snd e)
theorem nd_cov {S : Int → Int → Prop} {fm : List Rc} (h : IsForm S fm) : (covPts fm).Nodup := by
  obtain ⟨y, bs, h1, _, rfl⟩ := h
  unfold covPts
  refine pw_flat (form_apart h1) (fun q _ => ?_) (fun q _ r _ hqr z hz u hu e => ?_)
  · rw [rcPts_rows]
    exact nd_rows _ _ (nd_up _ _) (nd_up _ _)
  · subst e
    obtain ⟨zx, zy⟩ := z
    have a := mem_rcPts.mp hz
    have b := mem_rcPts.mp hu
    obtain ⟨a1, a2, a3, a4⟩ := a
    obtain ⟨b1, b2, b3, b4⟩ := b
    rcases hqr with k | k <;> omega
theorem stk_iff {s t : List (En ⊕ Int)} : PyData.eqv (stkD s) (stkD t) = true ↔ s = t := ⟨stk_inj, fun e => by rw [e]; exact eqv_self (stk_lay _)⟩
theorem mem_unlikeRow {x o : Fi} {f px py : Int} {j n : Nat} : (px, py) ∈ unlikeRow x o f j n ↔ ∃ i : Nat, i < n ∧ px = i ∧ py = j ∧ x.lstack f i j ≠ o.lstack f i j := by
  unfold unlikeRow
  rw [List.mem_filterMap]
  constructor
  · rintro ⟨i, hi, h⟩
    split at h
    · cases h
    · rename_i ne
      cases h
      exact ⟨i, List.mem_range.mp hi, rfl, rfl, fun e => ne (stk_iff.mpr e)⟩
  · rintro ⟨i, hi, rfl, rfl, ne⟩
    exact ⟨i, List.mem_range.mpr hi, by rw [if_neg fun e => ne (stk_iff.mp e)]⟩
theorem nd_unlikeRow (x o : Fi) (f : Int) (j : Nat) : ∀ n, (unlikeRow x o f j n).Nodup
  | 0 => List.nodup_nil
  | n + 1 => by
    rw [unlikeRow_succ]
    split
    · rw [List.append_nil]
      exact nd_unlikeRow x o f j n
    · refine List.nodup_append.mpr ⟨nd_unlikeRow x o f j n, by simp, fun a ha b hb e => ?_⟩
      rw [List.mem_singleton] at hb
      subst hb e
      obtain ⟨i, hi, e, _⟩ := mem_unlikeRow.mp ha
      omega
theorem mem_unlike {x o : Fi} {f px py : Int} : ∀ {n : Nat}, (px, py) ∈ unlike x o f n ↔ ∃ i j : Nat, i < x.w.toNat ∧ j < n ∧ px = i ∧ py = j ∧ x.lstack f i j ≠ o.lstack f i j
  | n => by
    unfold unlike
    rw [List.mem_flatMap]
    constructor
    · rintro ⟨j, hj, h⟩
      obtain ⟨i, hi, e1, e2, ne⟩ := mem_unlikeRow.mp h
      exact ⟨i, j, hi, List.mem_range.mp hj, e1, e2, ne⟩
    · rintro ⟨i, j, hi, hj, e1, e2, ne⟩
      exact ⟨j, List.mem_range.mpr hj, mem_unlikeRow.mpr ⟨i, hi, e1, e2, ne⟩⟩
theorem nd_unlike (x o : Fi) (f : Int) : ∀ n, (unlike x o f n).Nodup
  | 0 => List.nodup_nil
  | n + 1 => by
    rw [unlike_succ]
    refine List.nodup_append.mpr ⟨nd_unlike x o f n, nd_unlikeRow x o f n _, fun a ha b hb e => ?_⟩
    subst e
    obtain ⟨ax, ay⟩ := a
    obtain ⟨i, j, _, hj, _, e2, _⟩ := mem_unlike.mp ha
    obtain ⟨i2, _, _, e3, _⟩ := mem_unlikeRow.mp hb
    omega
theorem unlike_diff {x o : Fi} (k : x.Vd) (k2 : o.Vd) (ow : o.w = x.w) (oh : o.h = x.h) {f px py : Int} : (px, py) ∈ unlike x o f x.h.toNat ↔ diffP x o f px py := by
  have w0 := k.w0
  have h0 := k.h0
  rw [mem_unlike]
  constructor
  · rintro ⟨i, j, hi, hj, rfl, rfl, ne⟩
    refine ⟨by omega, by omega, by omega, by omega, ?_⟩
    rw [stack_eq k (by omega) (by omega) (by omega) (by omega), stack_eq k2 (by omega) (by omega) (by omega) (by omega)]
    exact ne
  · rintro ⟨x0, x1, y0, y1, ne⟩
    obtain ⟨i, rfl⟩ := Int.eq_ofNat_of_zero_le x0
    obtain ⟨j, rfl⟩ := Int.eq_ofNat_of_zero_le y0
    rw [stack_eq k (by omega) (by omega) (by omega) (by omega), stack_eq k2 (by omega) (by omega) (by omega) (by omega)] at ne
    exact ⟨i, j, by omega, by omega, rfl, rfl, ne⟩
def unitR (z : Pt) : Rc := ⟨z.1, z.2, z.1 + 1, z.2 + 1⟩
theorem unit_covers {pts : List Pt} {x y : Int} : covers (pts.map unitR) x y ↔ (x, y) ∈ pts := by
  constructor
  · rintro ⟨q, hq, h1, h2, h3, h4⟩
    obtain ⟨z, hz, rfl⟩ := List.mem_map.mp hq
    obtain ⟨zx, zy⟩ := z
    have a1 : zx ≤ x := h1
    have a2 : x < zx + 1 := h2
    have a3 : zy ≤ y := h3
    have a4 : y < zy + 1 := h4
    have e1 : x = zx := by omega
    have e2 : y = zy := by omega
    rw [e1, e2]
    exact hz
  · intro h
    exact ⟨unitR (x, y), List.mem_map_of_mem h, Int.le_refl _, by show x < x + 1; omega, Int.le_refl _, by show y < y + 1; omega⟩
theorem unit_wide (pts : List Pt) : Wide (pts.map unitR) := fun q hq => by
  obtain ⟨z, _, rfl⟩ := List.mem_map.mp hq
  exact ⟨by show z.1 < z.1 + 1; omega, by show z.2 < z.2 + 1; omega⟩
theorem grid_len (x : Fi) : (grid x).length ≤ x.h.toNat * x.w.toNat := by
  unfold grid
  rw [rcPts_rows]
  refine Nat.le_trans (rowsA_len _ _) ?_
  rw [upFrom_len, upFrom_len]
  show (x.h - 0).toNat * (x.w - 0).toNat ≤ _
  rw [Int.sub_zero, Int.sub_zero]
  exact Nat.le_refl _
/-- the rectangles of a region on the canvas -/
theorem form_on {x : Fi} {S : Int → Int → Prop} {fm : List Rc} (h : IsForm S fm) (k : ∀ px py, S px py → (px, py) ∈ grid x) : ∀ q ∈ fm, 0 ≤ q.l ∧ q.l < q.r ∧ q.r ≤ x.w ∧ 0 ≤ q.t ∧ q.t < q.b ∧ q.b ≤ x.h := fun q hq => by
  obtain ⟨w1, w2⟩ := h.wide q hq
  have c1 := mem_rcPts.mp (k _ _ ((h.mem q.l q.t).mpr ⟨q, hq, Int.le_refl _, w1, Int.le_refl _, w2⟩))
  have c2 := mem_rcPts.mp (k _ _ ((h.mem (q.r - 1) (q.b - 1)).mpr ⟨q, hq, by omega, by omega, by omega, by omega⟩))
  obtain ⟨a1, a2, a3, a4⟩ := c1
  obtain ⟨b1, b2, b3, b4⟩ := c2
  dsimp only at a1 a2 a3 a4 b1 b2 b3 b4
  refine ⟨?_, ?_, ?_, ?_, ?_, ?_⟩ <;> omega
theorem rcPts_small {q : Rc} (h : 0 ≤ q.l ∧ q.r ≤ 64 ∧ 0 ≤ q.t ∧ q.b ≤ 64) : (rcPts q).length ≤ 4096 := by
  rw [rcPts_rows]
  refine Nat.le_trans (rowsA_len _ _) ?_
  rw [upFrom_len, upFrom_len]
  have : (q.b - q.t).toNat * (q.r - q.l).toNat ≤ 64 * 64 := Nat.mul_le_mul (by omega) (by omega)
  exact this
theorem swp_map_inj : ∀ {l k : List Pt}, l.map swp = k.map swp → l = k
  | [], [], _ => rfl
  | [], _ :: _, h => by cases h
  | _ :: _, [], h => by cases h
  | a :: l, b :: k, h => by
    rw [List.map_cons, List.map_cons] at h
    obtain ⟨h1, h2⟩ := List.cons.inj h
    have e : a = b := congrArg swp h1
    rw [e, swp_map_inj h2]
/-- two lists of the same points, sorted -/
theorem sorted_same {H H' : Hp} {vs ys us zs : List V} {qs rs : List Pt} (h : PtsV H vs qs) (nd : qs.Nodup) (s : SrtO.Srtd (ltP (kf H)) ys) (b : SrtO.Stb (ltP (kf H)) ys vs) (h' : PtsV H' us rs) (nd' : rs.Nodup) (s' : SrtO.Srtd (ltP (kf H')) zs) (b' : SrtO.Stb (ltP (kf H')) zs us) (e : ∀ z, z ∈ qs ↔ z ∈ rs) :
    ∃ ps, PtsV H ys ps ∧ PtsV H' zs ps := by
  obtain ⟨a1, a2, a3, a4⟩ := sorted_pts h nd s b
  obtain ⟨c1, c2, c3, c4⟩ := sorted_pts h' nd' s' b'
  have : ys.map (kf H) = zs.map (kf H') := swp_map_inj (asc_uniq a3 c3 fun p => by
    constructor
    · intro hp
      obtain ⟨z, hz, rfl⟩ := List.mem_map.mp hp
      exact List.mem_map_of_mem ((c2 z).mpr ((e z).mp ((a2 z).mp hz)))
    · intro hp
      obtain ⟨z, hz, rfl⟩ := List.mem_map.mp hp
      exact List.mem_map_of_mem ((a2 z).mpr ((e z).mpr ((c2 z).mp hz))))
  exact ⟨_, a1, by rw [this]; exact c1⟩
abbrev s_law : Stmt := top 117
theorem sc_law : FnScope ["script", "parts", "other", "first", "second", "frame", "dirt", "due", "held", "left", "top", "right", "bottom", "y", "x", "renamed", "third", "layer"] ["script"] (defScope s_law) := ⟨rfl, rfl, rfl, by decide +kernel, rfl, by decide +kernel, by decide +kernel⟩
theorem FiV.tk2 {H H' : Hp} {v : V} {x : Fi} (e : LamX.ExtN H H') (h : FiV H v x) : FiV H' v x := by
  obtain ⟨a, L, us, rfl, h1, h2, h3⟩ := h
  exact ⟨a, L, us, rfl, e _ _ h1 (fun _ z => nomatch z), e _ _ h2 (fun _ z => nomatch z), Paired.mapP h3 fun _ _ => LaV.tk (extN_tk e)⟩
theorem FlV.extN {C : Addr} {H H' : Hp} {v : V} {x : Fi} (e : LamX.ExtN H H') (h : FlV C H v x) : FlV C H' v x := by
  obtain ⟨a, dx, L, us, rfl, h1, h2, h3⟩ := h
  exact ⟨a, dx, L, us, rfl, e _ _ h1 (fun _ z => nomatch z), e _ _ h2 (fun _ z => nomatch z), Paired.mapP h3 fun _ _ => LaV.tk (extN_tk e)⟩
def spLawT (K : PySem.W.Frag) (PT : Addr) : Sp := fun vs H Q _ => ∃ (a : Addr) (ns : List Int), vs = [.ref a] ∧ SqL K H a (ns.map V.int) ∧ ns.length ≤ 63 ∧ LamX.Tabs (lamT PT) H ∧ ∀ H', Q (.bl true) H'
theorem ok_law {f C CR PT : Addr} {fd : FuncData} (F : Fun K "law" "law" s_law f fd) (T : Txt K mg) (D_l_film : Def P w K mg base CX0 "_law_film" 6 ["script", "k"] (spFilmF K)) (D_l_changed : Def P w K mg base CX0 "_law_changed" 6 ["script", "k", "parts"] (spChanged K))
    (D_l_draw : Def P w K mg base CX0 "_law_draw" 1 ["script", "k", "below"] (spDrawF K)) (D_l_made : Def P w K mg base CX0 "_law_made" 10 ["parts"] (spMade K C)) (D_dirt_of : Def P w K mg base CX0 "dirt_of" 15 ["first", "second", "frame"] (spDirtOf K PT C CR))
    (D_l_unlike : Def P w K mg base CX0 "_law_unlike" 5 ["one", "other", "frame"] (spUnlike K)) (D_region_of : Def P w K mg base (L2.CX P w) "region_of" 14 ["rectangles"] (spRegionOf K PT CR)) (MK_Film : MkO P w K mg base CX0 "Film" C 8 ["self", "width", "height", "frames", "background", "layers"] (spFilmVd C)) : FnOk P w K mg base CX0 16 f fd ["script"] (spLawT K PT) := by
  refine F.ok sc_law (fun vs H Q E h => ?_) (fun cdv A outer s H vs Q E hr h => ?_)
  · obtain ⟨a, ns, rfl, _⟩ := h
    rfl
  obtain ⟨a, ns, rfl, hS, hl, tb, q⟩ := h
  refine ⟨_, (pss_cons (ps_set (i := 1) sc_law.nd rfl (by first | exact Or.inl rfl | exact Or.inr rfl) (pe_call D_l_film.ok (hr.mono (by decide)) rfl D_l_film.mgf D_l_film.kp D_l_film.b .nil pass0 (pa_cons (pv 0) (pa_cons pe_int pa_nil))))
      (pss_cons (ps_set (i := 2) sc_law.nd rfl (by first | exact Or.inl rfl | exact Or.inr rfl) (pe_call D_l_changed.ok (hr.mono (by decide)) rfl D_l_changed.mgf D_l_changed.kp D_l_changed.b .nil pass0 (pa_cons (pv 0) (pa_cons pe_int (pa_cons (pv 1) pa_nil)))))
      (pss_cut (ps_if (PW.pt (pw_and (pt_cmpR op_eq (pe_call D_l_draw.ok (hr.mono (by decide)) rfl D_l_draw.mgf D_l_draw.kp D_l_draw.b .nil pass0 (pa_cons (pv 0) (pa_cons pe_int (pa_cons pe_int pa_nil)))) pe_int (nomark _)) (pw_and (pt_cmpR op_lt (pe_callB (klen K) (by rfl) T.len_ PySem.boot_len (pa_cons (pe_ix (kixT K) (pv 2) pe_int (fun _ _ => rfl)) pa_nil)) pe_int (nomark _)) (pw_and1 (pt_cmpR (knotin K) pe_str (pe_lc (own := [("layer", 17)]) (tt := tYes) rfl sc_law.nd (kpiL K (pe_ix (kixT K) (pv 2) pe_int (fun _ _ => rfl))) (blkOk_by (N := ["script", "parts", "other", "first", "second", "frame", "dirt", "due", "held", "left", "top", "right", "bottom", "y", "x", "renamed", "third", "layer"]) (sc := defScope s_law) (by decide +kernel)) (fun _ _ _ _ _ => (pg_name (i := 17) sc_law.nd rfl (by first | exact Or.inl rfl | exact Or.inr rfl))) (fun _ _ _ _ _ => pts_nil) (fun _ _ _ _ _ => (pe_ix (kixT K) (pv 17) pe_int (fun _ _ => rfl)))) (by rfl))))))
        (pss_one (ps_set (i := 2) sc_law.nd rfl (by first | exact Or.inl rfl | exact Or.inr rfl) (pe_call D_l_changed.ok (hr.mono (by decide)) rfl D_l_changed.mgf D_l_changed.kp D_l_changed.b .nil pass0 (pa_cons (pv 0) (pa_cons pe_int (pa_cons (pv 2) pa_nil))))))
        pss_nil)
      (pss_cons (ps_set (i := 3) sc_law.nd rfl (by first | exact Or.inl rfl | exact Or.inr rfl) (pe_call D_l_made.ok (hr.mono (by decide)) rfl D_l_made.mgf D_l_made.kp D_l_made.b .nil pass0 (pa_cons (pv 1) pa_nil)))
      (pss_cons (ps_set (i := 4) sc_law.nd rfl (by first | exact Or.inl rfl | exact Or.inr rfl) (pe_call D_l_made.ok (hr.mono (by decide)) rfl D_l_made.mgf D_l_made.kp D_l_made.b .nil pass0 (pa_cons (pv 2) pa_nil)))
      (pss_cons (ps_set (i := 5) sc_law.nd rfl (by first | exact Or.inl rfl | exact Or.inr rfl) (pe_call D_l_draw.ok (hr.mono (by decide)) rfl D_l_draw.mgf D_l_draw.kp D_l_draw.b .nil pass0 (pa_cons (pv 0) (pa_cons pe_int (pa_cons (pe_ix (kixT K) (pv 1) pe_int (fun _ _ => rfl)) pa_nil)))))
      (pss_cons (ps_set (i := 6) sc_law.nd rfl (by first | exact Or.inl rfl | exact Or.inr rfl) (pe_call D_dirt_of.ok (hr.mono (by decide)) rfl D_dirt_of.mgf D_dirt_of.kp D_dirt_of.b .nil pass0 (pa_cons (pv 3) (pa_cons (pv 4) (pa_cons (pv 5) pa_nil)))))
      (pss_cons (ps_set (i := 7) sc_law.nd rfl (by first | exact Or.inl rfl | exact Or.inr rfl) (pe_call D_l_unlike.ok (hr.mono (by decide)) rfl D_l_unlike.mgf D_l_unlike.kp D_l_unlike.b .nil pass0 (pa_cons (pv 1) (pa_cons (pv 2) (pa_cons (pv 5) pa_nil)))))
      (pss_cons (ps_if (PW.pt (pw_or (pt_not (pt_val (pe_callB (kisi K) (by rfl) T.isinstance_ bt_isinstance (pa_cons (pv 6) (pa_cons (pe_bltn (v := .ty "list") (by rfl) T.list_ bt_list rfl) pa_nil))))) (pw_or1 (pt_cmpR (kneD K hr.units) (pv 6) (pe_call D_region_of.ok (hr.mono (by decide)) rfl D_region_of.mgf D_region_of.kp D_region_of.b .nil passL (pa_cons (pe_lc (own := [("x", 14), ("y", 13)]) (tt := tYes) rfl sc_law.nd (kpiL K (pv 7)) (blkOk_by (N := ["script", "parts", "other", "first", "second", "frame", "dirt", "due", "held", "left", "top", "right", "bottom", "y", "x", "renamed", "third", "layer"]) (sc := defScope s_law) (by decide +kernel)) (fun _ _ _ _ _ => (kpgT K (n := 2) rfl (pgs_cons (pg_name (i := 14) sc_law.nd rfl (by first | exact Or.inl rfl | exact Or.inr rfl)) (pgs_cons (pg_name (i := 13) sc_law.nd rfl (by first | exact Or.inl rfl | exact Or.inr rfl)) pgs_nil)))) (fun _ _ _ _ _ => pts_nil) (fun _ _ _ _ _ => (pe_tup (pa_cons (pv 14) (pa_cons (pv 13) (pa_cons (pe_op op_add (pv 14) pe_int) (pa_cons (pe_op op_add (pv 13) pe_int) pa_nil))))))) pa_nil)) (nomark _)))))
        (pss_one (ps_ret pe_bl))
        pss_nil)
      (pss_cons (ps_if (pt_cmpR (kneD K hr.units) (pe_call D_dirt_of.ok (hr.mono (by decide)) rfl D_dirt_of.mgf D_dirt_of.kp D_dirt_of.b .nil pass0 (pa_cons (pv 4) (pa_cons (pv 3) (pa_cons (pv 5) pa_nil)))) (pv 6) (nomark _))
        (pss_one (ps_ret pe_bl))
        pss_nil)
      (pss_cons (ps_set (i := 8) sc_law.nd rfl (by first | exact Or.inl rfl | exact Or.inr rfl) (pe_lst pa_nil))
      (pss_cons (ps_for PassesOwn.never rfl (kpiL K (pv 6)) (kpgT K (n := 4) rfl (pgs_cons (pg_name (i := 9) sc_law.nd rfl (by first | exact Or.inl rfl | exact Or.inr rfl)) (pgs_cons (pg_name (i := 10) sc_law.nd rfl (by first | exact Or.inl rfl | exact Or.inr rfl)) (pgs_cons (pg_name (i := 11) sc_law.nd rfl (by first | exact Or.inl rfl | exact Or.inr rfl)) (pgs_cons (pg_name (i := 12) sc_law.nd rfl (by first | exact Or.inl rfl | exact Or.inr rfl)) pgs_nil)))))
        (pss_one (ps_for PassesOwn.never rfl (pi_range2 (by rfl) T.range_ (pa_cons (pv 10) (pa_cons (pv 12) pa_nil))) (pg_name (i := 13) sc_law.nd rfl (by first | exact Or.inl rfl | exact Or.inr rfl))
          (pss_one (ps_for PassesOwn.never rfl (pi_range2 (by rfl) T.range_ (pa_cons (pv 9) (pa_cons (pv 11) pa_nil))) (pg_name (i := 14) sc_law.nd rfl (by first | exact Or.inl rfl | exact Or.inr rfl))
            (pss_one (ps_expr (pe_bm PySem.F.plainAttrs_list PySem.F.slot_list_append PySem.F.type_list_append mt_append (pv 8) (pa_cons (pe_tup (pa_cons (pv 14) (pa_cons (pv 13) pa_nil))) pa_nil)))))))))
      (pss_cons (ps_if (pt_cmpR (kneD K hr.units) (pe_callB (ksortedP K) (by rfl) T.sorted_ bt_sorted (pa_cons (pv 8) pa_nil)) (pe_callB (ksortedP K) (by rfl) T.sorted_ bt_sorted (pa_cons (pv 7) pa_nil)) (nomark _))
        (pss_one (ps_ret pe_bl))
        pss_nil)
      (pss_cons (ps_expr (pe_bm PySem.F.plainAttrs_list PySem.F.slot_list_append PySem.F.type_list_append mt_append (pv 6) (pa_cons pe_str pa_nil)))
      (pss_cons (ps_setLc (i := 15)  (own := [("layer", 17)]) (tt := tYes) rfl sc_law.nd rfl rfl (sw_true rfl rfl rfl (by decide +kernel)) (kpiL K (pe_ix (kixT K) (pv 1) pe_int (fun _ _ => rfl))) (blkOk_by (N := ["script", "parts", "other", "first", "second", "frame", "dirt", "due", "held", "left", "top", "right", "bottom", "y", "x", "renamed", "third", "layer"]) (sc := defScope s_law) (by decide +kernel)) (fun _ _ _ _ _ => (pg_name (i := 17) sc_law.nd rfl (by first | exact Or.inl rfl | exact Or.inr rfl))) (fun _ _ _ _ _ => pts_nil) (fun _ _ _ _ _ => (pe_tup (pa_cons (pe_op op_add_str pe_str (pe_ix (kixT K) (pv 17) pe_int (fun _ _ => rfl))) (pa_cons (pe_ix (kixT K) (pv 17) pe_int (fun _ _ => rfl)) (pa_cons (pe_ix (kixT K) (pv 17) pe_int (fun _ _ => rfl)) (pa_cons (pe_ix (kixT K) (pv 17) pe_int (fun _ _ => rfl)) (pa_cons (pe_ix (kixT K) (pv 17) pe_int (fun _ _ => rfl)) pa_nil))))))))
      (pss_cons (ps_set (i := 16) sc_law.nd rfl (by first | exact Or.inl rfl | exact Or.inr rfl) (pe_make MK_Film.M MK_Film.ok (hr.mono (by decide)) rfl MK_Film.mgC MK_Film.b .nil pass0 (pa_cons (pe_ix (kixT K) (pv 1) pe_int (fun _ _ => rfl)) (pa_cons (pe_ix (kixT K) (pv 1) pe_int (fun _ _ => rfl)) (pa_cons (pe_ix (kixT K) (pv 1) pe_int (fun _ _ => rfl)) (pa_cons (pe_ix (kixT K) (pv 1) pe_int (fun _ _ => rfl)) (pa_cons (pv 15) pa_nil)))))))
      (pss_one (ps_ret (pe_and (pe_cmpR (keqD K hr.units) (pe_call D_dirt_of.ok (hr.mono (by decide)) rfl D_dirt_of.mgf D_dirt_of.kp D_dirt_of.b .nil pass0 (pa_cons (pv 3) (pa_cons (pv 16) (pa_cons (pv 5) pa_nil)))) (pe_lst pa_nil) (nomark _)) (pe_one (pe_cmpR (keqD K hr.units) (pe_call D_dirt_of.ok (hr.mono (by decide)) rfl D_dirt_of.mgf D_dirt_of.kp D_dirt_of.b .nil pass0 (pa_cons (pv 3) (pa_cons (pv 3) (pa_cons (pv 5) pa_nil)))) (pe_lst pa_nil) (nomark _)))))))))))))))))))))), ?_⟩
  rw [start_nrm (Nat.le_of_ble_eq_true rfl)]; dsimp only [startL]
  refine ⟨_, rfl, a, ns, 0, rfl, hS, Int.le_refl 0, fun v x H1 e1 hv ok => ?_⟩
  dsimp only [List.set]
  have k := ok.vd
  have dr := ok_dr ok
  obtain ⟨pa, L, us, rfl, hpa, hL, hP⟩ := id hv
  have n0 := ok.n0
  have n1 := ok.n1
  have w0 := ok.w0
  have w1 := ok.w1
  have h0 := ok.h0
  have h1 := ok.h1
  have lL := ok.len
  have lu := hP.length
  have hck : ∀ k, ck k ∉ x.ls.map La.hd := fun k => by
    unfold ck
    split
    · exact ok_heads ok (by decide)
    · exact ok_heads ok (by decide)
  refine ⟨_, rfl, _, rfl, a, ns, 410, .ref pa, x, 8, 5, rfl, ex_l e1 hS, by decide, hv, dr, by decide, by decide, by decide, ok_heads ok (by decide), hck _, fun ov o H2 e2 hov odr ow oh on onm => ?_⟩
  dsimp only [List.set]
  have e12 := e1.trans e2
  obtain ⟨ba, M, wo, rfl, hba, hM, hQ⟩ := id hov
  have lo := hQ.length
  have lo2 := odr.ls.len
  refine ⟨fun σ H' => Ex H1 H' ∧ ∃ (ov : V) (o : Fi), σ = [some (.ref a), some (.ref pa), some ov, none, none, none, none, none, none, none, none, none, none, none, none, none, none, none] ∧ FiV H' ov o ∧ o.Dr 12 7 ∧ o.w = x.w ∧ o.h = x.h, ?_, ?_⟩
  · have odr' : o.Dr 12 7 := ⟨odr.w0, odr.w1, odr.h0, odr.h1, odr.n0, odr.n1, odr.b0, odr.b1, ⟨fun l hl => (odr.ls.ok l hl).le (by decide), odr.ls.nd, by omega⟩⟩
    have stay : ∀ H', Ex H2 H' → Ex H1 H' ∧ ∃ (ov : V) (o : Fi), [some (V.ref a), some (.ref pa), some (.ref ba), none, none, none, none, none, none, none, none, none, none, none, none, none, none, none] = [some (.ref a), some (.ref pa), some ov, none, none, none, none, none, none, none, none, none, none, none, none, none, none, none] ∧ FiV H' ov o ∧ o.Dr 12 7 ∧ o.w = x.w ∧ o.h = x.h := fun H' e => ⟨e2.trans e, .ref ba, o, rfl, FiV.tk2 (ExtN.ex e) hov, odr', ow, oh⟩
    refine ⟨_, rfl, a, ns, 402, 3, rfl, ex_l e12 hS, by decide, by decide, by decide, fun z z0 z1 => ?_⟩
    refine ⟨rfl, _, rfl, ?_⟩
    refine ite2 (fun _ => ?_) (fun _ => iteF (stay _ (Ex.refl _)))
    refine ⟨_, rfl, ba, _, 4, _, rfl, rfl, SqT.of hba, rfl, M, wo, rfl, .inl (SqL.of hM), _, _, rfl, rfl, _, rfl, ?_⟩
    refine ite2 (fun c1 => ?_) (fun _ => iteF (stay _ (Ex.refl _)))
    refine ⟨_, rfl, ba, _, 4, _, rfl, rfl, SqT.of hba, rfl, M, rfl, ⟨wo, SqL.of hM⟩, fun D hD => ?_⟩
    refine lc_list (xs := wo) (fun i H' => Ex H2 H' ∧ H' D = some (.lst ((o.ls.take i).map fun l => V.str l.name))) ⟨Ex.new hD, upd_same⟩ (fun i H' _ p => SqL.of (p.1 _ _ hM)) ?_ ?_
    · rintro i uv G hu ⟨eg, hG⟩
      obtain ⟨l, hlx, hlv⟩ := pr_get hQ hu
      obtain ⟨la, bv, ma, wv, ca, ms, cs, rfl, hla, _⟩ := id hlv
      refine ⟨rfl, ?_⟩
      refine lcY ?_
      refine ⟨_, rfl, la, _, 0, _, rfl, rfl, SqT.of (eg _ _ hla), rfl, ?_⟩
      refine ⟨_, hG, slineL (by rw [List.length_map, List.length_take]; omega), eg.mut hD, ?_⟩
      rw [upd_same, List.take_add_one, hlx, List.map_append]
      rfl
    rintro H3 ⟨e3, hG⟩
    rw [lo, List.take_length] at hG
    refine ⟨D, _, rfl, .inl (SqL.of hG), rfl, ?_, _, rfl, ?_⟩
    · rw [List.all_map]
      exact List.all_eq_true.mpr fun _ _ => rfl
    refine ite2 (fun c2 => ?_) (fun _ => stay _ e3)
    have nn : ∀ l ∈ o.ls, l.name ≠ "n" := fun l hl e => by
      have hin : inV (.str "n") (o.ls.map fun l => V.str l.name) = true := List.any_eq_true.mpr ⟨V.str "n", List.mem_map.mpr ⟨l, hl, by rw [e]⟩, by decide +kernel⟩
      rw [hin] at c2
      cases c2
    have no : ∀ c : Nat, c = 110 ∨ c = 111 → some c ∉ o.ls.map La.hd := fun c hc z => by
      obtain ⟨l, hl, e⟩ := List.mem_map.mp z
      rcases onm l hl with h | h | h
      · rw [e] at h
        exact ok_heads ok (by rcases hc with rfl | rfl <;> decide) h
      · exact nn l hl h
      · rw [e] at h
        have : (some c : Option Nat) = some 109 := h
        rcases hc with rfl | rfl <;> cases this
    refine ⟨_, rfl, _, rfl, a, ns, 480, .ref ba, o, 10, 6, rfl, ex_l (e12.trans e3) hS, by decide, FiV.tk2 (ExtN.ex e3) hov, odr, by decide, by decide, by decide, no 110 (.inl rfl), no 111 (.inr rfl), fun ov o' H4 e4 hov odr' ow' oh' _ _ => ?_⟩
    exact ⟨e2.trans (e3.trans e4), ov, o', rfl, hov, odr', ow'.trans ow, oh'.trans oh⟩
  clear hov hba hM hQ lo lo2 odr ow oh onm e12 e2
  rintro σ H3 ⟨e3, ov, o, rfl, hov, odr, ow, oh⟩
  have ok2 : o.Vd := odr.vd (by decide)
  have lo := odr.ls.len
  have hv3 := FiV.tk2 (ExtN.ex e3) hv
  refine ⟨_, rfl, .ref pa, x, rfl, hv3, k, fun u1 H4 e4 hf1 => ?_⟩
  dsimp only [List.set]
  have hov4 := FiV.tk2 (ExtN.ex e4) hov
  refine ⟨_, rfl, ov, o, rfl, hov4, ok2, fun u2 H5 e5 hf2 => ?_⟩
  dsimp only [List.set]
  have e15 := (e3.trans e4).trans e5
  have hf1 := hf1.ex e5
  have hov5 := FiV.tk2 (ExtN.ex e5) hov4
  have hv5 := FiV.tk2 (ExtN.ex e15) hv
  have hpa5 := e15 _ _ hpa
  have hL5 := e15 _ _ hL
  have hP5 := Paired.mapP hP fun _ _ => LaV.tk (TK.ex e15)
  have tb5 := tb.ext (e1.trans e15)
  refine ⟨_, rfl, _, rfl, pa, _, 2, _, rfl, rfl, SqT.of hpa5, rfl, ?_⟩
  refine ⟨a, ns, 400, x.n, rfl, ex_l (e1.trans e15) hS, by decide, by omega, by omega, fun fr f0 f1 => ?_⟩
  dsimp only [List.set]
  clear hv hov hov4 hv3 e3 e4 e5 e15 hpa hL hP
  refine ⟨_, rfl, _, rfl, _, rfl, u1, u2, x, o, fr, rfl, hf1, hf2, k, ok2, ow, oh, by omega, tb5, fun d H6 nf6 n6 tb6 rg => ?_⟩
  dsimp only [List.set]
  refine ⟨_, rfl, _, rfl, _, rfl, .ref pa, ov, x, o, fr, rfl, FiV.tk2 n6 hv5, FiV.tk2 n6 hov5, k, ok2, ow, oh, fun p us7 H7 hp7 e7 k7 hU => ?_⟩
  dsimp only [List.set]
  obtain ⟨dws, dfm, hd6, hdR, dform, din⟩ := id rg
  have mU : ∀ px py, (px, py) ∈ unlike x o fr x.h.toNat ↔ diffP x o fr px py := fun px py => unlike_diff k ok2 ow oh
  have ndU := nd_unlike x o fr x.h.toNat
  generalize unlike x o fr x.h.toNat = U at hU mU ndU
  have g81 : (grid x).length ≤ 81 := by
    have := grid_len x
    have z : x.h.toNat * x.w.toNat ≤ 81 := by
      have wh := ok.wh
      rw [Int.mul_comm] at wh
      have : ((x.h.toNat * x.w.toNat : Nat) : Int) ≤ 81 := by
        rw [Int.natCast_mul, Int.toNat_of_nonneg (by omega), Int.toNat_of_nonneg (by omega)]
        exact wh
      omega
    omega
  have lU : U.length ≤ 81 := by
    refine Nat.le_trans (ndU.length_le_of_subset fun z hz => ?_) g81
    exact diff_grid ((mU _ _).mp hz)
  have lfm : dfm.length ≤ 81 := Nat.le_trans (dform.len din) g81
  have on := form_on dform din
  have hd7 := e7 _ _ hd6
  refine ⟨_, rfl, _, _, _, _, _, rfl, .ty _, (Kn.lst hd7).ty, kit_ty (kit_list (Kn.lst hd7)), _, rfl, ?_⟩
  have il : isA "list" "list" = true := by decide +kernel
  rw [il]
  refine iteF ?_
  have lu7 := hU.length
  refine ⟨_, rfl, _, rfl, p, rfl, ⟨_, SqL.of k7⟩, fun D hD => ?_⟩
  refine lc_list (xs := us7) (fun i H' => Ex H7 H' ∧ ∃ ws, H' D = some (.lst ws) ∧ RcsV H' ws ((U.take i).map unitR)) ⟨Ex.new hD, [], upd_same, .nil⟩ (fun i H' _ p => SqL.of (p.1 _ _ k7)) ?_ ?_
  · rintro i uv G hu ⟨eg, ws, hW, hJ⟩
    obtain ⟨z, hz, qa, rfl, hqa⟩ := pr_get (hU.tk (TK.ex eg)) hu
    have lw := hJ.length
    rw [List.length_map, List.length_take] at lw
    refine ⟨qa, _, rfl, SqT.of hqa, rfl, _, _, rfl, _, _, rfl, rfl, ?_⟩
    refine ⟨rfl, ?_⟩
    refine lcY ?_
    refine ⟨_, rfl, _, rfl, _, rfl, _, _, rfl, rfl, _, rfl, _, _, rfl, rfl, (by show 4 ≤ sizeLine; decide), fun t ht => ?_⟩
    have f2 := Ex.new (o := .tup [.int z.1, .int z.2, .int (z.1 + 1), .int (z.2 + 1)]) ht
    have g2 : upd G t (.tup [.int z.1, .int z.2, .int (z.1 + 1), .int (z.2 + 1)]) t = some (.tup [.int z.1, .int z.2, .int (z.1 + 1), .int (z.2 + 1)]) := upd_same
    generalize upd G t (.tup [.int z.1, .int z.2, .int (z.1 + 1), .int (z.2 + 1)]) = G2 at f2 g2 ⊢
    have hW2 := f2 _ _ hW
    refine ⟨ws, hW2, slineL (by omega), (eg.trans f2).mut hD, ws ++ [.ref t], upd_same, ?_⟩
    rw [List.take_add_one, hz, List.map_append]
    exact ((hJ.tk (TK.ex f2)).tk (TK.lst hW2)).snoc ⟨t, rfl, TK.lst hW2 _ _ g2⟩
  rintro H8 ⟨e8, zs8, k8, hZ8⟩
  rw [lu7, List.take_length] at hZ8
  have n58 := (n6.trans (ExtN.ex e7)).trans (ExtN.ex e8)
  refine ⟨D, zs8, rfl, SqL.of k8, by have := hZ8.length; rw [List.length_map] at this; omega, rcs_items hZ8, (tb6.ext e7).ext e8, (fun i v h1 h2 => (rcs_good hZ8 (unit_wide U) h1 h2).elim), fun qz hqz _ r wsr fmr H9 nf9 n9 tb9 hr9 hrR form9 _ => ?_⟩
  obtain rfl := rcs_one hZ8 hqz
  have rg9 := ((rg.ex e7).ex e8).extN n9
  have rr9 : Reg H9 (grid x) r (covers (U.map unitR)) := ⟨wsr, fmr, hr9, hrR, form9, fun px py h => diff_grid ((mU _ _).mp (unit_covers.mp h))⟩
  obtain ⟨dd, da, db, ds, dv⟩ := Reg.same (K := K) rg9 rr9 fun px py => by rw [unit_covers]; exact (mU px py).symm
  refine ⟨dd, dd, da, db, ds, ds, _, rfl, ?_⟩
  rw [dv]
  refine iteF ?_
  have n59 := n58.trans n9
  refine ⟨_, rfl, _, rfl, _, rfl, u2, u1, o, x, fr, rfl, hf2.extN n59, hf1.extN n59, ok2, k, ow.symm, oh.symm, by omega, tb9, fun d2 H10 nf10 n10 tb10 rg2 => ?_⟩
  have rg10 := rg9.extN n10
  have eg : grid o = grid x := by
    unfold grid
    rw [ow, oh]
  rw [eg] at rg2
  obtain ⟨dd2, da2, db2, ds2, dv2⟩ := Reg.same (K := K) rg2 rg10 fun px py => by
    unfold diffP
    rw [ow, oh]
    exact ⟨fun ⟨a, b, c, d, e⟩ => ⟨a, b, c, d, fun z => e z.symm⟩, fun ⟨a, b, c, d, e⟩ => ⟨a, b, c, d, fun z => e z.symm⟩⟩
  refine ⟨_, rfl, dd2, dd2, da2, db2, ds2, ds2, _, rfl, ?_⟩
  rw [dv2]
  refine iteF ?_
  have n510 := n59.trans n10
  have d10 : H10 d = some (.lst dws) := n10 _ _ (n9 _ _ (e8 _ _ hd7) (fun _ z => nomatch z)) (fun _ z => nomatch z)
  have R10 : RcsV H10 dws dfm := hdR.tk (extN_tk (((ExtN.ex e7).trans (ExtN.ex e8)).trans (n9.trans n10)))
  have p10 : H10 p = some (.lst us7) := n10 _ _ (n9 _ _ (e8 _ _ k7) (fun _ z => nomatch z)) (fun _ z => nomatch z)
  have U10 : PtsV H10 us7 U := hU.tk (extN_tk ((ExtN.ex e8).trans (n9.trans n10)))
  refine ⟨(by show 0 ≤ sizeLine; decide), fun E2 hE2 => ?_⟩
  have e11 := Ex.new (o := .lst []) hE2
  have g11 : upd H10 E2 (.lst []) E2 = some (.lst []) := upd_same
  generalize upd H10 E2 (.lst []) = H11 at e11 g11 ⊢
  dsimp only [List.set]
  have ld := R10.length
  refine ⟨_, rfl, d, rfl, ⟨_, SqL.of (e11 _ _ d10)⟩, ?_⟩
  refine for_list (K := K) (a := d) (xs := dws) (fun i σ H' => Ex H10 H' ∧ (∃ (y9 y10 y11 y12 y13 y14 : Option V), σ = [some (.ref a), some (.ref pa), some ov, some u1, some u2, some (.int fr), some (.ref d), some (.ref p), some (.ref E2), y9, y10, y11, y12, y13, y14, none, none, none]) ∧ ∃ ws, H' E2 = some (.lst ws) ∧ PtsV H' ws (covPts (dfm.take i))) ⟨e11, ⟨_, _, _, _, _, _, rfl⟩, [], g11, .nil⟩ (fun i σ H' _ p => SqL.of (p.1 _ _ d10)) ?_ ?_
  · rintro i uv σ G hu ⟨eg1, ⟨y9, y10, y11, y12, y13, y14, rfl⟩, ws, hW, hJ⟩
    obtain ⟨z, hz, qa, rfl, hqa⟩ := pr_get (R10.tk (TK.ex eg1)) hu
    obtain ⟨o1, o2, o3, o4, o5, o6⟩ := on z (List.mem_of_getElem? hz)
    have hi := (List.getElem?_eq_some_iff.mp hz).1
    have lc : (covPts (dfm.take i)).length ≤ i * 4096 := by
      refine Nat.le_trans (flatMap_len (n := 4096) fun q hq => ?_) (Nat.mul_le_mul_right _ (List.length_take_le ..))
      obtain ⟨b1, b2, b3, b4, b5, b6⟩ := on q (List.mem_of_mem_take hq)
      exact rcPts_small ⟨b1, by omega, b4, by omega⟩
    refine ⟨qa, _, rfl, SqT.of hqa, rfl, _, _, rfl, _, _, rfl, _, _, rfl, _, _, rfl, rfl, ?_⟩
    dsimp only [List.set]
    refine ⟨_, rfl, _, rfl, z.t, z.b, rfl, ⟨by omega, by omega, by omega, by omega⟩, ?_⟩
    refine for_range (lo := z.t) (n := (z.b - z.t).toNat) (fun j σ H' => Ex H10 H' ∧ (∃ (y13 y14 : Option V), σ = [some (.ref a), some (.ref pa), some ov, some u1, some u2, some (.int fr), some (.ref d), some (.ref p), some (.ref E2), some (.int z.l), some (.int z.t), some (.int z.r), some (.int z.b), y13, y14, none, none, none]) ∧ ∃ ws, H' E2 = some (.lst ws) ∧ PtsV H' ws (covPts (dfm.take i) ++ rowsA (upFrom z.t (z.t + (j : Int))) (upFrom z.l z.r))) ⟨eg1, ⟨_, _, rfl⟩, ws, hW, by rw [up_none]; show PtsV _ _ (_ ++ []); rw [List.append_nil]; exact hJ⟩ ?_ ?_
    · rintro j σ G2 hj ⟨eg2, ⟨y13, y14, rfl⟩, ws, hW, hJ⟩
      dsimp only [List.set]
      refine ⟨_, rfl, _, rfl, z.l, z.r, rfl, ⟨by omega, by omega, by omega, by omega⟩, ?_⟩
      refine for_range (lo := z.l) (n := (z.r - z.l).toNat) (fun m σ H' => Ex H10 H' ∧ (∃ (y14 : Option V), σ = [some (.ref a), some (.ref pa), some ov, some u1, some u2, some (.int fr), some (.ref d), some (.ref p), some (.ref E2), some (.int z.l), some (.int z.t), some (.int z.r), some (.int z.b), some (.int (z.t + (j : Int))), y14, none, none, none]) ∧ ∃ ws, H' E2 = some (.lst ws) ∧ PtsV H' ws (covPts (dfm.take i) ++ rowsA (upFrom z.t (z.t + (j : Int))) (upFrom z.l z.r) ++ rowA (z.t + (j : Int)) (upFrom z.l (z.l + (m : Int))))) ⟨eg2, ⟨_, rfl⟩, ws, hW, by rw [up_none]; show PtsV _ _ (_ ++ []); rw [List.append_nil]; exact hJ⟩ ?_ ?_
      · rintro m σ G3 hm ⟨eg3, ⟨y14, rfl⟩, ws, hW, hJ⟩
        dsimp only [List.set]
        have lw := hJ.length
        have l2 := rowsA_len (upFrom z.t (z.t + (j : Int))) (upFrom z.l z.r)
        rw [upFrom_len, upFrom_len] at l2
        have l3 : (z.t + (j : Int) - z.t).toNat * (z.r - z.l).toNat ≤ 64 * 64 := Nat.mul_le_mul (by omega) (by omega)
        have l4 : (rowA (z.t + (j : Int)) (upFrom z.l (z.l + (m : Int)))).length ≤ 64 := by
          unfold rowA
          rw [List.length_map, upFrom_len]
          omega
        rw [List.length_append, List.length_append] at lw
        refine ⟨_, rfl, .inl ⟨rfl, _, SqL.of hW⟩, ?_⟩
        refine ⟨_, rfl, _, rfl, (by show 2 ≤ sizeLine; decide), fun t ht => ?_⟩
        have f4 := Ex.new (o := .tup [.int (z.l + (m : Int)), .int (z.t + (j : Int))]) ht
        have g4 : upd G3 t (.tup [.int (z.l + (m : Int)), .int (z.t + (j : Int))]) t = some (.tup [.int (z.l + (m : Int)), .int (z.t + (j : Int))]) := upd_same
        generalize upd G3 t (.tup [.int (z.l + (m : Int)), .int (z.t + (j : Int))]) = G4 at f4 g4 ⊢
        have hW4 := f4 _ _ hW
        refine ⟨E2, ws, .ref t, rfl, rfl, hW4, slineL (by omega), ?_⟩
        refine ⟨(eg3.trans f4).mut hE2, ⟨_, rfl⟩, ws ++ [.ref t], upd_same, ?_⟩
        rw [up_next, rowA_snoc, ← List.append_assoc]
        exact ((hJ.tk (TK.ex f4)).tk (TK.lst hW4)).snoc ⟨t, rfl, TK.lst hW4 _ _ g4⟩
      · rintro σ G3 ⟨eg3, ⟨y14, rfl⟩, ws, hW, hJ⟩
        refine ⟨eg3, ⟨_, _, rfl⟩, ws, hW, ?_⟩
        rw [up_whole (by omega), List.append_assoc] at hJ
        rw [up_next, rowsA_snoc]
        exact hJ
    · rintro σ G2 ⟨eg2, ⟨y13, y14, rfl⟩, ws, hW, hJ⟩
      refine ⟨eg2, ⟨_, _, _, _, _, _, rfl⟩, ws, hW, ?_⟩
      rw [up_whole (by omega), ← rcPts_rows] at hJ
      rw [cov_snoc hz]
      exact hJ
  rintro σ H12 ⟨e12, ⟨y9, y10, y11, y12, y13, y14, rfl⟩, ws12, k12, hJ⟩
  rw [ld, List.take_length] at hJ
  dsimp only [List.set]
  refine ⟨_, rfl, E2, ws12, kf H12, rfl, SqL.of k12, fun v hv => ?_, fun ys1 s1 srt1 stb1 hs1 => ?_⟩
  · obtain ⟨t, rfl, ht⟩ := pts_each hJ v hv
    exact ⟨t, rfl, ht⟩
  have e13 := Ex.new (o := .lst ys1) hs1
  have g13 : upd H12 s1 (.lst ys1) s1 = some (.lst ys1) := upd_same
  generalize upd H12 s1 (.lst ys1) = H13 at e13 g13 ⊢
  have U13 := U10.tk (TK.ex (e12.trans e13))
  refine ⟨_, rfl, p, us7, kf H13, rfl, SqL.of ((e12.trans e13) _ _ p10), fun v hv => ?_, fun ys2 s2 srt2 stb2 hs2 => ?_⟩
  · obtain ⟨t, rfl, ht⟩ := pts_each U13 v hv
    exact ⟨t, rfl, ht⟩
  have e14 := Ex.new (o := .lst ys2) hs2
  have g14 : upd H13 s2 (.lst ys2) s2 = some (.lst ys2) := upd_same
  generalize upd H13 s2 (.lst ys2) = H14 at e14 g14 ⊢
  obtain ⟨pz, z1, z2⟩ := sorted_same hJ (nd_cov dform) srt1 stb1 U13 ndU srt2 stb2 fun ⟨px, py⟩ => by
    rw [mU, mem_covPts]
    exact (dform.mem px py).symm
  refine ⟨_, _, dp_pts (SqL.of (e14 _ _ g13)) (z1.tk (TK.ex (e13.trans e14))), dp_pts (SqL.of g14) (z2.tk (TK.ex e14)), eqs_pts.shaped (by decide) _, eqs_pts.shaped (by decide) _, _, rfl, ?_⟩
  rw [eqs_pts.1, decide_eq_true rfl]
  refine iteF ?_
  have e10 := (e12.trans e13).trans e14
  have d14 := e10 _ _ d10
  refine ⟨_, rfl, .inl ⟨rfl, _, SqL.of d14⟩, ?_⟩
  refine ⟨d, dws, .str "spoilt", rfl, rfl, d14, slineL (by omega), ?_⟩
  have n15 : LamX.ExtN H5 (upd H14 d (.lst (dws ++ [.str "spoilt"]))) := extN_mut (n510.trans (ExtN.ex e10)) nf6
  have tb15 : LamX.Tabs (lamT PT) (upd H14 d (.lst (dws ++ [.str "spoilt"]))) := tabs_lst (tb10.ext e10) d14
  generalize upd H14 d (.lst (dws ++ [.str "spoilt"])) = H15 at n15 tb15 ⊢
  clear e10 d14 g13 g14 z1 z2 e13 e14 U13 U10 R10 d10 p10 rg9 rg10 rg2 rr9 n510 n59 n58 tb9 tb10 tb6
  have hpa15 := n15 _ _ hpa5 (fun _ z => nomatch z)
  have hL15 := n15 _ _ hL5 (fun _ z => nomatch z)
  have hP15 := Paired.mapP hP5 fun _ _ => LaV.tk (extN_tk n15)
  refine ⟨_, rfl, pa, _, 4, _, rfl, rfl, SqT.of hpa15, rfl, L, rfl, ⟨us, SqL.of hL15⟩, fun D hD => ?_⟩
  refine lc_list (xs := us) (fun i H' => Ex H15 H' ∧ ∃ ws, H' D = some (.lst ws) ∧ Paired (LaV H') ws ((x.ls.take i).map fun l => (⟨"z" ++ l.name, l.box, l.ms, l.wh, l.cs⟩ : La))) ⟨Ex.new hD, [], upd_same, .nil⟩ (fun i H' _ p => SqL.of (p.1 _ _ hL15)) ?_ ?_
  · rintro i uv G hu ⟨e9, ws, hW, hJ⟩
    obtain ⟨l, hlx, hlv⟩ := pr_get hP15 hu
    have hlv9 := hlv.tk (TK.ex e9)
    obtain ⟨la, bv, ma, wv, ca, ms, cs, rfl, hla, hb, hma, hM, hw, hca, hC⟩ := id hlv9
    have nz8 : l.name.length ≤ 8 := by
      have nz := (k.ok l (List.mem_of_getElem? hlx)).name
      unfold nameS at nz
      rw [Bool.and_eq_true, Bool.and_eq_true, decide_eq_true_eq, decide_eq_true_eq] at nz
      have := nz.1.2
      omega
    have lw := hJ.length
    rw [List.length_map, List.length_take] at lw
    refine ⟨rfl, ?_⟩
    refine lcY ?_
    refine ⟨_, rfl, la, _, 0, _, rfl, rfl, SqT.of hla, rfl, _, _, rfl, rfl, ?_, ?_⟩
    · have : ("z" : Str).length = 1 := by decide +kernel
      rw [this]
      exact Nat.le_of_lt (slineL (by omega))
    refine ⟨_, rfl, la, _, 1, _, rfl, rfl, SqT.of hla, rfl, _, rfl, la, _, 2, _, rfl, rfl, SqT.of hla, rfl, _, rfl, la, _, 3, _, rfl, rfl, SqT.of hla, rfl, _, rfl, la, _, 4, _, rfl, rfl, SqT.of hla, rfl, (by show 5 ≤ sizeLine; decide), fun t ht => ?_⟩
    have f2 := Ex.new (o := .tup [.str ("z" ++ l.name), bv, .ref ma, wv, .ref ca]) ht
    have g2 : upd G t (.tup [.str ("z" ++ l.name), bv, .ref ma, wv, .ref ca]) t = some (.tup [.str ("z" ++ l.name), bv, .ref ma, wv, .ref ca]) := upd_same
    generalize upd G t (.tup [.str ("z" ++ l.name), bv, .ref ma, wv, .ref ca]) = G2 at f2 g2 ⊢
    have hW10 := f2 _ _ hW
    refine ⟨ws, hW10, slineL (by omega), (e9.trans f2).mut hD, ws ++ [.ref t], upd_same, ?_⟩
    rw [List.take_add_one, hlx, List.map_append]
    have tk := TK.lst (o := .lst (ws ++ [.ref t])) hW10
    have tf := TK.ex f2
    have hnew : LaV G2 (.ref t) ⟨"z" ++ l.name, l.box, l.ms, l.wh, l.cs⟩ := ⟨t, bv, ma, wv, ca, ms, cs, rfl, g2, hb.tk tf, f2 _ _ hma, hM.tk tf, hw.tk tf, f2 _ _ hca, hC.tk tf⟩
    exact pr_append (Paired.mapP (Paired.mapP hJ fun _ _ => LaV.tk tf) fun _ _ => LaV.tk tk) (.cons (hnew.tk tk) .nil)
  rintro H16 ⟨e16, ws, hW, hJ⟩
  rw [lu, List.take_length] at hJ
  dsimp only [List.set]
  have hpa16 := e16 _ _ hpa15
  refine ⟨_, rfl, pa, _, 0, _, rfl, rfl, SqT.of hpa16, rfl, _, rfl, pa, _, 1, _, rfl, rfl, SqT.of hpa16, rfl, _, rfl, pa, _, 2, _, rfl, rfl, SqT.of hpa16, rfl, _, rfl, pa, _, 3, _, rfl, rfl, SqT.of hpa16, rfl, _, rfl, ?_⟩
  intro s dx hs hdx ne
  have e2 : Ex H16 (upd (upd H16 dx (.own s)) s (.ins C dx [])) := (Ex.new hdx).trans (Ex.new (by rw [upd_ne (Ne.symm ne)]; exact hs))
  have ks : upd (upd H16 dx (.own s)) s (.ins C dx []) s = some (.ins C dx []) := upd_same
  generalize upd (upd H16 dx (.own s)) s (.ins C dx []) = H17 at e2 ks ⊢
  have rv := ren_vd ok
  have hJ9 : Paired (LaV H16) ws x.ren.ls := hJ
  refine ⟨s, dx, x.ren, D, ws, rfl, ks, e2 _ _ hW, Paired.mapP hJ9 fun _ _ => LaV.tk (TK.ex e2), rv, fun H18 dx' L' hL' keep hs3 hL3 => ⟨rfl, ?_⟩⟩
  have e3 : Ex H16 H18 := fun b ob hb => by
    have h2 := e2 _ _ hb
    refine keep b ob h2 fun z => ?_
    subst z
    rw [hs] at hb
    cases hb
  have hf3 : FlV C H18 (.ref s) x.ren := ⟨s, dx', L', ws, rfl, hs3, hL3, Paired.mapP hJ9 fun _ _ => LaV.tk (TK.ex e3)⟩
  dsimp only [List.set]
  have tb18 := (tb15.ext e16).ext e3
  have n18 := n15.trans ((ExtN.ex e16).trans (ExtN.ex e3))
  have lren : x.ren.ls.length = x.ls.length := List.length_map _
  refine ⟨_, rfl, _, rfl, _, rfl, u1, .ref s, x, x.ren, fr, rfl, hf1.extN n18, hf3, k, rv, rfl, rfl, by omega, tb18, fun d3 H19 nf19 n19 tb19 rg3 => ?_⟩
  refine ⟨(by show 0 ≤ sizeLine; decide), fun l1 hl1 => ?_⟩
  have f20 := Ex.new (o := .lst []) hl1
  have g20 : upd H19 l1 (.lst []) l1 = some (.lst []) := upd_same
  generalize upd H19 l1 (.lst []) = H20 at f20 g20 ⊢
  obtain ⟨d4, a4, b4, s4, v4⟩ := Reg.same (K := K) (rg3.ex f20) (⟨[], [], g20, .nil, form_none (S := fun _ _ => False) fun _ _ z => z, fun _ _ z => z.elim⟩ : Reg H20 (grid x) l1 fun _ _ => False) fun px py => by
    constructor
    · rintro ⟨_, _, _, _, z⟩
      rw [ren_stack] at z
      exact z rfl
    · exact False.elim
  refine ⟨d4, d4, a4, b4, s4, s4, ?_⟩
  rw [v4]
  refine ⟨_, rfl, ?_⟩
  refine iteT ?_
  have n20 := (n18.trans n19).trans (ExtN.ex f20)
  refine ⟨_, rfl, _, rfl, _, rfl, u1, u1, x, x, fr, rfl, hf1.extN n20, hf1.extN n20, k, k, rfl, rfl, by omega, tb19.ext f20, fun d5 H21 nf21 n21 tb21 rg5 => ?_⟩
  refine ⟨(by show 0 ≤ sizeLine; decide), fun l2 hl2 => ?_⟩
  have f22 := Ex.new (o := .lst []) hl2
  have g22 : upd H21 l2 (.lst []) l2 = some (.lst []) := upd_same
  generalize upd H21 l2 (.lst []) = H22 at f22 g22 ⊢
  obtain ⟨d6, a6, b6, s6, v6⟩ := Reg.same (K := K) (rg5.ex f22) (⟨[], [], g22, .nil, form_none (S := fun _ _ => False) fun _ _ z => z, fun _ _ z => z.elim⟩ : Reg H22 (grid x) l2 fun _ _ => False) fun px py => by
    constructor
    · rintro ⟨_, _, _, _, z⟩
      exact z rfl
    · exact False.elim
  refine ⟨d6, d6, a6, b6, s6, s6, ?_⟩
  rw [v6]
  exact q _
end
theorem all_mk {l : PySem.W.OpenLaw} {w : World} {K : PySem.W.Frag} {h : Heap} {mg : Str → Option Value} {fa f0 f1 f2 f3 f4 f5 f6 f7 f8 f9 f10 f11 f12 f13 f14 f15 f16 f17 f18 f19 f20 f21 f22 f23 f24 f25 f26 f27 f28 f29 f30 f31 f32 f33 f34 f35 f36 f37 f38 f39 f40 f41 f42 f43 f44 f45 f46 f47 f48 f49 f50 f51 f52 f53 f54 f55 f56 f57 f58 f59 f60 f61 f62 f63 f64 f65 f66 f67 f68 f69 f70 f71 f72 f73 f74 f75 f76 : Addr} (X : K.In h) (G : h.Ns mainGlobals mg) (hfa : mg "law" = some (.ref fa))
    {od0 an0 od1 an1 od2 an2 od3 an3 od4 an4 od5 an5 od6 an6 od7 an7 od8 an8 od9 an9 od10 an10 od11 an11 od12 an12 od13 an13 od14 an14 od15 an15 od16 an16 od17 an17 od18 an18 od19 an19 od20 an20 od21 an21 od22 an22 od23 an23 od24 an24 od25 an25 od26 an26 od27 an27 od28 an28 od29 an29 od30 an30 od31 an31 od32 an32 od33 an33 od34 an34 od35 an35 od36 an36 od37 an37 od38 an38 od39 an39 od40 an40 od41 an41 od42 an42 od43 an43 od44 an44 od45 an45 od46 an46 od47 an47 od48 an48 od49 an49 od50 an50 od51 an51 od52 an52 od53 an53 od54 an54 od55 an55 od56 an56 od57 an57 od58 an58 od59 an59 od60 an60 od61 an61 od62 an62 od63 an63 od64 an64 od65 an65 od66 an66 od67 an67 od68 an68 od69 an69 od70 an70 od71 an71 od72 an72 od73 an73 od74 an74 od75 an75 od76 an76 : Option Addr} {sl0 sl1 sl2 sl3 sl4 sl5 sl6 sl7 sl8 sl9 sl10 sl11 sl12 sl13 sl14 sl15 sl16 sl17 sl18 sl19 sl20 sl21 sl22 sl23 sl24 sl25 sl26 sl27 sl28 sl29 sl30 sl31 sl32 sl33 sl34 sl35 sl36 sl37 sl38 sl39 sl40 sl41 sl42 sl43 sl44 sl45 sl46 sl47 sl48 sl49 sl50 sl51 sl52 sl53 sl54 sl55 sl56 sl57 sl58 sl59 sl60 sl61 sl62 sl63 sl64 sl65 sl66 sl67 sl68 sl69 sl70 sl71 sl72 sl73 sl74 sl75 sl76 : Array (Option Value)} {oc0 kV0 dc0 pm0 cd0 ct0 oc1 kV1 dc1 pm1 cd1 ct1 oc2 kV2 dc2 pm2 cd2 ct2 oc3 kV3 dc3 pm3 cd3 ct3 oc4 kV4 dc4 pm4 cd4 ct4 oc5 kV5 dc5 pm5 cd5 ct5 oc6 kV6 dc6 pm6 cd6 ct6 oc7 kV7 dc7 pm7 cd7 ct7 oc8 kV8 dc8 pm8 cd8 ct8 oc9 kV9 dc9 pm9 cd9 ct9 oc10 kV10 dc10 pm10 cd10 ct10 oc11 kV11 dc11 pm11 cd11 ct11 oc12 kV12 dc12 pm12 cd12 ct12 oc13 kV13 dc13 pm13 cd13 ct13 oc14 kV14 dc14 pm14 cd14 ct14 oc15 kV15 dc15 pm15 cd15 ct15 oc16 kV16 dc16 pm16 cd16 ct16 oc17 kV17 dc17 pm17 cd17 ct17 oc18 kV18 dc18 pm18 cd18 ct18 oc19 kV19 dc19 pm19 cd19 ct19 oc20 kV20 dc20 pm20 cd20 ct20 oc21 kV21 dc21 pm21 cd21 ct21 oc22 kV22 dc22 pm22 cd22 ct22 oc23 kV23 dc23 pm23 cd23 ct23 oc24 kV24 dc24 pm24 cd24 ct24 oc25 kV25 dc25 pm25 cd25 ct25 oc26 kV26 dc26 pm26 cd26 ct26 oc27 kV27 dc27 pm27 cd27 ct27 oc28 kV28 dc28 pm28 cd28 ct28 oc29 kV29 dc29 pm29 cd29 ct29 oc30 kV30 dc30 pm30 cd30 ct30 oc31 kV31 dc31 pm31 cd31 ct31 oc32 kV32 dc32 pm32 cd32 ct32 oc33 kV33 dc33 pm33 cd33 ct33 oc34 kV34 dc34 pm34 cd34 ct34 oc35 kV35 dc35 pm35 cd35 ct35 oc36 kV36 dc36 pm36 cd36 ct36 oc37 kV37 dc37 pm37 cd37 ct37 oc38 kV38 dc38 pm38 cd38 ct38 oc39 kV39 dc39 pm39 cd39 ct39 oc40 kV40 dc40 pm40 cd40 ct40 oc41 kV41 dc41 pm41 cd41 ct41 oc42 kV42 dc42 pm42 cd42 ct42 oc43 kV43 dc43 pm43 cd43 ct43 oc44 kV44 dc44 pm44 cd44 ct44 oc45 kV45 dc45 pm45 cd45 ct45 oc46 kV46 dc46 pm46 cd46 ct46 oc47 kV47 dc47 pm47 cd47 ct47 oc48 kV48 dc48 pm48 cd48 ct48 oc49 kV49 dc49 pm49 cd49 ct49 oc50 kV50 dc50 pm50 cd50 ct50 oc51 kV51 dc51 pm51 cd51 ct51 oc52 kV52 dc52 pm52 cd52 ct52 oc53 kV53 dc53 pm53 cd53 ct53 oc54 kV54 dc54 pm54 cd54 ct54 oc55 kV55 dc55 pm55 cd55 ct55 oc56 kV56 dc56 pm56 cd56 ct56 oc57 kV57 dc57 pm57 cd57 ct57 oc58 kV58 dc58 pm58 cd58 ct58 oc59 kV59 dc59 pm59 cd59 ct59 oc60 kV60 dc60 pm60 cd60 ct60 oc61 kV61 dc61 pm61 cd61 ct61 oc62 kV62 dc62 pm62 cd62 ct62 oc63 kV63 dc63 pm63 cd63 ct63 oc64 kV64 dc64 pm64 cd64 ct64 oc65 kV65 dc65 pm65 cd65 ct65 oc66 kV66 dc66 pm66 cd66 ct66 oc67 kV67 dc67 pm67 cd67 ct67 oc68 kV68 dc68 pm68 cd68 ct68 oc69 kV69 dc69 pm69 cd69 ct69 oc70 kV70 dc70 pm70 cd70 ct70 oc71 kV71 dc71 pm71 cd71 ct71 oc72 kV72 dc72 pm72 ct72 oc73 kV73 dc73 pm73 cd73 ct73 oc74 kV74 dc74 pm74 cd74 ct74 oc75 kV75 dc75 pm75 cd75 ct75 oc76 kV76 dc76 pm76 cd76 ct76 : Value}
    {cT PT : Addr} {ocT : Value} {odT : Option Addr} {vsT : Array Value} {slT : Array (Option Value)} 
    {cO_Film : Addr} (aO_Film : PySem.W.nsIn K mainGlobals "Film" = some (some (.ref cO_Film))) (pg_Film : PySem.W.plainGet K cO_Film Str.empty = true) (hd_Film : PySem.W.hasDictIn K cO_Film = true) (po_Film : PySem.W.plainOver K cO_Film = true) (sa_Film : PySem.W.findIn K (.ref cO_Film) "__setattr__" = some (some (.builtin "object.__setattr__"))) (mk_Film : PySem.W.makesIn K cO_Film = true) (kc_Film : PySem.W.keepIn K (.ref cO_Film) = true) (n0_Film : PySem.W.findIn K (.ref cO_Film) "_width" = some none) (n1_Film : PySem.W.findIn K (.ref cO_Film) "_height" = some none) (n2_Film : PySem.W.findIn K (.ref cO_Film) "_frames" = some none) (n3_Film : PySem.W.findIn K (.ref cO_Film) "_background" = some none) (n4_Film : PySem.W.findIn K (.ref cO_Film) "_layers" = some none)
    (a0 : PySem.W.nsIn K mainGlobals "_law_draw" = some (some (.ref f0))) (l0 : K.lookup f0 = some ⟨oc0, od0, .func (PySem.W.fnOf "_law_draw" "_law_draw" (defArgs s_l_draw) (defBody s_l_draw) (defScope s_l_draw) .none kV0 dc0 pm0 an0 cd0 ct0), sl0⟩) (c0 : PySem.W.codeIn K cd0 "_law_draw" = true) (k0 : PySem.W.keepIn K (.ref f0) = true)
    (a1 : PySem.W.nsIn K mainGlobals "_law_picture" = some (some (.ref f1))) (l1 : K.lookup f1 = some ⟨oc1, od1, .func (PySem.W.fnOf "_law_picture" "_law_picture" (defArgs s_l_picture) (defBody s_l_picture) (defScope s_l_picture) .none kV1 dc1 pm1 an1 cd1 ct1), sl1⟩) (c1 : PySem.W.codeIn K cd1 "_law_picture" = true) (k1 : PySem.W.keepIn K (.ref f1) = true)
    (a2 : PySem.W.nsIn K mainGlobals "_law_paint" = some (some (.ref f2))) (l2 : K.lookup f2 = some ⟨oc2, od2, .func (PySem.W.fnOf "_law_paint" "_law_paint" (defArgs s_l_paint) (defBody s_l_paint) (defScope s_l_paint) .none kV2 dc2 pm2 an2 cd2 ct2), sl2⟩) (c2 : PySem.W.codeIn K cd2 "_law_paint" = true) (k2 : PySem.W.keepIn K (.ref f2) = true)
    (a3 : PySem.W.nsIn K mainGlobals "_law_clips" = some (some (.ref f3))) (l3 : K.lookup f3 = some ⟨oc3, od3, .func (PySem.W.fnOf "_law_clips" "_law_clips" (defArgs s_l_clips) (defBody s_l_clips) (defScope s_l_clips) .none kV3 dc3 pm3 an3 cd3 ct3), sl3⟩) (c3 : PySem.W.codeIn K cd3 "_law_clips" = true) (k3 : PySem.W.keepIn K (.ref f3) = true)
    (a4 : PySem.W.nsIn K mainGlobals "_law_what" = some (some (.ref f4))) (l4 : K.lookup f4 = some ⟨oc4, od4, .func (PySem.W.fnOf "_law_what" "_law_what" (defArgs s_l_what) (defBody s_l_what) (defScope s_l_what) .none kV4 dc4 pm4 an4 cd4 ct4), sl4⟩) (c4 : PySem.W.codeIn K cd4 "_law_what" = true) (k4 : PySem.W.keepIn K (.ref f4) = true)
    (a5 : PySem.W.nsIn K mainGlobals "_law_box" = some (some (.ref f5))) (l5 : K.lookup f5 = some ⟨oc5, od5, .func (PySem.W.fnOf "_law_box" "_law_box" (defArgs s_l_box) (defBody s_l_box) (defScope s_l_box) .none kV5 dc5 pm5 an5 cd5 ct5), sl5⟩) (c5 : PySem.W.codeIn K cd5 "_law_box" = true) (k5 : PySem.W.keepIn K (.ref f5) = true)
    (a6 : PySem.W.nsIn K mainGlobals "_law_moves" = some (some (.ref f6))) (l6 : K.lookup f6 = some ⟨oc6, od6, .func (PySem.W.fnOf "_law_moves" "_law_moves" (defArgs s_l_moves) (defBody s_l_moves) (defScope s_l_moves) .none kV6 dc6 pm6 an6 cd6 ct6), sl6⟩) (c6 : PySem.W.codeIn K cd6 "_law_moves" = true) (k6 : PySem.W.keepIn K (.ref f6) = true)
    (a7 : PySem.W.nsIn K mainGlobals "_law_layer" = some (some (.ref f7))) (l7 : K.lookup f7 = some ⟨oc7, od7, .func (PySem.W.fnOf "_law_layer" "_law_layer" (defArgs s_l_layer) (defBody s_l_layer) (defScope s_l_layer) .none kV7 dc7 pm7 an7 cd7 ct7), sl7⟩) (c7 : PySem.W.codeIn K cd7 "_law_layer" = true) (k7 : PySem.W.keepIn K (.ref f7) = true)
    (a8 : PySem.W.nsIn K mainGlobals "_law_name" = some (some (.ref f8))) (l8 : K.lookup f8 = some ⟨oc8, od8, .func (PySem.W.fnOf "_law_name" "_law_name" (defArgs s_l_name) (defBody s_l_name) (defScope s_l_name) .none kV8 dc8 pm8 an8 cd8 ct8), sl8⟩) (c8 : PySem.W.codeIn K cd8 "_law_name" = true) (k8 : PySem.W.keepIn K (.ref f8) = true)
    (a9 : PySem.W.nsIn K mainGlobals "_law_film" = some (some (.ref f9))) (l9 : K.lookup f9 = some ⟨oc9, od9, .func (PySem.W.fnOf "_law_film" "_law_film" (defArgs s_l_film) (defBody s_l_film) (defScope s_l_film) .none kV9 dc9 pm9 an9 cd9 ct9), sl9⟩) (c9 : PySem.W.codeIn K cd9 "_law_film" = true) (k9 : PySem.W.keepIn K (.ref f9) = true)
    (a10 : PySem.W.nsIn K mainGlobals "is_whole" = some (some (.ref f10))) (l10 : K.lookup f10 = some ⟨oc10, od10, .func (PySem.W.fnOf "is_whole" "is_whole" (defArgs s_is_whole) (defBody s_is_whole) (defScope s_is_whole) .none kV10 dc10 pm10 an10 cd10 ct10), sl10⟩) (c10 : PySem.W.codeIn K cd10 "is_whole" = true) (k10 : PySem.W.keepIn K (.ref f10) = true)
    (a11 : PySem.W.nsIn K mainGlobals "is_number" = some (some (.ref f11))) (l11 : K.lookup f11 = some ⟨oc11, od11, .func (PySem.W.fnOf "is_number" "is_number" (defArgs s_is_number) (defBody s_is_number) (defScope s_is_number) .none kV11 dc11 pm11 an11 cd11 ct11), sl11⟩) (c11 : PySem.W.codeIn K cd11 "is_number" = true) (k11 : PySem.W.keepIn K (.ref f11) = true)
    (a12 : PySem.W.nsIn K mainGlobals "has_form_blends" = some (some (.ref f12))) (l12 : K.lookup f12 = some ⟨oc12, od12, .func (PySem.W.fnOf "_has_form" "_has_form" (defArgs s_has_form_blends) (defBody s_has_form_blends) (defScope s_has_form_blends) .none kV12 dc12 pm12 an12 cd12 ct12), sl12⟩) (c12 : PySem.W.codeIn K cd12 "_has_form" = true) (k12 : PySem.W.keepIn K (.ref f12) = true)
    (a13 : PySem.W.nsIn K mainGlobals "check_what" = some (some (.ref f13))) (l13 : K.lookup f13 = some ⟨oc13, od13, .func (PySem.W.fnOf "check_what" "check_what" (defArgs s_check_what) (defBody s_check_what) (defScope s_check_what) .none kV13 dc13 pm13 an13 cd13 ct13), sl13⟩) (c13 : PySem.W.codeIn K cd13 "check_what" = true) (k13 : PySem.W.keepIn K (.ref f13) = true)
    (a14 : PySem.W.nsIn K mainGlobals "_is_distance" = some (some (.ref f14))) (l14 : K.lookup f14 = some ⟨oc14, od14, .func (PySem.W.fnOf "_is_distance" "_is_distance" (defArgs s_is_distance) (defBody s_is_distance) (defScope s_is_distance) .none kV14 dc14 pm14 an14 cd14 ct14), sl14⟩) (c14 : PySem.W.codeIn K cd14 "_is_distance" = true) (k14 : PySem.W.keepIn K (.ref f14) = true)
    (a15 : PySem.W.nsIn K mainGlobals "_is_point" = some (some (.ref f15))) (l15 : K.lookup f15 = some ⟨oc15, od15, .func (PySem.W.fnOf "_is_point" "_is_point" (defArgs s_is_point) (defBody s_is_point) (defScope s_is_point) .none kV15 dc15 pm15 an15 cd15 ct15), sl15⟩) (c15 : PySem.W.codeIn K cd15 "_is_point" = true) (k15 : PySem.W.keepIn K (.ref f15) = true)
    (a16 : PySem.W.nsIn K mainGlobals "check_moves" = some (some (.ref f16))) (l16 : K.lookup f16 = some ⟨oc16, od16, .func (PySem.W.fnOf "check_moves" "check_moves" (defArgs s_check_moves) (defBody s_check_moves) (defScope s_check_moves) .none kV16 dc16 pm16 an16 cd16 ct16), sl16⟩) (c16 : PySem.W.codeIn K cd16 "check_moves" = true) (k16 : PySem.W.keepIn K (.ref f16) = true)
    (a17 : PySem.W.nsIn K mainGlobals "has_form_clips" = some (some (.ref f17))) (l17 : K.lookup f17 = some ⟨oc17, od17, .func (PySem.W.fnOf "_has_form" "_has_form" (defArgs s_has_form_clips) (defBody s_has_form_clips) (defScope s_has_form_clips) .none kV17 dc17 pm17 an17 cd17 ct17), sl17⟩) (c17 : PySem.W.codeIn K cd17 "_has_form" = true) (k17 : PySem.W.keepIn K (.ref f17) = true)
    (a18 : PySem.W.nsIn K mainGlobals "_is_bare" = some (some (.ref f18))) (l18 : K.lookup f18 = some ⟨oc18, od18, .func (PySem.W.fnOf "_is_bare" "_is_bare" (defArgs s_is_bare) (defBody s_is_bare) (defScope s_is_bare) .none kV18 dc18 pm18 an18 cd18 ct18), sl18⟩) (c18 : PySem.W.codeIn K cd18 "_is_bare" = true) (k18 : PySem.W.keepIn K (.ref f18) = true)
    (a19 : PySem.W.nsIn K mainGlobals "_are_numbers" = some (some (.ref f19))) (l19 : K.lookup f19 = some ⟨oc19, od19, .func (PySem.W.fnOf "_are_numbers" "_are_numbers" (defArgs s_are_numbers) (defBody s_are_numbers) (defScope s_are_numbers) .none kV19 dc19 pm19 an19 cd19 ct19), sl19⟩) (c19 : PySem.W.codeIn K cd19 "_are_numbers" = true) (k19 : PySem.W.keepIn K (.ref f19) = true)
    (a20 : PySem.W.nsIn K mainGlobals "check_picture" = some (some (.ref f20))) (l20 : K.lookup f20 = some ⟨oc20, od20, .func (PySem.W.fnOf "check_picture" "check_picture" (defArgs s_check_picture) (defBody s_check_picture) (defScope s_check_picture) .none kV20 dc20 pm20 an20 cd20 ct20), sl20⟩) (c20 : PySem.W.codeIn K cd20 "check_picture" = true) (k20 : PySem.W.keepIn K (.ref f20) = true)
    (a21 : PySem.W.nsIn K mainGlobals "has_form_paints" = some (some (.ref f21))) (l21 : K.lookup f21 = some ⟨oc21, od21, .func (PySem.W.fnOf "_has_form" "_has_form" (defArgs s_has_form_paints) (defBody s_has_form_paints) (defScope s_has_form_paints) .none kV21 dc21 pm21 an21 cd21 ct21), sl21⟩) (c21 : PySem.W.codeIn K cd21 "_has_form" = true) (k21 : PySem.W.keepIn K (.ref f21) = true)
    (a22 : PySem.W.nsIn K mainGlobals "check_paint" = some (some (.ref f22))) (l22 : K.lookup f22 = some ⟨oc22, od22, .func (PySem.W.fnOf "check_paint" "check_paint" (defArgs s_check_paint) (defBody s_check_paint) (defScope s_check_paint) .none kV22 dc22 pm22 an22 cd22 ct22), sl22⟩) (c22 : PySem.W.codeIn K cd22 "check_paint" = true) (k22 : PySem.W.keepIn K (.ref f22) = true)
    (a23 : PySem.W.nsIn K mainGlobals "end_of" = some (some (.ref f23))) (l23 : K.lookup f23 = some ⟨oc23, od23, .func (PySem.W.fnOf "end_of" "end_of" (defArgs s_end_of) (defBody s_end_of) (defScope s_end_of) .none kV23 dc23 pm23 an23 cd23 ct23), sl23⟩) (c23 : PySem.W.codeIn K cd23 "end_of" = true) (k23 : PySem.W.keepIn K (.ref f23) = true)
    (a24 : PySem.W.nsIn K mainGlobals "is_name" = some (some (.ref f24))) (l24 : K.lookup f24 = some ⟨oc24, od24, .func (PySem.W.fnOf "is_name" "is_name" (defArgs s_is_name) (defBody s_is_name) (defScope s_is_name) .none kV24 dc24 pm24 an24 cd24 ct24), sl24⟩) (c24 : PySem.W.codeIn K cd24 "is_name" = true) (k24 : PySem.W.keepIn K (.ref f24) = true)
    (a25 : PySem.W.nsIn K mainGlobals "check_clips" = some (some (.ref f25))) (l25 : K.lookup f25 = some ⟨oc25, od25, .func (PySem.W.fnOf "check_clips" "check_clips" (defArgs s_check_clips) (defBody s_check_clips) (defScope s_check_clips) .none kV25 dc25 pm25 an25 cd25 ct25), sl25⟩) (c25 : PySem.W.codeIn K cd25 "check_clips" = true) (k25 : PySem.W.keepIn K (.ref f25) = true)
    (a26 : PySem.W.nsIn K mainGlobals "_is_box" = some (some (.ref f26))) (l26 : K.lookup f26 = some ⟨oc26, od26, .func (PySem.W.fnOf "_is_box" "_is_box" (defArgs s_is_box) (defBody s_is_box) (defScope s_is_box) .none kV26 dc26 pm26 an26 cd26 ct26), sl26⟩) (c26 : PySem.W.codeIn K cd26 "_is_box" = true) (k26 : PySem.W.keepIn K (.ref f26) = true)
    (a27 : PySem.W.nsIn K mainGlobals "_adjusts" = some (some (.ref f27))) (l27 : K.lookup f27 = some ⟨oc27, od27, .func (PySem.W.fnOf "_adjusts" "_adjusts" (defArgs s_adjusts) (defBody s_adjusts) (defScope s_adjusts) .none kV27 dc27 pm27 an27 cd27 ct27), sl27⟩) (c27 : PySem.W.codeIn K cd27 "_adjusts" = true) (k27 : PySem.W.keepIn K (.ref f27) = true)
    (a28 : PySem.W.nsIn K mainGlobals "_check_numbers" = some (some (.ref f28))) (l28 : K.lookup f28 = some ⟨oc28, od28, .func (PySem.W.fnOf "_check_numbers" "_check_numbers" (defArgs s_check_numbers) (defBody s_check_numbers) (defScope s_check_numbers) .none kV28 dc28 pm28 an28 cd28 ct28), sl28⟩) (c28 : PySem.W.codeIn K cd28 "_check_numbers" = true) (k28 : PySem.W.keepIn K (.ref f28) = true)
    (a29 : PySem.W.nsIn K mainGlobals "_check_layer" = some (some (.ref f29))) (l29 : K.lookup f29 = some ⟨oc29, od29, .func (PySem.W.fnOf "_check_layer" "_check_layer" (defArgs s_check_layer) (defBody s_check_layer) (defScope s_check_layer) .none kV29 dc29 pm29 an29 cd29 ct29), sl29⟩) (c29 : PySem.W.codeIn K cd29 "_check_layer" = true) (k29 : PySem.W.keepIn K (.ref f29) = true)
    {p30 : Addr} {rs30 : List Value} (a30 : PySem.W.findIn K (.ref cO_Film) "width" = some (some (.ref p30))) (g30 : PySem.W.specialIn K (.ref p30) "__get__" = some (some (.builtin "property.__get__"))) (t30 : PySem.W.takesIn K (.ref p30) = some true) (r30 : PySem.W.recIn K p30 "property" = some (.ref f30 :: rs30)) (l30 : K.lookup f30 = some ⟨oc30, od30, .func (PySem.W.fnOf "width" "Film.width" (defArgs s_Film_width) (defBody s_Film_width) (defScope s_Film_width) .none kV30 dc30 pm30 an30 cd30 ct30), sl30⟩) (c30 : PySem.W.codeIn K cd30 "Film.width" = true) (k30 : PySem.W.keepIn K (.ref f30) = true)
    {p31 : Addr} {rs31 : List Value} (a31 : PySem.W.findIn K (.ref cO_Film) "height" = some (some (.ref p31))) (g31 : PySem.W.specialIn K (.ref p31) "__get__" = some (some (.builtin "property.__get__"))) (t31 : PySem.W.takesIn K (.ref p31) = some true) (r31 : PySem.W.recIn K p31 "property" = some (.ref f31 :: rs31)) (l31 : K.lookup f31 = some ⟨oc31, od31, .func (PySem.W.fnOf "height" "Film.height" (defArgs s_Film_height) (defBody s_Film_height) (defScope s_Film_height) .none kV31 dc31 pm31 an31 cd31 ct31), sl31⟩) (c31 : PySem.W.codeIn K cd31 "Film.height" = true) (k31 : PySem.W.keepIn K (.ref f31) = true)
    {p32 : Addr} {rs32 : List Value} (a32 : PySem.W.findIn K (.ref cO_Film) "frames" = some (some (.ref p32))) (g32 : PySem.W.specialIn K (.ref p32) "__get__" = some (some (.builtin "property.__get__"))) (t32 : PySem.W.takesIn K (.ref p32) = some true) (r32 : PySem.W.recIn K p32 "property" = some (.ref f32 :: rs32)) (l32 : K.lookup f32 = some ⟨oc32, od32, .func (PySem.W.fnOf "frames" "Film.frames" (defArgs s_Film_frames) (defBody s_Film_frames) (defScope s_Film_frames) .none kV32 dc32 pm32 an32 cd32 ct32), sl32⟩) (c32 : PySem.W.codeIn K cd32 "Film.frames" = true) (k32 : PySem.W.keepIn K (.ref f32) = true)
    {p33 : Addr} {rs33 : List Value} (a33 : PySem.W.findIn K (.ref cO_Film) "background" = some (some (.ref p33))) (g33 : PySem.W.specialIn K (.ref p33) "__get__" = some (some (.builtin "property.__get__"))) (t33 : PySem.W.takesIn K (.ref p33) = some true) (r33 : PySem.W.recIn K p33 "property" = some (.ref f33 :: rs33)) (l33 : K.lookup f33 = some ⟨oc33, od33, .func (PySem.W.fnOf "background" "Film.background" (defArgs s_Film_background) (defBody s_Film_background) (defScope s_Film_background) .none kV33 dc33 pm33 an33 cd33 ct33), sl33⟩) (c33 : PySem.W.codeIn K cd33 "Film.background" = true) (k33 : PySem.W.keepIn K (.ref f33) = true)
    {p34 : Addr} {rs34 : List Value} (a34 : PySem.W.findIn K (.ref cO_Film) "layers" = some (some (.ref p34))) (g34 : PySem.W.specialIn K (.ref p34) "__get__" = some (some (.builtin "property.__get__"))) (t34 : PySem.W.takesIn K (.ref p34) = some true) (r34 : PySem.W.recIn K p34 "property" = some (.ref f34 :: rs34)) (l34 : K.lookup f34 = some ⟨oc34, od34, .func (PySem.W.fnOf "layers" "Film.layers" (defArgs s_Film_layers) (defBody s_Film_layers) (defScope s_Film_layers) .none kV34 dc34 pm34 an34 cd34 ct34), sl34⟩) (c34 : PySem.W.codeIn K cd34 "Film.layers" = true) (k34 : PySem.W.keepIn K (.ref f34) = true)
    (a35 : PySem.W.findIn K (.ref cO_Film) "__init__" = some (some (.ref f35))) (i35 : PySem.W.isFn K (.ref f35) = true) (l35 : K.lookup f35 = some ⟨oc35, od35, .func (PySem.W.fnOf "__init__" "Film.__init__" (defArgs s_Film_init) (defBody s_Film_init) (defScope s_Film_init) .none kV35 dc35 pm35 an35 cd35 ct35), sl35⟩) (c35 : PySem.W.codeIn K cd35 "Film.__init__" = true) (k35 : PySem.W.keepIn K (.ref f35) = true)
    (a36 : PySem.W.nsIn K mainGlobals "_between" = some (some (.ref f36))) (l36 : K.lookup f36 = some ⟨oc36, od36, .func (PySem.W.fnOf "_between" "_between" (defArgs s_between) (defBody s_between) (defScope s_between) .none kV36 dc36 pm36 an36 cd36 ct36), sl36⟩) (c36 : PySem.W.codeIn K cd36 "_between" = true) (k36 : PySem.W.keepIn K (.ref f36) = true)
    (a37 : PySem.W.nsIn K mainGlobals "offset_at" = some (some (.ref f37))) (l37 : K.lookup f37 = some ⟨oc37, od37, .func (PySem.W.fnOf "offset_at" "offset_at" (defArgs s_offset_at) (defBody s_offset_at) (defScope s_offset_at) .none kV37 dc37 pm37 an37 cd37 ct37), sl37⟩) (c37 : PySem.W.codeIn K cd37 "offset_at" = true) (k37 : PySem.W.keepIn K (.ref f37) = true)
    (a38 : PySem.W.nsIn K mainGlobals "_corner_of" = some (some (.ref f38))) (l38 : K.lookup f38 = some ⟨oc38, od38, .func (PySem.W.fnOf "_corner_of" "_corner_of" (defArgs s_corner_of) (defBody s_corner_of) (defScope s_corner_of) .none kV38 dc38 pm38 an38 cd38 ct38), sl38⟩) (c38 : PySem.W.codeIn K cd38 "_corner_of" = true) (k38 : PySem.W.keepIn K (.ref f38) = true)
    (a39 : PySem.W.nsIn K mainGlobals "level_at" = some (some (.ref f39))) (l39 : K.lookup f39 = some ⟨oc39, od39, .func (PySem.W.fnOf "level_at" "level_at" (defArgs s_level_at) (defBody s_level_at) (defScope s_level_at) .none kV39 dc39 pm39 an39 cd39 ct39), sl39⟩) (c39 : PySem.W.codeIn K cd39 "level_at" = true) (k39 : PySem.W.keepIn K (.ref f39) = true)
    (a40 : PySem.W.nsIn K mainGlobals "clip_at" = some (some (.ref f40))) (l40 : K.lookup f40 = some ⟨oc40, od40, .func (PySem.W.fnOf "clip_at" "clip_at" (defArgs s_clip_at) (defBody s_clip_at) (defScope s_clip_at) .none kV40 dc40 pm40 an40 cd40 ct40), sl40⟩) (c40 : PySem.W.codeIn K cd40 "clip_at" = true) (k40 : PySem.W.keepIn K (.ref f40) = true)
    (a41 : PySem.W.nsIn K mainGlobals "lane" = some (some (.ref f41))) (l41 : K.lookup f41 = some ⟨oc41, od41, .func (PySem.W.fnOf "lane" "lane" (defArgs s_lane) (defBody s_lane) (defScope s_lane) .none kV41 dc41 pm41 an41 cd41 ct41), sl41⟩) (c41 : PySem.W.codeIn K cd41 "lane" = true) (k41 : PySem.W.keepIn K (.ref f41) = true)
    (a42 : PySem.W.nsIn K mainGlobals "_is_full_picture" = some (some (.ref f42))) (l42 : K.lookup f42 = some ⟨oc42, od42, .func (PySem.W.fnOf "_is_full_picture" "_is_full_picture" (defArgs s_is_full_picture) (defBody s_is_full_picture) (defScope s_is_full_picture) .none kV42 dc42 pm42 an42 cd42 ct42), sl42⟩) (c42 : PySem.W.codeIn K cd42 "_is_full_picture" = true) (k42 : PySem.W.keepIn K (.ref f42) = true)
    (a43 : PySem.W.nsIn K mainGlobals "is_full" = some (some (.ref f43))) (l43 : K.lookup f43 = some ⟨oc43, od43, .func (PySem.W.fnOf "is_full" "is_full" (defArgs s_is_full) (defBody s_is_full) (defScope s_is_full) .none kV43 dc43 pm43 an43 cd43 ct43), sl43⟩) (c43 : PySem.W.codeIn K cd43 "is_full" = true) (k43 : PySem.W.keepIn K (.ref f43) = true)
    (a44 : PySem.W.nsIn K mainGlobals "extent_of" = some (some (.ref f44))) (l44 : K.lookup f44 = some ⟨oc44, od44, .func (PySem.W.fnOf "extent_of" "extent_of" (defArgs s_extent_of) (defBody s_extent_of) (defScope s_extent_of) .none kV44 dc44 pm44 an44 cd44 ct44), sl44⟩) (c44 : PySem.W.codeIn K cd44 "extent_of" = true) (k44 : PySem.W.keepIn K (.ref f44) = true)
    (a45 : PySem.W.nsIn K mainGlobals "_item_of" = some (some (.ref f45))) (l45 : K.lookup f45 = some ⟨oc45, od45, .func (PySem.W.fnOf "_item_of" "_item_of" (defArgs s_item_of) (defBody s_item_of) (defScope s_item_of) .none kV45 dc45 pm45 an45 cd45 ct45), sl45⟩) (c45 : PySem.W.codeIn K cd45 "_item_of" = true) (k45 : PySem.W.keepIn K (.ref f45) = true)
    (a46 : PySem.W.nsIn K mainGlobals "items_at" = some (some (.ref f46))) (l46 : K.lookup f46 = some ⟨oc46, od46, .func (PySem.W.fnOf "items_at" "items_at" (defArgs s_items_at) (defBody s_items_at) (defScope s_items_at) .none kV46 dc46 pm46 an46 cd46 ct46), sl46⟩) (c46 : PySem.W.codeIn K cd46 "items_at" = true) (k46 : PySem.W.keepIn K (.ref f46) = true)
    (a47 : PySem.W.nsIn K mainGlobals "_law_made" = some (some (.ref f47))) (l47 : K.lookup f47 = some ⟨oc47, od47, .func (PySem.W.fnOf "_law_made" "_law_made" (defArgs s_l_made) (defBody s_l_made) (defScope s_l_made) .none kV47 dc47 pm47 an47 cd47 ct47), sl47⟩) (c47 : PySem.W.codeIn K cd47 "_law_made" = true) (k47 : PySem.W.keepIn K (.ref f47) = true)
    (a48 : PySem.W.nsIn K mainGlobals "_law_line" = some (some (.ref f48))) (l48 : K.lookup f48 = some ⟨oc48, od48, .func (PySem.W.fnOf "_law_line" "_law_line" (defArgs s_l_line) (defBody s_l_line) (defScope s_l_line) .none kV48 dc48 pm48 an48 cd48 ct48), sl48⟩) (c48 : PySem.W.codeIn K cd48 "_law_line" = true) (k48 : PySem.W.keepIn K (.ref f48) = true)
    (a49 : PySem.W.nsIn K mainGlobals "_law_offset" = some (some (.ref f49))) (l49 : K.lookup f49 = some ⟨oc49, od49, .func (PySem.W.fnOf "_law_offset" "_law_offset" (defArgs s_l_offset) (defBody s_l_offset) (defScope s_l_offset) .none kV49 dc49 pm49 an49 cd49 ct49), sl49⟩) (c49 : PySem.W.codeIn K cd49 "_law_offset" = true) (k49 : PySem.W.keepIn K (.ref f49) = true)
    (a50 : PySem.W.nsIn K mainGlobals "_law_there" = some (some (.ref f50))) (l50 : K.lookup f50 = some ⟨oc50, od50, .func (PySem.W.fnOf "_law_there" "_law_there" (defArgs s_l_there) (defBody s_l_there) (defScope s_l_there) .none kV50 dc50 pm50 an50 cd50 ct50), sl50⟩) (c50 : PySem.W.codeIn K cd50 "_law_there" = true) (k50 : PySem.W.keepIn K (.ref f50) = true)
    (a51 : PySem.W.nsIn K mainGlobals "_law_paint_at" = some (some (.ref f51))) (l51 : K.lookup f51 = some ⟨oc51, od51, .func (PySem.W.fnOf "_law_paint_at" "_law_paint_at" (defArgs s_l_paint_at) (defBody s_l_paint_at) (defScope s_l_paint_at) .none kV51 dc51 pm51 an51 cd51 ct51), sl51⟩) (c51 : PySem.W.codeIn K cd51 "_law_paint_at" = true) (k51 : PySem.W.keepIn K (.ref f51) = true)
    (a52 : PySem.W.nsIn K mainGlobals "_law_items" = some (some (.ref f52))) (l52 : K.lookup f52 = some ⟨oc52, od52, .func (PySem.W.fnOf "_law_items" "_law_items" (defArgs s_l_items) (defBody s_l_items) (defScope s_l_items) .none kV52 dc52 pm52 an52 cd52 ct52), sl52⟩) (c52 : PySem.W.codeIn K cd52 "_law_items" = true) (k52 : PySem.W.keepIn K (.ref f52) = true)
    (a53 : PySem.W.nsIn K mainGlobals "_law_in" = some (some (.ref f53))) (l53 : K.lookup f53 = some ⟨oc53, od53, .func (PySem.W.fnOf "_law_in" "_law_in" (defArgs s_l_in) (defBody s_l_in) (defScope s_l_in) .none kV53 dc53 pm53 an53 cd53 ct53), sl53⟩) (c53 : PySem.W.codeIn K cd53 "_law_in" = true) (k53 : PySem.W.keepIn K (.ref f53) = true)
    (a54 : PySem.W.nsIn K mainGlobals "_entry_of" = some (some (.ref f54))) (l54 : K.lookup f54 = some ⟨oc54, od54, .func (PySem.W.fnOf "_entry_of" "_entry_of" (defArgs s_entry_of) (defBody s_entry_of) (defScope s_entry_of) .none kV54 dc54 pm54 an54 cd54 ct54), sl54⟩) (c54 : PySem.W.codeIn K cd54 "_entry_of" = true) (k54 : PySem.W.keepIn K (.ref f54) = true)
    (a55 : PySem.W.nsIn K mainGlobals "_sheets_of" = some (some (.ref f55))) (l55 : K.lookup f55 = some ⟨oc55, od55, .func (PySem.W.fnOf "_sheets_of" "_sheets_of" (defArgs s_sheets_of) (defBody s_sheets_of) (defScope s_sheets_of) .none kV55 dc55 pm55 an55 cd55 ct55), sl55⟩) (c55 : PySem.W.codeIn K cd55 "_sheets_of" = true) (k55 : PySem.W.keepIn K (.ref f55) = true)
    (a56 : PySem.W.nsIn K mainGlobals "_stack_of" = some (some (.ref f56))) (l56 : K.lookup f56 = some ⟨oc56, od56, .func (PySem.W.fnOf "_stack_of" "_stack_of" (defArgs s_stack_of) (defBody s_stack_of) (defScope s_stack_of) .none kV56 dc56 pm56 an56 cd56 ct56), sl56⟩) (c56 : PySem.W.codeIn K cd56 "_stack_of" = true) (k56 : PySem.W.keepIn K (.ref f56) = true)
    (a57 : PySem.W.nsIn K mainGlobals "_law_hides" = some (some (.ref f57))) (l57 : K.lookup f57 = some ⟨oc57, od57, .func (PySem.W.fnOf "_law_hides" "_law_hides" (defArgs s_l_hides) (defBody s_l_hides) (defScope s_l_hides) .none kV57 dc57 pm57 an57 cd57 ct57), sl57⟩) (c57 : PySem.W.codeIn K cd57 "_law_hides" = true) (k57 : PySem.W.keepIn K (.ref f57) = true)
    (a58 : PySem.W.nsIn K mainGlobals "_law_hiding" = some (some (.ref f58))) (l58 : K.lookup f58 = some ⟨oc58, od58, .func (PySem.W.fnOf "_law_hiding" "_law_hiding" (defArgs s_l_hiding) (defBody s_l_hiding) (defScope s_l_hiding) .none kV58 dc58 pm58 an58 cd58 ct58), sl58⟩) (c58 : PySem.W.codeIn K cd58 "_law_hiding" = true) (k58 : PySem.W.keepIn K (.ref f58) = true)
    (a59 : PySem.W.nsIn K mainGlobals "_law_stack" = some (some (.ref f59))) (l59 : K.lookup f59 = some ⟨oc59, od59, .func (PySem.W.fnOf "_law_stack" "_law_stack" (defArgs s_l_stack) (defBody s_l_stack) (defScope s_l_stack) .none kV59 dc59 pm59 an59 cd59 ct59), sl59⟩) (c59 : PySem.W.codeIn K cd59 "_law_stack" = true) (k59 : PySem.W.keepIn K (.ref f59) = true)
    (a60 : PySem.W.nsIn K mainGlobals "_law_stacks" = some (some (.ref f60))) (l60 : K.lookup f60 = some ⟨oc60, od60, .func (PySem.W.fnOf "_law_stacks" "_law_stacks" (defArgs s_l_stacks) (defBody s_l_stacks) (defScope s_l_stacks) .none kV60 dc60 pm60 an60 cd60 ct60), sl60⟩) (c60 : PySem.W.codeIn K cd60 "_law_stacks" = true) (k60 : PySem.W.keepIn K (.ref f60) = true)
    (a61 : PySem.W.nsIn K mainGlobals "_law_what_like" = some (some (.ref f61))) (l61 : K.lookup f61 = some ⟨oc61, od61, .func (PySem.W.fnOf "_law_what_like" "_law_what_like" (defArgs s_l_what_like) (defBody s_l_what_like) (defScope s_l_what_like) .none kV61 dc61 pm61 an61 cd61 ct61), sl61⟩) (c61 : PySem.W.codeIn K cd61 "_law_what_like" = true) (k61 : PySem.W.keepIn K (.ref f61) = true)
    (a62 : PySem.W.nsIn K mainGlobals "_law_layer_like" = some (some (.ref f62))) (l62 : K.lookup f62 = some ⟨oc62, od62, .func (PySem.W.fnOf "_law_layer_like" "_law_layer_like" (defArgs s_l_layer_like) (defBody s_l_layer_like) (defScope s_l_layer_like) .none kV62 dc62 pm62 an62 cd62 ct62), sl62⟩) (c62 : PySem.W.codeIn K cd62 "_law_layer_like" = true) (k62 : PySem.W.keepIn K (.ref f62) = true)
    (a63 : PySem.W.nsIn K mainGlobals "_law_changed" = some (some (.ref f63))) (l63 : K.lookup f63 = some ⟨oc63, od63, .func (PySem.W.fnOf "_law_changed" "_law_changed" (defArgs s_l_changed) (defBody s_l_changed) (defScope s_l_changed) .none kV63 dc63 pm63 an63 cd63 ct63), sl63⟩) (c63 : PySem.W.codeIn K cd63 "_law_changed" = true) (k63 : PySem.W.keepIn K (.ref f63) = true)
    (a64 : PySem.W.nsIn K mainGlobals "is_rectangle" = some (some (.ref f64))) (l64 : K.lookup f64 = some ⟨oc64, od64, .func (PySem.W.fnOf "is_rectangle" "is_rectangle" (defArgs s_is_rectangle) (defBody s_is_rectangle) (defScope s_is_rectangle) .none kV64 dc64 pm64 an64 cd64 ct64), sl64⟩) (c64 : PySem.W.codeIn K cd64 "is_rectangle" = true) (k64 : PySem.W.keepIn K (.ref f64) = true)
    (a65 : PySem.W.nsIn K mainGlobals "_steps_of" = some (some (.ref f65))) (l65 : K.lookup f65 = some ⟨oc65, od65, .func (PySem.W.fnOf "_steps_of" "_steps_of" (defArgs s_steps_of) (defBody s_steps_of) (defScope s_steps_of) .none kV65 dc65 pm65 an65 cd65 ct65), sl65⟩) (c65 : PySem.W.codeIn K cd65 "_steps_of" = true) (k65 : PySem.W.keepIn K (.ref f65) = true)
    (a66 : PySem.W.nsIn K mainGlobals "_edges_behind" = some (some (.ref f66))) (l66 : K.lookup f66 = some ⟨oc66, od66, .func (PySem.W.fnOf "_edges_behind" "_edges_behind" (defArgs s_edges_behind) (defBody s_edges_behind) (defScope s_edges_behind) .none kV66 dc66 pm66 an66 cd66 ct66), sl66⟩) (c66 : PySem.W.codeIn K cd66 "_edges_behind" = true) (k66 : PySem.W.keepIn K (.ref f66) = true)
    (a67 : PySem.W.nsIn K mainGlobals "_combined_edges" = some (some (.ref f67))) (l67 : K.lookup f67 = some ⟨oc67, od67, .func (PySem.W.fnOf "_combined_edges" "_combined_edges" (defArgs s_combined_edges) (defBody s_combined_edges) (defScope s_combined_edges) .none kV67 dc67 pm67 an67 cd67 ct67), sl67⟩) (c67 : PySem.W.codeIn K cd67 "_combined_edges" = true) (k67 : PySem.W.keepIn K (.ref f67) = true)
    (a68 : PySem.W.nsIn K mainGlobals "_combined_steps" = some (some (.ref f68))) (l68 : K.lookup f68 = some ⟨oc68, od68, .func (PySem.W.fnOf "_combined_steps" "_combined_steps" (defArgs s_combined_steps) (defBody s_combined_steps) (defScope s_combined_steps) .none kV68 dc68 pm68 an68 cd68 ct68), sl68⟩) (c68 : PySem.W.codeIn K cd68 "_combined_steps" = true) (k68 : PySem.W.keepIn K (.ref f68) = true)
    (a69 : PySem.W.nsIn K mainGlobals "_bands_of" = some (some (.ref f69))) (l69 : K.lookup f69 = some ⟨oc69, od69, .func (PySem.W.fnOf "_bands_of" "_bands_of" (defArgs s_bands_of) (defBody s_bands_of) (defScope s_bands_of) .none kV69 dc69 pm69 an69 cd69 ct69), sl69⟩) (c69 : PySem.W.codeIn K cd69 "_bands_of" = true) (k69 : PySem.W.keepIn K (.ref f69) = true)
    (a70 : PySem.W.nsIn K mainGlobals "_rectangles_of" = some (some (.ref f70))) (l70 : K.lookup f70 = some ⟨oc70, od70, .func (PySem.W.fnOf "_rectangles_of" "_rectangles_of" (defArgs s_rectangles_of) (defBody s_rectangles_of) (defScope s_rectangles_of) .none kV70 dc70 pm70 an70 cd70 ct70), sl70⟩) (c70 : PySem.W.codeIn K cd70 "_rectangles_of" = true) (k70 : PySem.W.keepIn K (.ref f70) = true)
    (a71 : PySem.W.nsIn K mainGlobals "_joined" = some (some (.ref f71))) (l71 : K.lookup f71 = some ⟨oc71, od71, .func (PySem.W.fnOf "_joined" "_joined" (defArgs s_joined) (defBody s_joined) (defScope s_joined) .none kV71 dc71 pm71 an71 cd71 ct71), sl71⟩) (c71 : PySem.W.codeIn K cd71 "_joined" = true) (k71 : PySem.W.keepIn K (.ref f71) = true)
    (a72 : PySem.W.nsIn K mainGlobals "region_of" = some (some (.ref f72))) (l72 : K.lookup f72 = some ⟨oc72, od72, .func (PySem.W.fnOf "region_of" "region_of" (defArgs s_region_of) (defBody s_region_of) (defScope s_region_of) .none kV72 dc72 pm72 an72 (.ref cT) ct72), sl72⟩) (c72 : PySem.W.codeIn K (.ref cT) "region_of" = true) (k72 : PySem.W.keepIn K (.ref f72) = true)
    (lcT : K.lookup cT = some ⟨ocT, odT, .fields vsT, slT⟩) (v11 : vsT[11]? = some (.ref PT)) (ntz : K.lookup PT = none)
    (a73 : PySem.W.nsIn K mainGlobals "_law_unlike" = some (some (.ref f73))) (l73 : K.lookup f73 = some ⟨oc73, od73, .func (PySem.W.fnOf "_law_unlike" "_law_unlike" (defArgs s_l_unlike) (defBody s_l_unlike) (defScope s_l_unlike) .none kV73 dc73 pm73 an73 cd73 ct73), sl73⟩) (c73 : PySem.W.codeIn K cd73 "_law_unlike" = true) (k73 : PySem.W.keepIn K (.ref f73) = true)
    (a74 : PySem.W.nsIn K mainGlobals "_stretches" = some (some (.ref f74))) (l74 : K.lookup f74 = some ⟨oc74, od74, .func (PySem.W.fnOf "_stretches" "_stretches" (defArgs s_stretches) (defBody s_stretches) (defScope s_stretches) .none kV74 dc74 pm74 an74 cd74 ct74), sl74⟩) (c74 : PySem.W.codeIn K cd74 "_stretches" = true) (k74 : PySem.W.keepIn K (.ref f74) = true)
    (a75 : PySem.W.nsIn K mainGlobals "dirt_of" = some (some (.ref f75))) (l75 : K.lookup f75 = some ⟨oc75, od75, .func (PySem.W.fnOf "dirt_of" "dirt_of" (defArgs s_dirt_of) (defBody s_dirt_of) (defScope s_dirt_of) .none kV75 dc75 pm75 an75 cd75 ct75), sl75⟩) (c75 : PySem.W.codeIn K cd75 "dirt_of" = true) (k75 : PySem.W.keepIn K (.ref f75) = true)
    (a76 : PySem.W.nsIn K mainGlobals "law" = some (some (.ref f76))) (l76 : K.lookup f76 = some ⟨oc76, od76, .func (PySem.W.fnOf "law" "law" (defArgs s_law) (defBody s_law) (defScope s_law) .none kV76 dc76 pm76 an76 cd76 ct76), sl76⟩) (c76 : PySem.W.codeIn K cd76 "law" = true) (k76 : PySem.W.keepIn K (.ref f76) = true)
    (z_all : PySem.W.nsIn K mainGlobals "all" = some none)
    (z_bool : PySem.W.nsIn K mainGlobals "bool" = some none)
    (z_enumerate : PySem.W.nsIn K mainGlobals "enumerate" = some none)
    (z_int : PySem.W.nsIn K mainGlobals "int" = some none)
    (z_isinstance : PySem.W.nsIn K mainGlobals "isinstance" = some none)
    (z_len : PySem.W.nsIn K mainGlobals "len" = some none)
    (z_list : PySem.W.nsIn K mainGlobals "list" = some none)
    (z_max : PySem.W.nsIn K mainGlobals "max" = some none)
    (z_min : PySem.W.nsIn K mainGlobals "min" = some none)
    (z_range : PySem.W.nsIn K mainGlobals "range" = some none)
    (z_reversed : PySem.W.nsIn K mainGlobals "reversed" = some none)
    (z_set : PySem.W.nsIn K mainGlobals "set" = some none)
    (z_sorted : PySem.W.nsIn K mainGlobals "sorted" = some none)
    (z_str : PySem.W.nsIn K mainGlobals "str" = some none)
    (z_tuple : PySem.W.nsIn K mainGlobals "tuple" = some none)
    (z_zip : PySem.W.nsIn K mainGlobals "zip" = some none)
    {t_CLIPS_MOST : Tok} (z_CLIPS_MOST : PySem.W.nsIn K mainGlobals "CLIPS_MOST" = some (some (.int 64 t_CLIPS_MOST)))
    {t_COVER_MOST : Tok} (z_COVER_MOST : PySem.W.nsIn K mainGlobals "COVER_MOST" = some (some (.int 256 t_COVER_MOST)))
    {t_DISTANCE_MOST : Tok} (z_DISTANCE_MOST : PySem.W.nsIn K mainGlobals "DISTANCE_MOST" = some (some (.int 1000 t_DISTANCE_MOST)))
    {t_FRAMES_MOST : Tok} (z_FRAMES_MOST : PySem.W.nsIn K mainGlobals "FRAMES_MOST" = some (some (.int 1000 t_FRAMES_MOST)))
    {t_LAYERS_MOST : Tok} (z_LAYERS_MOST : PySem.W.nsIn K mainGlobals "LAYERS_MOST" = some (some (.int 16 t_LAYERS_MOST)))
    {t_LENGTH_MOST : Tok} (z_LENGTH_MOST : PySem.W.nsIn K mainGlobals "LENGTH_MOST" = some (some (.int 10000 t_LENGTH_MOST)))
    {t_LETTERS : Tok} (z_LETTERS : PySem.W.nsIn K mainGlobals "LETTERS" = some (some (.str "abcdefghijklmnopqrstuvwxyz" t_LETTERS)))
    {t_LEVEL_MOST : Tok} (z_LEVEL_MOST : PySem.W.nsIn K mainGlobals "LEVEL_MOST" = some (some (.int 256 t_LEVEL_MOST)))
    {xt_MODES_0 xt_MODES_1 xt_MODES_2 : Tok} {x_MODES : Addr} {xd_MODES : Option Addr} {xn_MODES : Nat} {xs_MODES : Array (Option Value)} (z_MODES : PySem.W.nsIn K mainGlobals "MODES" = some (some (.ref x_MODES))) (y_MODES : K.lookup x_MODES = some ⟨.type "tuple", xd_MODES, .seq #[.str "over" xt_MODES_0, .str "add" xt_MODES_1, .str "times" xt_MODES_2] xn_MODES, xs_MODES⟩)
    {t_MOVES_MOST : Tok} (z_MOVES_MOST : PySem.W.nsIn K mainGlobals "MOVES_MOST" = some (some (.int 16 t_MOVES_MOST)))
    {t_MOVE_FRAME_MOST : Tok} (z_MOVE_FRAME_MOST : PySem.W.nsIn K mainGlobals "MOVE_FRAME_MOST" = some (some (.int 1000 t_MOVE_FRAME_MOST)))
    {t_NAME_MOST : Tok} (z_NAME_MOST : PySem.W.nsIn K mainGlobals "NAME_MOST" = some (some (.int 8 t_NAME_MOST)))
    {t_PICTURE_SIDE_MOST : Tok} (z_PICTURE_SIDE_MOST : PySem.W.nsIn K mainGlobals "PICTURE_SIDE_MOST" = some (some (.int 12 t_PICTURE_SIDE_MOST)))
    {t_PLACE_MOST : Tok} (z_PLACE_MOST : PySem.W.nsIn K mainGlobals "PLACE_MOST" = some (some (.int 1000 t_PLACE_MOST)))
    {t_SIDE_MOST : Tok} (z_SIDE_MOST : PySem.W.nsIn K mainGlobals "SIDE_MOST" = some (some (.int 64 t_SIDE_MOST)))
    {t_START_MOST : Tok} (z_START_MOST : PySem.W.nsIn K mainGlobals "START_MOST" = some (some (.int 10000 t_START_MOST)))
    {t_STEP_MOST : Tok} (z_STEP_MOST : PySem.W.nsIn K mainGlobals "STEP_MOST" = some (some (.int 12 t_STEP_MOST)))
    {t_VALUE_MOST : Tok} (z_VALUE_MOST : PySem.W.nsIn K mainGlobals "VALUE_MOST" = some (some (.int 255 t_VALUE_MOST)))
     {x__EITHER : Addr} {xd__EITHER : Option Addr} {xn__EITHER : Nat} {xs__EITHER : Array (Option Value)} (z__EITHER : PySem.W.nsIn K mainGlobals "_EITHER" = some (some (.ref x__EITHER))) (y__EITHER : K.lookup x__EITHER = some ⟨.type "tuple", xd__EITHER, .seq #[.bool false, .bool true, .bool true, .bool true] xn__EITHER, xs__EITHER⟩)
    {eZ0 : Addr} {fZ0 dTZ0 : Addr} {odZ0 odTZ0 anZ0 : Option Addr} {slZ0 slTZ0 : Array (Option Value)} {nTZ0 : Nat} {ocZ0 kVZ0 dcZ0 pmZ0 cdZ0 ctZ0 : Value} (aZ0 : PySem.W.nsIn K mainGlobals "FilmError" = some (some (.ref eZ0))) (rZ0 : PySem.W.readsIn K eZ0 (.type "type") = true) (gZ0 : PySem.W.specialIn K (.ref eZ0) "__getattribute__" = some (some (.builtin "type.__getattribute__"))) (iZ0 : PySem.W.findCls K (.ref eZ0) (.type "type") "__init__" = some (.val (.ref fZ0))) (vZ0 : PySem.W.findCls K (.type "ValueError") (.type "type") "__init__" = some (.val (.builtin "ValueError.__init__"))) (wZ0 : PySem.W.nsIn K mainGlobals "ValueError" = some none) (lZ0 : K.lookup fZ0 = some ⟨ocZ0, odZ0, .func (PySem.W.fnOf "__init__" "FilmError.__init__" (defArgs s_FilmErr) (defBody s_FilmErr) (defScope s_FilmErr) (.ref dTZ0) kVZ0 dcZ0 pmZ0 anZ0 cdZ0 ctZ0), slZ0⟩) (cZ0 : PySem.W.codeIn K cdZ0 "FilmError.__init__" = true) (kZ0 : PySem.W.keepIn K (.ref fZ0) = true) (dZ0 : K.lookup dTZ0 = some ⟨.type "tuple", odTZ0, .seq #[.none] nTZ0, slTZ0⟩)
    {eZ1 : Addr} {nmZ1 qZ1 : Str} {NZ1 : Addr} {bsZ1 : List Value} {snZ1 : List Str} {subZ1 : List Value} {abZ1 : Bool} {colZ1 : Option Bool} {ddZ1 : Option Addr} {m0Z1 m1Z1 m2Z1 m3Z1 m5Z1 : Option Value} {fZ1 dTZ1 : Addr} {odZ1 odTZ1 anZ1 : Option Addr} {slZ1 slTZ1 : Array (Option Value)} {nTZ1 : Nat} {ocZ1 kVZ1 dcZ1 pmZ1 cdZ1 ctZ1 : Value} (aZ1 : PySem.W.nsIn K mainGlobals "BadRectangle" = some (some (.ref eZ1))) (xZ1 : K.lookup eZ1 = some (excClassObj nmZ1 qZ1 eZ1 NZ1 bsZ1 [.ref eZ0, .type "ValueError", .type "Exception", .type "BaseException", .type "object"] true snZ1 subZ1 abZ1 colZ1 ddZ1 m0Z1 m1Z1 m2Z1 m3Z1 m5Z1 "ValueError.__new__")) (saZ1 : PySem.W.findIn K (.ref eZ1) "__setattr__" = some (some (.builtin "object.__setattr__"))) (gaZ1 : PySem.W.findIn K (.ref eZ1) "__getattribute__" = some (some (.builtin "BaseException.__getattribute__"))) (ggZ1 : PySem.W.findIn K (.ref eZ1) "__getattr__" = some none) (nwZ1 : PySem.W.findIn K (.ref eZ1) "word" = some none) (npZ1 : PySem.W.findIn K (.ref eZ1) "place" = some none) (iZ1 : PySem.W.findIn K (.ref eZ1) "__init__" = some (some (.ref fZ1))) (tZ1 : PySem.W.typeIn K (.ref fZ1) = some (.type "function")) (keZ1 : PySem.W.keepIn K (.ref eZ1) = true) (exZ1 : PySem.W.subIn K (.ref eZ1) (.type "BaseException") = some true) (tyZ1 : PySem.W.typeIn K (.ref eZ1) = some (.type "type")) (hdZ1 : PySem.W.hasDictIn K eZ1 = true) (icZ1 : PySem.W.isClsIn K eZ1 = true) (scZ1 : PySem.W.subIn K (.ref eZ1) (.ref eZ1) = some true) (lZ1 : K.lookup fZ1 = some ⟨ocZ1, odZ1, .func (PySem.W.fnOf "__init__" "BadRectangle.__init__" (defArgs s_BadRectangle) (defBody s_BadRectangle) (defScope s_BadRectangle) (.ref dTZ1) kVZ1 dcZ1 pmZ1 anZ1 cdZ1 ctZ1), slZ1⟩) (cZ1 : PySem.W.codeIn K cdZ1 "BadRectangle.__init__" = true) (kZ1 : PySem.W.keepIn K (.ref fZ1) = true) (dZ1 : K.lookup dTZ1 = some ⟨.type "tuple", odTZ1, .seq #[.none] nTZ1, slTZ1⟩)
    : LawT l w K 16 63 "script" "region_of" mg fa := by
  have e := hfa.symm.trans (PySem.W.mg_of X G a76)
  cases e
  have T : Txt K mg := ⟨PySem.W.mg_none_of X G z_all, PySem.W.mg_none_of X G z_bool, PySem.W.mg_none_of X G z_enumerate, PySem.W.mg_none_of X G z_int, PySem.W.mg_none_of X G z_isinstance, PySem.W.mg_none_of X G z_len, PySem.W.mg_none_of X G z_list, PySem.W.mg_none_of X G z_max, PySem.W.mg_none_of X G z_min, PySem.W.mg_none_of X G z_range, PySem.W.mg_none_of X G z_reversed, PySem.W.mg_none_of X G z_set, PySem.W.mg_none_of X G z_sorted, PySem.W.mg_none_of X G z_str, PySem.W.mg_none_of X G z_tuple, PySem.W.mg_none_of X G z_zip, ⟨_, PySem.W.mg_of X G z_CLIPS_MOST⟩, ⟨_, PySem.W.mg_of X G z_COVER_MOST⟩, ⟨_, PySem.W.mg_of X G z_DISTANCE_MOST⟩, ⟨_, PySem.W.mg_of X G z_FRAMES_MOST⟩, ⟨_, PySem.W.mg_of X G z_LAYERS_MOST⟩, ⟨_, PySem.W.mg_of X G z_LENGTH_MOST⟩, ⟨_, PySem.W.mg_of X G z_LETTERS⟩, ⟨_, PySem.W.mg_of X G z_LEVEL_MOST⟩, ⟨_, PySem.W.mg_of X G z_MODES, fun H => .inr ⟨_, _, _, y_MODES, rfl, rfl, by show 3 ≤ sizeLine; decide, by repeat (first | exact .nil | refine .cons rfl ?_ | refine .cons ⟨_, rfl⟩ ?_)⟩⟩, ⟨_, PySem.W.mg_of X G z_MOVES_MOST⟩, ⟨_, PySem.W.mg_of X G z_MOVE_FRAME_MOST⟩, ⟨_, PySem.W.mg_of X G z_NAME_MOST⟩, ⟨_, PySem.W.mg_of X G z_PICTURE_SIDE_MOST⟩, ⟨_, PySem.W.mg_of X G z_PLACE_MOST⟩, ⟨_, PySem.W.mg_of X G z_SIDE_MOST⟩, ⟨_, PySem.W.mg_of X G z_START_MOST⟩, ⟨_, PySem.W.mg_of X G z_STEP_MOST⟩, ⟨_, PySem.W.mg_of X G z_VALUE_MOST⟩, ⟨_, PySem.W.mg_of X G z__EITHER, fun H => .inr ⟨_, _, _, y__EITHER, rfl, rfl, by show 4 ≤ sizeLine; decide, by repeat (first | exact .nil | refine .cons rfl ?_ | refine .cons ⟨_, rfl⟩ ?_)⟩⟩⟩
  refine ⟨PySem.W.fnOf "law" "law" (defArgs s_law) (defBody s_law) (defScope s_law) .none kV76 dc76 pm76 an76 cd76 ct76, cT, PT, spLawT K PT, tabIn_of a72 l72 rfl lcT v11, ntz, fun s v => .of_eq rfl, fun H a ns hl hP hS => ⟨a, ns, rfl, hS, hl, fun p hp => (by rw [List.mem_singleton.mp hp]; exact LamX.TabS.nil hP), fun _ => rfl⟩, fun base _ _ TB => ?_⟩
  have FT : FilmTxt K mg eZ0 fZ0 := ⟨PySem.W.mg_of X G aZ0, rZ0, gZ0, iZ0, PySem.W.mg_none_of X G wZ0, vZ0⟩
  have FZ0 : FunD K "__init__" "FilmError.__init__" (defArgs s_FilmErr) (defBody s_FilmErr) (defScope s_FilmErr) [.non] [] fZ0 _ := ⟨⟨_, _, _, _, _, _, _, _, _, _, rfl, lZ0, cZ0, .inr ⟨by simp, _, _, [.none], _, rfl, dZ0, rfl, .cons rfl .nil⟩, .inl rfl⟩, kZ0⟩
  have GZ0 := ok_FilmErr (P := l.prog) (w := w) (base := base) FZ0 FT
  have bZ0 := binds_FilmErr FZ0
  have FZ1 : FunD K "__init__" "BadRectangle.__init__" (defArgs s_BadRectangle) (defBody s_BadRectangle) (defScope s_BadRectangle) [.non] [] fZ1 _ := ⟨⟨_, _, _, _, _, _, _, _, _, _, rfl, lZ1, cZ1, .inr ⟨by simp, _, _, [.none], _, rfl, dZ1, rfl, .cons rfl .nil⟩, .inl rfl⟩, kZ1⟩
  have OZ1 : OexC K eZ1 := ⟨⟨_, _, _, _, _, _, _, _, _, _, _, _, _, _, _, xZ1, by rfl⟩, saZ1, exZ1, tyZ1, keZ1⟩
  have KB_BadRectangle : KindOk l.prog w K mg base "BadRectangle" eZ1 := ⟨fZ1, ⟨PySem.W.mg_of X G aZ1, OZ1, ⟨gaZ1, ggZ1, exZ1, hdZ1⟩, nwZ1, npZ1, iZ1, tZ1, exm_self exZ1 icZ1 tyZ1 scZ1⟩, _, ok_BadRectangle FZ1 FT GZ0 kZ0 bZ0, binds_BadRectangle FZ1⟩
  have OT_Film : FilmT K cO_Film := ⟨⟨pg_Film, hd_Film, po_Film, sa_Film⟩, n0_Film, n1_Film, n2_Film, n3_Film, n4_Film⟩
  have F0 := fun_mk (st := s_l_draw) l0 c0 k0
  have D_l_draw : Def l.prog w K mg base CX0 "_law_draw" 1 ["script", "k", "below"] (spDrawF K) := ⟨f0, _, ok_l_draw F0 T, PySem.W.mg_of X G a0, k0, F0.binds (ps := ["script", "k", "below"]) fun _ _ _ _ _ _ us hl => match us, hl with | [_, _, _], _ => rfl⟩
  have F1 := fun_mk (st := s_l_picture) l1 c1 k1
  have D_l_picture : Def l.prog w K mg base CX0 "_law_picture" 2 ["script", "k"] (spPicF K) := ⟨f1, _, ok_l_picture F1 T D_l_draw, PySem.W.mg_of X G a1, k1, F1.binds (ps := ["script", "k"]) fun _ _ _ _ _ _ us hl => match us, hl with | [_, _], _ => rfl⟩
  have F2 := fun_mk (st := s_l_paint) l2 c2 k2
  have D_l_paint : Def l.prog w K mg base CX0 "_law_paint" 3 ["script", "k"] (spPaintF K) := ⟨f2, _, ok_l_paint F2 T D_l_draw D_l_picture, PySem.W.mg_of X G a2, k2, F2.binds (ps := ["script", "k"]) fun _ _ _ _ _ _ us hl => match us, hl with | [_, _], _ => rfl⟩
  have F3 := fun_mk (st := s_l_clips) l3 c3 k3
  have D_l_clips : Def l.prog w K mg base CX0 "_law_clips" 4 ["script", "k", "adjusts"] (spClipsF K) := ⟨f3, _, ok_l_clips F3 T D_l_draw D_l_paint, PySem.W.mg_of X G a3, k3, F3.binds (ps := ["script", "k", "adjusts"]) fun _ _ _ _ _ _ us hl => match us, hl with | [_, _, _], _ => rfl⟩
  have F4 := fun_mk (st := s_l_what) l4 c4 k4
  have D_l_what : Def l.prog w K mg base CX0 "_law_what" 2 ["script", "k"] (spWhatF K) := ⟨f4, _, ok_l_what F4 T D_l_draw, PySem.W.mg_of X G a4, k4, F4.binds (ps := ["script", "k"]) fun _ _ _ _ _ _ us hl => match us, hl with | [_, _], _ => rfl⟩
  have F5 := fun_mk (st := s_l_box) l5 c5 k5
  have D_l_box : Def l.prog w K mg base CX0 "_law_box" 2 ["script", "k"] (spBoxF K) := ⟨f5, _, ok_l_box F5 T D_l_draw, PySem.W.mg_of X G a5, k5, F5.binds (ps := ["script", "k"]) fun _ _ _ _ _ _ us hl => match us, hl with | [_, _], _ => rfl⟩
  have F6 := fun_mk (st := s_l_moves) l6 c6 k6
  have D_l_moves : Def l.prog w K mg base CX0 "_law_moves" 2 ["script", "k"] (spMovesF K) := ⟨f6, _, ok_l_moves F6 T D_l_draw, PySem.W.mg_of X G a6, k6, F6.binds (ps := ["script", "k"]) fun _ _ _ _ _ _ us hl => match us, hl with | [_, _], _ => rfl⟩
  have F7 := fun_mk (st := s_l_layer) l7 c7 k7
  have D_l_layer : Def l.prog w K mg base CX0 "_law_layer" 5 ["script", "k", "name"] (spLayerF K) := ⟨f7, _, ok_l_layer F7 T D_l_what D_l_clips D_l_box D_l_moves, PySem.W.mg_of X G a7, k7, F7.binds (ps := ["script", "k", "name"]) fun _ _ _ _ _ _ us hl => match us, hl with | [_, _, _], _ => rfl⟩
  have F8 := fun_mk (st := s_l_name) l8 c8 k8
  have D_l_name : Def l.prog w K mg base CX0 "_law_name" 2 ["script", "k", "first"] (spNameF K) := ⟨f8, _, ok_l_name F8 T D_l_draw, PySem.W.mg_of X G a8, k8, F8.binds (ps := ["script", "k", "first"]) fun _ _ _ _ _ _ us hl => match us, hl with | [_, _, _], _ => rfl⟩
  have F9 := fun_mk (st := s_l_film) l9 c9 k9
  have D_l_film : Def l.prog w K mg base CX0 "_law_film" 6 ["script", "k"] (spFilmF K) := ⟨f9, _, ok_l_film F9 T D_l_draw D_l_layer D_l_name, PySem.W.mg_of X G a9, k9, F9.binds (ps := ["script", "k"]) fun _ _ _ _ _ _ us hl => match us, hl with | [_, _], _ => rfl⟩
  have F10 := fun_mk (st := s_is_whole) l10 c10 k10
  have D_is_whole : Def l.prog w K mg base CX0 "is_whole" 1 ["value"] (spWhole) := ⟨f10, _, ok_is_whole F10 T, PySem.W.mg_of X G a10, k10, F10.binds (ps := ["value"]) fun _ _ _ _ _ _ us hl => match us, hl with | [_], _ => rfl⟩
  have F11 := fun_mk (st := s_is_number) l11 c11 k11
  have D_is_number : Def l.prog w K mg base CX0 "is_number" 2 ["value", "least", "most"] (spNumber) := ⟨f11, _, ok_is_number F11 T D_is_whole, PySem.W.mg_of X G a11, k11, F11.binds (ps := ["value", "least", "most"]) fun _ _ _ _ _ _ us hl => match us, hl with | [_, _, _], _ => rfl⟩
  have F12 := fun_mk (st := s_has_form_blends) l12 c12 k12
  have D_has_form_blends : Def l.prog w K mg base CX0 "has_form_blends" 3 ["what"] (spFormWh) := ⟨f12, _, ok_has_form_blends F12 T D_is_number, PySem.W.mg_of X G a12, k12, F12.binds (ps := ["what"]) fun _ _ _ _ _ _ us hl => match us, hl with | [_], _ => rfl⟩
  have F13 := fun_mk (st := s_check_what) l13 c13 k13
  have D_check_what : Def l.prog w K mg base CX0 "check_what" 4 ["what"] (spWhatV) := ⟨f13, _, ok_check_what F13 T D_has_form_blends, PySem.W.mg_of X G a13, k13, F13.binds (ps := ["what"]) fun _ _ _ _ _ _ us hl => match us, hl with | [_], _ => rfl⟩
  have F14 := fun_mk (st := s_is_distance) l14 c14 k14
  have D_is_distance : Def l.prog w K mg base CX0 "_is_distance" 3 ["value"] (spDistV) := ⟨f14, _, ok_is_distance F14 T D_is_number, PySem.W.mg_of X G a14, k14, F14.binds (ps := ["value"]) fun _ _ _ _ _ _ us hl => match us, hl with | [_], _ => rfl⟩
  have F15 := fun_mk (st := s_is_point) l15 c15 k15
  have D_is_point : Def l.prog w K mg base CX0 "_is_point" 4 ["point", "least"] (spPtVd) := ⟨f15, _, ok_is_point F15 T D_is_number D_is_distance, PySem.W.mg_of X G a15, k15, F15.binds (ps := ["point", "least"]) fun _ _ _ _ _ _ us hl => match us, hl with | [_, _], _ => rfl⟩
  have F16 := fun_mk (st := s_check_moves) l16 c16 k16
  have D_check_moves : Def l.prog w K mg base CX0 "check_moves" 5 ["moves"] (spMovesV) := ⟨f16, _, ok_check_moves F16 T D_is_point, PySem.W.mg_of X G a16, k16, F16.binds (ps := ["moves"]) fun _ _ _ _ _ _ us hl => match us, hl with | [_], _ => rfl⟩
  have F17 := fun_mk (st := s_has_form_clips) l17 c17 k17
  have D_has_form_clips : Def l.prog w K mg base CX0 "has_form_clips" 3 ["clip"] (spFormCV) := ⟨f17, _, ok_has_form_clips F17 T D_is_number, PySem.W.mg_of X G a17, k17, F17.binds (ps := ["clip"]) fun _ _ _ _ _ _ us hl => match us, hl with | [_], _ => rfl⟩
  have F18 := fun_mk (st := s_is_bare) l18 c18 k18
  have D_is_bare : Def l.prog w K mg base CX0 "_is_bare" 1 ["clip"] (spBareV) := ⟨f18, _, ok_is_bare F18 T, PySem.W.mg_of X G a18, k18, F18.binds (ps := ["clip"]) fun _ _ _ _ _ _ us hl => match us, hl with | [_], _ => rfl⟩
  have F19 := fun_mk (st := s_are_numbers) l19 c19 k19
  have D_are_numbers : Def l.prog w K mg base CX0 "_are_numbers" 3 ["items", "many", "most"] (spNums) := ⟨f19, _, ok_are_numbers F19 T D_is_number, PySem.W.mg_of X G a19, k19, F19.binds (ps := ["items", "many", "most"]) fun _ _ _ _ _ _ us hl => match us, hl with | [_, _, _], _ => rfl⟩
  have F20 := fun_mk (st := s_check_picture) l20 c20 k20
  have D_check_picture : Def l.prog w K mg base CX0 "check_picture" 4 ["picture"] (spCheck K) := ⟨f20, _, ok_check_picture F20 T D_is_number D_are_numbers, PySem.W.mg_of X G a20, k20, F20.binds (ps := ["picture"]) fun _ _ _ _ _ _ us hl => match us, hl with | [_], _ => rfl⟩
  have F21 := fun_mk (st := s_has_form_paints) l21 c21 k21
  have D_has_form_paints : Def l.prog w K mg base CX0 "has_form_paints" 3 ["paint"] (spFormP K) := ⟨f21, _, ok_has_form_paints F21 T D_is_number, PySem.W.mg_of X G a21, k21, F21.binds (ps := ["paint"]) fun _ _ _ _ _ _ us hl => match us, hl with | [_], _ => rfl⟩
  have F22 := fun_mk (st := s_check_paint) l22 c22 k22
  have D_check_paint : Def l.prog w K mg base CX0 "check_paint" 5 ["paint"] (spGoodP) := ⟨f22, _, ok_check_paint F22 T D_has_form_paints D_check_picture, PySem.W.mg_of X G a22, k22, F22.binds (ps := ["paint"]) fun _ _ _ _ _ _ us hl => match us, hl with | [_], _ => rfl⟩
  have F23 := fun_mk (st := s_end_of) l23 c23 k23
  have D_end_of : Def l.prog w K mg base CX0 "end_of" 1 ["clip"] (spEnd K) := ⟨f23, _, ok_end_of F23 T, PySem.W.mg_of X G a23, k23, F23.binds (ps := ["clip"]) fun _ _ _ _ _ _ us hl => match us, hl with | [_], _ => rfl⟩
  have F24 := fun_mk (st := s_is_name) l24 c24 k24
  have D_is_name : Def l.prog w K mg base CX0 "is_name" 1 ["value"] (spIsName) := ⟨f24, _, ok_is_name F24 T, PySem.W.mg_of X G a24, k24, F24.binds (ps := ["value"]) fun _ _ _ _ _ _ us hl => match us, hl with | [_], _ => rfl⟩
  have F25 := fun_mk (st := s_check_clips) l25 c25 k25
  have D_check_clips : Def l.prog w K mg base CX0 "check_clips" 6 ["clips", "adjusts"] (spClipsVd) := ⟨f25, _, ok_check_clips F25 T D_has_form_clips D_is_bare D_check_paint D_end_of, PySem.W.mg_of X G a25, k25, F25.binds (ps := ["clips", "adjusts"]) fun _ _ _ _ _ _ us hl => match us, hl with | [_, _], _ => rfl⟩
  have F26 := fun_mk (st := s_is_box) l26 c26 k26
  have D_is_box : Def l.prog w K mg base CX0 "_is_box" 3 ["value"] (spBoxVd) := ⟨f26, _, ok_is_box F26 T D_is_number, PySem.W.mg_of X G a26, k26, F26.binds (ps := ["value"]) fun _ _ _ _ _ _ us hl => match us, hl with | [_], _ => rfl⟩
  have F27 := fun_mk (st := s_adjusts) l27 c27 k27
  have D_adjusts : Def l.prog w K mg base CX0 "_adjusts" 1 ["what"] (spAdj K) := ⟨f27, _, ok_adjusts F27 T, PySem.W.mg_of X G a27, k27, F27.binds (ps := ["what"]) fun _ _ _ _ _ _ us hl => match us, hl with | [_], _ => rfl⟩
  have F28 := fun_mk (st := s_check_numbers) l28 c28 k28
  have D_check_numbers : Def l.prog w K mg base CX0 "_check_numbers" 3 ["width", "height", "frames", "background"] (spNumsVd) := ⟨f28, _, ok_check_numbers F28 T D_is_number, PySem.W.mg_of X G a28, k28, F28.binds (ps := ["width", "height", "frames", "background"]) fun _ _ _ _ _ _ us hl => match us, hl with | [_, _, _, _], _ => rfl⟩
  have F29 := fun_mk (st := s_check_layer) l29 c29 k29
  have D_check_layer : Def l.prog w K mg base CX0 "_check_layer" 7 ["layer", "place"] (spLayerVd K) := ⟨f29, _, ok_check_layer F29 T D_is_name D_is_box D_check_moves D_check_what D_check_clips D_adjusts, PySem.W.mg_of X G a29, k29, F29.binds (ps := ["layer", "place"]) fun _ _ _ _ _ _ us hl => match us, hl with | [_, _], _ => rfl⟩
  have F30 := fun_mk (st := s_Film_width) l30 c30 k30
  have PF_Film_width : Prp l.prog w K mg base cO_Film "width" 1 (spGetI cO_Film Fi.w) := ⟨p30, f30, _, ⟨a30, g30, t30, ⟨_, r30⟩⟩, ok_Film_width F30 T OT_Film, F30.binds (ps := ["self"]) fun _ _ _ _ _ _ us hl => match us, hl with | [_], _ => rfl⟩
  have F31 := fun_mk (st := s_Film_height) l31 c31 k31
  have PF_Film_height : Prp l.prog w K mg base cO_Film "height" 1 (spGetI cO_Film Fi.h) := ⟨p31, f31, _, ⟨a31, g31, t31, ⟨_, r31⟩⟩, ok_Film_height F31 T OT_Film, F31.binds (ps := ["self"]) fun _ _ _ _ _ _ us hl => match us, hl with | [_], _ => rfl⟩
  have F32 := fun_mk (st := s_Film_frames) l32 c32 k32
  have PF_Film_frames : Prp l.prog w K mg base cO_Film "frames" 1 (spGetI cO_Film Fi.n) := ⟨p32, f32, _, ⟨a32, g32, t32, ⟨_, r32⟩⟩, ok_Film_frames F32 T OT_Film, F32.binds (ps := ["self"]) fun _ _ _ _ _ _ us hl => match us, hl with | [_], _ => rfl⟩
  have F33 := fun_mk (st := s_Film_background) l33 c33 k33
  have PF_Film_background : Prp l.prog w K mg base cO_Film "background" 1 (spGetI cO_Film Fi.b) := ⟨p33, f33, _, ⟨a33, g33, t33, ⟨_, r33⟩⟩, ok_Film_background F33 T OT_Film, F33.binds (ps := ["self"]) fun _ _ _ _ _ _ us hl => match us, hl with | [_], _ => rfl⟩
  have F34 := fun_mk (st := s_Film_layers) l34 c34 k34
  have PF_Film_layers : Prp l.prog w K mg base cO_Film "layers" 1 (spGetL cO_Film) := ⟨p34, f34, _, ⟨a34, g34, t34, ⟨_, r34⟩⟩, ok_Film_layers F34 T OT_Film, F34.binds (ps := ["self"]) fun _ _ _ _ _ _ us hl => match us, hl with | [_], _ => rfl⟩
  have F35 := fun_mk (st := s_Film_init) l35 c35 k35
  have MK_Film : MkO l.prog w K mg base CX0 "Film" cO_Film 8 ["self", "width", "height", "frames", "background", "layers"] (spFilmVd cO_Film) := ⟨f35, _, ⟨mk_Film, a35, i35, kc_Film⟩, ok_Film_init F35 T OT_Film D_check_numbers D_check_layer, PySem.W.mg_of X G aO_Film, F35.binds (ps := ["self", "width", "height", "frames", "background", "layers"]) fun _ _ _ _ _ _ us hl => match us, hl with | [_, _, _, _, _, _], _ => rfl⟩
  have F36 := fun_mk (st := s_between) l36 c36 k36
  have D_between : Def l.prog w K mg base CX0 "_between" 1 ["first", "second", "frame"] (spBtw K) := ⟨f36, _, ok_between F36 T, PySem.W.mg_of X G a36, k36, F36.binds (ps := ["first", "second", "frame"]) fun _ _ _ _ _ _ us hl => match us, hl with | [_, _, _], _ => rfl⟩
  have F37 := fun_mk (st := s_offset_at) l37 c37 k37
  have D_offset_at : Def l.prog w K mg base CX0 "offset_at" 2 ["moves", "frame"] (spOff K) := ⟨f37, _, ok_offset_at F37 T D_between, PySem.W.mg_of X G a37, k37, F37.binds (ps := ["moves", "frame"]) fun _ _ _ _ _ _ us hl => match us, hl with | [_, _], _ => rfl⟩
  have F38 := fun_mk (st := s_corner_of) l38 c38 k38
  have D_corner_of : Def l.prog w K mg base CX0 "_corner_of" 3 ["layer", "frame"] (spCorner K) := ⟨f38, _, ok_corner_of F38 T D_offset_at, PySem.W.mg_of X G a38, k38, F38.binds (ps := ["layer", "frame"]) fun _ _ _ _ _ _ us hl => match us, hl with | [_, _], _ => rfl⟩
  have F39 := fun_mk (st := s_level_at) l39 c39 k39
  have D_level_at : Def l.prog w K mg base CX0 "level_at" 1 ["clip", "frame"] (spLevelF K) := ⟨f39, _, ok_level_at F39 T, PySem.W.mg_of X G a39, k39, F39.binds (ps := ["clip", "frame"]) fun _ _ _ _ _ _ us hl => match us, hl with | [_, _], _ => rfl⟩
  have F40 := fun_mk (st := s_clip_at) l40 c40 k40
  have D_clip_at : Def l.prog w K mg base CX0 "clip_at" 2 ["clips", "frame"] (spClipAt K) := ⟨f40, _, ok_clip_at F40 T D_end_of, PySem.W.mg_of X G a40, k40, F40.binds (ps := ["clips", "frame"]) fun _ _ _ _ _ _ us hl => match us, hl with | [_, _], _ => rfl⟩
  have F41 := fun_mk (st := s_lane) l41 c41 k41
  have D_lane : Def l.prog w K mg base CX0 "lane" 3 ["clips", "frame"] (spLaneF K) := ⟨f41, _, ok_lane F41 T D_clip_at D_level_at, PySem.W.mg_of X G a41, k41, F41.binds (ps := ["clips", "frame"]) fun _ _ _ _ _ _ us hl => match us, hl with | [_, _], _ => rfl⟩
  have F42 := fun_mk (st := s_is_full_picture) l42 c42 k42
  have D_is_full_picture : Def l.prog w K mg base CX0 "_is_full_picture" 1 ["picture", "width", "height"] (spFullP K) := ⟨f42, _, ok_is_full_picture F42 T, PySem.W.mg_of X G a42, k42, F42.binds (ps := ["picture", "width", "height"]) fun _ _ _ _ _ _ us hl => match us, hl with | [_, _, _], _ => rfl⟩
  have F43 := fun_mk (st := s_is_full) l43 c43 k43
  have D_is_full : Def l.prog w K mg base CX0 "is_full" 2 ["paint", "width", "height"] (spFull K) := ⟨f43, _, ok_is_full F43 T D_is_full_picture, PySem.W.mg_of X G a43, k43, F43.binds (ps := ["paint", "width", "height"]) fun _ _ _ _ _ _ us hl => match us, hl with | [_, _, _], _ => rfl⟩
  have F44 := fun_mk (st := s_extent_of) l44 c44 k44
  have D_extent_of : Def l.prog w K mg base CX0 "extent_of" 4 ["film", "layer", "frame"] (spExt K cO_Film) := ⟨f44, _, ok_extent_of F44 T OT_Film D_corner_of PF_Film_width PF_Film_height, PySem.W.mg_of X G a44, k44, F44.binds (ps := ["film", "layer", "frame"]) fun _ _ _ _ _ _ us hl => match us, hl with | [_, _, _], _ => rfl⟩
  have F45 := fun_mk (st := s_item_of) l45 c45 k45
  have D_item_of : Def l.prog w K mg base CX0 "_item_of" 5 ["film", "layer", "frame"] (spItem K cO_Film) := ⟨f45, _, ok_item_of F45 T OT_Film D_lane D_extent_of D_corner_of D_adjusts D_is_full, PySem.W.mg_of X G a45, k45, F45.binds (ps := ["film", "layer", "frame"]) fun _ _ _ _ _ _ us hl => match us, hl with | [_, _, _], _ => rfl⟩
  have F46 := fun_mk (st := s_items_at) l46 c46 k46
  have D_items_at : Def l.prog w K mg base CX0 "items_at" 6 ["film", "frame"] (spItems K cO_Film) := ⟨f46, _, ok_items_at F46 T OT_Film PF_Film_layers D_item_of, PySem.W.mg_of X G a46, k46, F46.binds (ps := ["film", "frame"]) fun _ _ _ _ _ _ us hl => match us, hl with | [_, _], _ => rfl⟩
  have F47 := fun_mk (st := s_l_made) l47 c47 k47
  have D_l_made : Def l.prog w K mg base CX0 "_law_made" 10 ["parts"] (spMade K cO_Film) := ⟨f47, _, ok_l_made F47 T MK_Film, PySem.W.mg_of X G a47, k47, F47.binds (ps := ["parts"]) fun _ _ _ _ _ _ us hl => match us, hl with | [_], _ => rfl⟩
  have F48 := fun_mk (st := s_l_line) l48 c48 k48
  have D_l_line : Def l.prog w K mg base CX0 "_law_line" 1 ["one", "other", "part", "whole"] (spLn) := ⟨f48, _, ok_l_line F48 T, PySem.W.mg_of X G a48, k48, F48.binds (ps := ["one", "other", "part", "whole"]) fun _ _ _ _ _ _ us hl => match us, hl with | [_, _, _, _], _ => rfl⟩
  have F49 := fun_mk (st := s_l_offset) l49 c49 k49
  have D_l_offset : Def l.prog w K mg base CX0 "_law_offset" 2 ["moves", "frame"] (spOffF K) := ⟨f49, _, ok_l_offset F49 T D_l_line, PySem.W.mg_of X G a49, k49, F49.binds (ps := ["moves", "frame"]) fun _ _ _ _ _ _ us hl => match us, hl with | [_, _], _ => rfl⟩
  have F50 := fun_mk (st := s_l_there) l50 c50 k50
  have D_l_there : Def l.prog w K mg base CX0 "_law_there" 1 ["clips", "frame"] (spThere K) := ⟨f50, _, ok_l_there F50 T, PySem.W.mg_of X G a50, k50, F50.binds (ps := ["clips", "frame"]) fun _ _ _ _ _ _ us hl => match us, hl with | [_, _], _ => rfl⟩
  have F51 := fun_mk (st := s_l_paint_at) l51 c51 k51
  have D_l_paint_at : Def l.prog w K mg base CX0 "_law_paint_at" 1 ["paint", "x", "y"] (spAtL K) := ⟨f51, _, ok_l_paint_at F51 T, PySem.W.mg_of X G a51, k51, F51.binds (ps := ["paint", "x", "y"]) fun _ _ _ _ _ _ us hl => match us, hl with | [_, _, _], _ => rfl⟩
  have F52 := fun_mk (st := s_l_items) l52 c52 k52
  have D_l_items : Def l.prog w K mg base CX0 "_law_items" 3 ["parts", "frame"] (spLItems K) := ⟨f52, _, ok_l_items F52 T D_l_there D_l_offset, PySem.W.mg_of X G a52, k52, F52.binds (ps := ["parts", "frame"]) fun _ _ _ _ _ _ us hl => match us, hl with | [_, _], _ => rfl⟩
  have F53 := fun_mk (st := s_l_in) l53 c53 k53
  have D_l_in : Def l.prog w K mg base CX0 "_law_in" 1 ["item", "x", "y"] (spLIn K) := ⟨f53, _, ok_l_in F53 T, PySem.W.mg_of X G a53, k53, F53.binds (ps := ["item", "x", "y"]) fun _ _ _ _ _ _ us hl => match us, hl with | [_, _, _], _ => rfl⟩
  have F54 := fun_mk (st := s_entry_of) l54 c54 k54
  have D_entry_of : Def l.prog w K mg base CX0 "_entry_of" 1 ["item"] (spEntry K) := ⟨f54, _, ok_entry_of F54 T, PySem.W.mg_of X G a54, k54, F54.binds (ps := ["item"]) fun _ _ _ _ _ _ us hl => match us, hl with | [_], _ => rfl⟩
  have F55 := fun_mk (st := s_sheets_of) l55 c55 k55
  have D_sheets_of : Def l.prog w K mg base CX0 "_sheets_of" 7 ["film", "frame"] (spSheets K cO_Film) := ⟨f55, _, ok_sheets_of F55 T OT_Film D_items_at D_entry_of PF_Film_background PF_Film_height PF_Film_width, PySem.W.mg_of X G a55, k55, F55.binds (ps := ["film", "frame"]) fun _ _ _ _ _ _ us hl => match us, hl with | [_, _], _ => rfl⟩
  have F56 := fun_mk (st := s_stack_of) l56 c56 k56
  have D_stack_of : Def l.prog w K mg base CX0 "_stack_of" 1 ["sheets", "x", "y"] (spStackOf K) := ⟨f56, _, ok_stack_of F56 T, PySem.W.mg_of X G a56, k56, F56.binds (ps := ["sheets", "x", "y"]) fun _ _ _ _ _ _ us hl => match us, hl with | [_, _, _], _ => rfl⟩
  have F57 := fun_mk (st := s_l_hides) l57 c57 k57
  have D_l_hides : Def l.prog w K mg base CX0 "_law_hides" 2 ["item"] (spLHides K) := ⟨f57, _, ok_l_hides F57 T D_l_paint_at, PySem.W.mg_of X G a57, k57, F57.binds (ps := ["item"]) fun _ _ _ _ _ _ us hl => match us, hl with | [_], _ => rfl⟩
  have F58 := fun_mk (st := s_l_hiding) l58 c58 k58
  have D_l_hiding : Def l.prog w K mg base CX0 "_law_hiding" 3 ["items"] (spLHiding K) := ⟨f58, _, ok_l_hiding F58 T D_l_hides, PySem.W.mg_of X G a58, k58, F58.binds (ps := ["items"]) fun _ _ _ _ _ _ us hl => match us, hl with | [_], _ => rfl⟩
  have F59 := fun_mk (st := s_l_stack) l59 c59 k59
  have D_l_stack : Def l.prog w K mg base CX0 "_law_stack" 2 ["items", "hiding", "background", "x", "y"] (spLStack K) := ⟨f59, _, ok_l_stack F59 T D_l_in, PySem.W.mg_of X G a59, k59, F59.binds (ps := ["items", "hiding", "background", "x", "y"]) fun _ _ _ _ _ _ us hl => match us, hl with | [_, _, _, _, _], _ => rfl⟩
  have F60 := fun_mk (st := s_l_stacks) l60 c60 k60
  have D_l_stacks : Def l.prog w K mg base CX0 "_law_stacks" 4 ["parts", "frame"] (spLStacks K) := ⟨f60, _, ok_l_stacks F60 T D_l_items D_l_hiding D_l_stack, PySem.W.mg_of X G a60, k60, F60.binds (ps := ["parts", "frame"]) fun _ _ _ _ _ _ us hl => match us, hl with | [_, _], _ => rfl⟩
  have F61 := fun_mk (st := s_l_what_like) l61 c61 k61
  have D_l_what_like : Def l.prog w K mg base CX0 "_law_what_like" 2 ["script", "k", "what"] (spWhatLike K) := ⟨f61, _, ok_l_what_like F61 T D_l_draw, PySem.W.mg_of X G a61, k61, F61.binds (ps := ["script", "k", "what"]) fun _ _ _ _ _ _ us hl => match us, hl with | [_, _, _], _ => rfl⟩
  have F62 := fun_mk (st := s_l_layer_like) l62 c62 k62
  have D_l_layer_like : Def l.prog w K mg base CX0 "_law_layer_like" 5 ["script", "k", "layer"] (spLayerLike K) := ⟨f62, _, ok_l_layer_like F62 T D_l_draw D_l_what_like D_l_moves D_l_clips D_l_box, PySem.W.mg_of X G a62, k62, F62.binds (ps := ["script", "k", "layer"]) fun _ _ _ _ _ _ us hl => match us, hl with | [_, _, _], _ => rfl⟩
  have F63 := fun_mk (st := s_l_changed) l63 c63 k63
  have D_l_changed : Def l.prog w K mg base CX0 "_law_changed" 6 ["script", "k", "parts"] (spChanged K) := ⟨f63, _, ok_l_changed F63 T D_l_draw D_l_layer D_l_layer_like, PySem.W.mg_of X G a63, k63, F63.binds (ps := ["script", "k", "parts"]) fun _ _ _ _ _ _ us hl => match us, hl with | [_, _, _], _ => rfl⟩
  have F64 := fun_mk (st := s_is_rectangle) l64 c64 k64
  have D_is_rectangle : Def l.prog w K mg base CX0 "is_rectangle" 2 ["value"] (spRect) := ⟨f64, _, ok_is_rectangle F64 T D_is_whole, PySem.W.mg_of X G a64, k64, F64.binds (ps := ["value"]) fun _ _ _ _ _ _ us hl => match us, hl with | [_], _ => rfl⟩
  have F65 := fun_mk (st := s_steps_of) l65 c65 k65
  have D_steps_of : Def l.prog w K mg base CX0 "_steps_of" 1 ["rectangles"] (spStepsOf K) := ⟨f65, _, ok_steps_of F65 T, PySem.W.mg_of X G a65, k65, F65.binds (ps := ["rectangles"]) fun _ _ _ _ _ _ us hl => match us, hl with | [_], _ => rfl⟩
  have F66 := fun_mk (st := s_edges_behind) l66 c66 k66
  have D_edges_behind : Def l.prog w K mg base CX0 "_edges_behind" 1 ["steps", "passed"] (spBehind) := ⟨f66, _, ok_edges_behind F66 T, PySem.W.mg_of X G a66, k66, F66.binds (ps := ["steps", "passed"]) fun _ _ _ _ _ _ us hl => match us, hl with | [_, _], _ => rfl⟩
  have F67 := fun_mk (st := s_combined_edges) l67 c67 k67
  have D_combined_edges : Def l.prog w K mg base CX0 "_combined_edges" 1 ["first", "second", "kept"] (spEdges K) := ⟨f67, _, ok_combined_edges F67 T, PySem.W.mg_of X G a67, k67, F67.binds (ps := ["first", "second", "kept"]) fun _ _ _ _ _ _ us hl => match us, hl with | [_, _, _], _ => rfl⟩
  have F68 := fun_mk (st := s_combined_steps) l68 c68 k68
  have D_combined_steps : Def l.prog w K mg base CX0 "_combined_steps" 2 ["first", "second", "kept"] (spSteps K) := ⟨f68, _, ok_combined_steps F68 T D_edges_behind D_combined_edges, PySem.W.mg_of X G a68, k68, F68.binds (ps := ["first", "second", "kept"]) fun _ _ _ _ _ _ us hl => match us, hl with | [_, _, _], _ => rfl⟩
  have F69 := fun_mk (st := s_bands_of) l69 c69 k69
  have D_bands_of : Def l.prog w K mg base CX0 "_bands_of" 1 ["steps"] (spBands K) := ⟨f69, _, ok_bands_of F69 T, PySem.W.mg_of X G a69, k69, F69.binds (ps := ["steps"]) fun _ _ _ _ _ _ us hl => match us, hl with | [_], _ => rfl⟩
  have F70 := fun_mk (st := s_rectangles_of) l70 c70 k70
  have D_rectangles_of : Def l.prog w K mg base CX0 "_rectangles_of" 2 ["steps"] (spRectsOf K) := ⟨f70, _, ok_rectangles_of F70 T D_bands_of, PySem.W.mg_of X G a70, k70, F70.binds (ps := ["steps"]) fun _ _ _ _ _ _ us hl => match us, hl with | [_], _ => rfl⟩
  have F71 := fun_mk (st := s_joined) l71 c71 k71
  have D_joined : Def l.prog w K mg base CX0 "_joined" 13 ["rectangles"] (spJoined K 10) := ⟨f71, _, ok_joined F71 T (PySem.W.mg_of X G a71) D_steps_of D_combined_steps, PySem.W.mg_of X G a71, k71, F71.binds (ps := ["rectangles"]) fun _ _ _ _ _ _ us hl => match us, hl with | [_], _ => rfl⟩
  have F72 := funT_mk (st := s_region_of) l72 c72 k72
  have D_region_of : Def l.prog w K mg base (L2.CX l.prog w) "region_of" 14 ["rectangles"] (spRegionOf K PT eZ1) := ⟨f72, _, ok_region_of F72 TB T KB_BadRectangle D_is_rectangle D_rectangles_of D_joined, PySem.W.mg_of X G a72, k72, F72.fn.binds (ps := ["rectangles"]) fun _ _ _ _ _ _ us hl => match us, hl with | [_], _ => rfl⟩
  have F73 := fun_mk (st := s_l_unlike) l73 c73 k73
  have D_l_unlike : Def l.prog w K mg base CX0 "_law_unlike" 5 ["one", "other", "frame"] (spUnlike K) := ⟨f73, _, ok_l_unlike F73 T D_l_stacks, PySem.W.mg_of X G a73, k73, F73.binds (ps := ["one", "other", "frame"]) fun _ _ _ _ _ _ us hl => match us, hl with | [_, _, _], _ => rfl⟩
  have F74 := fun_mk (st := s_stretches) l74 c74 k74
  have D_stretches : Def l.prog w K mg base CX0 "_stretches" 1 ["edges"] (spStretches K) := ⟨f74, _, ok_stretches F74 T, PySem.W.mg_of X G a74, k74, F74.binds (ps := ["edges"]) fun _ _ _ _ _ _ us hl => match us, hl with | [_], _ => rfl⟩
  have F75 := fun_mk (st := s_dirt_of) l75 c75 k75
  have D_dirt_of : Def l.prog w K mg base CX0 "dirt_of" 15 ["first", "second", "frame"] (spDirtOf K PT cO_Film eZ1) := ⟨f75, _, ok_dirt_of F75 T D_sheets_of D_stack_of D_stretches D_region_of, PySem.W.mg_of X G a75, k75, F75.binds (ps := ["first", "second", "frame"]) fun _ _ _ _ _ _ us hl => match us, hl with | [_, _, _], _ => rfl⟩
  exact ok_law (fun_mk (st := s_law) l76 c76 k76) T D_l_film D_l_changed D_l_draw D_l_made D_dirt_of D_l_unlike D_region_of MK_Film
end Od
open PySem PySem.W PyProof.Rows in
set_option maxRecDepth 100000 in
set_option maxHeartbeats 0 in
theorem PySem.Challenge.cw_onlythedirt_k46_dirt_holds : PySem.Challenge.rw_onlythedirt_k46_dirt.Holds := by
  w_on; o_law; k_head; (case hw => w_witness2)
  k_fill
  refine Od.walk_t (l := PySem.Challenge.rw_onlythedirt_k46_dirt) (n := 63) (k := 16) (x := "script") (y := "region_of") rfl (by decide) rfl ⟨rfl, by decide, by decide⟩ (by decide +kernel) (fun w h Y => PySem.W.km_in_of Y) ?F
  case F =>
    intro w mg fa h KX G hmg
    refine' Od.all_mk KX G hmg ?aO_Film ?pg_Film ?hd_Film ?po_Film ?sa_Film ?mk_Film ?kc_Film ?n0_Film ?n1_Film ?n2_Film ?n3_Film ?n4_Film ?a0 ?l0 ?c0 ?k0 ?a1 ?l1 ?c1 ?k1 ?a2 ?l2 ?c2 ?k2 ?a3 ?l3 ?c3 ?k3 ?a4 ?l4 ?c4 ?k4 ?a5 ?l5 ?c5 ?k5 ?a6 ?l6 ?c6 ?k6 ?a7 ?l7 ?c7 ?k7 ?a8 ?l8 ?c8 ?k8 ?a9 ?l9 ?c9 ?k9 ?a10 ?l10 ?c10 ?k10 ?a11 ?l11 ?c11 ?k11 ?a12 ?l12 ?c12 ?k12 ?a13 ?l13 ?c13 ?k13 ?a14 ?l14 ?c14 ?k14 ?a15 ?l15 ?c15 ?k15 ?a16 ?l16 ?c16 ?k16 ?a17 ?l17 ?c17 ?k17 ?a18 ?l18 ?c18 ?k18 ?a19 ?l19 ?c19 ?k19 ?a20 ?l20 ?c20 ?k20 ?a21 ?l21 ?c21 ?k21 ?a22 ?l22 ?c22 ?k22 ?a23 ?l23 ?c23 ?k23 ?a24 ?l24 ?c24 ?k24 ?a25 ?l25 ?c25 ?k25 ?a26 ?l26 ?c26 ?k26 ?a27 ?l27 ?c27 ?k27 ?a28 ?l28 ?c28 ?k28 ?a29 ?l29 ?c29 ?k29 ?a30 ?g30 ?t30 ?r30 ?l30 ?c30 ?k30 ?a31 ?g31 ?t31 ?r31 ?l31 ?c31 ?k31 ?a32 ?g32 ?t32 ?r32 ?l32 ?c32 ?k32 ?a33 ?g33 ?t33 ?r33 ?l33 ?c33 ?k33 ?a34 ?g34 ?t34 ?r34 ?l34 ?c34 ?k34 ?a35 ?i35 ?l35 ?c35 ?k35 ?a36 ?l36 ?c36 ?k36 ?a37 ?l37 ?c37 ?k37 ?a38 ?l38 ?c38 ?k38 ?a39 ?l39 ?c39 ?k39 ?a40 ?l40 ?c40 ?k40 ?a41 ?l41 ?c41 ?k41 ?a42 ?l42 ?c42 ?k42 ?a43 ?l43 ?c43 ?k43 ?a44 ?l44 ?c44 ?k44 ?a45 ?l45 ?c45 ?k45 ?a46 ?l46 ?c46 ?k46 ?a47 ?l47 ?c47 ?k47 ?a48 ?l48 ?c48 ?k48 ?a49 ?l49 ?c49 ?k49 ?a50 ?l50 ?c50 ?k50 ?a51 ?l51 ?c51 ?k51 ?a52 ?l52 ?c52 ?k52 ?a53 ?l53 ?c53 ?k53 ?a54 ?l54 ?c54 ?k54 ?a55 ?l55 ?c55 ?k55 ?a56 ?l56 ?c56 ?k56 ?a57 ?l57 ?c57 ?k57 ?a58 ?l58 ?c58 ?k58 ?a59 ?l59 ?c59 ?k59 ?a60 ?l60 ?c60 ?k60 ?a61 ?l61 ?c61 ?k61 ?a62 ?l62 ?c62 ?k62 ?a63 ?l63 ?c63 ?k63 ?a64 ?l64 ?c64 ?k64 ?a65 ?l65 ?c65 ?k65 ?a66 ?l66 ?c66 ?k66 ?a67 ?l67 ?c67 ?k67 ?a68 ?l68 ?c68 ?k68 ?a69 ?l69 ?c69 ?k69 ?a70 ?l70 ?c70 ?k70 ?a71 ?l71 ?c71 ?k71 ?a72 ?l72 ?c72 ?k72 ?lcT ?v11 ?ntz ?a73 ?l73 ?c73 ?k73 ?a74 ?l74 ?c74 ?k74 ?a75 ?l75 ?c75 ?k75 ?a76 ?l76 ?c76 ?k76 ?z_all ?z_bool ?z_enumerate ?z_int ?z_isinstance ?z_len ?z_list ?z_max ?z_min ?z_range ?z_reversed ?z_set ?z_sorted ?z_str ?z_tuple ?z_zip ?z_CLIPS_MOST ?z_COVER_MOST ?z_DISTANCE_MOST ?z_FRAMES_MOST ?z_LAYERS_MOST ?z_LENGTH_MOST ?z_LETTERS ?z_LEVEL_MOST ?z_MODES ?y_MODES ?z_MOVES_MOST ?z_MOVE_FRAME_MOST ?z_NAME_MOST ?z_PICTURE_SIDE_MOST ?z_PLACE_MOST ?z_SIDE_MOST ?z_START_MOST ?z_STEP_MOST ?z_VALUE_MOST ?z__EITHER ?y__EITHER ?aZ0 ?rZ0 ?gZ0 ?iZ0 ?vZ0 ?wZ0 ?lZ0 ?cZ0 ?kZ0 ?dZ0 ?aZ1 ?xZ1 ?saZ1 ?gaZ1 ?ggZ1 ?nwZ1 ?npZ1 ?iZ1 ?tZ1 ?keZ1 ?exZ1 ?tyZ1 ?hdZ1 ?icZ1 ?scZ1 ?lZ1 ?cZ1 ?kZ1 ?dZ1
    (case aO_Film => k_is)
    (case pg_Film => k_is)
    (case hd_Film => k_is)
    (case po_Film => k_is)
    (case sa_Film => k_is)
    (case mk_Film => k_is)
    (case kc_Film => k_is)
    (case n0_Film => k_is)
    (case n1_Film => k_is)
    (case n2_Film => k_is)
    (case n3_Film => k_is)
    (case n4_Film => k_is)
    (case a0 => k_is)
    (case l0 => k_is)
    (case c0 => k_is)
    (case k0 => k_is)
    (case a1 => k_is)
    (case l1 => k_is)
    (case c1 => k_is)
    (case k1 => k_is)
    (case a2 => k_is)
    (case l2 => k_is)
    (case c2 => k_is)
    (case k2 => k_is)
    (case a3 => k_is)
    (case l3 => k_is)
    (case c3 => k_is)
    (case k3 => k_is)
    (case a4 => k_is)
    (case l4 => k_is)
    (case c4 => k_is)
    (case k4 => k_is)
    (case a5 => k_is)
    (case l5 => k_is)
    (case c5 => k_is)
    (case k5 => k_is)
    (case a6 => k_is)
    (case l6 => k_is)
    (case c6 => k_is)
    (case k6 => k_is)
    (case a7 => k_is)
    (case l7 => k_is)
    (case c7 => k_is)
    (case k7 => k_is)
    (case a8 => k_is)
    (case l8 => k_is)
    (case c8 => k_is)
    (case k8 => k_is)
    (case a9 => k_is)
    (case l9 => k_is)
    (case c9 => k_is)
    (case k9 => k_is)
    (case a10 => k_is)
    (case l10 => k_is)
    (case c10 => k_is)
    (case k10 => k_is)
    (case a11 => k_is)
    (case l11 => k_is)
    (case c11 => k_is)
    (case k11 => k_is)
    (case a12 => k_is)
    (case l12 => k_is)
    (case c12 => k_is)
    (case k12 => k_is)
    (case a13 => k_is)
    (case l13 => k_is)
    (case c13 => k_is)
    (case k13 => k_is)
    (case a14 => k_is)
    (case l14 => k_is)
    (case c14 => k_is)
    (case k14 => k_is)
    (case a15 => k_is)
    (case l15 => k_is)
    (case c15 => k_is)
    (case k15 => k_is)
    (case a16 => k_is)
    (case l16 => k_is)
    (case c16 => k_is)
    (case k16 => k_is)
    (case a17 => k_is)
    (case l17 => k_is)
    (case c17 => k_is)
    (case k17 => k_is)
    (case a18 => k_is)
    (case l18 => k_is)
    (case c18 => k_is)
    (case k18 => k_is)
    (case a19 => k_is)
    (case l19 => k_is)
    (case c19 => k_is)
    (case k19 => k_is)
    (case a20 => k_is)
    (case l20 => k_is)
    (case c20 => k_is)
    (case k20 => k_is)
    (case a21 => k_is)
    (case l21 => k_is)
    (case c21 => k_is)
    (case k21 => k_is)
    (case a22 => k_is)
    (case l22 => k_is)
    (case c22 => k_is)
    (case k22 => k_is)
    (case a23 => k_is)
    (case l23 => k_is)
    (case c23 => k_is)
    (case k23 => k_is)
    (case a24 => k_is)
    (case l24 => k_is)
    (case c24 => k_is)
    (case k24 => k_is)
    (case a25 => k_is)
    (case l25 => k_is)
    (case c25 => k_is)
    (case k25 => k_is)
    (case a26 => k_is)
    (case l26 => k_is)
    (case c26 => k_is)
    (case k26 => k_is)
    (case a27 => k_is)
    (case l27 => k_is)
    (case c27 => k_is)
    (case k27 => k_is)
    (case a28 => k_is)
    (case l28 => k_is)
    (case c28 => k_is)
    (case k28 => k_is)
    (case a29 => k_is)
    (case l29 => k_is)
    (case c29 => k_is)
    (case k29 => k_is)
    (case a30 => k_is)
    (case g30 => k_is)
    (case t30 => k_is)
    (case r30 => k_is)
    (case l30 => k_is)
    (case c30 => k_is)
    (case k30 => k_is)
    (case a31 => k_is)
    (case g31 => k_is)
    (case t31 => k_is)
    (case r31 => k_is)
    (case l31 => k_is)
    (case c31 => k_is)
    (case k31 => k_is)
    (case a32 => k_is)
    (case g32 => k_is)
    (case t32 => k_is)
    (case r32 => k_is)
    (case l32 => k_is)
    (case c32 => k_is)
    (case k32 => k_is)
    (case a33 => k_is)
    (case g33 => k_is)
    (case t33 => k_is)
    (case r33 => k_is)
    (case l33 => k_is)
    (case c33 => k_is)
    (case k33 => k_is)
    (case a34 => k_is)
    (case g34 => k_is)
    (case t34 => k_is)
    (case r34 => k_is)
    (case l34 => k_is)
    (case c34 => k_is)
    (case k34 => k_is)
    (case a35 => k_is)
    (case i35 => k_is)
    (case l35 => k_is)
    (case c35 => k_is)
    (case k35 => k_is)
    (case a36 => k_is)
    (case l36 => k_is)
    (case c36 => k_is)
    (case k36 => k_is)
    (case a37 => k_is)
    (case l37 => k_is)
    (case c37 => k_is)
    (case k37 => k_is)
    (case a38 => k_is)
    (case l38 => k_is)
    (case c38 => k_is)
    (case k38 => k_is)
    (case a39 => k_is)
    (case l39 => k_is)
    (case c39 => k_is)
    (case k39 => k_is)
    (case a40 => k_is)
    (case l40 => k_is)
    (case c40 => k_is)
    (case k40 => k_is)
    (case a41 => k_is)
    (case l41 => k_is)
    (case c41 => k_is)
    (case k41 => k_is)
    (case a42 => k_is)
    (case l42 => k_is)
    (case c42 => k_is)
    (case k42 => k_is)
    (case a43 => k_is)
    (case l43 => k_is)
    (case c43 => k_is)
    (case k43 => k_is)
    (case a44 => k_is)
    (case l44 => k_is)
    (case c44 => k_is)
    (case k44 => k_is)
    (case a45 => k_is)
    (case l45 => k_is)
    (case c45 => k_is)
    (case k45 => k_is)
    (case a46 => k_is)
    (case l46 => k_is)
    (case c46 => k_is)
    (case k46 => k_is)
    (case a47 => k_is)
    (case l47 => k_is)
    (case c47 => k_is)
    (case k47 => k_is)
    (case a48 => k_is)
    (case l48 => k_is)
    (case c48 => k_is)
    (case k48 => k_is)
    (case a49 => k_is)
    (case l49 => k_is)
    (case c49 => k_is)
    (case k49 => k_is)
    (case a50 => k_is)
    (case l50 => k_is)
    (case c50 => k_is)
    (case k50 => k_is)
    (case a51 => k_is)
    (case l51 => k_is)
    (case c51 => k_is)
    (case k51 => k_is)
    (case a52 => k_is)
    (case l52 => k_is)
    (case c52 => k_is)
    (case k52 => k_is)
    (case a53 => k_is)
    (case l53 => k_is)
    (case c53 => k_is)
    (case k53 => k_is)
    (case a54 => k_is)
    (case l54 => k_is)
    (case c54 => k_is)
    (case k54 => k_is)
    (case a55 => k_is)
    (case l55 => k_is)
    (case c55 => k_is)
    (case k55 => k_is)
    (case a56 => k_is)
    (case l56 => k_is)
    (case c56 => k_is)
    (case k56 => k_is)
    (case a57 => k_is)
    (case l57 => k_is)
    (case c57 => k_is)
    (case k57 => k_is)
    (case a58 => k_is)
    (case l58 => k_is)
    (case c58 => k_is)
    (case k58 => k_is)
    (case a59 => k_is)
    (case l59 => k_is)
    (case c59 => k_is)
    (case k59 => k_is)
    (case a60 => k_is)
    (case l60 => k_is)
    (case c60 => k_is)
    (case k60 => k_is)
    (case a61 => k_is)
    (case l61 => k_is)
    (case c61 => k_is)
    (case k61 => k_is)
    (case a62 => k_is)
    (case l62 => k_is)
    (case c62 => k_is)
    (case k62 => k_is)
    (case a63 => k_is)
    (case l63 => k_is)
    (case c63 => k_is)
    (case k63 => k_is)
    (case a64 => k_is)
    (case l64 => k_is)
    (case c64 => k_is)
    (case k64 => k_is)
    (case a65 => k_is)
    (case l65 => k_is)
    (case c65 => k_is)
    (case k65 => k_is)
    (case a66 => k_is)
    (case l66 => k_is)
    (case c66 => k_is)
    (case k66 => k_is)
    (case a67 => k_is)
    (case l67 => k_is)
    (case c67 => k_is)
    (case k67 => k_is)
    (case a68 => k_is)
    (case l68 => k_is)
    (case c68 => k_is)
    (case k68 => k_is)
    (case a69 => k_is)
    (case l69 => k_is)
    (case c69 => k_is)
    (case k69 => k_is)
    (case a70 => k_is)
    (case l70 => k_is)
    (case c70 => k_is)
    (case k70 => k_is)
    (case a71 => k_is)
    (case l71 => k_is)
    (case c71 => k_is)
    (case k71 => k_is)
    (case a72 => k_is)
    (case l72 => k_is)
    (case c72 => k_is)
    (case k72 => k_is)
    (case lcT => k_is)
    (case v11 => rfl)
    (case ntz => first | rfl | kernel_rfl)
    (case a73 => k_is)
    (case l73 => k_is)
    (case c73 => k_is)
    (case k73 => k_is)
    (case a74 => k_is)
    (case l74 => k_is)
    (case c74 => k_is)
    (case k74 => k_is)
    (case a75 => k_is)
    (case l75 => k_is)
    (case c75 => k_is)
    (case k75 => k_is)
    (case a76 => k_is)
    (case l76 => k_is)
    (case c76 => k_is)
    (case k76 => k_is)
    (case z_all => k_is)
    (case z_bool => k_is)
    (case z_enumerate => k_is)
    (case z_int => k_is)
    (case z_isinstance => k_is)
    (case z_len => k_is)
    (case z_list => k_is)
    (case z_max => k_is)
    (case z_min => k_is)
    (case z_range => k_is)
    (case z_reversed => k_is)
    (case z_set => k_is)
    (case z_sorted => k_is)
    (case z_str => k_is)
    (case z_tuple => k_is)
    (case z_zip => k_is)
    (case z_CLIPS_MOST => k_is)
    (case z_COVER_MOST => k_is)
    (case z_DISTANCE_MOST => k_is)
    (case z_FRAMES_MOST => k_is)
    (case z_LAYERS_MOST => k_is)
    (case z_LENGTH_MOST => k_is)
    (case z_LETTERS => k_is)
    (case z_LEVEL_MOST => k_is)
    (case z_MODES => k_is)
    (case y_MODES => k_is)
    (case z_MOVES_MOST => k_is)
    (case z_MOVE_FRAME_MOST => k_is)
    (case z_NAME_MOST => k_is)
    (case z_PICTURE_SIDE_MOST => k_is)
    (case z_PLACE_MOST => k_is)
    (case z_SIDE_MOST => k_is)
    (case z_START_MOST => k_is)
    (case z_STEP_MOST => k_is)
    (case z_VALUE_MOST => k_is)
    (case z__EITHER => k_is)
    (case y__EITHER => k_is)
    (case aZ0 => k_is)
    (case rZ0 => k_is)
    (case gZ0 => k_is)
    (case iZ0 => k_is)
    (case vZ0 => k_is)
    (case wZ0 => k_is)
    (case lZ0 => k_is)
    (case cZ0 => k_is)
    (case kZ0 => k_is)
    (case dZ0 => k_is)
    (case aZ1 => k_is)
    (case xZ1 => k_is)
    (case saZ1 => k_is)
    (case gaZ1 => k_is)
    (case ggZ1 => k_is)
    (case nwZ1 => k_is)
    (case npZ1 => k_is)
    (case iZ1 => k_is)
    (case tZ1 => k_is)
    (case keZ1 => k_is)
    (case exZ1 => k_is)
    (case tyZ1 => k_is)
    (case hdZ1 => k_is)
    (case icZ1 => k_is)
    (case scZ1 => k_is)
    (case lZ1 => k_is)
    (case cZ1 => k_is)
    (case kZ1 => k_is)
    (case dZ1 => k_is)
