import PyProof.Rows.All
import Wide.All
import OpenK.AllK
import Wide.FinOn
import HandS.ForMost
import HandS.Evl
import HandS.IsInst
import HandS.TupAny
import HandS.SortInts
import HandS.Conv
import HandS.TupLen
import HandS.TupMul
import HandS.Steps
import PyProof.ReprRoads
import PyProof.Rows.RegFStrParts
import HandS.Walk
import HandS.Iter
import HandS.ForExc
import HandS.ExcInit
import HandS.ExcOwn
import HandS.ExcField
import HandS.WordsExc
import HandS.Defaults
import HandS.ExcIs
import KE.KExcIs
import PyProof.RulesMatchSeq
import PyProof.Rows.MatchSeqLen
import PyProof.EqKinds
import PyProof.P3In
import HandS.Deep
import HandS.Property
import HandS.Comp
import HandS.TupLe
import HandS.More
import PySem.Challenge.RW_onlythedirt_k41_film_checked
set_option Elab.async false
set_option linter.all false
set_option maxRecDepth 100000
set_option maxHeartbeats 4000000
namespace Od
open PySem L2 Evl
/-- the same objects, the one at a told otherwise -/
structure Swp (P : Program) (w : World) (H' H'' : Hp) (a : Addr) (o u : HO) : Prop where
  at1 : H' a = some o
  eq : H'' = upd H' a u
  nt : ∀ xs, o ≠ .tup xs
  nf : ∀ x y, o ≠ .frz x y
  nb : ∀ ps, o ≠ .tbl ps
  nw : ∀ x, o ≠ .own x
  to : ∀ h, HOk P w H' h → ObjOk P w H'' h a u
theorem Swp.ne {P : Program} {w : World} {H' H'' : Hp} {a b : Addr} {o u x : HO} (S : Swp P w H' H'' a o u) (h : H' b = some x) (d : o ≠ x) : b ≠ a := by
  intro e
  rw [e, S.at1] at h
  exact d (Option.some.inj h)
theorem Swp.hok {P : Program} {w : World} {H' H'' : Hp} {a : Addr} {o u : HO} {h : Heap} (S : Swp P w H' H'' a o u) (k : HOk P w H' h) : HOk P w H'' h := by
  intro b x e
  by_cases hb : b = a
  · subst hb
    have e2 := e
    rw [S.eq, upd_same] at e2
    cases e2
    exact S.to h k
  · have e1 : H' b = some x := by
      rw [S.eq, upd_ne hb] at e
      exact e
    refine (k b x e1).stay (fun c v _ q => q) (fun c q => ?_) (fun c xs q => ?_)
    · rw [S.eq, upd_ne (S.ne q (S.nw _))]
      exact q
    · rw [S.eq, upd_ne (S.ne q (S.nt _))]
      exact q
theorem Swp.unR {P : Program} {w : World} {H H' H'' : Hp} {a : Addr} {o u : HO} {h h' : Heap} {fs ex : List Addr} (S : Swp P w H' H'' a o u) (k : Un fs ex H H' h h') : Un fs ex H H'' h h' := by
  refine ⟨k.keep, k.slot, fun b x q n hx => ?_, k.there, fun b xs q => ?_, fun b x y q => ?_, fun b ps q => ?_⟩
  · have e := k.free b x q n hx
    rw [S.eq, upd_ne ?_]
    · exact e
    · intro z
      rw [z, S.at1] at e
      cases e
  · have e := k.tups b xs q
    rw [S.eq, upd_ne (S.ne e (S.nt _))]
    exact e
  · have e := k.frzs b x y q
    rw [S.eq, upd_ne (S.ne e (S.nf _ _))]
    exact e
  · obtain ⟨m, e⟩ := k.tbls b ps q
    refine ⟨m, ?_⟩
    rw [S.eq, upd_ne (S.ne e (S.nb _))]
    exact e
theorem Swp.env {P : Program} {w : World} {K : PySem.W.Frag} {mg : Str → Option Value} {base : Heap} {A : Around} {outer : List Env} {s : Shared} {H H1 : Hp} {a : Addr} {o u : HO}
    (S : Swp P w H H1 a o u) (e : Env0 P w K mg base A outer s H) : Env0 P w K mg base A outer s H1 := by
  have z : ∀ b, H b = none → H1 b = none := fun b n => by
    rw [S.eq, upd_ne ?_]
    · exact n
    · intro z
      rw [z, S.at1] at n
      cases n
  exact ⟨e.frames, e.mod, fun b x q => ⟨(e.bs b x q).1, z b (e.bs b x q).2⟩, e.bsz, e.funs, fun b hb => z b (e.frf b hb), S.hok e.hok, e.bare⟩
/-- behind a call the object at a is told otherwise -/
theorem CE.swp {P : Program} {w : World} {outer : List Env} {H : Hp} {s s' : Shared} {Q : VK} {u : Value}
    (h : CE outer P w H s (fun v H' => ∃ H'' a o x, Swp P w H' H'' a o x ∧ Q v H'') u s') : CE outer P w H s Q u s' := by
  obtain ⟨v, H', h1, h2, h3, h4, h5, H'', a, o, x, S, q⟩ := h
  exact ⟨v, H'', h1, h2, S.unR h3, S.hok h4, h5, q⟩
/-- a def's promise, its answer's object told otherwise -/
theorem FnOk.out {P : Program} {w : World} {K : PySem.W.Frag} {mg : Str → Option Value} {base : Heap} {k : Nat} {f : Addr} {fd : FuncData} {ps : List Str} {sp sp' : Sp} (F : FnOk P w K mg base CX0 k f fd ps sp)
    (hl : ∀ vs H Q E, sp' vs H Q E → vs.length = ps.length)
    (h : ∀ vs H Q E, sp' vs H Q E → sp vs H (fun v H' => ∃ H'' a o x, Swp P w H' H'' a o x ∧ Q v H'') E) : FnOk P w K mg base CX0 k f fd ps sp' := by
  refine ⟨hl, fun A outer s H args us vs Q E hr he hb hv hs => ?_⟩
  refine codeAny_mono (F.run A outer s H args us vs _ E hr he hb hv (h _ _ _ _ hs)) ?_
  intro r s' q
  match r, q with
  | .ok (.ret u), q => exact CE.swp q
  | .error e, q => exact q
end Od
namespace Od
open PySem L2 Evl
def deckV (n k seed : Int) (l : Addr) (c : Int) : List V := [.int n, .int k, .int seed, .ref l, .int c]
def IsDeck (l : Addr) (xs : List V) : Prop := ∃ n k seed c, xs = deckV n k seed l c ∧ 0 ≤ n ∧ 0 ≤ k ∧ 0 ≤ seed ∧ seed < 2147483647
def deckO (a l : Addr) : HO := .ext fun h => ∃ xs, IsDeck l xs ∧ ∃ (its : List Value) (n : Nat), Vals xs its ∧ h.get? a = some { cls := .type "list", data := .seq its.toArray n }
def DeckAt (K : PySem.W.Frag) (H : Hp) (a : Addr) : Prop := ∃ (l : Addr) (ns : List Int), H a = some (deckO a l) ∧ H l = some (.lst (ns.map V.int))
theorem DeckAt.mono {K : PySem.W.Frag} {H H' : Hp} {a : Addr} (e : Ex H H') (h : DeckAt K H a) : DeckAt K H' a := by
  obtain ⟨l, ns, h1, h2⟩ := h
  exact ⟨l, ns, e _ _ h1, e _ _ h2⟩
end Od
namespace Od
open PySem L2 Evl
inductive Kn (H : Hp) : V → String → Prop
  | non : Kn H .non "NoneType"
  | bl (b : Bool) : Kn H (.bl b) "bool"
  | int (i : Int) : Kn H (.int i) "int"
  | str (x : Str) : Kn H (.str x) "str"
  | tup {a : Addr} {xs : List V} (h : H a = some (.tup xs)) : Kn H (.ref a) "tuple"
  | lst {a : Addr} {xs : List V} (h : H a = some (.lst xs)) : Kn H (.ref a) "list"
theorem Kn.mono {H H' : Hp} {v : V} {T : String} (e : Ex H H') (k : Kn H v T) : Kn H' v T := by
  cases k with
  | non => exact .non
  | bl b => exact .bl b
  | int i => exact .int i
  | str x => exact .str x
  | tup h => exact .tup (e _ _ h)
  | lst h => exact .lst (e _ _ h)
theorem Kn.ty {K : PySem.W.Frag} {H : Hp} {v : V} {T : String} (k : Kn H v T) : TyX K H v (.type T) := by
  cases k with
  | non => exact .base .non
  | bl b => exact .base (.bl b)
  | int i => exact .base (.int i)
  | str x => exact .base (.str x)
  | tup h => exact .base (.tup h)
  | lst h => exact .base (.lst h)
/-- isinstance of such a value -/
def isA (T n : String) : Bool := T == n || (T == "bool" && n == "int")
theorem kit_int {H : Hp} {v : V} {T : String} (k : Kn H v T) : kitB T "int" = some (isA T "int") := by
  cases k <;> decide +kernel
theorem kit_bool {H : Hp} {v : V} {T : String} (k : Kn H v T) : kitB T "bool" = some (isA T "bool") := by
  cases k <;> decide +kernel
theorem kit_tuple {H : Hp} {v : V} {T : String} (k : Kn H v T) : kitB T "tuple" = some (isA T "tuple") := by
  cases k <;> decide +kernel
theorem kit_str {H : Hp} {v : V} {T : String} (k : Kn H v T) : kitB T "str" = some (isA T "str") := by
  cases k <;> decide +kernel
def isI : V → Bool
  | .int _ => true
  | _ => false
theorem Kn.whole {H : Hp} {v : V} {T : String} (k : Kn H v T) : (isA T "int" && !isA T "bool") = isI v := by
  have h1 : (isA "NoneType" "int" && !isA "NoneType" "bool") = false := by decide +kernel
  have h2 : (isA "bool" "int" && !isA "bool" "bool") = false := by decide +kernel
  have h3 : (isA "int" "int" && !isA "int" "bool") = true := by decide +kernel
  have h4 : (isA "str" "int" && !isA "str" "bool") = false := by decide +kernel
  have h5 : (isA "tuple" "int" && !isA "tuple" "bool") = false := by decide +kernel
  have h6 : (isA "list" "int" && !isA "list" "bool") = false := by decide +kernel
  cases k with
  | non => exact h1
  | bl b => exact h2
  | int i => exact h3
  | str x => exact h4
  | tup h => exact h5
  | lst h => exact h6
/-- a comprehension's turn without a test -/
theorem lcY {σ : L2.St} {H : Hp} {A B : Hp → Prop} (h : A H) : tYes σ H (fun b H3 => if b = true then A H3 else B H3) := by
  show if true = true then A H else B H
  exact iteT h
/-- a def that is called: where it stands, what it promises -/
structure Def (P : Program) (w : World) (K : PySem.W.Frag) (mg : Str → Option Value) (base : Heap) (CX : CXT) (x : Str) (k : Nat) (ps : List Str) (sp : Sp) where
  f : Addr
  fd : FuncData
  ok : FnOk P w K mg base CX k f fd ps sp
  mgf : mg x = some (.ref f)
  kp : PySem.W.keepIn K (.ref f) = true
  b : L2.Binds K fd ps []
end Od
namespace Od
open PySem L2 Evl
theorem bt_isinstance : bootBuiltins "isinstance" = some (.builtin "isinstance") := by decide +kernel
theorem bt_all : bootBuiltins "all" = some (.builtin "all") := by decide +kernel
theorem bt_repr : bootBuiltins "repr" = some (.builtin "repr") := by decide +kernel
theorem bt_int : bootBuiltins "int" = some (.type "int") := by decide +kernel
theorem bt_bool : bootBuiltins "bool" = some (.type "bool") := by decide +kernel
theorem bt_tuple : bootBuiltins "tuple" = some (.type "tuple") := by decide +kernel
theorem bt_list : bootBuiltins "list" = some (.type "list") := by decide +kernel
theorem bt_str : bootBuiltins "str" = some (.type "str") := by decide +kernel
theorem pickV {xs : List V} {i : Int} (h0 : 0 ≤ i) (h1 : i < xs.length) : ∃ v, v ∈ xs ∧ atI xs i = some v := by
  obtain ⟨m, rfl⟩ := Int.eq_ofNat_of_zero_le h0
  have hm : m < xs.length := by omega
  exact ⟨xs[m], List.getElem_mem hm, atI_nat (List.getElem?_eq_getElem hm)⟩
theorem pickI {ns : List Int} {i : Int} (h0 : 0 ≤ i) (h1 : i < ns.length) : ∃ w, w ∈ ns ∧ atI (ns.map V.int) i = some (.int w) := by
  obtain ⟨m, rfl⟩ := Int.eq_ofNat_of_zero_le h0
  have hm : m < ns.length := by omega
  exact ⟨ns[m], List.getElem_mem hm, atI_nat (by rw [List.getElem?_map, List.getElem?_eq_getElem hm]; rfl)⟩
theorem ex_free {H H' : Hp} {p : Addr} (e : Ex H H') (h : H' p = none) : H p = none := fresh_back e h
theorem cutV_whole {xs : List V} {lo hi : Option Int} (h : HT.sIx xs.length 0 lo = 0 ∧ HT.sIx xs.length xs.length hi = xs.length) : cutV xs lo hi = xs := by
  unfold cutV
  rw [h.1, h.2]
  simp
structure RSlS (K : PySem.W.Frag) (x : V) (lo hi : Option Int) (H : Hp) (Q : VK) : Prop where
  h : rSlA K x lo hi H Q
structure RCatS (K : PySem.W.Frag) (x y : V) (H : Hp) (Q : VK) : Prop where
  h : rCatA K x y H Q
theorem slA {K : PySem.W.Frag} {H : Hp} {a : Addr} {xs : List V} {lo hi : Option Int} {Q : VK} (h : H a = some (.tup xs)) (q : ∀ p H', Ex H H' → H' p = some (.tup (cutV xs lo hi)) → Q (.ref p) H') : RSlS K (.ref a) lo hi H Q := by
  refine .mk ?_
  refine ⟨a, xs, rfl, SqT.of h, fun hw => ?_, fun _ p hp => q p _ (Ex.new hp) upd_same⟩
  refine q a H (Ex.refl _) ?_
  rw [cutV_whole hw]
  exact h
theorem catA {K : PySem.W.Frag} {H : Hp} {a b : Addr} {xs ys : List V} {Q : VK} (h : H a = some (.tup xs)) (h' : H b = some (.tup ys)) (hl : xs.length + ys.length ≤ sizeLine) (q : ∀ p H', Ex H H' → H' p = some (.tup (xs ++ ys)) → Q (.ref p) H') : RCatS K (.ref a) (.ref b) H Q := by
  refine .mk ?_
  refine ⟨a, b, xs, ys, rfl, rfl, SqT.of h, SqT.of h', hl, fun e => ?_, fun _ e => ?_, fun _ _ p hp => q p _ (Ex.new hp) upd_same⟩
  · refine q b H (Ex.refl _) ?_
    rw [e]
    exact h'
  · refine q a H (Ex.refl _) ?_
    rw [e, List.append_nil]
    exact h
end Od
namespace Od
open PySem L2 Evl
section
variable {X : Cx} (K : PySem.W.Frag)
theorem kisi (h : X.K = K := by rfl) : CallR X (.builtin "isinstance") (rIsi K) := by
  subst h
  exact call_isi
theorem kixL (h : X.K = K := by rfl) : IxR X (rIxL K) := by
  subst h
  exact ix_list
theorem kixT (h : X.K = K := by rfl) : IxR X (rIxT K) := by
  subst h
  exact ix_tup
theorem kixS (h : X.K = K := by rfl) : IxR X (rIx K) := by
  subst h
  exact ix_seq
theorem kslL (h : X.K = K := by rfl) : SlR X (rSlL K) := by
  subst h
  exact sl_list
theorem kslA (h : X.K = K := by rfl) : SlR X (RSlS K) := by
  subst h
  exact fun pins s σ H x v vl vu lo hi sl Q I r hs pl pu q => sl_tupA pins s σ H x v vl vu lo hi sl Q I r hs pl pu q.h
theorem kcatA (h : X.K = K := by rfl) : OpR X (binaryOp .Add) (RCatS K) := by
  subst h
  exact fun pins s σ H x y v u Q I rx ry q => op_catA pins s σ H x y v u Q I rx ry q.h
theorem keqD (hu : X.A.units + 64 < cLine) (h : X.K = K := by rfl) : OpR X (compareOp .Eq) (rEqD K) := by
  subst h
  exact op_eqD hu
theorem kneD (hu : X.A.units + 64 < cLine) (h : X.K = K := by rfl) : OpR X (compareOp .NotEq) (rNeD K) := by
  subst h
  exact op_neD hu
theorem kin (h : X.K = K := by rfl) : OpR X (compareOp .In) (rIn K false) := by
  subst h
  exact op_in_seq
theorem klen (h : X.K = K := by rfl) : CallR X (.builtin "len") (rLenS K) := by
  subst h
  exact call_len_seq
theorem klist (h : X.K = K := by rfl) : CallR X (.type "list") (rListS K) := by
  subst h
  exact call_list_of
def rTupS (K : PySem.W.Frag) : List V → Hp → VK → Prop := fun xs H Q => ∃ p ys, xs = [.ref p] ∧ ((SqL K H p ys ∧ ∀ l, H l = none → Q (.ref l) (upd H l (.tup ys))) ∨ (SqT K H p ys ∧ Q (.ref p) H))
theorem ktuple (h : X.K = K := by rfl) : CallR X (.type "tuple") (rTupS K) := by
  subst h
  exact call_tuple_of
theorem kall (hc : X.calm = true) (h : X.K = K := by rfl) : CallR X (.builtin "all") (rAll K) := by
  subst h
  exact cr_all hc
variable {tg : Expr}
theorem kpiL {l : Expr} {tl : TE} (hl : PE X l tl) (h : X.K = K := by rfl) : PI X tg l (iList K tl) := by
  subst h
  exact pi_list hl
theorem kpiT {l : Expr} {tl : TE} (hl : PE X l tl) (h : X.K = K := by rfl) : PI X tg l (iTup K tl) := by
  subst h
  exact pi_tup hl
theorem kpgT {es : List Expr} {k : Nat} {t : TGs} {n : Nat} {pos : Pos} (hc : X.calm = true) (hh : PGs X es t) (hn : (assignEach es X.env).length = n := by rfl) (hst : (assignEach es X.env).findIdx? (·.1) = none := by rfl) (h : X.K = K := by rfl) : PG X (.Tuple es k pos) (gTup K n t) := by
  subst h
  exact pg_tup hc hh hn hst
end
end Od
namespace Od
open PySem L2 Evl
def TK (H H' : Hp) : Prop := ∀ a xs, H a = some (.tup xs) → H' a = some (.tup xs)
theorem TK.refl (H : Hp) : TK H H := fun _ _ h => h
theorem TK.trans {H H1 H2 : Hp} (a : TK H H1) (b : TK H1 H2) : TK H H2 := fun x o h => b x o (a x o h)
theorem TK.ex {H H' : Hp} (e : Ex H H') : TK H H' := fun a xs h => e a _ h
theorem TK.lst {H : Hp} {p : Addr} {xs : List V} {o : HO} (h : H p = some (.lst xs)) : TK H (upd H p o) := fun a ys h' => by
  rw [upd_ne]
  · exact h'
  · intro e
    rw [e, h] at h'
    cases h'
theorem TK.dT {H : Hp} {p : Addr} {xs : List (List Key × V)} {o : HO} (h : H p = some (.dT xs)) : TK H (upd H p o) := fun a ys h' => by
  rw [upd_ne]
  · exact h'
  · intro e
    rw [e, h] at h'
    cases h'
theorem TK.fresh {H : Hp} {p : Addr} {o : HO} (h : H p = none) : TK H (upd H p o) := TK.ex (Ex.new h)
abbrev Pt := Int × Int
structure Rc where
  l : Int
  t : Int
  r : Int
  b : Int
  deriving DecidableEq
def PtV (H : Hp) (v : V) (q : Pt) : Prop := ∃ p, v = .ref p ∧ H p = some (.tup [.int q.1, .int q.2])
def RcV (H : Hp) (v : V) (q : Rc) : Prop := ∃ p, v = .ref p ∧ H p = some (.tup [.int q.l, .int q.t, .int q.r, .int q.b])
theorem PtV.tk {H H' : Hp} {v : V} {q : Pt} (e : TK H H') (h : PtV H v q) : PtV H' v q := by
  obtain ⟨p, rfl, h⟩ := h
  exact ⟨p, rfl, e _ _ h⟩
theorem RcV.tk {H H' : Hp} {v : V} {q : Rc} (e : TK H H') (h : RcV H v q) : RcV H' v q := by
  obtain ⟨p, rfl, h⟩ := h
  exact ⟨p, rfl, e _ _ h⟩
abbrev RcsV (H : Hp) : List V → List Rc → Prop := Paired (RcV H)
abbrev PtsV (H : Hp) : List V → List Pt → Prop := Paired (PtV H)
theorem RcsV.tk {H H' : Hp} {vs : List V} {qs : List Rc} (e : TK H H') (h : RcsV H vs qs) : RcsV H' vs qs := Paired.mapP h fun _ _ => RcV.tk e
theorem PtsV.tk {H H' : Hp} {vs : List V} {qs : List Pt} (e : TK H H') (h : PtsV H vs qs) : PtsV H' vs qs := Paired.mapP h fun _ _ => PtV.tk e
theorem pr_get {α β : Type} {G : α → β → Prop} : ∀ {l₁ : List α} {l₂ : List β}, Paired G l₁ l₂ → ∀ {i : Nat} {a : α}, l₁[i]? = some a → ∃ b, l₂[i]? = some b ∧ G a b
  | _, _, .nil, i, a, h => by simp at h
  | _, _, .cons r t, 0, a, h => by
    simp at h
    subst h
    exact ⟨_, rfl, r⟩
  | _, _, .cons r t, i + 1, a, h => by
    obtain ⟨b, h1, h2⟩ := pr_get t (i := i) (a := a) (by simpa using h)
    exact ⟨b, by simpa using h1, h2⟩
theorem pr_append {α β : Type} {G : α → β → Prop} : ∀ {l₁ k₁ : List α} {l₂ k₂ : List β}, Paired G l₁ l₂ → Paired G k₁ k₂ → Paired G (l₁ ++ k₁) (l₂ ++ k₂)
  | _, _, _, _, .nil, h => h
  | _, _, _, _, .cons r t, h => .cons r (pr_append t h)
/-- the bounds of drawn rectangles -/
def Small (m : Int) (q : Rc) : Prop := q.l < q.r ∧ q.t < q.b ∧ q.r - q.l ≤ 50 ∧ q.b - q.t ≤ 50 ∧ -m ≤ q.l ∧ q.r ≤ m ∧ -m ≤ q.t ∧ q.b ≤ m
theorem Small.mono {m n : Int} {q : Rc} (h : Small m q) (e : m ≤ n) : Small n q := by
  obtain ⟨a, b, c, d, e1, e2, e3, e4⟩ := h
  refine ⟨a, b, c, d, ?_, ?_, ?_, ?_⟩ <;> omega
theorem slineL {n : Nat} (h : n < 1000000) : n < sizeLine := Nat.lt_of_lt_of_le h (by decide)
end Od
namespace Od
open PySem L2 Evl
def ptK (q : Pt) : List Key := [.inl q.1, .inl q.2]
def mkd (pts : List Pt) : List (List Key × V) := pts.map fun q => (ptK q, V.bl true)
def inRc (q : Rc) (x y : Int) : Prop := q.l ≤ x ∧ x < q.r ∧ q.t ≤ y ∧ y < q.b
end Od
namespace Od
def RunsFrom : Int → List Pt → Prop
  | _, [] => True
  | b, q :: t => b < q.1 ∧ q.1 < q.2 ∧ RunsFrom q.2 t
def inRuns (rs : List Pt) (x : Int) : Prop := ∃ q ∈ rs, q.1 ≤ x ∧ x < q.2
theorem RunsFrom.mono {b c : Int} {rs : List Pt} (h : RunsFrom b rs) (e : c ≤ b) : RunsFrom c rs := by
  cases rs with
  | nil => trivial
  | cons q t => exact ⟨by have := h.1; omega, h.2.1, h.2.2⟩
theorem inRuns_cons {q : Pt} {t : List Pt} {x : Int} : inRuns (q :: t) x ↔ (q.1 ≤ x ∧ x < q.2) ∨ inRuns t x := by
  constructor
  · rintro ⟨p, hp, h⟩
    rcases List.mem_cons.mp hp with rfl | hp
    · exact .inl h
    · exact .inr ⟨p, hp, h⟩
  · rintro (h | ⟨p, hp, h⟩)
    · exact ⟨q, by simp, h⟩
    · exact ⟨p, by simp [hp], h⟩
theorem RunsFrom.some {b : Int} {q : Pt} {t : List Pt} (h : RunsFrom b (q :: t)) : inRuns (q :: t) q.1 := inRuns_cons.mpr (.inl ⟨by omega, h.2.1⟩)
def RunsOk (rs : List Pt) : Prop := ∃ b, RunsFrom b rs
structure Bd where
  t : Int
  b : Int
  rs : List Pt
  deriving DecidableEq
def BandsFrom : Int → List Pt → List Bd → Prop
  | _, _, [] => True
  | y, prev, d :: t => y ≤ d.t ∧ (y = d.t → prev ≠ d.rs) ∧ d.t < d.b ∧ d.rs ≠ [] ∧ RunsOk d.rs ∧ BandsFrom d.b d.rs t
def inBands (bs : List Bd) (x y : Int) : Prop := ∃ d ∈ bs, d.t ≤ y ∧ y < d.b ∧ inRuns d.rs x
theorem inBands_nil {x y : Int} : ¬ inBands [] x y := fun ⟨_, h, _⟩ => by simp at h
theorem inBands_cons {d : Bd} {t : List Bd} {x y : Int} : inBands (d :: t) x y ↔ (d.t ≤ y ∧ y < d.b ∧ inRuns d.rs x) ∨ inBands t x y := by
  constructor
  · rintro ⟨p, hp, h⟩
    rcases List.mem_cons.mp hp with rfl | hp
    · exact .inl h
    · exact .inr ⟨p, hp, h⟩
  · rintro (h | ⟨p, hp, h⟩)
    · exact ⟨d, by simp, h⟩
    · exact ⟨p, by simp [hp], h⟩
theorem BandsFrom.le : ∀ {bs : List Bd} {y : Int} {p : List Pt} {x y' : Int}, BandsFrom y p bs → inBands bs x y' → y ≤ y'
  | [], _, _, _, _, _, h => absurd h inBands_nil
  | d :: t, y, p, x, y', h, k => by
    rcases inBands_cons.mp k with z | z
    · have := h.1
      omega
    · have := BandsFrom.le h.2.2.2.2.2 z
      have := h.1
      have := h.2.2.1
      omega
theorem BandsFrom.mono {bs : List Bd} {y y' : Int} (h : BandsFrom y [] bs) (e : y' ≤ y) : BandsFrom y' [] bs := by
  cases bs with
  | nil => trivial
  | cons d t => exact ⟨by have := h.1; omega, fun _ => fun z => h.2.2.2.1 z.symm, h.2.2⟩
/-- the rows of the first band, the rows behind it -/
theorem BandsFrom.row {d : Bd} {t : List Bd} {y : Int} {p : List Pt} (h : BandsFrom y p (d :: t)) {x y' : Int} (h1 : d.t ≤ y') (h2 : y' < d.b) : inBands (d :: t) x y' ↔ inRuns d.rs x := by
  rw [inBands_cons]
  constructor
  · rintro (z | z)
    · exact z.2.2
    · have := BandsFrom.le h.2.2.2.2.2 z
      omega
  · exact fun z => .inl ⟨h1, h2, z⟩
def bandRc (d : Bd) : List Rc := d.rs.map fun q => ⟨q.1, d.t, q.2, d.b⟩
def formOf (bs : List Bd) : List Rc := bs.flatMap bandRc
def IsForm (S : Int → Int → Prop) (f : List Rc) : Prop := ∃ y bs, BandsFrom y [] bs ∧ (∀ x y', inBands bs x y' ↔ S x y') ∧ f = formOf bs
theorem mem_form {bs : List Bd} {x y : Int} : inBands bs x y ↔ ∃ q ∈ formOf bs, inRc q x y := by
  constructor
  · rintro ⟨d, hd, h1, h2, q, hq, h3, h4⟩
    exact ⟨⟨q.1, d.t, q.2, d.b⟩, List.mem_flatMap.mpr ⟨d, hd, List.mem_map.mpr ⟨q, hq, rfl⟩⟩, h3, h4, h1, h2⟩
  · rintro ⟨r, hr, h1, h2, h3, h4⟩
    obtain ⟨d, hd, hr⟩ := List.mem_flatMap.mp hr
    obtain ⟨q, hq, rfl⟩ := List.mem_map.mp hr
    exact ⟨d, hd, h3, h4, q, hq, h1, h2⟩
theorem IsForm.mem {S : Int → Int → Prop} {f : List Rc} (h : IsForm S f) (x y : Int) : S x y ↔ ∃ q ∈ f, inRc q x y := by
  obtain ⟨_, bs, _, h2, rfl⟩ := h
  rw [← h2, mem_form]
end Od
namespace Od
open PySem L2 Evl
def intD (ns : List Int) : PyData := .tuple (ns.map PyData.int)
def Eqs (α : Type) [DecidableEq α] (f : α → PyData) (d : Nat) : Prop := (∀ x y, PyData.eqv (f x) (f y) = decide (x = y)) ∧ (∀ x, (f x).canLay0 = true) ∧ ∀ x, (f x).depth ≤ d
theorem eqvAll_map {α : Type} [DecidableEq α] {f : α → PyData} (h : ∀ x y, PyData.eqv (f x) (f y) = decide (x = y)) : ∀ xs ys : List α, PyData.eqvAll (xs.map f) (ys.map f) = decide (xs = ys)
  | [], [] => by simp [PyData.eqvAll]
  | [], y :: ys => by simp [PyData.eqvAll]
  | x :: xs, [] => by simp [PyData.eqvAll]
  | x :: xs, y :: ys => by
    rw [List.map_cons, List.map_cons, PyData.eqvAll, h, eqvAll_map h xs ys]
    by_cases e : x = y <;> by_cases e2 : xs = ys <;> simp [e, e2]
theorem canLay_map {α : Type} {f : α → PyData} (h : ∀ x, (f x).canLay0 = true) : ∀ xs : List α, PyData.canLayAll0 (xs.map f) = true
  | [] => by simp [PyData.canLayAll0]
  | x :: xs => by
    rw [List.map_cons, PyData.canLayAll0, h, canLay_map h xs]
    rfl
theorem depth_map {α : Type} {f : α → PyData} {d : Nat} (h : ∀ x, (f x).depth ≤ d) : ∀ xs : List α, PyData.depthAll (xs.map f) ≤ d
  | [] => by simp [PyData.depthAll]
  | x :: xs => by
    rw [List.map_cons, PyData.depthAll]
    exact Nat.max_le.mpr ⟨h x, depth_map h xs⟩
theorem eqs_int : Eqs Int PyData.int 0 := ⟨fun x y => by rw [PyData.eqv]; by_cases e : x = y <;> simp [e], fun x => by simp [PyData.canLay0], fun x => by simp [PyData.depth]⟩
theorem Eqs.lst {α : Type} [DecidableEq α] {f : α → PyData} {d : Nat} (h : Eqs α f d) : Eqs (List α) (fun xs => .list (xs.map f)) (d + 1) :=
  ⟨fun x y => by rw [PyData.eqv, eqvAll_map h.1], fun x => by simp only [PyData.canLay0]; exact canLay_map h.2.1 x, fun x => by simp only [PyData.depth]; have := depth_map h.2.2 x; omega⟩
theorem Eqs.tup {α : Type} [DecidableEq α] {f : α → PyData} {d : Nat} (h : Eqs α f d) : Eqs (List α) (fun xs => .tuple (xs.map f)) (d + 1) :=
  ⟨fun x y => by rw [PyData.eqv, eqvAll_map h.1], fun x => by simp only [PyData.canLay0]; exact canLay_map h.2.1 x, fun x => by simp only [PyData.depth]; have := depth_map h.2.2 x; omega⟩
theorem Eqs.shaped {α : Type} [DecidableEq α] {f : α → PyData} {d : Nat} (h : Eqs α f d) (hd : d ≤ 64) (x : α) : SeqAt.shaped (f x) = true := by
  unfold SeqAt.shaped
  rw [h.2.1 x, decide_eq_true (Nat.le_trans (h.2.2 x) hd)]
  rfl
def ptD (q : Pt) : PyData := intD [q.1, q.2]
def rcD (q : Rc) : PyData := intD [q.l, q.t, q.r, q.b]
theorem dp_ints {K : PySem.W.Frag} {H : Hp} : ∀ ns : List Int, DpAll K H (ns.map V.int) (ns.map PyData.int)
  | [] => .nil
  | n :: ns => .cons (.int n) (dp_ints ns)
theorem dp_tup {K : PySem.W.Frag} {H : Hp} {a : Addr} {ns : List Int} (h : H a = some (.tup (ns.map V.int))) : Dp K H (.ref a) (intD ns) := .tup (SqT.of h) (dp_ints ns)
theorem PtV.dp {K : PySem.W.Frag} {H : Hp} {v : V} {q : Pt} (h : PtV H v q) : Dp K H v (ptD q) := by
  obtain ⟨p, rfl, h⟩ := h
  exact dp_tup (ns := [q.1, q.2]) h
theorem RcV.dp {K : PySem.W.Frag} {H : Hp} {v : V} {q : Rc} (h : RcV H v q) : Dp K H v (rcD q) := by
  obtain ⟨p, rfl, h⟩ := h
  exact dp_tup (ns := [q.l, q.t, q.r, q.b]) h
theorem dp_all {α : Type} {K : PySem.W.Frag} {H : Hp} {G : V → α → Prop} {f : α → PyData} (h : ∀ v x, G v x → Dp K H v (f x)) : ∀ {vs : List V} {xs : List α}, Paired G vs xs → DpAll K H vs (xs.map f)
  | _, _, .nil => .nil
  | _, _, .cons r t => .cons (h _ _ r) (dp_all h t)
theorem RunsOk.nil : RunsOk [] := ⟨0, trivial⟩
end Od
namespace Od
open PySem L2 Evl
def BdV (pb : Addr) (H : Hp) (v : V) (d : Bd) : Prop := ∃ q r us, v = .ref q ∧ q ≠ pb ∧ r ≠ pb ∧ H q = some (.tup [.int d.t, .int d.b, .ref r]) ∧ H r = some (.lst us) ∧ PtsV H us d.rs
def Xb (pb : Addr) (H H' : Hp) : Prop := ∀ a o, a ≠ pb → H a = some o → H' a = some o
theorem BdV.to {pb : Addr} {H H' : Hp} {v : V} {d : Bd} (k : TK H H') (x : Xb pb H H') (h : BdV pb H v d) : BdV pb H' v d := by
  obtain ⟨q, r, us, rfl, nq, nr, h1, h2, h3⟩ := h
  exact ⟨q, r, us, rfl, nq, nr, x _ _ nq h1, x _ _ nr h2, h3.tk k⟩
theorem Xb.ex {pb : Addr} {H H' : Hp} (e : Ex H H') : Xb pb H H' := fun a o _ h => e a o h
theorem Xb.trans {pb : Addr} {H H1 H2 : Hp} (a : Xb pb H H1) (b : Xb pb H1 H2) : Xb pb H H2 := fun x o n h => b x o n (a x o n h)
def SrcAt (K : PySem.W.Frag) (H : Hp) (d : Addr) (pts : List Pt) : Prop := H d = some (.dT (mkd pts)) ∨ ∃ us, SqL K H d us ∧ PtsV H us pts
theorem SrcAt.mono {K : PySem.W.Frag} {H H' : Hp} {d : Addr} {pts : List Pt} (e : Ex H H') (h : SrcAt K H d pts) : SrcAt K H' d pts := by
  rcases h with h | ⟨us, h1, h2⟩
  · exact .inl (e _ _ h)
  · exact .inr ⟨us, ex_l e h1, h2.tk (TK.ex e)⟩
end Od
namespace Od
open PySem L2 Evl
mutual
inductive Da (H : Hp) : V → PyData → Prop
  | non : Da H .non .none
  | bl (b : Bool) : Da H (.bl b) (.bool b)
  | int (i : Int) : Da H (.int i) (.int i)
  | str (x : Str) : Da H (.str x) (.str x)
  | lst {a : Addr} {xs : List V} {ds : List PyData} : H a = some (.lst xs) → DaAll H xs ds → ds.length ≤ 1000000 → Da H (.ref a) (.list ds)
  | tup {a : Addr} {xs : List V} {ds : List PyData} : H a = some (.tup xs) → DaAll H xs ds → ds.length ≤ 1000000 → Da H (.ref a) (.tuple ds)
inductive DaAll (H : Hp) : List V → List PyData → Prop
  | nil : DaAll H [] []
  | cons {v : V} {vs : List V} {d : PyData} {ds : List PyData} : Da H v d → DaAll H vs ds → DaAll H (v :: vs) (d :: ds)
end
mutual
theorem Da.mono {H H' : Hp} (e : Ex H H') : ∀ {v : V} {d : PyData}, Da H v d → Da H' v d
  | _, _, .non => .non
  | _, _, .bl b => .bl b
  | _, _, .int i => .int i
  | _, _, .str x => .str x
  | _, _, .lst h k l => .lst (e _ _ h) (DaAll.mono e k) l
  | _, _, .tup h k l => .tup (e _ _ h) (DaAll.mono e k) l
theorem DaAll.mono {H H' : Hp} (e : Ex H H') : ∀ {vs : List V} {ds : List PyData}, DaAll H vs ds → DaAll H' vs ds
  | _, _, .nil => .nil
  | _, _, .cons h k => .cons (Da.mono e h) (DaAll.mono e k)
end
mutual
theorem Da.dp {K : PySem.W.Frag} {H : Hp} : ∀ {v : V} {d : PyData}, Da H v d → Dp K H v d
  | _, _, .non => .non
  | _, _, .bl b => .bl b
  | _, _, .int i => .int i
  | _, _, .str x => .str x
  | _, _, .lst h k _ => .lst (SqL.of h) (DaAll.dp k)
  | _, _, .tup h k _ => .tup (SqT.of h) (DaAll.dp k)
theorem DaAll.dp {K : PySem.W.Frag} {H : Hp} : ∀ {vs : List V} {ds : List PyData}, DaAll H vs ds → DpAll K H vs ds
  | _, _, .nil => .nil
  | _, _, .cons h k => .cons (Da.dp h) (DaAll.dp k)
end
theorem DaAll.length {H : Hp} : ∀ {vs : List V} {ds : List PyData}, DaAll H vs ds → vs.length = ds.length
  | _, _, .nil => rfl
  | _, _, .cons _ k => by rw [List.length_cons, List.length_cons, DaAll.length k]
theorem DaAll.get {H : Hp} : ∀ {vs : List V} {ds : List PyData} {i : Nat} {d : PyData}, DaAll H vs ds → ds[i]? = some d → ∃ v, vs[i]? = some v ∧ Da H v d
  | _, _, _, _, .nil, e => by simp at e
  | _, _, 0, d, .cons h k, e => by
    simp at e
    subst e
    exact ⟨_, rfl, h⟩
  | _, _, i + 1, d, .cons h k, e => by
    obtain ⟨v, h1, h2⟩ := DaAll.get (i := i) (d := d) k (by simpa using e)
    exact ⟨v, by simpa using h1, h2⟩
theorem da_ints {H : Hp} : ∀ ns : List Int, DaAll H (ns.map V.int) (ns.map PyData.int)
  | [] => .nil
  | n :: ns => .cons (.int n) (da_ints ns)
theorem eqv_self {d : PyData} (h : d.canLay0 = true) : PyData.eqv d d = true := PySem.SeqAt.eqv_refl d h
end Od
namespace Od
open PySem L2 Evl PySem.Spec PyProof.Rows
def Gd (A : Around) : Prop := A.guards = some []
theorem Gd.deeper {A : Around} (g : Gd A) (env : Env) : Gd (A.deeper env) := g
structure FnG (P : Program) (w : World) (K : PySem.W.Frag) (mg : Str → Option Value) (base : Heap) (CX : CXT) (k : Nat) (f : Addr) (fd : FuncData) (ps : List Str) (sp : Sp) : Prop where
  len : ∀ vs H Q E, sp vs H Q E → vs.length = ps.length
  run : ∀ (A : Around) (outer : List Env) (s : Shared) (H : Hp) (args : Args) (us : List Value) (vs : List V) (Q : VK) (E : XK), Gd A → Room k A → Env0 P w K mg base A outer s H →
    BindsTo s fd args (ps.zip us) → Vals vs us → sp vs H Q E → codeAny (model P w) A (.call (.ref f) args) (CR CX outer P w H s Q E) s
section
variable {CX : CXT} {P : Program} {w : World} {K : PySem.W.Frag} {mg : Str → Option Value} {base : Heap} {k : Nat} {f : Addr} {fd : FuncData} {N ps : List Str} {sp : Sp}
theorem FnG.of (F : FnOk P w K mg base CX k f fd ps sp) : FnG P w K mg base CX k f fd ps sp := ⟨F.len, fun A o s H a us vs Q E _ => F.run A o s H a us vs Q E⟩
/-- a body's walk, where no repr is under way -/
theorem Fun.okG {x qual : Str} {st : Stmt} (F : Fun K x qual st f fd) (S : FnScope N ps (defScope st)) (len : ∀ vs H Q E, sp vs H Q E → vs.length = ps.length)
    (hb : ∀ (cdv : Value) (A : Around) (outer : List Env) (s : Shared) (H : Hp) (vs : List V) (Q : VK) (E : XK), Gd (A.deeper (envOfC qual (defScope st) s.heap.objs.size f cdv)) → Room k (A.deeper (envOfC qual (defScope st) s.heap.objs.size f cdv)) → sp vs H Q E →
      ∃ t, PSs (cxOf CX0 P w K mg base N qual (defScope st) f cdv A outer s H E).nox (defBody st) t ∧ t { nx := fun _ H' => Q .non H', rt := Q } (L2.start N vs) H) : FnG P w K mg base CX0 (k + 1) f fd ps sp := by
  obtain ⟨oc, od, kV, doc, pm, an, cdv, ct, osl, rfl, lk, hcd⟩ := F.ex
  refine ⟨len, fun A o s H args us vs Q E gd rm env bnd rel prom => ?_⟩
  have eqlen := len vs H Q E prom
  have kin : K.In s.heap := env.mod.kin.keeps fun b ob e => (env.bs b ob e).1
  have nol : s.heap.NoLimit := env.mod.nolimit.keeps fun b ob e => (env.bs b ob e).1
  have places : ∀ y ∈ ps.zip us, (defScope st).names.lookup y.1 = some .local ∨ ((defScope st).names.lookup y.1 = some .cell ∧ ((cellsFrom (s.heap.objs.size + 1) (defScope st).names []).lookup y.1).isSome = true) := by
    rintro ⟨n, v⟩ hy
    rcases S.par n (List.of_mem_zip hy).1 with z | z
    · exact Or.inl z
    · exact Or.inr ⟨z, PySem.W.cellsFrom_some _ _ _ (Or.inl z)⟩
  refine codeAny_call_function rm.depth (kin _ _ lk) rfl S.co S.gen rfl (PySem.W.codeRec_of kin hcd) (bnd _ _ _ _ ?_)
  refine wpAny_newFunctionEnv_cells S.kind places fun e2 he2 s1 inC => ?_
  subst he2
  refine ⟨nol.keeps inC.toInCall.keep, codeAny_func ?_⟩
  obtain ⟨t, walk, read⟩ := hb cdv A o s H vs Q E (gd.deeper _) (rm.deeper _) prom
  have inv := inv_start (E := E) (CX := CX0) S rm.hd env eqlen rel inC
  refine wpAny_mono (walk.nox.run [] s1 _ H _ inv read) (fun fl s' done => ?_) (fun e s' done => done)
  have give : ∀ {σ' : L2.St} {H' : Hp} {v : V} {u : Value}, Inv (cxOf CX0 P w K mg base N qual (defScope st) f cdv A o s H E) [] σ' H' s' → RelV v u → Q v H' → CE o P w H s Q u s' := by
    intro σ' H' v u J rv qq
    exact ⟨v, H', J.os, J.bare, J.base, J.hok, rv, qq⟩
  match fl, done with
  | .ret u, ⟨v, σ', H', J, rv, qq⟩ => exact give J rv qq
  | .next, ⟨σ', H', J, qq⟩ => exact give (v := V.non) (u := Value.none) J rfl qq
  | .brk, ⟨_, _, _, z⟩ => exact z.elim
  | .cont, ⟨_, _, _, z⟩ => exact z.elim
end
/-- what stands in a list or tuple is data of this kind (no dict in it) -/
def rRepr (K : PySem.W.Frag) : List V → Hp → VK → Prop := fun vs H Q => ∃ a d, vs = [.ref a] ∧ Dp K H (.ref a) d ∧ d.showable = true ∧ d.hasDict = false ∧ d.depth ≤ 60 ∧ d.shown.length ≤ sizeLine ∧ Q (.str d.shown) H
theorem krepr {X : Cx} (K : PySem.W.Frag) (gd : Gd X.A) (hu : X.A.units + 64 < cLine) (h : X.K = K := by rfl) : CallR X (.builtin "repr") (rRepr K) := by
  subst h
  intro pins s σ H vs us Q I r q
  obtain ⟨a, d, rfl, hd, h1, h2, h3, h4, q⟩ := q
  obtain rfl := Vals.ref1 r
  obtain ⟨as, rd⟩ := Dp.reads I d (.ref a) (.ref a) hd rfl
  refine repr_of_reads' rd h1 (fun z => by rw [h2] at z; cases z) gd (by omega) (fun _ _ e => e) (fun h' u tk hk => ?_) h4
  exact ⟨.str d.shown, H, I.kept (t' := tk) hk, ⟨u, rfl⟩, q⟩
end Od
namespace Od
open PySem L2 Evl PySem.Spec PyProof.Rows
/-- the call of the law at fa with the script at a ends, gives True, and leaves what stood -/
def LawEnds (P : Program) (w : World) (fa a : Addr) (t : Shared) : Prop := codeAny (model P w) callerA (.call (.ref fa) ⟨[.ref a], []⟩) (fun r s' => r = .ok (.ret (.bool true)) ∧ OldK t.heap s'.heap ∧ s'.os = t.os ∧ AllBare s'.gens) t
section
variable {P : Program} {w : World} {K : PySem.W.Frag} {mg mb : Str → Option Value} {k : Nat} {fa a : Addr} {fd : FuncData} {x : Str} {sp : Sp} {s₁ : Shared} {vs : List Value} {ns : List Int}
/-- from an abstract heap in which at most the script stands -/
theorem end_core (kin : K.In s₁.heap) (hns : s₁.heap.Ns mainGlobals mg) (hb : s₁.heap.Ns builtinsNs mb) (hbb : ∀ x : Str, x ≠ "__name__" → mb x = bootBuiltins x) (nol : s₁.heap.NoLimit) (hg : s₁.gens = #[])
    (ha : s₁.heap.get? a = some { cls := .type "list", data := .seq vs.toArray }) (rm : Room k callerA)
    (F : ∀ base : Heap, K.In base → base.Ns mainGlobals mg → FnG P w K mg base CX0 k fa fd [x] sp) (bnd : ∀ (s : Shared) (u : Value), BindsTo s fd ⟨[u], []⟩ [(x, u)])
    (prom : ∀ H : Hp, Only H → SqL K H a (ns.map V.int) → sp [.ref a] H (fun v _ => v = .bl true) fun _ _ _ => False) {H : Hp}
    (only : Only H) (sq : SqL K H a (ns.map V.int)) (hok : HOk P w H s₁.heap) (alone : ∀ b, H b ≠ none → b = a) (notK : H a ≠ none → K.lookup a = none) :
    LawEnds P w fa a s₁ := by
  -- a dict is not the script
  have dictFree : ∀ {b : Addr} {o : Obj} {es : Array DictEntry} {ep : Nat}, s₁.heap.get? b = some o → o.data = .dict es ep → H b = none := by
    intro b o es ep e d
    by_cases z : H b = none
    · exact z
    · have := alone b z
      rw [this, ha] at e
      cases e
      cases (show Data.seq vs.toArray _ = Data.dict es ep from d)
  have space : ∀ {b : Addr} {m : Str → Option Value}, s₁.heap.Ns b m → (hidT s₁.heap H).Ns b m := by
    rintro b m ⟨o, es, ep, e, d, r⟩
    exact ⟨o, es, ep, hidT_get e (dictFree e d), d, r⟩
  have kinB : K.In (hidT s₁.heap H) := by
    intro b o e
    refine hidT_get (kin b o e) ?_
    by_cases z : H b = none
    · exact z
    · have q := alone b z
      subst q
      rw [notK z] at e
      cases e
  obtain ⟨mc, l1, l2⟩ := nol
  have md : Mod K mg (hidT s₁.heap H) := ⟨kinB, space hns, ⟨mb, space hb, hbb⟩, ⟨mc, space l1, l2⟩⟩
  have env : Env0 P w K mg (hidT s₁.heap H) callerA [] s₁ H := ⟨rfl, md, fun b o e => of_hidT e, Nat.le_of_eq (hidT_size _ _), trivial, fun b z => absurd z (show b ∉ ([] : List Addr) by simp), hok, .of_eq hg⟩
  refine codeAny_mono ((F _ kinB (space hns)).run callerA [] s₁ H ⟨[.ref a], []⟩ [.ref a] [.ref a] _ _ rfl rm env (bnd s₁ (.ref a)) (.cons rfl .nil) (prom H only sq)) ?_
  intro r s' out
  match r, out with
  | .ok (.ret u), ⟨v, H', os, bare, un, hok', rv, qv⟩ =>
    have ev : v = .bl true := qv
    subst ev
    obtain rfl : u = Value.bool true := rv
    refine ⟨rfl, OldK.of_keep fun b o e => ?_, os, bare⟩
    by_cases z : H b = none
    · exact un.keep b o e z (show b ∉ frs [] by intro q; exact absurd (show b ∈ ([] : List Addr) from q) (by simp)) (by simp)
    · rcases only b with q | ⟨ob, xs, q⟩
      · exact absurd q z
      · obtain ⟨f1, _⟩ := hok b _ q
        obtain ⟨f2, _⟩ := hok' b _ (un.frzs b ob _ q)
        rw [e] at f1
        cases f1
        exact f2
theorem end_call (kin : K.In s₁.heap) (hns : s₁.heap.Ns mainGlobals mg) (hb : s₁.heap.Ns builtinsNs mb) (hbb : ∀ x : Str, x ≠ "__name__" → mb x = bootBuiltins x) (nol : s₁.heap.NoLimit) (hg : s₁.gens = #[])
    (ha : s₁.heap.get? a = some { cls := .type "list", data := .seq vs.toArray }) (hi : IntsAre vs ns) (hl : ns.length ≤ sizeLine) (rm : Room k callerA)
    (F : ∀ base : Heap, K.In base → base.Ns mainGlobals mg → FnG P w K mg base CX0 k fa fd [x] sp) (bnd : ∀ (s : Shared) (u : Value), BindsTo s fd ⟨[u], []⟩ [(x, u)])
    (prom : ∀ H : Hp, Only H → SqL K H a (ns.map V.int) → sp [.ref a] H (fun v _ => v = .bl true) fun _ _ _ => False) :
    LawEnds P w fa a s₁ := by
  have rel := vals_ints hi
  have hlen := hi.length
  cases hk : K.lookup a with
  | some o =>
    have e := kin a o hk
    rw [ha] at e
    cases e
    refine end_core kin hns hb hbb nol hg ha rm F bnd prom (H := fun _ => none) (fun _ => Or.inl rfl) (Or.inr ⟨_, vs.toArray, _, hk, rfl, rfl, rfl, ?_, by simpa using rel⟩) (fun b u z => nomatch (show (none : Option HO) = some u from z)) (fun b z => absurd rfl z) (fun z => absurd rfl z)
    rw [List.size_toArray, hlen]
    exact hl
  | none =>
    have one : ∀ b, (fun b => if b = a then some (HO.frz { cls := .type "list", data := .seq vs.toArray } (.lst (ns.map V.int))) else none : Hp) b ≠ none → b = a := by
      intro b z
      by_cases q : b = a
      · exact q
      · exact absurd (if_neg q) z
    refine end_core kin hns hb hbb nol hg ha rm F bnd prom (H := fun b => if b = a then some (.frz { cls := .type "list", data := .seq vs.toArray } (.lst (ns.map V.int))) else none) (fun b => ?_) (Or.inl (Or.inr ⟨_, if_pos rfl⟩)) (fun b u z => ?_) one (fun _ => hk)
    · by_cases q : b = a
      · exact Or.inr ⟨_, _, if_pos q⟩
      · exact Or.inl (if_neg q)
    · by_cases q : b = a
      · have z2 := (if_pos q).symm.trans z
        cases z2
        subst q
        exact ⟨ha, by rw [List.length_map]; exact hl, vs, _, rel, ha⟩
      · have z2 := (if_neg q).symm.trans z
        cases z2
end
theorem walk_g {l : PySem.W.OpenLaw} {n k : Nat} {q : Program} {loose : List Str} {XP : (Str → Option Value) → Heap → Prop} {YP : World → Heap → Prop} {d : DefRec} {K : Params → PySem.W.Frag} {sp : World → Sp} {x : Str}
    (hn : l.most = some n) (hn2 : n ≤ sizeLine) (hdf : d.params.defaults = []) (rm : Room k callerA)
    (written : ∀ (w : World) (h : Heap), YP w h → (K w.params).In h) (F : ∀ (w : World) (mg : Str → Option Value) (fa : Addr) (h : Heap), (K w.params).In h → h.Ns mainGlobals mg → mg d.name = some (.ref fa) → ∃ fd : FuncData, (∀ (s : Shared) (u : Value), BindsTo s fd ⟨[u], []⟩ [(x, u)]) ∧ ∀ base : Heap, (K w.params).In base → base.Ns mainGlobals mg → FnG l.prog w (K w.params) mg base CX0 k fa fd [x] (sp w))
    (prom : ∀ (w : World) (H : Hp) (a : Addr) (ns : List Int), ns.length ≤ n → Only H → SqL (K w.params) H a (ns.map V.int) → sp w [.ref a] H (fun v _ => v = .bl true) fun _ _ _ => False) :
    PySem.W.WalkO q loose XP YP l.row.toRowW d [] (fun g us => PySem.call g us) := by
  refine Att.attach_call hn hdf ?_
  intro w s₀ s₁ mg mb fa o pm cd doc a vs ns G Y _ _ _ hmg hobj hints hlen hg
  have kin := written w _ Y
  obtain ⟨fd, bnd, fn⟩ := F w mg fa _ kin G.T.g hmg
  exact end_call kin G.T.g G.T.b G.T.builtins G.T.nolimit hg hobj hints (Nat.le_trans hlen hn2) rm fn bnd fun H hO hS => prom w H a ns hlen hO hS
end Od
namespace Od
open PySem L2 Evl PySem.Spec PyProof.Rows
structure Sh (B : Nat) (d : PyData) : Prop where
  show_ : d.showable = true
  dict : d.hasDict = false
  short : d.leavesShort 13 = true
  wt : d.weight ≤ B
structure ShAll (B : Nat) (ds : List PyData) : Prop where
  show_ : PyData.showableAll ds = true
  dict : PyData.hasDictAll ds = false
  short : PyData.leavesShortAll 13 ds = true
  wt : PyData.weightAll ds ≤ B
theorem Sh.mono {B C : Nat} {d : PyData} (h : Sh B d) (e : B ≤ C) : Sh C d := ⟨h.1, h.2, h.3, Nat.le_trans h.4 e⟩
theorem ShAll.nil : ShAll 0 [] := ⟨rfl, rfl, rfl, Nat.le_refl _⟩
theorem ShAll.cons {B C : Nat} {d : PyData} {ds : List PyData} (h : Sh B d) (t : ShAll C ds) : ShAll (B + 1 + C) (d :: ds) := by
  refine ⟨?_, ?_, ?_, ?_⟩
  · simp only [PyData.showableAll, h.1, t.1, Bool.and_self]
  · simp only [PyData.hasDictAll, h.2, t.2, Bool.or_self]
  · simp only [PyData.leavesShortAll, h.3, t.3, Bool.and_self]
  · have h1 := h.4
    have h2 := t.4
    simp only [PyData.weightAll]
    omega
theorem ShAll.tup {B : Nat} {ds : List PyData} (t : ShAll B ds) : Sh B (.tuple ds) := ⟨by simpa only [PyData.showable] using t.1, by simpa only [PyData.hasDict] using t.2, by simpa only [PyData.leavesShort] using t.3, by simpa only [PyData.weight] using t.4⟩
theorem ShAll.lst {B : Nat} {ds : List PyData} (t : ShAll B ds) : Sh B (.list ds) := ⟨by simpa only [PyData.showable] using t.1, by simpa only [PyData.hasDict] using t.2, by simpa only [PyData.leavesShort] using t.3, by simpa only [PyData.weight] using t.4⟩
theorem sh_int {i : Int} (h1 : -1000000 ≤ i) (h2 : i ≤ 1000000) : Sh 20 (.int i) := by
  have hn : i.natAbs ≤ 1000000 := by omega
  have hl : i.natAbs ≠ 0 → i.natAbs.log2 < 20 := fun h => (Nat.log2_lt h).mpr (Nat.lt_of_le_of_lt hn (by decide))
  refine ⟨?_, rfl, ?_, ?_⟩
  · simp only [PyData.showable, decide_eq_true_eq]
    by_cases h : i.natAbs = 0
    · rw [h]
      decide
    · exact Nat.lt_trans (hl h) (by decide)
  · simp only [PyData.leavesShort, decide_eq_true_eq]
    exact PyData.shown_int_le2 (by omega) (by omega)
  · simp only [PyData.weight]
    by_cases h : i = 0
    · subst h
      decide
    · have : (i == 0) = false := beq_eq_false_iff_ne.mpr h
      rw [this]
      have := hl (by omega)
      show i.natAbs.log2 + 1 ≤ 20
      omega
theorem Sh.len {B : Nat} {d : PyData} (h : Sh B d) (hB : B ≤ 1000000) : d.shown.length ≤ sizeLine := by
  have h2 := PyData.shown_le 13 (by decide) d h.3
  have h4 := h.4
  have e : sizeLine = 16777216 := by decide
  omega
theorem reprA {K : PySem.W.Frag} {H : Hp} {a : Addr} {d : PyData} {B : Nat} {Q : VK} (hd : Dp K H (.ref a) d) (h : Sh B d) (hB : B ≤ 1000000) (hdp : d.depth ≤ 60) (q : Q (.str d.shown) H) : rRepr K [.ref a] H Q := ⟨a, d, rfl, hd, h.1, h.2, hdp, h.len hB, q⟩
end Od
namespace Od
open PySem L2 Evl
structure Pc where
  w : Int
  h : Int
  vs : List Int
  cs : List Int
structure Pc.Ok (m : Int) (p : Pc) : Prop where
  w1 : 1 ≤ p.w
  w2 : p.w ≤ m
  h1 : 1 ≤ p.h
  h2 : p.h ≤ m
  vl : (p.vs.length : Int) = p.w * p.h
  cl : (p.cs.length : Int) = p.w * p.h
  vb : ∀ v ∈ p.vs, 0 ≤ v ∧ v ≤ 255
  cb : ∀ v ∈ p.cs, 0 ≤ v ∧ v ≤ 256
def PcV (H : Hp) (v : V) (p : Pc) : Prop := ∃ a va ca, v = .ref a ∧ H a = some (.tup [.int p.w, .int p.h, .ref va, .ref ca]) ∧ H va = some (.tup (p.vs.map V.int)) ∧ H ca = some (.tup (p.cs.map V.int))
theorem PcV.tk {H H' : Hp} {v : V} {p : Pc} (e : TK H H') (h : PcV H v p) : PcV H' v p := by
  obtain ⟨a, va, ca, rfl, h1, h2, h3⟩ := h
  exact ⟨a, va, ca, rfl, e _ _ h1, e _ _ h2, e _ _ h3⟩
def pcD (p : Pc) : PyData := .tuple [.int p.w, .int p.h, .tuple (p.vs.map PyData.int), .tuple (p.cs.map PyData.int)]
theorem PcV.dp {K : PySem.W.Frag} {H : Hp} {v : V} {p : Pc} (h : PcV H v p) : Dp K H v (pcD p) := by
  obtain ⟨a, va, ca, rfl, h1, h2, h3⟩ := h
  exact .tup (SqT.of h1) (.cons (.int _) (.cons (.int _) (.cons (.tup (SqT.of h2) (DaAll.dp (da_ints _))) (.cons (.tup (SqT.of h3) (DaAll.dp (da_ints _))) .nil))))
theorem area_le {w h m : Int} (w1 : 1 ≤ w) (w2 : w ≤ m) (h1 : 1 ≤ h) (h2 : h ≤ m) : 1 ≤ w * h ∧ w * h ≤ m * m := by
  have a : 1 * 1 ≤ w * h := Int.mul_le_mul w1 h1 (by omega) (by omega)
  have b : w * h ≤ m * m := Int.mul_le_mul w2 h2 (by omega) (by omega)
  exact ⟨a, b⟩
theorem Pc.Ok.area {m : Int} {p : Pc} (k : p.Ok m) : 1 ≤ p.w * p.h ∧ p.w * p.h ≤ m * m := area_le k.w1 k.w2 k.h1 k.h2
/-- what stands at a point -/
def Pc.In (p : Pc) (x y : Int) : Prop := 0 ≤ x ∧ x < p.w ∧ 0 ≤ y ∧ y < p.h
instance (p : Pc) (x y : Int) : Decidable (p.In x y) := inferInstanceAs (Decidable (_ ∧ _))
def Pc.at (p : Pc) (x y : Int) : Pt := if p.In x y then (p.vs.getD (y * p.w + x).toNat 0, p.cs.getD (y * p.w + x).toNat 0) else (0, 0)
theorem depth_ints : ∀ ns : List Int, PyData.depthAll (ns.map PyData.int) = 0
  | [] => by simp only [List.map_nil, PyData.depthAll]
  | n :: ns => by
    rw [List.map_cons]
    simp only [PyData.depthAll, PyData.depth, depth_ints ns, Nat.max_self]
theorem canLay_ints : ∀ ns : List Int, PyData.canLayAll0 (ns.map PyData.int) = true
  | [] => by simp only [List.map_nil, PyData.canLayAll0]
  | n :: ns => by
    rw [List.map_cons]
    simp only [PyData.canLayAll0, PyData.canLay0, canLay_ints ns, Bool.and_self]
end Od
namespace Od
open PySem L2 Evl
theorem pc_lay (p : Pc) : (pcD p).canLay0 = true := by
  simp only [pcD, PyData.canLay0, PyData.canLayAll0, canLay_ints, Bool.and_self]
theorem shaped_of {d : PyData} (h : d.canLay0 = true) (hd : d.depth ≤ 64) : SeqAt.shaped d = true := by
  unfold SeqAt.shaped
  rw [h, decide_eq_true hd]
  rfl
end Od
namespace Od
open PySem L2 Evl
/-- what a layer's value becomes: a mode as a value of its own -/
inductive Md where
  | over | add | times | invert | shift (n : Int)
deriving DecidableEq
def Md.word : Md → Str
  | .over => "over" | .add => "add" | .times => "times" | .invert => "invert" | .shift _ => "shift"
def Md.rest : Md → List V
  | .shift n => [.int n]
  | _ => []
def Md.items (m : Md) : List V := .str m.word :: m.rest
theorem Md.at0 (m : Md) : atI m.items 0 = some (.str m.word) := by cases m <;> rfl
def Md.Ok : Md → Prop
  | .shift n => -255 ≤ n ∧ n ≤ 255
  | _ => True
def MdV (H : Hp) (v : V) (m : Md) : Prop := ∃ a, v = .ref a ∧ H a = some (.tup m.items)
theorem MdV.ex {H H' : Hp} {v : V} {m : Md} (e : Ex H H') (h : MdV H v m) : MdV H' v m := by
  obtain ⟨a, rfl, ha⟩ := h
  exact ⟨a, rfl, e _ _ ha⟩
theorem MdV.tk {H H' : Hp} {v : V} {m : Md} (e : TK H H') (h : MdV H v m) : MdV H' v m := by
  obtain ⟨a, rfl, ha⟩ := h
  exact ⟨a, rfl, e _ _ ha⟩
/-- the lesser one of 255 and a value, the greater one of 0 and a value -/
def lo255 (x : Int) : Int := if x < 255 then x else 255
def hi0 (x : Int) : Int := if x > 0 then x else 0
def Md.to : Md → Int → Int → Int
  | .over, _, p => p
  | .add, v, p => lo255 (v + p)
  | .times, v, p => v * p / 255
  | .invert, v, _ => 255 - v
  | .shift n, v, _ => hi0 (lo255 (v + n))
theorem iteW {a b : Str} {A B : Prop} (h : a ≠ b) (q : B) : if decide (V.str a = V.str b) = true then A else B := by
  rw [decide_eq_false fun e => h (V.str.inj e)]
  exact q
theorem iteE {a b : Str} {A B : Prop} (h : a = b) (q : A) : if decide (V.str a = V.str b) = true then A else B := by
  rw [decide_eq_true (congrArg V.str h)]
  exact q
theorem iteDn {p : Prop} [Decidable p] {A B : Prop} (h : p) (q : B) : if (!decide p) = true then A else B := by
  rw [decide_eq_true h]
  exact q
theorem iteNn {p : Prop} [Decidable p] {A B : Prop} (h : ¬ p) (q : A) : if (!decide p) = true then A else B := by
  rw [decide_eq_false h]
  exact q
end Od
namespace Od
open PySem L2 Evl
/-- a paint as a value of its own -/
inductive Pa where
  | solid (v : Int) | steps (f s z : Int) | pic (p : Pc)
def Pa.word : Pa → Str
  | .solid _ => "solid" | .steps _ _ _ => "steps" | .pic _ => "picture"
def PaV (H : Hp) (v : V) : Pa → Prop
  | .solid x => ∃ a, v = .ref a ∧ H a = some (.tup [.str "solid", .int x])
  | .steps f s z => ∃ a, v = .ref a ∧ H a = some (.tup [.str "steps", .int f, .int s, .int z])
  | .pic p => ∃ a u, v = .ref a ∧ H a = some (.tup [.str "picture", u]) ∧ PcV H u p
theorem PaV.tk {H H' : Hp} {v : V} {p : Pa} (e : TK H H') (h : PaV H v p) : PaV H' v p := by
  cases p with
  | solid x => obtain ⟨a, rfl, ha⟩ := h; exact ⟨a, rfl, e _ _ ha⟩
  | steps f s z => obtain ⟨a, rfl, ha⟩ := h; exact ⟨a, rfl, e _ _ ha⟩
  | pic p => obtain ⟨a, u, rfl, ha, hu⟩ := h; exact ⟨a, u, rfl, e _ _ ha, hu.tk e⟩
def Pa.Ok (m : Int) : Pa → Prop
  | .solid x => 0 ≤ x ∧ x ≤ 255
  | .steps f s z => 0 ≤ f ∧ f ≤ 255 ∧ 0 ≤ s ∧ s ≤ 255 ∧ 1 ≤ z ∧ z ≤ 12
  | .pic p => p.Ok m
def Pa.D : Pa → PyData
  | .solid x => .tuple [.str "solid", .int x]
  | .steps f s z => .tuple [.str "steps", .int f, .int s, .int z]
  | .pic p => .tuple [.str "picture", pcD p]
theorem PaV.dp {K : PySem.W.Frag} {H : Hp} {v : V} {p : Pa} (h : PaV H v p) : Dp K H v p.D := by
  cases p with
  | solid x => obtain ⟨a, rfl, ha⟩ := h; exact .tup (SqT.of ha) (.cons (.str _) (.cons (.int _) .nil))
  | steps f s z => obtain ⟨a, rfl, ha⟩ := h; exact .tup (SqT.of ha) (.cons (.str _) (.cons (.int _) (.cons (.int _) (.cons (.int _) .nil))))
  | pic p => obtain ⟨a, u, rfl, ha, hu⟩ := h; exact .tup (SqT.of ha) (.cons (.str _) (.cons hu.dp .nil))
/-- a paint, or None -/
def OpV (H : Hp) (v : V) : Option Pa → Prop
  | none => v = .non
  | some p => PaV H v p
theorem OpV.tk {H H' : Hp} {v : V} {o : Option Pa} (e : TK H H') (h : OpV H v o) : OpV H' v o := by
  cases o with
  | none => exact h
  | some p => exact PaV.tk e h
def opD : Option Pa → PyData
  | none => .none
  | some p => p.D
theorem OpV.dp {K : PySem.W.Frag} {H : Hp} {v : V} {o : Option Pa} (h : OpV H v o) : Dp K H v (opD o) := by
  cases o with
  | none => cases h; exact .non
  | some p => exact PaV.dp h
def opOk (m : Int) : Option Pa → Prop
  | none => True
  | some p => p.Ok m
/-- a clip -/
structure Cl where
  s : Int
  n : Int
  pa : Option Pa
  fi : Int
  fo : Int
structure Cl.Ok (m : Int) (c : Cl) : Prop where
  s0 : 0 ≤ c.s
  s1 : c.s ≤ m
  n1 : 1 ≤ c.n
  n2 : c.n ≤ 400
  fi0 : 0 ≤ c.fi
  fo0 : 0 ≤ c.fo
  fs : c.fi + c.fo ≤ c.n
  pa : opOk 3 c.pa
def Cl.items (c : Cl) (u : V) : List V := [.int c.s, .int c.n, u, .int c.fi, .int c.fo]
def ClV (H : Hp) (v : V) (c : Cl) : Prop := ∃ a u, v = .ref a ∧ H a = some (.tup (c.items u)) ∧ OpV H u c.pa
theorem ClV.tk {H H' : Hp} {v : V} {c : Cl} (e : TK H H') (h : ClV H v c) : ClV H' v c := by
  obtain ⟨a, u, rfl, ha, hu⟩ := h
  exact ⟨a, u, rfl, e _ _ ha, hu.tk e⟩
def Cl.fin (c : Cl) : Int := c.s + c.n
def Cl.lev (c : Cl) (f : Int) : Int := if f - c.s < c.fi then 256 * (f - c.s + 1) / (c.fi + 1) else if c.n - (f - c.s) - 1 < c.fo then 256 * (c.n - (f - c.s) - 1 + 1) / (c.fo + 1) else 256
end Od
namespace Od
open PySem L2 Evl
def Pa.at : Pa → Int → Int → Pt
  | .solid v, _, _ => (v, 256)
  | .steps f s z, x, y => (if (x / z + y / z) % 2 = 0 then f else s, 256)
  | .pic p, x, y => p.at x y
theorem PaV.mk {H : Hp} {v : V} {p : Pa} (h : PaV H v p) : ∃ a xs, v = .ref a ∧ H a = some (.tup (.str p.word :: xs)) := by
  cases p with
  | solid x => obtain ⟨a, rfl, ha⟩ := h; exact ⟨a, _, rfl, ha⟩
  | steps f s z => obtain ⟨a, rfl, ha⟩ := h; exact ⟨a, _, rfl, ha⟩
  | pic p => obtain ⟨a, u, rfl, ha, _⟩ := h; exact ⟨a, _, rfl, ha⟩
end Od
namespace Od
open PySem L2 Evl
structure Ly where
  m : Md
  lv : Int
  pa : Option Pa
structure Ly.Ok (l : Ly) : Prop where
  m : l.m.Ok
  l0 : 0 ≤ l.lv
  l1 : l.lv ≤ 256
  pa : opOk 8 l.pa
def LyV (H : Hp) (v : V) (l : Ly) : Prop := ∃ a mv pv, v = .ref a ∧ H a = some (.tup [mv, .int l.lv, pv]) ∧ MdV H mv l.m ∧ OpV H pv l.pa
theorem LyV.tk {H H' : Hp} {v : V} {l : Ly} (e : TK H H') (h : LyV H v l) : LyV H' v l := by
  obtain ⟨a, mv, pv, rfl, ha, hm, hp⟩ := h
  exact ⟨a, mv, pv, rfl, e _ _ ha, hm.tk e, hp.tk e⟩
abbrev LysV (H : Hp) : List V → List Ly → Prop := Paired (LyV H)
theorem LysV.tk {H H' : Hp} {vs : List V} {ls : List Ly} (e : TK H H') (h : LysV H vs ls) : LysV H' vs ls := Paired.mapP h fun _ _ => LyV.tk e
theorem pr_take {α β : Type} {G : α → β → Prop} : ∀ {l₁ : List α} {l₂ : List β} (n : Nat), Paired G l₁ l₂ → Paired G (l₁.take n) (l₂.take n)
  | _, _, 0, _ => by simp only [List.take_zero]; exact .nil
  | _, _, _ + 1, .nil => by simp only [List.take_nil]; exact .nil
  | _, _, n + 1, .cons h t => by simp only [List.take_succ_cons]; exact .cons h (pr_take n t)
theorem cutV_take {xs : List V} {k : Nat} (h : k ≤ xs.length) : cutV xs none (some (k : Int)) = xs.take k := by
  unfold cutV
  rw [HT.sIx_nat, HT.sIx_none, Nat.min_eq_left h, List.drop_zero, Nat.sub_zero]
def Md.D : Md → PyData
  | .over => .tuple [.str "over"] | .add => .tuple [.str "add"] | .times => .tuple [.str "times"] | .invert => .tuple [.str "invert"] | .shift n => .tuple [.str "shift", .int n]
theorem MdV.dp {K : PySem.W.Frag} {H : Hp} {v : V} {m : Md} (h : MdV H v m) : Dp K H v m.D := by
  obtain ⟨a, rfl, ha⟩ := h
  cases m with
  | shift n => exact .tup (SqT.of ha) (.cons (.str _) (.cons (.int _) .nil))
  | _ => exact .tup (SqT.of ha) (.cons (.str _) .nil)
theorem Md.shaped (m : Md) : SeqAt.shaped m.D = true := by
  cases m with
  | shift n => exact shaped_of (by simp only [Md.D, PyData.canLay0, PyData.canLayAll0, Bool.and_self]; decide +kernel) (by simp only [Md.D, PyData.depth, PyData.depthAll]; decide)
  | _ => decide +kernel
end Od
namespace Od
open PySem L2 Evl
structure Mv where
  f : Int
  a : Int
  d : Int
deriving DecidableEq
structure Mv.Ok (m : Mv) : Prop where
  f0 : 0 ≤ m.f
  f1 : m.f ≤ 2000
  a0 : -1000 ≤ m.a
  a1 : m.a ≤ 1000
  d0 : -1000 ≤ m.d
  d1 : m.d ≤ 1000
def MvV (H : Hp) (v : V) (m : Mv) : Prop := ∃ p, v = .ref p ∧ H p = some (.tup [.int m.f, .int m.a, .int m.d])
theorem MvV.tk {H H' : Hp} {v : V} {m : Mv} (e : TK H H') (h : MvV H v m) : MvV H' v m := by
  obtain ⟨p, rfl, hp⟩ := h
  exact ⟨p, rfl, e _ _ hp⟩
abbrev MvsV (H : Hp) : List V → List Mv → Prop := Paired (MvV H)
theorem MvsV.tk {H H' : Hp} {vs : List V} {ms : List Mv} (e : TK H H') (h : MvsV H vs ms) : MvsV H' vs ms := Paired.mapP h fun _ _ => MvV.tk e
def MAsc (ms : List Mv) : Prop := ms.Pairwise fun x y => x.f < y.f
theorem asc_le {ms : List Mv} (h : MAsc ms) {i j : Nat} {x y : Mv} (hx : ms[i]? = some x) (hy : ms[j]? = some y) (hij : i < j) : x.f < y.f := by
  obtain ⟨hi, ex⟩ := List.getElem?_eq_some_iff.mp hx
  obtain ⟨hj, ey⟩ := List.getElem?_eq_some_iff.mp hy
  have := List.pairwise_iff_getElem.mp h i j hi hj hij
  rw [ex, ey] at this
  exact this
/-- how many points are not behind a frame -/
def np (ms : List Mv) (f : Int) : Nat := (ms.filter fun m => decide (m.f ≤ f)).length
/-- on the line between two points -/
def ln (v w g s : Int) : Int := v + (w - v) * g / s
def mvD (m : Mv) : PyData := .tuple [.int m.f, .int m.a, .int m.d]
theorem MvV.dp {K : PySem.W.Frag} {H : Hp} {v : V} {m : Mv} (h : MvV H v m) : Dp K H v (mvD m) := by
  obtain ⟨p, rfl, hp⟩ := h
  exact .tup (SqT.of hp) (.cons (.int _) (.cons (.int _) (.cons (.int _) .nil)))
end Od
namespace Od
open PySem PySem.Spec PyProof.Rows L2
open AutoSeq1 (wpAny_loadPart')
open Sem (wp)
theorem ent_new (l : Addr) (xs : Array Value) (n : Nat) (dx : Option Addr) (sl : Array (Option Value)) :
    Meets (Builtin.«enumerate.__new__» ⟨[.type "enumerate", .ref l], []⟩) (fun _ R s =>
      s.heap.get? l = some { cls := .type "tuple", dict := dx, data := .seq xs n, slots := sl } ∧ R (.ok (.ret (.ref (s.heap.objs.size + 1))))
        { s with heap := (s.heap.push { cls := .type "tuple_iterator", data := .fields #[.ref l, .int 0 0] }).push { cls := .type "enumerate", data := .fields #[.none, .bool false, .ref s.heap.objs.size, rawInt 0, .none, .none] } }) :=
  .of_wp fun prog w A R s ⟨look, fin⟩ => by
    obtain ⟨hp, gens, drawn, tk, os⟩ := s
    have isub := sub_enumerate
    have isT : Heap.IsTuple (Shared.heap ⟨hp, gens, drawn, tk, os⟩) l xs := ⟨_, look, rfl, n, rfl⟩
    have esz : (hp.push { cls := .type "tuple_iterator", data := .fields #[.ref l, .int 0 0] }).objs.size = hp.objs.size + 1 := Heap.size_push ..
    rw [← esz] at fin
    wp_walk using wpAny_loadPart' look
    refine wpAny_stack_any fun stk => wpAny_pure ?_
    split
    · rename_i cl _ _ _ _ _
      rcases (cl == Value.type "enumerate")
      all_goals (wp_walk using wpAny_loadPart' look, wpAny_pyIter_tuple isT; exact ⟨_, rfl, fin⟩)
    · wp_walk using wpAny_loadPart' look, wpAny_pyIter_tuple isT
      exact ⟨_, rfl, fin⟩
section
variable {prog : Program} {w : World} {A : Around} {E : Value → Shared → Prop} {s : Shared}
theorem ent_make {l : Addr} {xs : Array Value} {Q : Value → Shared → Prop} (isT : s.heap.IsTuple l xs)
    (q : ∀ h', IsEnum h' (s.heap.objs.size + 1) s.heap.objs.size 0 .none → h'.IsTupleIter s.heap.objs.size l 0 →
      (∀ b o, s.heap.get? b = some o → h'.get? b = some o) → Q (.ref (s.heap.objs.size + 1)) { s with heap := h' }) :
    wpAny (model prog w) A (call (.type "enumerate") [.ref l]) Q E s := by
  obtain ⟨⟨cl, dx, dat, sl⟩, look, ec, n, ed⟩ := isT
  have ec : cl = .type "tuple" := ec
  have ed : dat = .seq xs n := ed
  subst ec
  subst ed
  refine callType_new F.called_enumerate (by decide) (F.typeCall_enumerate_1 _) (F.newCall_enumerate_1 _) (fun ob => F.args_object_init_2 ob _) F.entry_enumerate_new (ent_new l xs n dx sl) ⟨look, ?_⟩
  have esz : (s.heap.push { cls := .type "tuple_iterator", data := .fields #[.ref l, .int 0 0] }).objs.size = s.heap.objs.size + 1 := Heap.size_push ..
  have isE : IsEnum ((s.heap.push { cls := .type "tuple_iterator", data := .fields #[.ref l, .int 0 0] }).push { cls := .type "enumerate", data := .fields #[.none, .bool false, .ref s.heap.objs.size, rawInt 0, .none, .none] }) (s.heap.objs.size + 1) s.heap.objs.size 0 .none :=
    esz ▸ Heap.get?_push_size _ rfl
  exact ⟨⟨_, isE, rfl⟩, q _ isE ⟨_, Heap.get?_push_of_some _ (Heap.get?_push_size _ rfl), rfl, rfl⟩ fun b o e => Heap.get?_push_of_some _ (Heap.get?_push_of_some _ e)⟩
theorem tnx_item {it t : Addr} {i : Nat} {xs : Array Value} {x : Value} {Q : Value → Shared → Prop} (st : s.heap.IsTupleIter it t i) (isT : s.heap.IsTuple t xs) (ex : xs[i]? = some x)
    (q : ∀ h', h'.IsTupleIter it t (i + 1) → Heap.SameBut it s.heap h' → Q x { s with heap := h' }) : wpAny (model prog w) A (Builtin.SmallTypes.nextOf (.ref it)) Q E s := by
  have ty := st.typeIs
  obtain ⟨oi, looki, ci, di⟩ := st
  obtain ⟨ot, lookt, _, n, dt⟩ := isT
  unfold Builtin.SmallTypes.nextOf
  refine wpAny_bind (wpAny_callSpecial?_slot (name := Str.ofString "__next__") ty F.slot_tuple_iterator_next (wpAny_call_entry F.slot_tuple_iterator_next ty F.entry_tuple_iterator_next ?_ (F.args_tuple_iterator_next_1 _)))
  refine wpAny_bind (m := field (.ref it) 0) (wpAny_field looki di (x := .ref t) rfl ?_)
  have alive : ¬ (Value.ref t == Value.none) = true := fun z => Bool.noConfusion z
  change wpAny _ _ (if (Value.ref t == Value.none) = true then _ else _) _ _ s
  rw [if_neg alive]
  refine wpAny_bind (m := field (.ref it) 1) (wpAny_field looki di (x := .int i 0) rfl (wpAny_bind (m := seqItems? (.ref t)) (wpAny_seqItems lookt dt ?_)))
  simp only [Int.toNat_natCast, ex]
  refine wpAny_bind (wpAny_setField looki di (by simp) (wpAny_pure ⟨x, rfl, wpAny_pure (q _ ⟨_, Heap.get?_update_self _ looki (Obj.isFreed_of_fields (Obj.data_mapFields di _)), (Obj.cls_mapFields ..).trans ci, ?_⟩ (Heap.SameBut.update ..))⟩))
  rw [Obj.data_mapFields di]
  simp [rawInt]
theorem tnx_end {it t : Addr} {i : Nat} {xs : Array Value} {Q : Value → Shared → Prop} (hh : A.handled = none) (st : s.heap.IsTupleIter it t i) (isT : s.heap.IsTuple t xs) (ex : xs[i]? = none)
    (q : ∀ h' e, Heap.ExtBut it s.heap h' → (∃ o, h'.get? e = some o ∧ o.cls = .type "StopIteration") → E (.ref e) { s with heap := h' }) : wpAny (model prog w) A (Builtin.SmallTypes.nextOf (.ref it)) Q E s := by
  have ty := st.typeIs
  obtain ⟨oi, looki, ci, di⟩ := st
  obtain ⟨ot, lookt, _, n, dt⟩ := isT
  unfold Builtin.SmallTypes.nextOf
  refine wpAny_bind (wpAny_callSpecial?_slot (name := Str.ofString "__next__") ty F.slot_tuple_iterator_next (wpAny_call_entry F.slot_tuple_iterator_next ty F.entry_tuple_iterator_next ?_ (F.args_tuple_iterator_next_1 _)))
  refine wpAny_bind (m := field (.ref it) 0) (wpAny_field looki di (x := .ref t) rfl ?_)
  have alive : ¬ (Value.ref t == Value.none) = true := fun z => Bool.noConfusion z
  change wpAny _ _ (if (Value.ref t == Value.none) = true then _ else _) _ _ s
  rw [if_neg alive]
  refine wpAny_bind (m := field (.ref it) 1) (wpAny_field looki di (x := .int i 0) rfl (wpAny_bind (m := seqItems? (.ref t)) (wpAny_seqItems lookt dt ?_)))
  simp only [Int.toNat_natCast, ex]
  refine wpAny_bind (wpAny_rule (wpAny_bind (wpAny_setField looki di (by simp) (wpAny_bind (m := newExc (.type "StopIteration") []) ?_))))
  simp only [newExc, newTuple]
  refine wpAny_bind (wpAny_newObj_type (wpAny_bind (m := firstArgMember _ _) (wpAny_of_eq (a := Value.none) (by first | rfl | (simp only [firstArgMember]; rfl)) (wpAny_newObj_type ?_ (by size_fits)))) (by size_fits))
  simp only [raiseNew]
  refine wpAny_bind (wpAny_handled ?_)
  first
    | rw [show A.in1.handled = none from hh]
    | rw [hh]
  exact wpAny_bind (wpAny_pure (wpAny_throw (q _ _ (((Heap.SameBut.update ..).extBut.push _).push _) ⟨_, Heap.get?_push_size _ rfl, rfl⟩)))
/-- one turn: a new pair of the number and the item -/
theorem ent_turn {e it l : Addr} {i : Nat} {xs : Array Value} {x old : Value} {Q : Option Value → Shared → Prop} (isE : IsEnum s.heap e it i old) (st : s.heap.IsTupleIter it l i) (isT : s.heap.IsTuple l xs) (ex : xs[i]? = some x) (apart : e ≠ it)
    (q : ∀ h', IsEnumOut h' e it ((i : Int) + 1) x s.heap.objs.size → h'.IsTupleIter it l (i + 1) → h'.get? s.heap.objs.size = some { cls := .type "tuple", data := .seq #[.int i s.toks, x] } →
      (∀ b o, b ≠ e → b ≠ it → s.heap.get? b = some o → h'.get? b = some o) → Q (some (.ref s.heap.objs.size)) { s with heap := h', toks := s.toks + 1 }) :
    wpAny (model prog w) A (pyNext (.ref e)) Q E s := by
  have ty : s.TypeIs (.ref e) "enumerate" := ⟨_, isE, rfl⟩
  have low := Heap.lt_size isE
  unfold pyNext
  refine wpAny_bind (wpAny_attempt (wpAny_callSpecial?_slot (name := Str.ofString "__next__") ty F.slot_enumerate_next (wpAny_call_entry F.slot_enumerate_next ty F.entry_enumerate_next ?_ (F.args_enumerate_next_1 _))))
  obtain ⟨hp, gens, drawn, tk, os⟩ := s
  refine wpAny_bind (m := field (.ref e) 2) (wpAny_field isE rfl (x := .ref it) rfl (wpAny_bind (tnx_item st isT ex fun k1 st1 sb1 => ?_)))
  have sb1 : Heap.SameBut it hp k1 := sb1
  have f1 : IsEnum k1 e it i old := (sb1.2 e apart).trans isE
  refine wpAny_bind (m := field (.ref e) 3) (wpAny_field f1 rfl (x := rawInt i) rfl (wpAny_bind (m := field (.ref e) 4) (wpAny_field f1 rfl (x := .none) rfl (wpAny_bind (m := mkInt i) (wpAny_mkInt (wpAny_bind (wpAny_setField_rec f1 (by simp) fun k2 f2 sb2 => ?_)))))))
  have sb2 : Heap.SameBut e k1 k2 := sb2
  have f2 : IsEnum k2 e it ((i : Int) + 1) old := f2
  refine wpAny_bind (wpAny_setField_rec f2 (by simp) fun k3 f3 sb3 => ?_)
  have sb3 : Heap.SameBut e k2 k3 := sb3
  have f3 : IsEnum k3 e it ((i : Int) + 1) old := f3
  refine wpAny_bind (m := newTuple [.int i tk, x]) (wpAny_newTuple ?_)
  have size3 : k3.objs.size = hp.objs.size := by rw [sb3.1, sb2.1, sb1.1]
  have back : ∀ b o, b ≠ e → b ≠ it → hp.get? b = some o → (k3.push { cls := .type "tuple", data := .seq #[.int i tk, x] }).get? b = some o := fun b o be bi hb =>
    Heap.get?_push_of_some _ (sb3.extBut b o be (sb2.extBut b o be (sb1.extBut b o bi hb)))
  have pair : (k3.push { cls := .type "tuple", data := .seq #[.int i tk, x] }).get? hp.objs.size = some { cls := .type "tuple", data := .seq #[.int i tk, x] } := size3 ▸ Heap.get?_push_size _ rfl
  have st3 := (st1.extBut sb2.extBut (Ne.symm apart)).extBut sb3.extBut (Ne.symm apart)
  have st4 : (k3.push { cls := .type "tuple", data := .seq #[.int i tk, x] }).IsTupleIter it l (i + 1) := by
    obtain ⟨o3, look3, rest3⟩ := st3
    exact ⟨o3, Heap.get?_push_of_some _ look3, rest3⟩
  have f4 : IsEnum (k3.push { cls := .type "tuple", data := .seq #[.int i tk, x] }) e it ((i : Int) + 1) old := Heap.get?_push_of_some _ f3
  rw [show (Value.ref k3.objs.size) = .ref hp.objs.size from congrArg Value.ref size3]
  generalize k3.push { cls := .type "tuple", data := .seq #[.int i tk, x] } = k4 at back pair st4 f4
  refine wpAny_bind (m := Builtin.SmallTypes.ownedTupleIsFree (.ref e)) ?_
  unfold Builtin.SmallTypes.ownedTupleIsFree
  refine wpAny_bind (wpAny_field f4 rfl (x := .none) rfl (wpAny_pure ?_))
  simp only [if_true]
  refine wpAny_bind (wpAny_rule (wpAny_bind (wpAny_field f4 rfl (x := old) rfl (wpAny_bind (wpAny_setField_rec f4 (by simp) fun k5 f5 sb5 => ?_)))))
  have sb5 : Heap.SameBut e k4 k5 := sb5
  have f5 : IsEnum k5 e it ((i : Int) + 1) x := f5
  refine wpAny_bind (m := Builtin.SmallTypes.ownedTupleHandOut (.ref e) (.ref hp.objs.size)) ?_
  unfold Builtin.SmallTypes.ownedTupleHandOut
  refine wpAny_bind (wpAny_setField_rec f5 (by simp) fun k6 f6 sb6 => ?_)
  have sb6 : Heap.SameBut e k5 k6 := sb6
  have f6 : IsEnumOut k6 e it ((i : Int) + 1) x hp.objs.size := f6
  refine wpAny_setField_rec f6 (by simp) fun k7 f7 sb7 => ?_
  have sb7 : Heap.SameBut e k6 k7 := sb7
  have f7 : IsEnumOut k7 e it ((i : Int) + 1) x hp.objs.size := f7
  have low : e < hp.objs.size := low
  refine wpAny_bind (wpAny_letGo (wpAny_pure ⟨_, rfl, wpAny_pure (q k7 f7 ?_ ?_ ?_)⟩))
  · exact ((st4.extBut sb5.extBut (Ne.symm apart)).extBut sb6.extBut (Ne.symm apart)).extBut sb7.extBut (Ne.symm apart)
  · exact sb7.extBut _ _ (Nat.ne_of_gt low) (sb6.extBut _ _ (Nat.ne_of_gt low) (sb5.extBut _ _ (Nat.ne_of_gt low) pair))
  · exact fun b o be bi hb => sb7.extBut b o be (sb6.extBut b o be (sb5.extBut b o be (back b o be bi hb)))
theorem ent_stop {e it l : Addr} {i : Nat} {xs : Array Value} {old : Value} {Q : Option Value → Shared → Prop} (hh : A.handled = none) (isE : IsEnum s.heap e it i old) (st : s.heap.IsTupleIter it l i) (isT : s.heap.IsTuple l xs) (ex : xs[i]? = none)
    (q : ∀ h', Heap.ExtBut it s.heap h' → Q none { s with heap := h' }) : wpAny (model prog w) A (pyNext (.ref e)) Q E s := by
  have ty : s.TypeIs (.ref e) "enumerate" := ⟨_, isE, rfl⟩
  unfold pyNext
  refine wpAny_bind (wpAny_attempt (wpAny_callSpecial?_slot (name := Str.ofString "__next__") ty F.slot_enumerate_next (wpAny_call_entry F.slot_enumerate_next ty F.entry_enumerate_next ?_ (F.args_enumerate_next_1 _))))
  refine wpAny_bind (m := field (.ref e) 2) (wpAny_field isE rfl (x := .ref it) rfl (wpAny_bind (tnx_end hh st isT ex fun k x ext ⟨o, look, ec⟩ => ?_)))
  exact wpAny_bind (wpAny_isInstance (T := "StopIteration") (b := true) ⟨o, look, ec⟩ isSubtype_stop (wpAny_pure (q _ ext)))
end
/-- the tuple at a, each item in a new pair with its number -/
def ItET (K : PySem.W.Frag) (a : Addr) : It where
  go := fun i H => ∃ (xs : List V) (x : V), SqT K H a xs ∧ xs[i]? = some x
  yld := fun i H v H' => ∃ T x, v = .ref T ∧ H T = none ∧ H' = upd H T (.tup [.int (i : Nat), x]) ∧ ∀ xs, SqT K H a xs → xs[i]? = some x
  stop := fun i H => ∃ xs : List V, SqT K H a xs ∧ xs.length ≤ i
theorem turn_ET {P : Program} {w : World} {K : PySem.W.Frag} {elts : List Expr} {kk : Nat} {tpos : Pos} (a e it : Addr) :
    Turn P w K (.Tuple elts kk tpos) (ItET K a) [e, it] e (fun i h => (∃ old, IsEnum h e it ((i : Nat) : Int) old) ∧ h.IsTupleIter it a i ∧ e ≠ it) where
  mem := List.mem_cons_self
  obj := fun i h ⟨⟨_, isE⟩, ⟨o, look, _, dat⟩, _⟩ b hb => by
    rcases (by simpa using hb : b = e ∨ b = it) with rfl | rfl
    · exact ⟨_, isE, fun v z => nomatch z⟩
    · exact ⟨o, look, fun v z => by rw [dat] at z; cases z⟩
  keep := fun i h h' ⟨⟨old, isE⟩, st, ap⟩ k => ⟨⟨old, k e (by simp) _ isE⟩, st.at fun o z => k it (by simp) o z, ap⟩
  item := by
    intro X eP ew eK hc i pins s σ H E I hf st go
    subst eP ew eK
    obtain ⟨⟨old, isE⟩, st, ap⟩ := st
    obtain ⟨xs, x, sq, hx⟩ := go
    obtain ⟨vs, rel, isT, _⟩ := I.tuple sq
    obtain ⟨u, hu, ru⟩ := rel.get hx
    have le : e < s.heap.objs.size := Heap.lt_size isE
    have li : it < s.heap.objs.size := by obtain ⟨_, z, _⟩ := st; exact Heap.lt_size z
    refine ent_turn isE st (show s.heap.IsTuple a vs.toArray from isT) (x := u) (by simpa using hu) ap fun h1 o1 st1 pair1 k1 => ?_
    refine ⟨_, rfl, wpAny_letOwnedTupleGo_enum (s := { s with heap := h1, toks := s.toks + 1 }) o1 fun h2 o2 sb => ?_⟩
    have pair2 : h2.get? s.heap.objs.size = some { cls := .type "tuple", data := .seq #[.int i s.toks, u] } := (sb.2 _ (Nat.ne_of_gt le)).trans pair1
    have fresh : ObjOk X.prog X.w (upd H s.heap.objs.size (.tup [.int (i : Nat), x])) h2 s.heap.objs.size (.tup [.int (i : Nat), x]) :=
      ⟨by show 2 ≤ sizeLine; decide, [.int i s.toks, u], .cons ⟨_, rfl⟩ (.cons ru .nil), ⟨_, pair2, rfl, _, rfl⟩⟩
    have J : Inv X pins σ (upd H s.heap.objs.size (.tup [.int (i : Nat), x])) { s with heap := h2, toks := s.toks + 1 } :=
      I.turnedNew (ch := [e, it]) (fun b ob nb z => (sb.2 b (fun y => nb (by simp [y]))).trans (k1 b ob (fun y => nb (by simp [y])) (fun y => nb (by simp [y])) z)) hf (Nat.le_refl _) fresh
    refine ⟨.ref s.heap.objs.size, _, J, rfl, ⟨_, x, rfl, I.hok.fresh (Nat.le_refl _), rfl, fun ys hy => by rw [I.tuple_inj hy sq]; exact hx⟩, ⟨⟨u, ?_⟩, st1.at fun o z => (sb.2 it (Ne.symm ap)).trans z, ap⟩, fun b hb => ?_⟩
    · rw [show ((i + 1 : Nat) : Int) = (i : Int) + 1 by omega]
      exact o2
    · have lb : b < s.heap.objs.size := by
        rcases (by simpa using hb : b = e ∨ b = it) with z | z
        · rw [z]; exact le
        · rw [z]; exact li
      rw [upd_ne (Nat.ne_of_lt lb)]
      exact (hf b hb).1
  done := by
    intro X eP ew eK hc i pins s σ H E I hf st go
    subst eP ew eK
    obtain ⟨⟨old, isE⟩, st, ap⟩ := st
    obtain ⟨xs, sq, hx⟩ := go
    obtain ⟨vs, rel, isT, _⟩ := I.tuple sq
    obtain ⟨g0, g1, g2, g3, g4, g5⟩ := hf it (by simp)
    have hlen := rel.length
    exact ent_stop (I.ok.hd hc) isE st (show s.heap.IsTuple a vs.toArray from isT) (by simp; omega) fun h1 ext => ⟨rfl, I.turned (t' := s.toks) (fun b o nb z => ext b o nb z) g0 g1 g3 g4 g5⟩
  self := fun A i s Q E ⟨⟨_, isE⟩, _⟩ h => wpAny_pyIter_enum isE h
def iET (K : PySem.W.Frag) (ta : TA) : TI := fun σ H R => ta σ H fun vs H1 => ∃ a xs, vs = [.ref a] ∧ SqT K H1 a xs ∧ R (ItET K a) H1
theorem kpiET {X : Cx} {e : Expr} {ta : TA} {p pos tpos : Pos} {elts : List Expr} {kk : Nat} (K : PySem.W.Frag) (hg : Gl X "enumerate") (hm : X.mg "enumerate" = none) (ha : PA X [e] ta) (hs : starEach [e] X.env = [(false, eval e X.env)] := by rfl) (hK : X.K = K := by rfl) :
    PI X (.Tuple elts kk tpos) (.Call (.Name "enumerate" p) [e] [] pos) (iET K ta) := by
  subst hK
  refine ⟨fun pins s σ H R I h => Call_ (ld_blt I hg hm boot_enumerate (PyProof.Rows.callWith_type1 (thn (ha.run pos pins s σ H _ I h) fun us s1 ⟨vs, H1, J, r, a, xs, ev, sq, q⟩ => ?_) hs rfl))⟩
  subst ev
  cases r with
  | cons r rr =>
    cases rr
    cases r
    obtain ⟨ws, rel, isT, _⟩ := J.tuple sq
    refine ent_make (show s1.heap.IsTuple a ws.toArray from isT) fun h1 isE st k => wpAny_pyIter_enum isE ?_
    refine ⟨s1.heap.objs.size + 1, [s1.heap.objs.size + 1, s1.heap.objs.size], _, _, H1, rfl, J.kept (t' := s1.toks) k, turn_ET a _ _, ⟨⟨.none, isE⟩, st, Nat.succ_ne_self _⟩, fun b hb => ?_, q⟩
    have lb : s1.heap.objs.size ≤ b := by
      rcases (by simpa using hb : b = s1.heap.objs.size + 1 ∨ b = s1.heap.objs.size) with z | z
      · rw [z]; exact Nat.le_succ _
      · rw [z]; exact Nat.le_refl _
    exact J.fpOk lb (J.hok.fresh lb)
theorem walk_ET {K : PySem.W.Frag} {a : Addr} {xs : List V} : Walk (ItET K a) xs.length (fun H => SqT K H a xs) (YPair (fun i => some (.int (i : Nat))) (fun i => xs[i]?)) := by
  refine ⟨fun i _ hi q => ⟨xs, xs[i], q, by simp [hi]⟩, fun _ q => ⟨xs, q, Nat.le_refl _⟩, fun i H v H' _ q ⟨T, x, h1, h2, h3, h4⟩ => ?_⟩
  exact ⟨T, .int (i : Nat), x, h1, h2, h3, rfl, h4 xs q⟩
/-- for k, x in enumerate(t): -/
theorem for_ET {K : PySem.W.Frag} {a : Addr} {xs : List V} {g : TG} {tb : TS} {D : Ends} {σ : L2.St} {H : Hp} (Pv : Nat → L2.St → Hp → Prop) (h0 : Pv 0 σ H) (hl : ∀ i σ H, i ≤ xs.length → Pv i σ H → SqT K H a xs)
    (hs : ∀ i x σ H T, xs[i]? = some x → Pv i σ H → H T = none → g (.ref T) σ (upd H T (.tup [.int (i : Nat), x])) fun σ2 H2 => tb { D with nx := Pv (i + 1), ct := Pv (i + 1), bk := D.nx } σ2 H2) (hd : ∀ σ H, Pv xs.length σ H → D.nx σ H) :
    ∃ W : Nat → Nat → L2.St → Hp → Prop, (∃ m, W 0 m σ H) ∧ ∀ i m σ H, W i m σ H →
      ((ItET K a).stop i H ∧ D.nx σ H) ∨ ((ItET K a).go i H ∧ ∃ N : L2.St → Hp → Prop, (∀ σ' H', N σ' H' → ∃ m', m' < m ∧ W (i + 1) m' σ' H') ∧ ∀ x H', (ItET K a).yld i H x H' → g x σ H' fun σ2 H2 => tb { D with nx := N, ct := N, bk := D.nx } σ2 H2) := by
  refine ⟨fun i m σ H => m = xs.length - i ∧ i ≤ xs.length ∧ Pv i σ H, ⟨_, rfl, Nat.zero_le _, h0⟩, ?_⟩
  rintro i m σ H ⟨rfl, hi, p⟩
  have sq := hl i σ H hi p
  by_cases lt : i < xs.length
  · refine .inr ⟨walk_ET.goes i H lt sq, Pv (i + 1), fun σ' H' p' => ⟨xs.length - (i + 1), by omega, rfl, lt, p'⟩, fun x H' y => ?_⟩
    obtain ⟨T, n, z, rfl, h2, rfl, h3, h4⟩ := walk_ET.yields i H x H' lt sq y
    cases h3
    exact hs i z σ H T h4 p h2
  · have e : i = xs.length := by omega
    subst e
    exact .inl ⟨walk_ET.stops H sq, hd σ H p⟩
end Od
namespace Od
open PySem L2 Evl
theorem kpiE {X : Cx} {e : Expr} {ta : TA} {p pos tpos : Pos} {elts : List Expr} {kk : Nat} (K : PySem.W.Frag) (hg : Gl X "enumerate") (hm : X.mg "enumerate" = none) (ha : PA X [e] ta) (hs : starEach [e] X.env = [(false, eval e X.env)] := by rfl) (h : X.K = K := by rfl) :
    PI X (.Tuple elts kk tpos) (.Call (.Name "enumerate" p) [e] [] pos) (iEnum K ta) := by
  subst h
  exact pi_enum hg hm ha hs
end Od
namespace Od
open PySem L2 Evl
abbrev ClsV (H : Hp) : List V → List Cl → Prop := Paired (ClV H)
theorem ClsV.tk {H H' : Hp} {vs : List V} {cs : List Cl} (e : TK H H') (h : ClsV H vs cs) : ClsV H' vs cs := Paired.mapP h fun _ _ => ClV.tk e
/-- the clip is there at the frame -/
def Cl.here (c : Cl) (f : Int) : Prop := c.s ≤ f ∧ f < c.fin
/-- the first clip that is there -/
def First (cs : List Cl) (f : Int) : Option Nat → Prop
  | none => ∀ c ∈ cs, ¬ c.here f
  | some i => ∃ c, cs[i]? = some c ∧ c.here f ∧ ∀ j < i, ∀ d, cs[j]? = some d → ¬ d.here f
theorem First.uniq {cs : List Cl} {f : Int} {o p : Option Nat} (h : First cs f o) (k : First cs f p) : o = p := by
  cases o with
  | none =>
    cases p with
    | none => rfl
    | some i =>
      obtain ⟨c, hc, h1, _⟩ := k
      exact absurd h1 (h c (List.mem_of_getElem? hc))
  | some i =>
    obtain ⟨c, hc, h1, h2⟩ := h
    cases p with
    | none => exact absurd h1 (k c (List.mem_of_getElem? hc))
    | some j =>
      obtain ⟨d, hd, k1, k2⟩ := k
      by_cases e : i = j
      · rw [e]
      · by_cases lt : i < j
        · exact absurd h1 (k2 i lt c hc)
        · exact absurd k1 (h2 j (by omega) d hd)
/-- what stands in the lane -/
def LnV (H : Hp) (v : V) (cs : List Cl) (f : Int) : Option Nat → Prop
  | none => v = .non
  | some i => ∃ c a u, cs[i]? = some c ∧ v = .ref a ∧ H a = some (.tup [u, .int (c.lev f)]) ∧ OpV H u c.pa
theorem LnV.tk {H H' : Hp} {v : V} {cs : List Cl} {f : Int} {o : Option Nat} (e : TK H H') (h : LnV H v cs f o) : LnV H' v cs f o := by
  cases o with
  | none => exact h
  | some i =>
    obtain ⟨c, a, u, hc, rfl, ha, hu⟩ := h
    exact ⟨c, a, u, hc, rfl, e _ _ ha, hu.tk e⟩
theorem Pa.lay (p : Pa) : p.D.canLay0 = true := by
  cases p with
  | solid x => simp only [Pa.D, PyData.canLay0, PyData.canLayAll0, Bool.and_true]; decide +kernel
  | steps f s z => simp only [Pa.D, PyData.canLay0, PyData.canLayAll0, Bool.and_true]; decide +kernel
  | pic p =>
    simp only [Pa.D, PyData.canLay0, PyData.canLayAll0, Bool.and_true, pc_lay]
    decide +kernel
theorem op_lay (o : Option Pa) : (opD o).canLay0 = true := by
  cases o with
  | none => rfl
  | some p => exact p.lay
theorem pcD_depth (p : Pc) : (pcD p).depth ≤ 2 := by
  simp only [pcD, PyData.depth, PyData.depthAll, depth_ints]
  decide
theorem op_depth (o : Option Pa) : (opD o).depth ≤ 3 := by
  cases o with
  | none => decide
  | some p =>
    cases p with
    | solid x => simp only [opD, Pa.D, PyData.depth, PyData.depthAll]; decide
    | steps f s z => simp only [opD, Pa.D, PyData.depth, PyData.depthAll]; decide
    | pic p =>
      have := pcD_depth p
      simp only [opD, Pa.D, PyData.depth, PyData.depthAll]
      omega
end Od
namespace Od
open PySem L2 Evl
def Apart (cs : List Cl) : Prop := cs.Pairwise fun c d => c.fin ≤ d.s
def Cl.inside (c : Cl) (m : Int) : Bool := decide (c.s < m) && decide (m < c.fin)
def Cl.fades (c : Cl) (m : Int) : Bool := decide (m < c.s + c.fi) || decide (c.fin - c.fo < m)
def Cl.bad (m : Int) (c : Cl) : Bool := c.inside m && c.fades m
/-- what a word of the timeline gives: clips, or an error's word and place -/
inductive TL where
  | ok (cs : List Cl) | err (w : Str) (n : Int)
def Cl.keep (a b : Int) (c : Cl) : Bool := decide (c.fin ≤ a) || decide (b ≤ c.s)
def Cl.shift (n : Int) (c : Cl) : Cl := ⟨c.s + n, c.n, c.pa, c.fi, c.fo⟩
/-- the answer as a value -/
def ResV (H : Hp) (v : V) : TL → Prop
  | .ok cs => ∃ a us, v = .ref a ∧ H a = some (.tup us) ∧ ClsV H us cs
  | .err w n => ∃ a, v = .ref a ∧ H a = some (.lst [.str w, .int n])
theorem ResV.ex {H H' : Hp} {v : V} {r : TL} (e : Ex H H') (h : ResV H v r) : ResV H' v r := by
  cases r with
  | ok cs =>
    obtain ⟨a, us, rfl, h1, h2⟩ := h
    exact ⟨a, us, rfl, e _ _ h1, h2.tk (TK.ex e)⟩
  | err w n =>
    obtain ⟨a, rfl, h1⟩ := h
    exact ⟨a, rfl, e _ _ h1⟩
def clD (c : Cl) : PyData := .tuple [.int c.s, .int c.n, opD c.pa, .int c.fi, .int c.fo]
theorem ClV.dp {K : PySem.W.Frag} {H : Hp} {v : V} {c : Cl} (h : ClV H v c) : Dp K H v (clD c) := by
  obtain ⟨a, u, rfl, ha, hu⟩ := h
  exact .tup (SqT.of ha) (.cons (.int _) (.cons (.int _) (.cons hu.dp (.cons (.int _) (.cons (.int _) .nil)))))
def clsD (cs : List Cl) : PyData := .tuple (cs.map clD)
/-- the words of the timeline -/
inductive Ask where
  | cut (m : Int) | join (p : Int) | move (p d : Int) | trim (p s n : Int) | lift (a b : Int) | place (c : Cl) | rout (a b : Int) | rin (m n : Int)
def Ask.word : Ask → Str
  | .cut _ => "cut" | .join _ => "join" | .move _ _ => "move" | .trim _ _ _ => "trim" | .lift _ _ => "lift" | .place _ => "place" | .rout _ _ => "ripple out" | .rin _ _ => "ripple in"
/-- the numbers, in a list -/
def NumsV (H : Hp) (a : Addr) : Ask → Prop
  | .cut m => H a = some (.lst [.int m])
  | .join p => H a = some (.lst [.int p])
  | .move p d => H a = some (.lst [.int p, .int d])
  | .trim p s n => H a = some (.lst [.int p, .int s, .int n])
  | .lift x y => H a = some (.lst [.int x, .int y])
  | .place c => ∃ v, H a = some (.lst [v]) ∧ ClV H v c
  | .rout x y => H a = some (.lst [.int x, .int y])
  | .rin m n => H a = some (.lst [.int m, .int n])
theorem NumsV.ex {H H' : Hp} {a : Addr} {k : Ask} (e : Ex H H') (h : NumsV H a k) : NumsV H' a k := by
  cases k with
  | place c =>
    obtain ⟨v, h1, h2⟩ := h
    exact ⟨v, e _ _ h1, h2.tk (TK.ex e)⟩
  | _ => exact e _ _ h
end Od
namespace Od
open PySem L2 Evl
/-- a layer that adjusts has bare clips, another one paints -/
def AdjOk (ad : Bool) (c : Cl) : Prop := (ad = true → c.pa = none ∧ c.fi = 0 ∧ c.fo = 0) ∧ (ad = false → ∃ p, c.pa = some p)
end Od
namespace Od
open PySem PySem.Spec PyProof.Rows L2 Evl
section
variable {X : Cx} {o e : Expr} {es : List Expr} {t : TA} {x : Str} {p1 p2 pos : Pos} {CX : CXT} {k : Nat} {f D : Addr} {fd : FuncData} {ps : List Str} {sp : Sp} {ds : List Value} {dvs : List V} {E : XK} {pl : Sem Bool}
/-- Base.__init__(self, ..), Base an own class: the def is called -/
theorem pe_binit (F1 : FnOk X.prog X.w X.K X.mg X.base CX k f fd ps sp) (hr : Room k X.A) (hg : Gl X x) (hm : X.mg x = some (.ref D)) (rd : PySem.W.readsIn X.K D (.type "type") = true)
    (ga : PySem.W.specialIn X.K (.ref D) "__getattribute__" = some (some (.builtin "type.__getattribute__"))) (fa : PySem.W.findCls X.K (.ref D) (.type "type") "__init__" = some (.val (.ref f))) (kf : PySem.W.keepIn X.K (.ref f) = true)
    (hb : Binds X.K fd ps ds) (hd : Vals dvs ds) (hx : Passes CX X E) (ha : PA X (e :: es) t)
    (hdb : (x == ("__debug__" : Str)) = false := by decide) (he : starEach (e :: es) X.env = (false, eval e X.env) :: starEach es X.env := by rfl) (hpl : (backTo pos (starEach es X.env)).any (·.1) = false := by rfl)
    (hc : eval (.Call (.Attribute (.Name x p1) "__init__" p2) (e :: es) [] pos) X.env = (do
      let base ← eval (.Name x p1) X.env
      standAt p2.atName
      let (g, first) ← holding [base] (getMethod base "__init__" pl)
      callWith pos g first (backTo pos (starEach (e :: es) X.env)) (backToKw pos (keywordEach [] X.env))) := by rfl) :
    PE X (.Call (.Attribute (.Name x p1) "__init__" p2) (e :: es) [] pos) (tCall sp dvs E t) :=
  ⟨fun pins s σ H Q I h => PySem.W.methodCall_KW (ld_glob I hg hm (PySem.W.method_cls I.kIn ga (PySem.W.cls_value I.kIn rd fa rfl
    (PySem.W.callWith_K (h₀ := X.base) I.ok.mod.kin kf (thn (ha.run pos pins _ σ H _ (I.tok _) h) fun us s1 ⟨vs, H1, J, r, q⟩ => ⟨J.kIn, run_fn F1 hr hb hd hx J r q⟩) he hpl))) hdb) hc⟩
/-- Kind() -/
theorem pmk_none {C fI : Addr} (T : OexC X.K C) (iC : PySem.W.findIn X.K (.ref C) "__init__" = some (some (.ref fI))) (tI : PySem.W.typeIn X.K (.ref fI) = some (.type "function")) (F1 : FnOk X.prog X.w X.K X.mg X.base CX k fI fd ps sp) (hr : Room (k + 1) X.A)
    (hb : Binds X.K fd ps ds) (hd : Vals dvs ds) (hx : Passes CX X (fun _ _ _ => False)) (hg : Gl X x) (hm : X.mg x = some (.ref C)) (hdb : (x == ("__debug__" : Str)) = false := by decide) :
    PMk X (.Call (.Name x p1) [] [] pos) (tMkO C sp dvs tNil) := by
  intro pins s σ H Q I ⟨_, h⟩
  obtain ⟨nm, qn, N, bs, bm, sn, sub, ab, col, dd, k0, k1, k2, k3, k5, look, tail⟩ := T.cls
  refine wpAny_Call_Name_kw (ld_glob I hg hm (PySem.W.callWith_K0 I.kIn T.kC ?_) hdb)
  show wpAny _ _ (call (.ref C) []) _ _ _
  obtain ⟨hp, gens, dr, tk, os⟩ := s
  have up : hp.objs.size ≤ hp.objs.size + 1 := Nat.le_succ _
  have q0 := h (hp.objs.size + 1) (I.hok.fresh up)
  have more : ∀ b ob, hp.get? b = some ob → ((hp.push (PySem.W.kdv_tup [])).push (PySem.HandSPX.excO C hp.objs.size)).get? b = some ob := fun b ob z => Heap.get?_push_of_some _ (Heap.get?_push_of_some _ z)
  have there : ((hp.push (PySem.W.kdv_tup [])).push (PySem.HandSPX.excO C hp.objs.size)).get? (hp.objs.size + 1) = some (PySem.HandSPX.excO C hp.objs.size) := by heap_get
  have J : Inv X pins σ (upd H (hp.objs.size + 1) (exo (hp.objs.size + 1) C none)) ⟨(hp.push (PySem.W.kdv_tup [])).push (PySem.HandSPX.excO C hp.objs.size), gens, dr, tk, os⟩ :=
    I.laid (t' := tk) (a := hp.objs.size + 1) (o := exo (hp.objs.size + 1) C none) (h' := (hp.push (PySem.W.kdv_tup [])).push (PySem.HandSPX.excO C hp.objs.size)) more up (exo_ok there)
  have rel : Vals (V.ref (hp.objs.size + 1) :: ([] ++ dvs)) (Value.ref (hp.objs.size + 1) :: ds) := .cons rfl hd
  have len : (Value.ref (hp.objs.size + 1) :: [] ++ ds).length = ps.length := by
    have z := rel.length
    rw [F1.len _ _ _ _ q0] at z
    exact z.symm
  refine wpAny_call (PySem.HandSPX.call_own F.excBase_ValueError (fun Y => PySem.HandSPX.refsVE_contains Y bm tail) (I.kIn _ _ look) (PySem.W.looks_findIn I.kIn iC) (fun self => PySem.W.bind_fn I.kIn self tI) (by show 0 ≤ sizeLine; exact Nat.zero_le _) ?_)
  refine codeAny_mono (F1.run _ X.stack _ _ ⟨[Value.ref (hp.objs.size + 1)], []⟩ (Value.ref (hp.objs.size + 1) :: ds) _ _ (fun _ _ _ => False) (hr.make C [] []) (J.env0.make C [] []) (by have z := hb _ [Value.ref (hp.objs.size + 1)] J.kIn len; exact z) rel q0) fun r s' w => ?_
  match r, w with
  | .error er, w => exact hx pins σ _ _ er s' J w
  | .ok (.ret u), ⟨v, H2, os2, bare2, un2, hok2, rv, ev, d, fs, ea, ed, hd1, q2⟩ =>
    subst ev
    obtain ⟨h2, g2, d2, t2, os'⟩ := s'
    exact ⟨rv, mk_end (raises_own T.exC T.tyC) I up more un2 hok2 os2 bare2 ea ed hd1 q2⟩
  | .ok .next, w => exact w.elim
  | .ok .brk, w => exact w.elim
  | .ok .cont, w => exact w.elim
end
/-- the def that stands first in a class's body -/
def clsDef (s : Stmt) : Stmt := match s with
  | .ClassDef _ _ _ b _ _ _ _ _ _ _ => b.getD 0 (.Pass ⟨0, 0, 0, 0⟩)
  | _ => .Pass ⟨0, 0, 0, 0⟩
/-- what the written part says of the program's own base error -/
structure FilmTxt (K : PySem.W.Frag) (mg : Str → Option Value) (D fD : Addr) : Prop where
  g : mg "FilmError" = some (.ref D)
  rd : PySem.W.readsIn K D (.type "type") = true
  ga : PySem.W.specialIn K (.ref D) "__getattribute__" = some (some (.builtin "type.__getattribute__"))
  fa : PySem.W.findCls K (.ref D) (.type "type") "__init__" = some (.val (.ref fD))
  ve : mg "ValueError" = none
  vi : PySem.W.findCls K (.type "ValueError") (.type "type") "__init__" = some (.val (.builtin "ValueError.__init__"))
/-- .. of an error of a kind -/
structure KindTxt (K : PySem.W.Frag) (mg : Str → Option Value) (x : Str) (C fC : Addr) : Prop where
  g : mg x = some (.ref C)
  T : OexC K C
  xf : XfC K C
  noW : PySem.W.findIn K (.ref C) "word" = some none
  noP : PySem.W.findIn K (.ref C) "place" = some none
  iC : PySem.W.findIn K (.ref C) "__init__" = some (some (.ref fC))
  tI : PySem.W.typeIn K (.ref fC) = some (.type "function")
  te : PySem.W.exmOne K (.ref C) (.ref C) = some true
theorem exm_self {K : PySem.W.Frag} {S : Addr} (h1 : PySem.W.subIn K (.ref S) (.type "BaseException") = some true) (h2 : PySem.W.isClsIn K S = true) (h3 : PySem.W.typeIn K (.ref S) = some (.type "type")) (h4 : PySem.W.subIn K (.ref S) (.ref S) = some true) :
    PySem.W.exmOne K (.ref S) (.ref S) = some true := by
  have c1 : (PySem.W.subIn K (.ref S) (.type "BaseException") == some true) = true := by rw [h1] <;> rfl
  have c2 : ((PySem.W.clsIn K S).isSome && PySem.W.typeIn K (.ref S) == some (.type "type")) = true := by
    rw [show (PySem.W.clsIn K S).isSome = true from h2, h3] <;> rfl
  change (if (PySem.W.subIn K (.ref S) (.type "BaseException") == some true) = true then (if ((PySem.W.clsIn K S).isSome && PySem.W.typeIn K (.ref S) == some (.type "type")) = true then PySem.W.subIn K (.ref S) (.ref S) else none) else none) = _
  rw [if_pos c1, if_pos c2, h4]
/-- behind an __init__: the error has its dict -/
def spErrInit (K : PySem.W.Frag) : Sp := fun vs H Q _ => ∃ (a C : Addr) (wd p : V), vs = [.ref a, wd, p] ∧ OexC K C ∧ H a = some (exo a C none) ∧ PySem.W.findIn K (.ref C) "word" = some none ∧ PySem.W.findIn K (.ref C) "place" = some none ∧
  ∀ dx H', H dx = none → dx ≠ a → H' a = some (exo a C (some dx)) → H' dx = some (exd dx [("place", p), ("word", wd)]) → (∀ b, b ≠ a → b ≠ dx → H' b = H b) → Q .non H'
def spKind (K : PySem.W.Frag) (x : Str) : Sp := fun vs H Q _ => ∃ (a C : Addr) (p : V), vs = [.ref a, p] ∧ OexC K C ∧ H a = some (exo a C none) ∧ PySem.W.findIn K (.ref C) "word" = some none ∧ PySem.W.findIn K (.ref C) "place" = some none ∧
  ∀ dx H', H dx = none → dx ≠ a → H' a = some (exo a C (some dx)) → H' dx = some (exd dx [("place", p), ("word", .str x)]) → (∀ b, b ≠ a → b ≠ dx → H' b = H b) → Q .non H'
/-- an error of a kind can be made -/
def KindOk (P : Program) (w : World) (K : PySem.W.Frag) (mg : Str → Option Value) (base : Heap) (x : Str) (C : Addr) : Prop :=
  ∃ fC, KindTxt K mg x C fC ∧ ∃ fd, FnOk P w K mg base CX0 2 fC fd ["self", "place"] (spKind K x) ∧ (∃ ds, Vals [.non] ds ∧ Binds K fd ["self", "place"] ds) ∧ Binds K fd ["self", "place"] []
/-- the dict of an error as it flies -/
def errD (x : Str) (p : V) : HO := .xd [("place", p), ("word", .str x)]
section
variable {X : Cx} {x : Str} {C fC : Addr} {p : V} {H : Hp} {Q : XK}
/-- what is left of Kind(..): its dict -/
theorem kind_made {K : PySem.W.Frag} {mg : Str → Option Value} (T : KindTxt K mg x C fC) {a : Addr} (ha : H a = none) (h : ∀ d H', H d = none → Ex H H' → H' d = some (errD x p) → Q (.ref C) (some d) H') :
    spKind K x [.ref a, p] (upd H a (exo a C none)) (fun v H2 => v = .non ∧ ∃ (d : Addr) (fs : List (Str × V)), H2 a = some (exo a C (some d)) ∧ H2 d = some (exd d fs) ∧ H d = none ∧ Q (.ref C) (some d) (upd (del H2 a) d (.xd fs))) (fun _ _ _ => False) := by
  refine ⟨a, C, p, rfl, T.T, upd_same, T.noW, T.noP, fun dx H' hd hne h1 h2 h3 => ⟨rfl, dx, _, h1, h2, ?_, ?_⟩⟩
  · rwa [upd_ne hne] at hd
  · rw [upd_ne hne] at hd
    refine h dx _ hd (fun b o hb => ?_) upd_same
    have n1 : b ≠ a := fun z => by rw [z, ha] at hb; cases hb
    have n2 : b ≠ dx := fun z => by rw [z, hd] at hb; cases hb
    rw [upd_ne n2, del_ne n1, h3 b n1 n2, upd_ne n1]
    exact hb
end
end Od
namespace Od
open PySem L2 Evl
theorem Kn.asTup {H : Hp} {v : V} {T : String} (k : Kn H v T) (h : isA T "tuple" = true) : ∃ a xs, v = .ref a ∧ H a = some (.tup xs) := by
  cases k with
  | tup h1 => exact ⟨_, _, rfl, h1⟩
  | non => exact absurd h (by decide +kernel)
  | bl b => exact absurd h (by decide +kernel)
  | int i => exact absurd h (by decide +kernel)
  | str x => exact absurd h (by decide +kernel)
  | lst h1 => exact absurd h (by decide +kernel)
theorem Kn.noTup {H : Hp} {v : V} {T : String} (k : Kn H v T) (h : isA T "tuple" = false) : ∀ a xs, v = .ref a → H a ≠ some (.tup xs) := by
  intro a xs e z
  cases k with
  | tup h1 => exact absurd h (by decide +kernel)
  | lst h1 =>
    cases e
    rw [h1] at z
    cases z
  | _ => cases e
/-- known, its tuples of at most m items, told n tuples deep -/
def Deep (m : Nat) : Nat → Hp → V → Prop
  | 0, H, v => ∃ T, Kn H v T
  | n + 1, H, v => (∃ T, Kn H v T) ∧ ∀ a xs, v = .ref a → H a = some (.tup xs) → xs.length ≤ m ∧ ∀ x ∈ xs, Deep m n H x
theorem Deep.kn {m n : Nat} {H : Hp} {v : V} (h : Deep m n H v) : ∃ T, Kn H v T := by
  cases n with
  | zero => exact h
  | succ n => exact h.1
theorem Deep.ex {m : Nat} : ∀ {n : Nat} {H H' : Hp} {v : V}, Ex H H' → Deep m n H v → Deep m n H' v
  | 0, _, _, _, e, ⟨T, k⟩ => ⟨T, k.mono e⟩
  | n + 1, H, H', v, e, ⟨⟨T, k⟩, h⟩ => by
    refine ⟨⟨T, k.mono e⟩, fun a xs ev ha => ?_⟩
    cases k with
    | tup h1 =>
      cases ev
      rw [e _ _ h1] at ha
      cases ha
      obtain ⟨l, q⟩ := h _ _ rfl h1
      exact ⟨l, fun x hx => (q x hx).ex e⟩
    | lst h1 =>
      cases ev
      rw [e _ _ h1] at ha
      cases ha
    | _ => cases ev
theorem Deep.le {m m' : Nat} (lm : m ≤ m') : ∀ {n : Nat} {H : Hp} {v : V}, Deep m n H v → Deep m' n H v
  | 0, _, _, h => h
  | n + 1, _, _, ⟨k, h⟩ => ⟨k, fun a xs ev ha => ⟨Nat.le_trans (h a xs ev ha).1 lm, fun x hx => ((h a xs ev ha).2 x hx).le lm⟩⟩
/-- nothing in it is a tuple -/
theorem Deep.flat {m n : Nat} {H : Hp} {v : V} {T : String} (k : Kn H v T) (h : ∀ a xs, v = .ref a → H a ≠ some (.tup xs)) : Deep m n H v := by
  cases n with
  | zero => exact ⟨T, k⟩
  | succ n => exact ⟨⟨T, k⟩, fun a xs ev ha => absurd ha (h a xs ev)⟩
theorem Deep.non {m n : Nat} {H : Hp} : Deep m n H .non := .flat .non fun _ _ z => by cases z
theorem Deep.bl {m n : Nat} {H : Hp} {b : Bool} : Deep m n H (.bl b) := .flat (.bl b) fun _ _ z => by cases z
theorem Deep.int {m n : Nat} {H : Hp} {i : Int} : Deep m n H (.int i) := .flat (.int i) fun _ _ z => by cases z
theorem Deep.str {m n : Nat} {H : Hp} {x : Str} : Deep m n H (.str x) := .flat (.str x) fun _ _ z => by cases z
theorem Deep.lst {m n : Nat} {H : Hp} {a : Addr} {xs : List V} (h : H a = some (.lst xs)) : Deep m n H (.ref a) := .flat (.lst h) fun _ _ e z => by
  cases e
  rw [h] at z
  cases z
theorem Deep.tup {m n : Nat} {H : Hp} {a : Addr} {xs : List V} (h : H a = some (.tup xs)) (l : xs.length ≤ m) (q : ∀ x ∈ xs, Deep m n H x) : Deep m (n + 1) H (.ref a) :=
  ⟨⟨_, .tup h⟩, fun b ys e hb => by
    cases e
    rw [h] at hb
    cases hb
    exact ⟨l, q⟩⟩
theorem Deep.at {m n : Nat} {H : Hp} {a : Addr} {xs : List V} (d : Deep m (n + 1) H (.ref a)) (h : H a = some (.tup xs)) : xs.length ≤ m ∧ ∀ x ∈ xs, Deep m n H x := d.2 a xs rfl h
/-- one of the strange values: a tuple among them has only numbers -/
def Odd (H : Hp) (v : V) : Prop := (∃ T, Kn H v T) ∧ ∀ a xs, v = .ref a → H a = some (.tup xs) → xs.length ≤ 2 ∧ ∀ x ∈ xs, ∃ i, x = .int i
theorem Odd.flat {H : Hp} {v : V} {T : String} (k : Kn H v T) (h : ∀ a xs, v = .ref a → H a ≠ some (.tup xs)) : Odd H v := ⟨⟨T, k⟩, fun a xs ev ha => absurd ha (h a xs ev)⟩
theorem Odd.lst {H : Hp} {a : Addr} {xs : List V} (h : H a = some (.lst xs)) : Odd H (.ref a) := .flat (.lst h) fun _ _ e z => by
  cases e
  rw [h] at z
  cases z
theorem Odd.tup {H : Hp} {a : Addr} {xs : List V} (h : H a = some (.tup xs)) (l : xs.length ≤ 2) (q : ∀ x ∈ xs, ∃ i, x = .int i) : Odd H (.ref a) :=
  ⟨⟨_, .tup h⟩, fun b ys e hb => by
    cases e
    rw [h] at hb
    cases hb
    exact ⟨l, q⟩⟩
theorem Odd.non {H : Hp} : Odd H .non := .flat .non fun _ _ z => by cases z
theorem Odd.bl {H : Hp} {b : Bool} : Odd H (.bl b) := .flat (.bl b) fun _ _ z => by cases z
theorem Odd.int {H : Hp} {i : Int} : Odd H (.int i) := .flat (.int i) fun _ _ z => by cases z
theorem Odd.str {H : Hp} {x : Str} : Odd H (.str x) := .flat (.str x) fun _ _ z => by cases z
theorem Odd.ex {H H' : Hp} {v : V} (e : Ex H H') (h : Odd H v) : Odd H' v := by
  obtain ⟨⟨T, k⟩, q⟩ := h
  refine ⟨⟨T, k.mono e⟩, fun a xs ev ha => ?_⟩
  cases k with
  | tup h1 =>
    cases ev
    rw [e _ _ h1] at ha
    cases ha
    exact q _ _ rfl h1
  | lst h1 =>
    cases ev
    rw [e _ _ h1] at ha
    cases ha
  | _ => cases ev
end Od
namespace Od
open PySem L2 Evl PySem.Spec PyProof.Rows
def isW (w : Str) : V → Bool
  | .str x => x == w
  | _ => false
section
variable {X : Cx}
theorem rc_of {prog : Program} {w : World} {A : Around} {E : Value → Shared → Prop} {s : Shared} {Q : Value → Shared → Prop} {a b : Value} {k : Bool} (h : SeqAt.RcAt A s a b k) (hq : Q (.bool k) s) : wpAny (model prog w) A (compareOp .Eq a b) Q E s := h prog w E Q hq
/-- x == 'w', x of a known kind -/
def rEqW : R2 := fun x y H Q => ∃ T w, Kn H x T ∧ y = .str w ∧ Q (.bl (isW w x)) H
theorem op_eqW (hu : X.A.units < cLine) : OpR X (compareOp .Eq) rEqW := by
  intro pins s σ H x y v u Q I rx ry ⟨T, w, kn, e, q⟩
  subst e
  have z := fun (h : rEq x (.str w) H Q) => op_eq pins s σ H x (.str w) v u Q I rx ry h
  have ns : ∀ {c : V}, (∀ y, c ≠ .str y) → isW w c = decide (c = V.str w) := fun {c} hc => by
    rw [decide_eq_false (hc w)]
    cases c with
    | str y => exact absurd rfl (hc y)
    | _ => rfl
  cases kn with
  | non => exact z ⟨rfl, by rw [← ns (fun _ e => by cases e)]; exact q⟩
  | bl b => exact z ⟨rfl, by rw [← ns (fun _ e => by cases e)]; exact q⟩
  | int i => exact z ⟨rfl, by rw [← ns (fun _ e => by cases e)]; exact q⟩
  | str j =>
    refine z ⟨rfl, ?_⟩
    have e : isW w (.str j) = decide (V.str j = V.str w) := by rw [dec_str]; rfl
    rw [← e]
    exact q
  | tup h =>
    cases rx
    obtain ⟨t, rfl⟩ := ry
    obtain ⟨its, _, isT, _⟩ := I.tuple (SqT.of h)
    exact rc_of (SeqAt.RcAt.tuple_str w t (show s.heap.IsTuple _ its.toArray from isT) hu) ⟨.bl false, H, I, rfl, q⟩
  | lst h =>
    cases rx
    obtain ⟨t, rfl⟩ := ry
    obtain ⟨its, _, isL, _⟩ := I.list (SqL.of h)
    exact rc_of (SeqAt.RcAt.list_str w t isL.isList hu) ⟨.bl false, H, I, rfl, q⟩
/-- what a pattern binds: slots, and the names of the model -/
inductive Bnd (X : Cx) : List (Nat × V) → List (Str × Value) → Prop
  | nil : Bnd X [] []
  | cons {i : Nat} {n : Str} {x : V} {u : Value} {vs : List (Nat × V)} {bs : List (Str × Value)} : X.N[i]? = some n → Loc X.env.scope n → (X.fn n = true ∨ X.env.scope.names.lookup n = some .local) → RelV x u → Bnd X vs bs → Bnd X ((i, x) :: vs) ((n, u) :: bs)
def sets (σ : L2.St) : List (Nat × V) → L2.St
  | [] => σ
  | p :: vs => sets (σ.set p.1 (some p.2)) vs
theorem bind_all {pins : List (Addr × Obj)} (hN : X.N.Nodup) {Q : Unit → Shared → Prop} {E : Value → Shared → Prop} : ∀ {vs : List (Nat × V)} {bs : List (Str × Value)} {s : Shared} {σ : L2.St} {H : Hp}, Bnd X vs bs → Inv X pins σ H s → (∀ s', Inv X pins (sets σ vs) H s' → Q () s') →
    wpAny (model X.prog X.w) X.A (assignInOrder (bs.map fun (n, _) => bindName X.env n) (bs.map (·.2))) Q E s
  | _, _, s, σ, H, .nil, I, q => wpAny_assignInOrder_none (q s I)
  | _, _, s, σ, H, .cons hi hx hf r b, I, q => wpAny_assignInOrder_more (wpAny_bindName (store_ok I hN hi hx r (fun s2 I2 => bind_all hN b I2 q) hf))
/-- items against values: the reading; what is bound, or no match -/
abbrev TPs := List V → Hp → (List (Nat × V) → Prop) → Prop → Prop
def MP (X : Cx) (pins : List (Addr × Obj)) (σ : L2.St) (H : Hp) (yes : List (Nat × V) → Prop) (no : Prop) (r : Option (List (Str × Value))) (s' : Shared) : Prop :=
  Inv X pins σ H s' ∧ match r with
    | none => no
    | some bs => ∃ vs, Bnd X vs bs ∧ yes vs
structure PMs (X : Cx) (ps : List Pattern) (t : TPs) : Prop where
  run : ∀ (pins : List (Addr × Obj)) (s : Shared) (σ : L2.St) (H : Hp) (xs : List V) (us : List Value) (yes : List (Nat × V) → Prop) (no : Prop), Inv X pins σ H s → Vals xs us → t xs H yes no → wpAny (model X.prog X.w) X.A (matchEach ps X.env us) (MP X pins σ H yes no) X.xe s
def mNil : TPs := fun xs H yes no => xs = [] ∧ yes []
theorem pms_nil : PMs X [] mNil := ⟨fun pins s σ H xs us yes no I r ⟨e, q⟩ => wpAny_matchEach_nil ⟨I, [], .nil, q⟩⟩
def mCap (i : Nat) (t : TPs) : TPs := fun xs H yes no => ∃ x ys, xs = x :: ys ∧ t ys H (fun bs => yes ((i, x) :: bs)) no
theorem pms_cap {i : Nat} {n : Str} {pos : Pos} {ps : List Pattern} {t : TPs} (hi : X.N[i]? = some n) (hx : Loc X.env.scope n) (h : PMs X ps t) (hf : X.fn n = true ∨ X.env.scope.names.lookup n = some .local := by first | exact .inl rfl | exact .inr rfl | assumption) : PMs X (.MatchAs none (some n) pos :: ps) (mCap i t) := by
  refine ⟨fun pins s σ H xs us yes no I r ⟨x, ys, e, q⟩ => ?_⟩
  subst e
  cases r with
  | cons r1 rr =>
    refine wpAny_matchEach_cons (wpAny_matchPattern_Capture (thn (h.run pins s σ H ys _ _ no I rr q) fun r' s2 ⟨I2, m⟩ => ?_))
    cases r' with
    | none => exact ⟨I2, m⟩
    | some bs =>
      obtain ⟨vs, b, y⟩ := m
      exact ⟨I2, _, .cons hi hx hf r1 b, y⟩
def mWild (t : TPs) : TPs := fun xs H yes no => ∃ x ys, xs = x :: ys ∧ t ys H yes no
theorem pms_wild {pos : Pos} {ps : List Pattern} {t : TPs} (h : PMs X ps t) : PMs X (.MatchAs none none pos :: ps) (mWild t) := by
  refine ⟨fun pins s σ H xs us yes no I r ⟨x, ys, e, q⟩ => ?_⟩
  subst e
  cases r with
  | cons r1 rr =>
    refine wpAny_matchEach_cons (wpAny_matchPattern_Capture (thn (h.run pins s σ H ys _ _ no I rr q) fun r' s2 ⟨I2, m⟩ => ?_))
    cases r' with
    | none => exact ⟨I2, m⟩
    | some bs => exact ⟨I2, m⟩
def mWord (w : Str) (t : TPs) : TPs := fun xs H yes no => ∃ x ys T, xs = x :: ys ∧ Kn H x T ∧ if isW w x = true then t ys H yes no else no
theorem pms_word {w : Str} {j : Nat} {p pos : Pos} {ps : List Pattern} {t : TPs} (hu : X.A.units + 64 < cLine) (h : PMs X ps t) : PMs X (.MatchValue (.Constant (.str w) j p) pos :: ps) (mWord w t) := by
  refine ⟨fun pins s σ H xs us yes no I r ⟨x, ys, T, e, kn, q⟩ => ?_⟩
  subst e
  cases r with
  | cons r1 rr =>
    refine wpAny_matchEach_cons (wpAny_matchPattern_Value (thn (pe_str.run pins s σ H (fun v H' => v = .str w ∧ H' = H) I ⟨rfl, rfl⟩) fun u s1 ⟨v, H1, I1, rv, ev, eH⟩ => ?_))
    subst ev eH
    refine thn (op_eqW (by omega) pins s1 σ H1 x (.str w) _ _ (fun v H' => v = .bl (isW w x) ∧ H' = H1) I1 r1 rv ⟨T, w, kn, rfl, rfl, rfl⟩) fun c s2 ⟨v, H2, I2, rc, ev, eH⟩ => ?_
    subst ev eH
    cases rc
    refine wpAny_truthy_bool ?_
    cases hw : isW w x with
    | false =>
      rw [hw] at q
      exact ⟨I2, q⟩
    | true =>
      rw [hw] at q
      refine thn (h.run pins s2 σ H2 ys _ _ no I2 rr q) fun r' s3 ⟨I3, m⟩ => ?_
      cases r' with
      | none => exact ⟨I3, m⟩
      | some bs => exact ⟨I3, m⟩
/-- the cases -/
structure PCs (X : Cx) (cs : List MatchCase) (t : V → TS) : Prop where
  run : ∀ (pins : List (Addr × Obj)) (s : Shared) (σ : L2.St) (H : Hp) (v : V) (u : Value) (first : Bool) (D : Ends), Inv X pins σ H s → RelV v u → t v D σ H → wpAny (model X.prog X.w) X.A (matchCases cs X.env u first) (SP X pins D) X.xe s
def cElse (tb : TS) : V → TS := fun _ D σ H => tb D σ H
theorem pcs_else {pos : Pos} {body : List Stmt} {rest : List MatchCase} {tb : TS} (hb : PSs X body tb) : PCs X (⟨.MatchAs none none pos, none, body⟩ :: rest) (cElse tb) :=
  ⟨fun pins s σ H v u first D I r q => wpAny_matchCases_cons (wpAny_matchPattern_Capture (wpAny_assignInOrder_none (hb.run pins s σ H D I q)))⟩
def cSeq (K : PySem.W.Frag) (n : Nat) (tp : TPs) (tb : TS) (tr : V → TS) : V → TS := fun v D σ H => ∃ a xs, v = .ref a ∧ SqT K H a xs ∧ if xs.length = n then tp xs H (fun bs => tb D (sets σ bs) H) (tr v D σ H) else tr v D σ H
theorem pcs_seq (K : PySem.W.Frag) {pos : Pos} {ps : List Pattern} {body : List Stmt} {rest : List MatchCase} {tp : TPs} {tb : TS} {tr : V → TS} (hc : X.calm = true) (hN : X.N.Nodup) (hp : PMs X ps tp) (hb : PSs X body tb) (hr : PCs X rest tr)
    (hstar : ps.findIdx? (·.isStar) = none := by rfl) (hwild : (ps.all fun p => p.isWildcard || (p.isStar && p.names.isEmpty)) = false := by rfl) (hK : X.K = K := by rfl) : PCs X (⟨.MatchSequence ps pos, none, body⟩ :: rest) (cSeq K ps.length tp tb tr) := by
  subst hK
  refine ⟨fun pins s σ H v u first D I r ⟨a, xs, e, sq, q⟩ => ?_⟩
  subst e
  have r0 := r
  cases r
  obtain ⟨its, rv, isT, sz⟩ := I.tuple sq
  have len := rv.length
  have fit : ((its.toArray.size : Nat) : Int) < 2 ^ 63 := by
    have e : sizeLine = 16777216 := by decide
    rw [List.size_toArray]
    omega
  refine wpAny_matchCases_cons (wpAny_matchPattern_Sequence (wpAny_collectionFlag (T := "tuple") (b := true) isT.typeIs flag_seq_tuple ?_) hstar hwild)
  refine pyLen_tuple isT fit ?_
  have I1 : Inv X pins σ H { s with toks := s.toks + 1 + 1 } := I.kept (h' := s.heap) (t' := s.toks + 1 + 1) fun _ _ z => z
  by_cases hl : xs.length = ps.length
  · rw [if_pos hl] at q
    have e1 : ((its.toArray.size : Int) != (ps.length : Int)) = false := by
      rw [List.size_toArray]
      simp only [bne_eq_false_iff_eq]
      omega
    rw [e1]
    have e2 : ps.length = its.toArray.size := by rw [List.size_toArray]; omega
    rw [e2]
    refine PySem.wpAny_unpackItems_tuple (s := { s with toks := s.toks + 1 + 1 }) (I.ok.hd hc) (show s.heap.IsTuple a its.toArray from isT) fun h' hx => ?_
    have I2 : Inv X pins σ H { s with heap := h', toks := s.toks + 1 + 1 } := I.kept (t' := s.toks + 1 + 1) fun b o z => hx b o (Nat.ne_of_lt (Heap.lt_size z)) z
    refine thn (hp.run pins _ σ H xs _ _ _ I2 (by simpa using rv) q) fun r' s3 ⟨I3, m⟩ => ?_
    cases r' with
    | none => exact hr.run pins s3 σ H _ _ false D I3 r0 m
    | some bs =>
      obtain ⟨vs, b, y⟩ := m
      exact bind_all hN b I3 fun s4 I4 => hb.run pins s4 _ H D I4 y
  · rw [if_neg hl] at q
    have e1 : ((its.toArray.size : Int) != (ps.length : Int)) = true := by
      rw [List.size_toArray]
      simp only [bne_iff_ne, ne_eq]
      omega
    rw [e1]
    exact hr.run pins _ σ H _ _ false D I1 r0 q
theorem ps_match {e : Expr} {cs : List MatchCase} {pos : Pos} {te : TE} {t : V → TS} (he : PE X e te) (hcs : PCs X cs t) : PS X (.Match e cs pos) (fun D σ H => te σ H fun v H1 => t v D σ H1) :=
  ⟨fun pins s σ H D I h => wpAny_Match (thn (he.run pins s σ H _ I h) fun u s1 ⟨v, H1, I1, r, q⟩ => hcs.run pins s1 σ H1 v u true D I1 r q)⟩
end
theorem lenY {A B : Prop} {n m : Nat} (h : n = m) (q : A) : if n = m then A else B := by
  rw [if_pos h]
  exact q
theorem lenN {A B : Prop} {n m : Nat} (h : n ≠ m) (q : B) : if n = m then A else B := by
  rw [if_neg h]
  exact q
end Od
namespace Od
open PySem L2 Evl
theorem da_kn {H : Hp} {v : V} {d : PyData} (h : Da H v d) : ∃ T, Kn H v T := by
  cases h with
  | non => exact ⟨_, .non⟩
  | bl b => exact ⟨_, .bl b⟩
  | int i => exact ⟨_, .int i⟩
  | str x => exact ⟨_, .str x⟩
  | lst h _ _ => exact ⟨_, .lst h⟩
  | tup h _ _ => exact ⟨_, .tup h⟩
theorem da_item {H : Hp} {x : V} : ∀ {xs : List V} {ds : List PyData}, DaAll H xs ds → x ∈ xs → ∃ d ∈ ds, Da H x d
  | _, _, .cons h k, hx => by
    rcases List.mem_cons.mp hx with rfl | hx
    · exact ⟨_, by simp, h⟩
    · obtain ⟨d, hd, q⟩ := da_item k hx
      exact ⟨d, by simp [hd], q⟩
/-- told, at most B heavy and n deep -/
def DX (B n : Nat) (H : Hp) (v : V) : Prop := ∃ d, Da H v d ∧ Sh B d ∧ d.depth ≤ n ∧ d.canLay0 = true
theorem DX.ex {B n : Nat} {H H' : Hp} {v : V} (e : Ex H H') (h : DX B n H v) : DX B n H' v := by
  obtain ⟨d, h1, h2⟩ := h
  exact ⟨d, h1.mono e, h2⟩
theorem DX.le {B C n m : Nat} {H : Hp} {v : V} (h : DX B n H v) (b : B ≤ C) (l : n ≤ m) : DX C m H v := by
  obtain ⟨d, h1, h2, h3, h4⟩ := h
  exact ⟨d, h1, h2.mono b, Nat.le_trans h3 l, h4⟩
theorem DX.kn {B n : Nat} {H : Hp} {v : V} (h : DX B n H v) : ∃ T, Kn H v T := by
  obtain ⟨d, h1, _⟩ := h
  exact da_kn h1
theorem dx_all {B n : Nat} {H : Hp} : ∀ {xs : List V}, (∀ x ∈ xs, DX B n H x) → ∃ ds, DaAll H xs ds ∧ ShAll ((B + 1) * xs.length) ds ∧ PyData.depthAll ds ≤ n ∧ PyData.canLayAll0 ds = true
  | [], _ => ⟨[], .nil, by rw [List.length_nil, Nat.mul_zero]; exact .nil, Nat.zero_le _, rfl⟩
  | x :: xs, h => by
    obtain ⟨d, h1, h2, h3, h4⟩ := h x (by simp)
    obtain ⟨ds, k1, k2, k3, k4⟩ := dx_all (xs := xs) fun y hy => h y (by simp [hy])
    have z := ShAll.cons h2 k2
    refine ⟨d :: ds, .cons h1 k1, ⟨z.1, z.2, z.3, Nat.le_trans z.4 ?_⟩, ?_, ?_⟩
    · rw [List.length_cons, Nat.mul_add, Nat.mul_one, Nat.add_comm]
      exact Nat.le_refl _
    · simp only [PyData.depthAll]
      exact Nat.max_le.mpr ⟨h3, k3⟩
    · simp only [PyData.canLayAll0, h4, k4, Bool.and_self]
theorem DX.tup {B n m : Nat} {H : Hp} {a : Addr} {xs : List V} (ha : H a = some (.tup xs)) (l : xs.length ≤ m) (hm : m ≤ 1000000) (h : ∀ x ∈ xs, DX B n H x) : DX ((B + 1) * m) (n + 1) H (.ref a) := by
  obtain ⟨ds, k1, k2, k3, k4⟩ := dx_all h
  refine ⟨.tuple ds, .tup ha k1 (by rw [← DaAll.length k1]; omega), k2.tup.mono (Nat.mul_le_mul_left _ l), ?_, ?_⟩
  · simp only [PyData.depth]
    omega
  · simp only [PyData.canLay0]
    exact k4
theorem DX.lst {B n m : Nat} {H : Hp} {a : Addr} {xs : List V} (ha : H a = some (.lst xs)) (l : xs.length ≤ m) (hm : m ≤ 1000000) (h : ∀ x ∈ xs, DX B n H x) : DX ((B + 1) * m) (n + 1) H (.ref a) := by
  obtain ⟨ds, k1, k2, k3, k4⟩ := dx_all h
  refine ⟨.list ds, .lst ha k1 (by rw [← DaAll.length k1]; omega), k2.lst.mono (Nat.mul_le_mul_left _ l), ?_, ?_⟩
  · simp only [PyData.depth]
    omega
  · simp only [PyData.canLay0]
    exact k4
theorem DX.non {H : Hp} : DX 60 0 H .non := ⟨_, .non, ⟨rfl, rfl, by decide, by decide⟩, by decide, rfl⟩
theorem DX.bl {H : Hp} {b : Bool} : DX 60 0 H (.bl b) := ⟨_, .bl b, by cases b <;> exact ⟨rfl, rfl, by decide, by decide⟩, by simp only [PyData.depth]; decide, rfl⟩
theorem DX.int {H : Hp} {i : Int} (h1 : -1000000 ≤ i) (h2 : i ≤ 1000000) : DX 60 0 H (.int i) := ⟨_, .int i, (sh_int h1 h2).mono (by decide), by simp only [PyData.depth]; decide, rfl⟩
theorem DX.str {H : Hp} {x : Str} (h : (PyData.str x).showable = true) (h1 : (PyData.str x).leavesShort 13 = true) (h2 : (PyData.str x).weight ≤ 60) (h3 : (PyData.str x).canLay0 = true) : DX 60 0 H (.str x) := ⟨_, .str x, ⟨h, rfl, h1, h2⟩, by simp only [PyData.depth]; decide, h3⟩
/-- the items of what is told -/
theorem sh_mem {B : Nat} {d : PyData} : ∀ {ds : List PyData}, ShAll B ds → d ∈ ds → Sh B d
  | e :: ds, h, hd => by
    have e1 := h.1
    have e2 := h.2
    have e3 := h.3
    have e4 := h.4
    simp only [PyData.showableAll, PyData.hasDictAll, PyData.leavesShortAll, PyData.weightAll, Bool.and_eq_true, Bool.or_eq_false_iff] at e1 e2 e3 e4
    rcases List.mem_cons.mp hd with rfl | hd
    · exact ⟨e1.1, e2.1, e3.1, by omega⟩
    · exact sh_mem ⟨e1.2, e2.2, e3.2, by omega⟩ hd
theorem depth_of {d : PyData} : ∀ {ds : List PyData}, d ∈ ds → d.depth ≤ PyData.depthAll ds
  | e :: ds, hd => by
    simp only [PyData.depthAll]
    rcases List.mem_cons.mp hd with rfl | hd
    · exact Nat.le_max_left _ _
    · exact Nat.le_trans (depth_of hd) (Nat.le_max_right _ _)
theorem lay_of {d : PyData} : ∀ {ds : List PyData}, PyData.canLayAll0 ds = true → d ∈ ds → d.canLay0 = true
  | e :: ds, h, hd => by
    simp only [PyData.canLayAll0, Bool.and_eq_true] at h
    rcases List.mem_cons.mp hd with rfl | hd
    · exact h.1
    · exact lay_of h.2 hd
theorem DX.items {B n : Nat} {H : Hp} {a : Addr} {xs : List V} (h : DX B n H (.ref a)) (ha : H a = some (.tup xs)) : xs.length ≤ 1000000 ∧ ∀ x ∈ xs, DX B (n - 1) H x := by
  obtain ⟨d, h1, h2, h3, h4⟩ := h
  cases h1 with
  | tup h1 k l =>
    rw [h1] at ha
    cases ha
    refine ⟨by rw [DaAll.length k]; exact l, fun x hx => ?_⟩
    obtain ⟨d, hd, q⟩ := da_item k hx
    simp only [PyData.canLay0] at h4
    simp only [PyData.depth] at h3
    have e1 := h2.1
    have e2 := h2.2
    have e3 := h2.3
    have e4 := h2.4
    simp only [PyData.showable, PyData.hasDict, PyData.leavesShort, PyData.weight] at e1 e2 e3 e4
    have := depth_of hd
    exact ⟨d, q, sh_mem ⟨e1, e2, e3, e4⟩ hd, by omega, lay_of h4 hd⟩
  | lst h1 k l =>
    rw [h1] at ha
    cases ha
theorem str_sym {x w : Str} : (x == w) = (w == x) := by
  rw [← dec_str, ← dec_str, decide_eq_decide]
  exact ⟨fun e => e.symm, fun e => e.symm⟩
theorem w_eqv {H : Hp} {v : V} {d : PyData} {w : Str} (h : Da H v d) : PyData.eqv (.str w) d = isW w v := by
  cases h with
  | str x => rw [PyData.eqv, str_sym]; rfl
  | _ => simp only [PyData.eqv] <;> rfl
section
variable {X : Cx}
/-- x in a row of texts -/
def rInW (K : PySem.W.Frag) : R2 := fun x y H Q => ∃ (d : PyData) (a : Addr) (ws : List Str), Da H x d ∧ d.canLay0 = true ∧ y = .ref a ∧ (SqL K H a (ws.map V.str) ∨ SqT K H a (ws.map V.str)) ∧ PyData.canLayAll0 (ws.map PyData.str) = true ∧ Q (.bl (ws.any fun w => isW w x)) H
theorem dp_strs {K : PySem.W.Frag} {H : Hp} : ∀ ws : List Str, DpAll K H (ws.map V.str) (ws.map PyData.str)
  | [] => .nil
  | w :: ws => .cons (.str w) (dp_strs ws)
theorem depth_strs : ∀ ws : List Str, PyData.depthAll (ws.map PyData.str) = 0
  | [] => rfl
  | w :: ws => by
    rw [List.map_cons, PyData.depthAll, depth_strs ws, PyData.depth]
    rfl
theorem any_w {H : Hp} {v : V} {d : PyData} (h : Da H v d) : ∀ ws : List Str, ((ws.map PyData.str).any fun y => PyData.eqv y d) = ws.any fun w => isW w v
  | [] => rfl
  | w :: ws => by rw [List.map_cons, List.any_cons, List.any_cons, any_w h ws, w_eqv h]
theorem op_inW (hu : X.A.units + 64 < cLine) : OpR X (compareOp .In) (rInW X.K) := by
  intro pins s σ H x y v u Q I rx ry ⟨d, a, ws, hd, ld, ey, hy, lw, q⟩
  subst ey
  obtain ⟨bs, r1⟩ := Dp.reads I d x v hd.dp rx
  rcases hy with hy | hy
  · obtain ⟨as, r2⟩ := Dp.reads I (.list (ws.map PyData.str)) _ u (.lst hy (dp_strs ws)) ry
    refine SeqAt.in_list_reads r2 r1 lw ld (by rw [depth_strs, Nat.zero_min]; omega) ⟨.bl _, H, I, rfl, ?_⟩
    rw [any_w hd]
    exact q
  · obtain ⟨as, r2⟩ := Dp.reads I (.tuple (ws.map PyData.str)) _ u (.tup hy (dp_strs ws)) ry
    refine SeqAt.in_tuple_reads r2 r1 lw ld (by rw [depth_strs, Nat.zero_min]; omega) ⟨.bl _, H, I, rfl, ?_⟩
    rw [any_w hd]
    exact q
theorem kinW (K : PySem.W.Frag) (hu : X.A.units + 64 < cLine) (h : X.K = K := by rfl) : OpR X (compareOp .In) (rInW K) := by
  subst h
  exact op_inW hu
end
end Od
namespace Od
open PySem PySem.Spec PyProof.Rows L2
abbrev HdM := Value × Option Nat × (Addr → Value → Option Addr → TS)
/-- where a clause ends: its name is gone -/
def endM (D : Ends) : Option Nat → Ends
  | none => D
  | some i => { nx := fun σ' H' => D.nx (σ'.set i none) H', rt := D.rt, bk := fun σ' H' => D.bk (σ'.set i none) H', ct := fun σ' H' => D.ct (σ'.set i none) H' }
/-- where it begins -/
def setM (σ : L2.St) (a : Addr) : Option Nat → L2.St
  | none => σ
  | some i => σ.set i (some (.ref a))
/-- what the named clauses wish of an exception of the body, one after the other -/
def wManyM (K : PySem.W.Frag) (Wout : WX) (D : Ends) : List HdM → WX
  | [] => Wout
  | (c, i, ts) :: r => fun cls d σ H => ∃ b, PySem.W.exmOne K cls c = some b ∧ (b = true → ∀ a, H a = none → ts a cls d (endM D i) (setM σ a i) H) ∧ (b = false → wManyM K Wout D r cls d σ H)
inductive HdsM (X : Cx) : List ExceptHandler → List HdM → Prop
  | nil : HdsM X [] []
  | cons {x n : Str} {c : Value} {i : Nat} {ts : Addr → Value → Option Addr → TS} {b₀ : Stmt} {suite : List Stmt} {np pos' : Pos} {hds : List ExceptHandler} {l : List HdM} (hi : X.N[i]? = some n) (hln : X.env.kindOf n = some .local) (hc : Names X x c)
      (hsu : ∀ (a : Addr) (oe : Obj) (cls : Value) (d : Option Addr) (pn : List (Addr × Obj)), Zc cls d oe → (∃ vs, oe.data = .fields vs) → PSs (X.suite a ((a, oe) :: pn)) (b₀ :: suite) (ts a cls d)) (r : HdsM X hds l) :
      HdsM X (.ExceptHandler (some (.Name x np)) (some n) (b₀ :: suite) pos' :: hds) ((c, some i, ts) :: l)
  | plain {x : Str} {c : Value} {ts : Addr → Value → Option Addr → TS} {b₀ : Stmt} {suite : List Stmt} {np pos' : Pos} {hds : List ExceptHandler} {l : List HdM} (hc : Names X x c)
      (hsu : ∀ (a : Addr) (oe : Obj) (cls : Value) (d : Option Addr) (pn : List (Addr × Obj)), Zc cls d oe → (∃ vs, oe.data = .fields vs) → PSs (X.suite a ((a, oe) :: pn)) (b₀ :: suite) (ts a cls d)) (r : HdsM X hds l) :
      HdsM X (.ExceptHandler (some (.Name x np)) none (b₀ :: suite) pos' :: hds) ((c, none, ts) :: l)
section
variable {X : Cx} {body : List Stmt} {h₀ : ExceptHandler} {hds : List ExceptHandler} {l : List HdM} {pos : Pos} {tb : WX → TS} {Wout : WX}
theorem ps_try_manyM (hs : X.stack = X.env :: X.outer) (hf : X.env.frame = some X.env.locals) (hN : X.N.Nodup) (tk : Takes X Wout)
    (hb : ∀ (W : WX) (pn : List (Addr × Obj)) (xe : Value → Shared → Prop), Takes (X.tr pn xe) W → PassesOwn (model X.prog X.w) X.A X.env xe → PSs (X.tr pn xe) body (tb W))
    (hh : HdsM X (h₀ :: hds) l) : PS X (.Try body (h₀ :: hds) [] [] pos) (fun D σ H => tb (wManyM X.K Wout D l) D σ H) := by
  refine ⟨fun pins s σ H D I h => ?_⟩
  have ok := I.ok
  have hfr : X.A.frames = some (X.env :: X.outer) := by rw [ok.frames, hs]
  refine wpAny_Try_except ?_
  refine wpAny_mono ((hb (wManyM X.K Wout D l) (X.pn ++ pins) (fun e s₁ => wpAny (model X.prog X.w) X.A (noteFrame e X.env) (fun _ s₂ => wpAny (model X.prog X.w) X.A (setFlight e none) (fun _ s₃ =>
    wpAny (model X.prog X.w) X.A (handleBy e X.env (h₀ :: hds)) (SP X pins D) X.xe s₃) X.xe s₂) X.xe s₁) (fun u s' xx => ?_) PassesOwn.looking).run [] s σ H D (I.toTry _) h) (fun f s1 hsp => ?_) (fun e s1 he => he)
  · -- the catch
    obtain ⟨a, B, sI, pins', σ', H', cls, d, rfl, J', nb, up, sky, na, os, ag, w⟩ := xx
    have J : Inv X pins σ' H' sI := J'.ofTry ok
    have sky' : Sky B (X.env :: X.outer) a (Zc cls d) X.env.locals s'.heap := by rw [← hs]; exact sky
    show wpAny (model X.prog X.w) X.A (noteFrame (.ref a) X.env) _ _ _
    refine Sky.land Zc.steady hfr hf sky' fun h3 fl3 up3 => ?_
    have J3 : Inv X pins σ' H' { s' with heap := h3 } := J.landed nb fl3.1 (up.trans up3) os ag
    obtain ⟨oe3, vs3, he3, hz3, hd3⟩ := fl3.there
    have notFr : ∀ {h : Heap} {o : Obj} {vs : Array Value}, h.FunFrames B (X.env :: X.outer) → h.get? a = some o → o.data = .fields vs → a ∉ frs (X.env :: X.outer) := fun {h o vs} ff e dd hm => by
      obtain ⟨_, o', e', hnf⟩ := ff.mem hm
      rw [e] at e'; cases e'
      exact hnf _ dd
    have nfr := notFr fl3.2.2.1 he3 hd3
    have nL : a ≠ X.env.locals := fun z => nfr (List.mem_filterMap.mpr ⟨X.env, List.mem_cons_self, by rw [hf, z]⟩)
    have nF : a ∉ X.fs := fun hm => by
      obtain ⟨e, he, q⟩ := List.mem_filterMap.mp hm
      exact nfr (List.mem_filterMap.mpr ⟨e, List.mem_cons_of_mem _ he, q⟩)
    have S3 := J3.suite he3 hd3 na nL nF
    have go : ∀ {hds' : List ExceptHandler} {l' : List HdM}, HdsM X hds' l' → wManyM X.K Wout D l' cls d σ' H' →
        wpAny (model X.prog X.w) X.A (handleBy (.ref a) X.env hds') (SP X pins D) X.xe { s' with heap := h3 } := by
      intro hds' l' hk
      induction hk with
      | nil =>
        intro w
        refine wpAny_handleBy_nil ?_
        obtain ⟨k1, k2, k3, oe, vs, T, oT, ts', he, hz, hd, h1, hr⟩ := id fl3
        unfold PySem.passOn
        refine wpAny_bind (wpAny_field he hd h1 ?_)
        rw [if_neg (show ¬ ((Value.ref T == Value.none) = true) from by simp)]
        have fin : wpAny (model X.prog X.w) X.A (setFlight (.ref a) X.env.frame) (fun _ s4 => wpAny (model X.prog X.w) X.A (throw (.ref a) : Sem Flow) (SP X pins D) X.xe s4) X.xe { s' with heap := h3 } := by
          rw [hf]
          refine HandSPX.setFlight_upZ fl3 fun h4 hh4 up4 => wpAny_throw (tk _ _ ?_)
          exact ⟨a, B, sI, pins, σ', H', cls, d, rfl, J, nb, (up.trans up3).trans up4, .inr (.inr (by rw [hs]; exact hh4)), na, os, ag, w⟩
        first
          | exact wpAny_bind (wpAny_pure (wpAny_bind fin))
          | exact wpAny_bind fin
      | @cons x n c i ts b₀ suite np pos' hds2 l2 hi hln hc hsu r ih =>
        intro w
        obtain ⟨b, hb1, hyes, hno⟩ := w
        have hloc : Loc X.env.scope n := .inl hln
        refine wpAny_handleBy_cons (codeAny_handlers_test ?_) (by intro q; cases q)
        have LT : PySem.W.Looks (model X.prog X.w) h3 (typeOf (.ref a)) cls := fun A Q E s k q => wpAny_typeOf_ref (k _ _ he3) (by rw [hz3.1]; exact q)
        have LM := PySem.W.exm_one (M := model X.prog X.w) (J3.kIn) LT hb1
        have test : ∀ {Q : Value → Shared → Prop} {E : Value → Shared → Prop}, Q c { s' with heap := h3 } → wpAny (model X.prog X.w) (X.A.mark (some (.ref a))) (eval (.Name x np) X.env) Q E { s' with heap := h3 } := fun {Q E} q => by
          obtain ⟨hg, hdbg, hm | ⟨hm, hv, hnn⟩⟩ := hc
          · exact ld_glob (X := X.suite a ((a, oe3) :: (X.pn ++ pins))) S3 hg hm q hdbg
          · exact ld_blt (X := X.suite a ((a, oe3) :: (X.pn ++ pins))) S3 hg hm hv q hnn hdbg
        refine test (LM.here ?_)
        cases b with
        | true =>
          refine codeAny_handlers_suite_as ?_
          refine HandSPX.lands_againZ fl3 fun h4 fl4 up4 => ?_
          have J4 : Inv X pins σ' H' { s' with heap := h4 } := J.landed nb fl4.1 ((up.trans up3).trans up4) os ag
          obtain ⟨oe4, vs4, he4, hz4, hd4⟩ := fl4.there
          have S4 := J4.suite he4 hd4 na nL nF
          refine store_ok (X := X.suite a ((a, oe4) :: (X.pn ++ pins))) (v := .ref a) S4 hN hi hloc rfl (fun s5 S5 => ?_) (.inr hln)
          refine wpAny_mono ((hsu a oe4 cls d (X.pn ++ pins) hz4 ⟨_, hd4⟩).run [] s5 _ H' _ S5 (hyes rfl a na)) (fun f s6 hsp => ?_) (fun _ _ z => False.elim z)
          have end_ : ∀ {σ6 : L2.St} {H6 : Hp} {Q : Shared → Prop}, Inv (X.suite a ((a, oe4) :: (X.pn ++ pins))) [] σ6 H6 s6 → (∀ s7, Inv X pins (σ6.set i none) H6 s7 → Q s7) →
              wpAny (model X.prog X.w) X.A (do bindName X.env n .none; unbindBehindTheSuite X.env n pos') (fun _ s7 => Q s7) X.xe s6 := fun {σ6 H6 Q} S6 hq => gone_ok (S6.unsuite ok) hN hi hln hq
          cases f with
          | next =>
            obtain ⟨σ6, H6, S6, q6⟩ := hsp
            exact end_ S6 fun s7 J7 => ⟨_, _, J7, q6⟩
          | brk =>
            obtain ⟨σ6, H6, S6, q6⟩ := hsp
            exact end_ S6 fun s7 J7 => ⟨_, _, J7, q6⟩
          | cont =>
            obtain ⟨σ6, H6, S6, q6⟩ := hsp
            exact end_ S6 fun s7 J7 => ⟨_, _, J7, q6⟩
          | ret u =>
            obtain ⟨v6, σ6, H6, S6, r6, q6⟩ := hsp
            exact end_ S6 fun s7 J7 => ⟨_, _, _, J7, r6, q6⟩
        | false =>
          show wpAny _ X.A (handleBy (.ref a) X.env hds2) _ _ _
          exact ih (hno rfl)
      | @plain x c ts b₀ suite np pos' hds2 l2 hc hsu r ih =>
        intro w
        obtain ⟨b, hb1, hyes, hno⟩ := w
        refine wpAny_handleBy_cons (codeAny_handlers_test ?_) (by intro q; cases q)
        have LT : PySem.W.Looks (model X.prog X.w) h3 (typeOf (.ref a)) cls := fun A Q E s k q => wpAny_typeOf_ref (k _ _ he3) (by rw [hz3.1]; exact q)
        have LM := PySem.W.exm_one (M := model X.prog X.w) (J3.kIn) LT hb1
        have test : ∀ {Q : Value → Shared → Prop} {E : Value → Shared → Prop}, Q c { s' with heap := h3 } → wpAny (model X.prog X.w) (X.A.mark (some (.ref a))) (eval (.Name x np) X.env) Q E { s' with heap := h3 } := fun {Q E} q => by
          obtain ⟨hg, hdbg, hm | ⟨hm, hv, hnn⟩⟩ := hc
          · exact ld_glob (X := X.suite a ((a, oe3) :: (X.pn ++ pins))) S3 hg hm q hdbg
          · exact ld_blt (X := X.suite a ((a, oe3) :: (X.pn ++ pins))) S3 hg hm hv q hnn hdbg
        refine test (LM.here ?_)
        cases b with
        | true =>
          refine codeAny_handlers_suite ?_
          refine HandSPX.lands_againZ fl3 fun h4 fl4 up4 => ?_
          have J4 : Inv X pins σ' H' { s' with heap := h4 } := J.landed nb fl4.1 ((up.trans up3).trans up4) os ag
          obtain ⟨oe4, vs4, he4, hz4, hd4⟩ := fl4.there
          have S4 := J4.suite he4 hd4 na nL nF
          refine wpAny_mono ((hsu a oe4 cls d (X.pn ++ pins) hz4 ⟨_, hd4⟩).run [] _ _ H' _ S4 (hyes rfl a na)) (fun f s6 hsp => ?_) (fun _ _ z => False.elim z)
          cases f with
          | next =>
            obtain ⟨σ6, H6, S6, q6⟩ := hsp
            exact ⟨_, _, S6.unsuite ok, q6⟩
          | brk =>
            obtain ⟨σ6, H6, S6, q6⟩ := hsp
            exact ⟨_, _, S6.unsuite ok, q6⟩
          | cont =>
            obtain ⟨σ6, H6, S6, q6⟩ := hsp
            exact ⟨_, _, S6.unsuite ok, q6⟩
          | ret u =>
            obtain ⟨v6, σ6, H6, S6, r6, q6⟩ := hsp
            exact ⟨_, _, _, S6.unsuite ok, r6, q6⟩
        | false =>
          show wpAny _ X.A (handleBy (.ref a) X.env hds2) _ _ _
          exact ih (hno rfl)
    exact go hh w
  · cases f with
    | next =>
      obtain ⟨σ', H', J', q⟩ := hsp
      exact wpAny_execs_nil ⟨σ', H', J'.ofTry ok, q⟩
    | brk =>
      obtain ⟨σ', H', J', q⟩ := hsp
      exact ⟨σ', H', J'.ofTry ok, q⟩
    | cont =>
      obtain ⟨σ', H', J', q⟩ := hsp
      exact ⟨σ', H', J'.ofTry ok, q⟩
    | ret u =>
      obtain ⟨v, σ', H', J', r, q⟩ := hsp
      exact ⟨v, σ', H', J'.ofTry ok, r, q⟩
end
end Od
namespace Od
open PySem L2 Evl PySem.Spec PyProof.Rows
theorem exm_no {K : PySem.W.Frag} {S U : Addr} (h1 : PySem.W.subIn K (.ref U) (.type "BaseException") = some true) (h2 : PySem.W.isClsIn K U = true) (h3 : PySem.W.typeIn K (.ref U) = some (.type "type")) (h4 : PySem.W.subIn K (.ref S) (.ref U) = some false) :
    PySem.W.exmOne K (.ref S) (.ref U) = some false := by
  have c1 : (PySem.W.subIn K (.ref U) (.type "BaseException") == some true) = true := by rw [h1] <;> rfl
  have c2 : ((PySem.W.clsIn K U).isSome && PySem.W.typeIn K (.ref U) == some (.type "type")) = true := by
    rw [show (PySem.W.clsIn K U).isSome = true from h2, h3] <;> rfl
  change (if (PySem.W.subIn K (.ref U) (.type "BaseException") == some true) = true then (if ((PySem.W.clsIn K U).isSome && PySem.W.typeIn K (.ref U) == some (.type "type")) = true then PySem.W.subIn K (.ref S) (.ref U) else none) else none) = _
  rw [if_pos c1, if_pos c2, h4]
end Od
namespace Od
open PySem L2 Evl PySem.Spec PyProof.Rows
def letters : List Nat := (Str.ofString "abcdefghijklmnopqrstuvwxyz").cps.toList
def nameS (z : Str) : Bool := (decide (1 ≤ (z.length : Int)) && decide ((z.length : Int) ≤ 8)) && z.cps.toList.all fun c => decide (c ∈ letters)
def nameV : V → Bool
  | .str z => nameS z
  | _ => false
end Od
namespace Od
open PySem L2 Evl
structure Bx where
  l : Int
  t : Int
  w : Int
  h : Int
structure Bx.Ok (b : Bx) : Prop where
  l0 : -3 ≤ b.l
  l1 : b.l ≤ 8
  t0 : -3 ≤ b.t
  t1 : b.t ≤ 8
  w0 : 1 ≤ b.w
  w1 : b.w ≤ 64
  h0 : 1 ≤ b.h
  h1 : b.h ≤ 64
def BxV (H : Hp) (v : V) (b : Bx) : Prop := ∃ a, v = .ref a ∧ H a = some (.tup [.int b.l, .int b.t, .int b.w, .int b.h])
theorem BxV.tk {H H' : Hp} {v : V} {b : Bx} (e : TK H H') (h : BxV H v b) : BxV H' v b := by
  obtain ⟨a, rfl, ha⟩ := h
  exact ⟨a, rfl, e _ _ ha⟩
inductive Wh where
  | invert | shift (n : Int) | paint (o : Int) (m : Str)
def Wh.items : Wh → List V
  | .invert => [.str "invert"] | .shift n => [.str "shift", .int n] | .paint o m => [.str "paint", .int o, .str m]
def Wh.word : Wh → Str
  | .invert => "invert" | .shift _ => "shift" | .paint _ _ => "paint"
/-- it adjusts -/
def Wh.adj : Wh → Bool
  | .paint _ _ => false
  | _ => true
def modes3 : List Str := ["over", "add", "times"]
def Wh.Ok : Wh → Prop
  | .invert => True
  | .shift n => -255 ≤ n ∧ n ≤ 255
  | .paint o m => 0 ≤ o ∧ o ≤ 256 ∧ m ∈ modes3
def WhV (H : Hp) (v : V) (x : Wh) : Prop := ∃ a, v = .ref a ∧ H a = some (.tup x.items)
theorem WhV.tk {H H' : Hp} {v : V} {x : Wh} (e : TK H H') (h : WhV H v x) : WhV H' v x := by
  obtain ⟨a, rfl, ha⟩ := h
  exact ⟨a, rfl, e _ _ ha⟩
theorem Wh.at0 (x : Wh) : atI x.items 0 = some (.str x.word) := by cases x <;> rfl
structure La where
  name : Str
  box : Bx
  ms : List Mv
  wh : Wh
  cs : List Cl
def LaV (H : Hp) (v : V) (l : La) : Prop := ∃ a bv ma wv ca us ws, v = .ref a ∧ H a = some (.tup [.str l.name, bv, .ref ma, wv, .ref ca]) ∧ BxV H bv l.box ∧ H ma = some (.tup us) ∧ MvsV H us l.ms ∧ WhV H wv l.wh ∧ H ca = some (.tup ws) ∧ ClsV H ws l.cs
theorem LaV.tk {H H' : Hp} {v : V} {l : La} (e : TK H H') (h : LaV H v l) : LaV H' v l := by
  obtain ⟨a, bv, ma, wv, ca, us, ws, rfl, h1, h2, h3, h4, h5, h6, h7⟩ := h
  exact ⟨a, bv, ma, wv, ca, us, ws, rfl, e _ _ h1, h2.tk e, e _ _ h3, h4.tk e, h5.tk e, e _ _ h6, h7.tk e⟩
/-- moves as drawn -/
structure MvsOk (ms : List Mv) : Prop where
  asc : MAsc ms
  ok : ∀ m ∈ ms, 0 ≤ m.f ∧ m.f ≤ 20 ∧ -5 ≤ m.a ∧ m.a ≤ 5 ∧ -5 ≤ m.d ∧ m.d ≤ 5
  len : ms.length ≤ 3
/-- a clip as drawn -/
structure Cl.OkF (c : Cl) : Prop where
  s0 : 0 ≤ c.s
  n1 : 1 ≤ c.n
  n2 : c.n ≤ 8
  fi0 : 0 ≤ c.fi
  fo0 : 0 ≤ c.fo
  fs : c.fi + c.fo ≤ c.n
  pa : opOk 6 c.pa
structure ClsOkF (ad : Bool) (cs : List Cl) : Prop where
  ap : Apart cs
  ok : ∀ c ∈ cs, c.OkF
  fin : ∀ c ∈ cs, c.fin ≤ 40
  adj : ∀ c ∈ cs, AdjOk ad c
  len : cs.length ≤ 2
structure La.Ok (l : La) : Prop where
  box : l.box.Ok
  ms : MvsOk l.ms
  wh : l.wh.Ok
  cs : ClsOkF l.wh.adj l.cs
theorem Wh.adj_eq (x : Wh) : (!decide (V.str x.word = V.str "paint")) = x.adj := by
  cases x with
  | invert => decide +kernel
  | shift n => show (!decide (V.str "shift" = V.str "paint")) = true; decide +kernel
  | paint o m => show (!decide (V.str "paint" = V.str "paint")) = false; decide +kernel
end Od
namespace Od
open PySem L2 Evl
theorem pickS {ws : List Str} {i : Int} (h0 : 0 ≤ i) (h1 : i < ws.length) : ∃ w, w ∈ ws ∧ atI (ws.map V.str) i = some (.str w) := by
  obtain ⟨m, rfl⟩ := Int.eq_ofNat_of_zero_le h0
  have hm : m < ws.length := by omega
  exact ⟨ws[m], List.getElem_mem hm, atI_nat (by rw [List.getElem?_map, List.getElem?_eq_getElem hm]; rfl)⟩
end Od
namespace Od
open PySem L2 Evl
structure Fi where
  w : Int
  h : Int
  n : Int
  b : Int
  ls : List La
def ghijkl : Str := "ghijkl"
def tails4 : List Str := ["", "b", "zz", "qwerty"]
/-- the name of a drawn layer -/
def NameOk (i : Nat) (n : Str) : Prop := ∃ c t, ghijkl.cps.toList[i]? = some c ∧ t ∈ tails4 ∧ n = ⟨#[c]⟩ ++ t
structure Fi.Ok (x : Fi) : Prop where
  w0 : 1 ≤ x.w
  w1 : x.w ≤ 64
  h0 : 1 ≤ x.h
  h1 : x.h ≤ 64
  wh : x.w * x.h ≤ 81
  n0 : 1 ≤ x.n
  n1 : x.n ≤ 10
  b0 : 0 ≤ x.b
  b1 : x.b ≤ 255
  len : x.ls.length ≤ 5
  ok : ∀ (i : Nat) l, x.ls[i]? = some l → l.Ok ∧ NameOk i l.name
def FiV (H : Hp) (v : V) (x : Fi) : Prop := ∃ a L us, v = .ref a ∧ H a = some (.tup [.int x.w, .int x.h, .int x.n, .int x.b, .ref L]) ∧ H L = some (.lst us) ∧ Paired (LaV H) us x.ls
end Od
namespace Od
open PySem L2 Evl
/-- a property that is read -/
structure Prp (P : Program) (w : World) (K : PySem.W.Frag) (mg : Str → Option Value) (base : Heap) (C : Addr) (x : Str) (k : Nat) (sp : Sp) where
  p : Addr
  f : Addr
  fd : FuncData
  hp : PropOf K C x p f
  ok : FnOk P w K mg base CX0 k f fd ["self"] sp
  b : L2.Binds K fd ["self"] []
/-- a class that is called -/
structure MkO (P : Program) (w : World) (K : PySem.W.Frag) (mg : Str → Option Value) (base : Heap) (CX : CXT) (x : Str) (C : Addr) (k : Nat) (ps : List Str) (sp : Sp) where
  f : Addr
  fd : FuncData
  M : Mk K C f
  ok : FnOk P w K mg base CX k f fd ps sp
  mgC : mg x = some (.ref C)
  b : L2.Binds K fd ps []
end Od
namespace Od
open PySem L2 Evl
/-- the slots at a def's start, written out -/
def startL : List Str → List V → L2.St
  | [], _ => []
  | _ :: N, [] => none :: startL N []
  | _ :: N, v :: vs => some v :: startL N vs
theorem startL_nil : ∀ N : List Str, startL N [] = List.replicate N.length none
  | [] => rfl
  | n :: N => by
    show none :: startL N [] = _
    rw [startL_nil N]
    rfl
theorem start_nrm : ∀ {N : List Str} {vs : List V}, vs.length ≤ N.length → L2.start N vs = startL N vs
  | [], [], _ => rfl
  | n :: N, [], _ => by
    unfold L2.start
    rw [startL_nil]
    rfl
  | [], v :: vs, h => absurd h (Nat.not_succ_le_zero _)
  | n :: N, v :: vs, h => by
    have ih := start_nrm (N := N) (vs := vs) (Nat.le_of_succ_le_succ h)
    unfold L2.start at ih ⊢
    show some v :: (vs.map some ++ List.replicate (N.length + 1 - (vs.length + 1)) none) = some v :: startL N vs
    rw [Nat.add_sub_add_right, ih]
end Od
namespace Od
open PySem PySem.Spec PyProof.Rows L2 Evl
section
variable {X : Cx} {CX : CXT} {k : Nat} {f C : Addr} {fd : FuncData} {ps : List Str} {sp : Sp} {dvs : List V} {ds : List Value} {E : L2.St → XK} {x : Str} {p pos : Pos} {e : Expr} {es : List Expr} {t : TA}
/-- what C(..) asks where its errors are wished by the slots -/
def tMakeS (C : Addr) (sp : Sp) (dvs : List V) (E : L2.St → XK) (t : TA) : TE := fun σ H Q => t σ H fun vs H1 => ∀ x dx, H1 x = none → H1 dx = none → dx ≠ x → sp (.ref x :: (vs ++ dvs)) (upd (upd H1 dx (.own x)) x (.ins C dx [])) (fun v H2 => v = .non ∧ Q (.ref x) H2) (E σ)
theorem made_at {pins : List (Addr × Obj)} {σ : L2.St} {H : Hp} {s : Shared} {Q : VK} {us : List Value} {vs : List V} (M : Mk X.K C f) (F : FnOk X.prog X.w X.K X.mg X.base CX k f fd ps sp) (hr : Room (k + 1) X.A) (hb : Binds X.K fd ps ds) (hd : Vals dvs ds) (hx : PassesAt CX X σ (E σ)) (I : Inv X pins σ H s) (r : Vals vs us)
    (h : ∀ x dx, H x = none → H dx = none → dx ≠ x → sp (.ref x :: (vs ++ dvs)) (upd (upd H dx (.own x)) x (.ins C dx [])) (fun v H2 => v = .non ∧ Q (.ref x) H2) (E σ)) : wpAny (model X.prog X.w) X.A (call (.ref C) us) (EP X pins σ Q) X.xe s := by
  obtain ⟨n, hn⟩ : ∃ n, n = s.heap.objs.size := ⟨_, rfl⟩
  have h0 : H s.heap.objs.size = none := I.hok.fresh (Nat.le_refl _)
  have h1 : H (s.heap.objs.size + 1) = none := I.hok.fresh (Nat.le_succ _)
  have q := h (s.heap.objs.size + 1) s.heap.objs.size h1 h0 (Nat.ne_of_lt (Nat.lt_succ_self _))
  have J := Inv.made (C := C) I
  have rr : Vals (V.ref (s.heap.objs.size + 1) :: (vs ++ dvs)) (Value.ref (s.heap.objs.size + 1) :: (us ++ ds)) := .cons rfl (r.append hd)
  have ll : (Value.ref (s.heap.objs.size + 1) :: us ++ ds).length = ps.length := (F.len _ _ _ _ q ▸ rr.length).symm
  refine wpAny_call (make_map (f := f) I.kIn M.makes M.init (beq_iff_eq.mp M.fn) (codeAny_mono (F.run _ X.stack _ _ ⟨Value.ref (s.heap.objs.size + 1) :: us, []⟩ (Value.ref (s.heap.objs.size + 1) :: (us ++ ds)) _ _ (E σ) (hr.make C us []) (J.env0.make C us []) (hb _ (Value.ref (s.heap.objs.size + 1) :: us) J.kIn ll) rr q) fun z s' w => ?_))
  match z, w with
  | .error er, w => exact hx pins _ _ er s' J w
  | .ok (.ret u), w =>
    obtain ⟨v, H', J2, rv, ev, q3⟩ := J.after w
    subst ev
    exact ⟨rv, ⟨V.ref (s.heap.objs.size + 1), H', J2, rfl, q3⟩⟩
  | .ok .next, w => exact w.elim
  | .ok .brk, w => exact w.elim
  | .ok .cont, w => exact w.elim
theorem pe_makeS (M : Mk X.K C f) (F : FnOk X.prog X.w X.K X.mg X.base CX k f fd ps sp) (hr : Room (k + 1) X.A) (hg : Gl X x) (hm : X.mg x = some (.ref C)) (hb : Binds X.K fd ps ds) (hd : Vals dvs ds) (hx : ∀ σ, PassesAt CX X σ (E σ)) (ha : PA X (e :: es) t)
    (hdb : (x == ("__debug__" : Str)) = false := by decide) (he : starEach (e :: es) X.env = (false, eval e X.env) :: starEach es X.env := by rfl) (hpl : (backTo pos (starEach es X.env)).any (·.1) = false := by rfl) : PE X (.Call (.Name x p) (e :: es) [] pos) (tMakeS C sp dvs E t) :=
  ⟨fun pins s σ H Q I h => wpAny_Call_Name_kw (ld_glob I hg hm (PySem.W.callWith_K (h₀ := X.base) I.ok.mod.kin M.kp (thn (ha.run pos pins s σ H _ I h) fun us s1 ⟨vs, H1, I1, r, q⟩ => ⟨I1.kIn, made_at M F hr hb hd (hx σ) I1 r q⟩) he hpl) hdb)⟩
end
end Od
namespace Od
open PySem L2 Evl
/-- a clip that is allowed -/
structure Cl.Vd (c : Cl) : Prop where
  s0 : 0 ≤ c.s
  s1 : c.s ≤ 10000
  n1 : 1 ≤ c.n
  n2 : c.n ≤ 10000
  fi0 : 0 ≤ c.fi
  fo0 : 0 ≤ c.fo
  fs : c.fi + c.fo ≤ c.n
  pa : opOk 12 c.pa
structure ClsVd (ad : Bool) (cs : List Cl) : Prop where
  ap : Apart cs
  ok : ∀ c ∈ cs, c.Vd
  adj : ∀ c ∈ cs, AdjOk ad c
  len : cs.length ≤ 64
structure Bx.Vd (b : Bx) : Prop where
  l0 : -1000 ≤ b.l
  l1 : b.l ≤ 1000
  t0 : -1000 ≤ b.t
  t1 : b.t ≤ 1000
  w0 : 1 ≤ b.w
  w1 : b.w ≤ 64
  h0 : 1 ≤ b.h
  h1 : b.h ≤ 64
structure MvsVd (ms : List Mv) : Prop where
  asc : MAsc ms
  ok : ∀ m ∈ ms, 0 ≤ m.f ∧ m.f ≤ 1000 ∧ -1000 ≤ m.a ∧ m.a ≤ 1000 ∧ -1000 ≤ m.d ∧ m.d ≤ 1000
  len : ms.length ≤ 16
structure La.Vd (l : La) : Prop where
  name : nameS l.name = true
  box : l.box.Vd
  ms : MvsVd l.ms
  wh : l.wh.Ok
  cs : ClsVd l.wh.adj l.cs
structure Fi.Vd (x : Fi) : Prop where
  w0 : 1 ≤ x.w
  w1 : x.w ≤ 64
  h0 : 1 ≤ x.h
  h1 : x.h ≤ 64
  n0 : 1 ≤ x.n
  n1 : x.n ≤ 1000
  b0 : 0 ≤ x.b
  b1 : x.b ≤ 255
  len : x.ls.length ≤ 16
  ok : ∀ l ∈ x.ls, l.Vd
  nd : (x.ls.map La.name).Nodup
theorem MvsVd.mok {ms : List Mv} (h : MvsVd ms) : ∀ m ∈ ms, m.Ok := fun m hm => by
  obtain ⟨h1, h2, h3, h4, h5, h6⟩ := h.ok m hm
  exact ⟨h1, by omega, h3, h4, h5, h6⟩
theorem Cl.OkF.vd {c : Cl} (h : c.OkF) (hf : c.fin ≤ 40) : c.Vd := by
  obtain ⟨h1, h2, h3, h4, h5, h6, h7⟩ := h
  unfold Cl.fin at hf
  refine ⟨h1, by omega, h2, by omega, h4, h5, h6, ?_⟩
  cases hp : c.pa with
  | none => trivial
  | some p =>
    rw [hp] at h7
    cases p with
    | solid x => exact h7
    | steps f s z => exact h7
    | pic p =>
      have h7 : p.Ok 6 := h7
      exact ⟨h7.w1, by have := h7.w2; omega, h7.h1, by have := h7.h2; omega, h7.vl, h7.cl, h7.vb, h7.cb⟩
theorem name_ok {i : Nat} {n : Str} (h : NameOk i n) : nameS n = true := by
  obtain ⟨c, t, hc, ht, rfl⟩ := h
  have hm : c ∈ ghijkl.cps.toList := List.mem_of_getElem? hc
  have hg : ghijkl.cps.toList = [103, 104, 105, 106, 107, 108] := by decide +kernel
  rw [hg] at hm
  unfold tails4 at ht
  simp only [List.mem_cons, List.not_mem_nil, or_false] at hm ht
  rcases hm with rfl | rfl | rfl | rfl | rfl | rfl <;> rcases ht with rfl | rfl | rfl | rfl <;> decide +kernel
theorem name_first {i : Nat} {n : Str} (h : NameOk i n) : n.cps.toList[0]? = ghijkl.cps.toList[i]? := by
  obtain ⟨c, t, hc, ht, rfl⟩ := h
  rw [hc]
  have e : (⟨#[c]⟩ ++ t : Str).cps.toList = c :: t.cps.toList := by
    show ((#[c] : Array Nat) ++ t.cps).toList = _
    simp
  rw [e]
  rfl
theorem name_differ {i j : Nat} {n m : Str} (h : NameOk i n) (k : NameOk j m) (e : n = m) : i = j := by
  subst e
  have h1 := name_first h
  rw [name_first k] at h1
  obtain ⟨c, _, hc, _⟩ := h
  obtain ⟨d, _, hd, _⟩ := k
  have hg : ghijkl.cps.toList = [103, 104, 105, 106, 107, 108] := by decide +kernel
  rw [hg] at h1 hc hd
  have li := (List.getElem?_eq_some_iff.mp hc).1
  have lj := (List.getElem?_eq_some_iff.mp hd).1
  have nd : ([103, 104, 105, 106, 107, 108] : List Nat).Nodup := by decide
  exact (List.getElem?_inj li nd).mp h1.symm
theorem La.Ok.vd {l : La} {i : Nat} (h : l.Ok) (hn : NameOk i l.name) : l.Vd := by
  obtain ⟨⟨b1, b2, b3, b4, b5, b6, b7, b8⟩, ⟨m1, m2, m3⟩, w, ⟨c1, c2, c3, c4, c5⟩⟩ := h
  exact ⟨name_ok hn, ⟨by omega, by omega, by omega, by omega, b5, b6, b7, b8⟩, ⟨m1, fun m hm => by have := m2 m hm; omega, by omega⟩, w, ⟨c1, fun c hc => (c2 c hc).vd (c3 c hc), c4, by omega⟩⟩
theorem Fi.Ok.vd {x : Fi} (h : x.Ok) : x.Vd := by
  refine ⟨h.w0, h.w1, h.h0, h.h1, h.n0, by have := h.n1; omega, h.b0, h.b1, by have := h.len; omega, fun l hl => ?_, ?_⟩
  · obtain ⟨i, hi⟩ := List.getElem?_of_mem hl
    obtain ⟨k1, k2⟩ := h.ok i l hi
    exact k1.vd k2
  · rw [List.Nodup, List.pairwise_iff_getElem]
    intro i j hi hj hij e
    rw [List.length_map] at hi hj
    rw [List.getElem_map, List.getElem_map] at e
    have := name_differ (h.ok i _ (List.getElem?_eq_getElem hi)).2 (h.ok j _ (List.getElem?_eq_getElem hj)).2 e
    omega
/-- the fields of a film -/
def filmF (x : Fi) (L : Addr) : List (Str × V) := [("_width", .int x.w), ("_height", .int x.h), ("_frames", .int x.n), ("_background", .int x.b), ("_layers", .ref L)]
def FlV (C : Addr) (H : Hp) (v : V) (x : Fi) : Prop := ∃ a dx L us, v = .ref a ∧ H a = some (.ins C dx (filmF x L)) ∧ H L = some (.lst us) ∧ Paired (LaV H) us x.ls
theorem FlV.ex {C : Addr} {H H' : Hp} {v : V} {x : Fi} (e : Ex H H') (h : FlV C H v x) : FlV C H' v x := by
  obtain ⟨a, dx, L, us, rfl, h1, h2, h3⟩ := h
  exact ⟨a, dx, L, us, rfl, e _ _ h1, e _ _ h2, Paired.mapP h3 fun _ _ => LaV.tk (TK.ex e)⟩
/-- what the walk asks of the class -/
structure FilmT (K : PySem.W.Frag) (C : Addr) : Prop where
  cl : Cls K C
  nW : NoAttr K C "_width"
  nH : NoAttr K C "_height"
  nN : NoAttr K C "_frames"
  nB : NoAttr K C "_background"
  nL : NoAttr K C "_layers"
theorem film_w (x : Fi) (L : Addr) : (filmF x L).lookup ("_width" : Str) = some (.int x.w) := by
  unfold filmF
  simp only [List.lookup, show (("_width" : Str) == "_width") = true by decide +kernel]
theorem film_h (x : Fi) (L : Addr) : (filmF x L).lookup ("_height" : Str) = some (.int x.h) := by
  unfold filmF
  simp only [List.lookup, show (("_height" : Str) == "_width") = false by decide +kernel, show (("_height" : Str) == "_height") = true by decide +kernel]
theorem film_n (x : Fi) (L : Addr) : (filmF x L).lookup ("_frames" : Str) = some (.int x.n) := by
  unfold filmF
  simp only [List.lookup, show (("_frames" : Str) == "_width") = false by decide +kernel, show (("_frames" : Str) == "_height") = false by decide +kernel, show (("_frames" : Str) == "_frames") = true by decide +kernel]
theorem film_b (x : Fi) (L : Addr) : (filmF x L).lookup ("_background" : Str) = some (.int x.b) := by
  unfold filmF
  simp only [List.lookup, show (("_background" : Str) == "_width") = false by decide +kernel, show (("_background" : Str) == "_height") = false by decide +kernel, show (("_background" : Str) == "_frames") = false by decide +kernel, show (("_background" : Str) == "_background") = true by decide +kernel]
theorem film_l (x : Fi) (L : Addr) : (filmF x L).lookup ("_layers" : Str) = some (.ref L) := by
  unfold filmF
  simp only [List.lookup, show (("_layers" : Str) == "_width") = false by decide +kernel, show (("_layers" : Str) == "_height") = false by decide +kernel, show (("_layers" : Str) == "_frames") = false by decide +kernel, show (("_layers" : Str) == "_background") = false by decide +kernel, show (("_layers" : Str) == "_layers") = true by decide +kernel]
theorem film_put (x : Fi) (L : Addr) : putF "_layers" (.ref L) (putF "_background" (.int x.b) (putF "_frames" (.int x.n) (putF "_height" (.int x.h) (putF "_width" (.int x.w) [])))) = filmF x L := by
  have e : ∀ (f : Str) (v : V) (g : Str) (u : V) (r : List (Str × V)), ¬ g = f → putF f v ((g, u) :: r) = (g, u) :: putF f v r := fun f v g u r h => by
    show (if g = f then _ else _) = _
    rw [if_neg h]
  show putF "_layers" (.ref L) (putF "_background" (.int x.b) (putF "_frames" (.int x.n) (putF "_height" (.int x.h) [("_width", .int x.w)]))) = _
  rw [e "_height" _ "_width" _ _ (by decide +kernel)]
  show putF "_layers" (.ref L) (putF "_background" (.int x.b) (putF "_frames" (.int x.n) [("_width", .int x.w), ("_height", .int x.h)])) = _
  rw [e "_frames" _ "_width" _ _ (by decide +kernel), e "_frames" _ "_height" _ _ (by decide +kernel)]
  show putF "_layers" (.ref L) (putF "_background" (.int x.b) [("_width", .int x.w), ("_height", .int x.h), ("_frames", .int x.n)]) = _
  rw [e "_background" _ "_width" _ _ (by decide +kernel), e "_background" _ "_height" _ _ (by decide +kernel), e "_background" _ "_frames" _ _ (by decide +kernel)]
  show putF "_layers" (.ref L) [("_width", .int x.w), ("_height", .int x.h), ("_frames", .int x.n), ("_background", .int x.b)] = _
  rw [e "_layers" _ "_width" _ _ (by decide +kernel), e "_layers" _ "_height" _ _ (by decide +kernel), e "_layers" _ "_frames" _ _ (by decide +kernel), e "_layers" _ "_background" _ _ (by decide +kernel)]
  rfl
end Od
namespace Od
open PySem L2 Evl
def top (i : Nat) : Stmt := PySem.Challenge.pw_onlythedirt_k41_film_checked.main.body.getD i (.Pass ⟨0, 0, 0, 0⟩)
structure Txt (K : PySem.W.Frag) (mg : Str → Option Value) : Prop where
  all_ : mg "all" = none
  bool_ : mg "bool" = none
  enumerate_ : mg "enumerate" = none
  int_ : mg "int" = none
  isinstance_ : mg "isinstance" = none
  len_ : mg "len" = none
  list_ : mg "list" = none
  range_ : mg "range" = none
  repr_ : mg "repr" = none
  str_ : mg "str" = none
  tuple_ : mg "tuple" = none
  CLIPS_MOST_ : ∃ t, mg "CLIPS_MOST" = some (.int 64 t)
  COVER_MOST_ : ∃ t, mg "COVER_MOST" = some (.int 256 t)
  DISTANCE_MOST_ : ∃ t, mg "DISTANCE_MOST" = some (.int 1000 t)
  FRAMES_MOST_ : ∃ t, mg "FRAMES_MOST" = some (.int 1000 t)
  LAYERS_MOST_ : ∃ t, mg "LAYERS_MOST" = some (.int 16 t)
  LENGTH_MOST_ : ∃ t, mg "LENGTH_MOST" = some (.int 10000 t)
  LETTERS_ : ∃ t, mg "LETTERS" = some (.str "abcdefghijklmnopqrstuvwxyz" t)
  MODES_ : ∃ a, mg "MODES" = some (.ref a) ∧ ∀ H, SqT K H a [.str "over", .str "add", .str "times"]
  MOVES_MOST_ : ∃ t, mg "MOVES_MOST" = some (.int 16 t)
  MOVE_FRAME_MOST_ : ∃ t, mg "MOVE_FRAME_MOST" = some (.int 1000 t)
  NAME_MOST_ : ∃ t, mg "NAME_MOST" = some (.int 8 t)
  PICTURE_SIDE_MOST_ : ∃ t, mg "PICTURE_SIDE_MOST" = some (.int 12 t)
  PLACE_MOST_ : ∃ t, mg "PLACE_MOST" = some (.int 1000 t)
  SIDE_MOST_ : ∃ t, mg "SIDE_MOST" = some (.int 64 t)
  START_MOST_ : ∃ t, mg "START_MOST" = some (.int 10000 t)
  STEP_MOST_ : ∃ t, mg "STEP_MOST" = some (.int 12 t)
  VALUE_MOST_ : ∃ t, mg "VALUE_MOST" = some (.int 255 t)
section
variable {P : Program} {w : World} {K : PySem.W.Frag} {mg : Str → Option Value} {base : Heap}
abbrev s_l_draw : Stmt := top 61
theorem sc_l_draw : FnScope ["script", "k", "below", "cell", "turn", "number"] ["script", "k", "below"] (defScope s_l_draw) := ⟨rfl, rfl, rfl, by decide +kernel, rfl, by decide +kernel, by decide +kernel⟩
def spDrawF (K : PySem.W.Frag) : Sp := fun vs H Q _ => ∃ (a : Addr) (ns : List Int) (k b : Int), vs = [.ref a, .int k, .int b] ∧ SqL K H a (ns.map V.int) ∧ 0 ≤ k ∧ 0 < b ∧ b < 1073741824 ∧ ∀ n, 0 ≤ n → n < b → Q (.int n) H
theorem ok_l_draw {f : Addr} {fd : FuncData} (F : Fun K "_law_draw" "_law_draw" s_l_draw f fd) (T : Txt K mg) : FnOk P w K mg base CX0 1 f fd ["script", "k", "below"] (spDrawF K) := by
  refine F.ok sc_l_draw (fun vs H Q E h => ?_) (fun cdv A outer s H vs Q E hr h => ?_)
  · obtain ⟨a, ns, k, b, rfl, _⟩ := h
    rfl
  · obtain ⟨a, ns, k, b, rfl, hS, k0, b0, b1, q⟩ := h
    refine ⟨_, (pss_cons (ps_if (pt_cmpR op_eq (pe_callB (klen K) (by rfl) T.len_ PySem.boot_len (pa_cons (pv 0) pa_nil)) pe_int (nomark _))
        (pss_one (ps_ret pe_int))
        pss_nil)
      (pss_cons (ps_set (i := 3) sc_l_draw.nd rfl (by first | exact Or.inl rfl | exact Or.inr rfl) (pe_callTy call_int1 (by rfl) T.int_ bt_int (pa_cons (pe_ix (kixL K) (pv 0) (pe_op op_mod (pe_callTy call_int1 (by rfl) T.int_ bt_int (pa_cons (pe_op op_fdiv (pv 1) pe_int) pa_nil)) (pe_callB (klen K) (by rfl) T.len_ PySem.boot_len (pa_cons (pv 0) pa_nil))) (fun _ _ => rfl)) pa_nil)))
      (pss_cons (ps_if (PW.pt (pw_and (pt_cmpR op_ge (pv 3) (pe_op op_pow pe_int pe_int) (nomark _)) (pw_and1 (pt_cmpR op_lt (pe_op op_fdiv (pv 1) pe_int) (pe_callB (klen K) (by rfl) T.len_ PySem.boot_len (pa_cons (pv 0) pa_nil)) (nomark _)))))
        (pss_cons (ps_for PassesOwn.never rfl (pi_range1 (by rfl) T.range_ (pa_cons (pe_op op_mod (pe_callTy call_int1 (by rfl) T.int_ bt_int (pa_cons (pv 1) pa_nil)) pe_int) pa_nil)) (pg_name (i := 4) sc_l_draw.nd rfl (by first | exact Or.inl rfl | exact Or.inr rfl))
          (pss_one (ps_set (i := 3) sc_l_draw.nd rfl (by first | exact Or.inl rfl | exact Or.inr rfl) (pe_op op_fdiv (pv 3) pe_int))))
        (pss_one (ps_ret (pe_op op_mod (pe_op op_mod (pe_callTy call_int1 (by rfl) T.int_ bt_int (pa_cons (pv 3) pa_nil)) pe_int) (pv 2)))))
        pss_nil)
      (pss_cons (ps_set (i := 5) sc_l_draw.nd rfl (by first | exact Or.inl rfl | exact Or.inr rfl) (pe_op op_mod (pe_callTy call_int1 (by rfl) T.int_ bt_int (pa_cons (pe_op op_add (pe_op op_add (pe_op op_mul (pv 3) pe_int) (pe_op op_mul (pv 1) pe_int)) pe_int) pa_nil)) pe_int))
      (pss_cons (ps_set (i := 5) sc_l_draw.nd rfl (by first | exact Or.inl rfl | exact Or.inr rfl) (pe_op op_mod (pe_callTy call_int1 (by rfl) T.int_ bt_int (pa_cons (pe_op op_add (pe_op op_add (pe_op op_mul (pv 5) (pv 5)) (pe_op op_mul pe_int (pv 1))) pe_int) pa_nil)) pe_int))
      (pss_cons (ps_set (i := 5) sc_l_draw.nd rfl (by first | exact Or.inl rfl | exact Or.inr rfl) (pe_op op_mod (pe_callTy call_int1 (by rfl) T.int_ bt_int (pa_cons (pe_op op_add (pe_op op_add (pe_op op_mul (pv 5) (pv 5)) (pe_op op_mul pe_int (pv 1))) (pv 3)) pa_nil)) pe_int))
      (pss_one (ps_ret (pe_op op_mod (pe_op op_fdiv (pv 5) pe_int) (pv 2)))))))))), ?_⟩
    refine ⟨_, rfl, a, _, rfl, .inl hS, rfl, _, rfl, ?_⟩
    refine ite2 (fun _ => q 0 (Int.le_refl 0) b0) (fun e0 => ?_)
    have hn : 0 < ns.length := by
      refine Nat.pos_of_ne_zero fun z => e0 (decide_eq_true ?_)
      rw [List.length_map, z]
      rfl
    have i0 : 0 ≤ k / 4 % (ns.length : Int) := Int.emod_nonneg _ (by omega)
    have i1 : k / 4 % (ns.length : Int) < ns.length := Int.emod_lt_of_pos _ (by omega)
    have hx : ns[(k / 4 % (ns.length : Int)).toNat]? = some ns[(k / 4 % (ns.length : Int)).toNat] := List.getElem?_eq_getElem (by omega)
    generalize ns[(k / 4 % (ns.length : Int)).toNat] = c at hx
    have hat : atI (ns.map V.int) (k / 4 % ((ns.map V.int).length : Int)) = some (.int c) := by
      rw [List.length_map]
      have h4 : (ns.map V.int)[(k / 4 % (ns.length : Int)).toNat]? = some (.int c) := by rw [List.getElem?_map, hx]; rfl
      have := atI_nat h4
      rwa [Int.toNat_of_nonneg i0] at this
    refine ⟨_, rfl, _, rfl, _, _, rfl, rfl, ⟨by decide, by decide⟩, .inl ⟨_, rfl, ?_⟩⟩
    refine ⟨_, rfl, a, _, rfl, .inl hS, _, _, rfl, rfl, (by show (0 : Int) < ((ns.map V.int).length : Int); rw [List.length_map]; omega), ?_⟩
    refine ⟨a, _, _, _, rfl, rfl, hS, hat, .inl ⟨_, rfl, ?_⟩⟩
    refine ⟨_, rfl, _, _, rfl, rfl, ⟨by decide, by decide, by decide⟩, ?_⟩
    refine ⟨_, _, rfl, rfl, _, rfl, ?_⟩
    refine ite2 (fun c1 => ?_) (fun c1 => ?_)
    · refine ⟨_, rfl, _, _, rfl, rfl, ⟨by decide, by decide⟩, _, rfl, a, _, rfl, .inl hS, _, _, rfl, rfl, _, rfl, ?_⟩
      refine ite2 (fun c2 => ?_) (fun c2 => ?_)
      · refine ⟨_, rfl, .inl ⟨_, rfl, _, _, rfl, rfl, (by show (0 : Int) < 4; decide), ?_⟩⟩
        have t0 : 0 ≤ k % 4 := Int.emod_nonneg _ (by decide)
        have t1 : k % 4 < 4 := Int.emod_lt_of_pos _ (by decide)
        refine ⟨_, rfl, by omega, by omega, ?_⟩
        refine for_range (lo := 0) (n := (k % 4).toNat) (fun i σ H' => H = H' ∧ ∃ (c : Int) (x : Option V), σ = [some (.ref a), some (.int k), some (.int b), some (.int c), x, none]) ⟨rfl, _, _, rfl⟩ ?_ ?_
        · rintro i σ H' _ ⟨rfl, c, x, rfl⟩
          exact ⟨_, rfl, _, _, rfl, rfl, ⟨by decide, by decide⟩, rfl, _, _, rfl⟩
        · rintro σ H' ⟨rfl, c, x, rfl⟩
          refine ⟨_, rfl, .inl ⟨_, rfl, _, _, rfl, rfl, (by show (0 : Int) < 1000; decide), ?_⟩⟩
          refine ⟨_, rfl, _, _, rfl, rfl, b0, ?_⟩
          exact q _ (Int.emod_nonneg _ (by omega)) (Int.emod_lt_of_pos _ b0)
      · skip
        refine ⟨_, rfl, _, _, rfl, rfl, .inr ⟨by decide, by decide⟩, ?_⟩
        refine ⟨_, rfl, _, _, rfl, rfl, .inr ⟨by decide, by decide⟩, ?_⟩
        refine ⟨_, _, rfl, rfl, ?_⟩
        refine ⟨_, _, rfl, rfl, .inl ⟨_, rfl, ?_⟩⟩
        refine ⟨_, _, rfl, rfl, (by show (0 : Int) < 2147483647; decide), ?_⟩
        refine ⟨_, rfl, _, rfl, _, _, rfl, rfl, .inl ⟨by omega, by omega⟩, ?_⟩
        refine ⟨_, rfl, _, _, rfl, rfl, .inl ⟨by decide, by decide⟩, ?_⟩
        refine ⟨_, _, rfl, rfl, ?_⟩
        refine ⟨_, _, rfl, rfl, .inl ⟨_, rfl, ?_⟩⟩
        refine ⟨_, _, rfl, rfl, (by show (0 : Int) < 998244353; decide), ?_⟩
        refine ⟨_, rfl, _, rfl, _, _, rfl, rfl, .inl ⟨by omega, by omega⟩, ?_⟩
        refine ⟨_, rfl, _, _, rfl, rfl, .inl ⟨by decide, by decide⟩, ?_⟩
        refine ⟨_, _, rfl, rfl, ?_⟩
        refine ⟨_, rfl, ?_⟩
        refine ⟨_, _, rfl, rfl, .inl ⟨_, rfl, ?_⟩⟩
        refine ⟨_, _, rfl, rfl, (by show (0 : Int) < 2147483629; decide), ?_⟩
        refine ⟨_, rfl, _, _, rfl, rfl, ⟨by decide, by decide⟩, ?_⟩
        refine ⟨_, rfl, _, _, rfl, rfl, b0, ?_⟩
        exact q _ (Int.emod_nonneg _ (by omega)) (Int.emod_lt_of_pos _ b0)
    · skip
      refine ⟨_, rfl, _, _, rfl, rfl, .inr ⟨by decide, by decide⟩, ?_⟩
      refine ⟨_, rfl, _, _, rfl, rfl, .inr ⟨by decide, by decide⟩, ?_⟩
      refine ⟨_, _, rfl, rfl, ?_⟩
      refine ⟨_, _, rfl, rfl, .inl ⟨_, rfl, ?_⟩⟩
      refine ⟨_, _, rfl, rfl, (by show (0 : Int) < 2147483647; decide), ?_⟩
      refine ⟨_, rfl, _, rfl, _, _, rfl, rfl, .inl ⟨by omega, by omega⟩, ?_⟩
      refine ⟨_, rfl, _, _, rfl, rfl, .inl ⟨by decide, by decide⟩, ?_⟩
      refine ⟨_, _, rfl, rfl, ?_⟩
      refine ⟨_, _, rfl, rfl, .inl ⟨_, rfl, ?_⟩⟩
      refine ⟨_, _, rfl, rfl, (by show (0 : Int) < 998244353; decide), ?_⟩
      refine ⟨_, rfl, _, rfl, _, _, rfl, rfl, .inl ⟨by omega, by omega⟩, ?_⟩
      refine ⟨_, rfl, _, _, rfl, rfl, .inl ⟨by decide, by decide⟩, ?_⟩
      refine ⟨_, _, rfl, rfl, ?_⟩
      refine ⟨_, rfl, ?_⟩
      refine ⟨_, _, rfl, rfl, .inl ⟨_, rfl, ?_⟩⟩
      refine ⟨_, _, rfl, rfl, (by show (0 : Int) < 2147483629; decide), ?_⟩
      refine ⟨_, rfl, _, _, rfl, rfl, ⟨by decide, by decide⟩, ?_⟩
      refine ⟨_, rfl, _, _, rfl, rfl, b0, ?_⟩
      exact q _ (Int.emod_nonneg _ (by omega)) (Int.emod_lt_of_pos _ b0)
abbrev s_l_picture : Stmt := top 62
theorem sc_l_picture : FnScope ["script", "k", "width", "height", "step", "first", "holes", "values", "covers", "place", "cover"] ["script", "k"] (defScope s_l_picture) := ⟨rfl, rfl, rfl, by decide +kernel, rfl, by decide +kernel, by decide +kernel⟩
def spPicF (K : PySem.W.Frag) : Sp := fun vs H Q _ => ∃ (a : Addr) (ns : List Int) (k : Int), vs = [.ref a, .int k] ∧ SqL K H a (ns.map V.int) ∧ 0 ≤ k ∧ ∀ v p H', Ex H H' → PcV H' v p → p.Ok 6 → Q v H'
theorem ok_l_picture {f : Addr} {fd : FuncData} (F : Fun K "_law_picture" "_law_picture" s_l_picture f fd) (T : Txt K mg) (D_l_draw : Def P w K mg base CX0 "_law_draw" 1 ["script", "k", "below"] (spDrawF K)) : FnOk P w K mg base CX0 2 f fd ["script", "k"] (spPicF K) := by
  refine F.ok sc_l_picture (fun vs H Q E h => ?_) (fun cdv A outer s H vs Q E hr h => ?_)
  · obtain ⟨a, ns, k, rfl, _⟩ := h
    rfl
  · obtain ⟨a, ns, k, rfl, hS, k0, q⟩ := h
    refine ⟨_, (pss_cons (ps_set (i := 2) sc_l_picture.nd rfl (by first | exact Or.inl rfl | exact Or.inr rfl) (pe_op op_add pe_int (pe_call D_l_draw.ok (hr.mono (by decide)) rfl D_l_draw.mgf D_l_draw.kp D_l_draw.b .nil pass0 (pa_cons (pv 0) (pa_cons (pv 1) (pa_cons pe_int pa_nil))))))
      (pss_cons (ps_set (i := 3) sc_l_picture.nd rfl (by first | exact Or.inl rfl | exact Or.inr rfl) (pe_op op_add pe_int (pe_call D_l_draw.ok (hr.mono (by decide)) rfl D_l_draw.mgf D_l_draw.kp D_l_draw.b .nil pass0 (pa_cons (pv 0) (pa_cons (pe_op op_add (pv 1) pe_int) (pa_cons pe_int pa_nil))))))
      (pss_cons (ps_set (i := 4) sc_l_picture.nd rfl (by first | exact Or.inl rfl | exact Or.inr rfl) (pe_op op_add pe_int (pe_call D_l_draw.ok (hr.mono (by decide)) rfl D_l_draw.mgf D_l_draw.kp D_l_draw.b .nil pass0 (pa_cons (pv 0) (pa_cons (pe_op op_add (pv 1) pe_int) (pa_cons pe_int pa_nil))))))
      (pss_cons (ps_set (i := 5) sc_l_picture.nd rfl (by first | exact Or.inl rfl | exact Or.inr rfl) (pe_call D_l_draw.ok (hr.mono (by decide)) rfl D_l_draw.mgf D_l_draw.kp D_l_draw.b .nil pass0 (pa_cons (pv 0) (pa_cons (pe_op op_add (pv 1) pe_int) (pa_cons pe_int pa_nil)))))
      (pss_cons (ps_set (i := 6) sc_l_picture.nd rfl (by first | exact Or.inl rfl | exact Or.inr rfl) (pe_call D_l_draw.ok (hr.mono (by decide)) rfl D_l_draw.mgf D_l_draw.kp D_l_draw.b .nil pass0 (pa_cons (pv 0) (pa_cons (pe_op op_add (pv 1) pe_int) (pa_cons pe_int pa_nil)))))
      (pss_cons (ps_set (i := 7) sc_l_picture.nd rfl (by first | exact Or.inl rfl | exact Or.inr rfl) (pe_lst pa_nil))
      (pss_cons (ps_set (i := 8) sc_l_picture.nd rfl (by first | exact Or.inl rfl | exact Or.inr rfl) (pe_lst pa_nil))
      (pss_cons (ps_for PassesOwn.never rfl (pi_range1 (by rfl) T.range_ (pa_cons (pe_op op_mul (pv 2) (pv 3)) pa_nil)) (pg_name (i := 9) sc_l_picture.nd rfl (by first | exact Or.inl rfl | exact Or.inr rfl))
        (pss_cons (ps_expr (pe_bm PySem.F.plainAttrs_list PySem.F.slot_list_append PySem.F.type_list_append mt_append (pv 7) (pa_cons (pe_op op_mod (pe_callTy call_int1 (by rfl) T.int_ bt_int (pa_cons (pe_op op_add (pv 5) (pe_op op_mul (pv 9) (pv 4))) pa_nil)) pe_int) pa_nil)))
        (pss_cons (ps_set (i := 10) sc_l_picture.nd rfl (by first | exact Or.inl rfl | exact Or.inr rfl) pe_int)
        (pss_cut (ps_if (PW.pt (pw_and (pt_cmpR op_eq (pv 6) pe_int (nomark _)) (pw_and1 (pt_cmpR op_eq (pe_op op_mod (pe_callTy call_int1 (by rfl) T.int_ bt_int (pa_cons (pv 9) pa_nil)) pe_int) pe_int (nomark _)))))
          (pss_one (ps_set (i := 10) sc_l_picture.nd rfl (by first | exact Or.inl rfl | exact Or.inr rfl) pe_int))
          pss_nil)
        (pss_cut (ps_if (pt_cmpR op_eq (pv 6) pe_int (nomark _))
          (pss_one (ps_set (i := 10) sc_l_picture.nd rfl (by first | exact Or.inl rfl | exact Or.inr rfl) (pe_op op_mod (pe_callTy call_int1 (by rfl) T.int_ bt_int (pa_cons (pe_op op_add (pe_op op_mul (pv 9) pe_int) (pv 5)) pa_nil)) pe_int)))
          pss_nil)
        (pss_one (ps_expr (pe_bm PySem.F.plainAttrs_list PySem.F.slot_list_append PySem.F.type_list_append mt_append (pv 8) (pa_cons (pv 10) pa_nil)))))))))
      (pss_one (ps_ret (pe_tup (pa_cons (pv 2) (pa_cons (pv 3) (pa_cons (pe_callTy (ktuple K) (by rfl) T.tuple_ bt_tuple (pa_cons (pv 7) pa_nil)) (pa_cons (pe_callTy (ktuple K) (by rfl) T.tuple_ bt_tuple (pa_cons (pv 8) pa_nil)) pa_nil))))))))))))))), ?_⟩
    refine ⟨_, rfl, _, rfl, a, ns, k, 6, rfl, hS, k0, by decide, by decide, fun wd w0 w1 => ?_⟩
    refine ⟨_, _, rfl, rfl, ?_⟩
    refine ⟨_, rfl, _, rfl, _, _, rfl, rfl, a, ns, k + 1, 6, rfl, hS, by omega, by decide, by decide, fun hg h0 h1 => ?_⟩
    refine ⟨_, _, rfl, rfl, ?_⟩
    refine ⟨_, rfl, _, rfl, _, _, rfl, rfl, a, ns, k + 2, 255, rfl, hS, by omega, by decide, by decide, fun st st0 st1 => ?_⟩
    refine ⟨_, _, rfl, rfl, ?_⟩
    refine ⟨_, rfl, _, rfl, _, _, rfl, rfl, a, ns, k + 3, 256, rfl, hS, by omega, by decide, by decide, fun fi fi0 fi1 => ?_⟩
    refine ⟨_, rfl, _, rfl, _, _, rfl, rfl, a, ns, k + 4, 4, rfl, hS, by omega, by decide, by decide, fun ho ho0 ho1 => ?_⟩
    refine ⟨Nat.zero_le _, fun D1 hD1 => ?_⟩
    have e1 := Ex.new (o := .lst []) hD1
    have g1 : upd H D1 (.lst []) D1 = some (.lst []) := upd_same
    generalize upd H D1 (.lst []) = H1 at e1 g1 ⊢
    refine ⟨Nat.zero_le _, fun D2 hD2 => ?_⟩
    have e2 := Ex.new (o := .lst []) hD2
    have g2 : upd H1 D2 (.lst []) D2 = some (.lst []) := upd_same
    have ne : D2 ≠ D1 := fun z => by rw [z, g1] at hD2; cases hD2
    have hD2' : H D2 = none := by
      cases z : H D2 with
      | none => rfl
      | some o => rw [e1 _ _ z] at hD2; cases hD2
    generalize upd H1 D2 (.lst []) = H2 at e2 g2 ⊢
    obtain ⟨a1, a2⟩ := area_le (w := 1 + wd) (h := 1 + hg) (m := 6) (by omega) (by omega) (by omega) (by omega)
    have hN : (((1 + wd) * (1 + hg)).toNat : Int) = (1 + wd) * (1 + hg) := by omega
    refine ⟨_, rfl, _, rfl, _, _, rfl, rfl, .inl ⟨by omega, by omega⟩, _, rfl, by omega, by omega, ?_⟩
    refine for_range (lo := 0) (n := ((1 + wd) * (1 + hg)).toNat) (fun i σ H' => Ex H H' ∧ ∃ (vs cs : List Int) (x y : Option V), σ = [some (.ref a), some (.int k), some (.int (1 + wd)), some (.int (1 + hg)), some (.int (1 + st)), some (.int fi), some (.int ho), some (.ref D1), some (.ref D2), x, y] ∧ H' D1 = some (.lst (vs.map V.int)) ∧ H' D2 = some (.lst (cs.map V.int)) ∧ vs.length = i ∧ cs.length = i ∧ (∀ v ∈ vs, 0 ≤ v ∧ v ≤ 255) ∧ ∀ v ∈ cs, 0 ≤ v ∧ v ≤ 256) ⟨e1.trans e2, [], [], _, _, rfl, e2 _ _ g1, g2, rfl, rfl, by simp, by simp⟩ ?_ ?_
    · rintro i σ H' hi ⟨e, vs, cs, x, y, rfl, hV, hC, lv, lc, bv, bc⟩
      refine ⟨_, rfl, .inl ⟨rfl, _, SqL.of hV⟩, _, rfl, _, rfl, _, rfl, _, _, rfl, rfl, .inl ⟨by omega, by omega⟩, _, _, rfl, rfl, .inl ⟨_, rfl, _, _, rfl, rfl, (by show (0 : Int) < 256; decide), ?_⟩⟩
      refine ⟨D1, _, _, rfl, rfl, hV, slineL (by rw [List.length_map]; omega), ?_⟩
      have m0 : 0 ≤ (fi + (0 + (i : Int)) * (1 + st)) % 256 := Int.emod_nonneg _ (by decide)
      have m1 : (fi + (0 + (i : Int)) * (1 + st)) % 256 < 256 := Int.emod_lt_of_pos _ (by decide)
      dsimp only
      generalize (fi + (0 + (i : Int)) * (1 + st)) % 256 = m at m0 m1 ⊢
      have e' : Ex H (upd H' D1 (.lst (vs.map V.int ++ [.int m]))) := e.mut hD1
      have hV' : upd H' D1 (.lst (vs.map V.int ++ [.int m])) D1 = some (.lst ((vs ++ [m]).map V.int)) := by rw [upd_same, List.map_append]; rfl
      have hC' : upd H' D1 (.lst (vs.map V.int ++ [.int m])) D2 = some (.lst (cs.map V.int)) := by rw [upd_ne ne]; exact hC
      generalize upd H' D1 (.lst (vs.map V.int ++ [.int m])) = H3 at e' hV' hC' ⊢
      refine ⟨fun σ H'' => H'' = H3 ∧ ∃ c : Int, σ = [some (.ref a), some (.int k), some (.int (1 + wd)), some (.int (1 + hg)), some (.int (1 + st)), some (.int fi), some (.int ho), some (.ref D1), some (.ref D2), some (.int (0 + (i : Int))), some (.int c)] ∧ 0 ≤ c ∧ c ≤ 256, ?_, ?_⟩
      · refine ⟨_, rfl, rfl, _, rfl, ?_⟩
        refine ite2 (fun _ => ?_) (fun _ => ⟨rfl, 256, rfl, by decide, by decide⟩)
        refine ⟨_, rfl, .inl ⟨_, rfl, _, _, rfl, rfl, (by show (0 : Int) < 3; decide), rfl, _, rfl, ?_⟩⟩
        exact ite2 (fun _ => ⟨rfl, 0, rfl, by decide, by decide⟩) (fun _ => ⟨rfl, 256, rfl, by decide, by decide⟩)
      rintro σ H4 ⟨rfl, c, rfl, c0, c1⟩
      refine ⟨fun σ H'' => H'' = H4 ∧ ∃ c : Int, σ = [some (.ref a), some (.int k), some (.int (1 + wd)), some (.int (1 + hg)), some (.int (1 + st)), some (.int fi), some (.int ho), some (.ref D1), some (.ref D2), some (.int (0 + (i : Int))), some (.int c)] ∧ 0 ≤ c ∧ c ≤ 256, ?_, ?_⟩
      · refine ⟨_, rfl, rfl, _, rfl, ?_⟩
        refine ite2 (fun _ => ?_) (fun _ => ⟨rfl, c, rfl, c0, c1⟩)
        refine ⟨_, rfl, _, _, rfl, rfl, .inr ⟨by decide, by decide⟩, _, rfl, _, _, rfl, rfl, .inl ⟨_, rfl, _, _, rfl, rfl, (by show (0 : Int) < 257; decide), ?_⟩⟩
        refine ⟨rfl, _, rfl, Int.emod_nonneg _ (by decide), ?_⟩
        have := Int.emod_lt_of_pos ((0 + (i : Int)) * 37 + fi) (show (0 : Int) < 257 by decide)
        omega
      rintro σ H5 ⟨rfl, d, rfl, d0, d1⟩
      refine ⟨_, rfl, .inl ⟨rfl, _, SqL.of hC'⟩, _, rfl, D2, _, _, rfl, rfl, hC', slineL (by rw [List.length_map]; omega), ?_⟩
      refine ⟨e'.mut hD2', vs ++ [m], cs ++ [d], _, _, rfl, by rw [upd_ne ne.symm]; exact hV', by rw [upd_same, List.map_append]; rfl, by simp [lv], by simp [lc], fun v hv => ?_, fun v hv => ?_⟩
      · rcases List.mem_append.mp hv with z | z
        · exact bv v z
        · rw [List.mem_singleton.mp z]; omega
      · rcases List.mem_append.mp hv with z | z
        · exact bc v z
        · rw [List.mem_singleton.mp z]; omega
    · rintro σ H' ⟨e, vs, cs, x, y, rfl, hV, hC, lv, lc, bv, bc⟩
      refine ⟨_, rfl, _, rfl, _, rfl, D1, _, rfl, .inl ⟨SqL.of hV, fun p1 hp1 => ?_⟩⟩
      have x1 := Ex.new (o := .tup (vs.map V.int)) hp1
      have y1 : upd H' p1 (.tup (vs.map V.int)) p1 = some (.tup (vs.map V.int)) := upd_same
      generalize upd H' p1 (.tup (vs.map V.int)) = H3 at x1 y1 ⊢
      refine ⟨_, rfl, D2, _, rfl, .inl ⟨SqL.of (x1 _ _ hC), fun p2 hp2 => ?_⟩⟩
      have x2 := Ex.new (o := .tup (cs.map V.int)) hp2
      have y2 : upd H3 p2 (.tup (cs.map V.int)) p2 = some (.tup (cs.map V.int)) := upd_same
      generalize upd H3 p2 (.tup (cs.map V.int)) = H4 at x2 y2 ⊢
      refine ⟨(by show 4 ≤ sizeLine; decide), fun p3 hp3 => ?_⟩
      have x3 := Ex.new (o := .tup [.int (1 + wd), .int (1 + hg), .ref p1, .ref p2]) hp3
      refine q (.ref p3) ⟨1 + wd, 1 + hg, vs, cs⟩ _ (((e.trans x1).trans x2).trans x3) ⟨p3, p1, p2, rfl, upd_same, (x2.trans x3) _ _ y1, x3 _ _ y2⟩ ⟨?_, ?_, ?_, ?_, ?_, ?_, bv, bc⟩ <;> dsimp only <;> omega
abbrev s_l_paint : Stmt := top 63
theorem sc_l_paint : FnScope ["script", "k", "kind"] ["script", "k"] (defScope s_l_paint) := ⟨rfl, rfl, rfl, by decide +kernel, rfl, by decide +kernel, by decide +kernel⟩
def spPaintF (K : PySem.W.Frag) : Sp := fun vs H Q _ => ∃ (a : Addr) (ns : List Int) (k : Int), vs = [.ref a, .int k] ∧ SqL K H a (ns.map V.int) ∧ 0 ≤ k ∧ ∀ v p H', Ex H H' → PaV H' v p → p.Ok 6 → Q v H'
theorem ok_l_paint {f : Addr} {fd : FuncData} (F : Fun K "_law_paint" "_law_paint" s_l_paint f fd) (T : Txt K mg) (D_l_draw : Def P w K mg base CX0 "_law_draw" 1 ["script", "k", "below"] (spDrawF K)) (D_l_picture : Def P w K mg base CX0 "_law_picture" 2 ["script", "k"] (spPicF K)) : FnOk P w K mg base CX0 3 f fd ["script", "k"] (spPaintF K) := by
  refine F.ok sc_l_paint (fun vs H Q E h => ?_) (fun cdv A outer s H vs Q E hr h => ?_)
  · obtain ⟨a, ns, k, rfl, _⟩ := h
    rfl
  · obtain ⟨a, ns, k, rfl, hS, k0, q⟩ := h
    refine ⟨_, (pss_cons (ps_set (i := 2) sc_l_paint.nd rfl (by first | exact Or.inl rfl | exact Or.inr rfl) (pe_call D_l_draw.ok (hr.mono (by decide)) rfl D_l_draw.mgf D_l_draw.kp D_l_draw.b .nil pass0 (pa_cons (pv 0) (pa_cons (pv 1) (pa_cons pe_int pa_nil)))))
      (pss_cons (ps_if (pt_cmpR op_lt (pv 2) pe_int (nomark _))
        (pss_one (ps_ret (pe_tup (pa_cons pe_str (pa_cons (pe_ix (kixL K) (pe_lst (pa_cons pe_int (pa_cons pe_int (pa_cons pe_int (pa_cons pe_int pa_nil))))) (pe_call D_l_draw.ok (hr.mono (by decide)) rfl D_l_draw.mgf D_l_draw.kp D_l_draw.b .nil pass0 (pa_cons (pv 0) (pa_cons (pe_op op_add (pv 1) pe_int) (pa_cons pe_int pa_nil)))) (fun _ _ => rfl)) pa_nil)))))
        pss_nil)
      (pss_cons (ps_if (pt_cmpR op_eq (pv 2) pe_int (nomark _))
        (pss_one (ps_ret (pe_tup (pa_cons pe_str (pa_cons (pe_call D_l_picture.ok (hr.mono (by decide)) rfl D_l_picture.mgf D_l_picture.kp D_l_picture.b .nil pass0 (pa_cons (pv 0) (pa_cons (pe_op op_add (pv 1) pe_int) pa_nil))) pa_nil)))))
        pss_nil)
      (pss_one (ps_ret (pe_tup (pa_cons pe_str (pa_cons (pe_call D_l_draw.ok (hr.mono (by decide)) rfl D_l_draw.mgf D_l_draw.kp D_l_draw.b .nil pass0 (pa_cons (pv 0) (pa_cons (pe_op op_add (pv 1) pe_int) (pa_cons pe_int pa_nil)))) (pa_cons (pe_call D_l_draw.ok (hr.mono (by decide)) rfl D_l_draw.mgf D_l_draw.kp D_l_draw.b .nil pass0 (pa_cons (pv 0) (pa_cons (pe_op op_add (pv 1) pe_int) (pa_cons pe_int pa_nil)))) (pa_cons (pe_op op_add pe_int (pe_call D_l_draw.ok (hr.mono (by decide)) rfl D_l_draw.mgf D_l_draw.kp D_l_draw.b .nil pass0 (pa_cons (pv 0) (pa_cons (pe_op op_add (pv 1) pe_int) (pa_cons pe_int pa_nil))))) pa_nil)))))))))), ?_⟩
    refine ⟨_, rfl, _, rfl, a, ns, k, 4, rfl, hS, k0, by decide, by decide, fun kd kd0 kd1 => ?_⟩
    refine ⟨_, rfl, _, _, rfl, rfl, _, rfl, ?_⟩
    refine ite2 (fun _ => ?_) (fun _ => ?_)
    · refine ⟨(by show 4 ≤ sizeLine; decide), fun l hl => ?_⟩
      have f6 := Ex.new (o := .lst [.int 0, .int 255, .int 9, .int 100]) hl
      have k6 : upd H l (.lst [.int 0, .int 255, .int 9, .int 100]) l = some (.lst ([0, 255, 9, 100].map V.int)) := upd_same
      generalize upd H l (.lst [.int 0, .int 255, .int 9, .int 100]) = H6 at f6 k6 ⊢
      refine ⟨_, rfl, _, rfl, _, _, rfl, rfl, a, ns, k + 1, 4, rfl, ex_l f6 hS, by omega, by decide, by decide, fun j j0 j1 => ?_⟩
      obtain ⟨b, hb, exb⟩ := pickI (ns := [0, 255, 9, 100]) j0 j1
      simp only [List.mem_cons, List.not_mem_nil, or_false] at hb
      refine ⟨l, _, j, _, rfl, rfl, SqL.of k6, exb, ?_⟩
      refine ⟨(by show 2 ≤ sizeLine; decide), fun t ht => ?_⟩
      exact q _ (.solid b) _ (f6.trans (Ex.new ht)) ⟨t, rfl, upd_same⟩ ⟨by omega, by omega⟩
    · refine ⟨_, rfl, rfl, _, rfl, ?_⟩
      refine ite2 (fun _ => ?_) (fun _ => ?_)
      · refine ⟨_, rfl, _, rfl, _, _, rfl, rfl, a, ns, k + 1, rfl, hS, by omega, fun u p H1 e1 hp kp => ?_⟩
        refine ⟨(by show 2 ≤ sizeLine; decide), fun t ht => ?_⟩
        exact q _ (.pic p) _ (e1.trans (Ex.new ht)) ⟨t, u, rfl, upd_same, hp.tk (TK.ex (Ex.new ht))⟩ kp
      · refine ⟨_, rfl, _, rfl, _, _, rfl, rfl, a, ns, k + 1, 256, rfl, hS, by omega, by decide, by decide, fun x x0 x1 => ?_⟩
        refine ⟨_, rfl, _, rfl, _, _, rfl, rfl, a, ns, k + 2, 256, rfl, hS, by omega, by decide, by decide, fun y y0 y1 => ?_⟩
        refine ⟨_, rfl, _, rfl, _, _, rfl, rfl, a, ns, k + 3, 3, rfl, hS, by omega, by decide, by decide, fun z z0 z1 => ?_⟩
        refine ⟨_, _, rfl, rfl, ?_⟩
        refine ⟨(by show 4 ≤ sizeLine; decide), fun t ht => ?_⟩
        exact q _ (.steps x y (1 + z)) _ (Ex.new ht) ⟨t, rfl, upd_same⟩ ⟨x0, by omega, y0, by omega, by omega, by omega⟩
abbrev s_l_clips : Stmt := top 65
theorem sc_l_clips : FnScope ["script", "k", "adjusts", "clips", "start", "j", "at", "length", "fade", "after"] ["script", "k", "adjusts"] (defScope s_l_clips) := ⟨rfl, rfl, rfl, by decide +kernel, rfl, by decide +kernel, by decide +kernel⟩
def spClipsF (K : PySem.W.Frag) : Sp := fun vs H Q _ => ∃ (a : Addr) (ns : List Int) (k : Int) (ad : Bool), vs = [.ref a, .int k, .bl ad] ∧ SqL K H a (ns.map V.int) ∧ 0 ≤ k ∧ ∀ p us cs H', Ex H H' → H' p = some (.tup us) → ClsV H' us cs → ClsOkF ad cs → Q (.ref p) H'
theorem ok_l_clips {f : Addr} {fd : FuncData} (F : Fun K "_law_clips" "_law_clips" s_l_clips f fd) (T : Txt K mg) (D_l_draw : Def P w K mg base CX0 "_law_draw" 1 ["script", "k", "below"] (spDrawF K)) (D_l_paint : Def P w K mg base CX0 "_law_paint" 3 ["script", "k"] (spPaintF K)) : FnOk P w K mg base CX0 4 f fd ["script", "k", "adjusts"] (spClipsF K) := by
  refine F.ok sc_l_clips (fun vs H Q E h => ?_) (fun cdv A outer s H vs Q E hr h => ?_)
  · obtain ⟨a, ns, k, ad, rfl, _⟩ := h
    rfl
  · obtain ⟨a, ns, k, ad, rfl, hS, k0, q⟩ := h
    refine ⟨_, (pss_cons (ps_set (i := 3) sc_l_clips.nd rfl (by first | exact Or.inl rfl | exact Or.inr rfl) (pe_lst pa_nil))
      (pss_cons (ps_set (i := 4) sc_l_clips.nd rfl (by first | exact Or.inl rfl | exact Or.inr rfl) (pe_call D_l_draw.ok (hr.mono (by decide)) rfl D_l_draw.mgf D_l_draw.kp D_l_draw.b .nil pass0 (pa_cons (pv 0) (pa_cons (pv 1) (pa_cons pe_int pa_nil)))))
      (pss_cons (ps_for PassesOwn.never rfl (pi_range1 (by rfl) T.range_ (pa_cons (pe_ix (kixL K) (pe_lst (pa_cons pe_int (pa_cons pe_int (pa_cons pe_int (pa_cons pe_int (pa_cons pe_int (pa_cons pe_int pa_nil))))))) (pe_call D_l_draw.ok (hr.mono (by decide)) rfl D_l_draw.mgf D_l_draw.kp D_l_draw.b .nil pass0 (pa_cons (pv 0) (pa_cons (pe_op op_add (pv 1) pe_int) (pa_cons pe_int pa_nil)))) (fun _ _ => rfl)) pa_nil)) (pg_name (i := 5) sc_l_clips.nd rfl (by first | exact Or.inl rfl | exact Or.inr rfl))
        (pss_cons (ps_set (i := 6) sc_l_clips.nd rfl (by first | exact Or.inl rfl | exact Or.inr rfl) (pe_op op_add (pe_op op_add (pv 1) pe_int) (pe_op op_mul pe_int (pv 5))))
        (pss_cons (ps_set (i := 7) sc_l_clips.nd rfl (by first | exact Or.inl rfl | exact Or.inr rfl) (pe_op op_add pe_int (pe_call D_l_draw.ok (hr.mono (by decide)) rfl D_l_draw.mgf D_l_draw.kp D_l_draw.b .nil pass0 (pa_cons (pv 0) (pa_cons (pv 6) (pa_cons pe_int pa_nil))))))
        (pss_cut (ps_if (pt_val (pv 2))
          (pss_one (ps_expr (pe_bm PySem.F.plainAttrs_list PySem.F.slot_list_append PySem.F.type_list_append mt_append (pv 3) (pa_cons (pe_tup (pa_cons (pv 4) (pa_cons (pv 7) (pa_cons pe_non (pa_cons pe_int (pa_cons pe_int pa_nil)))))) pa_nil))))
          (pss_cons (ps_set (i := 8) sc_l_clips.nd rfl (by first | exact Or.inl rfl | exact Or.inr rfl) pe_int)
          (pss_cons (ps_set (i := 9) sc_l_clips.nd rfl (by first | exact Or.inl rfl | exact Or.inr rfl) pe_int)
          (pss_cut (ps_if (pt_cmpR op_eq (pe_call D_l_draw.ok (hr.mono (by decide)) rfl D_l_draw.mgf D_l_draw.kp D_l_draw.b .nil pass0 (pa_cons (pv 0) (pa_cons (pe_op op_add (pv 6) pe_int) (pa_cons pe_int pa_nil)))) pe_int (nomark _))
            (pss_cons (ps_set (i := 8) sc_l_clips.nd rfl (by first | exact Or.inl rfl | exact Or.inr rfl) (pe_call D_l_draw.ok (hr.mono (by decide)) rfl D_l_draw.mgf D_l_draw.kp D_l_draw.b .nil pass0 (pa_cons (pv 0) (pa_cons (pe_op op_add (pv 6) pe_int) (pa_cons (pe_op op_add (pv 7) pe_int) pa_nil)))))
            (pss_one (ps_set (i := 9) sc_l_clips.nd rfl (by first | exact Or.inl rfl | exact Or.inr rfl) (pe_call D_l_draw.ok (hr.mono (by decide)) rfl D_l_draw.mgf D_l_draw.kp D_l_draw.b .nil pass0 (pa_cons (pv 0) (pa_cons (pe_op op_add (pv 6) pe_int) (pa_cons (pe_op op_add (pe_op op_sub (pv 7) (pv 8)) pe_int) pa_nil)))))))
            pss_nil)
          (pss_one (ps_expr (pe_bm PySem.F.plainAttrs_list PySem.F.slot_list_append PySem.F.type_list_append mt_append (pv 3) (pa_cons (pe_tup (pa_cons (pv 4) (pa_cons (pv 7) (pa_cons (pe_call D_l_paint.ok (hr.mono (by decide)) rfl D_l_paint.mgf D_l_paint.kp D_l_paint.b .nil pass0 (pa_cons (pv 0) (pa_cons (pe_op op_add (pv 6) pe_int) pa_nil))) (pa_cons (pv 8) (pa_cons (pv 9) pa_nil)))))) pa_nil))))))))
        (pss_one (ps_set (i := 4) sc_l_clips.nd rfl (by first | exact Or.inl rfl | exact Or.inr rfl) (pe_op op_add (pe_op op_add (pv 4) (pv 7)) (pe_call D_l_draw.ok (hr.mono (by decide)) rfl D_l_draw.mgf D_l_draw.kp D_l_draw.b .nil pass0 (pa_cons (pv 0) (pa_cons (pe_op op_add (pv 6) pe_int) (pa_cons pe_int pa_nil)))))))))))
      (pss_one (ps_ret (pe_callTy (ktuple K) (by rfl) T.tuple_ bt_tuple (pa_cons (pv 3) pa_nil))))))), ?_⟩
    refine ⟨Nat.zero_le _, fun D hD => ?_⟩
    have e0 := Ex.new (o := .lst []) hD
    have g0 : upd H D (.lst []) D = some (.lst []) := upd_same
    generalize upd H D (.lst []) = H0 at e0 g0 ⊢
    refine ⟨_, rfl, _, rfl, a, ns, k, 3, rfl, ex_l e0 hS, k0, by decide, by decide, fun st st0 st1 => ?_⟩
    refine ⟨(by show 6 ≤ sizeLine; decide), fun l hl => ?_⟩
    have f1 := Ex.new (o := .lst [.int 1, .int 1, .int 1, .int 2, .int 2, .int 0]) hl
    have k1 : upd H0 l (.lst [.int 1, .int 1, .int 1, .int 2, .int 2, .int 0]) l = some (.lst ([1, 1, 1, 2, 2, 0].map V.int)) := upd_same
    generalize upd H0 l (.lst [.int 1, .int 1, .int 1, .int 2, .int 2, .int 0]) = H1 at f1 k1 ⊢
    refine ⟨_, rfl, _, rfl, _, _, rfl, rfl, a, ns, k + 1, 6, rfl, ex_l (e0.trans f1) hS, by omega, by decide, by decide, fun j j0 j1 => ?_⟩
    obtain ⟨b, hb, exb⟩ := pickI (ns := [1, 1, 1, 2, 2, 0]) j0 j1
    simp only [List.mem_cons, List.not_mem_nil, or_false] at hb
    refine ⟨l, _, j, _, rfl, rfl, SqL.of k1, exb, ?_⟩
    refine ⟨_, rfl, by omega, by omega, ?_⟩
    refine for_range (lo := 0) (n := b.toNat) (fun i σ H' => Ex H H' ∧ ∃ (us : List V) (cs : List Cl) (st : Int) (x5 x6 x7 x8 x9 : Option V), σ = [some (.ref a), some (.int k), some (.bl ad), some (.ref D), some (.int st), x5, x6, x7, x8, x9] ∧ H' D = some (.lst us) ∧ ClsV H' us cs ∧ Apart cs ∧ cs.length = i ∧ 0 ≤ st ∧ st ≤ 2 + 10 * (i : Int) ∧ ∀ c ∈ cs, c.OkF ∧ c.fin ≤ st ∧ AdjOk ad c) ⟨e0.trans f1, [], [], st, _, _, _, _, _, rfl, f1 _ _ g0, .nil, .nil, rfl, st0, by omega, by simp⟩ ?_ ?_
    · rintro i σ H' hi ⟨e, us, cs, st, x5, x6, x7, x8, x9, rfl, hU, hC, hA, hn, g0', g1', kM⟩
      have hul := hC.length
      have i0 : (0 : Int) ≤ i := Int.natCast_nonneg i
      have i1 : (i : Int) ≤ 1 := by omega
      refine ⟨_, rfl, _, _, rfl, rfl, _, rfl, _, _, rfl, rfl, .inl ⟨by decide, by decide⟩, _, _, rfl, rfl, ?_⟩
      refine ⟨_, rfl, _, rfl, a, ns, k + 2 + 12 * (0 + (i : Int)), 8, rfl, ex_l e hS, by omega, by decide, by decide, fun L l0 l1 => ?_⟩
      refine ⟨_, _, rfl, rfl, ?_⟩
      refine ⟨fun σ H'' => Ex H H'' ∧ ∃ (us' : List V) (c : Cl) (x8 x9 : Option V), σ = [some (.ref a), some (.int k), some (.bl ad), some (.ref D), some (.int st), some (.int (0 + (i : Int))), some (.int (k + 2 + 12 * (0 + (i : Int)))), some (.int (1 + L)), x8, x9] ∧ H'' D = some (.lst us') ∧ ClsV H'' us' (cs ++ [c]) ∧ c.OkF ∧ c.s = st ∧ c.n = 1 + L ∧ AdjOk ad c, ?_, ?_⟩
      · refine ⟨_, rfl, _, rfl, ?_⟩
        refine ite2 (fun had => ?_) (fun had => ?_)
        · refine ⟨_, rfl, .inl ⟨rfl, _, SqL.of hU⟩, ?_⟩
          refine ⟨_, rfl, _, rfl, ?_⟩
          refine ⟨(by show 5 ≤ sizeLine; decide), fun tp htp => ?_⟩
          have f6 := Ex.new (o := .tup [.int st, .int (1 + L), .non, .int 0, .int 0]) htp
          have g6 : upd H' tp (.tup [.int st, .int (1 + L), .non, .int 0, .int 0]) tp = some (.tup [.int st, .int (1 + L), .non, .int 0, .int 0]) := upd_same
          generalize upd H' tp (.tup [.int st, .int (1 + L), .non, .int 0, .int 0]) = H6 at f6 g6 ⊢
          have hU6 := f6 _ _ hU
          have hC6 := hC.tk (TK.ex f6)
          refine ⟨D, us, _, rfl, rfl, hU6, slineL (by omega), ?_⟩
          have tk : TK H6 (upd H6 D (.lst (us ++ [.ref tp]))) := TK.lst hU6
          have e7 : Ex H (upd H6 D (.lst (us ++ [.ref tp]))) := (e.trans f6).mut hD
          have hC7 : ClsV (upd H6 D (.lst (us ++ [.ref tp]))) (us ++ [.ref tp]) (cs ++ [⟨st, 1 + L, none, 0, 0⟩]) := pr_append (hC6.tk tk) (.cons ⟨tp, .non, rfl, tk _ _ g6, rfl⟩ .nil)
          refine ⟨e7, us ++ [.ref tp], ⟨st, 1 + L, none, 0, 0⟩, _, _, rfl, upd_same, hC7, ⟨g0', by show 1 ≤ 1 + L; omega, by show 1 + L ≤ 8; omega, Int.le_refl 0, Int.le_refl 0, by show (0 : Int) + 0 ≤ 1 + L; omega, trivial⟩, rfl, rfl, ⟨fun _ => ⟨rfl, rfl, rfl⟩, fun h => by rw [h] at had; cases had⟩⟩
        · refine ⟨fun σ H'' => H'' = H' ∧ ∃ x y : Int, σ = [some (.ref a), some (.int k), some (.bl ad), some (.ref D), some (.int st), some (.int (0 + (i : Int))), some (.int (k + 2 + 12 * (0 + (i : Int)))), some (.int (1 + L)), some (.int x), some (.int y)] ∧ 0 ≤ x ∧ 0 ≤ y ∧ x + y ≤ 1 + L, ?_, ?_⟩
          · refine ⟨_, rfl, _, rfl, _, _, rfl, rfl, a, ns, k + 2 + 12 * (0 + (i : Int)) + 1, 3, rfl, ex_l e hS, by omega, by decide, by decide, fun z z0 z1 => ?_⟩
            refine ⟨rfl, _, rfl, ?_⟩
            refine ite2 (fun _ => ?_) (fun _ => ⟨rfl, 0, 0, rfl, Int.le_refl 0, Int.le_refl 0, by omega⟩)
            refine ⟨_, rfl, _, rfl, _, _, rfl, rfl, _, rfl, _, _, rfl, rfl, a, ns, k + 2 + 12 * (0 + (i : Int)) + 2, 1 + L + 1, rfl, ex_l e hS, by omega, by omega, by omega, fun x x0 x1 => ?_⟩
            refine ⟨_, rfl, _, rfl, _, _, rfl, rfl, _, rfl, _, rfl, _, _, rfl, rfl, _, _, rfl, rfl, a, ns, k + 2 + 12 * (0 + (i : Int)) + 3, 1 + L - x + 1, rfl, ex_l e hS, by omega, by omega, by omega, fun y y0 y1 => ?_⟩
            exact ⟨rfl, x, y, rfl, x0, y0, by omega⟩
          rintro σ H5 ⟨rfl, x, y, rfl, x0, y0, xy⟩
          refine ⟨_, rfl, .inl ⟨rfl, _, SqL.of hU⟩, ?_⟩
          refine ⟨_, rfl, _, rfl, _, rfl, _, rfl, _, _, rfl, rfl, a, ns, k + 2 + 12 * (0 + (i : Int)) + 4, rfl, ex_l e hS, by omega, fun u p H5 e5 hp kp => ?_⟩
          have hU5 := e5 _ _ hU
          have hC5 := hC.tk (TK.ex e5)
          have e05 := e.trans e5
          refine ⟨_, rfl, _, rfl, ?_⟩
          refine ⟨(by show 5 ≤ sizeLine; decide), fun tp htp => ?_⟩
          have f6 := Ex.new (o := .tup [.int st, .int (1 + L), u, .int x, .int y]) htp
          have g6 : upd H5 tp (.tup [.int st, .int (1 + L), u, .int x, .int y]) tp = some (.tup [.int st, .int (1 + L), u, .int x, .int y]) := upd_same
          generalize upd H5 tp (.tup [.int st, .int (1 + L), u, .int x, .int y]) = H6 at f6 g6 ⊢
          have hU6 := f6 _ _ hU5
          have hC6 := hC5.tk (TK.ex f6)
          refine ⟨D, us, _, rfl, rfl, hU6, slineL (by omega), ?_⟩
          have tk : TK H6 (upd H6 D (.lst (us ++ [.ref tp]))) := TK.lst hU6
          have e7 : Ex H (upd H6 D (.lst (us ++ [.ref tp]))) := (e05.trans f6).mut hD
          have hC7 : ClsV (upd H6 D (.lst (us ++ [.ref tp]))) (us ++ [.ref tp]) (cs ++ [⟨st, 1 + L, some p, x, y⟩]) := pr_append (hC6.tk tk) (.cons ⟨tp, u, rfl, tk _ _ g6, (hp.tk (TK.ex f6)).tk tk⟩ .nil)
          refine ⟨e7, us ++ [.ref tp], ⟨st, 1 + L, some p, x, y⟩, _, _, rfl, upd_same, hC7, ⟨g0', by show 1 ≤ 1 + L; omega, by show 1 + L ≤ 8; omega, x0, y0, xy, kp⟩, rfl, rfl, ⟨fun h => absurd h had, fun _ => ⟨p, rfl⟩⟩⟩
      rintro σ H8 ⟨e8, us', c, x8, x9, rfl, hU8, hC8, kc, es, en, ac⟩
      refine ⟨_, rfl, _, rfl, _, _, rfl, rfl, ?_⟩
      refine ⟨_, rfl, _, rfl, _, _, rfl, rfl, a, ns, k + 2 + 12 * (0 + (i : Int)) + 11, 3, rfl, ex_l e8 hS, by omega, by decide, by decide, fun r r0 r1 => ?_⟩
      refine ⟨_, _, rfl, rfl, ?_⟩
      refine ⟨e8, us', cs ++ [c], st + (1 + L) + r, _, _, _, _, _, rfl, hU8, hC8, ?_, by rw [List.length_append, hn]; rfl, by omega, by omega, fun z hz => ?_⟩
      · exact List.pairwise_append.mpr ⟨hA, List.pairwise_singleton _ _, fun x hx y hy => by rw [List.mem_singleton.mp hy, es]; exact (kM x hx).2.1⟩
      · rcases List.mem_append.mp hz with h | h
        · have := kM z h
          exact ⟨this.1, by omega, this.2.2⟩
        · rw [List.mem_singleton.mp h]
          exact ⟨kc, by unfold Cl.fin; omega, ac⟩
    · rintro σ H' ⟨e, us, cs, st, x5, x6, x7, x8, x9, rfl, hU, hC, hA, hn, g0', g1', kM⟩
      refine ⟨_, rfl, D, us, rfl, .inl ⟨SqL.of hU, fun tp htp => ?_⟩⟩
      have f9 := Ex.new (o := .tup us) htp
      exact q tp us cs _ (e.trans f9) upd_same (hC.tk (TK.ex f9)) ⟨hA, fun c hc => (kM c hc).1, fun c hc => by have := (kM c hc).2.1; omega, fun c hc => (kM c hc).2.2, by omega⟩
abbrev s_l_what : Stmt := top 66
theorem sc_l_what : FnScope ["script", "k", "kind", "opacity"] ["script", "k"] (defScope s_l_what) := ⟨rfl, rfl, rfl, by decide +kernel, rfl, by decide +kernel, by decide +kernel⟩
def spWhatF (K : PySem.W.Frag) : Sp := fun vs H Q _ => ∃ (a : Addr) (ns : List Int) (k : Int), vs = [.ref a, .int k] ∧ SqL K H a (ns.map V.int) ∧ 0 ≤ k ∧ ∀ v x H', Ex H H' → WhV H' v x → x.Ok → Q v H'
theorem ok_l_what {f : Addr} {fd : FuncData} (F : Fun K "_law_what" "_law_what" s_l_what f fd) (T : Txt K mg) (D_l_draw : Def P w K mg base CX0 "_law_draw" 1 ["script", "k", "below"] (spDrawF K)) : FnOk P w K mg base CX0 2 f fd ["script", "k"] (spWhatF K) := by
  refine F.ok sc_l_what (fun vs H Q E h => ?_) (fun cdv A outer s H vs Q E hr h => ?_)
  · obtain ⟨a, ns, k, rfl, _⟩ := h
    rfl
  · obtain ⟨a, ns, k, rfl, hS, k0, q⟩ := h
    refine ⟨_, (pss_cons (ps_set (i := 2) sc_l_what.nd rfl (by first | exact Or.inl rfl | exact Or.inr rfl) (pe_call D_l_draw.ok (hr.mono (by decide)) rfl D_l_draw.mgf D_l_draw.kp D_l_draw.b .nil pass0 (pa_cons (pv 0) (pa_cons (pv 1) (pa_cons pe_int pa_nil)))))
      (pss_cons (ps_if (pt_cmpR op_eq (pv 2) pe_int (nomark _))
        (pss_one (ps_ret (pe_tup (pa_cons pe_str pa_nil))))
        pss_nil)
      (pss_cons (ps_if (pt_cmpR op_eq (pv 2) pe_int (nomark _))
        (pss_one (ps_ret (pe_tup (pa_cons pe_str (pa_cons (pe_op op_sub (pe_call D_l_draw.ok (hr.mono (by decide)) rfl D_l_draw.mgf D_l_draw.kp D_l_draw.b .nil pass0 (pa_cons (pv 0) (pa_cons (pe_op op_add (pv 1) pe_int) (pa_cons pe_int pa_nil)))) pe_int) pa_nil)))))
        pss_nil)
      (pss_cons (ps_set (i := 3) sc_l_what.nd rfl (by first | exact Or.inl rfl | exact Or.inr rfl) (pe_ix (kixL K) (pe_lst (pa_cons pe_int (pa_cons pe_int (pa_cons pe_int (pa_cons pe_int (pa_cons pe_int (pa_cons pe_int pa_nil))))))) (pe_call D_l_draw.ok (hr.mono (by decide)) rfl D_l_draw.mgf D_l_draw.kp D_l_draw.b .nil pass0 (pa_cons (pv 0) (pa_cons (pe_op op_add (pv 1) pe_int) (pa_cons pe_int pa_nil)))) (fun _ _ => rfl)))
      (pss_one (ps_ret (pe_tup (pa_cons pe_str (pa_cons (pv 3) (pa_cons (pe_ix (kixL K) (pe_lst (pa_cons pe_str (pa_cons pe_str (pa_cons pe_str (pa_cons pe_str (pa_cons pe_str pa_nil)))))) (pe_call D_l_draw.ok (hr.mono (by decide)) rfl D_l_draw.mgf D_l_draw.kp D_l_draw.b .nil pass0 (pa_cons (pv 0) (pa_cons (pe_op op_add (pv 1) pe_int) (pa_cons pe_int pa_nil)))) (fun _ _ => rfl)) pa_nil)))))))))), ?_⟩
    refine ⟨_, rfl, _, rfl, a, ns, k, 8, rfl, hS, k0, by decide, by decide, fun kd kd0 kd1 => ?_⟩
    refine ⟨_, rfl, rfl, _, rfl, ?_⟩
    refine ite2 (fun _ => ?_) (fun _ => ?_)
    · refine ⟨(by show 1 ≤ sizeLine; decide), fun t ht => ?_⟩
      exact q _ .invert _ (Ex.new ht) ⟨t, rfl, upd_same⟩ trivial
    refine ⟨_, rfl, rfl, _, rfl, ?_⟩
    refine ite2 (fun _ => ?_) (fun _ => ?_)
    · refine ⟨_, rfl, _, rfl, _, _, rfl, rfl, a, ns, k + 1, 511, rfl, hS, by omega, by decide, by decide, fun n n0 n1 => ?_⟩
      refine ⟨_, _, rfl, rfl, ?_⟩
      refine ⟨(by show 2 ≤ sizeLine; decide), fun t ht => ?_⟩
      exact q _ (.shift (n - 255)) _ (Ex.new ht) ⟨t, rfl, upd_same⟩ ⟨by omega, by omega⟩
    refine ⟨(by show 6 ≤ sizeLine; decide), fun l hl => ?_⟩
    have f6 := Ex.new (o := .lst [.int 256, .int 256, .int 256, .int 128, .int 3, .int 0]) hl
    have k6 : upd H l (.lst [.int 256, .int 256, .int 256, .int 128, .int 3, .int 0]) l = some (.lst ([256, 256, 256, 128, 3, 0].map V.int)) := upd_same
    generalize upd H l (.lst [.int 256, .int 256, .int 256, .int 128, .int 3, .int 0]) = H6 at f6 k6 ⊢
    refine ⟨_, rfl, _, rfl, _, _, rfl, rfl, a, ns, k + 1, 6, rfl, ex_l f6 hS, by omega, by decide, by decide, fun j j0 j1 => ?_⟩
    obtain ⟨b, hb, exb⟩ := pickI (ns := [256, 256, 256, 128, 3, 0]) j0 j1
    simp only [List.mem_cons, List.not_mem_nil, or_false] at hb
    refine ⟨l, _, j, _, rfl, rfl, SqL.of k6, exb, ?_⟩
    refine ⟨_, rfl, (by show 5 ≤ sizeLine; decide), fun l2 hl2 => ?_⟩
    obtain ⟨ws, hws⟩ : ∃ ws : List Str, ws = [("over" : Str), ("over" : Str), ("over" : Str), ("add" : Str), ("times" : Str)] := ⟨_, rfl⟩
    have e0 : ws.map V.str = [.str "over", .str "over", .str "over", .str "add", .str "times"] := by rw [hws]; rfl
    have f7 := Ex.new (o := .lst (ws.map V.str)) hl2
    have k7 : upd H6 l2 (.lst (ws.map V.str)) l2 = some (.lst (ws.map V.str)) := upd_same
    rw [← e0]
    generalize upd H6 l2 (.lst (ws.map V.str)) = H7 at f7 k7 ⊢
    refine ⟨_, rfl, _, rfl, _, _, rfl, rfl, a, ns, k + 2, 5, rfl, ex_l (f6.trans f7) hS, by omega, by decide, by decide, fun i i0 i1 => ?_⟩
    obtain ⟨m, hm, exm⟩ := pickS (ws := ws) i0 (by rw [hws]; exact i1)
    refine ⟨l2, _, i, _, rfl, rfl, SqL.of k7, exm, ?_⟩
    refine ⟨(by show 3 ≤ sizeLine; decide), fun t ht => ?_⟩
    refine q _ (.paint b m) _ ((f6.trans f7).trans (Ex.new ht)) ⟨t, rfl, upd_same⟩ ⟨by omega, by omega, ?_⟩
    rw [hws] at hm
    unfold modes3
    simp only [List.mem_cons, List.not_mem_nil, or_false] at hm ⊢
    rcases hm with h | h | h | h | h
    · exact .inl h
    · exact .inl h
    · exact .inl h
    · exact .inr (.inl h)
    · exact .inr (.inr h)
abbrev s_l_box : Stmt := top 67
theorem sc_l_box : FnScope ["script", "k", "left", "top"] ["script", "k"] (defScope s_l_box) := ⟨rfl, rfl, rfl, by decide +kernel, rfl, by decide +kernel, by decide +kernel⟩
def spBoxF (K : PySem.W.Frag) : Sp := fun vs H Q _ => ∃ (a : Addr) (ns : List Int) (k : Int), vs = [.ref a, .int k] ∧ SqL K H a (ns.map V.int) ∧ 0 ≤ k ∧ ∀ v b H', Ex H H' → BxV H' v b → b.Ok → Q v H'
theorem ok_l_box {f : Addr} {fd : FuncData} (F : Fun K "_law_box" "_law_box" s_l_box f fd) (T : Txt K mg) (D_l_draw : Def P w K mg base CX0 "_law_draw" 1 ["script", "k", "below"] (spDrawF K)) : FnOk P w K mg base CX0 2 f fd ["script", "k"] (spBoxF K) := by
  refine F.ok sc_l_box (fun vs H Q E h => ?_) (fun cdv A outer s H vs Q E hr h => ?_)
  · obtain ⟨a, ns, k, rfl, _⟩ := h
    rfl
  · obtain ⟨a, ns, k, rfl, hS, k0, q⟩ := h
    refine ⟨_, (pss_cons (ps_set (i := 2) sc_l_box.nd rfl (by first | exact Or.inl rfl | exact Or.inr rfl) (pe_op op_sub (pe_call D_l_draw.ok (hr.mono (by decide)) rfl D_l_draw.mgf D_l_draw.kp D_l_draw.b .nil pass0 (pa_cons (pv 0) (pa_cons (pv 1) (pa_cons pe_int pa_nil)))) pe_int))
      (pss_cons (ps_set (i := 3) sc_l_box.nd rfl (by first | exact Or.inl rfl | exact Or.inr rfl) (pe_op op_sub (pe_call D_l_draw.ok (hr.mono (by decide)) rfl D_l_draw.mgf D_l_draw.kp D_l_draw.b .nil pass0 (pa_cons (pv 0) (pa_cons (pe_op op_add (pv 1) pe_int) (pa_cons pe_int pa_nil)))) pe_int))
      (pss_cons (ps_if (pt_cmpR op_eq (pe_call D_l_draw.ok (hr.mono (by decide)) rfl D_l_draw.mgf D_l_draw.kp D_l_draw.b .nil pass0 (pa_cons (pv 0) (pa_cons (pe_op op_add (pv 1) pe_int) (pa_cons pe_int pa_nil)))) pe_int (nomark _))
        (pss_one (ps_ret (pe_tup (pa_cons (pe_un un_neg pe_int) (pa_cons (pe_un un_neg pe_int) (pa_cons pe_int (pa_cons pe_int pa_nil)))))))
        pss_nil)
      (pss_one (ps_ret (pe_tup (pa_cons (pv 2) (pa_cons (pv 3) (pa_cons (pe_op op_add pe_int (pe_call D_l_draw.ok (hr.mono (by decide)) rfl D_l_draw.mgf D_l_draw.kp D_l_draw.b .nil pass0 (pa_cons (pv 0) (pa_cons (pe_op op_add (pv 1) pe_int) (pa_cons pe_int pa_nil))))) (pa_cons (pe_op op_add pe_int (pe_call D_l_draw.ok (hr.mono (by decide)) rfl D_l_draw.mgf D_l_draw.kp D_l_draw.b .nil pass0 (pa_cons (pv 0) (pa_cons (pe_op op_add (pv 1) pe_int) (pa_cons pe_int pa_nil))))) pa_nil)))))))))), ?_⟩
    refine ⟨_, rfl, _, rfl, a, ns, k, 12, rfl, hS, k0, by decide, by decide, fun x x0 x1 => ?_⟩
    refine ⟨_, _, rfl, rfl, ?_⟩
    refine ⟨_, rfl, _, rfl, _, _, rfl, rfl, a, ns, k + 1, 12, rfl, hS, by omega, by decide, by decide, fun y y0 y1 => ?_⟩
    refine ⟨_, _, rfl, rfl, ?_⟩
    refine ⟨_, rfl, _, rfl, _, _, rfl, rfl, a, ns, k + 2, 9, rfl, hS, by omega, by decide, by decide, fun z z0 z1 => ?_⟩
    refine ⟨rfl, _, rfl, ?_⟩
    refine ite2 (fun _ => ?_) (fun _ => ?_)
    · refine ⟨_, rfl, _, rfl, (by show 4 ≤ sizeLine; decide), fun t ht => ?_⟩
      exact q _ ⟨-2, -2, 64, 64⟩ _ (Ex.new ht) ⟨t, rfl, upd_same⟩ ⟨by decide, by decide, by decide, by decide, by decide, by decide, by decide, by decide⟩
    · refine ⟨_, rfl, _, rfl, ?_⟩
      refine ⟨_, rfl, _, rfl, _, _, rfl, rfl, a, ns, k + 3, 9, rfl, hS, by omega, by decide, by decide, fun u u0 u1 => ?_⟩
      refine ⟨_, _, rfl, rfl, ?_⟩
      refine ⟨_, rfl, _, rfl, _, _, rfl, rfl, a, ns, k + 4, 9, rfl, hS, by omega, by decide, by decide, fun r r0 r1 => ?_⟩
      refine ⟨_, _, rfl, rfl, ?_⟩
      refine ⟨(by show 4 ≤ sizeLine; decide), fun t ht => ?_⟩
      exact q _ ⟨x - 3, y - 3, 1 + u, 1 + r⟩ _ (Ex.new ht) ⟨t, rfl, upd_same⟩ ⟨by show -3 ≤ x - 3; omega, by show x - 3 ≤ 8; omega, by show -3 ≤ y - 3; omega, by show y - 3 ≤ 8; omega, by show 1 ≤ 1 + u; omega, by show 1 + u ≤ 64; omega, by show 1 ≤ 1 + r; omega, by show 1 + r ≤ 64; omega⟩
abbrev s_l_moves : Stmt := top 64
theorem sc_l_moves : FnScope ["script", "k", "points", "frame", "j"] ["script", "k"] (defScope s_l_moves) := ⟨rfl, rfl, rfl, by decide +kernel, rfl, by decide +kernel, by decide +kernel⟩
def spMovesF (K : PySem.W.Frag) : Sp := fun vs H Q _ => ∃ (a : Addr) (ns : List Int) (k : Int), vs = [.ref a, .int k] ∧ SqL K H a (ns.map V.int) ∧ 0 ≤ k ∧ ∀ p us ms H', Ex H H' → H' p = some (.tup us) → MvsV H' us ms → MvsOk ms → Q (.ref p) H'
theorem ok_l_moves {f : Addr} {fd : FuncData} (F : Fun K "_law_moves" "_law_moves" s_l_moves f fd) (T : Txt K mg) (D_l_draw : Def P w K mg base CX0 "_law_draw" 1 ["script", "k", "below"] (spDrawF K)) : FnOk P w K mg base CX0 2 f fd ["script", "k"] (spMovesF K) := by
  refine F.ok sc_l_moves (fun vs H Q E h => ?_) (fun cdv A outer s H vs Q E hr h => ?_)
  · obtain ⟨a, ns, k, rfl, _⟩ := h
    rfl
  · obtain ⟨a, ns, k, rfl, hS, k0, q⟩ := h
    refine ⟨_, (pss_cons (ps_set (i := 2) sc_l_moves.nd rfl (by first | exact Or.inl rfl | exact Or.inr rfl) (pe_lst pa_nil))
      (pss_cons (ps_set (i := 3) sc_l_moves.nd rfl (by first | exact Or.inl rfl | exact Or.inr rfl) (pe_call D_l_draw.ok (hr.mono (by decide)) rfl D_l_draw.mgf D_l_draw.kp D_l_draw.b .nil pass0 (pa_cons (pv 0) (pa_cons (pv 1) (pa_cons pe_int pa_nil)))))
      (pss_cons (ps_for PassesOwn.never rfl (pi_range1 (by rfl) T.range_ (pa_cons (pe_ix (kixL K) (pe_lst (pa_cons pe_int (pa_cons pe_int (pa_cons pe_int (pa_cons pe_int (pa_cons pe_int pa_nil)))))) (pe_call D_l_draw.ok (hr.mono (by decide)) rfl D_l_draw.mgf D_l_draw.kp D_l_draw.b .nil pass0 (pa_cons (pv 0) (pa_cons (pe_op op_add (pv 1) pe_int) (pa_cons pe_int pa_nil)))) (fun _ _ => rfl)) pa_nil)) (pg_name (i := 4) sc_l_moves.nd rfl (by first | exact Or.inl rfl | exact Or.inr rfl))
        (pss_cons (ps_expr (pe_bm PySem.F.plainAttrs_list PySem.F.slot_list_append PySem.F.type_list_append mt_append (pv 2) (pa_cons (pe_tup (pa_cons (pv 3) (pa_cons (pe_op op_sub (pe_call D_l_draw.ok (hr.mono (by decide)) rfl D_l_draw.mgf D_l_draw.kp D_l_draw.b .nil pass0 (pa_cons (pv 0) (pa_cons (pe_op op_add (pe_op op_add (pv 1) pe_int) (pe_op op_mul pe_int (pv 4))) (pa_cons pe_int pa_nil)))) pe_int) (pa_cons (pe_op op_sub (pe_call D_l_draw.ok (hr.mono (by decide)) rfl D_l_draw.mgf D_l_draw.kp D_l_draw.b .nil pass0 (pa_cons (pv 0) (pa_cons (pe_op op_add (pe_op op_add (pv 1) pe_int) (pe_op op_mul pe_int (pv 4))) (pa_cons pe_int pa_nil)))) pe_int) pa_nil)))) pa_nil)))
        (pss_one (ps_set (i := 3) sc_l_moves.nd rfl (by first | exact Or.inl rfl | exact Or.inr rfl) (pe_op op_add (pe_op op_add (pv 3) pe_int) (pe_call D_l_draw.ok (hr.mono (by decide)) rfl D_l_draw.mgf D_l_draw.kp D_l_draw.b .nil pass0 (pa_cons (pv 0) (pa_cons (pe_op op_add (pe_op op_add (pv 1) pe_int) (pe_op op_mul pe_int (pv 4))) (pa_cons pe_int pa_nil)))))))))
      (pss_one (ps_ret (pe_callTy (ktuple K) (by rfl) T.tuple_ bt_tuple (pa_cons (pv 2) pa_nil))))))), ?_⟩
    refine ⟨Nat.zero_le _, fun D hD => ?_⟩
    have e0 := Ex.new (o := .lst []) hD
    have g0 : upd H D (.lst []) D = some (.lst []) := upd_same
    generalize upd H D (.lst []) = H0 at e0 g0 ⊢
    refine ⟨_, rfl, _, rfl, a, ns, k, 3, rfl, ex_l e0 hS, k0, by decide, by decide, fun fr fr0 fr1 => ?_⟩
    refine ⟨(by show 5 ≤ sizeLine; decide), fun l hl => ?_⟩
    have f1 := Ex.new (o := .lst [.int 0, .int 0, .int 1, .int 2, .int 3]) hl
    have k1 : upd H0 l (.lst [.int 0, .int 0, .int 1, .int 2, .int 3]) l = some (.lst ([0, 0, 1, 2, 3].map V.int)) := upd_same
    generalize upd H0 l (.lst [.int 0, .int 0, .int 1, .int 2, .int 3]) = H1 at f1 k1 ⊢
    refine ⟨_, rfl, _, rfl, _, _, rfl, rfl, a, ns, k + 1, 5, rfl, ex_l (e0.trans f1) hS, by omega, by decide, by decide, fun j j0 j1 => ?_⟩
    obtain ⟨b, hb, exb⟩ := pickI (ns := [0, 0, 1, 2, 3]) j0 j1
    simp only [List.mem_cons, List.not_mem_nil, or_false] at hb
    refine ⟨l, _, j, _, rfl, rfl, SqL.of k1, exb, ?_⟩
    refine ⟨_, rfl, by omega, by omega, ?_⟩
    refine for_range (lo := 0) (n := b.toNat) (fun i σ H' => Ex H H' ∧ ∃ (us : List V) (ms : List Mv) (g : Int) (x : Option V), σ = [some (.ref a), some (.int k), some (.ref D), some (.int g), x] ∧ H' D = some (.lst us) ∧ MvsV H' us ms ∧ MAsc ms ∧ ms.length = i ∧ 0 ≤ g ∧ g ≤ 2 + 5 * (i : Int) ∧ ∀ m ∈ ms, m.f < g ∧ (0 ≤ m.f ∧ m.f ≤ 20 ∧ -5 ≤ m.a ∧ m.a ≤ 5 ∧ -5 ≤ m.d ∧ m.d ≤ 5)) ⟨e0.trans f1, [], [], fr, _, rfl, f1 _ _ g0, .nil, .nil, rfl, fr0, by omega, by simp⟩ ?_ ?_
    · rintro i σ H' hi ⟨e, us, ms, g, x, rfl, hU, hM, hA, hn, g0', g1', kM⟩
      have hul := hM.length
      have i0 : (0 : Int) ≤ i := Int.natCast_nonneg i
      refine ⟨_, rfl, .inl ⟨rfl, _, SqL.of hU⟩, ?_⟩
      refine ⟨_, rfl, _, rfl, _, rfl, _, _, rfl, rfl, _, rfl, _, _, rfl, rfl, .inl ⟨by decide, by decide⟩, _, _, rfl, rfl, a, ns, k + 2 + 3 * (0 + (i : Int)), 11, rfl, ex_l e hS, by omega, by decide, by decide, fun c c0 c1 => ?_⟩
      refine ⟨_, _, rfl, rfl, ?_⟩
      refine ⟨_, rfl, _, rfl, _, _, rfl, rfl, _, rfl, _, _, rfl, rfl, .inl ⟨by decide, by decide⟩, _, _, rfl, rfl, a, ns, k + 3 + 3 * (0 + (i : Int)), 11, rfl, ex_l e hS, by omega, by decide, by decide, fun w w0 w1 => ?_⟩
      refine ⟨_, _, rfl, rfl, ?_⟩
      refine ⟨(by show 3 ≤ sizeLine; decide), fun p hp => ?_⟩
      have e3 := Ex.new (o := .tup [.int g, .int (c - 5), .int (w - 5)]) hp
      have k3 : upd H' p (.tup [.int g, .int (c - 5), .int (w - 5)]) p = some (.tup [.int g, .int (c - 5), .int (w - 5)]) := upd_same
      generalize upd H' p (.tup [.int g, .int (c - 5), .int (w - 5)]) = H3 at e3 k3 ⊢
      have hU3 := e3 _ _ hU
      have hM3 := hM.tk (TK.ex e3)
      refine ⟨D, us, _, rfl, rfl, hU3, slineL (by omega), ?_⟩
      have tk : TK H3 (upd H3 D (.lst (us ++ [.ref p]))) := TK.lst hU3
      have e4 : Ex H (upd H3 D (.lst (us ++ [.ref p]))) := (e.trans e3).mut hD
      have k4 : upd H3 D (.lst (us ++ [.ref p])) D = some (.lst (us ++ [.ref p])) := upd_same
      have hM4 : MvsV (upd H3 D (.lst (us ++ [.ref p]))) (us ++ [.ref p]) (ms ++ [⟨g, c - 5, w - 5⟩]) := pr_append (hM3.tk tk) (.cons ⟨p, rfl, tk _ _ k3⟩ .nil)
      generalize upd H3 D (.lst (us ++ [.ref p])) = H4 at e4 k4 hM4 ⊢
      refine ⟨_, rfl, _, _, rfl, rfl, ?_⟩
      refine ⟨_, rfl, _, rfl, _, _, rfl, rfl, _, rfl, _, _, rfl, rfl, .inl ⟨by decide, by decide⟩, _, _, rfl, rfl, a, ns, k + 4 + 3 * (0 + (i : Int)), 5, rfl, ex_l e4 hS, by omega, by decide, by decide, fun st st0 st1 => ?_⟩
      refine ⟨_, _, rfl, rfl, ?_⟩
      refine ⟨e4, us ++ [.ref p], ms ++ [⟨g, c - 5, w - 5⟩], g + 1 + st, _, rfl, k4, hM4, ?_, by rw [List.length_append, hn]; rfl, by omega, by omega, fun m hm => ?_⟩
      · exact List.pairwise_append.mpr ⟨hA, List.pairwise_singleton _ _, fun x hx y hy => by rw [List.mem_singleton.mp hy]; exact (kM x hx).1⟩
      · rcases List.mem_append.mp hm with z | z
        · have := kM m z
          exact ⟨by omega, this.2⟩
        · rw [List.mem_singleton.mp z]
          exact ⟨by show g < g + 1 + st; omega, by show 0 ≤ g; omega, by show g ≤ 20; omega, by show -5 ≤ c - 5; omega, by show c - 5 ≤ 5; omega, by show -5 ≤ w - 5; omega, by show w - 5 ≤ 5; omega⟩
    · rintro σ H' ⟨e, us, ms, g, x, rfl, hU, hM, hA, hn, g0', g1', kM⟩
      refine ⟨_, rfl, D, us, rfl, .inl ⟨SqL.of hU, fun tp htp => ?_⟩⟩
      have f9 := Ex.new (o := .tup us) htp
      exact q tp us ms _ (e.trans f9) upd_same (hM.tk (TK.ex f9)) ⟨hA, fun m hm => (kM m hm).2, by omega⟩
abbrev s_l_layer : Stmt := top 68
theorem sc_l_layer : FnScope ["script", "k", "name", "what", "clips"] ["script", "k", "name"] (defScope s_l_layer) := ⟨rfl, rfl, rfl, by decide +kernel, rfl, by decide +kernel, by decide +kernel⟩
def spLayerF (K : PySem.W.Frag) : Sp := fun vs H Q _ => ∃ (a : Addr) (ns : List Int) (k : Int) (n : Str), vs = [.ref a, .int k, .str n] ∧ SqL K H a (ns.map V.int) ∧ 0 ≤ k ∧ ∀ v l H', Ex H H' → LaV H' v l → l.Ok → l.name = n → Q v H'
theorem ok_l_layer {f : Addr} {fd : FuncData} (F : Fun K "_law_layer" "_law_layer" s_l_layer f fd) (T : Txt K mg) (D_l_what : Def P w K mg base CX0 "_law_what" 2 ["script", "k"] (spWhatF K)) (D_l_clips : Def P w K mg base CX0 "_law_clips" 4 ["script", "k", "adjusts"] (spClipsF K))
    (D_l_box : Def P w K mg base CX0 "_law_box" 2 ["script", "k"] (spBoxF K)) (D_l_moves : Def P w K mg base CX0 "_law_moves" 2 ["script", "k"] (spMovesF K)) : FnOk P w K mg base CX0 5 f fd ["script", "k", "name"] (spLayerF K) := by
  refine F.ok sc_l_layer (fun vs H Q E h => ?_) (fun cdv A outer s H vs Q E hr h => ?_)
  · obtain ⟨a, ns, k, n, rfl, _⟩ := h
    rfl
  · obtain ⟨a, ns, k, n, rfl, hS, k0, q⟩ := h
    refine ⟨_, (pss_cons (ps_set (i := 3) sc_l_layer.nd rfl (by first | exact Or.inl rfl | exact Or.inr rfl) (pe_call D_l_what.ok (hr.mono (by decide)) rfl D_l_what.mgf D_l_what.kp D_l_what.b .nil pass0 (pa_cons (pv 0) (pa_cons (pv 1) pa_nil))))
      (pss_cons (ps_set (i := 4) sc_l_layer.nd rfl (by first | exact Or.inl rfl | exact Or.inr rfl) (pe_call D_l_clips.ok (hr.mono (by decide)) rfl D_l_clips.mgf D_l_clips.kp D_l_clips.b .nil pass0 (pa_cons (pv 0) (pa_cons (pe_op op_add (pv 1) pe_int) (pa_cons (pe_cmpR op_ne (pe_ix (kixT K) (pv 3) pe_int (fun _ _ => rfl)) pe_str (nomark _)) pa_nil)))))
      (pss_one (ps_ret (pe_tup (pa_cons (pv 2) (pa_cons (pe_call D_l_box.ok (hr.mono (by decide)) rfl D_l_box.mgf D_l_box.kp D_l_box.b .nil pass0 (pa_cons (pv 0) (pa_cons (pe_op op_add (pv 1) pe_int) pa_nil))) (pa_cons (pe_call D_l_moves.ok (hr.mono (by decide)) rfl D_l_moves.mgf D_l_moves.kp D_l_moves.b .nil pass0 (pa_cons (pv 0) (pa_cons (pe_op op_add (pv 1) pe_int) pa_nil))) (pa_cons (pv 3) (pa_cons (pv 4) pa_nil)))))))))), ?_⟩
    refine ⟨_, rfl, _, rfl, a, ns, k, rfl, hS, k0, fun wv x H1 e1 hx kx => ?_⟩
    obtain ⟨wa, rfl, hwa⟩ := id hx
    refine ⟨_, rfl, _, rfl, _, _, rfl, rfl, _, rfl, wa, _, 0, _, rfl, rfl, SqT.of hwa, x.at0, rfl, ?_⟩
    rw [x.adj_eq]
    refine ⟨a, ns, k + 20, x.adj, rfl, ex_l e1 hS, by omega, fun ca us cs H2 e2 hca hC kC => ?_⟩
    have e12 := e1.trans e2
    refine ⟨_, rfl, _, rfl, _, rfl, _, _, rfl, rfl, a, ns, k + 4, rfl, ex_l e12 hS, by omega, fun bv b H3 e3 hb kb => ?_⟩
    have e13 := e12.trans e3
    refine ⟨_, rfl, _, rfl, _, _, rfl, rfl, a, ns, k + 9, rfl, ex_l e13 hS, by omega, fun ma vs ms H4 e4 hma hM kM => ?_⟩
    refine ⟨_, rfl, _, rfl, ?_⟩
    refine ⟨(by show 5 ≤ sizeLine; decide), fun t ht => ?_⟩
    have f5 := Ex.new (o := .tup [.str n, bv, .ref ma, .ref wa, .ref ca]) ht
    have k5 := TK.ex f5
    have e24 := e3.trans e4
    exact q _ ⟨n, b, ms, x, cs⟩ _ ((e13.trans e4).trans f5) ⟨t, bv, ma, .ref wa, ca, vs, us, rfl, upd_same, (hb.tk (TK.ex e4)).tk k5, f5 _ _ hma, hM.tk k5, hx.tk (TK.ex ((e2.trans e24).trans f5)), (e24.trans f5) _ _ hca, hC.tk (TK.ex (e24.trans f5))⟩ ⟨kb, kM, kx, kC⟩ rfl
abbrev s_l_name : Stmt := top 69
theorem sc_l_name : FnScope ["script", "k", "first"] ["script", "k", "first"] (defScope s_l_name) := ⟨rfl, rfl, rfl, by decide +kernel, rfl, by decide +kernel, by decide +kernel⟩
def spNameF (K : PySem.W.Frag) : Sp := fun vs H Q _ => ∃ (a : Addr) (ns : List Int) (k : Int) (g : Str), vs = [.ref a, .int k, .str g] ∧ SqL K H a (ns.map V.int) ∧ 0 ≤ k ∧ g.length ≤ 10 ∧ ∀ t H', Ex H H' → t ∈ tails4 → Q (.str (g ++ t)) H'
theorem ok_l_name {f : Addr} {fd : FuncData} (F : Fun K "_law_name" "_law_name" s_l_name f fd) (T : Txt K mg) (D_l_draw : Def P w K mg base CX0 "_law_draw" 1 ["script", "k", "below"] (spDrawF K)) : FnOk P w K mg base CX0 2 f fd ["script", "k", "first"] (spNameF K) := by
  refine F.ok sc_l_name (fun vs H Q E h => ?_) (fun cdv A outer s H vs Q E hr h => ?_)
  · obtain ⟨a, ns, k, g, rfl, _⟩ := h
    rfl
  · obtain ⟨a, ns, k, g, rfl, hS, k0, gl, q⟩ := h
    refine ⟨_, (pss_one (ps_ret (pe_op op_add_str (pv 2) (pe_ix (kixL K) (pe_lst (pa_cons pe_str (pa_cons pe_str (pa_cons pe_str (pa_cons pe_str pa_nil))))) (pe_call D_l_draw.ok (hr.mono (by decide)) rfl D_l_draw.mgf D_l_draw.kp D_l_draw.b .nil pass0 (pa_cons (pv 0) (pa_cons (pv 1) (pa_cons pe_int pa_nil)))) (fun _ _ => rfl))))), ?_⟩
    refine ⟨_, rfl, (by show 4 ≤ sizeLine; decide), fun l hl => ?_⟩
    have e0 : tails4.map V.str = [.str "", .str "b", .str "zz", .str "qwerty"] := rfl
    have f7 := Ex.new (o := .lst (tails4.map V.str)) hl
    have k7 : upd H l (.lst (tails4.map V.str)) l = some (.lst (tails4.map V.str)) := upd_same
    rw [← e0]
    generalize upd H l (.lst (tails4.map V.str)) = H7 at f7 k7 ⊢
    refine ⟨_, rfl, _, rfl, a, ns, k, 4, rfl, ex_l f7 hS, k0, by decide, by decide, fun i i0 i1 => ?_⟩
    obtain ⟨m, hm, exm⟩ := pickS (ws := tails4) i0 i1
    refine ⟨l, _, i, _, rfl, rfl, SqL.of k7, exm, ?_⟩
    have ml : m.length ≤ 10 := by
      unfold tails4 at hm
      simp only [List.mem_cons, List.not_mem_nil, or_false] at hm
      rcases hm with h | h | h | h <;> (rw [h]; decide +kernel)
    exact ⟨g, m, rfl, rfl, Nat.le_of_lt (slineL (by omega)), q m _ f7 hm⟩
abbrev s_l_film : Stmt := top 70
theorem sc_l_film : FnScope ["script", "k", "layers", "j", "width", "height"] ["script", "k"] (defScope s_l_film) := ⟨rfl, rfl, rfl, by decide +kernel, rfl, by decide +kernel, by decide +kernel⟩
def spFilmF (K : PySem.W.Frag) : Sp := fun vs H Q _ => ∃ (a : Addr) (ns : List Int) (k : Int), vs = [.ref a, .int k] ∧ SqL K H a (ns.map V.int) ∧ 0 ≤ k ∧ ∀ v x H', Ex H H' → FiV H' v x → x.Ok → Q v H'
theorem ok_l_film {f : Addr} {fd : FuncData} (F : Fun K "_law_film" "_law_film" s_l_film f fd) (T : Txt K mg) (D_l_draw : Def P w K mg base CX0 "_law_draw" 1 ["script", "k", "below"] (spDrawF K)) (D_l_layer : Def P w K mg base CX0 "_law_layer" 5 ["script", "k", "name"] (spLayerF K)) (D_l_name : Def P w K mg base CX0 "_law_name" 2 ["script", "k", "first"] (spNameF K)) : FnOk P w K mg base CX0 6 f fd ["script", "k"] (spFilmF K) := by
  refine F.ok sc_l_film (fun vs H Q E h => ?_) (fun cdv A outer s H vs Q E hr h => ?_)
  · obtain ⟨a, ns, k, rfl, _⟩ := h
    rfl
  · obtain ⟨a, ns, k, rfl, hS, k0, q⟩ := h
    refine ⟨_, (pss_cons (ps_set (i := 2) sc_l_film.nd rfl (by first | exact Or.inl rfl | exact Or.inr rfl) (pe_lst pa_nil))
      (pss_cons (ps_for PassesOwn.never rfl (pi_range1 (by rfl) T.range_ (pa_cons (pe_call D_l_draw.ok (hr.mono (by decide)) rfl D_l_draw.mgf D_l_draw.kp D_l_draw.b .nil pass0 (pa_cons (pv 0) (pa_cons (pv 1) (pa_cons pe_int pa_nil)))) pa_nil)) (pg_name (i := 3) sc_l_film.nd rfl (by first | exact Or.inl rfl | exact Or.inr rfl))
        (pss_one (ps_expr (pe_bm PySem.F.plainAttrs_list PySem.F.slot_list_append PySem.F.type_list_append mt_append (pv 2) (pa_cons (pe_call D_l_layer.ok (hr.mono (by decide)) rfl D_l_layer.mgf D_l_layer.kp D_l_layer.b .nil pass0 (pa_cons (pv 0) (pa_cons (pe_op op_add (pe_op op_add (pv 1) pe_int) (pe_op op_mul pe_int (pv 3))) (pa_cons (pe_call D_l_name.ok (hr.mono (by decide)) rfl D_l_name.mgf D_l_name.kp D_l_name.b .nil pass0 (pa_cons (pv 0) (pa_cons (pe_op op_add (pe_op op_add (pv 1) pe_int) (pv 3)) (pa_cons (pe_ix ix_str pe_str (pv 3) (fun _ _ => rfl)) pa_nil)))) pa_nil)))) pa_nil)))))
      (pss_cons (ps_set (i := 4) sc_l_film.nd rfl (by first | exact Or.inl rfl | exact Or.inr rfl) (pe_op op_add pe_int (pe_call D_l_draw.ok (hr.mono (by decide)) rfl D_l_draw.mgf D_l_draw.kp D_l_draw.b .nil pass0 (pa_cons (pv 0) (pa_cons (pe_op op_add (pv 1) pe_int) (pa_cons pe_int pa_nil))))))
      (pss_cons (ps_set (i := 5) sc_l_film.nd rfl (by first | exact Or.inl rfl | exact Or.inr rfl) (pe_op op_add pe_int (pe_call D_l_draw.ok (hr.mono (by decide)) rfl D_l_draw.mgf D_l_draw.kp D_l_draw.b .nil pass0 (pa_cons (pv 0) (pa_cons (pe_op op_add (pv 1) pe_int) (pa_cons pe_int pa_nil))))))
      (pss_cut (ps_if (pt_cmpR op_eq (pe_call D_l_draw.ok (hr.mono (by decide)) rfl D_l_draw.mgf D_l_draw.kp D_l_draw.b .nil pass0 (pa_cons (pv 0) (pa_cons (pe_op op_add (pv 1) pe_int) (pa_cons pe_int pa_nil)))) pe_int (nomark _))
        (pss_one (ps_asg (pe_ix (kixL K) (pe_lst (pa_cons (pe_tup (pa_cons pe_int (pa_cons pe_int pa_nil))) (pa_cons (pe_tup (pa_cons pe_int (pa_cons pe_int pa_nil))) pa_nil))) (pe_call D_l_draw.ok (hr.mono (by decide)) rfl D_l_draw.mgf D_l_draw.kp D_l_draw.b .nil pass0 (pa_cons (pv 0) (pa_cons (pe_op op_add (pv 1) pe_int) (pa_cons pe_int pa_nil)))) (fun _ _ => rfl)) (kpgT K (n := 2) rfl (pgs_cons (pg_name (i := 4) sc_l_film.nd rfl (by first | exact Or.inl rfl | exact Or.inr rfl)) (pgs_cons (pg_name (i := 5) sc_l_film.nd rfl (by first | exact Or.inl rfl | exact Or.inr rfl)) pgs_nil)))))
        pss_nil)
      (pss_one (ps_ret (pe_tup (pa_cons (pv 4) (pa_cons (pv 5) (pa_cons (pe_op op_add pe_int (pe_call D_l_draw.ok (hr.mono (by decide)) rfl D_l_draw.mgf D_l_draw.kp D_l_draw.b .nil pass0 (pa_cons (pv 0) (pa_cons (pe_op op_add (pv 1) pe_int) (pa_cons pe_int pa_nil))))) (pa_cons (pe_ix (kixL K) (pe_lst (pa_cons pe_int (pa_cons pe_int (pa_cons pe_int pa_nil)))) (pe_call D_l_draw.ok (hr.mono (by decide)) rfl D_l_draw.mgf D_l_draw.kp D_l_draw.b .nil pass0 (pa_cons (pv 0) (pa_cons (pe_op op_add (pv 1) pe_int) (pa_cons pe_int pa_nil)))) (fun _ _ => rfl)) (pa_cons (pv 2) pa_nil))))))))))))), ?_⟩
    refine ⟨Nat.zero_le _, fun D hD => ?_⟩
    have e0 := Ex.new (o := .lst []) hD
    have g0 : upd H D (.lst []) D = some (.lst []) := upd_same
    generalize upd H D (.lst []) = H0 at e0 g0 ⊢
    refine ⟨_, rfl, _, rfl, a, ns, k, 6, rfl, ex_l e0 hS, k0, by decide, by decide, fun n n0 n1 => ?_⟩
    refine ⟨_, rfl, by omega, by omega, ?_⟩
    refine for_range (lo := 0) (n := n.toNat) (fun i σ H' => Ex H H' ∧ ∃ (us : List V) (ls : List La) (x : Option V), σ = [some (.ref a), some (.int k), some (.ref D), x, none, none] ∧ H' D = some (.lst us) ∧ Paired (LaV H') us ls ∧ ls.length = i ∧ ∀ (j : Nat) l, ls[j]? = some l → l.Ok ∧ NameOk j l.name) ⟨e0, [], [], _, rfl, g0, .nil, rfl, fun j l h => by simp at h⟩ ?_ ?_
    · rintro i σ H' hi ⟨e, us, ls, x, rfl, hU, hL, hn, kL⟩
      have hul := hL.length
      have i0 : (0 : Int) ≤ i := Int.natCast_nonneg i
      have hc6 : ghijkl.cps.toList.length = 6 := by decide +kernel
      have hgl : ghijkl.length ≤ sizeLine := by decide +kernel
      have hx : ghijkl.cps.toList[i]? = some ghijkl.cps.toList[i] := List.getElem?_eq_getElem (by omega)
      generalize ghijkl.cps.toList[i] = c at hx
      have hat : atI ghijkl.cps.toList (0 + (i : Int)) = some c := by rw [Int.zero_add]; exact atI_nat hx
      refine ⟨_, rfl, .inl ⟨rfl, _, SqL.of hU⟩, ?_⟩
      refine ⟨_, rfl, _, rfl, _, _, rfl, rfl, _, rfl, _, _, rfl, rfl, .inl ⟨by decide, by decide⟩, _, _, rfl, rfl, ?_⟩
      refine ⟨_, rfl, _, rfl, _, _, rfl, rfl, _, rfl, _, _, rfl, rfl, _, rfl, ghijkl, _, c, rfl, rfl, hgl, hat, ?_⟩
      refine ⟨a, ns, k + 4 + (0 + (i : Int)), ⟨#[c]⟩, rfl, ex_l e hS, by omega, (by show (1 : Nat) ≤ 10; decide), fun t H1 e1 ht => ?_⟩
      refine ⟨a, ns, k + 10 + 50 * (0 + (i : Int)), _, rfl, ex_l (e.trans e1) hS, by omega, fun v l H2 e2 hv kl el => ?_⟩
      have e12 := e1.trans e2
      have hU2 := e12 _ _ hU
      have hL2 := Paired.mapP hL fun _ _ => LaV.tk (TK.ex e12)
      refine ⟨D, us, _, rfl, rfl, hU2, slineL (by omega), ?_⟩
      have tk : TK H2 (upd H2 D (.lst (us ++ [v]))) := TK.lst hU2
      refine ⟨(e.trans e12).mut hD, us ++ [v], ls ++ [l], _, rfl, upd_same, pr_append (Paired.mapP hL2 fun _ _ => LaV.tk tk) (.cons (hv.tk tk) .nil), by rw [List.length_append, hn]; rfl, fun j z hz => ?_⟩
      by_cases cj : j < ls.length
      · rw [List.getElem?_append_left cj] at hz
        exact kL j z hz
      · have hj := (List.getElem?_eq_some_iff.mp hz).1
        rw [List.length_append, List.length_singleton] at hj
        have ej : j = i := by omega
        subst ej
        rw [List.getElem?_append_right (by omega), show j - ls.length = 0 by omega] at hz
        cases hz
        exact ⟨kl, c, t, hx, ht, el⟩
    · rintro σ H' ⟨e, us, ls, x, rfl, hU, hL, hn, kL⟩
      refine ⟨_, rfl, _, rfl, _, _, rfl, rfl, a, ns, k + 1, 9, rfl, ex_l e hS, by omega, by decide, by decide, fun u u0 u1 => ?_⟩
      refine ⟨_, _, rfl, rfl, ?_⟩
      refine ⟨_, rfl, _, rfl, _, _, rfl, rfl, a, ns, k + 2, 9, rfl, ex_l e hS, by omega, by decide, by decide, fun r r0 r1 => ?_⟩
      refine ⟨_, _, rfl, rfl, ?_⟩
      refine ⟨fun σ H'' => Ex H' H'' ∧ ∃ wd hg : Int, σ = [some (.ref a), some (.int k), some (.ref D), x, some (.int wd), some (.int hg)] ∧ 1 ≤ wd ∧ wd ≤ 64 ∧ 1 ≤ hg ∧ hg ≤ 64 ∧ wd * hg ≤ 81, ?_, ?_⟩
      · refine ⟨_, rfl, _, rfl, _, _, rfl, rfl, a, ns, k + 900, 16, rfl, ex_l e hS, by omega, by decide, by decide, fun z z0 z1 => ?_⟩
        refine ⟨rfl, _, rfl, ?_⟩
        refine ite2 (fun _ => ?_) (fun _ => ?_)
        · refine ⟨(by show 2 ≤ sizeLine; decide), fun t1 ht1 => ?_⟩
          have x1 := Ex.new (o := .tup [.int 64, .int 1]) ht1
          have y1 : upd H' t1 (.tup [.int 64, .int 1]) t1 = some (.tup [.int 64, .int 1]) := upd_same
          generalize upd H' t1 (.tup [.int 64, .int 1]) = H3 at x1 y1 ⊢
          refine ⟨(by show 2 ≤ sizeLine; decide), fun t2 ht2 => ?_⟩
          have x2 := Ex.new (o := .tup [.int 1, .int 64]) ht2
          have y2 : upd H3 t2 (.tup [.int 1, .int 64]) t2 = some (.tup [.int 1, .int 64]) := upd_same
          generalize upd H3 t2 (.tup [.int 1, .int 64]) = H4 at x2 y2 ⊢
          refine ⟨(by show 2 ≤ sizeLine; decide), fun l hl => ?_⟩
          have x3 := Ex.new (o := .lst [.ref t1, .ref t2]) hl
          have y3 : upd H4 l (.lst [.ref t1, .ref t2]) l = some (.lst [.ref t1, .ref t2]) := upd_same
          generalize upd H4 l (.lst [.ref t1, .ref t2]) = H5 at x3 y3 ⊢
          have e15 := (x1.trans x2).trans x3
          refine ⟨_, rfl, _, rfl, _, _, rfl, rfl, a, ns, k + 901, 2, rfl, ex_l (e.trans e15) hS, by omega, by decide, by decide, fun m m0 m1 => ?_⟩
          have hm : m = 0 ∨ m = 1 := by omega
          rcases hm with rfl | rfl
          · refine ⟨l, _, 0, .ref t1, rfl, rfl, SqL.of y3, rfl, t1, [.int 64, .int 1], rfl, SqT.of ((x2.trans x3) _ _ y1), rfl, _, _, rfl, _, _, rfl, rfl, ?_⟩
            exact ⟨e15, 64, 1, rfl, by decide, by decide, by decide, by decide, by decide⟩
          · refine ⟨l, _, 1, .ref t2, rfl, rfl, SqL.of y3, rfl, t2, [.int 1, .int 64], rfl, SqT.of (x3 _ _ y2), rfl, _, _, rfl, _, _, rfl, rfl, ?_⟩
            exact ⟨e15, 1, 64, rfl, by decide, by decide, by decide, by decide, by decide⟩
        · refine ⟨Ex.refl _, _, _, rfl, by omega, by omega, by omega, by omega, ?_⟩
          have := Int.mul_le_mul (show 1 + u ≤ 9 by omega) (show 1 + r ≤ 9 by omega) (by omega) (by decide)
          omega
      rintro σ H9 ⟨e9, wd, hg, rfl, w0, w1, h0, h1, wh⟩
      refine ⟨_, rfl, _, rfl, ?_⟩
      have e09 := e.trans e9
      refine ⟨_, rfl, _, rfl, _, _, rfl, rfl, a, ns, k + 9, 10, rfl, ex_l e09 hS, by omega, by decide, by decide, fun n2 n20 n21 => ?_⟩
      refine ⟨_, _, rfl, rfl, ?_⟩
      refine ⟨(by show 3 ≤ sizeLine; decide), fun l hl => ?_⟩
      have f6 := Ex.new (o := .lst [.int 0, .int 255, .int 77]) hl
      have k6 : upd H9 l (.lst [.int 0, .int 255, .int 77]) l = some (.lst ([0, 255, 77].map V.int)) := upd_same
      generalize upd H9 l (.lst [.int 0, .int 255, .int 77]) = H6 at f6 k6 ⊢
      refine ⟨_, rfl, _, rfl, _, _, rfl, rfl, a, ns, k + 3, 3, rfl, ex_l (e09.trans f6) hS, by omega, by decide, by decide, fun j j0 j1 => ?_⟩
      obtain ⟨b, hb, exb⟩ := pickI (ns := [0, 255, 77]) j0 j1
      simp only [List.mem_cons, List.not_mem_nil, or_false] at hb
      refine ⟨l, _, j, _, rfl, rfl, SqL.of k6, exb, ?_⟩
      refine ⟨_, rfl, ?_⟩
      refine ⟨(by show 5 ≤ sizeLine; decide), fun t ht => ?_⟩
      have f7 := Ex.new (o := .tup [.int wd, .int hg, .int (1 + n2), .int b, .ref D]) ht
      have e97 := (e9.trans f6).trans f7
      exact q _ ⟨wd, hg, 1 + n2, b, ls⟩ _ (e.trans e97) ⟨t, D, us, rfl, upd_same, e97 _ _ hU, Paired.mapP hL fun _ _ => LaV.tk (TK.ex e97)⟩ ⟨w0, w1, h0, h1, wh, by show 1 ≤ 1 + n2; omega, by show 1 + n2 ≤ 10; omega, by show 0 ≤ b; omega, by show b ≤ 255; omega, by show ls.length ≤ 5; omega, kL⟩
abbrev s_FilmErr : Stmt := clsDef (top 1)
theorem sc_FilmErr : FnScope ["self", "word", "place"] ["self", "word", "place"] (defScope s_FilmErr) := ⟨rfl, rfl, rfl, by decide +kernel, rfl, by decide +kernel, by decide +kernel⟩
theorem ok_FilmErr {f : Addr} {fd : FuncData} (F : FunD K "__init__" "FilmError.__init__" (defArgs s_FilmErr) (defBody s_FilmErr) (defScope s_FilmErr) [.non] [] f fd) {D fD : Addr} (FT : FilmTxt K mg D fD) : FnOk P w K mg base CX0 1 f fd ["self", "word", "place"] (spErrInit K) := by
  refine F.ok sc_FilmErr (fun vs H Q E h => ?_) (fun cdv A outer s H vs Q E hr h => ?_)
  · obtain ⟨a, C, wd, p, rfl, _⟩ := h
    rfl
  · obtain ⟨a, C, wd, p, rfl, T, ha, nw, np, q⟩ := h
    refine ⟨_, pss_cons (ps_expr (pe_veinit rfl FT.ve FT.vi (pa_cons (pv 0) (pa_cons (pv 1) pa_nil)))) (pss_cons (ps_ost (pv 0) (pv 1)) (pss_one (ps_ost (pv 0) (pv 2)))), ?_⟩
    refine ⟨_, rfl, _, rfl, a, C, [wd], rfl, (by show 1 ≤ 1000; decide), T, ha, ?_⟩
    refine ⟨_, rfl, _, rfl, a, C, rfl, T, nw, .inl ⟨ha, fun dx hd hne => ?_⟩⟩
    refine ⟨_, rfl, _, rfl, a, C, rfl, T, np, .inr ⟨dx, [("word", wd)], upd_same, by rw [upd_ne hne]; exact upd_same, (by show 1 ≤ 900; decide), ?_⟩⟩
    refine q dx _ hd hne (by rw [upd_ne (Ne.symm hne)]; exact upd_same) upd_same fun b n1 n2 => ?_
    rw [upd_ne n2, upd_ne n1, upd_ne n2]
theorem binds_FilmErr {f : Addr} {fd : FuncData} (F : FunD K "__init__" "FilmError.__init__" (defArgs s_FilmErr) (defBody s_FilmErr) (defScope s_FilmErr) [.non] [] f fd) : Binds K fd ["self", "word", "place"] [] := by
  obtain ⟨ds, r, b⟩ := F.binds1 (ps := ["self", "word", "place"]) 3 1 (by simp) rfl fun T kV doc pm an cdv ct us its hu hi => match us, hu, its, hi with | [_, _, _], _, [_], _ => ⟨_, rfl, rfl⟩
  cases r
  exact b
abbrev s_BadFilm : Stmt := clsDef (top 2)
theorem sc_BadFilm : FnScope ["self", "place"] ["self", "place"] (defScope s_BadFilm) := ⟨rfl, rfl, rfl, by decide +kernel, rfl, by decide +kernel, by decide +kernel⟩
theorem ok_BadFilm {f : Addr} {fd : FuncData} (F : FunD K "__init__" "BadFilm.__init__" (defArgs s_BadFilm) (defBody s_BadFilm) (defScope s_BadFilm) [.non] [] f fd) {D fD : Addr} {fdD : FuncData} (FT : FilmTxt K mg D fD)
    (G : FnOk P w K mg base CX0 1 fD fdD ["self", "word", "place"] (spErrInit K)) (kf : PySem.W.keepIn K (.ref fD) = true) (b : Binds K fdD ["self", "word", "place"] []) : FnOk P w K mg base CX0 2 f fd ["self", "place"] (spKind K "BadFilm") := by
  refine F.ok sc_BadFilm (fun vs H Q E h => ?_) (fun cdv A outer s H vs Q E hr h => ?_)
  · obtain ⟨a, C, p, rfl, _⟩ := h
    rfl
  · obtain ⟨a, C, p, rfl, T, ha, nw, np, q⟩ := h
    refine ⟨_, pss_one (ps_expr (pe_binit G (hr.mono (by decide)) rfl FT.g FT.rd FT.ga FT.fa kf b .nil pass0 (pa_cons (pv 0) (pa_cons pe_str (pa_cons (pv 1) pa_nil))))), ?_⟩
    exact ⟨_, rfl, _, rfl, a, C, .str "BadFilm", p, rfl, T, ha, nw, np, fun dx H' h1 h2 h3 h4 h5 => q dx H' h1 h2 h3 h4 h5⟩
theorem binds_BadFilm {f : Addr} {fd : FuncData} (F : FunD K "__init__" "BadFilm.__init__" (defArgs s_BadFilm) (defBody s_BadFilm) (defScope s_BadFilm) [.non] [] f fd) : (∃ ds, Vals [.non] ds ∧ Binds K fd ["self", "place"] ds) ∧ Binds K fd ["self", "place"] [] := by
  refine ⟨F.binds1 (ps := ["self", "place"]) 1 0 (by simp) rfl fun T kV doc pm an cdv ct us its hu hi => match us, hu, its, hi with | [_], _, [_], _ => ⟨_, rfl, rfl⟩, ?_⟩
  obtain ⟨ds, r, b⟩ := F.binds1 (ps := ["self", "place"]) 2 1 (by simp) rfl fun T kV doc pm an cdv ct us its hu hi => match us, hu, its, hi with | [_, _], _, [_], _ => ⟨_, rfl, rfl⟩
  cases r
  exact b
abbrev s_BadLayer : Stmt := clsDef (top 3)
theorem sc_BadLayer : FnScope ["self", "place"] ["self", "place"] (defScope s_BadLayer) := ⟨rfl, rfl, rfl, by decide +kernel, rfl, by decide +kernel, by decide +kernel⟩
theorem ok_BadLayer {f : Addr} {fd : FuncData} (F : FunD K "__init__" "BadLayer.__init__" (defArgs s_BadLayer) (defBody s_BadLayer) (defScope s_BadLayer) [.non] [] f fd) {D fD : Addr} {fdD : FuncData} (FT : FilmTxt K mg D fD)
    (G : FnOk P w K mg base CX0 1 fD fdD ["self", "word", "place"] (spErrInit K)) (kf : PySem.W.keepIn K (.ref fD) = true) (b : Binds K fdD ["self", "word", "place"] []) : FnOk P w K mg base CX0 2 f fd ["self", "place"] (spKind K "BadLayer") := by
  refine F.ok sc_BadLayer (fun vs H Q E h => ?_) (fun cdv A outer s H vs Q E hr h => ?_)
  · obtain ⟨a, C, p, rfl, _⟩ := h
    rfl
  · obtain ⟨a, C, p, rfl, T, ha, nw, np, q⟩ := h
    refine ⟨_, pss_one (ps_expr (pe_binit G (hr.mono (by decide)) rfl FT.g FT.rd FT.ga FT.fa kf b .nil pass0 (pa_cons (pv 0) (pa_cons pe_str (pa_cons (pv 1) pa_nil))))), ?_⟩
    exact ⟨_, rfl, _, rfl, a, C, .str "BadLayer", p, rfl, T, ha, nw, np, fun dx H' h1 h2 h3 h4 h5 => q dx H' h1 h2 h3 h4 h5⟩
theorem binds_BadLayer {f : Addr} {fd : FuncData} (F : FunD K "__init__" "BadLayer.__init__" (defArgs s_BadLayer) (defBody s_BadLayer) (defScope s_BadLayer) [.non] [] f fd) : (∃ ds, Vals [.non] ds ∧ Binds K fd ["self", "place"] ds) ∧ Binds K fd ["self", "place"] [] := by
  refine ⟨F.binds1 (ps := ["self", "place"]) 1 0 (by simp) rfl fun T kV doc pm an cdv ct us its hu hi => match us, hu, its, hi with | [_], _, [_], _ => ⟨_, rfl, rfl⟩, ?_⟩
  obtain ⟨ds, r, b⟩ := F.binds1 (ps := ["self", "place"]) 2 1 (by simp) rfl fun T kV doc pm an cdv ct us its hu hi => match us, hu, its, hi with | [_, _], _, [_], _ => ⟨_, rfl, rfl⟩
  cases r
  exact b
abbrev s_DuplicateLayer : Stmt := clsDef (top 4)
theorem sc_DuplicateLayer : FnScope ["self", "place"] ["self", "place"] (defScope s_DuplicateLayer) := ⟨rfl, rfl, rfl, by decide +kernel, rfl, by decide +kernel, by decide +kernel⟩
theorem ok_DuplicateLayer {f : Addr} {fd : FuncData} (F : FunD K "__init__" "DuplicateLayer.__init__" (defArgs s_DuplicateLayer) (defBody s_DuplicateLayer) (defScope s_DuplicateLayer) [.non] [] f fd) {D fD : Addr} {fdD : FuncData} (FT : FilmTxt K mg D fD)
    (G : FnOk P w K mg base CX0 1 fD fdD ["self", "word", "place"] (spErrInit K)) (kf : PySem.W.keepIn K (.ref fD) = true) (b : Binds K fdD ["self", "word", "place"] []) : FnOk P w K mg base CX0 2 f fd ["self", "place"] (spKind K "DuplicateLayer") := by
  refine F.ok sc_DuplicateLayer (fun vs H Q E h => ?_) (fun cdv A outer s H vs Q E hr h => ?_)
  · obtain ⟨a, C, p, rfl, _⟩ := h
    rfl
  · obtain ⟨a, C, p, rfl, T, ha, nw, np, q⟩ := h
    refine ⟨_, pss_one (ps_expr (pe_binit G (hr.mono (by decide)) rfl FT.g FT.rd FT.ga FT.fa kf b .nil pass0 (pa_cons (pv 0) (pa_cons pe_str (pa_cons (pv 1) pa_nil))))), ?_⟩
    exact ⟨_, rfl, _, rfl, a, C, .str "DuplicateLayer", p, rfl, T, ha, nw, np, fun dx H' h1 h2 h3 h4 h5 => q dx H' h1 h2 h3 h4 h5⟩
theorem binds_DuplicateLayer {f : Addr} {fd : FuncData} (F : FunD K "__init__" "DuplicateLayer.__init__" (defArgs s_DuplicateLayer) (defBody s_DuplicateLayer) (defScope s_DuplicateLayer) [.non] [] f fd) : (∃ ds, Vals [.non] ds ∧ Binds K fd ["self", "place"] ds) ∧ Binds K fd ["self", "place"] [] := by
  refine ⟨F.binds1 (ps := ["self", "place"]) 1 0 (by simp) rfl fun T kV doc pm an cdv ct us its hu hi => match us, hu, its, hi with | [_], _, [_], _ => ⟨_, rfl, rfl⟩, ?_⟩
  obtain ⟨ds, r, b⟩ := F.binds1 (ps := ["self", "place"]) 2 1 (by simp) rfl fun T kV doc pm an cdv ct us its hu hi => match us, hu, its, hi with | [_, _], _, [_], _ => ⟨_, rfl, rfl⟩
  cases r
  exact b
abbrev s_BadClip : Stmt := clsDef (top 5)
theorem sc_BadClip : FnScope ["self", "place"] ["self", "place"] (defScope s_BadClip) := ⟨rfl, rfl, rfl, by decide +kernel, rfl, by decide +kernel, by decide +kernel⟩
theorem ok_BadClip {f : Addr} {fd : FuncData} (F : FunD K "__init__" "BadClip.__init__" (defArgs s_BadClip) (defBody s_BadClip) (defScope s_BadClip) [.non] [] f fd) {D fD : Addr} {fdD : FuncData} (FT : FilmTxt K mg D fD)
    (G : FnOk P w K mg base CX0 1 fD fdD ["self", "word", "place"] (spErrInit K)) (kf : PySem.W.keepIn K (.ref fD) = true) (b : Binds K fdD ["self", "word", "place"] []) : FnOk P w K mg base CX0 2 f fd ["self", "place"] (spKind K "BadClip") := by
  refine F.ok sc_BadClip (fun vs H Q E h => ?_) (fun cdv A outer s H vs Q E hr h => ?_)
  · obtain ⟨a, C, p, rfl, _⟩ := h
    rfl
  · obtain ⟨a, C, p, rfl, T, ha, nw, np, q⟩ := h
    refine ⟨_, pss_one (ps_expr (pe_binit G (hr.mono (by decide)) rfl FT.g FT.rd FT.ga FT.fa kf b .nil pass0 (pa_cons (pv 0) (pa_cons pe_str (pa_cons (pv 1) pa_nil))))), ?_⟩
    exact ⟨_, rfl, _, rfl, a, C, .str "BadClip", p, rfl, T, ha, nw, np, fun dx H' h1 h2 h3 h4 h5 => q dx H' h1 h2 h3 h4 h5⟩
theorem binds_BadClip {f : Addr} {fd : FuncData} (F : FunD K "__init__" "BadClip.__init__" (defArgs s_BadClip) (defBody s_BadClip) (defScope s_BadClip) [.non] [] f fd) : (∃ ds, Vals [.non] ds ∧ Binds K fd ["self", "place"] ds) ∧ Binds K fd ["self", "place"] [] := by
  refine ⟨F.binds1 (ps := ["self", "place"]) 1 0 (by simp) rfl fun T kV doc pm an cdv ct us its hu hi => match us, hu, its, hi with | [_], _, [_], _ => ⟨_, rfl, rfl⟩, ?_⟩
  obtain ⟨ds, r, b⟩ := F.binds1 (ps := ["self", "place"]) 2 1 (by simp) rfl fun T kV doc pm an cdv ct us its hu hi => match us, hu, its, hi with | [_, _], _, [_], _ => ⟨_, rfl, rfl⟩
  cases r
  exact b
abbrev s_BadPaint : Stmt := clsDef (top 6)
theorem sc_BadPaint : FnScope ["self", "place"] ["self", "place"] (defScope s_BadPaint) := ⟨rfl, rfl, rfl, by decide +kernel, rfl, by decide +kernel, by decide +kernel⟩
theorem ok_BadPaint {f : Addr} {fd : FuncData} (F : FunD K "__init__" "BadPaint.__init__" (defArgs s_BadPaint) (defBody s_BadPaint) (defScope s_BadPaint) [.non] [] f fd) {D fD : Addr} {fdD : FuncData} (FT : FilmTxt K mg D fD)
    (G : FnOk P w K mg base CX0 1 fD fdD ["self", "word", "place"] (spErrInit K)) (kf : PySem.W.keepIn K (.ref fD) = true) (b : Binds K fdD ["self", "word", "place"] []) : FnOk P w K mg base CX0 2 f fd ["self", "place"] (spKind K "BadPaint") := by
  refine F.ok sc_BadPaint (fun vs H Q E h => ?_) (fun cdv A outer s H vs Q E hr h => ?_)
  · obtain ⟨a, C, p, rfl, _⟩ := h
    rfl
  · obtain ⟨a, C, p, rfl, T, ha, nw, np, q⟩ := h
    refine ⟨_, pss_one (ps_expr (pe_binit G (hr.mono (by decide)) rfl FT.g FT.rd FT.ga FT.fa kf b .nil pass0 (pa_cons (pv 0) (pa_cons pe_str (pa_cons (pv 1) pa_nil))))), ?_⟩
    exact ⟨_, rfl, _, rfl, a, C, .str "BadPaint", p, rfl, T, ha, nw, np, fun dx H' h1 h2 h3 h4 h5 => q dx H' h1 h2 h3 h4 h5⟩
theorem binds_BadPaint {f : Addr} {fd : FuncData} (F : FunD K "__init__" "BadPaint.__init__" (defArgs s_BadPaint) (defBody s_BadPaint) (defScope s_BadPaint) [.non] [] f fd) : (∃ ds, Vals [.non] ds ∧ Binds K fd ["self", "place"] ds) ∧ Binds K fd ["self", "place"] [] := by
  refine ⟨F.binds1 (ps := ["self", "place"]) 1 0 (by simp) rfl fun T kV doc pm an cdv ct us its hu hi => match us, hu, its, hi with | [_], _, [_], _ => ⟨_, rfl, rfl⟩, ?_⟩
  obtain ⟨ds, r, b⟩ := F.binds1 (ps := ["self", "place"]) 2 1 (by simp) rfl fun T kV doc pm an cdv ct us its hu hi => match us, hu, its, hi with | [_, _], _, [_], _ => ⟨_, rfl, rfl⟩
  cases r
  exact b
abbrev s_BadWhat : Stmt := clsDef (top 8)
theorem sc_BadWhat : FnScope ["self", "place"] ["self", "place"] (defScope s_BadWhat) := ⟨rfl, rfl, rfl, by decide +kernel, rfl, by decide +kernel, by decide +kernel⟩
theorem ok_BadWhat {f : Addr} {fd : FuncData} (F : FunD K "__init__" "BadWhat.__init__" (defArgs s_BadWhat) (defBody s_BadWhat) (defScope s_BadWhat) [.non] [] f fd) {D fD : Addr} {fdD : FuncData} (FT : FilmTxt K mg D fD)
    (G : FnOk P w K mg base CX0 1 fD fdD ["self", "word", "place"] (spErrInit K)) (kf : PySem.W.keepIn K (.ref fD) = true) (b : Binds K fdD ["self", "word", "place"] []) : FnOk P w K mg base CX0 2 f fd ["self", "place"] (spKind K "BadWhat") := by
  refine F.ok sc_BadWhat (fun vs H Q E h => ?_) (fun cdv A outer s H vs Q E hr h => ?_)
  · obtain ⟨a, C, p, rfl, _⟩ := h
    rfl
  · obtain ⟨a, C, p, rfl, T, ha, nw, np, q⟩ := h
    refine ⟨_, pss_one (ps_expr (pe_binit G (hr.mono (by decide)) rfl FT.g FT.rd FT.ga FT.fa kf b .nil pass0 (pa_cons (pv 0) (pa_cons pe_str (pa_cons (pv 1) pa_nil))))), ?_⟩
    exact ⟨_, rfl, _, rfl, a, C, .str "BadWhat", p, rfl, T, ha, nw, np, fun dx H' h1 h2 h3 h4 h5 => q dx H' h1 h2 h3 h4 h5⟩
theorem binds_BadWhat {f : Addr} {fd : FuncData} (F : FunD K "__init__" "BadWhat.__init__" (defArgs s_BadWhat) (defBody s_BadWhat) (defScope s_BadWhat) [.non] [] f fd) : (∃ ds, Vals [.non] ds ∧ Binds K fd ["self", "place"] ds) ∧ Binds K fd ["self", "place"] [] := by
  refine ⟨F.binds1 (ps := ["self", "place"]) 1 0 (by simp) rfl fun T kV doc pm an cdv ct us its hu hi => match us, hu, its, hi with | [_], _, [_], _ => ⟨_, rfl, rfl⟩, ?_⟩
  obtain ⟨ds, r, b⟩ := F.binds1 (ps := ["self", "place"]) 2 1 (by simp) rfl fun T kV doc pm an cdv ct us its hu hi => match us, hu, its, hi with | [_, _], _, [_], _ => ⟨_, rfl, rfl⟩
  cases r
  exact b
abbrev s_BadMoves : Stmt := clsDef (top 9)
theorem sc_BadMoves : FnScope ["self", "place"] ["self", "place"] (defScope s_BadMoves) := ⟨rfl, rfl, rfl, by decide +kernel, rfl, by decide +kernel, by decide +kernel⟩
theorem ok_BadMoves {f : Addr} {fd : FuncData} (F : FunD K "__init__" "BadMoves.__init__" (defArgs s_BadMoves) (defBody s_BadMoves) (defScope s_BadMoves) [.non] [] f fd) {D fD : Addr} {fdD : FuncData} (FT : FilmTxt K mg D fD)
    (G : FnOk P w K mg base CX0 1 fD fdD ["self", "word", "place"] (spErrInit K)) (kf : PySem.W.keepIn K (.ref fD) = true) (b : Binds K fdD ["self", "word", "place"] []) : FnOk P w K mg base CX0 2 f fd ["self", "place"] (spKind K "BadMoves") := by
  refine F.ok sc_BadMoves (fun vs H Q E h => ?_) (fun cdv A outer s H vs Q E hr h => ?_)
  · obtain ⟨a, C, p, rfl, _⟩ := h
    rfl
  · obtain ⟨a, C, p, rfl, T, ha, nw, np, q⟩ := h
    refine ⟨_, pss_one (ps_expr (pe_binit G (hr.mono (by decide)) rfl FT.g FT.rd FT.ga FT.fa kf b .nil pass0 (pa_cons (pv 0) (pa_cons pe_str (pa_cons (pv 1) pa_nil))))), ?_⟩
    exact ⟨_, rfl, _, rfl, a, C, .str "BadMoves", p, rfl, T, ha, nw, np, fun dx H' h1 h2 h3 h4 h5 => q dx H' h1 h2 h3 h4 h5⟩
theorem binds_BadMoves {f : Addr} {fd : FuncData} (F : FunD K "__init__" "BadMoves.__init__" (defArgs s_BadMoves) (defBody s_BadMoves) (defScope s_BadMoves) [.non] [] f fd) : (∃ ds, Vals [.non] ds ∧ Binds K fd ["self", "place"] ds) ∧ Binds K fd ["self", "place"] [] := by
  refine ⟨F.binds1 (ps := ["self", "place"]) 1 0 (by simp) rfl fun T kV doc pm an cdv ct us its hu hi => match us, hu, its, hi with | [_], _, [_], _ => ⟨_, rfl, rfl⟩, ?_⟩
  obtain ⟨ds, r, b⟩ := F.binds1 (ps := ["self", "place"]) 2 1 (by simp) rfl fun T kV doc pm an cdv ct us its hu hi => match us, hu, its, hi with | [_, _], _, [_], _ => ⟨_, rfl, rfl⟩
  cases r
  exact b
abbrev s_is_whole : Stmt := top 11
theorem sc_is_whole : FnScope ["value"] ["value"] (defScope s_is_whole) := ⟨rfl, rfl, rfl, by decide +kernel, rfl, by decide +kernel, by decide +kernel⟩
def spWhole : Sp := fun vs H Q _ => ∃ v T, vs = [v] ∧ Kn H v T ∧ Q (.bl (isI v)) H
theorem ok_is_whole {f : Addr} {fd : FuncData} (F : Fun K "is_whole" "is_whole" s_is_whole f fd) (T : Txt K mg) : FnOk P w K mg base CX0 1 f fd ["value"] spWhole := by
  refine F.ok sc_is_whole (fun vs H Q E h => ?_) (fun cdv A outer s H vs Q E hr h => ?_)
  · obtain ⟨v, T, rfl, _⟩ := h
    rfl
  · obtain ⟨v, T', rfl, kn, q⟩ := h
    refine ⟨_, (pss_one (ps_ret (pe_and (pe_callB (kisi K) (by rfl) T.isinstance_ bt_isinstance (pa_cons (pv 0) (pa_cons (pe_bltn (v := .ty "int") (by rfl) T.int_ bt_int rfl) pa_nil))) (pe_one (pe_not (pe_callB (kisi K) (by rfl) T.isinstance_ bt_isinstance (pa_cons (pv 0) (pa_cons (pe_bltn (v := .ty "bool") (by rfl) T.bool_ bt_bool rfl) pa_nil)))))))), ?_⟩
    refine ⟨v, rfl, v, _, _, _, _, rfl, .ty _, kn.ty, kit_ty (kit_int kn), _, rfl, ?_⟩
    refine ite2 (fun e => ?_) (fun e => ?_)
    · refine ⟨v, rfl, v, _, _, _, _, rfl, .ty _, kn.ty, kit_ty (kit_bool kn), _, rfl, ?_⟩
      have z := kn.whole
      rw [e] at z
      rw [← z] at q
      exact q
    · have z := kn.whole
      rw [eq_false_of_ne_true e] at z
      rw [← z] at q
      exact q
abbrev s_is_number : Stmt := top 16
theorem sc_is_number : FnScope ["value", "least", "most"] ["value", "least", "most"] (defScope s_is_number) := ⟨rfl, rfl, rfl, by decide +kernel, rfl, by decide +kernel, by decide +kernel⟩
def numIn (lo hi : Int) : V → Bool
  | .int i => decide (lo ≤ i) && decide (i ≤ hi)
  | _ => false
def spNumber : Sp := fun vs H Q _ => ∃ v lo hi T, vs = [v, .int lo, .int hi] ∧ Kn H v T ∧ Q (.bl (numIn lo hi v)) H
theorem ok_is_number {f : Addr} {fd : FuncData} (F : Fun K "is_number" "is_number" s_is_number f fd) (T : Txt K mg) (D_is_whole : Def P w K mg base CX0 "is_whole" 1 ["value"] spWhole) : FnOk P w K mg base CX0 2 f fd ["value", "least", "most"] spNumber := by
  refine F.ok sc_is_number (fun vs H Q E h => ?_) (fun cdv A outer s H vs Q E hr h => ?_)
  · obtain ⟨v, lo, hi, T, rfl, _⟩ := h
    rfl
  · obtain ⟨v, lo, hi, T', rfl, kn, q⟩ := h
    refine ⟨_, (pss_one (ps_ret (pe_and (pe_call D_is_whole.ok (hr.mono (by decide)) rfl D_is_whole.mgf D_is_whole.kp D_is_whole.b .nil pass0 (pa_cons (pv 0) pa_nil)) (pe_one (pe_chain op_le op_le (pv 1) (pv 0) (pv 2)))))), ?_⟩
    refine ⟨v, rfl, v, _, rfl, kn, _, rfl, ?_⟩
    cases v with
    | int i =>
      refine iteT ?_
      refine ⟨_, rfl, _, rfl, _, _, rfl, rfl, _, rfl, ?_⟩
      have e : numIn lo hi (.int i) = (decide (lo ≤ i) && decide (i ≤ hi)) := rfl
      rw [e] at q
      refine ite2 (fun c => ?_) (fun c => ?_)
      · rw [c, Bool.true_and] at q
        exact ⟨_, rfl, _, _, rfl, rfl, q⟩
      · rw [eq_false_of_ne_true c, Bool.false_and] at q
        exact q
    | _ => exact iteF q
def plV : Option Nat → V
  | none => .non
  | some k => .int (k : Nat)
/-- known, a tuple's items too -/
def Item (H : Hp) (v : V) : Prop := (∃ T, Kn H v T) ∧ ∀ a xs, v = .ref a → H a = some (.tup xs) → ∀ x ∈ xs, ∃ T, Kn H x T
theorem Deep.item {m : Nat} {H : Hp} {v : V} (h : Deep m 1 H v) : Item H v := ⟨h.1, fun a xs e ha x hx => (h.2 a xs e ha).2 x hx⟩
def ptOk (H : Hp) (lo : Int) : V → Bool
  | .ref a => match H a with
    | some (.tup [f, x, y]) => numIn lo 1000 f && (numIn (-1000) 1000 x && numIn (-1000) 1000 y)
    | _ => false
  | _ => false
def frOf (H : Hp) : V → Int
  | .ref a => match H a with
    | some (.tup (.int f :: _)) => f
    | _ => 0
  | _ => 0
theorem ptOk_tup {H : Hp} {lo : Int} {a : Addr} {f x y : V} (h : H a = some (.tup [f, x, y])) : ptOk H lo (.ref a) = (numIn lo 1000 f && (numIn (-1000) 1000 x && numIn (-1000) 1000 y)) := by
  simp only [ptOk, h]
theorem ptOk_len {H : Hp} {lo : Int} {a : Addr} {xs : List V} (h : H a = some (.tup xs)) (hl : xs.length ≠ 3) : ptOk H lo (.ref a) = false := by
  match xs, hl with
  | [], _ => simp only [ptOk, h]
  | [_], _ => simp only [ptOk, h]
  | [_, _], _ => simp only [ptOk, h]
  | [_, _, _], hl => exact absurd rfl hl
  | _ :: _ :: _ :: _ :: _, _ => simp only [ptOk, h]
theorem ptOk_no {H : Hp} {lo : Int} {v : V} {T : String} (k : Kn H v T) (h : isA T "tuple" = false) : ptOk H lo v = false := by
  cases k with
  | tup h1 => exact absurd h (by decide +kernel)
  | lst h1 => simp only [ptOk, h1]
  | _ => rfl
theorem ptOk_ex {H H' : Hp} {lo : Int} {v : V} {T : String} (e : Ex H H') (k : Kn H v T) : ptOk H' lo v = ptOk H lo v ∧ frOf H' v = frOf H v := by
  cases k with
  | tup h1 => simp only [ptOk, frOf, h1, e _ _ h1, and_self]
  | lst h1 => simp only [ptOk, frOf, h1, e _ _ h1, and_self]
  | _ => exact ⟨rfl, rfl⟩
theorem ptOk_three {H : Hp} {lo : Int} {v : V} (h : ptOk H lo v = true) : ∃ a f x y, v = .ref a ∧ H a = some (.tup [.int f, x, y]) ∧ lo ≤ f ∧ f ≤ 1000 ∧ frOf H v = f := by
  unfold ptOk at h
  split at h
  · rename_i a
    split at h
    · rename_i f x y ha
      rw [Bool.and_eq_true] at h
      cases f with
      | int i =>
        have h1 : (decide (lo ≤ i) && decide (i ≤ 1000)) = true := h.1
        rw [Bool.and_eq_true] at h1
        exact ⟨a, i, x, y, rfl, ha, of_decide_eq_true h1.1, of_decide_eq_true h1.2, by simp only [frOf, ha]⟩
      | _ => exact absurd h.1 (by simp [numIn])
    · cases h
  · cases h
/-- the least frame of the item at a place -/
def lea (H : Hp) (xs : List V) : Nat → Int
  | 0 => 0
  | k + 1 => frOf H (xs.getD k .non) + 1
def Bad (H : Hp) (xs : List V) : Option Nat → Prop
  | none => ∀ k x, xs[k]? = some x → ptOk H (lea H xs k) x = true
  | some k => ∃ x, xs[k]? = some x ∧ ptOk H (lea H xs k) x = false ∧ ∀ j < k, ∀ y, xs[j]? = some y → ptOk H (lea H xs j) y = true
theorem Bad.uniq {H : Hp} {xs : List V} {o p : Option Nat} (h : Bad H xs o) (k : Bad H xs p) : o = p := by
  have key : ∀ {i j : Nat}, Bad H xs (some i) → Bad H xs (some j) → ¬ i < j := fun {i j} ⟨x, hx, h1, _⟩ ⟨y, hy, _, k2⟩ lt => by
    have := k2 i lt x hx
    rw [h1] at this
    cases this
  cases o with
  | none =>
    cases p with
    | none => rfl
    | some j =>
      obtain ⟨y, hy, k1, _⟩ := k
      have := h j y hy
      rw [k1] at this
      cases this
  | some i =>
    cases p with
    | none =>
      obtain ⟨x, hx, h1, _⟩ := h
      have := k i x hx
      rw [h1] at this
      cases this
    | some j =>
      have a := key h k
      have b := key k h
      congr 1
      omega
/-- what a check of moves says: fine, or the place -/
def MvOut (H : Hp) (v : V) : Option (Option Nat) → Prop
  | none => ∃ a xs, v = .ref a ∧ H a = some (.tup xs) ∧ xs.length ≤ 16 ∧ Bad H xs none
  | some none => ∀ a xs, v = .ref a → H a = some (.tup xs) → 16 < xs.length
  | some (some k) => ∃ a xs, v = .ref a ∧ H a = some (.tup xs) ∧ xs.length ≤ 16 ∧ Bad H xs (some k)
theorem MvOut.uniq {H : Hp} {v : V} {o p : Option (Option Nat)} (h : MvOut H v o) (k : MvOut H v p) : o = p := by
  have two : ∀ {q r : Option Nat}, (∃ a xs, v = .ref a ∧ H a = some (.tup xs) ∧ xs.length ≤ 16 ∧ Bad H xs q) → (∃ a xs, v = .ref a ∧ H a = some (.tup xs) ∧ xs.length ≤ 16 ∧ Bad H xs r) → q = r := fun ⟨a, xs, e, ha, _, h1⟩ ⟨b, ys, e', hb, _, h2⟩ => by
    rw [e] at e'
    cases e'
    rw [ha] at hb
    cases hb
    exact h1.uniq h2
  have no : ∀ {q : Option Nat}, (∃ a xs, v = .ref a ∧ H a = some (.tup xs) ∧ xs.length ≤ 16 ∧ Bad H xs q) → MvOut H v (some none) → False := fun ⟨a, xs, e, ha, hl, _⟩ z => by
    have := z a xs e ha
    omega
  match o, p, h, k with
  | none, none, _, _ => rfl
  | some none, some none, _, _ => rfl
  | none, some none, h, k => exact (no h k).elim
  | some none, none, h, k => exact (no k h).elim
  | some (some i), some none, h, k => exact (no h k).elim
  | some none, some (some i), h, k => exact (no k h).elim
  | none, some (some i), h, k => exact absurd (two h k) (by simp)
  | some (some i), none, h, k => exact absurd (two h k) (by simp)
  | some (some i), some (some j), h, k => rw [two h k]
/-- passed as moves: known, its items known, theirs too -/
def Wf (H : Hp) (v : V) : Prop := (∃ T, Kn H v T) ∧ ∀ a xs, v = .ref a → H a = some (.tup xs) → ∀ x ∈ xs, Item H x
theorem Deep.wf {m : Nat} {H : Hp} {v : V} (h : Deep m 2 H v) : Wf H v := ⟨h.1, fun a xs e ha x hx => ((h.2 a xs e ha).2 x hx).item⟩
theorem Item.ex {H H' : Hp} {v : V} (e : Ex H H') (h : Item H v) : Item H' v := by
  obtain ⟨⟨T, kn⟩, h2⟩ := h
  refine ⟨⟨T, kn.mono e⟩, fun a xs ev ha x hx => ?_⟩
  cases kn with
  | tup h1 =>
    cases ev
    rw [e _ _ h1] at ha
    cases ha
    obtain ⟨T', k⟩ := h2 _ _ rfl h1 x hx
    exact ⟨T', k.mono e⟩
  | lst h1 =>
    cases ev
    rw [e _ _ h1] at ha
    cases ha
  | _ => cases ev
theorem Wf.ex {H H' : Hp} {v : V} (e : Ex H H') (h : Wf H v) : Wf H' v := by
  obtain ⟨⟨T, kn⟩, h2⟩ := h
  refine ⟨⟨T, kn.mono e⟩, fun a xs ev ha x hx => ?_⟩
  cases kn with
  | tup h1 =>
    cases ev
    rw [e _ _ h1] at ha
    cases ha
    exact (h2 _ _ rfl h1 x hx).ex e
  | lst h1 =>
    cases ev
    rw [e _ _ h1] at ha
    cases ha
  | _ => cases ev
theorem lea_ex {H H' : Hp} {xs : List V} (e : Ex H H') (h : ∀ x ∈ xs, Item H x) (k : Nat) : lea H' xs k = lea H xs k := by
  cases k with
  | zero => rfl
  | succ k =>
    show frOf H' _ + 1 = frOf H _ + 1
    by_cases hk : k < xs.length
    · rw [List.getD_eq_getElem?_getD, List.getElem?_eq_getElem hk]
      obtain ⟨T, kn⟩ := (h _ (List.getElem_mem hk)).1
      rw [Option.getD_some, (ptOk_ex (lo := 0) e kn).2]
    · rw [List.getD_eq_getElem?_getD, List.getElem?_eq_none (by omega)]
      rfl
theorem Bad.ex {H H' : Hp} {xs : List V} (e : Ex H H') (h : ∀ x ∈ xs, Item H x) {o : Option Nat} (b : Bad H xs o) : Bad H' xs o := by
  have same : ∀ k x, xs[k]? = some x → ptOk H' (lea H' xs k) x = ptOk H (lea H xs k) x := fun k x hx => by
    obtain ⟨T, kn⟩ := (h _ (List.mem_of_getElem? hx)).1
    rw [lea_ex e h k, (ptOk_ex e kn).1]
  cases o with
  | none => exact fun k x hx => by rw [same k x hx]; exact b k x hx
  | some k =>
    obtain ⟨x, hx, h1, h2⟩ := b
    exact ⟨x, hx, by rw [same k x hx]; exact h1, fun j hj y hy => by rw [same j y hy]; exact h2 j hj y hy⟩
theorem MvOut.ex {H H' : Hp} {v : V} (e : Ex H H') (h : Wf H v) {o : Option (Option Nat)} (b : MvOut H v o) : MvOut H' v o := by
  obtain ⟨⟨T, kn⟩, h2⟩ := h
  match o, b with
  | none, ⟨a, xs, ev, ha, hl, hb⟩ => exact ⟨a, xs, ev, e _ _ ha, hl, hb.ex e (h2 a xs ev ha)⟩
  | some (some k), ⟨a, xs, ev, ha, hl, hb⟩ => exact ⟨a, xs, ev, e _ _ ha, hl, hb.ex e (h2 a xs ev ha)⟩
  | some none, b =>
    intro a xs ev ha
    cases kn with
    | tup h1 =>
      cases ev
      rw [e _ _ h1] at ha
      cases ha
      exact b _ _ rfl h1
    | lst h1 =>
      cases ev
      rw [e _ _ h1] at ha
      cases ha
    | _ => cases ev
abbrev s_is_distance : Stmt := top 47
theorem sc_is_distance : FnScope ["value"] ["value"] (defScope s_is_distance) := ⟨rfl, rfl, rfl, by decide +kernel, rfl, by decide +kernel, by decide +kernel⟩
def spDist : Sp := fun vs H Q _ => ∃ v T, vs = [v] ∧ Kn H v T ∧ Q (.bl (numIn (-1000) 1000 v)) H
theorem ok_is_distance {f : Addr} {fd : FuncData} (F : Fun K "_is_distance" "_is_distance" s_is_distance f fd) (T : Txt K mg) (D_is_number : Def P w K mg base CX0 "is_number" 2 ["value", "least", "most"] spNumber) : FnOk P w K mg base CX0 3 f fd ["value"] spDist := by
  refine F.ok sc_is_distance (fun vs H Q E h => ?_) (fun cdv A outer s H vs Q E hr h => ?_)
  · obtain ⟨v, T, rfl, _⟩ := h
    rfl
  · obtain ⟨v, T', rfl, kn, q⟩ := h
    refine ⟨_, (pss_one (ps_ret (pe_call D_is_number.ok (hr.mono (by decide)) rfl D_is_number.mgf D_is_number.kp D_is_number.b .nil pass0 (pa_cons (pv 0) (pa_cons (pe_un un_neg (pe_glob (v := .int 1000) rfl T.DISTANCE_MOST_.choose_spec ⟨_, rfl⟩)) (pa_cons (pe_glob (v := .int 1000) rfl T.DISTANCE_MOST_.choose_spec ⟨_, rfl⟩) pa_nil)))))), ?_⟩
    exact ⟨_, rfl, _, rfl, v, -1000, 1000, T', rfl, kn, q⟩
abbrev s_is_point : Stmt := top 46
theorem sc_is_point : FnScope ["point", "least", "frame", "across", "down"] ["point", "least"] (defScope s_is_point) := ⟨rfl, rfl, rfl, by decide +kernel, rfl, by decide +kernel, by decide +kernel⟩
def spIsPt : Sp := fun vs H Q _ => ∃ v lo, vs = [v, .int lo] ∧ Item H v ∧ Q (.bl (ptOk H lo v)) H
theorem ok_is_point {f : Addr} {fd : FuncData} (F : Fun K "_is_point" "_is_point" s_is_point f fd) (T : Txt K mg) (D_is_number : Def P w K mg base CX0 "is_number" 2 ["value", "least", "most"] spNumber) (D_is_distance : Def P w K mg base CX0 "_is_distance" 3 ["value"] spDist) : FnOk P w K mg base CX0 4 f fd ["point", "least"] spIsPt := by
  refine F.ok sc_is_point (fun vs H Q E h => ?_) (fun cdv A outer s H vs Q E hr h => ?_)
  · obtain ⟨v, lo, rfl, _⟩ := h
    rfl
  · obtain ⟨v, lo, rfl, ⟨⟨T', kn⟩, it⟩, q⟩ := h
    refine ⟨_, (pss_cons (ps_if (PW.pt (pw_or (pt_not (pt_val (pe_callB (kisi K) (by rfl) T.isinstance_ bt_isinstance (pa_cons (pv 0) (pa_cons (pe_bltn (v := .ty "tuple") (by rfl) T.tuple_ bt_tuple rfl) pa_nil))))) (pw_or1 (pt_cmpR op_ne (pe_callB (klen K) (by rfl) T.len_ PySem.boot_len (pa_cons (pv 0) pa_nil)) pe_int (nomark _)))))
        (pss_one (ps_ret pe_bl))
        pss_nil)
      (pss_cons (ps_asg (pv 0) (kpgT K (n := 3) rfl (pgs_cons (pg_name (i := 2) sc_is_point.nd rfl (by first | exact Or.inl rfl | exact Or.inr rfl)) (pgs_cons (pg_name (i := 3) sc_is_point.nd rfl (by first | exact Or.inl rfl | exact Or.inr rfl)) (pgs_cons (pg_name (i := 4) sc_is_point.nd rfl (by first | exact Or.inl rfl | exact Or.inr rfl)) pgs_nil)))))
      (pss_one (ps_ret (pe_and (pe_call D_is_number.ok (hr.mono (by decide)) rfl D_is_number.mgf D_is_number.kp D_is_number.b .nil pass0 (pa_cons (pv 2) (pa_cons (pv 1) (pa_cons (pe_glob (v := .int 1000) rfl T.MOVE_FRAME_MOST_.choose_spec ⟨_, rfl⟩) pa_nil)))) (pe_and (pe_call D_is_distance.ok (hr.mono (by decide)) rfl D_is_distance.mgf D_is_distance.kp D_is_distance.b .nil pass0 (pa_cons (pv 3) pa_nil)) (pe_one (pe_call D_is_distance.ok (hr.mono (by decide)) rfl D_is_distance.mgf D_is_distance.kp D_is_distance.b .nil pass0 (pa_cons (pv 4) pa_nil))))))))), ?_⟩
    refine ⟨v, rfl, v, _, _, _, _, rfl, .ty _, kn.ty, kit_ty (kit_tuple kn), _, rfl, ?_⟩
    cases ct : isA T' "tuple" with
    | false =>
      rw [ptOk_no kn ct] at q
      exact iteT (iteT q)
    | true =>
      obtain ⟨a, xs, rfl, ha⟩ := kn.asTup ct
      refine iteF ?_
      refine ⟨_, rfl, a, xs, rfl, .inr (SqT.of ha), rfl, _, rfl, ?_⟩
      by_cases h3 : xs.length = 3
      · refine iteDn (congrArg V.int (by omega)) ?_
        match xs, h3, ha with
        | [f, x, y], _, ha =>
          rw [ptOk_tup ha] at q
          have ki := it a _ rfl ha
          obtain ⟨T1, k1⟩ := ki f (by simp)
          obtain ⟨T2, k2⟩ := ki x (by simp)
          obtain ⟨T3, k3⟩ := ki y (by simp)
          refine ⟨_, rfl, a, _, rfl, SqT.of ha, rfl, _, _, rfl, _, _, rfl, _, _, rfl, rfl, ?_⟩
          refine ⟨_, rfl, _, rfl, f, lo, 1000, T1, rfl, k1, _, rfl, ?_⟩
          refine ite2 (fun c => ?_) (fun c => ?_)
          · rw [c, Bool.true_and] at q
            refine ⟨_, rfl, x, T2, rfl, k2, _, rfl, ?_⟩
            refine ite2 (fun c => ?_) (fun c => ?_)
            · rw [c, Bool.true_and] at q
              exact ⟨_, rfl, y, T3, rfl, k3, q⟩
            · rw [eq_false_of_ne_true c, Bool.false_and] at q
              exact q
          · rw [eq_false_of_ne_true c, Bool.false_and] at q
            exact q
      · refine iteNn (fun z => h3 (by have := V.int.inj z; omega)) ?_
        rw [ptOk_len ha h3] at q
        exact q
abbrev s_check_moves : Stmt := top 45
theorem sc_check_moves : FnScope ["moves", "least", "place", "point"] ["moves"] (defScope s_check_moves) := ⟨rfl, rfl, rfl, by decide +kernel, rfl, by decide +kernel, by decide +kernel⟩
def spCheckMv (C : Addr) : Sp := fun vs H Q E => ∃ v, vs = [v] ∧ Wf H v ∧ (∀ H', Ex H H' → MvOut H v none → Q .non H') ∧
  ∀ p d H', H d = none → Ex H H' → MvOut H v (some p) → H' d = some (errD "BadMoves" (plV p)) → E (.ref C) (some d) H'
theorem ok_check_moves {f : Addr} {fd : FuncData} (F : Fun K "check_moves" "check_moves" s_check_moves f fd) (T : Txt K mg) {C : Addr} (KB : KindOk P w K mg base "BadMoves" C) (D_is_point : Def P w K mg base CX0 "_is_point" 4 ["point", "least"] spIsPt) : FnOk P w K mg base (L2.CX P w) 5 f fd ["moves"] (spCheckMv C) := by
  refine F.okX sc_check_moves (fun vs H Q E h => ?_) (fun cdv A outer s H vs Q E hr h => ?_)
  · obtain ⟨v, rfl, _⟩ := h
    rfl
  · obtain ⟨v, rfl, wf, qN, qE⟩ := h
    obtain ⟨fC, KT, fdC, GC, ⟨ds, hds, bC⟩, bA⟩ := KB
    have wf0 := wf
    obtain ⟨⟨T', kn⟩, it⟩ := wf
    refine ⟨_, (pss_cons (ps_if (PW.pt (pw_or (pt_not (pt_val (pe_callB (kisi K) (by rfl) T.isinstance_ bt_isinstance (pa_cons (pv 0) (pa_cons (pe_bltn (v := .ty "tuple") (by rfl) T.tuple_ bt_tuple rfl) pa_nil))))) (pw_or1 (pt_cmpR op_gt (pe_callB (klen K) (by rfl) T.len_ PySem.boot_len (pa_cons (pv 0) pa_nil)) (pe_glob (v := .int 16) rfl T.MOVES_MOST_.choose_spec ⟨_, rfl⟩) (nomark _)))))
        (pss_one (ps_raise rfl (takes_of rfl rfl rfl rfl) (pmk_none KT.T KT.iC KT.tI GC (hr.mono (by decide)) bC hds pass0 rfl KT.g)))
        pss_nil)
      (pss_cons (ps_set (i := 1) sc_check_moves.nd rfl (by first | exact Or.inl rfl | exact Or.inr rfl) pe_int)
      (pss_one (ps_for (passes_of rfl) rfl (kpiET K (by rfl) T.enumerate_ (pa_cons (pv 0) pa_nil)) (kpgT K (n := 2) rfl (pgs_cons (pg_name (i := 2) sc_check_moves.nd rfl (by first | exact Or.inl rfl | exact Or.inr rfl)) (pgs_cons (pg_name (i := 3) sc_check_moves.nd rfl (by first | exact Or.inl rfl | exact Or.inr rfl)) pgs_nil)))
        (pss_cons (ps_if (pt_not (pt_val (pe_call D_is_point.ok (hr.mono (by decide)) rfl D_is_point.mgf D_is_point.kp D_is_point.b .nil pass0 (pa_cons (pv 3) (pa_cons (pv 1) pa_nil)))))
          (pss_one (ps_raise rfl (takes_of rfl rfl rfl rfl) (pmk_oex KT.T KT.iC KT.tI GC (hr.mono (by decide)) bA .nil pass0 rfl KT.g (pa_cons (pv 2) pa_nil))))
          pss_nil)
        (pss_one (ps_set (i := 1) sc_check_moves.nd rfl (by first | exact Or.inl rfl | exact Or.inr rfl) (pe_op op_add (pe_ix (kixT K) (pv 3) pe_int (fun _ _ => rfl)) pe_int)))))))), ?_⟩
    refine ⟨v, rfl, v, _, _, _, _, rfl, .ty _, kn.ty, kit_ty (kit_tuple kn), _, rfl, ?_⟩
    cases ct : isA T' "tuple" with
    | false =>
      refine iteT (iteT ?_)
      exact ⟨by decide, fun b hb => kind_made KT hb fun d H' h1 h2 h3 => qE none d H' h1 h2 (fun a xs e ha => absurd ha (kn.noTup ct a xs e)) h3⟩
    | true =>
      obtain ⟨a, xs, rfl, ha⟩ := kn.asTup ct
      have it := it a xs rfl ha
      refine iteF ?_
      refine ⟨_, rfl, a, xs, rfl, .inr (SqT.of ha), _, _, rfl, rfl, _, rfl, ?_⟩
      refine ite2 (fun big => ?_) (fun small => ?_)
      · have big := of_decide_eq_true big
        refine ⟨by decide, fun b hb => kind_made KT hb fun d H' h1 h2 h3 => qE none d H' h1 h2 (fun a' xs' e ha' => ?_) h3⟩
        cases e
        rw [ha] at ha'
        cases ha'
        omega
      have small : xs.length ≤ 16 := by
        have : ¬ ((16 : Int) < xs.length) := fun z => small (decide_eq_true z)
        omega
      refine ⟨_, rfl, a, xs, rfl, SqT.of ha, ?_⟩
      refine for_ET (xs := xs) (fun i σ H' => Ex H H' ∧ (∃ x y, σ = [some (.ref a), some (.int (lea H xs i)), x, y]) ∧ ∀ j < i, ∀ y, xs[j]? = some y → ptOk H (lea H xs j) y = true) ⟨Ex.refl _, ⟨_, _, rfl⟩, fun j hj => absurd hj (Nat.not_lt_zero _)⟩ (fun i σ H' _ p => SqT.of (p.1 _ _ ha)) ?_ ?_
      · rintro i v σ H1 t hv ⟨e1, ⟨x, y, rfl⟩, hall⟩ ht
        have f1 := Ex.new (o := .tup [.int (i : Nat), v]) ht
        have k1 : upd H1 t (.tup [.int (i : Nat), v]) t = some (.tup [.int (i : Nat), v]) := upd_same
        generalize upd H1 t (.tup [.int (i : Nat), v]) = H2 at f1 k1 ⊢
        have e2 := e1.trans f1
        have iv := it v (List.mem_of_getElem? hv)
        obtain ⟨Tv, kv⟩ := iv.1
        refine ⟨t, _, rfl, SqT.of k1, rfl, _, _, rfl, _, _, rfl, rfl, ?_⟩
        refine ⟨_, rfl, _, rfl, v, _, rfl, iv.ex e2, _, rfl, ?_⟩
        rw [(ptOk_ex (lo := lea H xs i) e2 kv).1]
        cases hp : ptOk H (lea H xs i) v with
        | false =>
          refine iteT ?_
          exact ⟨_, rfl, (by show 1 ≤ 1000; decide), fun b hb => kind_made KT hb fun d H' h1 h2 h3 => qE (some i) d H' (ex_free e2 h1) (e2.trans h2) ⟨a, xs, rfl, ha, small, v, hv, hp, hall⟩ h3⟩
        | true =>
          refine iteF ?_
          obtain ⟨pa, f, px, py, rfl, hpa, lf, fm, ef⟩ := ptOk_three hp
          refine ⟨_, rfl, pa, _, _, _, rfl, rfl, SqT.of (e2 _ _ hpa), rfl, _, _, rfl, rfl, ?_⟩
          have el : lea H xs (i + 1) = f + 1 := by
            show frOf H _ + 1 = _
            rw [List.getD_eq_getElem?_getD, hv, Option.getD_some, ef]
          refine ⟨e2, ⟨some (.int (i : Nat)), some (.ref pa), by rw [el]; rfl⟩, fun j hj y hy => ?_⟩
          by_cases e : j = i
          · subst e
            rw [hv] at hy
            cases hy
            exact hp
          · exact hall j (by omega) y hy
      · rintro σ H1 ⟨e1, ⟨x, y, rfl⟩, hall⟩
        refine qN H1 e1 ⟨a, xs, rfl, ha, small, fun k x hx => hall k (List.getElem?_eq_some_iff.mp hx).1 x hx⟩
abbrev s_has_form_blends : Stmt := top 22
theorem sc_has_form_blends : FnScope ["what", "opacity", "mode", "n"] ["what"] (defScope s_has_form_blends) := ⟨rfl, rfl, rfl, by decide +kernel, rfl, by decide +kernel, by decide +kernel⟩
def inM (v : V) : Bool := ["over", "add", "times"].any fun w => isW w v
/-- the items of what a layer does -/
def formW : List V → Bool
  | [w] => isW "invert" w
  | [w, n] => if isW "shift" w then numIn (-255) 255 n else false
  | [w, o, m] => if isW "paint" w then numIn 0 256 o && inM m else false
  | _ => false
def formWV (H : Hp) : V → Bool
  | .ref a => match H a with
    | some (.tup xs) => formW xs
    | _ => false
  | _ => false
theorem formWV_tup {H : Hp} {a : Addr} {xs : List V} (h : H a = some (.tup xs)) : formWV H (.ref a) = formW xs := by
  simp only [formWV, h]
theorem formWV_no {H : Hp} {v : V} {T : String} (k : Kn H v T) (h : isA T "tuple" = false) : formWV H v = false := by
  cases k with
  | tup h1 => exact absurd h (by decide +kernel)
  | lst h1 => simp only [formWV, h1]
  | _ => rfl
theorem formWV_ex {H H' : Hp} {v : V} {T : String} (e : Ex H H') (k : Kn H v T) : formWV H' v = formWV H v := by
  cases k with
  | tup h1 => rw [formWV_tup h1, formWV_tup (e _ _ h1)]
  | lst h1 => simp only [formWV, h1, e _ _ h1]
  | _ => rfl
def spFormW : Sp := fun vs H Q _ => ∃ v B n, vs = [v] ∧ DX B n H v ∧ Q (.bl (formWV H v)) H
theorem ok_has_form_blends {f : Addr} {fd : FuncData} (F : Fun K "_has_form" "_has_form" s_has_form_blends f fd) (T : Txt K mg) (D_is_number : Def P w K mg base CX0 "is_number" 2 ["value", "least", "most"] spNumber) : FnOk P w K mg base CX0 3 f fd ["what"] spFormW := by
  refine F.ok sc_has_form_blends (fun vs H Q E h => ?_) (fun cdv A outer s H vs Q E hr h => ?_)
  · obtain ⟨v, B, n, rfl, _⟩ := h
    rfl
  · obtain ⟨v, B, n, rfl, dx, q⟩ := h
    obtain ⟨T', kn⟩ := dx.kn
    refine ⟨_, (pss_cons (ps_if (pt_not (pt_val (pe_callB (kisi K) (by rfl) T.isinstance_ bt_isinstance (pa_cons (pv 0) (pa_cons (pe_bltn (v := .ty "tuple") (by rfl) T.tuple_ bt_tuple rfl) pa_nil)))))
        (pss_one (ps_ret pe_bl))
        pss_nil)
      (pss_one (ps_match (pv 0) (pcs_seq K rfl sc_has_form_blends.nd (pms_word hr.units (pms_cap (i := 1) rfl (by first | exact Or.inl rfl | exact Or.inr rfl) (pms_cap (i := 2) rfl (by first | exact Or.inl rfl | exact Or.inr rfl) pms_nil)))
          (pss_one (ps_ret (pe_and (pe_call D_is_number.ok (hr.mono (by decide)) rfl D_is_number.mgf D_is_number.kp D_is_number.b .nil pass0 (pa_cons (pv 1) (pa_cons pe_int (pa_cons (pe_glob (v := .int 256) rfl T.COVER_MOST_.choose_spec ⟨_, rfl⟩) pa_nil)))) (pe_one (pe_cmpR (kinW K hr.units) (pv 2) (pe_glob (v := .ref T.MODES_.choose) rfl T.MODES_.choose_spec.1 rfl) (by rfl))))))
          (pcs_seq K rfl sc_has_form_blends.nd (pms_word hr.units pms_nil)
          (pss_one (ps_ret pe_bl))
          (pcs_seq K rfl sc_has_form_blends.nd (pms_word hr.units (pms_cap (i := 3) rfl (by first | exact Or.inl rfl | exact Or.inr rfl) pms_nil))
          (pss_one (ps_ret (pe_call D_is_number.ok (hr.mono (by decide)) rfl D_is_number.mgf D_is_number.kp D_is_number.b .nil pass0 (pa_cons (pv 3) (pa_cons (pe_un un_neg (pe_glob (v := .int 255) rfl T.VALUE_MOST_.choose_spec ⟨_, rfl⟩)) (pa_cons (pe_glob (v := .int 255) rfl T.VALUE_MOST_.choose_spec ⟨_, rfl⟩) pa_nil))))))
          (pcs_else (pss_one (ps_ret pe_bl))))))))), ?_⟩
    refine ⟨v, rfl, v, _, _, _, _, rfl, .ty _, kn.ty, kit_ty (kit_tuple kn), _, rfl, ?_⟩
    cases ct : isA T' "tuple" with
    | false =>
      rw [formWV_no kn ct] at q
      exact iteT q
    | true =>
      obtain ⟨a, xs, rfl, ha⟩ := kn.asTup ct
      rw [formWV_tup ha] at q
      refine iteF ?_
      have px := (dx.items ha).2
      refine ⟨_, rfl, a, xs, rfl, SqT.of ha, ?_⟩
      match xs, ha, px, q with
      | [w], ha, px, q =>
        obtain ⟨T0, k0⟩ := (px w (by simp)).kn
        refine lenN (by show 1 ≠ 3; decide) ⟨a, _, rfl, SqT.of ha, lenY rfl ?_⟩
        refine ⟨w, _, T0, rfl, k0, ?_⟩
        cases c : isW "invert" w with
        | true =>
          simp only [formW, c] at q
          exact iteT ⟨rfl, q⟩
        | false =>
          simp only [formW, c] at q
          refine iteF ?_
          exact ⟨a, _, rfl, SqT.of ha, lenN (by show 1 ≠ 2; decide) q⟩
      | [w, x], ha, px, q =>
        obtain ⟨T0, k0⟩ := (px w (by simp)).kn
        obtain ⟨T1, k1⟩ := (px x (by simp)).kn
        refine lenN (by show 2 ≠ 3; decide) ⟨a, _, rfl, SqT.of ha, lenN (by show 2 ≠ 1; decide) ⟨a, _, rfl, SqT.of ha, lenY rfl ?_⟩⟩
        refine ⟨w, _, T0, rfl, k0, ?_⟩
        cases c : isW "shift" w with
        | true =>
          simp only [formW, c, if_true] at q
          refine iteT ?_
          refine ⟨x, _, rfl, rfl, ?_⟩
          exact ⟨_, rfl, _, rfl, x, -255, 255, T1, rfl, k1, q⟩
        | false =>
          simp only [formW, c] at q
          exact iteF q
      | [w, x, y], ha, px, q =>
        obtain ⟨T0, k0⟩ := (px w (by simp)).kn
        obtain ⟨T1, k1⟩ := (px x (by simp)).kn
        obtain ⟨d2, hd2, _, _, lay2⟩ := px y (by simp)
        refine lenY rfl ?_
        refine ⟨w, _, T0, rfl, k0, ?_⟩
        cases c : isW "paint" w with
        | true =>
          simp only [formW, c, if_true] at q
          refine iteT ?_
          refine ⟨x, _, rfl, y, _, rfl, rfl, ?_⟩
          refine ⟨_, rfl, x, 0, 256, T1, rfl, k1, _, rfl, ?_⟩
          cases c1 : numIn 0 256 x with
          | false =>
            rw [c1, Bool.false_and] at q
            exact iteF q
          | true =>
            rw [c1, Bool.true_and] at q
            refine iteT ?_
            exact ⟨_, rfl, d2, _, ["over", "add", "times"], hd2, lay2, rfl, .inr (T.MODES_.choose_spec.2 H), (by decide +kernel), q⟩
        | false =>
          simp only [formW, c] at q
          refine iteF ?_
          exact ⟨a, _, rfl, SqT.of ha, lenN (by show 3 ≠ 1; decide) ⟨a, _, rfl, SqT.of ha, lenN (by show 3 ≠ 2; decide) q⟩⟩
      | [], ha, px, q =>
        exact lenN (by simp only [List.length_cons, List.length_nil]; omega) ⟨a, _, rfl, SqT.of ha, lenN (by simp only [List.length_cons, List.length_nil]; omega) ⟨a, _, rfl, SqT.of ha, lenN (by simp only [List.length_cons, List.length_nil]; omega) q⟩⟩
      | _ :: _ :: _ :: _ :: _, ha, px, q =>
        exact lenN (by simp only [List.length_cons, List.length_nil]; omega) ⟨a, _, rfl, SqT.of ha, lenN (by simp only [List.length_cons, List.length_nil]; omega) ⟨a, _, rfl, SqT.of ha, lenN (by simp only [List.length_cons, List.length_nil]; omega) q⟩⟩
abbrev s_check_what : Stmt := top 21
theorem sc_check_what : FnScope ["what"] ["what"] (defScope s_check_what) := ⟨rfl, rfl, rfl, by decide +kernel, rfl, by decide +kernel, by decide +kernel⟩
def spChkW (C : Addr) : Sp := fun vs H Q E => ∃ v B n, vs = [v] ∧ DX B n H v ∧ (formWV H v = true → Q .non H) ∧
  ∀ d H', H d = none → Ex H H' → formWV H v = false → H' d = some (errD "BadWhat" v) → E (.ref C) (some d) H'
theorem ok_check_what {f : Addr} {fd : FuncData} (F : Fun K "check_what" "check_what" s_check_what f fd) (T : Txt K mg) {C : Addr} (KB : KindOk P w K mg base "BadWhat" C) (D_has_form_blends : Def P w K mg base CX0 "has_form_blends" 3 ["what"] spFormW) : FnOk P w K mg base (L2.CX P w) 4 f fd ["what"] (spChkW C) := by
  refine F.okX sc_check_what (fun vs H Q E h => ?_) (fun cdv A outer s H vs Q E hr h => ?_)
  · obtain ⟨v, B, n, rfl, _⟩ := h
    rfl
  · obtain ⟨v, B, n, rfl, dx, qN, qE⟩ := h
    obtain ⟨fC, KT, fdC, GC, ⟨ds, hds, bC⟩, bA⟩ := KB
    refine ⟨_, (pss_one (ps_if (pt_not (pt_val (pe_call D_has_form_blends.ok (hr.mono (by decide)) rfl D_has_form_blends.mgf D_has_form_blends.kp D_has_form_blends.b .nil pass0 (pa_cons (pv 0) pa_nil))))
        (pss_one (ps_raise rfl (takes_of rfl rfl rfl rfl) (pmk_oex KT.T KT.iC KT.tI GC (hr.mono (by decide)) bA .nil pass0 rfl KT.g (pa_cons (pv 0) pa_nil))))
        pss_nil)), ?_⟩
    refine ⟨_, rfl, v, B, n, rfl, dx, _, rfl, ?_⟩
    cases c : formWV H v with
    | false =>
      refine iteT ?_
      exact ⟨_, rfl, (by show 1 ≤ 1000; decide), fun b hb => kind_made KT hb fun d H' h1 h2 h3 => qE d H' h1 h2 c h3⟩
    | true => exact iteF (qN c)
abbrev s_are_numbers : Stmt := top 18
theorem sc_are_numbers : FnScope ["items", "many", "most", "item"] ["items", "many", "most"] (defScope s_are_numbers) := ⟨rfl, rfl, rfl, by decide +kernel, rfl, by decide +kernel, by decide +kernel⟩
/-- what is passed: a value of a known kind; the items of a tuple, too -/
def Itm (H : Hp) (v : V) : Prop := (∃ T, Kn H v T) ∧ ∀ a xs, v = .ref a → H a = some (.tup xs) → (∀ x ∈ xs, ∃ T, Kn H x T) ∧ xs.length ≤ 1000
def numsV (H : Hp) (n m : Int) : V → Bool
  | .ref a => match H a with
    | some (.tup xs) => decide ((xs.length : Int) = n) && xs.all (numIn 0 m)
    | _ => false
  | _ => false
theorem numsV_tup {H : Hp} {n m : Int} {a : Addr} {xs : List V} (h : H a = some (.tup xs)) : numsV H n m (.ref a) = (decide ((xs.length : Int) = n) && xs.all (numIn 0 m)) := by
  unfold numsV
  simp only [h]
theorem kn_tup {H : Hp} {v : V} {T : String} (kn : Kn H v T) (c : isA T "tuple" = true) : ∃ a xs, v = .ref a ∧ H a = some (.tup xs) := by
  cases kn with
  | tup h => exact ⟨_, _, rfl, h⟩
  | non => exact absurd c (by decide +kernel)
  | bl b => exact absurd c (by decide +kernel)
  | int i => exact absurd c (by decide +kernel)
  | str x => exact absurd c (by decide +kernel)
  | lst h => exact absurd c (by decide +kernel)
theorem numsV_no {H : Hp} {n m : Int} {v : V} {T : String} (kn : Kn H v T) (c : isA T "tuple" = false) : numsV H n m v = false := by
  cases kn with
  | tup h => exact absurd c (by decide +kernel)
  | non => rfl
  | bl b => rfl
  | int i => rfl
  | str x => rfl
  | lst h =>
    unfold numsV
    simp only [h]
def spNums : Sp := fun vs H Q _ => ∃ v n m, vs = [v, .int n, .int m] ∧ Itm H v ∧ ∀ H', Ex H H' → Q (.bl (numsV H n m v)) H'
theorem ok_are_numbers {f : Addr} {fd : FuncData} (F : Fun K "_are_numbers" "_are_numbers" s_are_numbers f fd) (T : Txt K mg) (D_is_number : Def P w K mg base CX0 "is_number" 2 ["value", "least", "most"] spNumber) : FnOk P w K mg base CX0 3 f fd ["items", "many", "most"] spNums := by
  refine F.ok sc_are_numbers (fun vs H Q E h => ?_) (fun cdv A outer s H vs Q E hr h => ?_)
  · obtain ⟨v, n, m, rfl, _⟩ := h
    rfl
  · obtain ⟨v, n, m, rfl, ⟨⟨T', kn⟩, ki⟩, q⟩ := h
    refine ⟨_, (pss_cons (ps_if (PW.pt (pw_or (pt_not (pt_val (pe_callB (kisi K) (by rfl) T.isinstance_ bt_isinstance (pa_cons (pv 0) (pa_cons (pe_bltn (v := .ty "tuple") (by rfl) T.tuple_ bt_tuple rfl) pa_nil))))) (pw_or1 (pt_cmpR op_ne (pe_callB (klen K) (by rfl) T.len_ PySem.boot_len (pa_cons (pv 0) pa_nil)) (pv 1) (nomark _)))))
        (pss_one (ps_ret pe_bl))
        pss_nil)
      (pss_one (ps_ret (pe_callB (kall K rfl) (by rfl) T.all_ bt_all (pa_cons (pe_lc (own := [("item", 3)]) (tt := tYes) rfl sc_are_numbers.nd (kpiT K (pv 0)) (blkOk_by (N := ["items", "many", "most", "item"]) (sc := defScope s_are_numbers) (by decide +kernel)) (fun _ _ _ _ _ => (pg_name (i := 3) sc_are_numbers.nd rfl (by first | exact Or.inl rfl | exact Or.inr rfl))) (fun _ _ _ _ _ => pts_nil) (fun _ _ _ _ _ => (pe_call D_is_number.ok (hr.mono (by decide)) rfl D_is_number.mgf D_is_number.kp D_is_number.b .nil pass0 (pa_cons (pv 3) (pa_cons pe_int (pa_cons (pv 2) pa_nil)))))) pa_nil))))), ?_⟩
    refine ⟨v, rfl, v, _, _, _, _, rfl, .ty _, kn.ty, kit_ty (kit_tuple kn), _, rfl, ?_⟩
    cases ct : isA T' "tuple" with
    | false =>
      rw [numsV_no kn ct] at q
      refine iteT ?_
      exact iteT (q _ (Ex.refl _))
    | true =>
      obtain ⟨a, xs, rfl, ha⟩ := kn_tup kn ct
      obtain ⟨kx, hxl⟩ := ki a xs rfl ha
      rw [numsV_tup ha] at q
      refine iteF ?_
      refine ⟨_, rfl, a, xs, rfl, .inr (SqT.of ha), _, rfl, rfl, _, rfl, ?_⟩
      by_cases hn : (xs.length : Int) = n
      · have e4 : decide (V.int (xs.length : Int) = V.int n) = true := decide_eq_true (by rw [hn])
        rw [e4]
        rw [decide_eq_true hn, Bool.true_and] at q
        refine iteF ?_
        refine ⟨_, rfl, a, rfl, ⟨xs, SqT.of ha⟩, fun D hD => lc_tup (xs := xs) (fun i H' => Ex H H' ∧ H' D = some (.lst (((xs.take i).map (numIn 0 m)).map V.bl))) ⟨Ex.new hD, upd_same⟩ (fun i H' _ p => SqT.of (p.1 _ _ ha)) ?_ ?_⟩
        · intro i x H' hx p
          refine ⟨rfl, ?_⟩
          refine lcY ?_
          obtain ⟨Tx, kx⟩ := kx x (List.mem_of_getElem? hx)
          refine ⟨x, rfl, _, rfl, x, 0, m, Tx, rfl, kx.mono p.1, ?_⟩
          have hl : (xs.take i).length ≤ 1000 := by rw [List.length_take]; omega
          refine ⟨_, p.2, ?_, p.1.mut hD, ?_⟩
          · rw [List.length_map, List.length_map]
            exact Nat.lt_of_le_of_lt hl (by decide)
          · rw [upd_same, List.take_add_one, hx]
            simp
        · intro H' p
          rw [List.take_length] at p
          refine ⟨D, xs.map (numIn 0 m), rfl, SqL.of p.2, ?_⟩
          have ea : (xs.map (numIn 0 m)).all id = xs.all (numIn 0 m) := by rw [List.all_map]; rfl
          rw [ea]
          exact q _ p.1
      · have e4 : decide (V.int (xs.length : Int) = V.int n) = false := decide_eq_false (fun e => hn (by injection e))
        rw [e4]
        rw [decide_eq_false hn, Bool.false_and] at q
        refine iteT ?_
        exact q _ (Ex.refl _)
abbrev s_check_picture : Stmt := top 17
theorem sc_check_picture : FnScope ["picture", "width", "height", "values", "covers"] ["picture"] (defScope s_check_picture) := ⟨rfl, rfl, rfl, by decide +kernel, rfl, by decide +kernel, by decide +kernel⟩
theorem itm_ints {H : Hp} {a : Addr} {ns : List Int} (h : H a = some (.tup (ns.map V.int))) (hl : ns.length ≤ 1000) : Itm H (.ref a) := by
  refine ⟨⟨_, .tup h⟩, fun b xs e hb => ?_⟩
  cases e
  rw [h] at hb
  cases hb
  refine ⟨fun x hx => ?_, by rw [List.length_map]; exact hl⟩
  obtain ⟨n, _, rfl⟩ := List.mem_map.mp hx
  exact ⟨_, .int n⟩
theorem nums_ints {H : Hp} {a : Addr} {ns : List Int} {n m : Int} (h : H a = some (.tup (ns.map V.int))) (hl : (ns.length : Int) = n) (hb : ∀ v ∈ ns, 0 ≤ v ∧ v ≤ m) : numsV H n m (.ref a) = true := by
  rw [numsV_tup h, List.length_map, decide_eq_true hl, Bool.true_and, List.all_eq_true]
  intro x hx
  obtain ⟨v, hv, rfl⟩ := List.mem_map.mp hx
  show (decide (0 ≤ v) && decide (v ≤ m)) = true
  rw [decide_eq_true (hb v hv).1, decide_eq_true (hb v hv).2]
  rfl
def spCheck (K : PySem.W.Frag) : Sp := fun vs H Q _ => ∃ v p, vs = [v] ∧ PcV H v p ∧ p.Ok 12 ∧ ∀ H', Ex H H' → Q .non H'
theorem ok_check_picture {f : Addr} {fd : FuncData} (F : Fun K "check_picture" "check_picture" s_check_picture f fd) (T : Txt K mg) (D_is_number : Def P w K mg base CX0 "is_number" 2 ["value", "least", "most"] spNumber) (D_are_numbers : Def P w K mg base CX0 "_are_numbers" 3 ["items", "many", "most"] spNums) : FnOk P w K mg base CX0 4 f fd ["picture"] (spCheck K) := by
  refine F.ok sc_check_picture (fun vs H Q E h => ?_) (fun cdv A outer s H vs Q E hr h => ?_)
  · obtain ⟨v, p, rfl, _⟩ := h
    rfl
  · obtain ⟨v, p, rfl, ⟨a, va, ca, rfl, hp, hva, hca⟩, k, q⟩ := h
    refine ⟨_, (pss_cons (ps_if (PW.pt (pw_or (pt_not (pt_val (pe_callB (kisi K) (by rfl) T.isinstance_ bt_isinstance (pa_cons (pv 0) (pa_cons (pe_bltn (v := .ty "tuple") (by rfl) T.tuple_ bt_tuple rfl) pa_nil))))) (pw_or1 (pt_cmpR op_ne (pe_callB (klen K) (by rfl) T.len_ PySem.boot_len (pa_cons (pv 0) pa_nil)) pe_int (nomark _)))))
        (pss_one ps_never)
        pss_nil)
      (pss_cons (ps_asg (pv 0) (kpgT K (n := 4) rfl (pgs_cons (pg_name (i := 1) sc_check_picture.nd rfl (by first | exact Or.inl rfl | exact Or.inr rfl)) (pgs_cons (pg_name (i := 2) sc_check_picture.nd rfl (by first | exact Or.inl rfl | exact Or.inr rfl)) (pgs_cons (pg_name (i := 3) sc_check_picture.nd rfl (by first | exact Or.inl rfl | exact Or.inr rfl)) (pgs_cons (pg_name (i := 4) sc_check_picture.nd rfl (by first | exact Or.inl rfl | exact Or.inr rfl)) pgs_nil))))))
      (pss_cons (ps_if (pt_not (pt_val (pe_call D_is_number.ok (hr.mono (by decide)) rfl D_is_number.mgf D_is_number.kp D_is_number.b .nil pass0 (pa_cons (pv 1) (pa_cons pe_int (pa_cons (pe_glob (v := .int 12) rfl T.PICTURE_SIDE_MOST_.choose_spec ⟨_, rfl⟩) pa_nil))))))
        (pss_one ps_never)
        pss_nil)
      (pss_cons (ps_if (pt_not (pt_val (pe_call D_is_number.ok (hr.mono (by decide)) rfl D_is_number.mgf D_is_number.kp D_is_number.b .nil pass0 (pa_cons (pv 2) (pa_cons pe_int (pa_cons (pe_glob (v := .int 12) rfl T.PICTURE_SIDE_MOST_.choose_spec ⟨_, rfl⟩) pa_nil))))))
        (pss_one ps_never)
        pss_nil)
      (pss_cons (ps_if (pt_not (pt_val (pe_call D_are_numbers.ok (hr.mono (by decide)) rfl D_are_numbers.mgf D_are_numbers.kp D_are_numbers.b .nil pass0 (pa_cons (pv 3) (pa_cons (pe_op op_mul (pv 1) (pv 2)) (pa_cons (pe_glob (v := .int 255) rfl T.VALUE_MOST_.choose_spec ⟨_, rfl⟩) pa_nil))))))
        (pss_one ps_never)
        pss_nil)
      (pss_one (ps_if (pt_not (pt_val (pe_call D_are_numbers.ok (hr.mono (by decide)) rfl D_are_numbers.mgf D_are_numbers.kp D_are_numbers.b .nil pass0 (pa_cons (pv 4) (pa_cons (pe_op op_mul (pv 1) (pv 2)) (pa_cons (pe_glob (v := .int 256) rfl T.COVER_MOST_.choose_spec ⟨_, rfl⟩) pa_nil))))))
        (pss_one ps_never)
        pss_nil))))))), ?_⟩
    have kn := Kn.tup hp
    have := k.area
    have e0 : numIn 1 12 (.int p.w) = true := by
      show (decide (1 ≤ p.w) && decide (p.w ≤ 12)) = true
      rw [decide_eq_true k.w1, decide_eq_true k.w2]
      rfl
    have e1 : numIn 1 12 (.int p.h) = true := by
      show (decide (1 ≤ p.h) && decide (p.h ≤ 12)) = true
      rw [decide_eq_true k.h1, decide_eq_true k.h2]
      rfl
    refine ⟨_, rfl, _, _, _, _, _, rfl, .ty _, kn.ty, kit_ty (kit_tuple kn), _, rfl, ?_⟩
    refine iteF ?_
    refine ⟨_, rfl, a, _, rfl, .inr (SqT.of hp), rfl, _, rfl, ?_⟩
    refine iteF ?_
    refine ⟨_, rfl, a, _, rfl, SqT.of hp, rfl, _, _, rfl, _, _, rfl, _, _, rfl, _, _, rfl, rfl, ?_⟩
    refine ⟨_, rfl, _, _, _, _, rfl, .int _, _, rfl, ?_⟩
    rw [e0]
    refine iteF ?_
    refine ⟨_, rfl, _, _, _, _, rfl, .int _, _, rfl, ?_⟩
    rw [e1]
    refine iteF ?_
    refine ⟨_, rfl, _, rfl, _, rfl, _, _, rfl, rfl, .inl ⟨by have := k.w1; omega, by have := k.w2; omega⟩, _, _, _, rfl, itm_ints hva (by have := k.vl; omega), fun H1 x1 => ⟨_, rfl, ?_⟩⟩
    rw [nums_ints hva k.vl k.vb]
    refine iteF ?_
    refine ⟨_, rfl, _, rfl, _, rfl, _, _, rfl, rfl, .inl ⟨by have := k.w1; omega, by have := k.w2; omega⟩, _, _, _, rfl, itm_ints (x1 _ _ hca) (by have := k.cl; omega), fun H2 x2 => ⟨_, rfl, ?_⟩⟩
    rw [nums_ints (x1 _ _ hca) k.cl k.cb]
    refine iteF ?_
    exact q _ (x1.trans x2)
abbrev s_has_form_paints : Stmt := top 30
theorem sc_has_form_paints : FnScope ["paint", "value", "first", "second", "size", "are_values"] ["paint"] (defScope s_has_form_paints) := ⟨rfl, rfl, rfl, by decide +kernel, rfl, by decide +kernel, by decide +kernel⟩
/-- the items of a paint's tuple, whatever stands there as its picture -/
def formB : List V → Bool
  | [w, x] => if isW "solid" w then numIn 0 255 x else isW "picture" w
  | [w, a, b, c] => if isW "steps" w then (numIn 0 255 a && numIn 0 255 b) && numIn 1 12 c else false
  | _ => false
def formV (H : Hp) : V → Bool
  | .ref a => match H a with
    | some (.tup xs) => formB xs
    | _ => false
  | _ => false
theorem formV_tup {H : Hp} {a : Addr} {xs : List V} (h : H a = some (.tup xs)) : formV H (.ref a) = formB xs := by
  simp only [formV, h]
theorem formV_no {H : Hp} {v : V} {T : String} (k : Kn H v T) (h : isA T "tuple" = false) : formV H v = false := by
  cases k with
  | tup h1 => exact absurd h (by decide +kernel)
  | lst h1 => simp only [formV, h1]
  | _ => rfl
def spFormP (K : PySem.W.Frag) : Sp := fun vs H Q _ => ∃ v m, vs = [v] ∧ Deep m 1 H v ∧ Q (.bl (formV H v)) H
theorem ok_has_form_paints {f : Addr} {fd : FuncData} (F : Fun K "_has_form" "_has_form" s_has_form_paints f fd) (T : Txt K mg) (D_is_number : Def P w K mg base CX0 "is_number" 2 ["value", "least", "most"] spNumber) : FnOk P w K mg base CX0 3 f fd ["paint"] (spFormP K) := by
  refine F.ok sc_has_form_paints (fun vs H Q E h => ?_) (fun cdv A outer s H vs Q E hr h => ?_)
  · obtain ⟨v, m, rfl, _⟩ := h
    rfl
  · obtain ⟨v, m, rfl, dp, q⟩ := h
    obtain ⟨T', kn⟩ := dp.kn
    refine ⟨_, (pss_cons (ps_if (pt_not (pt_val (pe_callB (kisi K) (by rfl) T.isinstance_ bt_isinstance (pa_cons (pv 0) (pa_cons (pe_bltn (v := .ty "tuple") (by rfl) T.tuple_ bt_tuple rfl) pa_nil)))))
        (pss_one (ps_ret pe_bl))
        pss_nil)
      (pss_one (ps_match (pv 0) (pcs_seq K rfl sc_has_form_paints.nd (pms_word hr.units (pms_cap (i := 1) rfl (by first | exact Or.inl rfl | exact Or.inr rfl) pms_nil))
          (pss_one (ps_ret (pe_call D_is_number.ok (hr.mono (by decide)) rfl D_is_number.mgf D_is_number.kp D_is_number.b .nil pass0 (pa_cons (pv 1) (pa_cons pe_int (pa_cons (pe_glob (v := .int 255) rfl T.VALUE_MOST_.choose_spec ⟨_, rfl⟩) pa_nil))))))
          (pcs_seq K rfl sc_has_form_paints.nd (pms_word hr.units (pms_wild pms_nil))
          (pss_one (ps_ret pe_bl))
          (pcs_seq K rfl sc_has_form_paints.nd (pms_word hr.units (pms_cap (i := 2) rfl (by first | exact Or.inl rfl | exact Or.inr rfl) (pms_cap (i := 3) rfl (by first | exact Or.inl rfl | exact Or.inr rfl) (pms_cap (i := 4) rfl (by first | exact Or.inl rfl | exact Or.inr rfl) pms_nil))))
          (pss_cons (ps_set (i := 5) sc_has_form_paints.nd rfl (by first | exact Or.inl rfl | exact Or.inr rfl) (pe_and (pe_call D_is_number.ok (hr.mono (by decide)) rfl D_is_number.mgf D_is_number.kp D_is_number.b .nil pass0 (pa_cons (pv 2) (pa_cons pe_int (pa_cons (pe_glob (v := .int 255) rfl T.VALUE_MOST_.choose_spec ⟨_, rfl⟩) pa_nil)))) (pe_one (pe_call D_is_number.ok (hr.mono (by decide)) rfl D_is_number.mgf D_is_number.kp D_is_number.b .nil pass0 (pa_cons (pv 3) (pa_cons pe_int (pa_cons (pe_glob (v := .int 255) rfl T.VALUE_MOST_.choose_spec ⟨_, rfl⟩) pa_nil)))))))
          (pss_one (ps_ret (pe_and (pv 5) (pe_one (pe_call D_is_number.ok (hr.mono (by decide)) rfl D_is_number.mgf D_is_number.kp D_is_number.b .nil pass0 (pa_cons (pv 4) (pa_cons pe_int (pa_cons (pe_glob (v := .int 12) rfl T.STEP_MOST_.choose_spec ⟨_, rfl⟩) pa_nil)))))))))
          (pcs_else (pss_one (ps_ret pe_bl))))))))), ?_⟩
    refine ⟨v, rfl, v, _, _, _, _, rfl, .ty _, kn.ty, kit_ty (kit_tuple kn), _, rfl, ?_⟩
    cases ct : isA T' "tuple" with
    | false =>
      rw [formV_no kn ct] at q
      exact iteT q
    | true =>
      obtain ⟨a, xs, rfl, ha⟩ := kn.asTup ct
      rw [formV_tup ha] at q
      refine iteF ?_
      have px := (dp.at ha).2
      refine ⟨_, rfl, a, xs, rfl, SqT.of ha, ?_⟩
      match xs, ha, px, q with
      | [w, x], ha, px, q =>
        obtain ⟨T0, k0⟩ := px w (by simp)
        obtain ⟨T1, k1⟩ := px x (by simp)
        refine lenY rfl ?_
        refine ⟨w, _, T0, rfl, k0, ?_⟩
        cases c : isW "solid" w with
        | true =>
          refine iteT ?_
          refine ⟨x, _, rfl, rfl, ?_⟩
          refine ⟨_, rfl, x, 0, 255, T1, rfl, k1, ?_⟩
          simp only [formB, c, if_true] at q
          exact q
        | false =>
          simp only [formB, c] at q
          refine iteF ?_
          refine ⟨a, _, rfl, SqT.of ha, lenY rfl ?_⟩
          refine ⟨w, _, T0, rfl, k0, ?_⟩
          cases c2 : isW "picture" w with
          | true =>
            rw [c2] at q
            refine iteT ?_
            exact ⟨x, _, rfl, rfl, q⟩
          | false =>
            rw [c2] at q
            refine iteF ?_
            exact ⟨a, _, rfl, SqT.of ha, lenN (by show 2 ≠ 4; decide) q⟩
      | [w, x, y, z], ha, px, q =>
        obtain ⟨T0, k0⟩ := px w (by simp)
        obtain ⟨T1, k1⟩ := px x (by simp)
        obtain ⟨T2, k2⟩ := px y (by simp)
        obtain ⟨T3, k3⟩ := px z (by simp)
        refine lenN (by show 4 ≠ 2; decide) ?_
        refine ⟨a, _, rfl, SqT.of ha, lenN (by show 4 ≠ 2; decide) ?_⟩
        refine ⟨a, _, rfl, SqT.of ha, lenY rfl ?_⟩
        refine ⟨w, _, T0, rfl, k0, ?_⟩
        cases c : isW "steps" w with
        | true =>
          simp only [formB, c, if_true] at q
          refine iteT ?_
          refine ⟨x, _, rfl, y, _, rfl, z, _, rfl, rfl, ?_⟩
          refine ⟨_, rfl, x, 0, 255, T1, rfl, k1, _, rfl, ?_⟩
          cases c1 : numIn 0 255 x with
          | false =>
            rw [c1, Bool.false_and, Bool.false_and] at q
            exact iteF ⟨_, rfl, _, rfl, iteF q⟩
          | true =>
            rw [c1, Bool.true_and] at q
            refine iteT ?_
            refine ⟨_, rfl, y, 0, 255, T2, rfl, k2, ?_⟩
            cases c2 : numIn 0 255 y with
            | false =>
              rw [c2, Bool.false_and] at q
              exact ⟨_, rfl, _, rfl, iteF q⟩
            | true =>
              rw [c2, Bool.true_and] at q
              refine ⟨_, rfl, _, rfl, iteT ?_⟩
              exact ⟨_, rfl, z, 1, 12, T3, rfl, k3, q⟩
        | false =>
          simp only [formB, c] at q
          refine iteF ?_
          exact q
      | [], ha, px, q =>
        exact lenN (by simp only [List.length_cons, List.length_nil]; omega) ⟨a, _, rfl, SqT.of ha, lenN (by simp only [List.length_cons, List.length_nil]; omega) ⟨a, _, rfl, SqT.of ha, lenN (by simp only [List.length_cons, List.length_nil]; omega) q⟩⟩
      | [_], ha, px, q =>
        exact lenN (by simp only [List.length_cons, List.length_nil]; omega) ⟨a, _, rfl, SqT.of ha, lenN (by simp only [List.length_cons, List.length_nil]; omega) ⟨a, _, rfl, SqT.of ha, lenN (by simp only [List.length_cons, List.length_nil]; omega) q⟩⟩
      | [_, _, _], ha, px, q =>
        exact lenN (by simp only [List.length_cons, List.length_nil]; omega) ⟨a, _, rfl, SqT.of ha, lenN (by simp only [List.length_cons, List.length_nil]; omega) ⟨a, _, rfl, SqT.of ha, lenN (by simp only [List.length_cons, List.length_nil]; omega) q⟩⟩
      | _ :: _ :: _ :: _ :: _ :: _, ha, px, q =>
        exact lenN (by simp only [List.length_cons, List.length_nil]; omega) ⟨a, _, rfl, SqT.of ha, lenN (by simp only [List.length_cons, List.length_nil]; omega) ⟨a, _, rfl, SqT.of ha, lenN (by simp only [List.length_cons, List.length_nil]; omega) q⟩⟩
theorem pa_deep {H : Hp} {v : V} {p : Pa} (h : PaV H v p) : Deep 4 1 H v := by
  cases p with
  | solid x =>
    obtain ⟨a, rfl, ha⟩ := h
    refine .tup ha (by show 2 ≤ 4; omega) fun y hy => ?_
    simp only [List.mem_cons, List.not_mem_nil, or_false] at hy
    rcases hy with rfl | rfl
    · exact .str
    · exact .int
  | steps f s z =>
    obtain ⟨a, rfl, ha⟩ := h
    refine .tup ha (by show 4 ≤ 4; omega) fun y hy => ?_
    simp only [List.mem_cons, List.not_mem_nil, or_false] at hy
    rcases hy with rfl | rfl | rfl | rfl
    · exact .str
    · exact .int
    · exact .int
    · exact .int
  | pic p =>
    obtain ⟨a, u, rfl, ha, b, va, ca, rfl, hb, _⟩ := h
    refine .tup ha (by show 2 ≤ 4; omega) fun y hy => ?_
    simp only [List.mem_cons, List.not_mem_nil, or_false] at hy
    rcases hy with rfl | rfl
    · exact .str
    · exact ⟨_, .tup hb⟩
theorem pa_form {H : Hp} {v : V} {p : Pa} {m : Int} (h : PaV H v p) (k : p.Ok m) : formV H v = true := by
  have e : ∀ (lo hi i : Int), numIn lo hi (.int i) = (decide (lo ≤ i) && decide (i ≤ hi)) := fun _ _ _ => rfl
  cases p with
  | solid x =>
    obtain ⟨a, rfl, ha⟩ := h
    rw [formV_tup ha]
    show (if isW "solid" (.str "solid") = true then numIn 0 255 (.int x) else isW "picture" (.str "solid")) = true
    rw [show isW "solid" (.str "solid") = true from by decide +kernel, if_pos rfl, e, decide_eq_true k.1, decide_eq_true k.2]
    rfl
  | steps f s z =>
    obtain ⟨a, rfl, ha⟩ := h
    obtain ⟨k1, k2, k3, k4, k5, k6⟩ := k
    rw [formV_tup ha]
    show (if isW "steps" (.str "steps") = true then (numIn 0 255 (.int f) && numIn 0 255 (.int s)) && numIn 1 12 (.int z) else false) = true
    rw [show isW "steps" (.str "steps") = true from by decide +kernel, if_pos rfl, e, e, e, decide_eq_true k1, decide_eq_true k2, decide_eq_true k3, decide_eq_true k4, decide_eq_true k5, decide_eq_true k6]
    rfl
  | pic p =>
    obtain ⟨a, u, rfl, ha, hu⟩ := h
    rw [formV_tup ha]
    show (if isW "solid" (.str "picture") = true then numIn 0 255 u else isW "picture" (.str "picture")) = true
    rw [show isW "solid" (.str "picture") = false from by decide +kernel, if_neg (by decide), show isW "picture" (.str "picture") = true from by decide +kernel]
abbrev s_is_name : Stmt := top 28
theorem sc_is_name : FnScope ["value", "letter"] ["value"] (defScope s_is_name) := ⟨rfl, rfl, rfl, by decide +kernel, rfl, by decide +kernel, by decide +kernel⟩
def spIsName : Sp := fun vs H Q _ => ∃ v T, vs = [v] ∧ Kn H v T ∧ (∀ z, v = .str z → z.length ≤ 1000) ∧ ∀ H', Ex H H' → Q (.bl (nameV v)) H'
theorem ok_is_name {f : Addr} {fd : FuncData} (F : Fun K "is_name" "is_name" s_is_name f fd) (T : Txt K mg) : FnOk P w K mg base CX0 1 f fd ["value"] spIsName := by
  refine F.ok sc_is_name (fun vs H Q E h => ?_) (fun cdv A outer s H vs Q E hr h => ?_)
  · obtain ⟨v, T, rfl, _⟩ := h
    rfl
  · obtain ⟨v, T', rfl, kn, hz, q⟩ := h
    refine ⟨_, (pss_cons (ps_if (PW.pt (pw_or (pt_not (pt_val (pe_callB (kisi K) (by rfl) T.isinstance_ bt_isinstance (pa_cons (pv 0) (pa_cons (pe_bltn (v := .ty "str") (by rfl) T.str_ bt_str rfl) pa_nil))))) (pw_or1 (pt_not (pt_chain op_le op_le pe_int (pe_callB call_len_str (by rfl) T.len_ PySem.boot_len (pa_cons (pv 0) pa_nil)) (pe_glob (v := .int 8) rfl T.NAME_MOST_.choose_spec ⟨_, rfl⟩))))))
        (pss_one (ps_ret pe_bl))
        pss_nil)
      (pss_one (ps_ret (pe_callB (kall K rfl) (by rfl) T.all_ bt_all (pa_cons (pe_lc (own := [("letter", 1)]) (tt := tYes) rfl sc_is_name.nd (pi_str (pv 0)) (blkOk_by (N := ["value", "letter"]) (sc := defScope s_is_name) (by decide +kernel)) (fun _ _ _ _ _ => (pg_name (i := 1) sc_is_name.nd rfl (by first | exact Or.inl rfl | exact Or.inr rfl))) (fun _ _ _ _ _ => pts_nil) (fun _ _ _ _ _ => (pe_cmpR op_in_sign (pv 1) (pe_glob (v := .str "abcdefghijklmnopqrstuvwxyz") rfl T.LETTERS_.choose_spec ⟨_, rfl⟩) (by rfl)))) pa_nil))))), ?_⟩
    refine ⟨v, rfl, v, _, _, _, _, rfl, .ty _, kn.ty, kit_ty (kit_str kn), _, rfl, ?_⟩
    cases ct : isA T' "str" with
    | false =>
      have e : nameV v = false := by
        cases kn with
        | str x => exact absurd ct (by decide +kernel)
        | _ => rfl
      rw [e] at q
      exact iteT (iteT (q _ (Ex.refl _)))
    | true =>
      obtain ⟨z, rfl⟩ : ∃ z, v = .str z := by
        cases kn with
        | str x => exact ⟨_, rfl⟩
        | non => exact absurd ct (by decide +kernel)
        | bl b => exact absurd ct (by decide +kernel)
        | int i => exact absurd ct (by decide +kernel)
        | tup h => exact absurd ct (by decide +kernel)
        | lst h => exact absurd ct (by decide +kernel)
      have hz := hz z rfl
      refine iteF ?_
      refine ⟨_, rfl, z, rfl, Nat.le_of_lt (slineL (by omega)), _, _, rfl, rfl, _, rfl, ?_⟩
      have e : nameV (.str z) = ((decide (1 ≤ (z.length : Int)) && decide ((z.length : Int) ≤ 8)) && z.cps.toList.all fun c => decide (c ∈ letters)) := rfl
      rw [e] at q
      cases c1 : decide (1 ≤ (z.length : Int)) with
      | false =>
        rw [c1] at q
        exact iteF ⟨_, rfl, iteT (q _ (Ex.refl _))⟩
      | true =>
        rw [c1, Bool.true_and] at q
        refine iteT ?_
        refine ⟨_, _, rfl, rfl, ?_⟩
        by_cases e8 : (z.length : Int) ≤ 8
        · rw [decide_eq_true e8, Bool.true_and] at q
          refine ⟨_, rfl, iteDn e8 ?_⟩
          refine ⟨_, rfl, z, rfl, fun D hD => ?_⟩
          refine lc_it (walk_str (z := z)) (fun i H' => Ex H H' ∧ H' D = some (.lst (((z.cps.toList.take i).map fun c => decide (c ∈ letters)).map V.bl))) ⟨Ex.new hD, upd_same⟩ (fun _ _ _ _ => trivial) ?_ ?_
          · rintro i x H1 H' hi ⟨e, hA⟩ ⟨rfl, c, hc, rfl⟩
            refine ⟨rfl, ?_⟩
            refine lcY ?_
            refine ⟨_, rfl, c, _, rfl, rfl, ?_⟩
            have hl : (z.cps.toList.take i).length ≤ 8 := by
              have : z.cps.toList.length = z.length := Array.length_toList
              rw [List.length_take]
              omega
            refine ⟨_, hA, slineL (by rw [List.length_map, List.length_map]; omega), e.mut hD, ?_⟩
            have hc' : z.cps.toList[i]? = some c := by rw [Array.getElem?_toList]; exact hc
            rw [upd_same, List.take_add_one, hc']
            rw [List.map_append, List.map_append]
            rfl
          · rintro H' ⟨e, hA⟩
            have len : z.cps.toList.length = z.cps.size := Array.length_toList
            rw [← len, List.take_length] at hA
            refine ⟨D, _, rfl, SqL.of hA, ?_⟩
            rw [List.all_map]
            exact q _ e
        · rw [decide_eq_false e8] at q
          exact ⟨_, rfl, iteNn e8 (q _ (Ex.refl _))⟩
abbrev s_adjusts : Stmt := top 58
theorem sc_adjusts : FnScope ["what"] ["what"] (defScope s_adjusts) := ⟨rfl, rfl, rfl, by decide +kernel, rfl, by decide +kernel, by decide +kernel⟩
def spAdj (K : PySem.W.Frag) : Sp := fun vs H Q _ => ∃ (v : V) (x : Wh), vs = [v] ∧ WhV H v x ∧ Q (.bl x.adj) H
theorem ok_adjusts {f : Addr} {fd : FuncData} (F : Fun K "_adjusts" "_adjusts" s_adjusts f fd) (T : Txt K mg) : FnOk P w K mg base CX0 1 f fd ["what"] (spAdj K) := by
  refine F.ok sc_adjusts (fun vs H Q E h => ?_) (fun cdv A outer s H vs Q E hr h => ?_)
  · obtain ⟨v, x, rfl, _⟩ := h
    rfl
  · obtain ⟨v, x, rfl, ⟨a, rfl, ha⟩, q⟩ := h
    refine ⟨_, (pss_one (ps_ret (pe_cmpR op_ne (pe_ix (kixT K) (pv 0) pe_int (fun _ _ => rfl)) pe_str (nomark _)))), ?_⟩
    refine ⟨_, rfl, a, _, 0, _, rfl, rfl, SqT.of ha, x.at0, rfl, ?_⟩
    rw [← x.adj_eq] at q
    exact q
def inI : V → Int
  | .int i => i
  | _ => 0
def isNon : V → Bool
  | .non => true
  | _ => false
def fC (s n fi fo : V) : Bool := (numIn 0 10000 s && numIn 1 10000 n) && (numIn 0 (inI n) fi && numIn 0 (inI n - inI fi) fo)
def bCl (p fi fo : V) : Bool := isNon p && (decide (inI fi = 0) && decide (inI fo = 0))
/-- a clip that may stand behind lo -/
def cOk (H : Hp) (ad : Bool) (lo : Int) : V → Bool
  | .ref a => match H a with
    | some (.tup [s, n, p, fi, fo]) => fC s n fi fo && ((!ad || bCl p fi fo) && decide (lo ≤ inI s))
    | _ => false
  | _ => false
def cEn (H : Hp) : V → Int
  | .ref a => match H a with
    | some (.tup (s :: n :: _)) => inI s + inI n
    | _ => 0
  | _ => 0
theorem cOk_ex {H H' : Hp} {ad : Bool} {lo : Int} {v : V} {T : String} (e : Ex H H') (k : Kn H v T) : cOk H' ad lo v = cOk H ad lo v ∧ cEn H' v = cEn H v := by
  cases k with
  | tup h1 => simp only [cOk, cEn, h1, e _ _ h1, and_self]
  | lst h1 => simp only [cOk, cEn, h1, e _ _ h1, and_self]
  | _ => exact ⟨rfl, rfl⟩
def leaC (H : Hp) (xs : List V) : Nat → Int
  | 0 => 0
  | k + 1 => cEn H (xs.getD k .non)
def BadC (H : Hp) (ad : Bool) (xs : List V) : Option Nat → Prop
  | none => ∀ k x, xs[k]? = some x → cOk H ad (leaC H xs k) x = true
  | some k => ∃ x, xs[k]? = some x ∧ cOk H ad (leaC H xs k) x = false ∧ ∀ j < k, ∀ y, xs[j]? = some y → cOk H ad (leaC H xs j) y = true
theorem BadC.uniq {H : Hp} {ad : Bool} {xs : List V} {o p : Option Nat} (h : BadC H ad xs o) (k : BadC H ad xs p) : o = p := by
  have key : ∀ {i j : Nat}, BadC H ad xs (some i) → BadC H ad xs (some j) → ¬ i < j := fun {i j} ⟨x, hx, h1, _⟩ ⟨y, hy, _, k2⟩ lt => by
    have := k2 i lt x hx
    rw [h1] at this
    cases this
  cases o with
  | none =>
    cases p with
    | none => rfl
    | some j =>
      obtain ⟨y, hy, k1, _⟩ := k
      have := h j y hy
      rw [k1] at this
      cases this
  | some i =>
    cases p with
    | none =>
      obtain ⟨x, hx, h1, _⟩ := h
      have := k i x hx
      rw [h1] at this
      cases this
    | some j =>
      have a := key h k
      have b := key k h
      congr 1
      omega
/-- an item that is passed as a clip -/
def CW (H : Hp) (ad : Bool) (v : V) : Prop := Deep 400 1 H v ∧ (ad = false → ∀ a s n p fi fo, v = .ref a → H a = some (.tup [s, n, p, fi, fo]) → fC s n fi fo = true → ∃ q : Pa, PaV H p q ∧ q.Ok 12)
theorem CW.ex {H H' : Hp} {ad : Bool} {v : V} (e : Ex H H') (h : CW H ad v) : CW H' ad v := by
  refine ⟨h.1.ex e, fun ha a s n p fi fo ev hv f => ?_⟩
  obtain ⟨T, k⟩ := h.1.kn
  subst ev
  cases k with
  | tup h1 =>
    have h2 := h1
    rw [e _ _ h1] at hv
    cases hv
    obtain ⟨q, hq, ok⟩ := h.2 ha a s n p fi fo rfl h2 f
    exact ⟨q, hq.tk (TK.ex e), ok⟩
  | lst h1 =>
    rw [e _ _ h1] at hv
    cases hv
def Ws (H : Hp) (ad : Bool) (v : V) : Prop := (∃ T, Kn H v T) ∧ ∀ a xs, v = .ref a → H a = some (.tup xs) → ∀ x ∈ xs, CW H ad x
theorem Ws.ex {H H' : Hp} {ad : Bool} {v : V} (e : Ex H H') (h : Ws H ad v) : Ws H' ad v := by
  obtain ⟨⟨T, k⟩, q⟩ := h
  refine ⟨⟨T, k.mono e⟩, fun a xs ev hv x hx => ?_⟩
  subst ev
  cases k with
  | tup h1 =>
    have h2 := h1
    rw [e _ _ h1] at hv
    cases hv
    exact (q a xs rfl h2 x hx).ex e
  | lst h1 =>
    rw [e _ _ h1] at hv
    cases hv
theorem leaC_ex {H H' : Hp} {xs : List V} (e : Ex H H') (h : ∀ x ∈ xs, ∃ T, Kn H x T) (k : Nat) : leaC H' xs k = leaC H xs k := by
  cases k with
  | zero => rfl
  | succ k =>
    show cEn H' _ = cEn H _
    by_cases hk : k < xs.length
    · rw [List.getD_eq_getElem?_getD, List.getElem?_eq_getElem hk]
      obtain ⟨T, kn⟩ := h _ (List.getElem_mem hk)
      rw [Option.getD_some, (cOk_ex (ad := true) (lo := 0) e kn).2]
    · rw [List.getD_eq_getElem?_getD, List.getElem?_eq_none (by omega)]
      rfl
theorem BadC.ex {H H' : Hp} {ad : Bool} {xs : List V} (e : Ex H H') (h : ∀ x ∈ xs, ∃ T, Kn H x T) {o : Option Nat} (b : BadC H ad xs o) : BadC H' ad xs o := by
  have same : ∀ k x, xs[k]? = some x → cOk H' ad (leaC H' xs k) x = cOk H ad (leaC H xs k) x := fun k x hx => by
    obtain ⟨T, kn⟩ := h _ (List.mem_of_getElem? hx)
    rw [leaC_ex e h k, (cOk_ex e kn).1]
  cases o with
  | none => exact fun k x hx => by rw [same k x hx]; exact b k x hx
  | some k =>
    obtain ⟨x, hx, h1, h2⟩ := b
    exact ⟨x, hx, by rw [same k x hx]; exact h1, fun j hj y hy => by rw [same j y hy]; exact h2 j hj y hy⟩
def spEnd27 (K : PySem.W.Frag) : Sp := fun vs H Q _ => ∃ (a : Addr) (s n : Int) (p x y : V), vs = [.ref a] ∧ H a = some (.tup [.int s, .int n, p, x, y]) ∧ Q (.int (s + n)) H
abbrev s_has_form_clips : Stmt := top 38
theorem sc_has_form_clips : FnScope ["clip", "start", "length", "_", "fade_in", "fade_out"] ["clip"] (defScope s_has_form_clips) := ⟨rfl, rfl, rfl, by decide +kernel, rfl, by decide +kernel, by decide +kernel⟩
def formCV (H : Hp) : V → Bool
  | .ref a => match H a with
    | some (.tup [s, n, p, fi, fo]) => fC s n fi fo
    | _ => false
  | _ => false
theorem formCV_tup {H : Hp} {a : Addr} {s n p fi fo : V} (h : H a = some (.tup [s, n, p, fi, fo])) : formCV H (.ref a) = fC s n fi fo := by
  simp only [formCV, h]
theorem formCV_len {H : Hp} {a : Addr} {xs : List V} (h : H a = some (.tup xs)) (hl : xs.length ≠ 5) : formCV H (.ref a) = false := by
  match xs, hl with
  | [], _ => simp only [formCV, h]
  | [_], _ => simp only [formCV, h]
  | [_, _], _ => simp only [formCV, h]
  | [_, _, _], _ => simp only [formCV, h]
  | [_, _, _, _], _ => simp only [formCV, h]
  | [_, _, _, _, _], hl => exact absurd rfl hl
  | _ :: _ :: _ :: _ :: _ :: _ :: _, _ => simp only [formCV, h]
theorem formCV_no {H : Hp} {v : V} {T : String} (k : Kn H v T) (h : isA T "tuple" = false) : formCV H v = false := by
  cases k with
  | tup h1 => exact absurd h (by decide +kernel)
  | lst h1 => simp only [formCV, h1]
  | _ => rfl
def spFormC : Sp := fun vs H Q _ => ∃ v m, vs = [v] ∧ Deep m 1 H v ∧ Q (.bl (formCV H v)) H
theorem ok_has_form_clips {f : Addr} {fd : FuncData} (F : Fun K "_has_form" "_has_form" s_has_form_clips f fd) (T : Txt K mg) (D_is_number : Def P w K mg base CX0 "is_number" 2 ["value", "least", "most"] spNumber) : FnOk P w K mg base CX0 3 f fd ["clip"] spFormC := by
  refine F.ok sc_has_form_clips (fun vs H Q E h => ?_) (fun cdv A outer s H vs Q E hr h => ?_)
  · obtain ⟨v, m, rfl, _⟩ := h
    rfl
  · obtain ⟨v, m, rfl, dp, q⟩ := h
    obtain ⟨T', kn⟩ := dp.kn
    refine ⟨_, (pss_cons (ps_if (PW.pt (pw_or (pt_not (pt_val (pe_callB (kisi K) (by rfl) T.isinstance_ bt_isinstance (pa_cons (pv 0) (pa_cons (pe_bltn (v := .ty "tuple") (by rfl) T.tuple_ bt_tuple rfl) pa_nil))))) (pw_or1 (pt_cmpR op_ne (pe_callB (klen K) (by rfl) T.len_ PySem.boot_len (pa_cons (pv 0) pa_nil)) pe_int (nomark _)))))
        (pss_one (ps_ret pe_bl))
        pss_nil)
      (pss_cons (ps_asg (pv 0) (kpgT K (n := 5) rfl (pgs_cons (pg_name (i := 1) sc_has_form_clips.nd rfl (by first | exact Or.inl rfl | exact Or.inr rfl)) (pgs_cons (pg_name (i := 2) sc_has_form_clips.nd rfl (by first | exact Or.inl rfl | exact Or.inr rfl)) (pgs_cons (pg_name (i := 3) sc_has_form_clips.nd rfl (by first | exact Or.inl rfl | exact Or.inr rfl)) (pgs_cons (pg_name (i := 4) sc_has_form_clips.nd rfl (by first | exact Or.inl rfl | exact Or.inr rfl)) (pgs_cons (pg_name (i := 5) sc_has_form_clips.nd rfl (by first | exact Or.inl rfl | exact Or.inr rfl)) pgs_nil)))))))
      (pss_cons (ps_if (PW.pt (pw_or (pt_not (pt_val (pe_call D_is_number.ok (hr.mono (by decide)) rfl D_is_number.mgf D_is_number.kp D_is_number.b .nil pass0 (pa_cons (pv 1) (pa_cons pe_int (pa_cons (pe_glob (v := .int 10000) rfl T.START_MOST_.choose_spec ⟨_, rfl⟩) pa_nil)))))) (pw_or1 (pt_not (pt_val (pe_call D_is_number.ok (hr.mono (by decide)) rfl D_is_number.mgf D_is_number.kp D_is_number.b .nil pass0 (pa_cons (pv 2) (pa_cons pe_int (pa_cons (pe_glob (v := .int 10000) rfl T.LENGTH_MOST_.choose_spec ⟨_, rfl⟩) pa_nil)))))))))
        (pss_one (ps_ret pe_bl))
        pss_nil)
      (pss_one (ps_ret (pe_and (pe_call D_is_number.ok (hr.mono (by decide)) rfl D_is_number.mgf D_is_number.kp D_is_number.b .nil pass0 (pa_cons (pv 4) (pa_cons pe_int (pa_cons (pv 2) pa_nil)))) (pe_one (pe_call D_is_number.ok (hr.mono (by decide)) rfl D_is_number.mgf D_is_number.kp D_is_number.b .nil pass0 (pa_cons (pv 5) (pa_cons pe_int (pa_cons (pe_op op_sub (pv 2) (pv 4)) pa_nil))))))))))), ?_⟩
    refine ⟨v, rfl, v, _, _, _, _, rfl, .ty _, kn.ty, kit_ty (kit_tuple kn), _, rfl, ?_⟩
    cases ct : isA T' "tuple" with
    | false =>
      rw [formCV_no kn ct] at q
      exact iteT (iteT q)
    | true =>
      obtain ⟨a, xs, rfl, ha⟩ := kn.asTup ct
      have px := (dp.at ha).2
      refine iteF ?_
      refine ⟨_, rfl, a, xs, rfl, .inr (SqT.of ha), rfl, _, rfl, ?_⟩
      by_cases h5 : xs.length = 5
      · refine iteDn (congrArg V.int (by omega)) ?_
        match xs, h5, ha, px with
        | [s, n, p, fi, fo], _, ha, px =>
          rw [formCV_tup ha] at q
          obtain ⟨T0, k0⟩ := px s (by simp)
          obtain ⟨T1, k1⟩ := px n (by simp)
          obtain ⟨T3, k3⟩ := px fi (by simp)
          obtain ⟨T4, k4⟩ := px fo (by simp)
          unfold fC at q
          refine ⟨_, rfl, a, _, rfl, SqT.of ha, rfl, _, _, rfl, _, _, rfl, _, _, rfl, _, _, rfl, _, _, rfl, rfl, ?_⟩
          refine ⟨_, rfl, s, 0, 10000, T0, rfl, k0, _, rfl, ?_⟩
          cases c0 : numIn 0 10000 s with
          | false =>
            rw [c0, Bool.false_and, Bool.false_and] at q
            exact iteT (iteT q)
          | true =>
            rw [c0, Bool.true_and] at q
            refine iteF ?_
            refine ⟨_, rfl, n, 1, 10000, T1, rfl, k1, _, rfl, ?_⟩
            cases c1 : numIn 1 10000 n with
            | false =>
              rw [c1, Bool.false_and] at q
              exact iteT q
            | true =>
              rw [c1, Bool.true_and] at q
              refine iteF ?_
              cases n with
              | int b =>
                refine ⟨_, rfl, _, rfl, fi, 0, b, T3, rfl, k3, _, rfl, ?_⟩
                cases c3 : numIn 0 b fi with
                | false =>
                  have c3' : numIn 0 (inI (.int b)) fi = false := c3
                  rw [c3', Bool.false_and] at q
                  exact iteF q
                | true =>
                  have c3' : numIn 0 (inI (.int b)) fi = true := c3
                  rw [c3', Bool.true_and] at q
                  refine iteT ?_
                  cases fi with
                  | int c => exact ⟨_, rfl, _, rfl, _, rfl, _, _, rfl, rfl, fo, 0, b - c, T4, rfl, k4, q⟩
                  | _ => cases c3
              | _ => cases c1
      · rw [formCV_len ha h5] at q
        exact iteNn (fun z => h5 (by have := V.int.inj z; omega)) q
abbrev s_is_bare : Stmt := top 40
theorem sc_is_bare : FnScope ["clip"] ["clip"] (defScope s_is_bare) := ⟨rfl, rfl, rfl, by decide +kernel, rfl, by decide +kernel, by decide +kernel⟩
theorem isNon_dec {v : V} : isNon v = decide (v = .non) := by
  cases v with
  | non => rfl
  | _ => exact (decide_eq_false (fun e => by cases e)).symm
def spBare (K : PySem.W.Frag) : Sp := fun vs H Q _ => ∃ a s n p c d, vs = [.ref a] ∧ H a = some (.tup [s, n, p, .int c, .int d]) ∧ Q (.bl (bCl p (.int c) (.int d))) H
theorem ok_is_bare {f : Addr} {fd : FuncData} (F : Fun K "_is_bare" "_is_bare" s_is_bare f fd) (T : Txt K mg) : FnOk P w K mg base CX0 1 f fd ["clip"] (spBare K) := by
  refine F.ok sc_is_bare (fun vs H Q E h => ?_) (fun cdv A outer s H vs Q E hr h => ?_)
  · obtain ⟨a, s, n, p, c, d, rfl, _⟩ := h
    rfl
  · obtain ⟨a, s, n, p, c, d, rfl, ha, q⟩ := h
    refine ⟨_, (pss_one (ps_ret (pe_and (pe_cmpR op_isN (pe_ix (kixT K) (pv 0) pe_int (fun _ _ => rfl)) pe_non (nomark _)) (pe_and (pe_cmpR op_eq (pe_ix (kixT K) (pv 0) pe_int (fun _ _ => rfl)) pe_int (nomark _)) (pe_one (pe_cmpR op_eq (pe_ix (kixT K) (pv 0) pe_int (fun _ _ => rfl)) pe_int (nomark _))))))), ?_⟩
    refine ⟨_, rfl, a, _, 2, p, rfl, rfl, SqT.of ha, rfl, rfl, _, rfl, ?_⟩
    unfold bCl at q
    rw [isNon_dec] at q
    refine ite2 (fun c1 => ?_) (fun c1 => ?_)
    · rw [c1, Bool.true_and] at q
      refine ⟨_, rfl, a, _, 3, _, rfl, rfl, SqT.of ha, rfl, rfl, _, rfl, ?_⟩
      have e3 : decide (inI (.int c) = 0) = decide (V.int c = V.int 0) := decide_eq_decide.mpr ⟨fun e => congrArg V.int e, fun e => V.int.inj e⟩
      rw [e3] at q
      refine ite2 (fun c2 => ?_) (fun c2 => ?_)
      · rw [c2, Bool.true_and] at q
        refine ⟨_, rfl, a, _, 4, _, rfl, rfl, SqT.of ha, rfl, rfl, ?_⟩
        have e4 : decide (inI (.int d) = 0) = decide (V.int d = V.int 0) := decide_eq_decide.mpr ⟨fun e => congrArg V.int e, fun e => V.int.inj e⟩
        rw [e4] at q
        exact q
      · rw [eq_false_of_ne_true c2, Bool.false_and] at q
        exact q
    · rw [eq_false_of_ne_true c1, Bool.false_and] at q
      exact q
abbrev s_end_of : Stmt := top 37
theorem sc_end_of : FnScope ["clip"] ["clip"] (defScope s_end_of) := ⟨rfl, rfl, rfl, by decide +kernel, rfl, by decide +kernel, by decide +kernel⟩
theorem ok_end_of {f : Addr} {fd : FuncData} (F : Fun K "end_of" "end_of" s_end_of f fd) (T : Txt K mg) : FnOk P w K mg base CX0 1 f fd ["clip"] (spEnd27 K) := by
  refine F.ok sc_end_of (fun vs H Q E h => ?_) (fun cdv A outer s H vs Q E hr h => ?_)
  · obtain ⟨a, s, n, p, x, y, rfl, _⟩ := h
    rfl
  · obtain ⟨a, s, n, p, x, y, rfl, ha, q⟩ := h
    refine ⟨_, (pss_one (ps_ret (pe_op op_add (pe_ix (kixT K) (pv 0) pe_int (fun _ _ => rfl)) (pe_ix (kixT K) (pv 0) pe_int (fun _ _ => rfl))))), ?_⟩
    exact ⟨_, rfl, a, _, 0, _, rfl, rfl, SqT.of ha, rfl, _, rfl, a, _, 1, _, rfl, rfl, SqT.of ha, rfl, _, _, rfl, rfl, q⟩
theorem mvs_deep {H : Hp} {p : Addr} {us : List V} {ms : List Mv} (hU : H p = some (.tup us)) (hM : MvsV H us ms) (l : ms.length ≤ 16) : Deep 17 2 H (.ref p) := by
  have hul := hM.length
  refine .tup hU (by omega) fun x hx => ?_
  obtain ⟨j, hj⟩ := List.getElem?_of_mem hx
  obtain ⟨m, _, pp, rfl, hp⟩ := pr_get hM hj
  refine .tup hp (by show 3 ≤ 17; omega) fun y hy => ?_
  simp only [List.mem_cons, List.not_mem_nil, or_false] at hy
  rcases hy with rfl | rfl | rfl <;> exact .int
theorem mvs_good {H : Hp} {p : Addr} {us : List V} {ms : List Mv} (hU : H p = some (.tup us)) (hM : MvsV H us ms) (hA : MAsc ms) (kM : ∀ m ∈ ms, m.Ok ∧ m.f ≤ 1000) (l : ms.length ≤ 16) : MvOut H (.ref p) none := by
  have hul := hM.length
  refine ⟨p, us, rfl, hU, by omega, fun k x hx => ?_⟩
  obtain ⟨m, hm, pp, rfl, hp⟩ := pr_get hM hx
  obtain ⟨ok, f1⟩ := kM m (List.mem_of_getElem? hm)
  have lo : lea H us k ≤ m.f := by
    cases k with
    | zero => exact ok.f0
    | succ k =>
      have hk : k < us.length := by
        have := (List.getElem?_eq_some_iff.mp hx).1
        omega
      have hx' : us[k]? = some us[k] := List.getElem?_eq_getElem hk
      show frOf H (us.getD k .non) + 1 ≤ m.f
      rw [List.getD_eq_getElem?_getD, hx', Option.getD_some]
      generalize us[k] = y at hx'
      obtain ⟨m', hm', pp', rfl, hp'⟩ := pr_get hM hx'
      have := asc_le hA hm' hm (Nat.lt_succ_self k)
      simp only [frOf, hp']
      omega
  rw [ptOk_tup hp]
  have e : ∀ (lo hi i : Int), numIn lo hi (.int i) = (decide (lo ≤ i) && decide (i ≤ hi)) := fun _ _ _ => rfl
  rw [e, e, e, decide_eq_true lo, decide_eq_true f1, decide_eq_true ok.a0, decide_eq_true ok.a1, decide_eq_true ok.d0, decide_eq_true ok.d1]
  rfl
theorem num_in' {lo hi i : Int} (h1 : lo ≤ i) (h2 : i ≤ hi) : numIn lo hi (.int i) = true := by
  show (decide (lo ≤ i) && decide (i ≤ hi)) = true
  rw [decide_eq_true h1, decide_eq_true h2]
  rfl
def boxB (H : Hp) : V → Bool
  | .ref a => match H a with
    | some (.tup [l, t, w, h]) => (numIn (-1000) 1000 l && numIn (-1000) 1000 t) && (numIn 1 64 w && numIn 1 64 h)
    | _ => false
  | _ => false
theorem boxB_tup {H : Hp} {a : Addr} {l t w h : V} (e : H a = some (.tup [l, t, w, h])) : boxB H (.ref a) = ((numIn (-1000) 1000 l && numIn (-1000) 1000 t) && (numIn 1 64 w && numIn 1 64 h)) := by
  simp only [boxB, e]
theorem boxB_len {H : Hp} {a : Addr} {xs : List V} (h : H a = some (.tup xs)) (hl : xs.length ≠ 4) : boxB H (.ref a) = false := by
  match xs, hl with
  | [], _ => simp only [boxB, h]
  | [_], _ => simp only [boxB, h]
  | [_, _], _ => simp only [boxB, h]
  | [_, _, _], _ => simp only [boxB, h]
  | [_, _, _, _], hl => exact absurd rfl hl
  | _ :: _ :: _ :: _ :: _ :: _, _ => simp only [boxB, h]
theorem boxB_no {H : Hp} {v : V} {T : String} (k : Kn H v T) (h : isA T "tuple" = false) : boxB H v = false := by
  cases k with
  | tup h1 => exact absurd h (by decide +kernel)
  | lst h1 => simp only [boxB, h1]
  | _ => rfl
theorem boxB_ex {H H' : Hp} {v : V} {T : String} (e : Ex H H') (k : Kn H v T) : boxB H' v = boxB H v := by
  cases k with
  | tup h1 => simp only [boxB, h1, e _ _ h1]
  | lst h1 => simp only [boxB, h1, e _ _ h1]
  | _ => rfl
theorem box_deep {H : Hp} {v : V} {b : Bx} (h : BxV H v b) : Deep 6 1 H v := by
  obtain ⟨a, rfl, ha⟩ := h
  refine .tup ha (by show 4 ≤ 6; omega) fun y hy => ?_
  simp only [List.mem_cons, List.not_mem_nil, or_false] at hy
  rcases hy with rfl | rfl | rfl | rfl <;> exact .int
theorem box_good {H : Hp} {v : V} {b : Bx} (h : BxV H v b) (k : b.Vd) : boxB H v = true := by
  obtain ⟨a, rfl, ha⟩ := h
  rw [boxB_tup ha, num_in' k.l0 k.l1, num_in' k.t0 k.t1, num_in' k.w0 k.w1, num_in' k.h0 k.h1]
  rfl
inductive LK
  | layer | moves | what | clip | paint
/-- a good name and a good box -/
def PreV (H : Hp) (n b : V) : Prop := ∃ (z : Str) (bx : Bx), n = .str z ∧ nameS z = true ∧ BxV H b bx ∧ bx.Vd
def BareBad (H : Hp) (c : V) : Prop := ∃ ca cl pv, c = .ref ca ∧ H ca = some (.tup [.ref cl]) ∧ H cl = some (.tup [.int 0, .int 5, .ref pv, .int 0, .int 0]) ∧ H pv = some (.tup [.str "solid", .int 1])
def PaintBad (H : Hp) (c : V) : Prop := ∃ ca cl pv, c = .ref ca ∧ H ca = some (.tup [.ref cl]) ∧ H cl = some (.tup [.int 0, .int 5, .ref pv, .int 0, .int 0]) ∧ H pv = some (.tup [.str "solid", .int 256])
def MvsG (H : Hp) (m : V) : Prop := ∃ ma us ms, m = .ref ma ∧ H ma = some (.tup us) ∧ MvsV H us ms ∧ MvsVd ms
def LyBad (H : Hp) (v : V) : LK → Prop
  | .layer => (∃ T, Kn H v T ∧ isA T "tuple" = false) ∨ (∃ a xs, v = .ref a ∧ H a = some (.tup xs) ∧ xs.length ≠ 5) ∨ ∃ a n b m w c T, v = .ref a ∧ H a = some (.tup [n, b, m, w, c]) ∧ Kn H n T ∧ (∀ z, n = .str z → z.length ≤ 1000) ∧ Deep 6 1 H b ∧ (nameV n = false ∨ boxB H b = false)
  | .moves => ∃ a n b m w c p, v = .ref a ∧ H a = some (.tup [n, b, m, w, c]) ∧ PreV H n b ∧ Wf H m ∧ MvOut H m (some p)
  | .what => ∃ a n b m w c B k, v = .ref a ∧ H a = some (.tup [n, b, m, w, c]) ∧ PreV H n b ∧ MvsG H m ∧ DX B k H w ∧ formWV H w = false
  | .clip => ∃ a n b m w c x, v = .ref a ∧ H a = some (.tup [n, b, m, w, c]) ∧ PreV H n b ∧ MvsG H m ∧ WhV H w x ∧ x.Ok ∧ x.adj = true ∧ BareBad H c
  | .paint => ∃ a n b m w c x, v = .ref a ∧ H a = some (.tup [n, b, m, w, c]) ∧ PreV H n b ∧ MvsG H m ∧ WhV H w x ∧ x.Ok ∧ x.adj = false ∧ PaintBad H c
theorem PreV.ex {H H' : Hp} {n b : V} (e : Ex H H') (h : PreV H n b) : PreV H' n b := by
  obtain ⟨z, bx, h1, h2, h3, h4⟩ := h
  exact ⟨z, bx, h1, h2, h3.tk (TK.ex e), h4⟩
theorem MvsG.ex {H H' : Hp} {m : V} (e : Ex H H') (h : MvsG H m) : MvsG H' m := by
  obtain ⟨ma, us, ms, h1, h2, h3, h4⟩ := h
  exact ⟨ma, us, ms, h1, e _ _ h2, h3.tk (TK.ex e), h4⟩
theorem BareBad.ex {H H' : Hp} {c : V} (e : Ex H H') (h : BareBad H c) : BareBad H' c := by
  obtain ⟨ca, cl, pv, h1, h2, h3, h4⟩ := h
  exact ⟨ca, cl, pv, h1, e _ _ h2, e _ _ h3, e _ _ h4⟩
theorem PaintBad.ex {H H' : Hp} {c : V} (e : Ex H H') (h : PaintBad H c) : PaintBad H' c := by
  obtain ⟨ca, cl, pv, h1, h2, h3, h4⟩ := h
  exact ⟨ca, cl, pv, h1, e _ _ h2, e _ _ h3, e _ _ h4⟩
theorem LyBad.ex {H H' : Hp} {v : V} {k : LK} (e : Ex H H') (h : LyBad H v k) : LyBad H' v k := by
  cases k with
  | layer =>
    rcases h with ⟨T, h1, h2⟩ | ⟨a, xs, h1, h2, h3⟩ | ⟨a, n, b, m, w, c, T, h1, h2, h3, h4, h5, h6⟩
    · exact .inl ⟨T, h1.mono e, h2⟩
    · exact .inr (.inl ⟨a, xs, h1, e _ _ h2, h3⟩)
    · obtain ⟨T2, k2⟩ := h5.kn
      exact .inr (.inr ⟨a, n, b, m, w, c, T, h1, e _ _ h2, h3.mono e, h4, h5.ex e, h6.imp_right fun z => by rw [boxB_ex e k2]; exact z⟩)
  | moves =>
    obtain ⟨a, n, b, m, w, c, p, h1, h2, h3, h4, h5⟩ := h
    exact ⟨a, n, b, m, w, c, p, h1, e _ _ h2, h3.ex e, h4.ex e, h5.ex e h4⟩
  | what =>
    obtain ⟨a, n, b, m, w, c, B, k, h1, h2, h3, h4, h5, h6⟩ := h
    obtain ⟨T2, k2⟩ := h5.kn
    exact ⟨a, n, b, m, w, c, B, k, h1, e _ _ h2, h3.ex e, h4.ex e, h5.ex e, by rw [formWV_ex e k2]; exact h6⟩
  | clip =>
    obtain ⟨a, n, b, m, w, c, x, h1, h2, h3, h4, h5, h6, h7, h8⟩ := h
    exact ⟨a, n, b, m, w, c, x, h1, e _ _ h2, h3.ex e, h4.ex e, h5.tk (TK.ex e), h6, h7, h8.ex e⟩
  | paint =>
    obtain ⟨a, n, b, m, w, c, x, h1, h2, h3, h4, h5, h6, h7, h8⟩ := h
    exact ⟨a, n, b, m, w, c, x, h1, e _ _ h2, h3.ex e, h4.ex e, h5.tk (TK.ex e), h6, h7, h8.ex e⟩
theorem MvsG.out {H : Hp} {m : V} (h : MvsG H m) : Wf H m ∧ MvOut H m none := by
  obtain ⟨ma, us, ms, rfl, h2, h3, h4⟩ := h
  exact ⟨(mvs_deep h2 h3 h4.len).wf, mvs_good h2 h3 h4.asc (fun q hq => ⟨h4.mok q hq, (h4.ok q hq).2.1⟩) h4.len⟩
theorem name_len {z : Str} (h : nameS z = true) : z.length ≤ 1000 := by
  unfold nameS at h
  simp only [Bool.and_eq_true, decide_eq_true_eq] at h
  omega
theorem isW_yes (w : Str) : isW w (.str w) = true := by
  show decide (w = w) = true
  exact decide_eq_true rfl
theorem wh_form {H : Hp} {v : V} {x : Wh} (h : WhV H v x) (k : x.Ok) : formWV H v = true := by
  obtain ⟨a, rfl, ha⟩ := h
  rw [formWV_tup ha]
  cases x with
  | invert => exact isW_yes _
  | shift n =>
    show (if isW "shift" (.str "shift") = true then numIn (-255) 255 (.int n) else false) = true
    rw [if_pos (isW_yes _)]
    exact num_in' k.1 k.2
  | paint o m =>
    show (if isW "paint" (.str "paint") = true then numIn 0 256 (.int o) && inM (.str m) else false) = true
    rw [if_pos (isW_yes _), num_in' k.1 k.2.1, Bool.true_and]
    have k3 := k.2.2
    unfold modes3 at k3
    simp only [List.mem_cons, List.not_mem_nil, or_false] at k3
    rcases k3 with rfl | rfl | rfl <;> decide +kernel
theorem wh_dx {H : Hp} {v : V} {x : Wh} (h : WhV H v x) (k : x.Ok) : DX 200 1 H v := by
  obtain ⟨a, rfl, ha⟩ := h
  refine DX.le (DX.tup (m := 3) (B := 60) ha ?_ (by decide) fun y hy => ?_) (by decide) (Nat.le_refl _)
  · cases x with
    | invert => show 1 ≤ 3; omega
    | shift n => show 2 ≤ 3; omega
    | paint o m => show 3 ≤ 3; omega
  · cases x with
    | invert =>
      obtain rfl := List.mem_singleton.mp hy
      exact DX.str (by decide +kernel) (by decide +kernel) (by decide +kernel) (by decide +kernel)
    | shift n =>
      have hy : y ∈ [V.str "shift", .int n] := hy
      simp only [List.mem_cons, List.not_mem_nil, or_false] at hy
      obtain ⟨k1, k2⟩ := k
      rcases hy with rfl | rfl
      · exact DX.str (by decide +kernel) (by decide +kernel) (by decide +kernel) (by decide +kernel)
      · exact DX.int (by omega) (by omega)
    | paint o m =>
      have hy : y ∈ [V.str "paint", .int o, .str m] := hy
      simp only [List.mem_cons, List.not_mem_nil, or_false] at hy
      obtain ⟨k1, k2, k3⟩ := k
      rcases hy with rfl | rfl | rfl
      · exact DX.str (by decide +kernel) (by decide +kernel) (by decide +kernel) (by decide +kernel)
      · exact DX.int (by omega) (by omega)
      · unfold modes3 at k3
        simp only [List.mem_cons, List.not_mem_nil, or_false] at k3
        rcases k3 with rfl | rfl | rfl <;> exact DX.str (by decide +kernel) (by decide +kernel) (by decide +kernel) (by decide +kernel)
abbrev s_check_paint : Stmt := top 29
theorem sc_check_paint : FnScope ["paint"] ["paint"] (defScope s_check_paint) := ⟨rfl, rfl, rfl, by decide +kernel, rfl, by decide +kernel, by decide +kernel⟩
def spPaint41 (C : Addr) : Sp := fun vs H Q E => ∃ v, vs = [v] ∧ ((∃ p, PaV H v p ∧ p.Ok 12 ∧ ∀ H', Ex H H' → Q .non H') ∨
  ((∃ a, v = .ref a ∧ H a = some (.tup [.str "solid", .int 256])) ∧ ∀ d H', H d = none → Ex H H' → H' d = some (errD "BadPaint" v) → E (.ref C) (some d) H'))
theorem ok_check_paint {f : Addr} {fd : FuncData} (F : Fun K "check_paint" "check_paint" s_check_paint f fd) (T : Txt K mg) {C : Addr} (KB : KindOk P w K mg base "BadPaint" C) (D_has_form_paints : Def P w K mg base CX0 "has_form_paints" 3 ["paint"] (spFormP K)) (D_check_picture : Def P w K mg base CX0 "check_picture" 4 ["picture"] (spCheck K)) : FnOk P w K mg base (L2.CX P w) 5 f fd ["paint"] (spPaint41 C) := by
  refine F.okX sc_check_paint (fun vs H Q E h => ?_) (fun cdv A outer s H vs Q E hr h => ?_)
  · obtain ⟨v, rfl, _⟩ := h
    rfl
  · obtain ⟨v, rfl, h⟩ := h
    obtain ⟨fC, KT, fdC, GC, ⟨ds, hds, bC⟩, bA⟩ := KB
    refine ⟨_, (pss_cons (ps_if (pt_not (pt_val (pe_call D_has_form_paints.ok (hr.mono (by decide)) rfl D_has_form_paints.mgf D_has_form_paints.kp D_has_form_paints.b .nil pass0 (pa_cons (pv 0) pa_nil))))
        (pss_one (ps_raise rfl (takes_of rfl rfl rfl rfl) (pmk_oex KT.T KT.iC KT.tI GC (hr.mono (by decide)) bA .nil pass0 rfl KT.g (pa_cons (pv 0) pa_nil))))
        pss_nil)
      (pss_one (ps_if (pt_cmpR op_eq (pe_ix (kixT K) (pv 0) pe_int (fun _ _ => rfl)) pe_str (nomark _))
        (pss_one (ps_expr (pe_call D_check_picture.ok (hr.mono (by decide)) rfl D_check_picture.mgf D_check_picture.kp D_check_picture.b .nil pass0 (pa_cons (pe_ix (kixT K) (pv 0) pe_int (fun _ _ => rfl)) pa_nil))))
        pss_nil))), ?_⟩
    rcases h with ⟨p, hp, k, q⟩ | ⟨⟨a, rfl, ha⟩, qE⟩
    · refine ⟨_, rfl, v, 4, rfl, pa_deep hp, _, rfl, ?_⟩
      rw [pa_form hp k]
      refine iteF ?_
      cases p with
      | solid x =>
        obtain ⟨a, rfl, ha⟩ := hp
        refine ⟨_, rfl, a, _, 0, _, rfl, rfl, SqT.of ha, rfl, rfl, _, rfl, ?_⟩
        exact iteW (by decide +kernel) (q _ (Ex.refl _))
      | steps f s z =>
        obtain ⟨a, rfl, ha⟩ := hp
        refine ⟨_, rfl, a, _, 0, _, rfl, rfl, SqT.of ha, rfl, rfl, _, rfl, ?_⟩
        exact iteW (by decide +kernel) (q _ (Ex.refl _))
      | pic p =>
        obtain ⟨a, u, rfl, ha, hu⟩ := hp
        refine ⟨_, rfl, a, _, 0, _, rfl, rfl, SqT.of ha, rfl, rfl, _, rfl, ?_⟩
        refine iteE (by decide +kernel) ?_
        exact ⟨_, rfl, a, _, 1, _, rfl, rfl, SqT.of ha, rfl, u, p, rfl, hu, k, fun H' e => q H' e⟩
    · have dp : Deep 4 1 H (.ref a) := pa_deep (p := .solid 256) ⟨a, rfl, ha⟩
      refine ⟨_, rfl, .ref a, 4, rfl, dp, _, rfl, ?_⟩
      have fv : formV H (.ref a) = false := by
        simp only [formV, ha]
        decide +kernel
      rw [fv]
      refine iteT ?_
      exact ⟨_, rfl, (by show 1 ≤ 1000; decide), fun b hb => kind_made KT hb fun d H' h1 h2 h3 => qE d H' h1 h2 h3⟩
abbrev s_is_box : Stmt := top 57
theorem sc_is_box : FnScope ["value", "are_places", "item"] ["value"] (defScope s_is_box) := ⟨rfl, rfl, rfl, by decide +kernel, rfl, by decide +kernel, by decide +kernel⟩
def spBox41 : Sp := fun vs H Q _ => ∃ (v : V), vs = [v] ∧ Deep 6 1 H v ∧ ∀ H', Ex H H' → Q (.bl (boxB H v)) H'
theorem ok_is_box {f : Addr} {fd : FuncData} (F : Fun K "_is_box" "_is_box" s_is_box f fd) (T : Txt K mg) (D_is_number : Def P w K mg base CX0 "is_number" 2 ["value", "least", "most"] spNumber) : FnOk P w K mg base CX0 3 f fd ["value"] spBox41 := by
  refine F.ok sc_is_box (fun vs H Q E h => ?_) (fun cdv A outer s H vs Q E hr h => ?_)
  · obtain ⟨v, rfl, _⟩ := h
    rfl
  · obtain ⟨v, rfl, dp, q⟩ := h
    obtain ⟨T', kn⟩ := dp.kn
    refine ⟨_, (pss_cons (ps_if (PW.pt (pw_or (pt_not (pt_val (pe_callB (kisi K) (by rfl) T.isinstance_ bt_isinstance (pa_cons (pv 0) (pa_cons (pe_bltn (v := .ty "tuple") (by rfl) T.tuple_ bt_tuple rfl) pa_nil))))) (pw_or1 (pt_cmpR op_ne (pe_callB (klen K) (by rfl) T.len_ PySem.boot_len (pa_cons (pv 0) pa_nil)) pe_int (nomark _)))))
        (pss_one (ps_ret pe_bl))
        pss_nil)
      (pss_cons (ps_set (i := 1) sc_is_box.nd rfl (by first | exact Or.inl rfl | exact Or.inr rfl) (pe_callB (kall K rfl) (by rfl) T.all_ bt_all (pa_cons (pe_lc (own := [("item", 2)]) (tt := tYes) rfl sc_is_box.nd (kpiT K (pe_slice (kslA K) (pv 0) po_none (po_some pe_int))) (blkOk_by (N := ["value", "are_places", "item"]) (sc := defScope s_is_box) (by decide +kernel)) (fun _ _ _ _ _ => (pg_name (i := 2) sc_is_box.nd rfl (by first | exact Or.inl rfl | exact Or.inr rfl))) (fun _ _ _ _ _ => pts_nil) (fun _ _ _ _ _ => (pe_call D_is_number.ok (hr.mono (by decide)) rfl D_is_number.mgf D_is_number.kp D_is_number.b .nil pass0 (pa_cons (pv 2) (pa_cons (pe_un un_neg (pe_glob (v := .int 1000) rfl T.PLACE_MOST_.choose_spec ⟨_, rfl⟩)) (pa_cons (pe_glob (v := .int 1000) rfl T.PLACE_MOST_.choose_spec ⟨_, rfl⟩) pa_nil)))))) pa_nil)))
      (pss_one (ps_ret (pe_and (pv 1) (pe_one (pe_callB (kall K rfl) (by rfl) T.all_ bt_all (pa_cons (pe_lc (own := [("item", 2)]) (tt := tYes) rfl sc_is_box.nd (kpiT K (pe_slice (kslA K) (pv 0) (po_some pe_int) po_none)) (blkOk_by (N := ["value", "are_places", "item"]) (sc := defScope s_is_box) (by decide +kernel)) (fun _ _ _ _ _ => (pg_name (i := 2) sc_is_box.nd rfl (by first | exact Or.inl rfl | exact Or.inr rfl))) (fun _ _ _ _ _ => pts_nil) (fun _ _ _ _ _ => (pe_call D_is_number.ok (hr.mono (by decide)) rfl D_is_number.mgf D_is_number.kp D_is_number.b .nil pass0 (pa_cons (pv 2) (pa_cons pe_int (pa_cons (pe_glob (v := .int 64) rfl T.SIDE_MOST_.choose_spec ⟨_, rfl⟩) pa_nil)))))) pa_nil)))))))), ?_⟩
    refine ⟨v, rfl, v, _, _, _, _, rfl, .ty _, kn.ty, kit_ty (kit_tuple kn), _, rfl, ?_⟩
    cases ct : isA T' "tuple" with
    | false =>
      rw [boxB_no kn ct] at q
      exact iteT (iteT (q _ (Ex.refl _)))
    | true =>
      obtain ⟨a, xs, rfl, ha⟩ := kn.asTup ct
      refine iteF ?_
      have it0 := (dp.at ha).2
      by_cases h4 : xs.length = 4
      · refine ⟨_, rfl, a, xs, rfl, .inr (SqT.of ha), rfl, _, rfl, ?_⟩
        have e4 : (!decide (V.int (xs.length : Nat) = V.int 4)) = false := by rw [h4]; rfl
        rw [e4]
        refine iteF ?_
        match xs, h4, ha, it0 with
        | [l, t, w_, h_], _, ha, it =>
          rw [boxB_tup ha] at q
          refine ⟨_, rfl, _, rfl, ?_⟩
          refine slA ha fun t1 H1 e1 ht1 => ?_
          have ht1 : H1 t1 = some (.tup [l, t]) := ht1
          refine ⟨t1, rfl, ⟨_, SqT.of ht1⟩, fun D hD => ?_⟩
          refine lc_tup (xs := [l, t]) (fun i H' => Ex H1 H' ∧ H' D = some (.lst ((([l, t].take i).map (numIn (-1000) 1000)).map V.bl))) ⟨Ex.new hD, upd_same⟩ (fun i H' _ p => SqT.of (p.1 _ _ ht1)) ?_ ?_
          · rintro i uv G hu ⟨eg, hW⟩
            obtain ⟨Tu, ku⟩ := it uv ((fun z => by simp only [List.mem_cons, List.not_mem_nil, or_false] at z ⊢; rcases z with z | z <;> simp [z]) (List.mem_of_getElem? hu))
            have hi := (List.getElem?_eq_some_iff.mp hu).1
            refine ⟨rfl, ?_⟩
            refine lcY ?_
            refine ⟨_, rfl, _, rfl, uv, -1000, 1000, _, rfl, ku.mono (e1.trans eg), ?_⟩
            refine ⟨_, hW, slineL (by rw [List.length_map, List.length_map, List.length_take]; have : [l, t].length = 2 := rfl; omega), eg.mut hD, ?_⟩
            rw [upd_same, List.take_add_one, hu, List.map_append, List.map_append]
            rfl
          rintro H2 ⟨e2, hW⟩
          refine ⟨D, _, rfl, SqL.of hW, ?_⟩
          have e12 := e1.trans e2
          have ea : ((([l, t].take [l, t].length).map (numIn (-1000) 1000)).all id) = (numIn (-1000) 1000 l && numIn (-1000) 1000 t) := by
            show (numIn (-1000) 1000 l && (numIn (-1000) 1000 t && true)) = _
            rw [Bool.and_true]
          rw [ea]
          refine ⟨_, rfl, _, rfl, ?_⟩
          cases ca : (numIn (-1000) 1000 l && numIn (-1000) 1000 t) with
          | false =>
            rw [ca, Bool.false_and] at q
            refine iteF ?_
            exact q H2 e12
          | true =>
            rw [ca, Bool.true_and] at q
            refine iteT ?_
            refine ⟨_, rfl, _, rfl, ?_⟩
            refine slA (e12 _ _ ha) fun t3 H3 e3 ht3 => ?_
            have ht3 : H3 t3 = some (.tup [w_, h_]) := ht3
            refine ⟨t3, rfl, ⟨_, SqT.of ht3⟩, fun D2 hD2 => ?_⟩
            refine lc_tup (xs := [w_, h_]) (fun i H' => Ex H3 H' ∧ H' D2 = some (.lst ((([w_, h_].take i).map (numIn (1) 64)).map V.bl))) ⟨Ex.new hD2, upd_same⟩ (fun i H' _ p => SqT.of (p.1 _ _ ht3)) ?_ ?_
            · rintro i uv G hu ⟨eg, hW⟩
              obtain ⟨Tu, ku⟩ := it uv ((fun z => by simp only [List.mem_cons, List.not_mem_nil, or_false] at z ⊢; rcases z with z | z <;> simp [z]) (List.mem_of_getElem? hu))
              have hi := (List.getElem?_eq_some_iff.mp hu).1
              refine ⟨rfl, ?_⟩
              refine lcY ?_
              refine ⟨_, rfl, uv, 1, 64, _, rfl, ku.mono ((e12.trans e3).trans eg), ?_⟩
              refine ⟨_, hW, slineL (by rw [List.length_map, List.length_map, List.length_take]; have : [w_, h_].length = 2 := rfl; omega), eg.mut hD2, ?_⟩
              rw [upd_same, List.take_add_one, hu, List.map_append, List.map_append]
              rfl
            rintro H4 ⟨e4, hW4⟩
            refine ⟨D2, _, rfl, SqL.of hW4, ?_⟩
            have eb : ((([w_, h_].take [w_, h_].length).map (numIn 1 64)).all id) = (numIn 1 64 w_ && numIn 1 64 h_) := by
              show (numIn 1 64 w_ && (numIn 1 64 h_ && true)) = _
              rw [Bool.and_true]
            rw [eb]
            exact q H4 ((e12.trans e3).trans e4)
      · refine ⟨_, rfl, a, xs, rfl, .inr (SqT.of ha), rfl, _, rfl, ?_⟩
        have e4 : (!decide (V.int (xs.length : Nat) = V.int 4)) = true := by
          rw [decide_eq_false]
          · rfl
          · intro z
            have z : ((xs.length : Nat) : Int) = 4 := V.int.inj z
            omega
        rw [e4]
        refine iteT ?_
        rw [boxB_len ha h4] at q
        exact q _ (Ex.refl _)
abbrev s_check_numbers : Stmt := top 55
theorem sc_check_numbers : FnScope ["width", "height", "frames", "background"] ["width", "height", "frames", "background"] (defScope s_check_numbers) := ⟨rfl, rfl, rfl, by decide +kernel, rfl, by decide +kernel, by decide +kernel⟩
/-- what is wrong with the numbers -/
def numsW (w h n b : V) : Option Str := if (numIn 1 64 w && numIn 1 64 h) = false then some "size" else if numIn 1 1000 n = false then some "frames" else if numIn 0 255 b = false then some "background" else none
def spNums41 (C : Addr) : Sp := fun vs H Q E => ∃ (w h n b : V), vs = [w, h, n, b] ∧ (∀ v ∈ [w, h, n, b], ∃ T, Kn H v T) ∧ (numsW w h n b = none → Q .non H) ∧
  ∀ z d H', numsW w h n b = some z → H d = none → Ex H H' → H' d = some (errD "BadFilm" (.str z)) → E (.ref C) (some d) H'
theorem ok_check_numbers {f : Addr} {fd : FuncData} (F : Fun K "_check_numbers" "_check_numbers" s_check_numbers f fd) (T : Txt K mg) {C : Addr} (KB : KindOk P w K mg base "BadFilm" C) (D_is_number : Def P w K mg base CX0 "is_number" 2 ["value", "least", "most"] spNumber) : FnOk P w K mg base (L2.CX P w) 4 f fd ["width", "height", "frames", "background"] (spNums41 C) := by
  refine F.okX sc_check_numbers (fun vs H Q E h => ?_) (fun cdv A outer s H vs Q E hr h => ?_)
  · obtain ⟨w, h, n, b, rfl, _⟩ := h
    rfl
  · obtain ⟨wv, hv, nv, bv, rfl, kn, qN, qE⟩ := h
    obtain ⟨fC, KT, fdC, GC, ⟨ds, hds, bC⟩, bA⟩ := KB
    obtain ⟨T1, k1⟩ := kn wv (by simp)
    obtain ⟨T2, k2⟩ := kn hv (by simp)
    obtain ⟨T3, k3⟩ := kn nv (by simp)
    obtain ⟨T4, k4⟩ := kn bv (by simp)
    unfold numsW at qN qE
    refine ⟨_, (pss_cons (ps_if (PW.pt (pw_or (pt_not (pt_val (pe_call D_is_number.ok (hr.mono (by decide)) rfl D_is_number.mgf D_is_number.kp D_is_number.b .nil pass0 (pa_cons (pv 0) (pa_cons pe_int (pa_cons (pe_glob (v := .int 64) rfl T.SIDE_MOST_.choose_spec ⟨_, rfl⟩) pa_nil)))))) (pw_or1 (pt_not (pt_val (pe_call D_is_number.ok (hr.mono (by decide)) rfl D_is_number.mgf D_is_number.kp D_is_number.b .nil pass0 (pa_cons (pv 1) (pa_cons pe_int (pa_cons (pe_glob (v := .int 64) rfl T.SIDE_MOST_.choose_spec ⟨_, rfl⟩) pa_nil)))))))))
        (pss_one (ps_raise rfl (takes_of rfl rfl rfl rfl) (pmk_oex KT.T KT.iC KT.tI GC (hr.mono (by decide)) bA .nil pass0 rfl KT.g (pa_cons pe_str pa_nil))))
        pss_nil)
      (pss_cons (ps_if (pt_not (pt_val (pe_call D_is_number.ok (hr.mono (by decide)) rfl D_is_number.mgf D_is_number.kp D_is_number.b .nil pass0 (pa_cons (pv 2) (pa_cons pe_int (pa_cons (pe_glob (v := .int 1000) rfl T.FRAMES_MOST_.choose_spec ⟨_, rfl⟩) pa_nil))))))
        (pss_one (ps_raise rfl (takes_of rfl rfl rfl rfl) (pmk_oex KT.T KT.iC KT.tI GC (hr.mono (by decide)) bA .nil pass0 rfl KT.g (pa_cons pe_str pa_nil))))
        pss_nil)
      (pss_one (ps_if (pt_not (pt_val (pe_call D_is_number.ok (hr.mono (by decide)) rfl D_is_number.mgf D_is_number.kp D_is_number.b .nil pass0 (pa_cons (pv 3) (pa_cons pe_int (pa_cons (pe_glob (v := .int 255) rfl T.VALUE_MOST_.choose_spec ⟨_, rfl⟩) pa_nil))))))
        (pss_one (ps_raise rfl (takes_of rfl rfl rfl rfl) (pmk_oex KT.T KT.iC KT.tI GC (hr.mono (by decide)) bA .nil pass0 rfl KT.g (pa_cons pe_str pa_nil))))
        pss_nil)))), ?_⟩
    refine ⟨_, rfl, wv, 1, 64, _, rfl, k1, _, rfl, ?_⟩
    cases c1 : numIn 1 64 wv with
    | false =>
      rw [c1, Bool.false_and, if_pos rfl] at qE
      refine iteT (iteT ?_)
      exact ⟨(by show 1 ≤ 1000; decide), fun b hb => kind_made KT hb fun d H' h1 h2 h3 => qE _ d H' rfl h1 h2 h3⟩
    | true =>
      rw [c1, Bool.true_and] at qN qE
      refine iteF ?_
      refine ⟨_, rfl, hv, 1, 64, _, rfl, k2, _, rfl, ?_⟩
      cases c2 : numIn 1 64 hv with
      | false =>
        rw [c2, if_pos rfl] at qE
        refine iteT ?_
        exact ⟨(by show 1 ≤ 1000; decide), fun b hb => kind_made KT hb fun d H' h1 h2 h3 => qE _ d H' rfl h1 h2 h3⟩
      | true =>
        rw [c2, if_neg (by decide)] at qN qE
        refine iteF ?_
        refine ⟨_, rfl, nv, 1, 1000, _, rfl, k3, _, rfl, ?_⟩
        cases c3 : numIn 1 1000 nv with
        | false =>
          rw [c3, if_pos rfl] at qE
          refine iteT ?_
          exact ⟨(by show 1 ≤ 1000; decide), fun b hb => kind_made KT hb fun d H' h1 h2 h3 => qE _ d H' rfl h1 h2 h3⟩
        | true =>
          rw [c3, if_neg (by decide)] at qN qE
          refine iteF ?_
          refine ⟨_, rfl, bv, 0, 255, _, rfl, k4, _, rfl, ?_⟩
          cases c4 : numIn 0 255 bv with
          | false =>
            rw [c4, if_pos rfl] at qE
            refine iteT ?_
            exact ⟨(by show 1 ≤ 1000; decide), fun b hb => kind_made KT hb fun d H' h1 h2 h3 => qE _ d H' rfl h1 h2 h3⟩
          | true =>
            rw [c4, if_neg (by decide)] at qN
            exact iteF (qN rfl)
abbrev s_check_clips : Stmt := top 36
theorem sc_check_clips : FnScope ["clips", "adjusts", "free", "place", "clip"] ["clips", "adjusts"] (defScope s_check_clips) := ⟨rfl, rfl, rfl, by decide +kernel, rfl, by decide +kernel, by decide +kernel⟩
def ClsG (H : Hp) (v : V) (ad : Bool) : Prop := ∃ ca ws cs, v = .ref ca ∧ H ca = some (.tup ws) ∧ ClsV H ws cs ∧ ClsVd ad cs
theorem ClsG.ex {H H' : Hp} {v : V} {ad : Bool} (e : Ex H H') (h : ClsG H v ad) : ClsG H' v ad := by
  obtain ⟨ca, ws, cs, h1, h2, h3, h4⟩ := h
  exact ⟨ca, ws, cs, h1, e _ _ h2, h3.tk (TK.ex e), h4⟩
def spClips41 (C C2 : Addr) : Sp := fun vs H Q E => ∃ v ad, vs = [v, .bl ad] ∧ ((ClsG H v ad ∧ ∀ H', Ex H H' → Q .non H') ∨
  (ad = true ∧ BareBad H v ∧ ∀ p d H', H d = none → Ex H H' → H' d = some (errD "BadClip" p) → E (.ref C) (some d) H') ∨
  (ad = false ∧ PaintBad H v ∧ ∀ p d H', H d = none → Ex H H' → H' d = some (errD "BadPaint" p) → E (.ref C2) (some d) H'))
theorem kn_op {H : Hp} {v : V} {o : Option Pa} (h : OpV H v o) : ∃ T, Kn H v T := by
  cases o with
  | none => cases h; exact ⟨_, .non⟩
  | some p => exact (pa_deep h).kn
theorem clip_deep {H : Hp} {a : Addr} {s n fi fo : Int} {p : V} (h : H a = some (.tup [.int s, .int n, p, .int fi, .int fo])) (k : ∃ T, Kn H p T) : Deep 400 1 H (.ref a) := by
  refine ⟨⟨_, .tup h⟩, fun b xs e hb => ?_⟩
  cases e
  rw [h] at hb
  cases hb
  refine ⟨by show 5 ≤ 400; omega, fun y hy => ?_⟩
  simp only [List.mem_cons, List.not_mem_nil, or_false] at hy
  rcases hy with rfl | rfl | rfl | rfl | rfl
  · exact ⟨_, .int _⟩
  · exact ⟨_, .int _⟩
  · exact k
  · exact ⟨_, .int _⟩
  · exact ⟨_, .int _⟩
theorem clip_form {c : Cl} (k : c.Vd) : fC (.int c.s) (.int c.n) (.int c.fi) (.int c.fo) = true := by
  have h1 := k.fs
  have h2 := k.fo0
  have h3 := k.fi0
  show ((numIn 0 10000 (.int c.s) && numIn 1 10000 (.int c.n)) && (numIn 0 c.n (.int c.fi) && numIn 0 (c.n - c.fi) (.int c.fo))) = true
  rw [num_in' k.s0 k.s1, num_in' k.n1 k.n2, num_in' k.fi0 (by omega), num_in' k.fo0 (by omega)]
  rfl
theorem ok_check_clips {f : Addr} {fd : FuncData} (F : Fun K "check_clips" "check_clips" s_check_clips f fd) (T : Txt K mg) {C C2 : Addr} (KB : KindOk P w K mg base "BadClip" C) (D_has_form_clips : Def P w K mg base CX0 "has_form_clips" 3 ["clip"] spFormC) (D_is_bare : Def P w K mg base CX0 "_is_bare" 1 ["clip"] (spBare K))
    (D_check_paint : Def P w K mg base (L2.CX P w) "check_paint" 5 ["paint"] (spPaint41 C2)) (D_end_of : Def P w K mg base CX0 "end_of" 1 ["clip"] (spEnd27 K)) : FnOk P w K mg base (L2.CX P w) 6 f fd ["clips", "adjusts"] (spClips41 C C2) := by
  refine F.okX sc_check_clips (fun vs H Q E h => ?_) (fun cdv A outer s H vs Q E hr h => ?_)
  · obtain ⟨v, ad, rfl, _⟩ := h
    rfl
  · obtain ⟨v, ad, rfl, h⟩ := h
    obtain ⟨fK, KT, fdC, GC, ⟨ds, hds, bC⟩, bA⟩ := KB
    refine ⟨_, (pss_cons (ps_if (PW.pt (pw_or (pt_not (pt_val (pe_callB (kisi K) (by rfl) T.isinstance_ bt_isinstance (pa_cons (pv 0) (pa_cons (pe_bltn (v := .ty "tuple") (by rfl) T.tuple_ bt_tuple rfl) pa_nil))))) (pw_or1 (pt_cmpR op_gt (pe_callB (klen K) (by rfl) T.len_ PySem.boot_len (pa_cons (pv 0) pa_nil)) (pe_glob (v := .int 64) rfl T.CLIPS_MOST_.choose_spec ⟨_, rfl⟩) (nomark _)))))
        (pss_one (ps_raise rfl (takes_of rfl rfl rfl rfl) (pmk_none KT.T KT.iC KT.tI GC (hr.mono (by decide)) bC hds pass0 rfl KT.g)))
        pss_nil)
      (pss_cons (ps_set (i := 2) sc_check_clips.nd rfl (by first | exact Or.inl rfl | exact Or.inr rfl) pe_int)
      (pss_one (ps_for (passes_of rfl) rfl (kpiET K (by rfl) T.enumerate_ (pa_cons (pv 0) pa_nil)) (kpgT K (n := 2) rfl (pgs_cons (pg_name (i := 3) sc_check_clips.nd rfl (by first | exact Or.inl rfl | exact Or.inr rfl)) (pgs_cons (pg_name (i := 4) sc_check_clips.nd rfl (by first | exact Or.inl rfl | exact Or.inr rfl)) pgs_nil)))
        (pss_cons (ps_if (PW.pt (pw_or (pt_not (pt_val (pe_call D_has_form_clips.ok (hr.mono (by decide)) rfl D_has_form_clips.mgf D_has_form_clips.kp D_has_form_clips.b .nil pass0 (pa_cons (pv 4) pa_nil)))) (pw_or1 (PW.pt (pw_and (pt_val (pv 1)) (pw_and1 (pt_not (pt_val (pe_call D_is_bare.ok (hr.mono (by decide)) rfl D_is_bare.mgf D_is_bare.kp D_is_bare.b .nil pass0 (pa_cons (pv 4) pa_nil))))))))))
          (pss_one (ps_raise rfl (takes_of rfl rfl rfl rfl) (pmk_oex KT.T KT.iC KT.tI GC (hr.mono (by decide)) bA .nil pass0 rfl KT.g (pa_cons (pv 3) pa_nil))))
          pss_nil)
        (pss_cut (ps_if (pt_not (pt_val (pv 1)))
          (pss_one (ps_expr (pe_call D_check_paint.ok (hr.mono (by decide)) rfl D_check_paint.mgf D_check_paint.kp D_check_paint.b .nil (passes_call (takes_of rfl rfl rfl rfl) fun _ _ _ _ z => z) (pa_cons (pe_ix (kixT K) (pv 4) pe_int (fun _ _ => rfl)) pa_nil))))
          pss_nil)
        (pss_cons (ps_if (pt_cmpR op_lt (pe_ix (kixT K) (pv 4) pe_int (fun _ _ => rfl)) (pv 2) (nomark _))
          (pss_one (ps_raise rfl (takes_of rfl rfl rfl rfl) (pmk_oex KT.T KT.iC KT.tI GC (hr.mono (by decide)) bA .nil pass0 rfl KT.g (pa_cons (pv 3) pa_nil))))
          pss_nil)
        (pss_one (ps_set (i := 2) sc_check_clips.nd rfl (by first | exact Or.inl rfl | exact Or.inr rfl) (pe_call D_end_of.ok (hr.mono (by decide)) rfl D_end_of.mgf D_end_of.kp D_end_of.b .nil pass0 (pa_cons (pv 4) pa_nil))))))))))), ?_⟩
    rw [start_nrm (Nat.le_of_ble_eq_true rfl)]; dsimp only [startL]
    rcases h with ⟨⟨a, us, cs, rfl, ha, hC, k⟩, q⟩ | ⟨rfl, ⟨a, cl, pv_, rfl, ha, hcl, hpv⟩, qE⟩ | ⟨rfl, ⟨a, cl, pv_, rfl, ha, hcl, hpv⟩, qE⟩
    · have lu := hC.length
      have lc := k.len
      refine ⟨_, rfl, _, _, _, _, _, rfl, .ty _, (Kn.tup ha).ty, kit_ty (kit_tuple (Kn.tup ha)), _, rfl, ?_⟩
      refine iteF ?_
      refine ⟨_, rfl, a, us, rfl, .inr (SqT.of ha), _, _, rfl, rfl, _, rfl, ?_⟩
      rw [decide_eq_false (show ¬ (64 : Int) < us.length by omega)]
      refine iteF ?_
      dsimp only [List.set]
      refine ⟨_, rfl, a, us, rfl, SqT.of ha, ?_⟩
      refine for_ET (xs := us) (fun i σ H' => Ex H H' ∧ ∃ (lo : Int) (x y : Option V), σ = [some (.ref a), some (.bl ad), some (.int lo), x, y] ∧ ∀ c, cs[i]? = some c → lo ≤ c.s) ⟨Ex.refl _, 0, _, _, rfl, fun c hc => (k.ok c (List.mem_of_getElem? hc)).s0⟩ (fun i σ H' _ p => SqT.of (p.1 _ _ ha)) ?_ ?_
      · rintro i v σ H1 t hv ⟨e1, lo, x, y, rfl, hlo⟩ ht
        obtain ⟨c, hc, hcv⟩ := pr_get hC hv
        have hcm := List.mem_of_getElem? hc
        have f1 := Ex.new (o := .tup [.int (i : Nat), v]) ht
        have k1 : upd H1 t (.tup [.int (i : Nat), v]) t = some (.tup [.int (i : Nat), v]) := upd_same
        generalize upd H1 t (.tup [.int (i : Nat), v]) = H2 at f1 k1 ⊢
        have e2 := e1.trans f1
        have hcv := hcv.tk (TK.ex e2)
        refine ⟨t, _, rfl, SqT.of k1, rfl, _, _, rfl, _, _, rfl, rfl, ?_⟩
        dsimp only [List.set]
        obtain ⟨ca, u, rfl, hca, hu⟩ := id hcv
        have hca : H2 ca = some (.tup [.int c.s, .int c.n, u, .int c.fi, .int c.fo]) := hca
        refine ⟨_, rfl, .ref ca, 400, rfl, clip_deep hca (kn_op hu), _, rfl, ?_⟩
        rw [formCV_tup hca, clip_form (k.ok c hcm)]
        refine iteF ?_
        have nxt : ∀ d, cs[i + 1]? = some d → c.fin ≤ d.s := fun d hd => by
          have h1 := List.getElem?_eq_some_iff.mp hc
          have h2 := List.getElem?_eq_some_iff.mp hd
          have := List.pairwise_iff_getElem.mp k.ap i (i + 1) h1.1 h2.1 (Nat.lt_succ_self i)
          rw [h1.2, h2.2] at this
          exact this
        cases ad with
        | true =>
          obtain ⟨b1, b2, b3⟩ := (k.adj c hcm).1 rfl
          refine ⟨_, rfl, _, rfl, iteT ?_⟩
          rw [b1] at hu
          obtain rfl : u = .non := hu
          refine ⟨_, rfl, ca, _, _, _, _, _, rfl, hca, _, rfl, ?_⟩
          have hb : bCl .non (.int c.fi) (.int c.fo) = true := by
            rw [b2, b3]
            decide +kernel
          rw [hb]
          refine iteF ?_
          refine ⟨fun σ' H' => σ' = [some (.ref a), some (.bl true), some (.int lo), some (.int (i : Nat)), some (.ref ca)] ∧ Ex H2 H', ⟨_, rfl, _, rfl, iteF ⟨rfl, Ex.refl _⟩⟩, ?_⟩
          rintro σ' H3 ⟨rfl, e23⟩
          have hca3 := e23 _ _ hca
          refine ⟨_, rfl, ca, _, 0, _, rfl, rfl, SqT.of hca3, rfl, _, rfl, _, _, rfl, rfl, _, rfl, ?_⟩
          rw [decide_eq_false (show ¬ c.s < lo by have := hlo c hc; omega)]
          refine iteF ?_
          exact ⟨_, rfl, ca, c.s, c.n, _, _, _, rfl, hca3, e2.trans e23, _, _, _, rfl, nxt⟩
        | false =>
          obtain ⟨p, hp⟩ := (k.adj c hcm).2 rfl
          have kp := (k.ok c hcm).pa
          rw [hp] at kp
          have hu' := hu
          rw [hp] at hu'
          refine ⟨_, rfl, _, rfl, iteF ?_⟩
          refine ⟨fun σ' H' => σ' = [some (.ref a), some (.bl false), some (.int lo), some (.int (i : Nat)), some (.ref ca)] ∧ Ex H2 H', ⟨_, rfl, _, rfl, iteT ⟨_, rfl, ca, _, 2, _, rfl, rfl, SqT.of hca, rfl, u, rfl, .inl ⟨p, hu', kp, fun H' e => ⟨rfl, e⟩⟩⟩⟩, ?_⟩
          rintro σ' H3 ⟨rfl, e23⟩
          have hca3 := e23 _ _ hca
          refine ⟨_, rfl, ca, _, 0, _, rfl, rfl, SqT.of hca3, rfl, _, rfl, _, _, rfl, rfl, _, rfl, ?_⟩
          rw [decide_eq_false (show ¬ c.s < lo by have := hlo c hc; omega)]
          refine iteF ?_
          exact ⟨_, rfl, ca, c.s, c.n, _, _, _, rfl, hca3, e2.trans e23, _, _, _, rfl, nxt⟩
      · rintro σ H1 ⟨e1, lo, x, y, rfl, _⟩
        exact q H1 e1
    · refine ⟨_, rfl, _, _, _, _, _, rfl, .ty _, (Kn.tup ha).ty, kit_ty (kit_tuple (Kn.tup ha)), _, rfl, ?_⟩
      refine iteF ?_
      refine ⟨_, rfl, a, _, rfl, .inr (SqT.of ha), _, _, rfl, rfl, _, rfl, ?_⟩
      refine iteF ?_
      dsimp only [List.set]
      refine ⟨_, rfl, a, _, rfl, SqT.of ha, ?_⟩
      refine for_ET (xs := [.ref cl]) (fun i σ H' => Ex H H' ∧ (∃ x y : Option V, σ = [some (.ref a), some (.bl true), some (.int 0), x, y]) ∧ i = 0) ⟨Ex.refl _, ⟨_, _, rfl⟩, rfl⟩ (fun i σ H' _ p => SqT.of (p.1 _ _ ha)) ?_ ?_
      · rintro i v σ H1 t hv ⟨e1, ⟨x, y, rfl⟩, rfl⟩ ht
        obtain rfl : V.ref cl = v := Option.some.inj hv
        have f1 := Ex.new (o := .tup [.int ((0 : Nat) : Int), .ref cl]) ht
        have k1 : upd H1 t (.tup [.int ((0 : Nat) : Int), .ref cl]) t = some (.tup [.int ((0 : Nat) : Int), .ref cl]) := upd_same
        generalize upd H1 t (.tup [.int ((0 : Nat) : Int), .ref cl]) = H2 at f1 k1 ⊢
        have e2 := e1.trans f1
        refine ⟨t, _, rfl, SqT.of k1, rfl, _, _, rfl, _, _, rfl, rfl, ?_⟩
        dsimp only [List.set]
        have hca := e2 _ _ hcl
        refine ⟨_, rfl, .ref cl, 400, rfl, clip_deep hca ⟨_, .tup (e2 _ _ hpv)⟩, _, rfl, ?_⟩
        rw [formCV_tup hca, show fC (.int 0) (.int 5) (.int 0) (.int 0) = true by decide +kernel]
        refine iteF ?_
        refine ⟨_, rfl, _, rfl, iteT ?_⟩
        refine ⟨_, rfl, cl, _, _, _, _, _, rfl, hca, _, rfl, ?_⟩
        have hb : bCl (.ref pv_) (.int 0) (.int 0) = false := rfl
        rw [hb]
        refine iteT ?_
        exact ⟨_, rfl, (by show 1 ≤ 1000; decide), fun b hb => kind_made KT hb fun d H' h1 h2 h3 => qE _ d H' (ex_free e2 h1) (e2.trans h2) h3⟩
      · rintro σ H1 ⟨_, _, z⟩
        cases z
    · refine ⟨_, rfl, _, _, _, _, _, rfl, .ty _, (Kn.tup ha).ty, kit_ty (kit_tuple (Kn.tup ha)), _, rfl, ?_⟩
      refine iteF ?_
      refine ⟨_, rfl, a, _, rfl, .inr (SqT.of ha), _, _, rfl, rfl, _, rfl, ?_⟩
      refine iteF ?_
      dsimp only [List.set]
      refine ⟨_, rfl, a, _, rfl, SqT.of ha, ?_⟩
      refine for_ET (xs := [.ref cl]) (fun i σ H' => Ex H H' ∧ (∃ x y : Option V, σ = [some (.ref a), some (.bl false), some (.int 0), x, y]) ∧ i = 0) ⟨Ex.refl _, ⟨_, _, rfl⟩, rfl⟩ (fun i σ H' _ p => SqT.of (p.1 _ _ ha)) ?_ ?_
      · rintro i v σ H1 t hv ⟨e1, ⟨x, y, rfl⟩, rfl⟩ ht
        obtain rfl : V.ref cl = v := Option.some.inj hv
        have f1 := Ex.new (o := .tup [.int ((0 : Nat) : Int), .ref cl]) ht
        have k1 : upd H1 t (.tup [.int ((0 : Nat) : Int), .ref cl]) t = some (.tup [.int ((0 : Nat) : Int), .ref cl]) := upd_same
        generalize upd H1 t (.tup [.int ((0 : Nat) : Int), .ref cl]) = H2 at f1 k1 ⊢
        have e2 := e1.trans f1
        refine ⟨t, _, rfl, SqT.of k1, rfl, _, _, rfl, _, _, rfl, rfl, ?_⟩
        dsimp only [List.set]
        have hca := e2 _ _ hcl
        refine ⟨_, rfl, .ref cl, 400, rfl, clip_deep hca ⟨_, .tup (e2 _ _ hpv)⟩, _, rfl, ?_⟩
        rw [formCV_tup hca, show fC (.int 0) (.int 5) (.int 0) (.int 0) = true by decide +kernel]
        refine iteF ?_
        refine ⟨_, rfl, _, rfl, iteF ?_⟩
        refine ⟨fun _ _ => False, ⟨_, rfl, _, rfl, iteT ⟨_, rfl, cl, _, 2, _, rfl, rfl, SqT.of hca, rfl, .ref pv_, rfl, .inr ⟨⟨pv_, rfl, e2 _ _ hpv⟩, fun d H' h1 h2 h3 => qE _ d H' (ex_free e2 h1) (e2.trans h2) h3⟩⟩⟩, fun _ _ z => z.elim⟩
      · rintro σ H1 ⟨_, _, z⟩
        cases z
abbrev s_check_layer : Stmt := top 56
theorem sc_check_layer : FnScope ["layer", "place", "name", "box", "moves", "what", "clips"] ["layer", "place"] (defScope s_check_layer) := ⟨rfl, rfl, rfl, by decide +kernel, rfl, by decide +kernel, by decide +kernel⟩
def LK.word : LK → Str
  | .layer => "BadLayer" | .moves => "BadMoves" | .what => "BadWhat" | .clip => "BadClip" | .paint => "BadPaint"
def LK.cls (C1 C2 C3 C4 C5 : Addr) : LK → Addr
  | .layer => C1 | .moves => C2 | .what => C3 | .clip => C4 | .paint => C5
def spLayer41 (K : PySem.W.Frag) (C1 C2 C3 C4 C5 : Addr) : Sp := fun vs H Q E => ∃ (v : V) (i : Int), vs = [v, .int i] ∧ ((∃ l, LaV H v l ∧ l.Vd ∧ ∀ H', Ex H H' → Q .non H') ∨
  ∃ k, LyBad H v k ∧ ∀ p d H', H d = none → Ex H H' → H' d = some (errD k.word p) → (k = .layer → p = .int i) → E (.ref (k.cls C1 C2 C3 C4 C5)) (some d) H')
theorem ok_check_layer {f : Addr} {fd : FuncData} (F : Fun K "_check_layer" "_check_layer" s_check_layer f fd) (T : Txt K mg) {C1 C2 C3 C4 C5 : Addr} (KB : KindOk P w K mg base "BadLayer" C1) (D_is_name : Def P w K mg base CX0 "is_name" 1 ["value"] spIsName) (D_is_box : Def P w K mg base CX0 "_is_box" 3 ["value"] spBox41) (D_check_moves : Def P w K mg base (L2.CX P w) "check_moves" 5 ["moves"] (spCheckMv C2))
    (D_check_what : Def P w K mg base (L2.CX P w) "check_what" 4 ["what"] (spChkW C3)) (D_check_clips : Def P w K mg base (L2.CX P w) "check_clips" 6 ["clips", "adjusts"] (spClips41 C4 C5)) (D_adjusts : Def P w K mg base CX0 "_adjusts" 1 ["what"] (spAdj K)) : FnOk P w K mg base (L2.CX P w) 7 f fd ["layer", "place"] (spLayer41 K C1 C2 C3 C4 C5) := by
  refine F.okX sc_check_layer (fun vs H Q E h => ?_) (fun cdv A outer s H vs Q E hr h => ?_)
  · obtain ⟨v, i, rfl, _⟩ := h
    rfl
  · obtain ⟨v, i, rfl, h⟩ := h
    obtain ⟨fK, KT, fdC, GC, ⟨ds, hds, bC⟩, bA⟩ := KB
    refine ⟨_, (pss_cons (ps_if (PW.pt (pw_or (pt_not (pt_val (pe_callB (kisi K) (by rfl) T.isinstance_ bt_isinstance (pa_cons (pv 0) (pa_cons (pe_bltn (v := .ty "tuple") (by rfl) T.tuple_ bt_tuple rfl) pa_nil))))) (pw_or1 (pt_cmpR op_ne (pe_callB (klen K) (by rfl) T.len_ PySem.boot_len (pa_cons (pv 0) pa_nil)) pe_int (nomark _)))))
        (pss_one (ps_raise rfl (takes_of rfl rfl rfl rfl) (pmk_oex KT.T KT.iC KT.tI GC (hr.mono (by decide)) bA .nil pass0 rfl KT.g (pa_cons (pv 1) pa_nil))))
        pss_nil)
      (pss_cons (ps_asg (pv 0) (kpgT K (n := 5) rfl (pgs_cons (pg_name (i := 2) sc_check_layer.nd rfl (by first | exact Or.inl rfl | exact Or.inr rfl)) (pgs_cons (pg_name (i := 3) sc_check_layer.nd rfl (by first | exact Or.inl rfl | exact Or.inr rfl)) (pgs_cons (pg_name (i := 4) sc_check_layer.nd rfl (by first | exact Or.inl rfl | exact Or.inr rfl)) (pgs_cons (pg_name (i := 5) sc_check_layer.nd rfl (by first | exact Or.inl rfl | exact Or.inr rfl)) (pgs_cons (pg_name (i := 6) sc_check_layer.nd rfl (by first | exact Or.inl rfl | exact Or.inr rfl)) pgs_nil)))))))
      (pss_cons (ps_if (PW.pt (pw_or (pt_not (pt_val (pe_call D_is_name.ok (hr.mono (by decide)) rfl D_is_name.mgf D_is_name.kp D_is_name.b .nil pass0 (pa_cons (pv 2) pa_nil)))) (pw_or1 (pt_not (pt_val (pe_call D_is_box.ok (hr.mono (by decide)) rfl D_is_box.mgf D_is_box.kp D_is_box.b .nil pass0 (pa_cons (pv 3) pa_nil)))))))
        (pss_one (ps_raise rfl (takes_of rfl rfl rfl rfl) (pmk_oex KT.T KT.iC KT.tI GC (hr.mono (by decide)) bA .nil pass0 rfl KT.g (pa_cons (pv 1) pa_nil))))
        pss_nil)
      (pss_cons (ps_expr (pe_call D_check_moves.ok (hr.mono (by decide)) rfl D_check_moves.mgf D_check_moves.kp D_check_moves.b .nil (passes_call (takes_of rfl rfl rfl rfl) fun _ _ _ _ z => z) (pa_cons (pv 4) pa_nil)))
      (pss_cons (ps_expr (pe_call D_check_what.ok (hr.mono (by decide)) rfl D_check_what.mgf D_check_what.kp D_check_what.b .nil (passes_call (takes_of rfl rfl rfl rfl) fun _ _ _ _ z => z) (pa_cons (pv 5) pa_nil)))
      (pss_one (ps_expr (pe_call D_check_clips.ok (hr.mono (by decide)) rfl D_check_clips.mgf D_check_clips.kp D_check_clips.b .nil (passes_call (takes_of rfl rfl rfl rfl) fun _ _ _ _ z => z) (pa_cons (pv 6) (pa_cons (pe_call D_adjusts.ok (hr.mono (by decide)) rfl D_adjusts.mgf D_adjusts.kp D_adjusts.b .nil pass0 (pa_cons (pv 5) pa_nil)) pa_nil)))))))))), ?_⟩
    rw [start_nrm (Nat.le_of_ble_eq_true rfl)]; dsimp only [startL]
    -- the head of a layer of five: name and box are good
    rcases h with ⟨l, hv, k, q⟩ | ⟨k, hb, qE⟩
    · obtain ⟨a, bv, ma, wv, ca, us, ws, rfl, ha, hb, hma, hM, hw, hca, hC⟩ := id hv
      refine ⟨_, rfl, _, _, _, _, _, rfl, .ty _, (Kn.tup ha).ty, kit_ty (kit_tuple (Kn.tup ha)), _, rfl, ?_⟩
      refine iteF ?_
      refine ⟨_, rfl, a, _, rfl, .inr (SqT.of ha), rfl, _, rfl, ?_⟩
      refine iteF ?_
      refine ⟨_, rfl, a, _, rfl, SqT.of ha, rfl, _, _, rfl, _, _, rfl, _, _, rfl, _, _, rfl, _, _, rfl, rfl, ?_⟩
      dsimp only [List.set]
      refine ⟨_, rfl, .str l.name, _, rfl, .str _, fun z e => by cases e; exact name_len k.name, fun H1 e1 => ⟨_, rfl, ?_⟩⟩
      rw [show nameV (.str l.name) = true from k.name]
      refine iteF ?_
      have hb1 := hb.tk (TK.ex e1)
      refine ⟨_, rfl, bv, rfl, box_deep hb1, fun H2 e2 => ⟨_, rfl, ?_⟩⟩
      rw [box_good hb1 k.box]
      refine iteF ?_
      have e12 := e1.trans e2
      have mg : MvsG H2 (.ref ma) := ⟨ma, us, l.ms, rfl, e12 _ _ hma, hM.tk (TK.ex e12), k.ms⟩
      obtain ⟨wf, ok⟩ := mg.out
      refine ⟨_, rfl, .ref ma, rfl, wf, fun H3 e3 _ => ?_, fun p d H' _ _ no _ => absurd (MvOut.uniq ok no) (by simp)⟩
      have e13 := e12.trans e3
      have hw3 := hw.tk (TK.ex e13)
      refine ⟨_, rfl, wv, _, _, rfl, wh_dx hw3 k.wh, fun _ => ?_, fun d H' _ _ no _ => absurd ((wh_form hw3 k.wh).symm.trans no) (by simp)⟩
      refine ⟨_, rfl, _, rfl, wv, l.wh, rfl, hw3, ?_⟩
      exact ⟨.ref ca, l.wh.adj, rfl, .inl ⟨⟨ca, ws, l.cs, rfl, e13 _ _ hca, hC.tk (TK.ex e13), k.cs⟩, fun H4 e4 => q H4 (e13.trans e4)⟩⟩
    cases k with
    | layer =>
      rcases hb with ⟨T', kn, no⟩ | ⟨a, xs, rfl, ha, l5⟩ | ⟨a, n, b, m, w_, c, T', rfl, ha, kn, short, dp, bad⟩
      · refine ⟨v, rfl, v, _, _, _, _, rfl, .ty _, kn.ty, kit_ty (kit_tuple kn), _, rfl, ?_⟩
        rw [no]
        refine iteT (iteT ?_)
        exact ⟨_, rfl, (by show 1 ≤ 1000; decide), fun b hb => kind_made KT hb fun d H' h1 h2 h3 => qE _ d H' h1 h2 h3 fun _ => rfl⟩
      · refine ⟨_, rfl, _, _, _, _, _, rfl, .ty _, (Kn.tup ha).ty, kit_ty (kit_tuple (Kn.tup ha)), _, rfl, ?_⟩
        refine iteF ?_
        refine ⟨_, rfl, a, xs, rfl, .inr (SqT.of ha), rfl, _, rfl, ?_⟩
        have e4 : (!decide (V.int (xs.length : Nat) = V.int 5)) = true := by
          rw [decide_eq_false]
          · rfl
          · intro z
            have z : ((xs.length : Nat) : Int) = 5 := V.int.inj z
            omega
        rw [e4]
        refine iteT ?_
        exact ⟨_, rfl, (by show 1 ≤ 1000; decide), fun b hb => kind_made KT hb fun d H' h1 h2 h3 => qE _ d H' h1 h2 h3 fun _ => rfl⟩
      · refine ⟨_, rfl, _, _, _, _, _, rfl, .ty _, (Kn.tup ha).ty, kit_ty (kit_tuple (Kn.tup ha)), _, rfl, ?_⟩
        refine iteF ?_
        refine ⟨_, rfl, a, _, rfl, .inr (SqT.of ha), rfl, _, rfl, ?_⟩
        refine iteF ?_
        refine ⟨_, rfl, a, _, rfl, SqT.of ha, rfl, _, _, rfl, _, _, rfl, _, _, rfl, _, _, rfl, _, _, rfl, rfl, ?_⟩
        dsimp only [List.set]
        refine ⟨_, rfl, n, _, rfl, kn, short, fun H1 e1 => ⟨_, rfl, ?_⟩⟩
        cases cn : nameV n with
        | false =>
          refine iteT (iteT ?_)
          exact ⟨_, rfl, (by show 1 ≤ 1000; decide), fun b hb => kind_made KT hb fun d H' h1 h2 h3 => qE _ d H' (ex_free e1 h1) (e1.trans h2) h3 fun _ => rfl⟩
        | true =>
          refine iteF ?_
          have bb : boxB H b = false := bad.resolve_left fun z => by rw [cn] at z; cases z
          obtain ⟨T2, k2⟩ := dp.kn
          refine ⟨_, rfl, b, rfl, dp.ex e1, fun H2 e2 => ⟨_, rfl, ?_⟩⟩
          rw [boxB_ex e1 k2, bb]
          have e12 := e1.trans e2
          refine iteT ?_
          exact ⟨_, rfl, (by show 1 ≤ 1000; decide), fun b hb => kind_made KT hb fun d H' h1 h2 h3 => qE _ d H' (ex_free e12 h1) (e12.trans h2) h3 fun _ => rfl⟩
    | moves =>
      obtain ⟨a, n, b, m, w_, c, p, rfl, ha, ⟨z, bx, rfl, nz, hbx, kb⟩, wf, out⟩ := hb
      refine ⟨_, rfl, _, _, _, _, _, rfl, .ty _, (Kn.tup ha).ty, kit_ty (kit_tuple (Kn.tup ha)), _, rfl, ?_⟩
      refine iteF ?_
      refine ⟨_, rfl, a, _, rfl, .inr (SqT.of ha), rfl, _, rfl, ?_⟩
      refine iteF ?_
      refine ⟨_, rfl, a, _, rfl, SqT.of ha, rfl, _, _, rfl, _, _, rfl, _, _, rfl, _, _, rfl, _, _, rfl, rfl, ?_⟩
      dsimp only [List.set]
      refine ⟨_, rfl, .str z, _, rfl, .str _, fun y e => by cases e; exact name_len nz, fun H1 e1 => ⟨_, rfl, ?_⟩⟩
      rw [show nameV (.str z) = true from nz]
      refine iteF ?_
      have hb1 := hbx.tk (TK.ex e1)
      refine ⟨_, rfl, b, rfl, box_deep hb1, fun H2 e2 => ⟨_, rfl, ?_⟩⟩
      rw [box_good hb1 kb]
      refine iteF ?_
      have e12 := e1.trans e2
      refine ⟨_, rfl, m, rfl, wf.ex e12, fun H3 e3 no => absurd (MvOut.uniq (out.ex e12 wf) no) (by simp), fun p' d H' h1 h2 _ h3 => qE _ d H' (ex_free e12 h1) (e12.trans h2) h3 (fun z => nomatch z)⟩
    | what =>
      obtain ⟨a, n, b, m, w_, c, B, kk, rfl, ha, ⟨z, bx, rfl, nz, hbx, kb⟩, mg, dx, fw⟩ := hb
      refine ⟨_, rfl, _, _, _, _, _, rfl, .ty _, (Kn.tup ha).ty, kit_ty (kit_tuple (Kn.tup ha)), _, rfl, ?_⟩
      refine iteF ?_
      refine ⟨_, rfl, a, _, rfl, .inr (SqT.of ha), rfl, _, rfl, ?_⟩
      refine iteF ?_
      refine ⟨_, rfl, a, _, rfl, SqT.of ha, rfl, _, _, rfl, _, _, rfl, _, _, rfl, _, _, rfl, _, _, rfl, rfl, ?_⟩
      dsimp only [List.set]
      refine ⟨_, rfl, .str z, _, rfl, .str _, fun y e => by cases e; exact name_len nz, fun H1 e1 => ⟨_, rfl, ?_⟩⟩
      rw [show nameV (.str z) = true from nz]
      refine iteF ?_
      have hb1 := hbx.tk (TK.ex e1)
      refine ⟨_, rfl, b, rfl, box_deep hb1, fun H2 e2 => ⟨_, rfl, ?_⟩⟩
      rw [box_good hb1 kb]
      refine iteF ?_
      have e12 := e1.trans e2
      obtain ⟨wf, ok⟩ := (mg.ex e12).out
      refine ⟨_, rfl, m, rfl, wf, fun H3 e3 _ => ?_, fun p d H' _ _ no _ => absurd (MvOut.uniq ok no) (by simp)⟩
      have e13 := e12.trans e3
      obtain ⟨T2, k2⟩ := dx.kn
      refine ⟨_, rfl, w_, B, kk, rfl, dx.ex e13, fun yes => absurd ((formWV_ex e13 k2).symm.trans yes) (by rw [fw]; simp), fun d H' h1 h2 _ h3 => qE _ d H' (ex_free e13 h1) (e13.trans h2) h3 (fun z => nomatch z)⟩
    | clip =>
      obtain ⟨a, n, b, m, w_, c, x, rfl, ha, ⟨z, bx, rfl, nz, hbx, kb⟩, mg, hw, kw, ad, cb⟩ := hb
      refine ⟨_, rfl, _, _, _, _, _, rfl, .ty _, (Kn.tup ha).ty, kit_ty (kit_tuple (Kn.tup ha)), _, rfl, ?_⟩
      refine iteF ?_
      refine ⟨_, rfl, a, _, rfl, .inr (SqT.of ha), rfl, _, rfl, ?_⟩
      refine iteF ?_
      refine ⟨_, rfl, a, _, rfl, SqT.of ha, rfl, _, _, rfl, _, _, rfl, _, _, rfl, _, _, rfl, _, _, rfl, rfl, ?_⟩
      dsimp only [List.set]
      refine ⟨_, rfl, .str z, _, rfl, .str _, fun y e => by cases e; exact name_len nz, fun H1 e1 => ⟨_, rfl, ?_⟩⟩
      rw [show nameV (.str z) = true from nz]
      refine iteF ?_
      have hb1 := hbx.tk (TK.ex e1)
      refine ⟨_, rfl, b, rfl, box_deep hb1, fun H2 e2 => ⟨_, rfl, ?_⟩⟩
      rw [box_good hb1 kb]
      refine iteF ?_
      have e12 := e1.trans e2
      obtain ⟨wf, ok⟩ := (mg.ex e12).out
      refine ⟨_, rfl, m, rfl, wf, fun H3 e3 _ => ?_, fun p d H' _ _ no _ => absurd (MvOut.uniq ok no) (by simp)⟩
      have e13 := e12.trans e3
      have hw3 := hw.tk (TK.ex e13)
      refine ⟨_, rfl, w_, _, _, rfl, wh_dx hw3 kw, fun _ => ?_, fun d H' _ _ no _ => absurd ((wh_form hw3 kw).symm.trans no) (by simp)⟩
      refine ⟨_, rfl, _, rfl, w_, x, rfl, hw3, ?_⟩
      exact ⟨c, x.adj, rfl, .inr (.inl ⟨ad, cb.ex e13, fun p d H' h1 h2 h3 => qE p d H' (ex_free e13 h1) (e13.trans h2) h3 (fun z => nomatch z)⟩)⟩
    | paint =>
      obtain ⟨a, n, b, m, w_, c, x, rfl, ha, ⟨z, bx, rfl, nz, hbx, kb⟩, mg, hw, kw, ad, cb⟩ := hb
      refine ⟨_, rfl, _, _, _, _, _, rfl, .ty _, (Kn.tup ha).ty, kit_ty (kit_tuple (Kn.tup ha)), _, rfl, ?_⟩
      refine iteF ?_
      refine ⟨_, rfl, a, _, rfl, .inr (SqT.of ha), rfl, _, rfl, ?_⟩
      refine iteF ?_
      refine ⟨_, rfl, a, _, rfl, SqT.of ha, rfl, _, _, rfl, _, _, rfl, _, _, rfl, _, _, rfl, _, _, rfl, rfl, ?_⟩
      dsimp only [List.set]
      refine ⟨_, rfl, .str z, _, rfl, .str _, fun y e => by cases e; exact name_len nz, fun H1 e1 => ⟨_, rfl, ?_⟩⟩
      rw [show nameV (.str z) = true from nz]
      refine iteF ?_
      have hb1 := hbx.tk (TK.ex e1)
      refine ⟨_, rfl, b, rfl, box_deep hb1, fun H2 e2 => ⟨_, rfl, ?_⟩⟩
      rw [box_good hb1 kb]
      refine iteF ?_
      have e12 := e1.trans e2
      obtain ⟨wf, ok⟩ := (mg.ex e12).out
      refine ⟨_, rfl, m, rfl, wf, fun H3 e3 _ => ?_, fun p d H' _ _ no _ => absurd (MvOut.uniq ok no) (by simp)⟩
      have e13 := e12.trans e3
      have hw3 := hw.tk (TK.ex e13)
      refine ⟨_, rfl, w_, _, _, rfl, wh_dx hw3 kw, fun _ => ?_, fun d H' _ _ no _ => absurd ((wh_form hw3 kw).symm.trans no) (by simp)⟩
      refine ⟨_, rfl, _, rfl, w_, x, rfl, hw3, ?_⟩
      exact ⟨c, x.adj, rfl, .inr (.inr ⟨ad, cb.ex e13, fun p d H' h1 h2 h3 => qE p d H' (ex_free e13 h1) (e13.trans h2) h3 (fun z => nomatch z)⟩)⟩
def spGetI (C : Addr) (g : Fi → Int) : Sp := fun vs H Q _ => ∃ (v : V) (x : Fi), vs = [v] ∧ FlV C H v x ∧ Q (.int (g x)) H
/-- the layers, in a new list -/
def spGetL (C : Addr) : Sp := fun vs H Q _ => ∃ (v : V) (x : Fi), vs = [v] ∧ FlV C H v x ∧ x.ls.length ≤ 1000 ∧ ∀ p us H', H p = none → Ex H H' → H' p = some (.lst us) → Paired (LaV H') us x.ls → Q (.ref p) H'
abbrev s_Film_width : Stmt := (inClass (top 53) 1)
theorem sc_Film_width : FnScope ["self"] ["self"] (defScope s_Film_width) := ⟨rfl, rfl, rfl, by decide +kernel, rfl, by decide +kernel, by decide +kernel⟩
theorem ok_Film_width {f C : Addr} {fd : FuncData} (F : Fun K "width" "Film.width" s_Film_width f fd) (T : Txt K mg) (OT_Film : FilmT K C) : FnOk P w K mg base CX0 1 f fd ["self"] (spGetI C Fi.w) := by
  refine F.ok sc_Film_width (fun vs H Q E h => ?_) (fun cdv A outer s H vs Q E hr h => ?_)
  · obtain ⟨v, x, rfl, _⟩ := h
    rfl
  · obtain ⟨v, x, rfl, ⟨a, dx, L, us, rfl, ha, hL, hP⟩, q⟩ := h
    refine ⟨_, (pss_one (ps_ret (pe_fld (pv 0) rfl))), ?_⟩
    exact ⟨_, rfl, a, C, dx, _, _, rfl, ha, OT_Film.cl, OT_Film.nW, film_w x L, q⟩
abbrev s_Film_height : Stmt := (inClass (top 53) 2)
theorem sc_Film_height : FnScope ["self"] ["self"] (defScope s_Film_height) := ⟨rfl, rfl, rfl, by decide +kernel, rfl, by decide +kernel, by decide +kernel⟩
theorem ok_Film_height {f C : Addr} {fd : FuncData} (F : Fun K "height" "Film.height" s_Film_height f fd) (T : Txt K mg) (OT_Film : FilmT K C) : FnOk P w K mg base CX0 1 f fd ["self"] (spGetI C Fi.h) := by
  refine F.ok sc_Film_height (fun vs H Q E h => ?_) (fun cdv A outer s H vs Q E hr h => ?_)
  · obtain ⟨v, x, rfl, _⟩ := h
    rfl
  · obtain ⟨v, x, rfl, ⟨a, dx, L, us, rfl, ha, hL, hP⟩, q⟩ := h
    refine ⟨_, (pss_one (ps_ret (pe_fld (pv 0) rfl))), ?_⟩
    exact ⟨_, rfl, a, C, dx, _, _, rfl, ha, OT_Film.cl, OT_Film.nH, film_h x L, q⟩
abbrev s_Film_frames : Stmt := (inClass (top 53) 3)
theorem sc_Film_frames : FnScope ["self"] ["self"] (defScope s_Film_frames) := ⟨rfl, rfl, rfl, by decide +kernel, rfl, by decide +kernel, by decide +kernel⟩
theorem ok_Film_frames {f C : Addr} {fd : FuncData} (F : Fun K "frames" "Film.frames" s_Film_frames f fd) (T : Txt K mg) (OT_Film : FilmT K C) : FnOk P w K mg base CX0 1 f fd ["self"] (spGetI C Fi.n) := by
  refine F.ok sc_Film_frames (fun vs H Q E h => ?_) (fun cdv A outer s H vs Q E hr h => ?_)
  · obtain ⟨v, x, rfl, _⟩ := h
    rfl
  · obtain ⟨v, x, rfl, ⟨a, dx, L, us, rfl, ha, hL, hP⟩, q⟩ := h
    refine ⟨_, (pss_one (ps_ret (pe_fld (pv 0) rfl))), ?_⟩
    exact ⟨_, rfl, a, C, dx, _, _, rfl, ha, OT_Film.cl, OT_Film.nN, film_n x L, q⟩
abbrev s_Film_background : Stmt := (inClass (top 53) 4)
theorem sc_Film_background : FnScope ["self"] ["self"] (defScope s_Film_background) := ⟨rfl, rfl, rfl, by decide +kernel, rfl, by decide +kernel, by decide +kernel⟩
theorem ok_Film_background {f C : Addr} {fd : FuncData} (F : Fun K "background" "Film.background" s_Film_background f fd) (T : Txt K mg) (OT_Film : FilmT K C) : FnOk P w K mg base CX0 1 f fd ["self"] (spGetI C Fi.b) := by
  refine F.ok sc_Film_background (fun vs H Q E h => ?_) (fun cdv A outer s H vs Q E hr h => ?_)
  · obtain ⟨v, x, rfl, _⟩ := h
    rfl
  · obtain ⟨v, x, rfl, ⟨a, dx, L, us, rfl, ha, hL, hP⟩, q⟩ := h
    refine ⟨_, (pss_one (ps_ret (pe_fld (pv 0) rfl))), ?_⟩
    exact ⟨_, rfl, a, C, dx, _, _, rfl, ha, OT_Film.cl, OT_Film.nB, film_b x L, q⟩
abbrev s_Film_layers : Stmt := (inClass (top 53) 5)
theorem sc_Film_layers : FnScope ["self"] ["self"] (defScope s_Film_layers) := ⟨rfl, rfl, rfl, by decide +kernel, rfl, by decide +kernel, by decide +kernel⟩
theorem ok_Film_layers {f C : Addr} {fd : FuncData} (F : Fun K "layers" "Film.layers" s_Film_layers f fd) (T : Txt K mg) (OT_Film : FilmT K C) : FnOk P w K mg base CX0 1 f fd ["self"] (spGetL C) := by
  refine F.ok sc_Film_layers (fun vs H Q E h => ?_) (fun cdv A outer s H vs Q E hr h => ?_)
  · obtain ⟨v, x, rfl, _⟩ := h
    rfl
  · obtain ⟨v, x, rfl, ⟨a, dx, L, us, rfl, ha, hL, hP⟩, ll, q⟩ := h
    refine ⟨_, (pss_one (ps_ret (pe_callTy (klist K) (by rfl) T.list_ bt_list (pa_cons (pe_fld (pv 0) rfl) pa_nil)))), ?_⟩
    refine ⟨_, rfl, a, C, dx, _, _, rfl, ha, OT_Film.cl, OT_Film.nL, film_l x L, ?_⟩
    refine ⟨L, us, rfl, .inl (SqL.of hL), fun p hp => ?_⟩
    have f1 := Ex.new (o := .lst us) hp
    exact q p us _ hp f1 upd_same (Paired.mapP hP fun _ _ => LaV.tk (TK.ex f1))
abbrev s_Film_init : Stmt := (inClass (top 53) 0)
theorem sc_Film_init : FnScope ["self", "width", "height", "frames", "background", "layers", "place", "layer", "other"] ["self", "width", "height", "frames", "background", "layers"] (defScope s_Film_init) := ⟨rfl, rfl, rfl, by decide +kernel, rfl, by decide +kernel, by decide +kernel⟩
theorem flat_strs (ns : List Str) : (ns.map V.str).all flatV = true := by
  rw [List.all_map, List.all_eq_true]
  exact fun _ _ => rfl
theorem in_strs_no {n : Str} {ns : List Str} (h : n ∉ ns) : inV (.str n) (ns.map V.str) = false := by
  unfold inV
  rw [List.any_map, List.any_eq_false]
  intro y hy
  show ¬ (y == n) = true
  rw [beq_iff_eq]
  exact fun e => h (e ▸ hy)
theorem put_le {f : Str} {v : V} : ∀ {fs : List (Str × V)} {n : Nat}, fs.length ≤ n → (putF f v fs).length ≤ n + 1
  | [], n, _ => by show 1 ≤ n + 1; omega
  | (g, u) :: r, n, h => by
    show (if g = f then (g, v) :: r else (g, u) :: putF f v r).length ≤ n + 1
    rw [List.length_cons] at h
    split
    · rw [List.length_cons]
      omega
    · rw [List.length_cons]
      have := put_le (f := f) (v := v) (fs := r) (n := n - 1) (by omega)
      omega
/-- what becomes of a film's parts -/
inductive FO
  | num (z : Str) | many | bad (i : Nat) (k : LK) | dup (i : Nat) (n : Str) | fine (x : Fi)
/-- good layers, told apart by their names -/
def LsG (H : Hp) (us : List V) (ls : List La) : Prop := Paired (LaV H) us ls ∧ (∀ l ∈ ls, l.Vd) ∧ (ls.map La.name).Nodup
def FIn (H : Hp) (w h n b : V) (us : List V) : FO → Prop
  | .num z => numsW w h n b = some z
  | .many => numsW w h n b = none ∧ 16 < us.length
  | .bad i k => numsW w h n b = none ∧ us.length ≤ 16 ∧ ∃ ls v, LsG H (us.take i) ls ∧ us[i]? = some v ∧ LyBad H v k
  | .dup i z => numsW w h n b = none ∧ us.length ≤ 16 ∧ ∃ ls l v, LsG H (us.take i) ls ∧ us[i]? = some v ∧ LaV H v l ∧ l.Vd ∧ l.name = z ∧ z ∈ ls.map La.name
  | .fine x => w = .int x.w ∧ h = .int x.h ∧ n = .int x.n ∧ b = .int x.b ∧ Paired (LaV H) us x.ls ∧ x.Vd
def FErr (CB CD C1 C2 C3 C4 C5 : Addr) : FO → Addr → Str → V → Prop
  | .num z, c, w, p => c = CB ∧ w = "BadFilm" ∧ p = .str z
  | .many, c, w, p => c = CB ∧ w = "BadFilm" ∧ p = .str "layers"
  | .bad i k, c, w, p => c = k.cls C1 C2 C3 C4 C5 ∧ w = k.word ∧ (k = .layer → p = .int i)
  | .dup _ n, c, w, p => c = CD ∧ w = "DuplicateLayer" ∧ p = .str n
  | .fine _, _, _, _ => False
def spFilm41 (C CB CD C1 C2 C3 C4 C5 : Addr) : Sp := fun vs H Q E => ∃ (s dx : Addr) (w h n b : V) (L : Addr) (us : List V) (o : FO), vs = [.ref s, w, h, n, b, .ref L] ∧ H s = some (.ins C dx []) ∧ H L = some (.lst us) ∧ us.length ≤ 1000 ∧ (∀ v ∈ [w, h, n, b], ∃ T, Kn H v T) ∧ FIn H w h n b us o ∧
  (∀ x, o = .fine x → ∀ H' dx' L', H L' = none → (∀ b o, H b = some o → b ≠ s → H' b = some o) → H' s = some (.ins C dx' (filmF x L')) → H' L' = some (.lst us) → Q .non H') ∧
  ∀ c wd p d H', FErr CB CD C1 C2 C3 C4 C5 o c wd p → H d = none → Ex H H' → H' d = some (errD wd p) → E (.ref c) (some d) H'
theorem nums_good {x : Fi} (k : x.Vd) : numsW (.int x.w) (.int x.h) (.int x.n) (.int x.b) = none := by
  unfold numsW
  rw [num_in' k.w0 k.w1, num_in' k.h0 k.h1, num_in' k.n0 k.n1, num_in' k.b0 k.b1]
  rfl
theorem ok_Film_init {f C : Addr} {fd : FuncData} (F : Fun K "__init__" "Film.__init__" s_Film_init f fd) (T : Txt K mg) {CB CD C1 C2 C3 C4 C5 : Addr} (OT_Film : FilmT K C) (KB1 : KindOk P w K mg base "BadFilm" CB) (KB2 : KindOk P w K mg base "DuplicateLayer" CD) (D_check_numbers : Def P w K mg base (L2.CX P w) "_check_numbers" 4 ["width", "height", "frames", "background"] (spNums41 CB))
    (D_check_layer : Def P w K mg base (L2.CX P w) "_check_layer" 7 ["layer", "place"] (spLayer41 K C1 C2 C3 C4 C5)) : FnOk P w K mg base (L2.CX P w) 8 f fd ["self", "width", "height", "frames", "background", "layers"] (spFilm41 C CB CD C1 C2 C3 C4 C5) := by
  refine F.okX sc_Film_init (fun vs H Q E h => ?_) (fun cdv A outer s H vs Q E hr h => ?_)
  · obtain ⟨s, dx, w, h, n, b, L, us, o, rfl, _⟩ := h
    rfl
  · obtain ⟨sa, dx, wv, hv, nv, bv, L, us, o, rfl, hs, hL, lus, kn, hin, q, qE⟩ := h
    obtain ⟨fK1, KT_BadFilm, fdC1, GC_BadFilm, ⟨ds1, hds_BadFilm, bC_BadFilm⟩, bA_BadFilm⟩ := KB1
    obtain ⟨fK2, KT_DuplicateLayer, fdC2, GC_DuplicateLayer, ⟨ds2, hds_DuplicateLayer, bC_DuplicateLayer⟩, bA_DuplicateLayer⟩ := KB2
    refine ⟨_, (pss_cons (ps_expr (pe_call D_check_numbers.ok (hr.mono (by decide)) rfl D_check_numbers.mgf D_check_numbers.kp D_check_numbers.b .nil (passes_call (takes_of rfl rfl rfl rfl) fun _ _ _ _ z => z) (pa_cons (pv 1) (pa_cons (pv 2) (pa_cons (pv 3) (pa_cons (pv 4) pa_nil))))))
      (pss_cons (ps_if (pt_cmpR op_gt (pe_callB (klen K) (by rfl) T.len_ PySem.boot_len (pa_cons (pv 5) pa_nil)) (pe_glob (v := .int 16) rfl T.LAYERS_MOST_.choose_spec ⟨_, rfl⟩) (nomark _))
        (pss_one (ps_raise rfl (takes_of rfl rfl rfl rfl) (pmk_oex KT_BadFilm.T KT_BadFilm.iC KT_BadFilm.tI GC_BadFilm (hr.mono (by decide)) bA_BadFilm .nil pass0 rfl KT_BadFilm.g (pa_cons pe_str pa_nil))))
        pss_nil)
      (pss_cons (ps_for (passes_of rfl) rfl (kpiE K (by rfl) T.enumerate_ (pa_cons (pv 5) pa_nil)) (kpgT K (n := 2) rfl (pgs_cons (pg_name (i := 6) sc_Film_init.nd rfl (by first | exact Or.inl rfl | exact Or.inr rfl)) (pgs_cons (pg_name (i := 7) sc_Film_init.nd rfl (by first | exact Or.inl rfl | exact Or.inr rfl)) pgs_nil)))
        (pss_cons (ps_expr (pe_call D_check_layer.ok (hr.mono (by decide)) rfl D_check_layer.mgf D_check_layer.kp D_check_layer.b .nil (passes_call (takes_of rfl rfl rfl rfl) fun _ _ _ _ z => z) (pa_cons (pv 7) (pa_cons (pv 6) pa_nil))))
        (pss_one (ps_if (pt_cmpR (kin K) (pe_ix (kixT K) (pv 7) pe_int (fun _ _ => rfl)) (pe_lc (own := [("other", 8)]) (tt := tYes) rfl sc_Film_init.nd (kpiL K (pe_slice (kslL K) (pv 5) po_none (po_some (pv 6)))) (blkOk_by (N := ["self", "width", "height", "frames", "background", "layers", "place", "layer", "other"]) (sc := defScope s_Film_init) (by decide +kernel)) (fun _ _ _ _ _ => (pg_name (i := 8) sc_Film_init.nd rfl (by first | exact Or.inl rfl | exact Or.inr rfl))) (fun _ _ _ _ _ => pts_nil) (fun _ _ _ _ _ => (pe_ix (kixT K) (pv 8) pe_int (fun _ _ => rfl)))) (by rfl))
          (pss_one (ps_raise rfl (takes_of rfl rfl rfl rfl) (pmk_oex KT_DuplicateLayer.T KT_DuplicateLayer.iC KT_DuplicateLayer.tI GC_DuplicateLayer (hr.mono (by decide)) bA_DuplicateLayer .nil pass0 rfl KT_DuplicateLayer.g (pa_cons (pe_ix (kixT K) (pv 7) pe_int (fun _ _ => rfl)) pa_nil))))
          pss_nil))))
      (pss_cons (ps_fld (pv 0) (pv 1) rfl)
      (pss_cons (ps_fld (pv 0) (pv 2) rfl)
      (pss_cons (ps_fld (pv 0) (pv 3) rfl)
      (pss_cons (ps_fld (pv 0) (pv 4) rfl)
      (pss_one (ps_fld (pv 0) (pe_callTy (klist K) (by rfl) T.list_ bt_list (pa_cons (pv 5) pa_nil)) rfl))))))))), ?_⟩
    rw [start_nrm (Nat.le_of_ble_eq_true rfl)]; dsimp only [startL]
    refine ⟨_, rfl, _, rfl, _, rfl, _, rfl, wv, hv, nv, bv, rfl, kn, fun hno => ?_, fun z d H' hz h1 h2 h3 => ?_⟩
    rotate_left
    · cases o with
      | num z' =>
        have hin : numsW wv hv nv bv = some z' := hin
        rw [hin] at hz
        cases hz
        exact qE _ _ _ d H' ⟨rfl, rfl, rfl⟩ h1 h2 h3
      | many => rw [hin.1] at hz; cases hz
      | bad i k => rw [hin.1] at hz; cases hz
      | dup i k => rw [hin.1] at hz; cases hz
      | fine x =>
        obtain ⟨rfl, rfl, rfl, rfl, _, k⟩ := hin
        rw [nums_good k] at hz
        cases hz
    refine ⟨_, rfl, L, us, rfl, .inl (SqL.of hL), _, _, rfl, rfl, _, rfl, ?_⟩
    refine ite2 (fun big => ?_) (fun small => ?_)
    · have big : (16 : Int) < us.length := of_decide_eq_true big
      have hm : o = .many := by
        cases o with
        | num z' => have hin : numsW wv hv nv bv = some z' := hin; rw [hin] at hno; cases hno
        | many => rfl
        | bad i k => have := hin.2.1; omega
        | dup i k => have := hin.2.1; omega
        | fine x =>
          obtain ⟨_, _, _, _, hP, k⟩ := hin
          have := hP.length
          have := k.len
          omega
      subst hm
      exact ⟨(by show 1 ≤ 1000; decide), fun b hb => kind_made KT_BadFilm hb fun d H' h1 h2 h3 => qE _ _ _ d H' ⟨rfl, rfl, rfl⟩ h1 h2 h3⟩
    have small : us.length ≤ 16 := by
      have : ¬ (16 : Int) < us.length := fun z => small (decide_eq_true z)
      omega
    -- the layers up to the one at which it ends
    obtain ⟨j, ls, hP, kls, nd, fin⟩ : ∃ j ls, Paired (LaV H) (us.take j) ls ∧ (∀ l ∈ ls, l.Vd) ∧ (ls.map La.name).Nodup ∧ ((us.length ≤ j ∧ ∃ x, o = .fine x) ∨ (∃ k v, o = .bad j k ∧ us[j]? = some v ∧ LyBad H v k) ∨ ∃ n l v, o = .dup j n ∧ us[j]? = some v ∧ LaV H v l ∧ l.Vd ∧ l.name = n ∧ n ∈ ls.map La.name) := by
      cases o with
      | num z' => have hin : numsW wv hv nv bv = some z' := hin; rw [hin] at hno; cases hno
      | many => have := hin.2; omega
      | bad i k =>
        obtain ⟨_, _, ls, v, ⟨h1, h2, h3⟩, h4, h5⟩ := hin
        exact ⟨i, ls, h1, h2, h3, .inr (.inl ⟨k, v, rfl, h4, h5⟩)⟩
      | dup i n =>
        obtain ⟨_, _, ls, l, v, ⟨h1, h2, h3⟩, h4, h5, h6, h7, h8⟩ := hin
        exact ⟨i, ls, h1, h2, h3, .inr (.inr ⟨n, l, v, rfl, h4, h5, h6, h7, h8⟩)⟩
      | fine x =>
        obtain ⟨_, _, _, _, hP, k⟩ := hin
        exact ⟨us.length, x.ls, by rw [List.take_length]; exact hP, k.ok, k.nd, .inl ⟨Nat.le_refl _, x, rfl⟩⟩
    have lj := hP.length
    rw [List.length_take] at lj
    refine ⟨_, rfl, L, us, rfl, SqL.of hL, ?_⟩
    refine for_it (walk_enum (xs := us)) (fun i σ H' => Ex H H' ∧ i ≤ ls.length ∧ ∃ (x6 x7 : Option V), σ = [some (.ref sa), some wv, some hv, some nv, some bv, some (.ref L), x6, x7, none]) ⟨Ex.refl _, Nat.zero_le _, _, _, rfl⟩ (fun i σ H' _ p => SqL.of (p.1 _ _ hL)) ?_ ?_
    · rintro i v σ H1 H' hi ⟨e1, hij, x6, x7, rfl⟩ ⟨t, xi, u, rfl, ht, rfl, hx, hu⟩
      cases hx
      have hu : us[i]? = some u := hu
      have f1 := Ex.new (o := .tup [.int (i : Nat), u]) ht
      have k1 : upd H1 t (.tup [.int (i : Nat), u]) t = some (.tup [.int (i : Nat), u]) := upd_same
      generalize upd H1 t (.tup [.int (i : Nat), u]) = H2 at f1 k1 ⊢
      have e2 := e1.trans f1
      refine ⟨t, _, rfl, SqT.of k1, rfl, _, _, rfl, _, _, rfl, rfl, ?_⟩
      dsimp only [List.set]
      have step : (∃ k, LyBad H u k ∧ ∀ p d H', H d = none → Ex H H' → H' d = some (errD k.word p) → (k = .layer → p = .int (i : Nat)) → E (.ref (k.cls C1 C2 C3 C4 C5)) (some d) H') ∨
          ∃ l, LaV H u l ∧ l.Vd ∧ ((l.name ∉ (ls.take i).map La.name ∧ i + 1 ≤ ls.length) ∨ (l.name ∈ (ls.take i).map La.name ∧ ∀ d H', H d = none → Ex H H' → H' d = some (errD "DuplicateLayer" (.str l.name)) → E (.ref CD) (some d) H')) := by
        by_cases hlt : i < ls.length
        · have hlt2 : i < j := by omega
          obtain ⟨l, hl, hlv⟩ := pr_get hP (show (us.take j)[i]? = some u by rw [List.getElem?_take_of_lt hlt2]; exact hu)
          refine .inr ⟨l, hlv, kls l (List.mem_of_getElem? hl), .inl ⟨fun hm => ?_, hlt⟩⟩
          obtain ⟨z, hz, ez⟩ := List.mem_map.mp hm
          obtain ⟨m, hm⟩ := List.getElem?_of_mem hz
          rw [List.getElem?_take] at hm
          split at hm
          · rename_i hmi
            have h1 : (ls.map La.name)[m]? = some l.name := by rw [List.getElem?_map, hm]; exact congrArg some ez
            have h2 : (ls.map La.name)[i]? = some l.name := by rw [List.getElem?_map, hl]; rfl
            have := (List.getElem?_inj (List.getElem?_eq_some_iff.mp h1).1 nd).mp (h1.trans h2.symm)
            omega
          · cases hm
        · have hie : i = ls.length := by omega
          have tk : ls.take i = ls := by rw [hie, List.take_length]
          rcases fin with ⟨h1, _⟩ | ⟨k, v, rfl, h2, h3⟩ | ⟨n, l, v, rfl, h2, h3, h4, h5, h6⟩
          · omega
          · have : j < us.length := (List.getElem?_eq_some_iff.mp h2).1
            have ji : j = i := by omega
            subst ji
            rw [hu] at h2
            cases h2
            exact .inl ⟨k, h3, fun p d H' a b c e => qE _ _ p d H' ⟨rfl, rfl, e⟩ a b c⟩
          · have : j < us.length := (List.getElem?_eq_some_iff.mp h2).1
            have ji : j = i := by omega
            subst ji
            rw [hu] at h2
            cases h2
            refine .inr ⟨l, h3, h4, .inr ⟨by rw [tk, h5]; exact h6, fun d H' a b c => qE _ _ _ d H' ⟨rfl, rfl, by rw [h5]⟩ a b c⟩⟩
      rcases step with ⟨k, hb, hE⟩ | ⟨l, hlv, kl, last⟩
      · exact ⟨_, rfl, _, rfl, u, (i : Nat), rfl, .inr ⟨k, hb.ex e2, fun p d H' h1 h2 h3 h4 => hE p d H' (ex_free e2 h1) (e2.trans h2) h3 h4⟩⟩
      refine ⟨_, rfl, _, rfl, u, (i : Nat), rfl, .inl ⟨l, hlv.tk (TK.ex e2), kl, fun H3 e3 => ?_⟩⟩
      have e13 := e2.trans e3
      have hlv3 := hlv.tk (TK.ex e13)
      obtain ⟨la, bv2, ma, wv2, ca, ms, ws, rfl, hla, _⟩ := id hlv3
      refine ⟨_, rfl, la, _, 0, _, rfl, rfl, SqT.of hla, rfl, ?_⟩
      refine ⟨_, rfl, _, rfl, _, rfl, L, us, rfl, SqL.of (e13 _ _ hL), fun p hp => ?_⟩
      have f4 := Ex.new (o := .lst (cutV us none (some (i : Int)))) hp
      have k4 : upd H3 p (.lst (cutV us none (some (i : Int)))) p = some (.lst (us.take i)) := by rw [upd_same, cutV_take (Nat.le_of_lt hi)]
      generalize upd H3 p (.lst (cutV us none (some (i : Int)))) = H4 at f4 k4 ⊢
      have e14 := e13.trans f4
      refine ⟨p, rfl, ⟨_, SqL.of k4⟩, fun D hD => ?_⟩
      refine lc_list (xs := us.take i) (fun m H' => Ex H4 H' ∧ H' D = some (.lst (((ls.take m).map La.name).map V.str))) ⟨Ex.new hD, upd_same⟩ (fun m H' _ p => SqL.of (p.1 _ _ k4)) ?_ ?_
      · rintro m uv H' hm ⟨e, hW⟩
        have hmi : m < i := by
          have := (List.getElem?_eq_some_iff.mp hm).1
          rw [List.length_take] at this
          omega
        rw [List.getElem?_take_of_lt hmi] at hm
        obtain ⟨z, hz, hzv⟩ := pr_get hP (show (us.take j)[m]? = some uv by rw [List.getElem?_take_of_lt (by omega)]; exact hm)
        obtain ⟨za, _, _, _, _, _, _, rfl, hza, _⟩ := hzv.tk (TK.ex (e14.trans e))
        refine ⟨rfl, ?_⟩
        refine lcY ?_
        refine ⟨_, rfl, za, _, 0, _, rfl, rfl, SqT.of hza, rfl, ?_⟩
        refine ⟨_, hW, slineL (by simp only [List.length_map, List.length_take]; omega), e.mut hD, ?_⟩
        rw [upd_same, List.take_add_one, hz, List.map_append, List.map_append]
        rfl
      rintro H5 ⟨e5, hW⟩
      rw [show (us.take i).length = i by rw [List.length_take]; omega] at hW
      refine ⟨D, _, rfl, .inl (SqL.of hW), rfl, flat_strs _, _, rfl, ?_⟩
      have e15 := e14.trans e5
      rcases last with ⟨no, more⟩ | ⟨yes, hE⟩
      · rw [if_neg Bool.false_ne_true, in_strs_no no]
        refine iteF ?_
        exact ⟨e15, more, _, _, rfl⟩
      · have hy : inV (.str l.name) (((ls.take i).map La.name).map V.str) = true := List.any_eq_true.mpr ⟨.str l.name, List.mem_map_of_mem yes, by show (l.name == l.name) = true; exact beq_self_eq_true _⟩
        rw [if_neg Bool.false_ne_true, hy]
        refine iteT ?_
        refine ⟨_, rfl, la, _, 0, _, rfl, rfl, SqT.of (f4.trans e5 _ _ hla), rfl, ?_⟩
        exact ⟨(by show 1 ≤ 1000; decide), fun b hb => kind_made KT_DuplicateLayer hb fun d H' h1 h2 h3 => hE d H' (ex_free e15 h1) (e15.trans h2) h3⟩
    · rintro σ H1 ⟨e1, hij, x6, x7, rfl⟩
      obtain ⟨x, rfl⟩ : ∃ x, o = .fine x := by
        rcases fin with ⟨_, x, h⟩ | ⟨k, v, _, h2, _⟩ | ⟨n, l, v, _, h2, _⟩
        · exact ⟨x, h⟩
        · have := (List.getElem?_eq_some_iff.mp h2).1
          omega
        · have := (List.getElem?_eq_some_iff.mp h2).1
          omega
      obtain ⟨rfl, rfl, rfl, rfl, _, _⟩ := hin
      have q := q x rfl
      have hs1 := e1 _ _ hs
      have hL1 := e1 _ _ hL
      have ne : L ≠ sa := fun z => by rw [z, hs] at hL; cases hL
      refine ⟨_, rfl, _, rfl, sa, C, dx, [], rfl, hs1, OT_Film.cl, OT_Film.nW, (by show 0 < 1000; decide), ?_⟩
      refine ⟨_, rfl, _, rfl, sa, C, dx, _, rfl, upd_same, OT_Film.cl, OT_Film.nH, (by show 1 < 1000; decide), ?_⟩
      refine ⟨_, rfl, _, rfl, sa, C, dx, _, rfl, upd_same, OT_Film.cl, OT_Film.nN, Nat.lt_of_le_of_lt (put_le (put_le (Nat.zero_le 0))) (by decide), ?_⟩
      refine ⟨_, rfl, _, rfl, sa, C, dx, _, rfl, upd_same, OT_Film.cl, OT_Film.nB, Nat.lt_of_le_of_lt (put_le (put_le (put_le (Nat.zero_le 0)))) (by decide), ?_⟩
      have g1 : ∀ b, b ≠ sa → (upd (upd (upd (upd H1 sa (.ins C dx (putF "_width" (.int x.w) []))) sa (.ins C dx (putF "_height" (.int x.h) (putF "_width" (.int x.w) [])))) sa (.ins C dx (putF "_frames" (.int x.n) (putF "_height" (.int x.h) (putF "_width" (.int x.w) []))))) sa (.ins C dx (putF "_background" (.int x.b) (putF "_frames" (.int x.n) (putF "_height" (.int x.h) (putF "_width" (.int x.w) [])))))) b = H1 b := fun b hb => by
        rw [upd_ne hb, upd_ne hb, upd_ne hb, upd_ne hb]
      have g2 : (upd (upd (upd (upd H1 sa (.ins C dx (putF "_width" (.int x.w) []))) sa (.ins C dx (putF "_height" (.int x.h) (putF "_width" (.int x.w) [])))) sa (.ins C dx (putF "_frames" (.int x.n) (putF "_height" (.int x.h) (putF "_width" (.int x.w) []))))) sa (.ins C dx (putF "_background" (.int x.b) (putF "_frames" (.int x.n) (putF "_height" (.int x.h) (putF "_width" (.int x.w) [])))))) sa = some (.ins C dx (putF "_background" (.int x.b) (putF "_frames" (.int x.n) (putF "_height" (.int x.h) (putF "_width" (.int x.w) []))))) := upd_same
      generalize upd (upd (upd (upd H1 sa (.ins C dx (putF "_width" (.int x.w) []))) sa (.ins C dx (putF "_height" (.int x.h) (putF "_width" (.int x.w) [])))) sa (.ins C dx (putF "_frames" (.int x.n) (putF "_height" (.int x.h) (putF "_width" (.int x.w) []))))) sa (.ins C dx (putF "_background" (.int x.b) (putF "_frames" (.int x.n) (putF "_height" (.int x.h) (putF "_width" (.int x.w) []))))) = G at g1 g2 ⊢
      refine ⟨_, rfl, L, us, rfl, .inl (SqL.of ((g1 L ne).trans hL1)), fun l hl => ?_⟩
      have nl : l ≠ sa := fun z => by rw [z, g2] at hl; cases hl
      refine ⟨_, rfl, sa, C, dx, _, rfl, (by rw [upd_ne (Ne.symm nl)]; exact g2), OT_Film.cl, OT_Film.nL, Nat.lt_of_le_of_lt (put_le (put_le (put_le (put_le (Nat.zero_le 0))))) (by decide), ?_⟩
      rw [film_put]
      refine q _ dx l ?_ (fun b o hb nb => ?_) upd_same (by rw [upd_ne nl, upd_same])
      · exact ex_free e1 ((g1 l nl).symm.trans hl)
      · have nbl : b ≠ l := fun z => by
          have h1 := e1 _ _ hb
          rw [z, (g1 l nl).symm.trans hl] at h1
          cases h1
        rw [upd_ne nb, upd_ne nbl, g1 b nb]
        exact e1 _ _ hb
def bxD (b : Bx) : PyData := .tuple [.int b.l, .int b.t, .int b.w, .int b.h]
def whD : Wh → PyData
  | .invert => .tuple [.str "invert"] | .shift n => .tuple [.str "shift", .int n] | .paint o m => .tuple [.str "paint", .int o, .str m]
def laD (l : La) : PyData := .tuple [.str l.name, bxD l.box, .tuple (l.ms.map mvD), whD l.wh, clsD l.cs]
theorem LaV.dp {K : PySem.W.Frag} {H : Hp} {v : V} {l : La} (h : LaV H v l) : Dp K H v (laD l) := by
  obtain ⟨a, bv, ma, wv, ca, us, ws, rfl, h1, ⟨ba, rfl, hb⟩, h3, h4, ⟨wa, rfl, hw⟩, h6, h7⟩ := h
  refine .tup (SqT.of h1) (.cons (.str _) (.cons (.tup (SqT.of hb) (dp_ints [l.box.l, l.box.t, l.box.w, l.box.h])) (.cons (.tup (SqT.of h3) (dp_all (fun _ _ z => MvV.dp z) h4)) (.cons ?_ (.cons (.tup (SqT.of h6) (dp_all (fun _ _ z => ClV.dp z) h7)) .nil)))))
  cases hx : l.wh with
  | invert => rw [hx] at hw; exact .tup (SqT.of hw) (.cons (.str _) .nil)
  | shift n => rw [hx] at hw; exact .tup (SqT.of hw) (.cons (.str _) (.cons (.int _) .nil))
  | paint o m => rw [hx] at hw; exact .tup (SqT.of hw) (.cons (.str _) (.cons (.int _) (.cons (.str _) .nil)))
theorem cl_lay (c : Cl) : (clD c).canLay0 = true := by simp only [clD, PyData.canLay0, PyData.canLayAll0, op_lay, Bool.and_true]
theorem cl_depth (c : Cl) : (clD c).depth ≤ 4 := by
  have := op_depth c.pa
  simp only [clD, PyData.depth, PyData.depthAll]
  omega
theorem canLay_mem {α : Type} {f : α → PyData} : ∀ xs : List α, (∀ x ∈ xs, (f x).canLay0 = true) → PyData.canLayAll0 (xs.map f) = true
  | [], _ => by simp [PyData.canLayAll0]
  | x :: xs, h => by
    rw [List.map_cons, PyData.canLayAll0, h x (List.mem_cons_self ..), canLay_mem xs fun y hy => h y (List.mem_cons_of_mem _ hy)]
    rfl
theorem strOk_name {z : Str} (h : nameS z = true) : PyData.strOk z = true := by
  unfold nameS at h
  rw [Bool.and_eq_true] at h
  have h2 := List.all_eq_true.mp h.2
  show z.cps.all _ = true
  rw [← Array.all_toList, List.all_eq_true]
  intro c hc
  have hm := of_decide_eq_true (h2 c hc)
  have hl : (letters.all fun c => decide (c < 1114112)) = true := by decide +kernel
  exact List.all_eq_true.mp hl c hm
theorem wh_lay {x : Wh} (k : x.Ok) : (whD x).canLay0 = true := by
  cases x with
  | invert => simp only [whD, PyData.canLay0, PyData.canLayAll0, Bool.and_true]; decide +kernel
  | shift n => simp only [whD, PyData.canLay0, PyData.canLayAll0, Bool.and_true]; decide +kernel
  | paint o m =>
    obtain ⟨_, _, hm⟩ := k
    unfold modes3 at hm
    simp only [List.mem_cons, List.not_mem_nil, or_false] at hm
    simp only [whD, PyData.canLay0, PyData.canLayAll0, Bool.and_true, Bool.true_and]
    rcases hm with rfl | rfl | rfl <;> decide +kernel
theorem la_lay {l : La} (k : l.Vd) : (laD l).canLay0 = true := by
  have h1 : PyData.canLayAll0 (l.ms.map mvD) = true := canLay_map (fun m => by simp [mvD, PyData.canLay0, PyData.canLayAll0]) _
  have h2 : PyData.canLayAll0 (l.cs.map clD) = true := canLay_map cl_lay _
  have h3 := wh_lay k.wh
  have h4 := strOk_name k.name
  simp only [laD, bxD, clsD, PyData.canLay0, PyData.canLayAll0, h1, h2, h3, h4, Bool.and_true]
theorem la_depth (l : La) : (laD l).depth ≤ 6 := by
  have h1 : PyData.depthAll (l.ms.map mvD) ≤ 1 := depth_map (fun m => by simp [mvD, PyData.depth, PyData.depthAll]) _
  have h2 : PyData.depthAll (l.cs.map clD) ≤ 4 := depth_map cl_depth _
  have h3 : (whD l.wh).depth ≤ 1 := by cases l.wh <;> simp [whD, PyData.depth, PyData.depthAll]
  simp only [laD, bxD, clsD, PyData.depth, PyData.depthAll]
  omega
/-- all parts of a film, layers in a list -/
def fiD (x : Fi) : PyData := .tuple [.int x.w, .int x.h, .int x.n, .int x.b, .list (x.ls.map laD)]
theorem FiV.dp {K : PySem.W.Frag} {H : Hp} {v : V} {x : Fi} (h : FiV H v x) : Dp K H v (fiD x) := by
  obtain ⟨a, L, us, rfl, ha, hL, hP⟩ := h
  exact .tup (SqT.of ha) (.cons (.int _) (.cons (.int _) (.cons (.int _) (.cons (.int _) (.cons (.lst (SqL.of hL) (dp_all (fun _ _ z => LaV.dp z) hP)) .nil)))))
def DXA (B n : Nat) (H : Hp) (xs : List V) : Prop := ∃ ds, DaAll H xs ds ∧ ShAll B ds ∧ PyData.depthAll ds ≤ n ∧ PyData.canLayAll0 ds = true
theorem DXA.nil {n : Nat} {H : Hp} : DXA 0 n H [] := ⟨[], .nil, .nil, Nat.zero_le _, rfl⟩
theorem DXA.cons {b B n : Nat} {H : Hp} {x : V} {xs : List V} (h : DX b n H x) (k : DXA B n H xs) : DXA (b + 1 + B) n H (x :: xs) := by
  obtain ⟨d, h1, h2, h3, h4⟩ := h
  obtain ⟨ds, k1, k2, k3, k4⟩ := k
  refine ⟨d :: ds, .cons h1 k1, .cons h2 k2, ?_, ?_⟩
  · simp only [PyData.depthAll]
    exact Nat.max_le.mpr ⟨h3, k3⟩
  · simp only [PyData.canLayAll0, h4, k4, Bool.and_self]
theorem DXA.append {n : Nat} {H : Hp} : ∀ {xs ys : List V} {B C : Nat}, DXA B n H xs → DXA C n H ys → ∃ D, D ≤ B + C ∧ DXA D n H (xs ++ ys)
  | [], ys, B, C, _, k => ⟨C, by omega, k⟩
  | x :: xs, ys, B, C, ⟨ds, k1, k2, k3, k4⟩, k => by
    cases k1 with
    | cons h t =>
      rename_i d ds
      have s := k2.1
      have s2 := k2.2
      have s3 := k2.3
      have s4 := k2.4
      simp only [PyData.showableAll, PyData.hasDictAll, PyData.leavesShortAll, PyData.weightAll, Bool.and_eq_true, Bool.or_eq_false_iff] at s s2 s3 s4
      simp only [PyData.depthAll, PyData.canLayAll0, Bool.and_eq_true] at k3 k4
      obtain ⟨D, hD, q⟩ := DXA.append (xs := xs) (ys := ys) (B := PyData.weightAll ds) ⟨ds, t, ⟨s.2, s2.2, s3.2, Nat.le_refl _⟩, Nat.le_trans (Nat.le_max_right _ _) k3, k4.2⟩ k
      exact ⟨PyData.weight d + 1 + D, by omega, DXA.cons ⟨d, h, ⟨s.1, s2.1, s3.1, Nat.le_refl _⟩, Nat.le_trans (Nat.le_max_left _ _) k3, k4.1⟩ q⟩
theorem DXA.le {B C n m : Nat} {H : Hp} {xs : List V} (h : DXA B n H xs) (b : B ≤ C) (l : n ≤ m) : DXA C m H xs := by
  obtain ⟨ds, k1, k2, k3, k4⟩ := h
  exact ⟨ds, k1, ⟨k2.1, k2.2, k2.3, Nat.le_trans k2.4 b⟩, Nat.le_trans k3 l, k4⟩
theorem DXA.all {B n m : Nat} {H : Hp} {xs : List V} (h : ∀ x ∈ xs, DX B n H x) (l : xs.length ≤ m) : DXA ((B + 1) * m) n H xs := by
  obtain ⟨ds, k1, k2, k3, k4⟩ := dx_all h
  exact ⟨ds, k1, ⟨k2.1, k2.2, k2.3, Nat.le_trans k2.4 (Nat.mul_le_mul_left _ l)⟩, k3, k4⟩
theorem DX.tupA {B n : Nat} {H : Hp} {a : Addr} {xs : List V} (ha : H a = some (.tup xs)) (h : DXA B n H xs) (l : xs.length ≤ 1000000) : DX B (n + 1) H (.ref a) := by
  obtain ⟨ds, k1, k2, k3, k4⟩ := h
  refine ⟨.tuple ds, .tup ha k1 (by rw [← DaAll.length k1]; exact l), k2.tup, ?_, ?_⟩
  · simp only [PyData.depth]
    omega
  · simp only [PyData.canLay0]
    exact k4
theorem DX.lstA {B n : Nat} {H : Hp} {a : Addr} {xs : List V} (ha : H a = some (.lst xs)) (h : DXA B n H xs) (l : xs.length ≤ 1000000) : DX B (n + 1) H (.ref a) := by
  obtain ⟨ds, k1, k2, k3, k4⟩ := h
  refine ⟨.list ds, .lst ha k1 (by rw [← DaAll.length k1]; exact l), k2.lst, ?_, ?_⟩
  · simp only [PyData.depth]
    omega
  · simp only [PyData.canLay0]
    exact k4
theorem dx_word {H : Hp} {z : Str} (h : (PyData.str z).showable = true ∧ (PyData.str z).leavesShort 13 = true ∧ (PyData.str z).weight ≤ 60 ∧ (PyData.str z).canLay0 = true) : DX 60 0 H (.str z) := DX.str h.1 h.2.1 h.2.2.1 h.2.2.2
theorem up0 {B n : Nat} {H : Hp} {v : V} (h : DX B 0 H v) : DX B n H v := h.le (Nat.le_refl _) (Nat.zero_le _)
theorem ints36 {H : Hp} {a : Addr} {ns : List Int} (h : H a = some (.tup (ns.map V.int))) (l : ns.length ≤ 36) (hb : ∀ v ∈ ns, 0 ≤ v ∧ v ≤ 256) : DX 2196 1 H (.ref a) :=
  DX.tup (m := 36) h (by rw [List.length_map]; exact l) (by decide) fun x hx => by
    obtain ⟨n, hn, rfl⟩ := List.mem_map.mp hx
    have := hb n hn
    exact DX.int (by omega) (by omega)
theorem pc_dx {H : Hp} {v : V} {p : Pc} (h : PcV H v p) (k : p.Ok 6) : DX 4520 2 H v := by
  obtain ⟨a, va, ca, rfl, h1, h2, h3⟩ := h
  have k1 := k.w1
  have k2 := k.w2
  have k3 := k.h1
  have k4 := k.h2
  have z : p.w * p.h ≤ 6 * 6 := Int.mul_le_mul k2 k4 (by omega) (by decide)
  have z1 := k.vl
  have z2 := k.cl
  have d1 : DX 2196 1 H (.ref va) := ints36 h2 (by omega) fun v hv => by have := k.vb v hv; omega
  have d2 : DX 2196 1 H (.ref ca) := ints36 h3 (by omega) k.cb
  have e1 : DX 60 1 H (.int p.w) := up0 (DX.int (by omega) (by omega))
  have e2 : DX 60 1 H (.int p.h) := up0 (DX.int (by omega) (by omega))
  exact (DX.tupA h1 (.cons e1 (.cons e2 (.cons d1 (.cons d2 .nil)))) (by show 4 ≤ 1000000; decide)).le (by decide) (Nat.le_refl _)
theorem pa_dx {H : Hp} {v : V} {p : Pa} (h : PaV H v p) (k : p.Ok 6) : DX 4600 3 H v := by
  cases p with
  | solid x =>
    obtain ⟨a, rfl, ha⟩ := h
    obtain ⟨k1, k2⟩ := k
    exact (DX.tupA (n := 2) ha (.cons (up0 (dx_word (by decide +kernel))) (.cons (up0 (DX.int (by omega) (by omega))) .nil)) (by show 2 ≤ 1000000; decide)).le (by decide) (Nat.le_refl _)
  | steps f s z =>
    obtain ⟨a, rfl, ha⟩ := h
    obtain ⟨k1, k2, k3, k4, k5, k6⟩ := k
    exact (DX.tupA (n := 2) ha (.cons (up0 (dx_word (by decide +kernel))) (.cons (up0 (DX.int (by omega) (by omega))) (.cons (up0 (DX.int (by omega) (by omega))) (.cons (up0 (DX.int (by omega) (by omega))) .nil)))) (by show 4 ≤ 1000000; decide)).le (by decide) (Nat.le_refl _)
  | pic p =>
    obtain ⟨a, u, rfl, ha, hu⟩ := h
    exact (DX.tupA ha (.cons (up0 (dx_word (by decide +kernel))) (.cons (pc_dx hu k) .nil)) (by show 2 ≤ 1000000; decide)).le (by decide) (Nat.le_refl _)
theorem cl_dx {H : Hp} {v : V} {c : Cl} (h : ClV H v c) (k : c.OkF) (hf : c.fin ≤ 40) : DX 4900 4 H v := by
  obtain ⟨a, u, rfl, ha, hu⟩ := h
  have k1 := k.s0
  have k2 := k.n1
  have k3 := k.n2
  have k4 := k.fi0
  have k5 := k.fo0
  have k6 := k.fs
  have hf : c.s + c.n ≤ 40 := hf
  have d : DX 4600 3 H u := by
    have kp := k.pa
    cases hp : c.pa with
    | none =>
      rw [hp] at hu
      obtain rfl : u = .non := hu
      exact DX.non.le (by decide) (by decide)
    | some p =>
      rw [hp] at hu kp
      exact pa_dx hu kp
  have ha : H a = some (.tup [.int c.s, .int c.n, u, .int c.fi, .int c.fo]) := ha
  exact (DX.tupA ha (.cons (up0 (DX.int (by omega) (by omega))) (.cons (up0 (DX.int (by omega) (by omega))) (.cons d (.cons (up0 (DX.int (by omega) (by omega))) (.cons (up0 (DX.int (by omega) (by omega))) .nil))))) (by show 5 ≤ 1000000; decide)).le (by decide) (Nat.le_refl _)
/-- the items of a layer, told -/
structure LyD (H : Hp) (n b m w c : V) : Prop where
  n : DX 60 0 H n
  b : DX 320 1 H b
  m : DX 600 2 H m
  w : DX 200 1 H w
  c : DX 9810 5 H c
theorem LyD.ex {H H' : Hp} {n b m w c : V} (e : Ex H H') (h : LyD H n b m w c) : LyD H' n b m w c := ⟨h.1.ex e, h.2.ex e, h.3.ex e, h.4.ex e, h.5.ex e⟩
theorem ly_dx {H : Hp} {n b m w c : V} (h : LyD H n b m w c) : DXA 10995 5 H [n, b, m, w, c] :=
  .cons (up0 h.n) (.cons (h.b.le (Nat.le_refl _) (by decide)) (.cons (h.m.le (Nat.le_refl _) (by decide)) (.cons (h.w.le (Nat.le_refl _) (by decide)) (.cons h.c .nil))))
theorem bx_dx {H : Hp} {v : V} {b : Bx} (h : BxV H v b) (k : b.Ok) : DX 320 1 H v := by
  obtain ⟨a, rfl, ha⟩ := h
  obtain ⟨b1, b2, b3, b4, b5, b6, b7, b8⟩ := k
  exact (DX.tupA (n := 0) ha (.cons (DX.int (by omega) (by omega)) (.cons (DX.int (by omega) (by omega)) (.cons (DX.int (by omega) (by omega)) (.cons (DX.int (by omega) (by omega)) .nil)))) (by show 4 ≤ 1000000; decide)).le (by decide) (Nat.le_refl _)
theorem mvs_dx {H : Hp} {ma : Addr} {us : List V} {ms : List Mv} (h : H ma = some (.tup us)) (hM : MvsV H us ms) (k : MvsOk ms) : DX 600 2 H (.ref ma) := by
  have lu := hM.length
  have l3 := k.len
  refine (DX.tup (m := 3) (B := 190) h (by omega) (by decide) fun x hx => ?_).le (by decide) (Nat.le_refl _)
  obtain ⟨j, hj⟩ := List.getElem?_of_mem hx
  obtain ⟨m, hm, pp, rfl, hp⟩ := pr_get hM hj
  obtain ⟨k1, k2, k3, k4, k5, k6⟩ := k.ok m (List.mem_of_getElem? hm)
  exact (DX.tupA (n := 0) hp (.cons (DX.int (by omega) (by omega)) (.cons (DX.int (by omega) (by omega)) (.cons (DX.int (by omega) (by omega)) .nil))) (by show 3 ≤ 1000000; decide)).le (by decide) (Nat.le_refl _)
theorem cls_dx {H : Hp} {ca : Addr} {us : List V} {ad : Bool} {cs : List Cl} (h : H ca = some (.tup us)) (hC : ClsV H us cs) (k : ClsOkF ad cs) : DX 9810 5 H (.ref ca) := by
  have lu := hC.length
  have l2 := k.len
  refine (DX.tup (m := 2) (B := 4900) h (by omega) (by decide) fun x hx => ?_).le (by decide) (Nat.le_refl _)
  obtain ⟨j, hj⟩ := List.getElem?_of_mem hx
  obtain ⟨c, hc, hcv⟩ := pr_get hC hj
  have hcm := List.mem_of_getElem? hc
  exact cl_dx hcv (k.ok c hcm) (k.fin c hcm)
theorem nm_dx {H : Hp} {i : Nat} {n : Str} (h : NameOk i n) : DX 60 0 H (.str n) := by
  obtain ⟨c, t, hc, ht, rfl⟩ := h
  have hm : c ∈ ghijkl.cps.toList := List.mem_of_getElem? hc
  have hg : ghijkl.cps.toList = [103, 104, 105, 106, 107, 108] := by decide +kernel
  rw [hg] at hm
  unfold tails4 at ht
  simp only [List.mem_cons, List.not_mem_nil, or_false] at hm ht
  rcases hm with rfl | rfl | rfl | rfl | rfl | rfl <;> rcases ht with rfl | rfl | rfl | rfl <;> exact dx_word (by decide +kernel)
abbrev s_l_made : Stmt := top 71
theorem sc_l_made : FnScope ["parts"] ["parts"] (defScope s_l_made) := ⟨rfl, rfl, rfl, by decide +kernel, rfl, by decide +kernel, by decide +kernel⟩
def spMade (K : PySem.W.Frag) (C : Addr) : Sp := fun vs H Q _ => ∃ (v : V) (x : Fi), vs = [v] ∧ FiV H v x ∧ x.Vd ∧ ∀ u H', Ex H H' → FlV C H' u x → Q u H'
theorem ok_l_made {f C CB CD C1 C2 C3 C4 C5 : Addr} {fd : FuncData} (F : Fun K "_law_made" "_law_made" s_l_made f fd) (T : Txt K mg) (MK_Film : MkO P w K mg base (L2.CX P w) "Film" C 8 ["self", "width", "height", "frames", "background", "layers"] (spFilm41 C CB CD C1 C2 C3 C4 C5)) : FnOk P w K mg base CX0 10 f fd ["parts"] (spMade K C) := by
  refine F.ok sc_l_made (fun vs H Q E h => ?_) (fun cdv A outer s H vs Q E hr h => ?_)
  · obtain ⟨v, x, rfl, _⟩ := h
    rfl
  · obtain ⟨v, x, rfl, ⟨a, L, us, rfl, ha, hL, hP⟩, k, q⟩ := h
    refine ⟨_, (pss_one (ps_ret (pe_make MK_Film.M MK_Film.ok (hr.mono (by decide)) rfl MK_Film.mgC MK_Film.b .nil passL (pa_cons (pe_ix (kixT K) (pv 0) pe_int (fun _ _ => rfl)) (pa_cons (pe_ix (kixT K) (pv 0) pe_int (fun _ _ => rfl)) (pa_cons (pe_ix (kixT K) (pv 0) pe_int (fun _ _ => rfl)) (pa_cons (pe_ix (kixT K) (pv 0) pe_int (fun _ _ => rfl)) (pa_cons (pe_callTy (klist K) (by rfl) T.list_ bt_list (pa_cons (pe_ix (kixT K) (pv 0) pe_int (fun _ _ => rfl)) pa_nil)) pa_nil)))))))), ?_⟩
    rw [start_nrm (Nat.le_of_ble_eq_true rfl)]; dsimp only [startL]
    refine ⟨_, rfl, a, _, 0, _, rfl, rfl, SqT.of ha, rfl, _, rfl, a, _, 1, _, rfl, rfl, SqT.of ha, rfl, _, rfl, a, _, 2, _, rfl, rfl, SqT.of ha, rfl, _, rfl, a, _, 3, _, rfl, rfl, SqT.of ha, rfl, _, rfl, a, _, 4, _, rfl, rfl, SqT.of ha, rfl, L, us, rfl, .inl (SqL.of hL), fun l hl => ?_⟩
    have f1 := Ex.new (o := .lst us) hl
    have k1 : upd H l (.lst us) l = some (.lst us) := upd_same
    generalize upd H l (.lst us) = H1 at f1 k1 ⊢
    intro s dx hs hdx ne
    have e2 : Ex H1 (upd (upd H1 dx (.own s)) s (.ins C dx [])) := (Ex.new hdx).trans (Ex.new (by rw [upd_ne (Ne.symm ne)]; exact hs))
    have ks : upd (upd H1 dx (.own s)) s (.ins C dx []) s = some (.ins C dx []) := upd_same
    generalize upd (upd H1 dx (.own s)) s (.ins C dx []) = H2 at e2 ks ⊢
    have hP2 := Paired.mapP hP fun _ _ => LaV.tk (TK.ex (f1.trans e2))
    refine ⟨s, dx, _, _, _, _, l, us, .fine x, rfl, ks, e2 _ _ k1, by have := hP.length; have := k.len; omega, fun v hv => ?_, ⟨rfl, rfl, rfl, rfl, hP2, k⟩, fun x' ex H3 dx' L' hL' keep hs3 hL3 => ⟨rfl, ?_⟩, fun _ _ _ _ _ z => z.elim⟩
    · simp only [List.mem_cons, List.not_mem_nil, or_false] at hv
      rcases hv with rfl | rfl | rfl | rfl <;> exact ⟨_, .int _⟩
    cases ex
    have e3 : Ex H H3 := fun b o hb => by
      have h2 := (f1.trans e2) _ _ hb
      refine keep b o h2 fun z => ?_
      subst z
      have := f1 _ _ hb
      rw [hs] at this
      cases this
    refine q (.ref s) H3 e3 ⟨s, dx', L', us, rfl, hs3, hL3, Paired.mapP hP fun _ _ => LaV.tk (TK.ex e3)⟩
abbrev s_l_number : Stmt := top 73
theorem sc_l_number : FnScope ["script", "k", "most"] ["script", "k", "most"] (defScope s_l_number) := ⟨rfl, rfl, rfl, by decide +kernel, rfl, by decide +kernel, by decide +kernel⟩
/-- no number that is allowed -/
def oddN (most : Int) : List V := [.int 0, .int (-1), .int (most + 1), .bl true, .str "9", .non]
def spNumber41 (K : PySem.W.Frag) : Sp := fun vs H Q _ => ∃ (a : Addr) (ns : List Int) (k most : Int), vs = [.ref a, .int k, .int most] ∧ SqL K H a (ns.map V.int) ∧ 0 ≤ k ∧ ∀ v H', Ex H H' → v ∈ oddN most → Q v H'
theorem ok_l_number {f : Addr} {fd : FuncData} (F : Fun K "_law_number" "_law_number" s_l_number f fd) (T : Txt K mg) (D_l_draw : Def P w K mg base CX0 "_law_draw" 1 ["script", "k", "below"] (spDrawF K)) : FnOk P w K mg base CX0 2 f fd ["script", "k", "most"] (spNumber41 K) := by
  refine F.ok sc_l_number (fun vs H Q E h => ?_) (fun cdv A outer s H vs Q E hr h => ?_)
  · obtain ⟨a, ns, k, most, rfl, _⟩ := h
    rfl
  · obtain ⟨a, ns, k, most, rfl, hS, k0, q⟩ := h
    refine ⟨_, (pss_one (ps_ret (pe_ix (kixL K) (pe_lst (pa_cons pe_int (pa_cons (pe_un un_neg pe_int) (pa_cons (pe_op op_add (pv 2) pe_int) (pa_cons pe_bl (pa_cons pe_str (pa_cons pe_non pa_nil))))))) (pe_call D_l_draw.ok (hr.mono (by decide)) rfl D_l_draw.mgf D_l_draw.kp D_l_draw.b .nil pass0 (pa_cons (pv 0) (pa_cons (pv 1) (pa_cons pe_int pa_nil)))) (fun _ _ => rfl)))), ?_⟩
    rw [start_nrm (Nat.le_of_ble_eq_true rfl)]; dsimp only [startL]
    refine ⟨_, rfl, _, rfl, _, _, rfl, rfl, (by show 6 ≤ sizeLine; decide), fun l hl => ?_⟩
    have f1 := Ex.new (o := .lst [.int 0, .int (-1), .int (most + 1), .bl true, .str "9", .non]) hl
    have k1 : upd H l (.lst [.int 0, .int (-1), .int (most + 1), .bl true, .str "9", .non]) l = some (.lst (oddN most)) := upd_same
    generalize upd H l (.lst [.int 0, .int (-1), .int (most + 1), .bl true, .str "9", .non]) = H1 at f1 k1 ⊢
    refine ⟨_, rfl, _, rfl, a, ns, k, 6, rfl, ex_l f1 hS, k0, by decide, by decide, fun m m0 m1 => ?_⟩
    obtain ⟨v, hv, av⟩ := pickV (xs := oddN most) m0 m1
    exact ⟨l, _, m, v, rfl, rfl, SqL.of k1, av, q v H1 f1 hv⟩
abbrev s_l_told : Stmt := top 74
theorem sc_l_told : FnScope ["numbers", "layers", "film", "error", "told"] ["numbers", "layers"] (defScope s_l_told) := ⟨rfl, rfl, rfl, by decide +kernel, rfl, by decide +kernel, by decide +kernel⟩
def las41 (ls : List La) : PyData := .list (ls.map laD)
theorem las41_sh {ls : List La} (k : ∀ l ∈ ls, l.Vd) : SeqAt.shaped (las41 ls) = true := shaped_of (by
  simp only [las41, PyData.canLay0]
  exact canLay_mem _ fun l hl => la_lay (k l hl)) (by
  have h : PyData.depthAll (ls.map laD) ≤ 6 := depth_map la_depth _
  simp only [las41, PyData.depth]
  omega)
/-- what the law is told of it -/
def FTold : FO → List V
  | .num z => [.str "film", .str z] | .many => [.str "film", .str "layers"]
  | .bad i .layer => [.str "layer", .int i] | .bad _ .moves => [.str "moves", .non] | .bad _ .what => [.str "what", .non] | .bad _ .clip => [.str "clip", .non] | .bad _ .paint => [.str "paint", .non]
  | .dup _ n => [.str "double", .str n] | .fine _ => []
def TRes (H : Hp) (v : V) (o : FO) : Prop := match o with
  | .fine _ => v = .non
  | o => ∃ t, v = .ref t ∧ H t = some (.tup (FTold o))
theorem FIn.ex {H H' : Hp} {a b c d : V} {us : List V} {o : FO} (e : Ex H H') (h : FIn H a b c d us o) : FIn H' a b c d us o := by
  have lg : ∀ {vs : List V} {ls : List La}, LsG H vs ls → LsG H' vs ls := fun ⟨h1, h2, h3⟩ => ⟨Paired.mapP h1 fun _ _ => LaV.tk (TK.ex e), h2, h3⟩
  cases o with
  | num z => exact h
  | many => exact h
  | bad i k =>
    obtain ⟨h1, h2, ls, v, h3, h4, h5⟩ := h
    exact ⟨h1, h2, ls, v, lg h3, h4, h5.ex e⟩
  | dup i n =>
    obtain ⟨h1, h2, ls, l, v, h3, h4, h5, h6⟩ := h
    exact ⟨h1, h2, ls, l, v, lg h3, h4, h5.tk (TK.ex e), h6⟩
  | fine x =>
    obtain ⟨h1, h2, h3, h4, h5, h6⟩ := h
    exact ⟨h1, h2, h3, h4, Paired.mapP h5 fun _ _ => LaV.tk (TK.ex e), h6⟩
def spTold41 (K : PySem.W.Frag) : Sp := fun vs H Q _ => ∃ (N L : Addr) (a b c d : V) (us : List V) (o : FO), vs = [.ref N, .ref L] ∧ H N = some (.lst [a, b, c, d]) ∧ H L = some (.lst us) ∧ us.length ≤ 1000 ∧ (∀ v ∈ [a, b, c, d], ∃ T, Kn H v T) ∧ FIn H a b c d us o ∧ ∀ v H', Ex H H' → TRes H' v o → Q v H'
theorem ok_l_told {f C CB CD C1 C2 C3 C4 C5 D0 f0 : Addr} {fd : FuncData} (F : Fun K "_law_told" "_law_told" s_l_told f fd) (T : Txt K mg) (KT_FilmError : FilmTxt K mg D0 f0) (MK_Film : MkO P w K mg base (L2.CX P w) "Film" C 8 ["self", "width", "height", "frames", "background", "layers"] (spFilm41 C CB CD C1 C2 C3 C4 C5))
    (KB1 : KindOk P w K mg base "BadFilm" CB) (KB2 : KindOk P w K mg base "BadLayer" C1) (KB3 : KindOk P w K mg base "DuplicateLayer" CD) (KB4 : KindOk P w K mg base "BadMoves" C2) (KB5 : KindOk P w K mg base "BadWhat" C3) (KB6 : KindOk P w K mg base "BadClip" C4) (KB7 : KindOk P w K mg base "BadPaint" C5)
    (OT_Film : FilmT K C) (PF_Film_layers : Prp P w K mg base C "layers" 1 (spGetL C)) (PF_Film_background : Prp P w K mg base C "background" 1 (spGetI C Fi.b)) (PF_Film_frames : Prp P w K mg base C "frames" 1 (spGetI C Fi.n)) (PF_Film_height : Prp P w K mg base C "height" 1 (spGetI C Fi.h)) (PF_Film_width : Prp P w K mg base C "width" 1 (spGetI C Fi.w))
    (X_BadLayer_BadFilm : PySem.W.exmOne K (.ref C1) (.ref CB) = some false) (X_DuplicateLayer_BadFilm : PySem.W.exmOne K (.ref CD) (.ref CB) = some false) (X_DuplicateLayer_BadLayer : PySem.W.exmOne K (.ref CD) (.ref C1) = some false) (X_BadMoves_BadFilm : PySem.W.exmOne K (.ref C2) (.ref CB) = some false) (X_BadMoves_BadLayer : PySem.W.exmOne K (.ref C2) (.ref C1) = some false) (X_BadMoves_DuplicateLayer : PySem.W.exmOne K (.ref C2) (.ref CD) = some false) (X_BadWhat_BadFilm : PySem.W.exmOne K (.ref C3) (.ref CB) = some false) (X_BadWhat_BadLayer : PySem.W.exmOne K (.ref C3) (.ref C1) = some false) (X_BadWhat_DuplicateLayer : PySem.W.exmOne K (.ref C3) (.ref CD) = some false) (X_BadWhat_BadMoves : PySem.W.exmOne K (.ref C3) (.ref C2) = some false) (X_BadClip_BadFilm : PySem.W.exmOne K (.ref C4) (.ref CB) = some false) (X_BadClip_BadLayer : PySem.W.exmOne K (.ref C4) (.ref C1) = some false) (X_BadClip_DuplicateLayer : PySem.W.exmOne K (.ref C4) (.ref CD) = some false) (X_BadClip_BadMoves : PySem.W.exmOne K (.ref C4) (.ref C2) = some false) (X_BadClip_BadWhat : PySem.W.exmOne K (.ref C4) (.ref C3) = some false) (X_BadPaint_BadFilm : PySem.W.exmOne K (.ref C5) (.ref CB) = some false) (X_BadPaint_BadLayer : PySem.W.exmOne K (.ref C5) (.ref C1) = some false) (X_BadPaint_DuplicateLayer : PySem.W.exmOne K (.ref C5) (.ref CD) = some false) (X_BadPaint_BadMoves : PySem.W.exmOne K (.ref C5) (.ref C2) = some false) (X_BadPaint_BadWhat : PySem.W.exmOne K (.ref C5) (.ref C3) = some false) (X_BadPaint_BadClip : PySem.W.exmOne K (.ref C5) (.ref C4) = some false) : FnOk P w K mg base CX0 10 f fd ["numbers", "layers"] (spTold41 K) := by
  refine F.ok sc_l_told (fun vs H Q E h => ?_) (fun cdv A outer s H vs Q E hr h => ?_)
  · obtain ⟨N, L, a, b, c, d, us, o, rfl, _⟩ := h
    rfl
  · obtain ⟨N, L, a, b, c, d, us, o, rfl, hN, hL, lus, kn, hin, q⟩ := h
    obtain ⟨fC1, KT_BadFilm, fdC1, GC1, _, _⟩ := KB1
    obtain ⟨fC2, KT_BadLayer, fdC2, GC2, _, _⟩ := KB2
    obtain ⟨fC3, KT_DuplicateLayer, fdC3, GC3, _, _⟩ := KB3
    obtain ⟨fC4, KT_BadMoves, fdC4, GC4, _, _⟩ := KB4
    obtain ⟨fC5, KT_BadWhat, fdC5, GC5, _, _⟩ := KB5
    obtain ⟨fC6, KT_BadClip, fdC6, GC6, _, _⟩ := KB6
    obtain ⟨fC7, KT_BadPaint, fdC7, GC7, _, _⟩ := KB7
    refine ⟨_, (pss_cons (ps_try_manyM rfl rfl sc_l_told.nd takes0 (fun W pn xe tk _ => (pss_one (ps_set (i := 2) sc_l_told.nd rfl (by first | exact Or.inl rfl | exact Or.inr rfl) (pe_makeS MK_Film.M MK_Film.ok (hr.mono (by decide)) rfl MK_Film.mgC MK_Film.b .nil (fun σ => passAt tk σ) (pa_cons (pe_ix (kixL K) (pv 0) pe_int (fun _ _ => rfl)) (pa_cons (pe_ix (kixL K) (pv 0) pe_int (fun _ _ => rfl)) (pa_cons (pe_ix (kixL K) (pv 0) pe_int (fun _ _ => rfl)) (pa_cons (pe_ix (kixL K) (pv 0) pe_int (fun _ _ => rfl)) (pa_cons (pv 1) pa_nil))))))))) (.cons (i := 3) rfl rfl ⟨rfl, by decide, .inl KT_BadFilm.g⟩ (fun a oe cls d pn hz hf => (pss_one (ps_ret (pe_tup (pa_cons pe_str (pa_cons (pe_xf KT_BadFilm.xf KT_BadFilm.noP hz hf (pv 3)) pa_nil)))))) (.cons (i := 3) rfl rfl ⟨rfl, by decide, .inl KT_BadLayer.g⟩ (fun a oe cls d pn hz hf => (pss_one (ps_ret (pe_tup (pa_cons pe_str (pa_cons (pe_xf KT_BadLayer.xf KT_BadLayer.noP hz hf (pv 3)) pa_nil)))))) (.cons (i := 3) rfl rfl ⟨rfl, by decide, .inl KT_DuplicateLayer.g⟩ (fun a oe cls d pn hz hf => (pss_one (ps_ret (pe_tup (pa_cons pe_str (pa_cons (pe_xf KT_DuplicateLayer.xf KT_DuplicateLayer.noP hz hf (pv 3)) pa_nil)))))) (.plain ⟨rfl, by decide, .inl KT_BadMoves.g⟩ (fun a oe cls d pn hz hf => (pss_one (ps_ret (pe_tup (pa_cons pe_str (pa_cons pe_non pa_nil)))))) (.plain ⟨rfl, by decide, .inl KT_BadWhat.g⟩ (fun a oe cls d pn hz hf => (pss_one (ps_ret (pe_tup (pa_cons pe_str (pa_cons pe_non pa_nil)))))) (.plain ⟨rfl, by decide, .inl KT_BadClip.g⟩ (fun a oe cls d pn hz hf => (pss_one (ps_ret (pe_tup (pa_cons pe_str (pa_cons pe_non pa_nil)))))) (.plain ⟨rfl, by decide, .inl KT_BadPaint.g⟩ (fun a oe cls d pn hz hf => (pss_one (ps_ret (pe_tup (pa_cons pe_str (pa_cons pe_non pa_nil)))))) (.plain ⟨rfl, by decide, .inl KT_FilmError.g⟩ (fun a oe cls d pn hz hf => (pss_one (ps_ret (pe_tup (pa_cons pe_str (pa_cons pe_non pa_nil)))))) .nil)))))))))
      (pss_cons (ps_set (i := 4) sc_l_told.nd rfl (by first | exact Or.inl rfl | exact Or.inr rfl) (pe_prop (pv 2) OT_Film.cl PF_Film_layers.hp PF_Film_layers.ok (hr.mono (by decide)) PF_Film_layers.b .nil pass0 rfl))
      (pss_cons (ps_expr (pe_bm PySem.F.plainAttrs_list PySem.F.slot_list_append PySem.F.type_list_append mt_append (pv 4) (pa_cons pe_str pa_nil)))
      (pss_cons (ps_if (PW.pt (pw_or (pt_cmpR (kneD K hr.units) (pe_lst (pa_cons (pe_prop (pv 2) OT_Film.cl PF_Film_width.hp PF_Film_width.ok (hr.mono (by decide)) PF_Film_width.b .nil pass0 rfl) (pa_cons (pe_prop (pv 2) OT_Film.cl PF_Film_height.hp PF_Film_height.ok (hr.mono (by decide)) PF_Film_height.b .nil pass0 rfl) (pa_cons (pe_prop (pv 2) OT_Film.cl PF_Film_frames.hp PF_Film_frames.ok (hr.mono (by decide)) PF_Film_frames.b .nil pass0 rfl) (pa_cons (pe_prop (pv 2) OT_Film.cl PF_Film_background.hp PF_Film_background.ok (hr.mono (by decide)) PF_Film_background.b .nil pass0 rfl) pa_nil))))) (pv 0) (nomark _)) (pw_or1 (pt_cmpR (kneD K hr.units) (pe_prop (pv 2) OT_Film.cl PF_Film_layers.hp PF_Film_layers.ok (hr.mono (by decide)) PF_Film_layers.b .nil pass0 rfl) (pv 1) (nomark _)))))
        (pss_one (ps_ret (pe_tup (pa_cons pe_str (pa_cons pe_non pa_nil)))))
        pss_nil)
      (pss_one (ps_ret pe_non)))))), ?_⟩
    rw [start_nrm (Nat.le_of_ble_eq_true rfl)]; dsimp only [startL]
    refine ⟨_, rfl, N, _, 0, _, rfl, rfl, SqL.of hN, rfl, _, rfl, N, _, 1, _, rfl, rfl, SqL.of hN, rfl, _, rfl, N, _, 2, _, rfl, rfl, SqL.of hN, rfl, _, rfl, N, _, 3, _, rfl, rfl, SqL.of hN, rfl, _, rfl, ?_⟩
    intro s dx hs hdx ne
    have e2 : Ex H (upd (upd H dx (.own s)) s (.ins C dx [])) := (Ex.new hdx).trans (Ex.new (by rw [upd_ne (Ne.symm ne)]; exact hs))
    have ks : upd (upd H dx (.own s)) s (.ins C dx []) s = some (.ins C dx []) := upd_same
    generalize upd (upd H dx (.own s)) s (.ins C dx []) = H2 at e2 ks ⊢
    have e02 := e2
    refine ⟨s, dx, a, b, c, d, L, us, o, rfl, ks, e2 _ _ hL, lus, fun v hv => by obtain ⟨T', k'⟩ := kn v hv; exact ⟨T', k'.mono e2⟩, hin.ex e2, fun x ex H3 dx' L' hL' keep hs3 hL3 => ⟨rfl, ?_⟩, fun cc wd p d2 H3 hE h1 h2 h3 => ?_⟩
    · subst ex
      obtain ⟨rfl, rfl, rfl, rfl, hP, k⟩ := hin
      have e3 : Ex H H3 := fun b o hb => by
        have h2 := e2 _ _ hb
        refine keep b o h2 fun z => ?_
        subst z
        rw [hs] at hb
        cases hb
      have lx := k.len
      have hf : FlV C H3 (.ref s) x := ⟨s, dx', L', us, rfl, hs3, hL3, Paired.mapP hP fun _ _ => LaV.tk (TK.ex e3)⟩
      dsimp only [List.set]
      refine ⟨_, rfl, s, dx', _, rfl, hs3, .ref s, x, rfl, hf, by omega, fun p us4 H4 hp e4 hpl hP4 => ?_⟩
      dsimp only [List.set]
      have l4 := hP4.length
      refine ⟨_, rfl, .inl ⟨rfl, _, SqL.of hpl⟩, ?_⟩
      refine ⟨p, us4, .str "spoilt", rfl, rfl, hpl, slineL (by omega), ?_⟩
      have e35 : Ex H3 (upd H4 p (.lst (us4 ++ [.str "spoilt"]))) := e4.mut hp
      generalize upd H4 p (.lst (us4 ++ [.str "spoilt"])) = H5 at e35 ⊢
      have hs5 := e35 _ _ hs3
      have hf5 := hf.ex e35
      refine ⟨_, rfl, s, dx', _, rfl, hs5, .ref s, x, rfl, hf5, ?_⟩
      refine ⟨_, rfl, s, dx', _, rfl, hs5, .ref s, x, rfl, hf5, ?_⟩
      refine ⟨_, rfl, s, dx', _, rfl, hs5, .ref s, x, rfl, hf5, ?_⟩
      refine ⟨_, rfl, s, dx', _, rfl, hs5, .ref s, x, rfl, hf5, ?_⟩
      refine ⟨(by show 4 ≤ sizeLine; decide), fun l hl => ?_⟩
      have f6 := Ex.new (o := .lst [.int x.w, .int x.h, .int x.n, .int x.b]) hl
      have k6 : upd H5 l (.lst [.int x.w, .int x.h, .int x.n, .int x.b]) l = some (.lst ([x.w, x.h, x.n, x.b].map V.int)) := upd_same
      generalize upd H5 l (.lst [.int x.w, .int x.h, .int x.n, .int x.b]) = H6 at f6 k6 ⊢
      have e06 := (e3.trans e35).trans f6
      have hN6 : H6 N = some (.lst ([x.w, x.h, x.n, x.b].map V.int)) := e06 _ _ hN
      have sh : SeqAt.shaped (.list ([x.w, x.h, x.n, x.b].map PyData.int)) = true := eqs_int.lst.shaped (by decide) _
      refine ⟨_, rfl, _, _, .lst (SqL.of k6) (dp_ints _), .lst (SqL.of hN6) (dp_ints _), sh, sh, _, rfl, ?_⟩
      rw [show PyData.eqv (.list ([x.w, x.h, x.n, x.b].map PyData.int)) (.list ([x.w, x.h, x.n, x.b].map PyData.int)) = true from eqv_self (eqs_int.lst.2.1 _)]
      refine iteF ?_
      refine ⟨_, rfl, s, dx', _, rfl, f6 _ _ hs5, .ref s, x, rfl, hf5.ex f6, by omega, fun p7 us7 H7 _ e7 hp7 hP7 => ?_⟩
      have e07 := e06.trans e7
      refine ⟨_, rfl, las41 x.ls, las41 x.ls, .lst (SqL.of hp7) (dp_all (fun _ _ z => LaV.dp z) hP7), .lst (SqL.of (e07 _ _ hL)) (dp_all (fun _ _ z => LaV.dp z) (Paired.mapP hP fun _ _ => LaV.tk (TK.ex e07))), las41_sh k.ok, las41_sh k.ok, _, rfl, ?_⟩
      rw [eqv_self (show (las41 x.ls).canLay0 = true by simp only [las41, PyData.canLay0]; exact canLay_mem _ fun l hl => la_lay (k.ok l hl))]
      refine iteF ?_
      exact q _ _ e07 rfl
    · cases o with
      | num z =>
        obtain ⟨rfl, rfl, rfl⟩ := hE
        exact ⟨true, KT_BadFilm.te, fun _ b hb => ⟨_, rfl, rfl, rfl, d2, _, _, rfl, h3, rfl, (by show 2 ≤ sizeLine; decide), fun t ht => q _ _ (e02.trans (h2.trans (Ex.new ht))) ⟨t, rfl, upd_same⟩⟩, fun z => Bool.noConfusion z⟩
      | many =>
        obtain ⟨rfl, rfl, rfl⟩ := hE
        exact ⟨true, KT_BadFilm.te, fun _ b hb => ⟨_, rfl, rfl, rfl, d2, _, _, rfl, h3, rfl, (by show 2 ≤ sizeLine; decide), fun t ht => q _ _ (e02.trans (h2.trans (Ex.new ht))) ⟨t, rfl, upd_same⟩⟩, fun z => Bool.noConfusion z⟩
      | fine x => exact hE.elim
      | dup i n =>
        obtain ⟨rfl, rfl, rfl⟩ := hE
        exact ⟨false, X_DuplicateLayer_BadFilm, fun z => Bool.noConfusion z, fun _ => ⟨false, X_DuplicateLayer_BadLayer, fun z => Bool.noConfusion z, fun _ => ⟨true, KT_DuplicateLayer.te, fun _ b hb => ⟨_, rfl, rfl, rfl, d2, _, _, rfl, h3, rfl, (by show 2 ≤ sizeLine; decide), fun t ht => q _ _ (e02.trans (h2.trans (Ex.new ht))) ⟨t, rfl, upd_same⟩⟩, fun z => Bool.noConfusion z⟩⟩⟩
      | bad i k =>
        obtain ⟨rfl, rfl, hp⟩ := hE
        cases k with
        | layer =>
          obtain rfl := hp rfl
          exact ⟨false, X_BadLayer_BadFilm, fun z => Bool.noConfusion z, fun _ => ⟨true, KT_BadLayer.te, fun _ b hb => ⟨_, rfl, rfl, rfl, d2, _, _, rfl, h3, rfl, (by show 2 ≤ sizeLine; decide), fun t ht => q _ _ (e02.trans (h2.trans (Ex.new ht))) ⟨t, rfl, upd_same⟩⟩, fun z => Bool.noConfusion z⟩⟩
        | moves => exact ⟨false, X_BadMoves_BadFilm, fun z => Bool.noConfusion z, fun _ => ⟨false, X_BadMoves_BadLayer, fun z => Bool.noConfusion z, fun _ => ⟨false, X_BadMoves_DuplicateLayer, fun z => Bool.noConfusion z, fun _ => ⟨true, KT_BadMoves.te, fun _ b hb => ⟨(by show 2 ≤ sizeLine; decide), fun t ht => q _ _ (e02.trans (h2.trans (Ex.new ht))) ⟨t, rfl, upd_same⟩⟩, fun z => Bool.noConfusion z⟩⟩⟩⟩
        | what => exact ⟨false, X_BadWhat_BadFilm, fun z => Bool.noConfusion z, fun _ => ⟨false, X_BadWhat_BadLayer, fun z => Bool.noConfusion z, fun _ => ⟨false, X_BadWhat_DuplicateLayer, fun z => Bool.noConfusion z, fun _ => ⟨false, X_BadWhat_BadMoves, fun z => Bool.noConfusion z, fun _ => ⟨true, KT_BadWhat.te, fun _ b hb => ⟨(by show 2 ≤ sizeLine; decide), fun t ht => q _ _ (e02.trans (h2.trans (Ex.new ht))) ⟨t, rfl, upd_same⟩⟩, fun z => Bool.noConfusion z⟩⟩⟩⟩⟩
        | clip => exact ⟨false, X_BadClip_BadFilm, fun z => Bool.noConfusion z, fun _ => ⟨false, X_BadClip_BadLayer, fun z => Bool.noConfusion z, fun _ => ⟨false, X_BadClip_DuplicateLayer, fun z => Bool.noConfusion z, fun _ => ⟨false, X_BadClip_BadMoves, fun z => Bool.noConfusion z, fun _ => ⟨false, X_BadClip_BadWhat, fun z => Bool.noConfusion z, fun _ => ⟨true, KT_BadClip.te, fun _ b hb => ⟨(by show 2 ≤ sizeLine; decide), fun t ht => q _ _ (e02.trans (h2.trans (Ex.new ht))) ⟨t, rfl, upd_same⟩⟩, fun z => Bool.noConfusion z⟩⟩⟩⟩⟩⟩
        | paint => exact ⟨false, X_BadPaint_BadFilm, fun z => Bool.noConfusion z, fun _ => ⟨false, X_BadPaint_BadLayer, fun z => Bool.noConfusion z, fun _ => ⟨false, X_BadPaint_DuplicateLayer, fun z => Bool.noConfusion z, fun _ => ⟨false, X_BadPaint_BadMoves, fun z => Bool.noConfusion z, fun _ => ⟨false, X_BadPaint_BadWhat, fun z => Bool.noConfusion z, fun _ => ⟨false, X_BadPaint_BadClip, fun z => Bool.noConfusion z, fun _ => ⟨true, KT_BadPaint.te, fun _ b hb => ⟨(by show 2 ≤ sizeLine; decide), fun t ht => q _ _ (e02.trans (h2.trans (Ex.new ht))) ⟨t, rfl, upd_same⟩⟩, fun z => Bool.noConfusion z⟩⟩⟩⟩⟩⟩⟩
abbrev s_l_spoilt_layer : Stmt := top 72
theorem sc_l_spoilt_layer : FnScope ["script", "k", "layer", "name", "box", "moves", "what", "clips", "kind", "at", "odd"] ["script", "k", "layer"] (defScope s_l_spoilt_layer) := ⟨rfl, rfl, rfl, by decide +kernel, rfl, by decide +kernel, by decide +kernel⟩
theorem ints_deep {H : Hp} {a : Addr} {m : Nat} (ns : List Int) (h : H a = some (.tup (ns.map V.int))) (l : ns.length ≤ m) : Deep m 1 H (.ref a) := by
  refine .tup h (by rw [List.length_map]; exact l) fun y hy => ?_
  obtain ⟨i, _, rfl⟩ := List.mem_map.mp hy
  exact .int
def LK.told : LK → Str
  | .layer => "layer" | .moves => "moves" | .what => "what" | .clip => "clip" | .paint => "paint"
/-- the same but for some objects -/
def Off (S : Addr → Prop) (H H' : Hp) : Prop := ∀ b o, ¬ S b → H b = some o → H' b = some o
theorem Off.of {S : Addr → Prop} {H H1 H2 : Hp} (o : Off S H1 H2) (e : Ex H H1) : Off S H H2 := fun b u n hb => o b u n (e b u hb)
theorem Off.ex {S : Addr → Prop} {H H1 H2 : Hp} (o : Off S H H1) (e : Ex H1 H2) : Off S H H2 := fun b u n hb => e b u (o b u n hb)
theorem Off.mut {S : Addr → Prop} {H H1 : Hp} {D : Addr} {u : HO} (o : Off S H H1) (h : S D) : Off S H (upd H1 D u) := fun b x n hb => by rw [upd_ne (fun z : b = D => n (by rw [z]; exact h))]; exact o b x n hb
/-- a good layer with its items at hand -/
structure LyG (H : Hp) (a : Addr) (n : Str) (b m w c : V) : Prop where
  at_ : H a = some (.tup [.str n, b, m, w, c])
  d : LyD H (.str n) b m w c
  nm : nameS n = true
  bx : ∃ bx, BxV H b bx ∧ bx.Vd
  ms : MvsG H m
theorem LyG.ex {H H' : Hp} {a : Addr} {n : Str} {b m w c : V} (e : Ex H H') (h : LyG H a n b m w c) : LyG H' a n b m w c := by
  obtain ⟨bx, k1, k2⟩ := h.bx
  exact ⟨e _ _ h.at_, h.d.ex e, h.nm, ⟨bx, k1.tk (TK.ex e), k2⟩, h.ms.ex e⟩
theorem LyG.pre {H : Hp} {a : Addr} {n : Str} {b m w c : V} (h : LyG H a n b m w c) : PreV H (.str n) b := by
  obtain ⟨bx, k1, k2⟩ := h.bx
  exact ⟨n, bx, rfl, h.nm, k1, k2⟩
def spSpoilt41 (K : PySem.W.Frag) : Sp := fun vs H Q _ => ∃ (a la : Addr) (ns : List Int) (k : Int) (n : Str) (b m w c : V), vs = [.ref a, .int k, .ref la] ∧ SqL K H a (ns.map V.int) ∧ 0 ≤ k ∧ ∃ S : Addr → Prop, (∀ p, S p → ∃ z, H p = some (.lst z)) ∧ LyG H la n b m w c ∧ (∀ Z, Off S H Z → LyG Z la n b m w c) ∧
  ∀ t v o H', Ex H H' → H' t = some (.tup [v, .str o.told]) → (∀ Z, Off S H' Z → LyBad Z v o ∧ DX 12000 6 Z v) → Q (.ref t) H'
theorem ok_l_spoilt_layer {f : Addr} {fd : FuncData} (F : Fun K "_law_spoilt_layer" "_law_spoilt_layer" s_l_spoilt_layer f fd) (T : Txt K mg) (D_l_draw : Def P w K mg base CX0 "_law_draw" 1 ["script", "k", "below"] (spDrawF K)) : FnOk P w K mg base CX0 2 f fd ["script", "k", "layer"] (spSpoilt41 K) := by
  refine F.ok sc_l_spoilt_layer (fun vs H Q E h => ?_) (fun cdv A outer s H vs Q E hr h => ?_)
  · obtain ⟨a, la, ns, k, n, b, m, w, c, rfl, _⟩ := h
    rfl
  · obtain ⟨a, la, ns, k, n, b, m, w_, c, rfl, hS, k0, S, hD, g, gG, q⟩ := h
    have ne : ∀ {G : Hp} {p : Addr}, Ex H G → G p = none → ¬ S p := fun e h z => by obtain ⟨y, hy⟩ := hD _ z; rw [e _ _ hy] at h; cases h
    have nt : ∀ {G G' : Hp} {p : Addr} {xs : List V}, Ex G G' → Ex H G' → G p = some (.tup xs) → ¬ S p := fun e e' h z => by
      obtain ⟨y, hy⟩ := hD _ z
      have h1 := e _ _ h
      rw [e' _ _ hy] at h1
      cases h1
    refine ⟨_, (pss_cons (ps_asg (pv 2) (kpgT K (n := 5) rfl (pgs_cons (pg_name (i := 3) sc_l_spoilt_layer.nd rfl (by first | exact Or.inl rfl | exact Or.inr rfl)) (pgs_cons (pg_name (i := 4) sc_l_spoilt_layer.nd rfl (by first | exact Or.inl rfl | exact Or.inr rfl)) (pgs_cons (pg_name (i := 5) sc_l_spoilt_layer.nd rfl (by first | exact Or.inl rfl | exact Or.inr rfl)) (pgs_cons (pg_name (i := 6) sc_l_spoilt_layer.nd rfl (by first | exact Or.inl rfl | exact Or.inr rfl)) (pgs_cons (pg_name (i := 7) sc_l_spoilt_layer.nd rfl (by first | exact Or.inl rfl | exact Or.inr rfl)) pgs_nil)))))))
      (pss_cons (ps_set (i := 8) sc_l_spoilt_layer.nd rfl (by first | exact Or.inl rfl | exact Or.inr rfl) (pe_call D_l_draw.ok (hr.mono (by decide)) rfl D_l_draw.mgf D_l_draw.kp D_l_draw.b .nil pass0 (pa_cons (pv 0) (pa_cons (pv 1) (pa_cons pe_int pa_nil)))))
      (pss_cons (ps_if (pt_cmpR op_eq (pv 8) pe_int (nomark _))
        (pss_one (ps_ret (pe_tup (pa_cons (pe_ix (kixL K) (pe_lst (pa_cons (pe_callTy (klist K) (by rfl) T.list_ bt_list (pa_cons (pv 2) pa_nil)) (pa_cons (pe_slice (kslA K) (pv 2) po_none (po_some pe_int)) (pa_cons (pe_op (kcatA K) (pv 2) (pe_tup (pa_cons pe_int pa_nil))) (pa_cons pe_str (pa_cons pe_non pa_nil)))))) (pe_call D_l_draw.ok (hr.mono (by decide)) rfl D_l_draw.mgf D_l_draw.kp D_l_draw.b .nil pass0 (pa_cons (pv 0) (pa_cons (pe_op op_add (pv 1) pe_int) (pa_cons pe_int pa_nil)))) (fun _ _ => rfl)) (pa_cons pe_str pa_nil)))))
        pss_nil)
      (pss_cons (ps_if (pt_cmpR op_eq (pv 8) pe_int (nomark _))
        (pss_one (ps_ret (pe_tup (pa_cons (pe_tup (pa_cons (pe_ix (kixL K) (pe_lst (pa_cons pe_str (pa_cons pe_str (pa_cons pe_str (pa_cons pe_int (pa_cons pe_non (pa_cons pe_str pa_nil))))))) (pe_call D_l_draw.ok (hr.mono (by decide)) rfl D_l_draw.mgf D_l_draw.kp D_l_draw.b .nil pass0 (pa_cons (pv 0) (pa_cons (pe_op op_add (pv 1) pe_int) (pa_cons pe_int pa_nil)))) (fun _ _ => rfl)) (pa_cons (pv 4) (pa_cons (pv 5) (pa_cons (pv 6) (pa_cons (pv 7) pa_nil)))))) (pa_cons pe_str pa_nil)))))
        pss_nil)
      (pss_cons (ps_if (pt_cmpR op_eq (pv 8) pe_int (nomark _))
        (pss_one (ps_ret (pe_tup (pa_cons (pe_tup (pa_cons (pv 3) (pa_cons (pe_ix (kixL K) (pe_lst (pa_cons (pe_callTy (klist K) (by rfl) T.list_ bt_list (pa_cons (pv 4) pa_nil)) (pa_cons (pe_slice (kslA K) (pv 4) po_none (po_some pe_int)) (pa_cons (pe_op (kcatA K) (pv 4) (pe_tup (pa_cons pe_int pa_nil))) (pa_cons pe_non pa_nil))))) (pe_call D_l_draw.ok (hr.mono (by decide)) rfl D_l_draw.mgf D_l_draw.kp D_l_draw.b .nil pass0 (pa_cons (pv 0) (pa_cons (pe_op op_add (pv 1) pe_int) (pa_cons pe_int pa_nil)))) (fun _ _ => rfl)) (pa_cons (pv 5) (pa_cons (pv 6) (pa_cons (pv 7) pa_nil)))))) (pa_cons pe_str pa_nil)))))
        pss_nil)
      (pss_cons (ps_if (pt_cmpR op_lt (pv 8) pe_int (nomark _))
        (pss_cons (ps_set (i := 9) sc_l_spoilt_layer.nd rfl (by first | exact Or.inl rfl | exact Or.inr rfl) (pe_call D_l_draw.ok (hr.mono (by decide)) rfl D_l_draw.mgf D_l_draw.kp D_l_draw.b .nil pass0 (pa_cons (pv 0) (pa_cons (pe_op op_add (pv 1) pe_int) (pa_cons pe_int pa_nil)))))
        (pss_cons (ps_set (i := 10) sc_l_spoilt_layer.nd rfl (by first | exact Or.inl rfl | exact Or.inr rfl) (pe_ix (kixL K) (pe_lst (pa_cons pe_int (pa_cons (pe_un un_neg pe_int) (pa_cons pe_bl (pa_cons pe_str pa_nil))))) (pe_call D_l_draw.ok (hr.mono (by decide)) rfl D_l_draw.mgf D_l_draw.kp D_l_draw.b .nil pass0 (pa_cons (pv 0) (pa_cons (pe_op op_add (pv 1) pe_int) (pa_cons pe_int pa_nil)))) (fun _ _ => rfl)))
        (pss_cut (ps_if (pt_cmpR op_gt (pv 9) pe_int (nomark _))
          (pss_one (ps_set (i := 10) sc_l_spoilt_layer.nd rfl (by first | exact Or.inl rfl | exact Or.inr rfl) (pe_ix (kixL K) (pe_lst (pa_cons pe_int (pa_cons pe_int (pa_cons pe_bl (pa_cons pe_non pa_nil))))) (pe_call D_l_draw.ok (hr.mono (by decide)) rfl D_l_draw.mgf D_l_draw.kp D_l_draw.b .nil pass0 (pa_cons (pv 0) (pa_cons (pe_op op_add (pv 1) pe_int) (pa_cons pe_int pa_nil)))) (fun _ _ => rfl))))
          pss_nil)
        (pss_one (ps_ret (pe_tup (pa_cons (pe_tup (pa_cons (pv 3) (pa_cons (pe_op (kcatA K) (pe_op (kcatA K) (pe_slice (kslA K) (pv 4) po_none (po_some (pv 9))) (pe_tup (pa_cons (pv 10) pa_nil))) (pe_slice (kslA K) (pv 4) (po_some (pe_op op_add (pv 9) pe_int)) po_none)) (pa_cons (pv 5) (pa_cons (pv 6) (pa_cons (pv 7) pa_nil)))))) (pa_cons pe_str pa_nil))))))))
        pss_nil)
      (pss_cons (ps_if (pt_cmpR op_eq (pv 8) pe_int (nomark _))
        (pss_one (ps_ret (pe_tup (pa_cons (pe_tup (pa_cons (pv 3) (pa_cons (pv 4) (pa_cons (pe_ix (kixL K) (pe_lst (pa_cons (pe_lst pa_nil) (pa_cons (pe_tup (pa_cons (pe_tup (pa_cons pe_int (pa_cons pe_int pa_nil))) pa_nil)) (pa_cons (pe_tup (pa_cons (pe_tup (pa_cons pe_int (pa_cons pe_int (pa_cons pe_int pa_nil)))) (pa_cons (pe_tup (pa_cons pe_int (pa_cons pe_int (pa_cons pe_int pa_nil)))) pa_nil))) pa_nil)))) (pe_call D_l_draw.ok (hr.mono (by decide)) rfl D_l_draw.mgf D_l_draw.kp D_l_draw.b .nil pass0 (pa_cons (pv 0) (pa_cons (pe_op op_add (pv 1) pe_int) (pa_cons pe_int pa_nil)))) (fun _ _ => rfl)) (pa_cons (pv 6) (pa_cons (pv 7) pa_nil)))))) (pa_cons pe_str pa_nil)))))
        pss_nil)
      (pss_cons (ps_if (pt_cmpR op_eq (pv 8) pe_int (nomark _))
        (pss_one (ps_ret (pe_tup (pa_cons (pe_tup (pa_cons (pv 3) (pa_cons (pv 4) (pa_cons (pv 5) (pa_cons (pe_ix (kixL K) (pe_lst (pa_cons (pe_tup (pa_cons pe_str pa_nil)) (pa_cons (pe_tup pa_nil) (pa_cons pe_str (pa_cons (pe_tup (pa_cons pe_str (pa_cons pe_int pa_nil))) pa_nil))))) (pe_call D_l_draw.ok (hr.mono (by decide)) rfl D_l_draw.mgf D_l_draw.kp D_l_draw.b .nil pass0 (pa_cons (pv 0) (pa_cons (pe_op op_add (pv 1) pe_int) (pa_cons pe_int pa_nil)))) (fun _ _ => rfl)) (pa_cons (pv 7) pa_nil)))))) (pa_cons pe_str pa_nil)))))
        pss_nil)
      (pss_cons (ps_if (pt_cmpR op_eq (pv 8) pe_int (nomark _))
        (pss_one (ps_ret (pe_tup (pa_cons (pe_tup (pa_cons (pv 3) (pa_cons (pv 4) (pa_cons (pv 5) (pa_cons (pe_tup (pa_cons pe_str pa_nil)) (pa_cons (pe_tup (pa_cons (pe_tup (pa_cons pe_int (pa_cons pe_int (pa_cons (pe_tup (pa_cons pe_str (pa_cons pe_int pa_nil))) (pa_cons pe_int (pa_cons pe_int pa_nil)))))) pa_nil)) pa_nil)))))) (pa_cons pe_str pa_nil)))))
        pss_nil)
      (pss_one (ps_ret (pe_tup (pa_cons (pe_tup (pa_cons (pv 3) (pa_cons (pv 4) (pa_cons (pv 5) (pa_cons (pe_tup (pa_cons pe_str (pa_cons pe_int (pa_cons pe_str pa_nil)))) (pa_cons (pe_tup (pa_cons (pe_tup (pa_cons pe_int (pa_cons pe_int (pa_cons (pe_tup (pa_cons pe_str (pa_cons pe_int pa_nil))) (pa_cons pe_int (pa_cons pe_int pa_nil)))))) pa_nil)) pa_nil)))))) (pa_cons pe_str pa_nil)))))))))))))), ?_⟩
    rw [start_nrm (Nat.le_of_ble_eq_true rfl)]; dsimp only [startL]
    refine ⟨_, rfl, la, _, rfl, SqT.of g.at_, rfl, _, _, rfl, _, _, rfl, _, _, rfl, _, _, rfl, _, _, rfl, rfl, ?_⟩
    dsimp only [List.set]
    refine ⟨_, rfl, _, rfl, a, ns, k, 10, rfl, hS, k0, by decide, by decide, fun kd kd0 kd1 => ?_⟩
    dsimp only [List.set]
    refine ⟨_, rfl, rfl, _, rfl, ?_⟩
    refine ite2 (fun _ => ?_) (fun _ => ?_)
    · -- the whole
      refine ⟨_, rfl, la, _, rfl, .inr (SqT.of g.at_), fun l1 hl1 => ?_⟩
      have f1 := Ex.new (o := .lst [.str n, b, m, w_, c]) hl1
      have gl1 : upd H l1 (.lst [.str n, b, m, w_, c]) l1 = some (.lst [.str n, b, m, w_, c]) := upd_same
      generalize upd H l1 (.lst [.str n, b, m, w_, c]) = H1 at f1 gl1 ⊢
      refine ⟨_, rfl, _, rfl, ?_⟩
      refine slA (f1 _ _ g.at_) fun t1 H2 e2 ht1 => ?_
      have ht1 : H2 t1 = some (.tup [.str n, b, m, w_]) := ht1
      have e02 := f1.trans e2
      refine ⟨_, rfl, (by show 1 ≤ sizeLine; decide), fun t2 ht2 => ?_⟩
      have f3 := Ex.new (o := .tup [.int 0]) ht2
      have gt2 : upd H2 t2 (.tup [.int 0]) t2 = some (.tup [.int 0]) := upd_same
      generalize upd H2 t2 (.tup [.int 0]) = H3 at f3 gt2 ⊢
      have e03 := e02.trans f3
      refine catA (e03 _ _ g.at_) gt2 (by show 6 ≤ sizeLine; decide) fun t3 H4 e4 ht3 => ?_
      have ht3 : H4 t3 = some (.tup [.str n, b, m, w_, c, .int 0]) := ht3
      have e04 := e03.trans e4
      refine ⟨(by show 5 ≤ sizeLine; decide), fun l hl => ?_⟩
      have f5 := Ex.new (o := .lst [.ref l1, .ref t1, .ref t3, .str "layer", .non]) hl
      have gl : upd H4 l (.lst [.ref l1, .ref t1, .ref t3, .str "layer", .non]) l = some (.lst [.ref l1, .ref t1, .ref t3, .str "layer", .non]) := upd_same
      generalize upd H4 l (.lst [.ref l1, .ref t1, .ref t3, .str "layer", .non]) = H5 at f5 gl ⊢
      have e05 := e04.trans f5
      refine ⟨_, rfl, _, rfl, _, _, rfl, rfl, a, ns, k + 1, 5, rfl, ex_l e05 hS, by omega, by decide, by decide, fun mi m0 m1 => ?_⟩
      obtain ⟨v, hv, av⟩ := pickV (xs := [.ref l1, .ref t1, .ref t3, .str "layer", .non]) m0 m1
      refine ⟨l, _, mi, v, rfl, rfl, SqL.of gl, av, ?_⟩
      have alt : ∀ Z, Off S H5 Z → LyBad Z v .layer ∧ DX 12000 6 Z v := by
        intro Z oz
        have g5 := gG Z (oz.of e05)
        simp only [List.mem_cons, List.not_mem_nil, or_false] at hv
        have d := g5.d
        rcases hv with rfl | rfl | rfl | rfl | rfl
        · have h1 : Z l1 = some (.lst [.str n, b, m, w_, c]) := oz _ _ (ne (Ex.refl _) hl1) (((e2.trans f3).trans (e4.trans f5)) _ _ gl1)
          exact ⟨.inl ⟨_, .lst h1, by decide +kernel⟩, (DX.lstA h1 (ly_dx d) (by show 5 ≤ 1000000; decide)).le (by decide) (Nat.le_refl _)⟩
        · have h1 : Z t1 = some (.tup [.str n, b, m, w_]) := oz _ _ (nt (f3.trans (e4.trans f5)) e05 ht1) ((f3.trans (e4.trans f5)) _ _ ht1)
          exact ⟨.inr (.inl ⟨t1, _, rfl, h1, by show 4 ≠ 5; decide⟩), (DX.tupA (n := 5) h1 (.cons (up0 d.n) (.cons (d.b.le (Nat.le_refl _) (by decide)) (.cons (d.m.le (Nat.le_refl _) (by decide)) (.cons (d.w.le (Nat.le_refl _) (by decide)) .nil)))) (by show 4 ≤ 1000000; decide)).le (by decide) (Nat.le_refl _)⟩
        · have h1 : Z t3 = some (.tup [.str n, b, m, w_, c, .int 0]) := oz _ _ (nt f5 e05 ht3) (f5 _ _ ht3)
          exact ⟨.inr (.inl ⟨t3, _, rfl, h1, by show 6 ≠ 5; decide⟩), (DX.tupA (n := 5) h1 (.cons (up0 d.n) (.cons (d.b.le (Nat.le_refl _) (by decide)) (.cons (d.m.le (Nat.le_refl _) (by decide)) (.cons (d.w.le (Nat.le_refl _) (by decide)) (.cons d.c (.cons (up0 (DX.int (by decide) (by decide))) .nil)))))) (by show 6 ≤ 1000000; decide)).le (by decide) (Nat.le_refl _)⟩
        · exact ⟨.inl ⟨_, .str _, by decide +kernel⟩, (dx_word (by decide +kernel)).le (by decide) (by decide)⟩
        · exact ⟨.inl ⟨_, .non, by decide +kernel⟩, DX.non.le (by decide) (by decide)⟩
      refine ⟨(by show 2 ≤ sizeLine; decide), fun t ht => ?_⟩
      exact q t v .layer _ (e05.trans (Ex.new ht)) upd_same fun Z oz => alt Z (oz.of (Ex.new ht))
    refine ⟨_, rfl, rfl, _, rfl, ?_⟩
    refine ite2 (fun _ => ?_) (fun _ => ?_)
    · refine ⟨(by show 6 ≤ sizeLine; decide), fun l hl => ?_⟩
      have f1 := Ex.new (o := .lst [.str "", .str "A", .str "abcdefghi", .int 7, .non, .str "a b"]) hl
      have gl : upd H l (.lst [.str "", .str "A", .str "abcdefghi", .int 7, .non, .str "a b"]) l = some (.lst [.str "", .str "A", .str "abcdefghi", .int 7, .non, .str "a b"]) := upd_same
      generalize upd H l (.lst [.str "", .str "A", .str "abcdefghi", .int 7, .non, .str "a b"]) = H1 at f1 gl ⊢
      refine ⟨_, rfl, _, rfl, _, _, rfl, rfl, a, ns, k + 1, 6, rfl, ex_l f1 hS, by omega, by decide, by decide, fun mi m0 m1 => ?_⟩
      obtain ⟨v, hv, av⟩ := pickV (xs := [.str "", .str "A", .str "abcdefghi", .int 7, .non, .str "a b"]) m0 m1
      refine ⟨l, _, mi, v, rfl, rfl, SqL.of gl, av, ?_⟩
      have alt : nameV v = false ∧ (∃ T', ∀ G, Kn G v T') ∧ (∀ z, v = .str z → z.length ≤ 1000) ∧ ∀ G, DX 60 0 G v := by
        simp only [List.mem_cons, List.not_mem_nil, or_false] at hv
        rcases hv with rfl | rfl | rfl | rfl | rfl | rfl
        · exact ⟨by decide +kernel, ⟨_, fun _ => .str _⟩, fun z e => by cases e; decide +kernel, fun _ => dx_word (by decide +kernel)⟩
        · exact ⟨by decide +kernel, ⟨_, fun _ => .str _⟩, fun z e => by cases e; decide +kernel, fun _ => dx_word (by decide +kernel)⟩
        · exact ⟨by decide +kernel, ⟨_, fun _ => .str _⟩, fun z e => by cases e; decide +kernel, fun _ => dx_word (by decide +kernel)⟩
        · exact ⟨rfl, ⟨_, fun _ => .int _⟩, fun z e => (nomatch e), fun _ => DX.int (by decide) (by decide)⟩
        · exact ⟨rfl, ⟨_, fun _ => .non⟩, fun z e => (nomatch e), fun _ => DX.non⟩
        · exact ⟨by decide +kernel, ⟨_, fun _ => .str _⟩, fun z e => by cases e; decide +kernel, fun _ => dx_word (by decide +kernel)⟩
      obtain ⟨a1, ⟨T', a2⟩, a3, a4⟩ := alt
      refine ⟨_, rfl, _, rfl, _, rfl, _, rfl, (by show 5 ≤ sizeLine; decide), fun t5 ht5 => ?_⟩
      have f8 := Ex.new (o := .tup [v, b, m, w_, c]) ht5
      have gt5 : upd H1 t5 (.tup [v, b, m, w_, c]) t5 = some (.tup [v, b, m, w_, c]) := upd_same
      generalize upd H1 t5 (.tup [v, b, m, w_, c]) = H8 at f8 gt5 ⊢
      refine ⟨(by show 2 ≤ sizeLine; decide), fun t ht => ?_⟩
      have f9 := Ex.new (o := .tup [.ref t5, .str "layer"]) ht
      have gt : upd H8 t (.tup [.ref t5, .str "layer"]) t = some (.tup [.ref t5, .str "layer"]) := upd_same
      generalize upd H8 t (.tup [.ref t5, .str "layer"]) = H9 at f9 gt ⊢
      have e9 := (f1.trans f8).trans f9
      have f89 := f8.trans f9
      refine q t (.ref t5) .layer _ e9 gt fun Z oz => ?_
      have g9 := gG Z (oz.of e9)
      have gt5 : Z t5 = some (.tup [v, b, m, w_, c]) := oz _ _ (ne f1 ht5) (f9 _ _ gt5)
      refine ⟨?_, (DX.tupA gt5 (ly_dx (LyD.mk (a4 _) g9.d.b g9.d.m g9.d.w g9.d.c)) (by show 5 ≤ 1000000; decide)).le (by decide) (Nat.le_refl _)⟩
      obtain ⟨bx, k1, k2⟩ := g9.bx
      exact .inr (.inr ⟨t5, v, b, m, w_, c, T', rfl, gt5, a2 _, a3, box_deep k1, .inl a1⟩)
    refine ⟨_, rfl, rfl, _, rfl, ?_⟩
    refine ite2 (fun _ => ?_) (fun _ => ?_)
    · obtain ⟨bx, ⟨ba, rfl, hba⟩, kb⟩ := g.bx
      obtain ⟨kb1, kb2, kb3, kb4, kb5, kb6, kb7, kb8⟩ := kb
      refine ⟨_, rfl, _, rfl, ba, _, rfl, .inr (SqT.of hba), fun l1 hl1 => ?_⟩
      have f1 := Ex.new (o := .lst [.int bx.l, .int bx.t, .int bx.w, .int bx.h]) hl1
      have gl1 : upd H l1 (.lst [.int bx.l, .int bx.t, .int bx.w, .int bx.h]) l1 = some (.lst [.int bx.l, .int bx.t, .int bx.w, .int bx.h]) := upd_same
      generalize upd H l1 (.lst [.int bx.l, .int bx.t, .int bx.w, .int bx.h]) = H1 at f1 gl1 ⊢
      refine ⟨_, rfl, _, rfl, ?_⟩
      refine slA (f1 _ _ hba) fun t1 H2 e2 ht1 => ?_
      have ht1 : H2 t1 = some (.tup [.int bx.l, .int bx.t, .int bx.w]) := ht1
      have e02 := f1.trans e2
      refine ⟨_, rfl, (by show 1 ≤ sizeLine; decide), fun t2 ht2 => ?_⟩
      have f3 := Ex.new (o := .tup [.int 1]) ht2
      have gt2 : upd H2 t2 (.tup [.int 1]) t2 = some (.tup [.int 1]) := upd_same
      generalize upd H2 t2 (.tup [.int 1]) = H3 at f3 gt2 ⊢
      have e03 := e02.trans f3
      refine catA (e03 _ _ hba) gt2 (by show 5 ≤ sizeLine; decide) fun t3 H4 e4 ht3 => ?_
      have ht3 : H4 t3 = some (.tup [.int bx.l, .int bx.t, .int bx.w, .int bx.h, .int 1]) := ht3
      have e04 := e03.trans e4
      refine ⟨(by show 4 ≤ sizeLine; decide), fun l hl => ?_⟩
      have f5 := Ex.new (o := .lst [.ref l1, .ref t1, .ref t3, .non]) hl
      have gl : upd H4 l (.lst [.ref l1, .ref t1, .ref t3, .non]) l = some (.lst [.ref l1, .ref t1, .ref t3, .non]) := upd_same
      generalize upd H4 l (.lst [.ref l1, .ref t1, .ref t3, .non]) = H5 at f5 gl ⊢
      have e05 := e04.trans f5
      refine ⟨_, rfl, _, rfl, _, _, rfl, rfl, a, ns, k + 1, 4, rfl, ex_l e05 hS, by omega, by decide, by decide, fun mi m0 m1 => ?_⟩
      obtain ⟨v, hv, av⟩ := pickV (xs := [.ref l1, .ref t1, .ref t3, .non]) m0 m1
      refine ⟨l, _, mi, v, rfl, rfl, SqL.of gl, av, ?_⟩
      have di : ∀ {G : Hp} {i : Int}, -1000 ≤ i → i ≤ 1000 → DX 60 0 G (.int i) := fun h1 h2 => DX.int (by omega) (by omega)
      have alt : ∀ Z, Off S H5 Z → boxB Z v = false ∧ Deep 6 1 Z v ∧ DX 320 1 Z v := by
        intro Z oz
        simp only [List.mem_cons, List.not_mem_nil, or_false] at hv
        rcases hv with rfl | rfl | rfl | rfl
        · have h1 : Z l1 = some (.lst [.int bx.l, .int bx.t, .int bx.w, .int bx.h]) := oz _ _ (ne (Ex.refl _) hl1) (((e2.trans f3).trans (e4.trans f5)) _ _ gl1)
          exact ⟨boxB_no (.lst h1) (by decide +kernel), .lst h1, (DX.lstA (n := 0) h1 (.cons (di (by omega) (by omega)) (.cons (di (by omega) (by omega)) (.cons (di (by omega) (by omega)) (.cons (di (by omega) (by omega)) .nil)))) (by show 4 ≤ 1000000; decide)).le (by decide) (Nat.le_refl _)⟩
        · have h1 : Z t1 = some (.tup [.int bx.l, .int bx.t, .int bx.w]) := oz _ _ (nt (f3.trans (e4.trans f5)) e05 ht1) ((f3.trans (e4.trans f5)) _ _ ht1)
          exact ⟨boxB_len h1 (by show 3 ≠ 4; decide), ints_deep [bx.l, bx.t, bx.w] h1 (by show 3 ≤ 6; decide), (DX.tupA (n := 0) h1 (.cons (di (by omega) (by omega)) (.cons (di (by omega) (by omega)) (.cons (di (by omega) (by omega)) .nil))) (by show 3 ≤ 1000000; decide)).le (by decide) (Nat.le_refl _)⟩
        · have h1 : Z t3 = some (.tup [.int bx.l, .int bx.t, .int bx.w, .int bx.h, .int 1]) := oz _ _ (nt f5 e05 ht3) (f5 _ _ ht3)
          exact ⟨boxB_len h1 (by show 5 ≠ 4; decide), ints_deep [bx.l, bx.t, bx.w, bx.h, 1] h1 (by show 5 ≤ 6; decide), (DX.tupA (n := 0) h1 (.cons (di (by omega) (by omega)) (.cons (di (by omega) (by omega)) (.cons (di (by omega) (by omega)) (.cons (di (by omega) (by omega)) (.cons (di (by decide) (by decide)) .nil))))) (by show 5 ≤ 1000000; decide)).le (by decide) (Nat.le_refl _)⟩
        · exact ⟨rfl, .non, DX.non.le (by decide) (by decide)⟩
      refine ⟨_, rfl, _, rfl, _, rfl, (by show 5 ≤ sizeLine; decide), fun t5 ht5 => ?_⟩
      have f8 := Ex.new (o := .tup [.str n, v, m, w_, c]) ht5
      have gt5 : upd H5 t5 (.tup [.str n, v, m, w_, c]) t5 = some (.tup [.str n, v, m, w_, c]) := upd_same
      generalize upd H5 t5 (.tup [.str n, v, m, w_, c]) = H8 at f8 gt5 ⊢
      refine ⟨(by show 2 ≤ sizeLine; decide), fun t ht => ?_⟩
      have f9 := Ex.new (o := .tup [.ref t5, .str "layer"]) ht
      have gt : upd H8 t (.tup [.ref t5, .str "layer"]) t = some (.tup [.ref t5, .str "layer"]) := upd_same
      generalize upd H8 t (.tup [.ref t5, .str "layer"]) = H9 at f9 gt ⊢
      have e9 := (e05.trans f8).trans f9
      have f89 := f8.trans f9
      refine q t (.ref t5) .layer _ e9 gt fun Z oz => ?_
      have g9 := gG Z (oz.of e9)
      have gt5 : Z t5 = some (.tup [.str n, v, m, w_, c]) := oz _ _ (ne e05 ht5) (f9 _ _ gt5)
      refine ⟨?_, (DX.tupA gt5 (ly_dx (LyD.mk g9.d.n (alt Z (oz.of f89)).2.2 g9.d.m g9.d.w g9.d.c)) (by show 5 ≤ 1000000; decide)).le (by decide) (Nat.le_refl _)⟩
      obtain ⟨a1, a2, a3⟩ := alt Z (oz.of f89)
      obtain ⟨T2, k2⟩ := a2.kn
      exact .inr (.inr ⟨t5, .str n, v, m, w_, c, _, rfl, gt5, .str _, fun z e => by cases e; exact name_len g.nm, a2, .inr a1⟩)
    refine ⟨_, rfl, _, _, rfl, rfl, _, rfl, ?_⟩
    refine ite2 (fun _ => ?_) (fun _ => ?_)
    · obtain ⟨bx, ⟨ba, rfl, hba⟩, kb⟩ := g.bx
      refine ⟨_, rfl, _, rfl, _, _, rfl, rfl, a, ns, k + 1, 4, rfl, hS, by omega, by decide, by decide, fun at_ at0 at1 => ?_⟩
      dsimp only [List.set]
      refine ⟨_, rfl, (by show 4 ≤ sizeLine; decide), fun l hl => ?_⟩
      have f1 := Ex.new (o := .lst [.int 1001, .int (-1001), .bl true, .str "1"]) hl
      have gl : upd H l (.lst [.int 1001, .int (-1001), .bl true, .str "1"]) l = some (.lst [.int 1001, .int (-1001), .bl true, .str "1"]) := upd_same
      generalize upd H l (.lst [.int 1001, .int (-1001), .bl true, .str "1"]) = H1 at f1 gl ⊢
      refine ⟨_, rfl, _, rfl, _, _, rfl, rfl, a, ns, k + 2, 4, rfl, ex_l f1 hS, by omega, by decide, by decide, fun mi m0 m1 => ?_⟩
      obtain ⟨v, hv, av⟩ := pickV (xs := [.int 1001, .int (-1001), .bl true, .str "1"]) m0 m1
      refine ⟨l, _, mi, v, rfl, rfl, SqL.of gl, av, ?_⟩
      dsimp only [List.set]
      refine ⟨fun σ' H' => Ex H H' ∧ ∃ u, σ' = [some (.ref a), some (.int k), some (.ref la), some (.str n), some (.ref ba), some m, some w_, some c, some (.int kd), some (.int at_), some u] ∧ ((at_ ≤ 1 ∧ u ∈ [.int 1001, .int (-1001), .bl true, .str "1"]) ∨ (1 < at_ ∧ u ∈ [.int 0, .int 65, .bl true, .non])), ?_, ?_⟩
      · refine ⟨_, rfl, _, _, rfl, rfl, _, rfl, ?_⟩
        refine ite2 (fun big => ?_) (fun small => ?_)
        · have big : 1 < at_ := of_decide_eq_true big
          refine ⟨(by show 4 ≤ sizeLine; decide), fun l2 hl2 => ?_⟩
          have f2 := Ex.new (o := .lst [.int 0, .int 65, .bl true, .non]) hl2
          have gl2 : upd H1 l2 (.lst [.int 0, .int 65, .bl true, .non]) l2 = some (.lst [.int 0, .int 65, .bl true, .non]) := upd_same
          generalize upd H1 l2 (.lst [.int 0, .int 65, .bl true, .non]) = H2 at f2 gl2 ⊢
          refine ⟨_, rfl, _, rfl, _, _, rfl, rfl, a, ns, k + 2, 4, rfl, ex_l (f1.trans f2) hS, by omega, by decide, by decide, fun mi m0 m1 => ?_⟩
          obtain ⟨v, hv, av⟩ := pickV (xs := [.int 0, .int 65, .bl true, .non]) m0 m1
          refine ⟨l2, _, mi, v, rfl, rfl, SqL.of gl2, av, ?_⟩
          exact ⟨f1.trans f2, v, rfl, .inr ⟨big, hv⟩⟩
        · have small : ¬ 1 < at_ := fun z => small (decide_eq_true z)
          exact ⟨f1, v, rfl, .inl ⟨by omega, hv⟩⟩
      clear hv av f1 gl hl v
      rintro σ' H3 ⟨e3, u, rfl, hu⟩
      have hba3 := e3 _ _ hba
      have du : (∀ G, DX 60 0 G u) ∧ ∃ T', ∀ G, Kn G u T' := by
        simp only [List.mem_cons, List.not_mem_nil, or_false] at hu
        rcases hu with ⟨_, rfl | rfl | rfl | rfl⟩ | ⟨_, rfl | rfl | rfl | rfl⟩
        · exact ⟨fun _ => DX.int (by decide) (by decide), _, fun _ => .int _⟩
        · exact ⟨fun _ => DX.int (by decide) (by decide), _, fun _ => .int _⟩
        · exact ⟨fun _ => DX.bl, _, fun _ => .bl _⟩
        · exact ⟨fun _ => dx_word (by decide +kernel), _, fun _ => .str _⟩
        · exact ⟨fun _ => DX.int (by decide) (by decide), _, fun _ => .int _⟩
        · exact ⟨fun _ => DX.int (by decide) (by decide), _, fun _ => .int _⟩
        · exact ⟨fun _ => DX.bl, _, fun _ => .bl _⟩
        · exact ⟨fun _ => DX.non, _, fun _ => .non⟩
      obtain ⟨du, T', ku⟩ := du
      obtain ⟨kb1, kb2, kb3, kb4, kb5, kb6, kb7, kb8⟩ := kb
      have di : ∀ {G : Hp} {i : Int}, -1000 ≤ i → i ≤ 1000 → DX 60 0 G (.int i) := fun h1 h2 => DX.int (by omega) (by omega)
      have key : ∀ (xs : List V), (xs = [u, .int bx.t, .int bx.w, .int bx.h] ∧ at_ = 0) ∨ (xs = [.int bx.l, u, .int bx.w, .int bx.h] ∧ at_ = 1) ∨ (xs = [.int bx.l, .int bx.t, u, .int bx.h] ∧ at_ = 2) ∨ (xs = [.int bx.l, .int bx.t, .int bx.w, u] ∧ at_ = 3) →
          ∀ (G : Hp) (p : Addr), G p = some (.tup xs) → boxB G (.ref p) = false ∧ Deep 6 1 G (.ref p) ∧ DX 320 1 G (.ref p) := by
        intro xs hx G p hp
        have lo : at_ ≤ 1 → numIn (-1000) 1000 u = false := fun z => by
          simp only [List.mem_cons, List.not_mem_nil, or_false] at hu
          rcases hu with ⟨_, rfl | rfl | rfl | rfl⟩ | ⟨big, _⟩
          · decide +kernel
          · decide +kernel
          · rfl
          · rfl
          · omega
        have hi : 1 < at_ → numIn 1 64 u = false := fun z => by
          simp only [List.mem_cons, List.not_mem_nil, or_false] at hu
          rcases hu with ⟨small, _⟩ | ⟨_, rfl | rfl | rfl | rfl⟩
          · omega
          · decide +kernel
          · decide +kernel
          · rfl
          · rfl
        have dp : ∀ y ∈ xs, (∃ T'', Kn G y T'') ∧ DX 60 0 G y := fun y hy => by
          have di' : ∀ {i : Int}, -1000 ≤ i → i ≤ 1000 → (∃ T'', Kn G (.int i) T'') ∧ DX 60 0 G (.int i) := fun h1 h2 => ⟨⟨_, .int _⟩, di h1 h2⟩
          have du' : (∃ T'', Kn G u T'') ∧ DX 60 0 G u := ⟨⟨_, ku G⟩, du G⟩
          rcases hx with ⟨rfl, _⟩ | ⟨rfl, _⟩ | ⟨rfl, _⟩ | ⟨rfl, _⟩ <;> simp only [List.mem_cons, List.not_mem_nil, or_false] at hy <;> rcases hy with rfl | rfl | rfl | rfl <;> first | exact du' | exact di' (by omega) (by omega)
        have lx : xs.length = 4 := by rcases hx with ⟨rfl, _⟩ | ⟨rfl, _⟩ | ⟨rfl, _⟩ | ⟨rfl, _⟩ <;> rfl
        refine ⟨?_, ⟨⟨_, .tup hp⟩, fun a' xs' e h => ?_⟩, (DX.tup (m := 4) hp (by omega) (by decide) fun y hy => (dp y hy).2).le (by decide) (Nat.le_refl _)⟩
        · rcases hx with ⟨rfl, h0⟩ | ⟨rfl, h0⟩ | ⟨rfl, h0⟩ | ⟨rfl, h0⟩
          · rw [boxB_tup hp, lo (by omega)]
            rfl
          · rw [boxB_tup hp, lo (by omega), Bool.and_false]
            rfl
          · rw [boxB_tup hp, hi (by omega), Bool.false_and, Bool.and_false]
          · rw [boxB_tup hp, hi (by omega), Bool.and_false, Bool.and_false]
        · cases e
          rw [hp] at h
          cases h
          exact ⟨by omega, fun y hy => (dp y hy).1⟩
      refine ⟨_, rfl, _, rfl, _, rfl, _, rfl, ?_⟩
      refine slA hba3 fun t1 H4 e4 ht1 => ?_
      refine ⟨_, rfl, (by show 1 ≤ sizeLine; decide), fun t2 ht2 => ?_⟩
      have f5 := Ex.new (o := .tup [u]) ht2
      have gt2 : upd H4 t2 (.tup [u]) t2 = some (.tup [u]) := upd_same
      generalize upd H4 t2 (.tup [u]) = H5 at f5 gt2 ⊢
      have lc : ∀ (lo hi : Option Int), (cutV [V.int bx.l, .int bx.t, .int bx.w, .int bx.h] lo hi).length ≤ 4 := fun lo hi => by
        unfold cutV
        rw [List.length_take, List.length_drop]
        exact Nat.le_trans (Nat.min_le_right _ _) (Nat.sub_le _ _)
      have lc1 := lc none (some at_)
      have lc2 := lc (some (at_ + 1)) none
      have s5 : (5 : Nat) ≤ sizeLine := by decide
      have s9 : (9 : Nat) ≤ sizeLine := by decide
      refine catA (f5 _ _ ht1) gt2 (Nat.le_trans (Nat.add_le_add lc1 (Nat.le_refl 1)) s5) fun t3 H6 e6 ht3 => ?_
      have e36 := (e4.trans f5).trans e6
      refine ⟨_, rfl, _, rfl, _, _, rfl, rfl, _, rfl, ?_⟩
      refine slA (e36 _ _ hba3) fun t4 H7 e7 ht4 => ?_
      refine catA (e7 _ _ ht3) ht4 (Nat.le_trans (by rw [List.length_append]; exact Nat.add_le_add (Nat.add_le_add lc1 (Nat.le_refl 1)) lc2) s9) fun t6 HX eX ht6 => ?_
      have e3X := (e36.trans e7).trans eX
      have e0X := e3.trans e3X
      have hx : ((cutV [V.int bx.l, .int bx.t, .int bx.w, .int bx.h] none (some at_) ++ [u] ++ cutV [V.int bx.l, .int bx.t, .int bx.w, .int bx.h] (some (at_ + 1)) none) = [u, .int bx.t, .int bx.w, .int bx.h] ∧ at_ = 0) ∨ ((cutV [V.int bx.l, .int bx.t, .int bx.w, .int bx.h] none (some at_) ++ [u] ++ cutV [V.int bx.l, .int bx.t, .int bx.w, .int bx.h] (some (at_ + 1)) none) = [.int bx.l, u, .int bx.w, .int bx.h] ∧ at_ = 1) ∨ ((cutV [V.int bx.l, .int bx.t, .int bx.w, .int bx.h] none (some at_) ++ [u] ++ cutV [V.int bx.l, .int bx.t, .int bx.w, .int bx.h] (some (at_ + 1)) none) = [.int bx.l, .int bx.t, u, .int bx.h] ∧ at_ = 2) ∨ ((cutV [V.int bx.l, .int bx.t, .int bx.w, .int bx.h] none (some at_) ++ [u] ++ cutV [V.int bx.l, .int bx.t, .int bx.w, .int bx.h] (some (at_ + 1)) none) = [.int bx.l, .int bx.t, .int bx.w, u] ∧ at_ = 3) := by
        have : at_ = 0 ∨ at_ = 1 ∨ at_ = 2 ∨ at_ = 3 := by omega
        rcases this with rfl | rfl | rfl | rfl
        · exact .inl ⟨rfl, rfl⟩
        · exact .inr (.inl ⟨rfl, rfl⟩)
        · exact .inr (.inr (.inl ⟨rfl, rfl⟩))
        · exact .inr (.inr (.inr ⟨rfl, rfl⟩))
      have alt := fun (Z : Hp) (oz : Off S HX Z) => key _ hx Z t6 (oz _ _ (nt (Ex.refl _) e0X ht6) ht6)
      refine ⟨_, rfl, _, rfl, _, rfl, (by show 5 ≤ sizeLine; decide), fun t5 ht5 => ?_⟩
      have f8 := Ex.new (o := .tup [.str n, .ref t6, m, w_, c]) ht5
      have gt5 : upd HX t5 (.tup [.str n, .ref t6, m, w_, c]) t5 = some (.tup [.str n, .ref t6, m, w_, c]) := upd_same
      generalize upd HX t5 (.tup [.str n, .ref t6, m, w_, c]) = H8 at f8 gt5 ⊢
      refine ⟨(by show 2 ≤ sizeLine; decide), fun t ht => ?_⟩
      have f9 := Ex.new (o := .tup [.ref t5, .str "layer"]) ht
      have gt : upd H8 t (.tup [.ref t5, .str "layer"]) t = some (.tup [.ref t5, .str "layer"]) := upd_same
      generalize upd H8 t (.tup [.ref t5, .str "layer"]) = H9 at f9 gt ⊢
      have e9 := (e0X.trans f8).trans f9
      have f89 := f8.trans f9
      refine q t (.ref t5) .layer _ e9 gt fun Z oz => ?_
      have g9 := gG Z (oz.of e9)
      have gt5 : Z t5 = some (.tup [.str n, .ref t6, m, w_, c]) := oz _ _ (ne e0X ht5) (f9 _ _ gt5)
      refine ⟨?_, (DX.tupA gt5 (ly_dx (LyD.mk g9.d.n (alt Z (oz.of f89)).2.2 g9.d.m g9.d.w g9.d.c)) (by show 5 ≤ 1000000; decide)).le (by decide) (Nat.le_refl _)⟩
      obtain ⟨a1, a2, a3⟩ := alt Z (oz.of f89)
      obtain ⟨T2, k2⟩ := a2.kn
      exact .inr (.inr ⟨t5, .str n, .ref t6, m, w_, c, _, rfl, gt5, .str _, fun z e => by cases e; exact name_len g.nm, a2, .inr a1⟩)
    refine ⟨_, rfl, rfl, _, rfl, ?_⟩
    refine ite2 (fun _ => ?_) (fun _ => ?_)
    · refine ⟨_, rfl, _, rfl, (by show 0 ≤ sizeLine; decide), fun l0 hl0 => ?_⟩
      have f1 := Ex.new (o := .lst []) hl0
      have gl0 : upd H l0 (.lst []) l0 = some (.lst []) := upd_same
      generalize upd H l0 (.lst []) = H1 at f1 gl0 ⊢
      refine ⟨(by show 2 ≤ sizeLine; decide), fun p1 hp1 => ?_⟩
      have f2 := Ex.new (o := .tup [.int 0, .int 1]) hp1
      have gp1 : upd H1 p1 (.tup [.int 0, .int 1]) p1 = some (.tup [.int 0, .int 1]) := upd_same
      generalize upd H1 p1 (.tup [.int 0, .int 1]) = H2 at f2 gp1 ⊢
      refine ⟨(by show 1 ≤ sizeLine; decide), fun ta hta => ?_⟩
      have f3 := Ex.new (o := .tup [.ref p1]) hta
      have gta : upd H2 ta (.tup [.ref p1]) ta = some (.tup [.ref p1]) := upd_same
      generalize upd H2 ta (.tup [.ref p1]) = H3 at f3 gta ⊢
      refine ⟨(by show 3 ≤ sizeLine; decide), fun p2 hp2 => ?_⟩
      have f4 := Ex.new (o := .tup [.int 3, .int 0, .int 0]) hp2
      have gp2 : upd H3 p2 (.tup [.int 3, .int 0, .int 0]) p2 = some (.tup [.int 3, .int 0, .int 0]) := upd_same
      generalize upd H3 p2 (.tup [.int 3, .int 0, .int 0]) = H4 at f4 gp2 ⊢
      refine ⟨(by show 3 ≤ sizeLine; decide), fun p3 hp3 => ?_⟩
      have f5 := Ex.new (o := .tup [.int 3, .int 1, .int 1]) hp3
      have gp3 : upd H4 p3 (.tup [.int 3, .int 1, .int 1]) p3 = some (.tup [.int 3, .int 1, .int 1]) := upd_same
      generalize upd H4 p3 (.tup [.int 3, .int 1, .int 1]) = H5 at f5 gp3 ⊢
      refine ⟨(by show 2 ≤ sizeLine; decide), fun tb htb => ?_⟩
      have f6 := Ex.new (o := .tup [.ref p2, .ref p3]) htb
      have gtb : upd H5 tb (.tup [.ref p2, .ref p3]) tb = some (.tup [.ref p2, .ref p3]) := upd_same
      generalize upd H5 tb (.tup [.ref p2, .ref p3]) = H6 at f6 gtb ⊢
      refine ⟨(by show 3 ≤ sizeLine; decide), fun l hl => ?_⟩
      have f7 := Ex.new (o := .lst [.ref l0, .ref ta, .ref tb]) hl
      have gl : upd H6 l (.lst [.ref l0, .ref ta, .ref tb]) l = some (.lst [.ref l0, .ref ta, .ref tb]) := upd_same
      generalize upd H6 l (.lst [.ref l0, .ref ta, .ref tb]) = H7 at f7 gl ⊢
      have e27 := ((f3.trans f4).trans (f5.trans f6)).trans f7
      have e07 := (f1.trans f2).trans e27
      refine ⟨_, rfl, _, rfl, _, _, rfl, rfl, a, ns, k + 1, 3, rfl, ex_l e07 hS, by omega, by decide, by decide, fun mi m0 m1 => ?_⟩
      obtain ⟨v, hv, av⟩ := pickV (xs := [.ref l0, .ref ta, .ref tb]) m0 m1
      refine ⟨l, _, mi, v, rfl, rfl, SqL.of gl, av, ?_⟩
      have di : ∀ {G : Hp} {i : Int}, 0 ≤ i → i ≤ 10 → DX 60 0 G (.int i) := fun h1 h2 => DX.int (by omega) (by omega)
      have alt : ∀ Z, Off S H7 Z → Wf Z v ∧ (∃ p, MvOut Z v (some p)) ∧ DX 600 2 Z v := by
        intro Z oz
        simp only [List.mem_cons, List.not_mem_nil, or_false] at hv
        have q1 : Z p1 = some (.tup [.int 0, .int 1]) := oz _ _ (ne f1 hp1) (e27 _ _ gp1)
        have q2 : Z p2 = some (.tup [.int 3, .int 0, .int 0]) := oz _ _ (ne ((f1.trans f2).trans f3) hp2) (((f5.trans f6).trans f7) _ _ gp2)
        have q3 : Z p3 = some (.tup [.int 3, .int 1, .int 1]) := oz _ _ (ne (((f1.trans f2).trans f3).trans f4) hp3) ((f6.trans f7) _ _ gp3)
        rcases hv with rfl | rfl | rfl
        · have h1 : Z l0 = some (.lst []) := oz _ _ (ne (Ex.refl _) hl0) ((f2.trans e27) _ _ gl0)
          refine ⟨⟨⟨_, .lst h1⟩, fun a' xs' e h => ?_⟩, ⟨none, fun a' xs' e h => ?_⟩, (DX.lstA (n := 1) h1 .nil (by show 0 ≤ 1000000; decide)).le (by decide) (Nat.le_refl _)⟩
          · cases e
            rw [h1] at h
            cases h
          · cases e
            rw [h1] at h
            cases h
        · have h1 : Z ta = some (.tup [.ref p1]) := oz _ _ (ne (f1.trans f2) hta) (((f4.trans (f5.trans f6)).trans f7) _ _ gta)
          refine ⟨Deep.wf (m := 17) (.tup h1 (by show 1 ≤ 17; decide) fun y hy => ?_), ⟨some 0, ta, _, rfl, h1, by show 1 ≤ 16; decide, .ref p1, rfl, ptOk_len q1 (by show 2 ≠ 3; decide), fun j hj => absurd hj (Nat.not_lt_zero _)⟩, (DX.tupA (n := 1) h1 (.cons (DX.tupA (n := 0) q1 (.cons (di (by decide) (by decide)) (.cons (di (by decide) (by decide)) .nil)) (by show 2 ≤ 1000000; decide)) .nil) (by show 1 ≤ 1000000; decide)).le (by decide) (Nat.le_refl _)⟩
          obtain rfl := List.mem_singleton.mp hy
          exact ints_deep [0, 1] q1 (by show 2 ≤ 17; decide)
        · have h1 : Z tb = some (.tup [.ref p2, .ref p3]) := oz _ _ (ne ((((f1.trans f2).trans f3).trans f4).trans f5) htb) (f7 _ _ gtb)
          refine ⟨Deep.wf (m := 17) (.tup h1 (by show 2 ≤ 17; decide) fun y hy => ?_), ⟨some 1, tb, _, rfl, h1, by show 2 ≤ 16; decide, .ref p3, rfl, ?_, fun j hj y hy => ?_⟩, (DX.tupA (n := 1) h1 (.cons (DX.tupA (n := 0) q2 (.cons (di (by decide) (by decide)) (.cons (di (by decide) (by decide)) (.cons (di (by decide) (by decide)) .nil))) (by show 3 ≤ 1000000; decide)) (.cons (DX.tupA (n := 0) q3 (.cons (di (by decide) (by decide)) (.cons (di (by decide) (by decide)) (.cons (di (by decide) (by decide)) .nil))) (by show 3 ≤ 1000000; decide)) .nil)) (by show 2 ≤ 1000000; decide)).le (by decide) (Nat.le_refl _)⟩
          · simp only [List.mem_cons, List.not_mem_nil, or_false] at hy
            rcases hy with rfl | rfl
            · exact ints_deep [3, 0, 0] q2 (by show 3 ≤ 17; decide)
            · exact ints_deep [3, 1, 1] q3 (by show 3 ≤ 17; decide)
          · rw [ptOk_tup q3]
            have e4 : lea Z [.ref p2, .ref p3] 1 = 4 := by
              show frOf Z (.ref p2) + 1 = 4
              simp only [frOf, q2]
              rfl
            rw [e4]
            decide +kernel
          · have : j = 0 := by omega
            subst this
            obtain rfl : V.ref p2 = y := Option.some.inj hy
            rw [ptOk_tup q2]
            show (numIn 0 1000 (.int 3) && _) = true
            decide +kernel
      refine ⟨_, rfl, _, rfl, (by show 5 ≤ sizeLine; decide), fun t5 ht5 => ?_⟩
      have f8 := Ex.new (o := .tup [.str n, b, v, w_, c]) ht5
      have gt5 : upd H7 t5 (.tup [.str n, b, v, w_, c]) t5 = some (.tup [.str n, b, v, w_, c]) := upd_same
      generalize upd H7 t5 (.tup [.str n, b, v, w_, c]) = H8 at f8 gt5 ⊢
      refine ⟨(by show 2 ≤ sizeLine; decide), fun t ht => ?_⟩
      have f9 := Ex.new (o := .tup [.ref t5, .str "moves"]) ht
      have gt : upd H8 t (.tup [.ref t5, .str "moves"]) t = some (.tup [.ref t5, .str "moves"]) := upd_same
      generalize upd H8 t (.tup [.ref t5, .str "moves"]) = H9 at f9 gt ⊢
      have e9 := (e07.trans f8).trans f9
      have f89 := f8.trans f9
      refine q t (.ref t5) .moves _ e9 gt fun Z oz => ?_
      have g9 := gG Z (oz.of e9)
      have gt5 : Z t5 = some (.tup [.str n, b, v, w_, c]) := oz _ _ (ne e07 ht5) (f9 _ _ gt5)
      refine ⟨?_, (DX.tupA gt5 (ly_dx (LyD.mk g9.d.n g9.d.b (alt Z (oz.of f89)).2.2 g9.d.w g9.d.c)) (by show 5 ≤ 1000000; decide)).le (by decide) (Nat.le_refl _)⟩
      obtain ⟨a1, ⟨p, a2⟩, a3⟩ := alt Z (oz.of f89)
      exact ⟨t5, .str n, b, v, w_, c, p, rfl, gt5, g9.pre, a1, a2⟩
    refine ⟨_, rfl, rfl, _, rfl, ?_⟩
    refine ite2 (fun _ => ?_) (fun _ => ?_)
    · refine ⟨_, rfl, _, rfl, _, rfl, (by show 1 ≤ sizeLine; decide), fun ta hta => ?_⟩
      have f1 := Ex.new (o := .tup [.str "blur"]) hta
      have gta : upd H ta (.tup [.str "blur"]) ta = some (.tup [.str "blur"]) := upd_same
      generalize upd H ta (.tup [.str "blur"]) = H1 at f1 gta ⊢
      refine ⟨(by show 0 ≤ sizeLine; decide), fun tb htb => ?_⟩
      have f2 := Ex.new (o := .tup []) htb
      have gtb : upd H1 tb (.tup []) tb = some (.tup []) := upd_same
      generalize upd H1 tb (.tup []) = H2 at f2 gtb ⊢
      refine ⟨(by show 2 ≤ sizeLine; decide), fun tc htc => ?_⟩
      have f3 := Ex.new (o := .tup [.str "shift", .int 256]) htc
      have gtc : upd H2 tc (.tup [.str "shift", .int 256]) tc = some (.tup [.str "shift", .int 256]) := upd_same
      generalize upd H2 tc (.tup [.str "shift", .int 256]) = H3 at f3 gtc ⊢
      refine ⟨(by show 4 ≤ sizeLine; decide), fun l hl => ?_⟩
      have f4 := Ex.new (o := .lst [.ref ta, .ref tb, .str "invert", .ref tc]) hl
      have gl : upd H3 l (.lst [.ref ta, .ref tb, .str "invert", .ref tc]) l = some (.lst [.ref ta, .ref tb, .str "invert", .ref tc]) := upd_same
      generalize upd H3 l (.lst [.ref ta, .ref tb, .str "invert", .ref tc]) = H4 at f4 gl ⊢
      have e04 := (f1.trans f2).trans (f3.trans f4)
      refine ⟨_, rfl, _, rfl, _, _, rfl, rfl, a, ns, k + 1, 4, rfl, ex_l e04 hS, by omega, by decide, by decide, fun mi m0 m1 => ?_⟩
      obtain ⟨v, hv, av⟩ := pickV (xs := [.ref ta, .ref tb, .str "invert", .ref tc]) m0 m1
      refine ⟨l, _, mi, v, rfl, rfl, SqL.of gl, av, ?_⟩
      have alt : ∀ Z, Off S H4 Z → formWV Z v = false ∧ DX 200 1 Z v := by
        intro Z oz
        simp only [List.mem_cons, List.not_mem_nil, or_false] at hv
        rcases hv with rfl | rfl | rfl | rfl
        · have h1 : Z ta = some (.tup [.str "blur"]) := oz _ _ (ne (Ex.refl _) hta) ((f2.trans (f3.trans f4)) _ _ gta)
          refine ⟨?_, (DX.tupA (n := 0) h1 (.cons (dx_word (by decide +kernel)) .nil) (by show 1 ≤ 1000000; decide)).le (by decide) (Nat.le_refl _)⟩
          rw [formWV_tup h1]
          decide +kernel
        · have h1 : Z tb = some (.tup []) := oz _ _ (ne f1 htb) ((f3.trans f4) _ _ gtb)
          refine ⟨?_, (DX.tupA (n := 0) h1 .nil (by show 0 ≤ 1000000; decide)).le (by decide) (Nat.le_refl _)⟩
          rw [formWV_tup h1]
          decide +kernel
        · exact ⟨rfl, (dx_word (by decide +kernel)).le (by decide) (by decide)⟩
        · have h1 : Z tc = some (.tup [.str "shift", .int 256]) := oz _ _ (ne (f1.trans f2) htc) (f4 _ _ gtc)
          refine ⟨?_, (DX.tupA (n := 0) h1 (.cons (dx_word (by decide +kernel)) (.cons (DX.int (by decide) (by decide)) .nil)) (by show 2 ≤ 1000000; decide)).le (by decide) (Nat.le_refl _)⟩
          rw [formWV_tup h1]
          decide +kernel
      refine ⟨_, rfl, (by show 5 ≤ sizeLine; decide), fun t5 ht5 => ?_⟩
      have f8 := Ex.new (o := .tup [.str n, b, m, v, c]) ht5
      have gt5 : upd H4 t5 (.tup [.str n, b, m, v, c]) t5 = some (.tup [.str n, b, m, v, c]) := upd_same
      generalize upd H4 t5 (.tup [.str n, b, m, v, c]) = H8 at f8 gt5 ⊢
      refine ⟨(by show 2 ≤ sizeLine; decide), fun t ht => ?_⟩
      have f9 := Ex.new (o := .tup [.ref t5, .str "what"]) ht
      have gt : upd H8 t (.tup [.ref t5, .str "what"]) t = some (.tup [.ref t5, .str "what"]) := upd_same
      generalize upd H8 t (.tup [.ref t5, .str "what"]) = H9 at f9 gt ⊢
      have e9 := (e04.trans f8).trans f9
      have f89 := f8.trans f9
      refine q t (.ref t5) .what _ e9 gt fun Z oz => ?_
      have g9 := gG Z (oz.of e9)
      have gt5 : Z t5 = some (.tup [.str n, b, m, v, c]) := oz _ _ (ne e04 ht5) (f9 _ _ gt5)
      refine ⟨?_, (DX.tupA gt5 (ly_dx (LyD.mk g9.d.n g9.d.b g9.d.m (alt Z (oz.of f89)).2 g9.d.c)) (by show 5 ≤ 1000000; decide)).le (by decide) (Nat.le_refl _)⟩
      obtain ⟨a1, a2⟩ := alt Z (oz.of f89)
      obtain ⟨T2, k2⟩ := a2.kn
      exact ⟨t5, .str n, b, m, v, c, 200, 1, rfl, gt5, g9.pre, g9.ms, a2, a1⟩
    refine ⟨_, rfl, rfl, _, rfl, ?_⟩
    refine ite2 (fun _ => ?_) (fun _ => ?_)
    · refine ⟨_, rfl, _, rfl, _, rfl, (by show 1 ≤ sizeLine; decide), fun tw htw => ?_⟩
      have f1 := Ex.new (o := .tup [.str "invert"]) htw
      have gtw : upd H tw (.tup [.str "invert"]) tw = some (.tup [.str "invert"]) := upd_same
      generalize upd H tw (.tup [.str "invert"]) = H1 at f1 gtw ⊢
      refine ⟨(by show 2 ≤ sizeLine; decide), fun tp htp => ?_⟩
      have f2 := Ex.new (o := .tup [.str "solid", .int 1]) htp
      have gtp : upd H1 tp (.tup [.str "solid", .int 1]) tp = some (.tup [.str "solid", .int 1]) := upd_same
      generalize upd H1 tp (.tup [.str "solid", .int 1]) = H2 at f2 gtp ⊢
      refine ⟨(by show 5 ≤ sizeLine; decide), fun tl htl => ?_⟩
      have f3 := Ex.new (o := .tup [.int 0, .int 5, .ref tp, .int 0, .int 0]) htl
      have gtl : upd H2 tl (.tup [.int 0, .int 5, .ref tp, .int 0, .int 0]) tl = some (.tup [.int 0, .int 5, .ref tp, .int 0, .int 0]) := upd_same
      generalize upd H2 tl (.tup [.int 0, .int 5, .ref tp, .int 0, .int 0]) = H3 at f3 gtl ⊢
      refine ⟨(by show 1 ≤ sizeLine; decide), fun tc htc => ?_⟩
      have f4 := Ex.new (o := .tup [.ref tl]) htc
      have gtc : upd H3 tc (.tup [.ref tl]) tc = some (.tup [.ref tl]) := upd_same
      generalize upd H3 tc (.tup [.ref tl]) = H4 at f4 gtc ⊢
      have e04 := (f1.trans f2).trans (f3.trans f4)
      have mk : ∀ Z, Off S H4 Z → WhV Z (.ref tw) .invert ∧ Z tp = some (.tup [.str "solid", .int 1]) ∧ Z tl = some (.tup [.int 0, .int 5, .ref tp, .int 0, .int 0]) ∧ Z tc = some (.tup [.ref tl]) ∧ DX 200 1 Z (.ref tw) ∧ DX 9810 5 Z (.ref tc) := fun Z oz => by
        have hw : WhV Z (.ref tw) .invert := ⟨tw, rfl, oz _ _ (ne (Ex.refl _) htw) ((f2.trans (f3.trans f4)) _ _ gtw)⟩
        have q1 : Z tp = some (.tup [.str "solid", .int 1]) := oz _ _ (ne f1 htp) ((f3.trans f4) _ _ gtp)
        have q2 : Z tl = some (.tup [.int 0, .int 5, .ref tp, .int 0, .int 0]) := oz _ _ (ne (f1.trans f2) htl) (f4 _ _ gtl)
        have q3 : Z tc = some (.tup [.ref tl]) := oz _ _ (ne ((f1.trans f2).trans f3) htc) gtc
        have d1 : DX 122 1 Z (.ref tp) := DX.tupA (n := 0) q1 (.cons (dx_word (by decide +kernel)) (.cons (DX.int (by decide) (by decide)) .nil)) (by show 2 ≤ 1000000; decide)
        have i0 : ∀ i : Int, 0 ≤ i → i ≤ 5 → DX 60 1 Z (.int i) := fun i a b => up0 (DX.int (by omega) (by omega))
        have d2 : DX 367 2 Z (.ref tl) := DX.tupA q2 (.cons (i0 0 (by decide) (by decide)) (.cons (i0 5 (by decide) (by decide)) (.cons d1 (.cons (i0 0 (by decide) (by decide)) (.cons (i0 0 (by decide) (by decide)) .nil))))) (by show 5 ≤ 1000000; decide)
        have d3 : DX 9810 5 Z (.ref tc) := (DX.tupA q3 (.cons d2 .nil) (by show 1 ≤ 1000000; decide)).le (by decide) (by decide)
        exact ⟨hw, q1, q2, q3, wh_dx hw trivial, d3⟩
      refine ⟨(by show 5 ≤ sizeLine; decide), fun t5 ht5 => ?_⟩
      have f8 := Ex.new (o := .tup [.str n, b, m, .ref tw, .ref tc]) ht5
      have gt5 : upd H4 t5 (.tup [.str n, b, m, .ref tw, .ref tc]) t5 = some (.tup [.str n, b, m, .ref tw, .ref tc]) := upd_same
      generalize upd H4 t5 (.tup [.str n, b, m, .ref tw, .ref tc]) = H8 at f8 gt5 ⊢
      refine ⟨(by show 2 ≤ sizeLine; decide), fun t ht => ?_⟩
      have f9 := Ex.new (o := .tup [.ref t5, .str "clip"]) ht
      have gt : upd H8 t (.tup [.ref t5, .str "clip"]) t = some (.tup [.ref t5, .str "clip"]) := upd_same
      generalize upd H8 t (.tup [.ref t5, .str "clip"]) = H9 at f9 gt ⊢
      have e9 := (e04.trans f8).trans f9
      have f89 := f8.trans f9
      refine q t (.ref t5) .clip _ e9 gt fun Z oz => ?_
      have g9 := gG Z (oz.of e9)
      have gt5 : Z t5 = some (.tup [.str n, b, m, .ref tw, .ref tc]) := oz _ _ (ne e04 ht5) (f9 _ _ gt5)
      refine ⟨?_, (DX.tupA gt5 (ly_dx (LyD.mk g9.d.n g9.d.b g9.d.m (mk Z (oz.of f89)).2.2.2.2.1 (mk Z (oz.of f89)).2.2.2.2.2)) (by show 5 ≤ 1000000; decide)).le (by decide) (Nat.le_refl _)⟩
      obtain ⟨hw, q1, q2, q3, _, _⟩ := mk Z (oz.of f89)
      exact ⟨t5, .str n, b, m, .ref tw, .ref tc, .invert, rfl, gt5, g9.pre, g9.ms, hw, trivial, rfl, tc, tl, tp, rfl, q3, q2, q1⟩
    refine ⟨_, rfl, _, rfl, _, rfl, (by show 3 ≤ sizeLine; decide), fun tw htw => ?_⟩
    have f1 := Ex.new (o := .tup [.str "paint", .int 256, .str "over"]) htw
    have gtw : upd H tw (.tup [.str "paint", .int 256, .str "over"]) tw = some (.tup [.str "paint", .int 256, .str "over"]) := upd_same
    generalize upd H tw (.tup [.str "paint", .int 256, .str "over"]) = H1 at f1 gtw ⊢
    refine ⟨(by show 2 ≤ sizeLine; decide), fun tp htp => ?_⟩
    have f2 := Ex.new (o := .tup [.str "solid", .int 256]) htp
    have gtp : upd H1 tp (.tup [.str "solid", .int 256]) tp = some (.tup [.str "solid", .int 256]) := upd_same
    generalize upd H1 tp (.tup [.str "solid", .int 256]) = H2 at f2 gtp ⊢
    refine ⟨(by show 5 ≤ sizeLine; decide), fun tl htl => ?_⟩
    have f3 := Ex.new (o := .tup [.int 0, .int 5, .ref tp, .int 0, .int 0]) htl
    have gtl : upd H2 tl (.tup [.int 0, .int 5, .ref tp, .int 0, .int 0]) tl = some (.tup [.int 0, .int 5, .ref tp, .int 0, .int 0]) := upd_same
    generalize upd H2 tl (.tup [.int 0, .int 5, .ref tp, .int 0, .int 0]) = H3 at f3 gtl ⊢
    refine ⟨(by show 1 ≤ sizeLine; decide), fun tc htc => ?_⟩
    have f4 := Ex.new (o := .tup [.ref tl]) htc
    have gtc : upd H3 tc (.tup [.ref tl]) tc = some (.tup [.ref tl]) := upd_same
    generalize upd H3 tc (.tup [.ref tl]) = H4 at f4 gtc ⊢
    have e04 := (f1.trans f2).trans (f3.trans f4)
    have mk : ∀ Z, Off S H4 Z → WhV Z (.ref tw) (.paint 256 "over") ∧ Z tp = some (.tup [.str "solid", .int 256]) ∧ Z tl = some (.tup [.int 0, .int 5, .ref tp, .int 0, .int 0]) ∧ Z tc = some (.tup [.ref tl]) ∧ DX 200 1 Z (.ref tw) ∧ DX 9810 5 Z (.ref tc) := fun Z oz => by
      have hw : WhV Z (.ref tw) (.paint 256 "over") := ⟨tw, rfl, oz _ _ (ne (Ex.refl _) htw) ((f2.trans (f3.trans f4)) _ _ gtw)⟩
      have q1 : Z tp = some (.tup [.str "solid", .int 256]) := oz _ _ (ne f1 htp) ((f3.trans f4) _ _ gtp)
      have q2 : Z tl = some (.tup [.int 0, .int 5, .ref tp, .int 0, .int 0]) := oz _ _ (ne (f1.trans f2) htl) (f4 _ _ gtl)
      have q3 : Z tc = some (.tup [.ref tl]) := oz _ _ (ne ((f1.trans f2).trans f3) htc) gtc
      have d1 : DX 122 1 Z (.ref tp) := DX.tupA (n := 0) q1 (.cons (dx_word (by decide +kernel)) (.cons (DX.int (by decide) (by decide)) .nil)) (by show 2 ≤ 1000000; decide)
      have i0 : ∀ i : Int, 0 ≤ i → i ≤ 5 → DX 60 1 Z (.int i) := fun i a b => up0 (DX.int (by omega) (by omega))
      have d2 : DX 367 2 Z (.ref tl) := DX.tupA q2 (.cons (i0 0 (by decide) (by decide)) (.cons (i0 5 (by decide) (by decide)) (.cons d1 (.cons (i0 0 (by decide) (by decide)) (.cons (i0 0 (by decide) (by decide)) .nil))))) (by show 5 ≤ 1000000; decide)
      have d3 : DX 9810 5 Z (.ref tc) := (DX.tupA q3 (.cons d2 .nil) (by show 1 ≤ 1000000; decide)).le (by decide) (by decide)
      exact ⟨hw, q1, q2, q3, wh_dx hw ⟨by decide, by decide, by decide +kernel⟩, d3⟩
    refine ⟨(by show 5 ≤ sizeLine; decide), fun t5 ht5 => ?_⟩
    have f8 := Ex.new (o := .tup [.str n, b, m, .ref tw, .ref tc]) ht5
    have gt5 : upd H4 t5 (.tup [.str n, b, m, .ref tw, .ref tc]) t5 = some (.tup [.str n, b, m, .ref tw, .ref tc]) := upd_same
    generalize upd H4 t5 (.tup [.str n, b, m, .ref tw, .ref tc]) = H8 at f8 gt5 ⊢
    refine ⟨(by show 2 ≤ sizeLine; decide), fun t ht => ?_⟩
    have f9 := Ex.new (o := .tup [.ref t5, .str "paint"]) ht
    have gt : upd H8 t (.tup [.ref t5, .str "paint"]) t = some (.tup [.ref t5, .str "paint"]) := upd_same
    generalize upd H8 t (.tup [.ref t5, .str "paint"]) = H9 at f9 gt ⊢
    have e9 := (e04.trans f8).trans f9
    have f89 := f8.trans f9
    refine q t (.ref t5) .paint _ e9 gt fun Z oz => ?_
    have g9 := gG Z (oz.of e9)
    have gt5 : Z t5 = some (.tup [.str n, b, m, .ref tw, .ref tc]) := oz _ _ (ne e04 ht5) (f9 _ _ gt5)
    refine ⟨?_, (DX.tupA gt5 (ly_dx (LyD.mk g9.d.n g9.d.b g9.d.m (mk Z (oz.of f89)).2.2.2.2.1 (mk Z (oz.of f89)).2.2.2.2.2)) (by show 5 ≤ 1000000; decide)).le (by decide) (Nat.le_refl _)⟩
    obtain ⟨hw, q1, q2, q3, _, _⟩ := mk Z (oz.of f89)
    exact ⟨t5, .str n, b, m, .ref tw, .ref tc, (.paint 256 "over"), rfl, gt5, g9.pre, g9.ms, hw, ⟨by decide, by decide, by decide +kernel⟩, rfl, tc, tl, tp, rfl, q3, q2, q1⟩
abbrev s_numbers_of : Stmt := top 59
theorem sc_numbers_of : FnScope ["film"] ["film"] (defScope s_numbers_of) := ⟨rfl, rfl, rfl, by decide +kernel, rfl, by decide +kernel, by decide +kernel⟩
def spNumbers (K : PySem.W.Frag) (C : Addr) : Sp := fun vs H Q _ => ∃ (v : V) (x : Fi), vs = [v] ∧ FlV C H v x ∧ ∀ t H', Ex H H' → H' t = some (.tup ([x.w, x.h, x.n, x.b].map V.int)) → Q (.ref t) H'
theorem ok_numbers_of {f C : Addr} {fd : FuncData} (F : Fun K "_numbers_of" "_numbers_of" s_numbers_of f fd) (T : Txt K mg) (OT_Film : FilmT K C) (PF_Film_width : Prp P w K mg base C "width" 1 (spGetI C Fi.w)) (PF_Film_height : Prp P w K mg base C "height" 1 (spGetI C Fi.h)) (PF_Film_frames : Prp P w K mg base C "frames" 1 (spGetI C Fi.n))
    (PF_Film_background : Prp P w K mg base C "background" 1 (spGetI C Fi.b)) : FnOk P w K mg base CX0 3 f fd ["film"] (spNumbers K C) := by
  refine F.ok sc_numbers_of (fun vs H Q E h => ?_) (fun cdv A outer s H vs Q E hr h => ?_)
  · obtain ⟨v, x, rfl, _⟩ := h
    rfl
  · obtain ⟨v, x, rfl, hf, q⟩ := h
    obtain ⟨fa, dx, L, ls, rfl, hfa, _⟩ := id hf
    refine ⟨_, (pss_one (ps_ret (pe_tup (pa_cons (pe_prop (pv 0) OT_Film.cl PF_Film_width.hp PF_Film_width.ok (hr.mono (by decide)) PF_Film_width.b .nil pass0 rfl) (pa_cons (pe_prop (pv 0) OT_Film.cl PF_Film_height.hp PF_Film_height.ok (hr.mono (by decide)) PF_Film_height.b .nil pass0 rfl) (pa_cons (pe_prop (pv 0) OT_Film.cl PF_Film_frames.hp PF_Film_frames.ok (hr.mono (by decide)) PF_Film_frames.b .nil pass0 rfl) (pa_cons (pe_prop (pv 0) OT_Film.cl PF_Film_background.hp PF_Film_background.ok (hr.mono (by decide)) PF_Film_background.b .nil pass0 rfl) pa_nil))))))), ?_⟩
    rw [start_nrm (Nat.le_of_ble_eq_true rfl)]; dsimp only [startL]
    refine ⟨_, rfl, fa, dx, _, rfl, hfa, .ref fa, x, rfl, hf, ?_⟩
    refine ⟨_, rfl, fa, dx, _, rfl, hfa, .ref fa, x, rfl, hf, ?_⟩
    refine ⟨_, rfl, fa, dx, _, rfl, hfa, .ref fa, x, rfl, hf, ?_⟩
    refine ⟨_, rfl, fa, dx, _, rfl, hfa, .ref fa, x, rfl, hf, ?_⟩
    refine ⟨(by show 4 ≤ sizeLine; decide), fun t ht => ?_⟩
    exact q t _ (Ex.new ht) upd_same
abbrev s_same_film : Stmt := top 54
theorem sc_same_film : FnScope ["first", "second"] ["first", "second"] (defScope s_same_film) := ⟨rfl, rfl, rfl, by decide +kernel, rfl, by decide +kernel, by decide +kernel⟩
def numsD (x : Fi) : PyData := intD [x.w, x.h, x.n, x.b]
def lasD (ls : List La) : PyData := .list (ls.map laD)
/-- equal as the program compares -/
def sameF (x y : Fi) : Bool := PyData.eqv (numsD x) (numsD y) && PyData.eqv (lasD x.ls) (lasD y.ls)
theorem las_lay {ls : List La} (k : ∀ l ∈ ls, l.Vd) : (lasD ls).canLay0 = true := by
  simp only [lasD, PyData.canLay0]
  exact canLay_mem _ fun l hl => la_lay (k l hl)
theorem las_shaped {ls : List La} (k : ∀ l ∈ ls, l.Vd) : SeqAt.shaped (lasD ls) = true := shaped_of (las_lay k) (by
  have h : PyData.depthAll (ls.map laD) ≤ 6 := depth_map la_depth _
  simp only [lasD, PyData.depth]
  omega)
def spSame (K : PySem.W.Frag) (C : Addr) : Sp := fun vs H Q _ => ∃ (v u : V) (x y : Fi), vs = [v, u] ∧ FlV C H v x ∧ FlV C H u y ∧ x.Vd ∧ y.Vd ∧ ∀ H', Ex H H' → Q (.bl (sameF x y)) H'
theorem ok_same_film {f C : Addr} {fd : FuncData} (F : Fun K "same_film" "same_film" s_same_film f fd) (T : Txt K mg) (OT_Film : FilmT K C) (D_numbers_of : Def P w K mg base CX0 "_numbers_of" 3 ["film"] (spNumbers K C)) (PF_Film_layers : Prp P w K mg base C "layers" 1 (spGetL C)) : FnOk P w K mg base CX0 4 f fd ["first", "second"] (spSame K C) := by
  refine F.ok sc_same_film (fun vs H Q E h => ?_) (fun cdv A outer s H vs Q E hr h => ?_)
  · obtain ⟨v, u, x, y, rfl, _⟩ := h
    rfl
  · obtain ⟨v, u, x, y, rfl, hx, hy, kx, ky, q⟩ := h
    refine ⟨_, (pss_one (ps_ret (pe_and (pe_cmpR (keqD K hr.units) (pe_call D_numbers_of.ok (hr.mono (by decide)) rfl D_numbers_of.mgf D_numbers_of.kp D_numbers_of.b .nil pass0 (pa_cons (pv 0) pa_nil)) (pe_call D_numbers_of.ok (hr.mono (by decide)) rfl D_numbers_of.mgf D_numbers_of.kp D_numbers_of.b .nil pass0 (pa_cons (pv 1) pa_nil)) (nomark _)) (pe_one (pe_cmpR (keqD K hr.units) (pe_prop (pv 0) OT_Film.cl PF_Film_layers.hp PF_Film_layers.ok (hr.mono (by decide)) PF_Film_layers.b .nil pass0 rfl) (pe_prop (pv 1) OT_Film.cl PF_Film_layers.hp PF_Film_layers.ok (hr.mono (by decide)) PF_Film_layers.b .nil pass0 rfl) (nomark _)))))), ?_⟩
    rw [start_nrm (Nat.le_of_ble_eq_true rfl)]; dsimp only [startL]
    refine ⟨_, rfl, v, x, rfl, hx, fun t1 H1 e1 h1 => ?_⟩
    refine ⟨_, rfl, u, y, rfl, hy.ex e1, fun t2 H2 e2 h2 => ?_⟩
    have i4 : ∀ z : Fi, SeqAt.shaped (numsD z) = true := fun z => eqs_int.tup.shaped (by decide) _
    refine ⟨numsD x, numsD y, dp_tup (e2 _ _ h1), dp_tup h2, i4 x, i4 y, _, rfl, ?_⟩
    unfold sameF at q
    have e12 := e1.trans e2
    cases c1 : PyData.eqv (numsD x) (numsD y) with
    | false =>
      rw [c1, Bool.false_and] at q
      refine iteF ?_
      exact q H2 e12
    | true =>
      rw [c1, Bool.true_and] at q
      refine iteT ?_
      have hx2 := hx.ex e12
      obtain ⟨fa, dx, L, ls, rfl, hfa, _⟩ := id hx2
      refine ⟨_, rfl, fa, dx, _, rfl, hfa, .ref fa, x, rfl, hx2, by have := kx.len; omega, fun p1 us1 H3 _ e3 hp1 hP1 => ?_⟩
      have hy3 := (hy.ex e12).ex e3
      obtain ⟨fb, dy, M, ms, rfl, hfb, _⟩ := id hy3
      refine ⟨_, rfl, fb, dy, _, rfl, hfb, .ref fb, y, rfl, hy3, by have := ky.len; omega, fun p2 us2 H4 _ e4 hp2 hP2 => ?_⟩
      refine ⟨lasD x.ls, lasD y.ls, .lst (SqL.of (e4 _ _ hp1)) (dp_all (fun _ _ z => LaV.dp z) (Paired.mapP hP1 fun _ _ => LaV.tk (TK.ex e4))), .lst (SqL.of hp2) (dp_all (fun _ _ z => LaV.dp z) hP2), las_shaped kx.ok, las_shaped ky.ok, ?_⟩
      exact q H4 ((e12.trans e3).trans e4)
abbrev s_law : Stmt := top 75
theorem sc_law : FnScope ["script", "parts", "numbers", "layers", "due", "kind", "at", "word", "first", "which", "more", "kept", "one", "j", "name"] ["script"] (defScope s_law) := ⟨rfl, rfl, rfl, by decide +kernel, rfl, by decide +kernel, by decide +kernel⟩
def spLaw (K : PySem.W.Frag) : Sp := fun vs H Q _ => ∃ (a : Addr) (ns : List Int), vs = [.ref a] ∧ SqL K H a (ns.map V.int) ∧ ns.length ≤ 63 ∧ ∀ H', Q (.bl true) H'
theorem FiV.ex41 {H H' : Hp} {v : V} {x : Fi} (e : Ex H H') (h : FiV H v x) : FiV H' v x := by
  obtain ⟨a, L, us, rfl, h1, h2, h3⟩ := h
  exact ⟨a, L, us, rfl, e _ _ h1, e _ _ h2, Paired.mapP h3 fun _ _ => LaV.tk (TK.ex e)⟩
def foD : FO → PyData
  | .fine _ => .none
  | .num z => .tuple [.str "film", .str z] | .many => .tuple [.str "film", .str "layers"]
  | .bad i .layer => .tuple [.str "layer", .int i] | .bad _ .moves => .tuple [.str "moves", .none] | .bad _ .what => .tuple [.str "what", .none] | .bad _ .clip => .tuple [.str "clip", .none] | .bad _ .paint => .tuple [.str "paint", .none]
  | .dup _ n => .tuple [.str "double", .str n]
theorem TRes.dp {K : PySem.W.Frag} {H : Hp} {v : V} {o : FO} (h : TRes H v o) : Dp K H v (foD o) := by
  cases o with
  | fine x => obtain rfl : v = .non := h; exact .non
  | num z => obtain ⟨t, rfl, ht⟩ := h; exact .tup (SqT.of ht) (.cons (.str _) (.cons (.str _) .nil))
  | many => obtain ⟨t, rfl, ht⟩ := h; exact .tup (SqT.of ht) (.cons (.str _) (.cons (.str _) .nil))
  | dup i n => obtain ⟨t, rfl, ht⟩ := h; exact .tup (SqT.of ht) (.cons (.str _) (.cons (.str _) .nil))
  | bad i k =>
    cases k with
    | layer => obtain ⟨t, rfl, ht⟩ := h; exact .tup (SqT.of ht) (.cons (.str _) (.cons (.int _) .nil))
    | moves => obtain ⟨t, rfl, ht⟩ := h; exact .tup (SqT.of ht) (.cons (.str _) (.cons .non .nil))
    | what => obtain ⟨t, rfl, ht⟩ := h; exact .tup (SqT.of ht) (.cons (.str _) (.cons .non .nil))
    | clip => obtain ⟨t, rfl, ht⟩ := h; exact .tup (SqT.of ht) (.cons (.str _) (.cons .non .nil))
    | paint => obtain ⟨t, rfl, ht⟩ := h; exact .tup (SqT.of ht) (.cons (.str _) (.cons .non .nil))
theorem TRes.ex {H H' : Hp} {v : V} {o : FO} (e : Ex H H') (h : TRes H v o) : TRes H' v o := by
  cases o with
  | fine x => exact h
  | _ => obtain ⟨t, rfl, ht⟩ := h; exact ⟨t, rfl, e _ _ ht⟩
/-- the words of the answers can be told -/
def FoW : FO → Prop
  | .num z => PyData.strOk z = true
  | .dup _ n => PyData.strOk n = true
  | _ => True
theorem fo_lay {o : FO} (k : FoW o) : (foD o).canLay0 = true := by
  have w : ∀ z : Str, PyData.strOk z = true → (PyData.str z).canLay0 = true := fun z h => by simp only [PyData.canLay0, h]
  cases o with
  | fine x => rfl
  | num z =>
    simp only [foD, PyData.canLay0, PyData.canLayAll0, Bool.and_true]
    rw [show PyData.strOk "film" = true by decide +kernel, k]
    rfl
  | many => decide +kernel
  | dup i n =>
    simp only [foD, PyData.canLay0, PyData.canLayAll0, Bool.and_true]
    rw [show PyData.strOk "double" = true by decide +kernel, k]
    rfl
  | bad i kk =>
    cases kk with
    | layer =>
      simp only [foD, PyData.canLay0, PyData.canLayAll0, Bool.and_true]
      decide +kernel
    | moves => show (foD (.bad 0 .moves)).canLay0 = true; decide +kernel
    | what => show (foD (.bad 0 .what)).canLay0 = true; decide +kernel
    | clip => show (foD (.bad 0 .clip)).canLay0 = true; decide +kernel
    | paint => show (foD (.bad 0 .paint)).canLay0 = true; decide +kernel
theorem fo_shaped {o : FO} (k : FoW o) : SeqAt.shaped (foD o) = true := shaped_of (fo_lay k) (by
  cases o with
  | bad i kk => cases kk <;> (simp only [foD, PyData.depth, PyData.depthAll]; decide)
  | _ => simp only [foD, PyData.depth, PyData.depthAll]; decide)
/-- what stands behind the changes; the lists of S may change -/
structure St41 (S : Addr → Prop) (H : Hp) (a b c d : V) (us : List V) (o : FO) (dv : V) : Prop where
  kn : ∀ v ∈ [a, b, c, d], ∃ T, ∀ G : Hp, Kn G v T
  fin : ∀ Z, Off S H Z → FIn Z a b c d us o
  dx : ∀ Z, Off S H Z → ∀ v ∈ us, DX 12000 6 Z v
  res : TRes H dv o
  wd : FoW o
theorem Off.refl {S : Addr → Prop} {H : Hp} : Off S H H := fun _ _ _ h => h
theorem St41.ex {S : Addr → Prop} {H H' : Hp} {a b c d : V} {us : List V} {o : FO} {dv : V} (e : Ex H H') (h : St41 S H a b c d us o dv) : St41 S H' a b c d us o dv :=
  ⟨h.kn, fun Z oz => h.fin Z (oz.of e), fun Z oz => h.dx Z (oz.of e), h.res.ex e, h.wd⟩
theorem off_back {S : Addr → Prop} {H Z : Hp} {D : Addr} {u : HO} (h : S D) (oz : Off S (upd H D u) Z) : Off S H Z := fun b x n hb => oz b x n (by rw [upd_ne (fun z : b = D => n (by rw [z]; exact h))]; exact hb)
theorem TRes.lst {H : Hp} {D : Addr} {xs : List V} {u : HO} {v : V} {o : FO} (hD : H D = some (.lst xs)) (h : TRes H v o) : TRes (upd H D u) v o := by
  cases o with
  | fine x => exact h
  | _ =>
    obtain ⟨t, rfl, ht⟩ := h
    refine ⟨t, rfl, ?_⟩
    rw [upd_ne]
    · exact ht
    · intro z
      rw [z, hD] at ht
      cases ht
theorem kn_ints {w h n b : Int} : ∀ v ∈ [V.int w, .int h, .int n, .int b], ∃ T, ∀ G : Hp, Kn G v T := fun v hv => by
  simp only [List.mem_cons, List.not_mem_nil, or_false] at hv
  rcases hv with rfl | rfl | rfl | rfl <;> exact ⟨_, fun _ => .int _⟩
theorem la_vd {l : La} (h : l.Ok) (hn : nameS l.name = true) : l.Vd := by
  obtain ⟨⟨b1, b2, b3, b4, b5, b6, b7, b8⟩, ⟨m1, m2, m3⟩, w, ⟨c1, c2, c3, c4, c5⟩⟩ := h
  exact ⟨hn, ⟨by omega, by omega, by omega, by omega, b5, b6, b7, b8⟩, ⟨m1, fun m hm => by have := m2 m hm; omega, by omega⟩, w, ⟨c1, fun c hc => (c2 c hc).vd (c3 c hc), c4, by omega⟩⟩
theorem la_good {H : Hp} {v : V} {l : La} {i : Nat} (h : LaV H v l) (k : l.Ok) (kn : NameOk i l.name) : ∃ a b m w c, v = .ref a ∧ LyG H a l.name b m w c := by
  have vd := la_vd k (name_ok kn)
  obtain ⟨a, bv, ma, wv, ca, us, ws, rfl, ha, hb, hma, hM, hw, hca, hC⟩ := h
  exact ⟨a, bv, .ref ma, wv, .ref ca, rfl, ha, ⟨nm_dx kn, bx_dx hb k.box, mvs_dx hma hM k.ms, wh_dx hw k.wh, cls_dx hca hC k.cs⟩, vd.name, ⟨l.box, hb, vd.box⟩, ⟨ma, us, l.ms, rfl, hma, hM, vd.ms⟩⟩
theorem la_dx {H : Hp} {v : V} {l : La} {i : Nat} (h : LaV H v l) (k : l.Ok) (kn : NameOk i l.name) : DX 12000 6 H v := by
  obtain ⟨a, b, m, w, c, rfl, g⟩ := la_good h k kn
  exact (DX.tupA g.at_ (ly_dx g.d) (by show 5 ≤ 1000000; decide)).le (by decide) (Nat.le_refl _)
theorem odd_no {most : Int} {v : V} (h : v ∈ oddN most) : numIn 1 most v = false ∧ ∃ T, ∀ G : Hp, Kn G v T := by
  unfold oddN at h
  simp only [List.mem_cons, List.not_mem_nil, or_false] at h
  rcases h with rfl | rfl | rfl | rfl | rfl | rfl
  · exact ⟨rfl, _, fun _ => .int _⟩
  · exact ⟨rfl, _, fun _ => .int _⟩
  · refine ⟨?_, _, fun _ => .int _⟩
    show (decide (1 ≤ most + 1) && decide (most + 1 ≤ most)) = false
    rw [decide_eq_false (show ¬ most + 1 ≤ most by omega), Bool.and_false]
  · exact ⟨rfl, _, fun _ => .bl _⟩
  · exact ⟨rfl, _, fun _ => .str _⟩
  · exact ⟨rfl, _, fun _ => .non⟩
def oddB : List V := [.int (-1), .int 256, .bl false, .str "0", .non]
theorem oddB_no {v : V} (h : v ∈ oddB) : numIn 0 255 v = false ∧ ∃ T, ∀ G : Hp, Kn G v T := by
  unfold oddB at h
  simp only [List.mem_cons, List.not_mem_nil, or_false] at h
  rcases h with rfl | rfl | rfl | rfl | rfl
  · exact ⟨rfl, _, fun _ => .int _⟩
  · exact ⟨rfl, _, fun _ => .int _⟩
  · exact ⟨rfl, _, fun _ => .bl _⟩
  · exact ⟨rfl, _, fun _ => .str _⟩
  · exact ⟨rfl, _, fun _ => .non⟩
def letters18 : Str := "abcdefghijklmnopqr"
def goodC (c : Nat) : Bool := ((PyData.str ("a" ++ ⟨#[c]⟩)).showable && (PyData.str ("a" ++ ⟨#[c]⟩)).leavesShort 13) && (decide ((PyData.str ("a" ++ ⟨#[c]⟩)).weight ≤ 60) && (PyData.str ("a" ++ ⟨#[c]⟩)).canLay0)
theorem goodC_all : ∀ c ∈ letters18.cps.toList, goodC c = true := List.all_eq_true.mp (by decide +kernel)
theorem goodC_dx {c : Nat} (h : goodC c = true) (G : Hp) : DX 60 0 G (.str ("a" ++ ⟨#[c]⟩)) := by
  unfold goodC at h
  simp only [Bool.and_eq_true, decide_eq_true_eq] at h
  exact dx_word ⟨h.1.1, h.1.2, h.2.1, h.2.2⟩
theorem kn_four {a b c d : V} (ha : ∃ T, ∀ G : Hp, Kn G a T) (hb : ∃ T, ∀ G : Hp, Kn G b T) (hc : ∃ T, ∀ G : Hp, Kn G c T) (hd : ∃ T, ∀ G : Hp, Kn G d T) : ∀ v ∈ [a, b, c, d], ∃ T, ∀ G : Hp, Kn G v T := fun v hv => by
  simp only [List.mem_cons, List.not_mem_nil, or_false] at hv
  rcases hv with rfl | rfl | rfl | rfl
  · exact ha
  · exact hb
  · exact hc
  · exact hd
theorem kn_i {i : Int} : ∃ T, ∀ G : Hp, Kn G (.int i) T := ⟨_, fun _ => .int _⟩
theorem ok_law {f C CB CD C1 C2 C3 C4 C5 : Addr} {fd : FuncData} (F : Fun K "law" "law" s_law f fd) (T : Txt K mg) (D_l_film : Def P w K mg base CX0 "_law_film" 6 ["script", "k"] (spFilmF K)) (D_l_draw : Def P w K mg base CX0 "_law_draw" 1 ["script", "k", "below"] (spDrawF K)) (D_l_spoilt_layer : Def P w K mg base CX0 "_law_spoilt_layer" 2 ["script", "k", "layer"] (spSpoilt41 K))
    (D_l_number : Def P w K mg base CX0 "_law_number" 2 ["script", "k", "most"] (spNumber41 K)) (D_l_told : Def P w K mg base CX0 "_law_told" 10 ["numbers", "layers"] (spTold41 K)) (D_l_made : Def P w K mg base CX0 "_law_made" 10 ["parts"] (spMade K C)) (D_same_film : Def P w K mg base CX0 "same_film" 4 ["first", "second"] (spSame K C))
    (MK_Film : MkO P w K mg base (L2.CX P w) "Film" C 8 ["self", "width", "height", "frames", "background", "layers"] (spFilm41 C CB CD C1 C2 C3 C4 C5)) : FnG P w K mg base CX0 11 f fd ["script"] (spLaw K) := by
  refine Fun.okG F sc_law (fun vs H Q E h => ?_) (fun cdv A outer s H vs Q E gd hr h => ?_)
  · obtain ⟨a, ns, rfl, _⟩ := h
    rfl
  obtain ⟨a, ns, rfl, hS, hl, q⟩ := h
  refine ⟨_, (pss_cons (ps_set (i := 1) sc_law.nd rfl (by first | exact Or.inl rfl | exact Or.inr rfl) (pe_call D_l_film.ok (hr.mono (by decide)) rfl D_l_film.mgf D_l_film.kp D_l_film.b .nil pass0 (pa_cons (pv 0) (pa_cons pe_int pa_nil))))
      (pss_cons (ps_set (i := 2) sc_law.nd rfl (by first | exact Or.inl rfl | exact Or.inr rfl) (pe_lst (pa_cons (pe_ix (kixT K) (pv 1) pe_int (fun _ _ => rfl)) (pa_cons (pe_ix (kixT K) (pv 1) pe_int (fun _ _ => rfl)) (pa_cons (pe_ix (kixT K) (pv 1) pe_int (fun _ _ => rfl)) (pa_cons (pe_ix (kixT K) (pv 1) pe_int (fun _ _ => rfl)) pa_nil))))))
      (pss_cons (ps_set (i := 3) sc_law.nd rfl (by first | exact Or.inl rfl | exact Or.inr rfl) (pe_callTy (klist K) (by rfl) T.list_ bt_list (pa_cons (pe_ix (kixT K) (pv 1) pe_int (fun _ _ => rfl)) pa_nil)))
      (pss_cons (ps_set (i := 4) sc_law.nd rfl (by first | exact Or.inl rfl | exact Or.inr rfl) pe_non)
      (pss_cons (ps_if (pt_cmpR (kneD K hr.units) (pe_tup (pa_cons (pe_glob (v := .int 64) rfl T.SIDE_MOST_.choose_spec ⟨_, rfl⟩) (pa_cons (pe_glob (v := .int 1000) rfl T.FRAMES_MOST_.choose_spec ⟨_, rfl⟩) (pa_cons (pe_glob (v := .int 16) rfl T.LAYERS_MOST_.choose_spec ⟨_, rfl⟩) (pa_cons (pe_glob (v := .int 1000) rfl T.PLACE_MOST_.choose_spec ⟨_, rfl⟩) pa_nil))))) (pe_tup (pa_cons pe_int (pa_cons pe_int (pa_cons pe_int (pa_cons pe_int pa_nil))))) (nomark _))
        (pss_one (ps_ret pe_bl))
        pss_nil)
      (pss_cons (ps_set (i := 5) sc_law.nd rfl (by first | exact Or.inl rfl | exact Or.inr rfl) (pe_call D_l_draw.ok (hr.mono (by decide)) rfl D_l_draw.mgf D_l_draw.kp D_l_draw.b .nil pass0 (pa_cons (pv 0) (pa_cons pe_int (pa_cons pe_int pa_nil)))))
      (pss_cut (ps_if (PW.pt (pw_and (pt_cmpR op_eq (pv 5) pe_int (nomark _)) (pw_and1 (pt_cmpR op_gt (pe_callB (klen K) (by rfl) T.len_ PySem.boot_len (pa_cons (pv 3) pa_nil)) pe_int (nomark _)))))
        (pss_cons (ps_set (i := 6) sc_law.nd rfl (by first | exact Or.inl rfl | exact Or.inr rfl) (pe_call D_l_draw.ok (hr.mono (by decide)) rfl D_l_draw.mgf D_l_draw.kp D_l_draw.b .nil pass0 (pa_cons (pv 0) (pa_cons pe_int (pa_cons (pe_callB (klen K) (by rfl) T.len_ PySem.boot_len (pa_cons (pv 3) pa_nil)) pa_nil)))))
        (pss_cons (ps_asg (pe_call D_l_spoilt_layer.ok (hr.mono (by decide)) rfl D_l_spoilt_layer.mgf D_l_spoilt_layer.kp D_l_spoilt_layer.b .nil pass0 (pa_cons (pv 0) (pa_cons pe_int (pa_cons (pe_ix (kixL K) (pv 3) (pv 6) (fun _ _ => rfl)) pa_nil)))) (kpgT K (n := 2) rfl (pgs_cons (pg_sub (pv 3) (pv 6) set_list) (pgs_cons (pg_name (i := 7) sc_law.nd rfl (by first | exact Or.inl rfl | exact Or.inr rfl)) pgs_nil))))
        (pss_cons (ps_set (i := 4) sc_law.nd rfl (by first | exact Or.inl rfl | exact Or.inr rfl) (pe_tup (pa_cons (pv 7) (pa_cons pe_non pa_nil))))
        (pss_one (ps_if (pt_cmpR op_eq (pv 7) pe_str (nomark _))
          (pss_one (ps_set (i := 4) sc_law.nd rfl (by first | exact Or.inl rfl | exact Or.inr rfl) (pe_tup (pa_cons pe_str (pa_cons (pv 6) pa_nil)))))
          pss_nil)))))
        pss_nil)
      (pss_cut (ps_if (PW.pt (pw_and (pt_cmpR op_eq (pv 5) pe_int (nomark _)) (pw_and1 (pt_cmpR op_gt (pe_callB (klen K) (by rfl) T.len_ PySem.boot_len (pa_cons (pv 3) pa_nil)) pe_int (nomark _)))))
        (pss_cons (ps_set (i := 8) sc_law.nd rfl (by first | exact Or.inl rfl | exact Or.inr rfl) (pe_call D_l_draw.ok (hr.mono (by decide)) rfl D_l_draw.mgf D_l_draw.kp D_l_draw.b .nil pass0 (pa_cons (pv 0) (pa_cons pe_int (pa_cons (pe_callB (klen K) (by rfl) T.len_ PySem.boot_len (pa_cons (pv 3) pa_nil)) pa_nil)))))
        (pss_cons (ps_set (i := 6) sc_law.nd rfl (by first | exact Or.inl rfl | exact Or.inr rfl) (pe_op op_add (pe_op op_add (pv 8) pe_int) (pe_call D_l_draw.ok (hr.mono (by decide)) rfl D_l_draw.mgf D_l_draw.kp D_l_draw.b .nil pass0 (pa_cons (pv 0) (pa_cons pe_int (pa_cons (pe_op op_sub (pe_callB (klen K) (by rfl) T.len_ PySem.boot_len (pa_cons (pv 3) pa_nil)) (pv 8)) pa_nil))))))
        (pss_cons (ps_expr (pe_bm PySem.F.plainAttrs_list PySem.F.slot_list_insert PySem.F.type_list_insert mt_insert (pv 3) (pa_cons (pv 6) (pa_cons (pe_ix (kixL K) (pv 3) (pv 8) (fun _ _ => rfl)) pa_nil))))
        (pss_one (ps_set (i := 4) sc_law.nd rfl (by first | exact Or.inl rfl | exact Or.inr rfl) (pe_tup (pa_cons pe_str (pa_cons (pe_ix (kixS K) (pe_ix (kixL K) (pv 3) (pv 8) (fun _ _ => rfl)) pe_int (fun _ _ => rfl)) pa_nil))))))))
        pss_nil)
      (pss_cut (ps_if (PW.pt (pw_and (pt_cmpR op_lt (pv 5) pe_int (nomark _)) (pw_and1 (pt_cmpR op_eq (pe_call D_l_draw.ok (hr.mono (by decide)) rfl D_l_draw.mgf D_l_draw.kp D_l_draw.b .nil pass0 (pa_cons (pv 0) (pa_cons pe_int (pa_cons pe_int pa_nil)))) pe_int (nomark _)))))
        (pss_cons (ps_set (i := 9) sc_law.nd rfl (by first | exact Or.inl rfl | exact Or.inr rfl) (pe_call D_l_draw.ok (hr.mono (by decide)) rfl D_l_draw.mgf D_l_draw.kp D_l_draw.b .nil pass0 (pa_cons (pv 0) (pa_cons pe_int (pa_cons pe_int pa_nil)))))
        (pss_cut (ps_if (pt_cmpR op_lt (pv 9) pe_int (nomark _))
          (pss_cons (ps_asg (pe_call D_l_number.ok (hr.mono (by decide)) rfl D_l_number.mgf D_l_number.kp D_l_number.b .nil pass0 (pa_cons (pv 0) (pa_cons pe_int (pa_cons pe_int pa_nil)))) (pg_sub (pv 2) (pv 9) set_list))
          (pss_one (ps_set (i := 4) sc_law.nd rfl (by first | exact Or.inl rfl | exact Or.inr rfl) (pe_tup (pa_cons pe_str (pa_cons pe_str pa_nil))))))
          pss_nil)
        (pss_cut (ps_if (pt_cmpR op_eq (pv 9) pe_int (nomark _))
          (pss_cons (ps_asg (pe_call D_l_number.ok (hr.mono (by decide)) rfl D_l_number.mgf D_l_number.kp D_l_number.b .nil pass0 (pa_cons (pv 0) (pa_cons pe_int (pa_cons pe_int pa_nil)))) (pg_sub (pv 2) pe_int set_list))
          (pss_one (ps_set (i := 4) sc_law.nd rfl (by first | exact Or.inl rfl | exact Or.inr rfl) (pe_tup (pa_cons pe_str (pa_cons pe_str pa_nil))))))
          pss_nil)
        (pss_cut (ps_if (pt_cmpR op_eq (pv 9) pe_int (nomark _))
          (pss_cons (ps_asg (pe_ix (kixL K) (pe_lst (pa_cons (pe_un un_neg pe_int) (pa_cons pe_int (pa_cons pe_bl (pa_cons pe_str (pa_cons pe_non pa_nil)))))) (pe_call D_l_draw.ok (hr.mono (by decide)) rfl D_l_draw.mgf D_l_draw.kp D_l_draw.b .nil pass0 (pa_cons (pv 0) (pa_cons pe_int (pa_cons pe_int pa_nil)))) (fun _ _ => rfl)) (pg_sub (pv 2) pe_int set_list))
          (pss_one (ps_set (i := 4) sc_law.nd rfl (by first | exact Or.inl rfl | exact Or.inr rfl) (pe_tup (pa_cons pe_str (pa_cons pe_str pa_nil))))))
          pss_nil)
        (pss_one (ps_if (pt_cmpR op_eq (pv 9) pe_int (nomark _))
          (pss_cons (ps_setLc (i := 10)  (own := [("j", 13)]) (tt := tYes) rfl sc_law.nd rfl rfl (sw_true rfl rfl rfl (by decide +kernel)) (pi_range1 (by rfl) T.range_ (pa_cons pe_int pa_nil)) (blkOk_by (N := ["script", "parts", "numbers", "layers", "due", "kind", "at", "word", "first", "which", "more", "kept", "one", "j", "name"]) (sc := defScope s_law) (by decide +kernel)) (fun _ _ _ _ _ => (pg_name (i := 13) sc_law.nd rfl (by first | exact Or.inl rfl | exact Or.inr rfl))) (fun _ _ _ _ _ => pts_nil) (fun _ _ _ _ _ => (pe_op op_add_str pe_str (pe_ix ix_str pe_str (pv 13) (fun _ _ => rfl)))))
          (pss_cons (ps_set (i := 3) sc_law.nd rfl (by first | exact Or.inl rfl | exact Or.inr rfl) (pe_op op_cat (pv 3) (pe_lc (own := [("name", 14)]) (tt := tYes) rfl sc_law.nd (kpiL K (pv 10)) (blkOk_by (N := ["script", "parts", "numbers", "layers", "due", "kind", "at", "word", "first", "which", "more", "kept", "one", "j", "name"]) (sc := defScope s_law) (by decide +kernel)) (fun _ _ _ _ _ => (pg_name (i := 14) sc_law.nd rfl (by first | exact Or.inl rfl | exact Or.inr rfl))) (fun _ _ _ _ _ => pts_nil) (fun _ _ _ _ _ => (pe_tup (pa_cons (pv 14) (pa_cons (pe_tup (pa_cons pe_int (pa_cons pe_int (pa_cons pe_int (pa_cons pe_int pa_nil))))) (pa_cons (pe_tup pa_nil) (pa_cons (pe_tup (pa_cons pe_str pa_nil)) (pa_cons (pe_tup pa_nil) pa_nil))))))))))
          (pss_one (ps_set (i := 4) sc_law.nd rfl (by first | exact Or.inl rfl | exact Or.inr rfl) (pe_tup (pa_cons pe_str (pa_cons pe_str pa_nil)))))))
          pss_nil))))))
        pss_nil)
      (pss_cons (ps_set (i := 11) sc_law.nd rfl (by first | exact Or.inl rfl | exact Or.inr rfl) (pe_callB (krepr K gd hr.units) (by rfl) T.repr_ bt_repr (pa_cons (pv 3) pa_nil)))
      (pss_cons (ps_if (PW.pt (pw_or (pt_cmpR (kneD K hr.units) (pe_call D_l_told.ok (hr.mono (by decide)) rfl D_l_told.mgf D_l_told.kp D_l_told.b .nil pass0 (pa_cons (pv 2) (pa_cons (pv 3) pa_nil))) (pv 4) (nomark _)) (pw_or1 (pt_cmpR op_ne (pe_callB (krepr K gd hr.units) (by rfl) T.repr_ bt_repr (pa_cons (pv 3) pa_nil)) (pv 11) (nomark _)))))
        (pss_one (ps_ret pe_bl))
        pss_nil)
      (pss_cons (ps_set (i := 12) sc_law.nd rfl (by first | exact Or.inl rfl | exact Or.inr rfl) (pe_call D_l_made.ok (hr.mono (by decide)) rfl D_l_made.mgf D_l_made.kp D_l_made.b .nil pass0 (pa_cons (pv 1) pa_nil)))
      (pss_cons (ps_if (pt_not (pt_val (pe_call D_same_film.ok (hr.mono (by decide)) rfl D_same_film.mgf D_same_film.kp D_same_film.b .nil pass0 (pa_cons (pv 12) (pa_cons (pe_call D_l_made.ok (hr.mono (by decide)) rfl D_l_made.mgf D_l_made.kp D_l_made.b .nil pass0 (pa_cons (pv 1) pa_nil)) pa_nil)))))
        (pss_one (ps_ret pe_bl))
        pss_nil)
      (pss_one (ps_ret (pe_not (pe_call D_same_film.ok (hr.mono (by decide)) rfl D_same_film.mgf D_same_film.kp D_same_film.b .nil pass0 (pa_cons (pv 12) (pa_cons (pe_make MK_Film.M MK_Film.ok (hr.mono (by decide)) rfl MK_Film.mgC MK_Film.b .nil passL (pa_cons (pe_ix (kixT K) (pv 1) pe_int (fun _ _ => rfl)) (pa_cons (pe_ix (kixT K) (pv 1) pe_int (fun _ _ => rfl)) (pa_cons (pe_op op_add (pe_ix (kixT K) (pv 1) pe_int (fun _ _ => rfl)) pe_int) (pa_cons (pe_ix (kixT K) (pv 1) pe_int (fun _ _ => rfl)) (pa_cons (pe_callTy (klist K) (by rfl) T.list_ bt_list (pa_cons (pe_ix (kixT K) (pv 1) pe_int (fun _ _ => rfl)) pa_nil)) pa_nil)))))) pa_nil))))))))))))))))))), ?_⟩
  rw [start_nrm (Nat.le_of_ble_eq_true rfl)]; dsimp only [startL]
  refine ⟨_, rfl, a, ns, 0, rfl, hS, Int.le_refl 0, fun v x H1 e1 hv ok => ?_⟩
  dsimp only [List.set]
  have k := ok.vd
  obtain ⟨pa, L, us, rfl, hpa, hL, hP⟩ := id hv
  have lL := ok.len
  have lu := hP.length
  refine ⟨_, rfl, pa, _, 0, _, rfl, rfl, SqT.of hpa, rfl, _, rfl, pa, _, 1, _, rfl, rfl, SqT.of hpa, rfl, _, rfl, pa, _, 2, _, rfl, rfl, SqT.of hpa, rfl, _, rfl, pa, _, 3, _, rfl, rfl, SqT.of hpa, rfl, (by show 4 ≤ sizeLine; decide), fun N hN => ?_⟩
  dsimp only [List.set]
  have f2 := Ex.new (o := .lst [.int x.w, .int x.h, .int x.n, .int x.b]) hN
  have g2 : upd H1 N (.lst [.int x.w, .int x.h, .int x.n, .int x.b]) N = some (.lst [.int x.w, .int x.h, .int x.n, .int x.b]) := upd_same
  generalize upd H1 N (.lst [.int x.w, .int x.h, .int x.n, .int x.b]) = H2 at f2 g2 ⊢
  refine ⟨_, rfl, pa, _, 4, _, rfl, rfl, SqT.of (f2 _ _ hpa), rfl, L, us, rfl, .inl (SqL.of (f2 _ _ hL)), fun D hD => ?_⟩
  dsimp only [List.set]
  have f3 := Ex.new (o := .lst us) hD
  have g3 : upd H2 D (.lst us) D = some (.lst us) := upd_same
  generalize upd H2 D (.lst us) = H3 at f3 g3 ⊢
  have e13 := f2.trans f3
  refine ⟨(by show 4 ≤ sizeLine; decide), fun t1 ht1 => ?_⟩
  have f4 := Ex.new (o := .tup [.int 64, .int 1000, .int 16, .int 1000]) ht1
  have g4 : upd H3 t1 (.tup [.int 64, .int 1000, .int 16, .int 1000]) t1 = some (.tup ([64, 1000, 16, 1000].map V.int)) := upd_same
  generalize upd H3 t1 (.tup [.int 64, .int 1000, .int 16, .int 1000]) = H4 at f4 g4 ⊢
  refine ⟨(by show 4 ≤ sizeLine; decide), fun t2 ht2 => ?_⟩
  have f5 := Ex.new (o := .tup [.int 64, .int 1000, .int 16, .int 1000]) ht2
  have g5 : upd H4 t2 (.tup [.int 64, .int 1000, .int 16, .int 1000]) t2 = some (.tup ([64, 1000, 16, 1000].map V.int)) := upd_same
  generalize upd H4 t2 (.tup [.int 64, .int 1000, .int 16, .int 1000]) = H5 at f5 g5 ⊢
  refine ⟨_, _, dp_tup (f5 _ _ g4), dp_tup g5, eqs_int.tup.shaped (by decide) _, eqs_int.tup.shaped (by decide) _, _, rfl, ?_⟩
  rw [show PyData.eqv (intD [64, 1000, 16, 1000]) (intD [64, 1000, 16, 1000]) = true from eqv_self (eqs_int.tup.2.1 _)]
  refine iteF ?_
  have e35 := f4.trans f5
  have e15 := e13.trans e35
  refine ⟨_, rfl, a, ns, 400, 4, rfl, ex_l (e1.trans e15) hS, by decide, by decide, by decide, fun kd kd0 kd1 => ?_⟩
  dsimp only [List.set]
  have hv5 := FiV.ex41 e15 hv
  have hP5 := Paired.mapP hP fun _ _ => LaV.tk (TK.ex e15)
  obtain ⟨S, hSd⟩ : ∃ S : Addr → Prop, S = fun p => p = N ∨ p = D := ⟨_, rfl⟩
  have SN : S N := by rw [hSd]; exact .inl rfl
  have SD : S D := by rw [hSd]; exact .inr rfl
  have offP : ∀ {G Z : Hp}, Ex H1 G → Off S G Z → Paired (LaV Z) us x.ls := fun {G Z} e oz => by
    have tk : TK H1 Z := fun b xs hb => by
      refine oz b _ (fun z => ?_) (e _ _ hb)
      rw [hSd] at z
      rcases z with z | z
      · rw [z, hN] at hb
        cases hb
      · have := f2 _ _ hb
        rw [z, hD] at this
        cases this
    exact Paired.mapP hP fun _ _ => LaV.tk tk
  have st5 : St41 S H5 (.int x.w) (.int x.h) (.int x.n) (.int x.b) us (.fine x) .non := ⟨kn_ints, fun Z oz => ⟨rfl, rfl, rfl, rfl, offP e15 oz, k⟩, fun Z oz v hv => by
      obtain ⟨i, hi⟩ := List.getElem?_of_mem hv
      obtain ⟨l, hlx, hlv⟩ := pr_get (offP e15 oz) hi
      obtain ⟨k1, k2⟩ := ok.ok i l hlx
      exact la_dx hlv k1 k2, rfl, trivial⟩
  have hD5 := e35 _ _ g3
  have hN5 := (f3.trans e35) _ _ g2
  have hND : N ≠ D := fun z => by rw [z, hD] at g2; cases g2
  have hNo : H1 D = none := ex_free f2 hD
  -- behind the first two changes
  refine ⟨fun σ H' => Ex H1 H' ∧ ∃ (us' : List V) (o : FO) (dv : V) (y6 y7 : Option V), σ = [some (.ref a), some (.ref pa), some (.ref N), some (.ref D), some dv, some (.int kd), y6, y7, none, none, none, none, none, none, none] ∧ H' N = some (.lst [.int x.w, .int x.h, .int x.n, .int x.b]) ∧ H' D = some (.lst us') ∧ us'.length ≤ 6 ∧ St41 S H' (.int x.w) (.int x.h) (.int x.n) (.int x.b) us' o dv ∧ (kd = 0 ∨ (us' = us ∧ o = .fine x ∧ dv = .non)), ?_, ?_⟩
  · refine ⟨_, rfl, rfl, _, rfl, ?_⟩
    refine ite2 (fun c1 => ?_) (fun _ => iteF ⟨e15, us, .fine x, .non, _, _, rfl, hN5, hD5, by omega, st5, .inr ⟨rfl, rfl, rfl⟩⟩)
    have kz : kd = 0 := V.int.inj (of_decide_eq_true c1)
    refine ⟨_, rfl, D, us, rfl, .inl (SqL.of hD5), _, _, rfl, rfl, _, rfl, ?_⟩
    refine ite2 (fun c2 => ?_) (fun _ => ⟨e15, us, .fine x, .non, _, _, rfl, hN5, hD5, by omega, st5, .inr ⟨rfl, rfl, rfl⟩⟩)
    have lus : 0 < us.length := by
      have : (0 : Int) < us.length := of_decide_eq_true c2
      omega
    refine ⟨_, rfl, _, rfl, D, us, rfl, .inl (SqL.of hD5), a, ns, 401, (us.length : Int), rfl, ex_l (e1.trans e15) hS, by decide, by omega, by omega, fun at_ at0 at1 => ?_⟩
    dsimp only [List.set]
    obtain ⟨j, rfl⟩ := Int.eq_ofNat_of_zero_le at0
    have hj : j < us.length := by omega
    have huj : us[j]? = some us[j] := List.getElem?_eq_getElem hj
    generalize us[j] = uv at huj
    obtain ⟨l, hlx, hlv⟩ := pr_get hP5 huj
    obtain ⟨kl, kn⟩ := ok.ok j l hlx
    obtain ⟨la, lb, lm, lw, lc, rfl, lg⟩ := la_good hlv kl kn
    refine ⟨_, rfl, _, rfl, _, rfl, D, us, (j : Int), _, rfl, rfl, SqL.of hD5, atI_nat huj, ?_⟩
    refine ⟨a, la, ns, 402, l.name, lb, lm, lw, lc, rfl, ex_l (e1.trans e15) hS, by decide, S, fun p hp => ?_, lg, fun Z oz => ?_, fun t v o H6 e6 ht hbad => ?_⟩
    · rw [hSd] at hp
      rcases hp with rfl | rfl
      · exact ⟨_, hN5⟩
      · exact ⟨_, hD5⟩
    · obtain ⟨l', hlx', hlv'⟩ := pr_get (offP e15 oz) huj
      obtain rfl : l = l' := Option.some.inj (hlx.symm.trans hlx')
      obtain ⟨la', lb', lm', lw', lc', e, lg'⟩ := la_good hlv' kl kn
      cases e
      have h1 := lg'.at_
      have h2 : Z la = some (.tup [.str l.name, lb, lm, lw, lc]) := oz _ _ (fun z => by
        have h3 := lg.at_
        rw [hSd] at z
        rcases z with z | z
        · rw [z, hN5] at h3; cases h3
        · rw [z, hD5] at h3; cases h3) lg.at_
      rw [h2] at h1
      cases h1
      exact lg'
    have hD6 := e6 _ _ hD5
    refine ⟨t, _, rfl, SqT.of ht, rfl, _, _, rfl, ?_⟩
    refine ⟨_, rfl, _, rfl, D, us, (j : Int), j, rfl, rfl, hD6, by unfold ixN; rw [if_pos (by omega), if_pos (by omega)]; rfl, ?_⟩
    refine ⟨_, _, rfl, rfl, ?_⟩
    have e16 := e15.trans e6
    have eM : Ex H1 (upd H6 D (.lst (us.set j v))) := e16.mut hNo
    have gD : upd H6 D (.lst (us.set j v)) D = some (.lst (us.set j v)) := upd_same
    have gN : upd H6 D (.lst (us.set j v)) N = some (.lst [.int x.w, .int x.h, .int x.n, .int x.b]) := (upd_ne hND).trans (e6 _ _ hN5)
    have ob : ∀ {Z}, Off S (upd H6 D (.lst (us.set j v))) Z → Off S H6 Z := fun oz => off_back SD oz
    generalize upd H6 D (.lst (us.set j v)) = H7 at ob eM gD gN ⊢
    have fin7 : ∀ Z, Off S H7 Z → FIn Z (.int x.w) (.int x.h) (.int x.n) (.int x.b) (us.set j v) (.bad j o) := fun Z oz => by
      refine ⟨nums_good k, by rw [List.length_set]; omega, x.ls.take j, v, ⟨?_, fun l hl => k.ok l (List.mem_of_mem_take hl), ?_⟩, by rw [List.getElem?_set_self hj], (hbad Z (ob oz)).1⟩
      · rw [List.take_set_of_le (Nat.le_refl j)]
        exact pr_take j (offP eM oz)
      · exact List.Nodup.sublist ((List.take_sublist j x.ls).map La.name) k.nd
    have dx7 : ∀ Z, Off S H7 Z → ∀ y ∈ us.set j v, DX 12000 6 Z y := fun Z oz y hy => by
      rcases List.mem_or_eq_of_mem_set hy with hy | rfl
      · obtain ⟨i, hi⟩ := List.getElem?_of_mem hy
        obtain ⟨l2, hl2, hlv2⟩ := pr_get (offP eM oz) hi
        obtain ⟨k1, k2⟩ := ok.ok i l2 hl2
        exact la_dx hlv2 k1 k2
      · exact (hbad Z (ob oz)).2
    dsimp only [List.set]
    refine ⟨_, rfl, (by show 2 ≤ sizeLine; decide), fun t3 ht3 => ?_⟩
    have f8 := Ex.new (o := .tup [.str o.told, .non]) ht3
    have g8 : upd H7 t3 (.tup [.str o.told, .non]) t3 = some (.tup [.str o.told, .non]) := upd_same
    generalize upd H7 t3 (.tup [.str o.told, .non]) = H8 at f8 g8 ⊢
    dsimp only [List.set]
    refine ⟨_, rfl, rfl, _, rfl, ?_⟩
    cases o with
    | layer =>
      refine iteE rfl ?_
      refine ⟨_, rfl, (by show 2 ≤ sizeLine; decide), fun t4 ht4 => ?_⟩
      have f9 := Ex.new (o := .tup [.str "layer", .int (j : Int)]) ht4
      have f79 := f8.trans f9
      exact ⟨eM.trans f79, us.set j v, .bad j .layer, .ref t4, _, _, rfl, f79 _ _ gN, f79 _ _ gD, by rw [List.length_set]; omega, ⟨kn_ints, fun Z oz => fin7 Z (oz.of f79), fun Z oz => dx7 Z (oz.of f79), ⟨t4, rfl, upd_same⟩, trivial⟩, .inl kz⟩
    | moves =>
      refine iteW (show ("moves" : Str) ≠ "layer" by decide +kernel) ?_
      exact ⟨eM.trans f8, us.set j v, .bad j .moves, .ref t3, _, _, rfl, f8 _ _ gN, f8 _ _ gD, by rw [List.length_set]; omega, ⟨kn_ints, fun Z oz => fin7 Z (oz.of f8), fun Z oz => dx7 Z (oz.of f8), ⟨t3, rfl, g8⟩, trivial⟩, .inl kz⟩
    | what =>
      refine iteW (show ("what" : Str) ≠ "layer" by decide +kernel) ?_
      exact ⟨eM.trans f8, us.set j v, .bad j .what, .ref t3, _, _, rfl, f8 _ _ gN, f8 _ _ gD, by rw [List.length_set]; omega, ⟨kn_ints, fun Z oz => fin7 Z (oz.of f8), fun Z oz => dx7 Z (oz.of f8), ⟨t3, rfl, g8⟩, trivial⟩, .inl kz⟩
    | clip =>
      refine iteW (show ("clip" : Str) ≠ "layer" by decide +kernel) ?_
      exact ⟨eM.trans f8, us.set j v, .bad j .clip, .ref t3, _, _, rfl, f8 _ _ gN, f8 _ _ gD, by rw [List.length_set]; omega, ⟨kn_ints, fun Z oz => fin7 Z (oz.of f8), fun Z oz => dx7 Z (oz.of f8), ⟨t3, rfl, g8⟩, trivial⟩, .inl kz⟩
    | paint =>
      refine iteW (show ("paint" : Str) ≠ "layer" by decide +kernel) ?_
      exact ⟨eM.trans f8, us.set j v, .bad j .paint, .ref t3, _, _, rfl, f8 _ _ gN, f8 _ _ gD, by rw [List.length_set]; omega, ⟨kn_ints, fun Z oz => fin7 Z (oz.of f8), fun Z oz => dx7 Z (oz.of f8), ⟨t3, rfl, g8⟩, trivial⟩, .inl kz⟩
  rintro σ H6 ⟨e6, us6, o6, dv6, y6, y7, rfl, gN6, gD6, l6, st6, hk6⟩
  -- behind the second
  refine ⟨fun σ H' => Ex H1 H' ∧ ∃ (us' : List V) (o : FO) (dv : V) (y6 y7 y8 : Option V), σ = [some (.ref a), some (.ref pa), some (.ref N), some (.ref D), some dv, some (.int kd), y6, y7, y8, none, none, none, none, none, none] ∧ H' N = some (.lst [.int x.w, .int x.h, .int x.n, .int x.b]) ∧ H' D = some (.lst us') ∧ us'.length ≤ 6 ∧ St41 S H' (.int x.w) (.int x.h) (.int x.n) (.int x.b) us' o dv, ?_, ?_⟩
  · refine ⟨_, rfl, rfl, _, rfl, ?_⟩
    refine ite2 (fun c1 => ?_) (fun _ => iteF ⟨e6, us6, o6, dv6, _, _, _, rfl, gN6, gD6, l6, st6⟩)
    have kz : kd = 1 := V.int.inj (of_decide_eq_true c1)
    obtain ⟨rfl, rfl, rfl⟩ : us6 = us ∧ o6 = .fine x ∧ dv6 = .non := hk6.resolve_left fun z => by omega
    refine ⟨_, rfl, D, us6, rfl, .inl (SqL.of gD6), _, _, rfl, rfl, _, rfl, ?_⟩
    refine ite2 (fun c2 => ?_) (fun _ => ⟨e6, us6, .fine x, .non, _, _, _, rfl, gN6, gD6, l6, st6⟩)
    have lus : 0 < us6.length := by
      have : (0 : Int) < us6.length := of_decide_eq_true c2
      omega
    refine ⟨_, rfl, _, rfl, D, us6, rfl, .inl (SqL.of gD6), a, ns, 401, (us6.length : Int), rfl, ex_l (e1.trans e6) hS, by decide, by omega, by omega, fun fi fi0 fi1 => ?_⟩
    dsimp only [List.set]
    refine ⟨_, rfl, _, _, rfl, rfl, _, rfl, _, rfl, D, us6, rfl, .inl (SqL.of gD6), _, rfl, _, _, rfl, rfl, a, ns, 402, (us6.length : Int) - fi, rfl, ex_l (e1.trans e6) hS, by decide, by omega, by omega, fun m m0 m1 => ⟨_, _, rfl, rfl, ?_⟩⟩
    dsimp only [List.set]
    obtain ⟨i, rfl⟩ := Int.eq_ofNat_of_zero_le fi0
    obtain ⟨m, rfl⟩ := Int.eq_ofNat_of_zero_le m0
    have hi : i < us6.length := by omega
    have hui : us6[i]? = some us6[i] := List.getElem?_eq_getElem hi
    generalize us6[i] = uv at hui
    have e61 : Ex H1 H6 := e6
    obtain ⟨l, hlx, hlv⟩ := pr_get (offP e6 Off.refl) hui
    obtain ⟨kl, kn⟩ := ok.ok i l hlx
    have hat : ((i : Int) + 1 + (m : Int)).toNat = i + 1 + m := by omega
    refine ⟨_, rfl, .inl ⟨rfl, _, SqL.of gD6⟩, ?_⟩
    refine ⟨_, rfl, _, rfl, _, rfl, D, us6, (i : Int), _, rfl, rfl, SqL.of gD6, atI_nat hui, ?_⟩
    refine ⟨D, us6, (i : Int) + 1 + (m : Int), uv, rfl, rfl, gD6, slineL (by omega), by omega, by omega, ?_⟩
    rw [hat]
    have lt : (us6.take (i + 1 + m)).length = i + 1 + m := by rw [List.length_take]; omega
    have eM : Ex H1 (upd H6 D (.lst (us6.take (i + 1 + m) ++ [uv] ++ us6.drop (i + 1 + m)))) := e6.mut hNo
    have gD : upd H6 D (.lst (us6.take (i + 1 + m) ++ [uv] ++ us6.drop (i + 1 + m))) D = some (.lst (us6.take (i + 1 + m) ++ [uv] ++ us6.drop (i + 1 + m))) := upd_same
    have gN : upd H6 D (.lst (us6.take (i + 1 + m) ++ [uv] ++ us6.drop (i + 1 + m))) N = some (.lst [.int x.w, .int x.h, .int x.n, .int x.b]) := (upd_ne hND).trans gN6
    generalize upd H6 D (.lst (us6.take (i + 1 + m) ++ [uv] ++ us6.drop (i + 1 + m))) = H7 at eM gD gN ⊢
    have ln : (us6.take (i + 1 + m) ++ [uv] ++ us6.drop (i + 1 + m)).length = us6.length + 1 := by
      rw [List.length_append, List.length_append, lt, List.length_drop, List.length_singleton]
      omega
    have at1 : (us6.take (i + 1 + m) ++ [uv] ++ us6.drop (i + 1 + m))[i + 1 + m]? = some uv := by
      rw [List.append_assoc, List.getElem?_append_right (by omega), lt, Nat.sub_self]
      rfl
    have at0 : (us6.take (i + 1 + m) ++ [uv] ++ us6.drop (i + 1 + m))[i]? = some uv := by
      rw [List.append_assoc, List.getElem?_append_left (by omega), List.getElem?_take_of_lt (by omega)]
      exact hui
    have tk1 : (us6.take (i + 1 + m) ++ [uv] ++ us6.drop (i + 1 + m)).take (i + 1 + m) = us6.take (i + 1 + m) := by
      rw [List.append_assoc, List.take_append_of_le_length (by omega), List.take_take, Nat.min_self]
    have mem1 : ∀ y ∈ us6.take (i + 1 + m) ++ [uv] ++ us6.drop (i + 1 + m), y ∈ us6 := fun y hy => by
      rcases List.mem_append.mp hy with hy | hy
      · rcases List.mem_append.mp hy with hy | hy
        · exact List.mem_of_mem_take hy
        · rw [List.mem_singleton.mp hy]
          exact List.mem_of_getElem? hui
      · exact List.mem_of_mem_drop hy
    generalize us6.take (i + 1 + m) ++ [uv] ++ us6.drop (i + 1 + m) = us7 at gD ln at1 at0 tk1 mem1
    have fin7 : ∀ Z, Off S H7 Z → FIn Z (.int x.w) (.int x.h) (.int x.n) (.int x.b) us7 (.dup (i + 1 + m) l.name) := fun Z oz => by
      obtain ⟨l', hlx', hlv'⟩ := pr_get (offP eM oz) hui
      obtain rfl : l = l' := Option.some.inj (hlx.symm.trans hlx')
      refine ⟨nums_good k, by omega, x.ls.take (i + 1 + m), l, uv, ⟨?_, fun l hl => k.ok l (List.mem_of_mem_take hl), List.Nodup.sublist ((List.take_sublist _ x.ls).map La.name) k.nd⟩, at1, hlv', k.ok l (List.mem_of_getElem? hlx), rfl, ?_⟩
      · rw [tk1]
        exact pr_take _ (offP eM oz)
      · refine List.mem_map_of_mem (List.mem_of_getElem? (i := i) ?_)
        rw [List.getElem?_take_of_lt (by omega)]
        exact hlx
    have dx7 : ∀ Z, Off S H7 Z → ∀ y ∈ us7, DX 12000 6 Z y := fun Z oz y hy => by
      obtain ⟨i2, hi2⟩ := List.getElem?_of_mem (mem1 y hy)
      obtain ⟨l2, hl2, hlv2⟩ := pr_get (offP eM oz) hi2
      obtain ⟨k1, k2⟩ := ok.ok i2 l2 hl2
      exact la_dx hlv2 k1 k2
    obtain ⟨l', hlx', la, lb, lm, lw, lc, ms, ws, e', hla, _⟩ := pr_get (offP eM Off.refl) hui
    obtain rfl : l = l' := Option.some.inj (hlx.symm.trans hlx')
    subst e'
    refine ⟨_, rfl, _, rfl, D, us7, (i : Int), _, rfl, rfl, SqL.of gD, atI_nat at0, .inr (.inl ⟨la, _, 0, _, rfl, rfl, SqT.of hla, rfl, (by show 2 ≤ sizeLine; decide), fun t4 ht4 => ?_⟩)⟩
    have f9 := Ex.new (o := .tup [.str "double", .str l.name]) ht4
    exact ⟨eM.trans f9, us7, .dup (i + 1 + m) l.name, .ref t4, _, _, _, rfl, f9 _ _ gN, f9 _ _ gD, by omega, ⟨kn_ints, fun Z oz => fin7 Z (oz.of f9), fun Z oz => dx7 Z (oz.of f9), ⟨t4, rfl, upd_same⟩, strOk_name (k.ok l (List.mem_of_getElem? hlx)).name⟩⟩
  clear gN6 gD6 l6 st6 hk6 e6
  rintro σ H6 ⟨e6, us6, o6, dv6, y6, y7, y8, rfl, gN6, gD6, l6, st6⟩
  -- behind the third
  have wv := num_in' k.w0 k.w1
  have hv_ := num_in' k.h0 k.h1
  have nv := num_in' k.n0 k.n1
  refine ⟨fun σ H' => Ex H1 H' ∧ ∃ (D' : Addr) (va vb vc vd : V) (us' : List V) (o : FO) (dv : V) (y6 y7 y8 y9 y10 : Option V), σ = [some (.ref a), some (.ref pa), some (.ref N), some (.ref D'), some dv, some (.int kd), y6, y7, y8, y9, y10, none, none, none, none] ∧ H' N = some (.lst [va, vb, vc, vd]) ∧ H' D' = some (.lst us') ∧ us'.length ≤ 30 ∧ St41 S H' va vb vc vd us' o dv, ?_, ?_⟩
  · have stay : Ex H1 H6 ∧ ∃ (D' : Addr) (va vb vc vd : V) (us' : List V) (o : FO) (dv : V) (z6 z7 z8 z9 z10 : Option V), [some (V.ref a), some (.ref pa), some (.ref N), some (.ref D), some dv6, some (.int kd), y6, y7, y8, none, none, none, none, none, none] = [some (.ref a), some (.ref pa), some (.ref N), some (.ref D'), some dv, some (.int kd), z6, z7, z8, z9, z10, none, none, none, none] ∧ H6 N = some (.lst [va, vb, vc, vd]) ∧ H6 D' = some (.lst us') ∧ us'.length ≤ 30 ∧ St41 S H6 va vb vc vd us' o dv := ⟨e6, D, _, _, _, _, us6, o6, dv6, _, _, _, _, _, rfl, gN6, gD6, by omega, st6⟩
    refine ⟨_, rfl, _, _, rfl, rfl, _, rfl, ?_⟩
    refine ite2 (fun _ => ?_) (fun _ => iteF stay)
    refine ⟨_, rfl, a, ns, 410, 2, rfl, ex_l (e1.trans e6) hS, by decide, by decide, by decide, fun z z0 z1 => ?_⟩
    refine ⟨rfl, _, rfl, ?_⟩
    refine ite2 (fun _ => ?_) (fun _ => stay)
    clear stay
    refine ⟨_, rfl, a, ns, 411, 5, rfl, ex_l (e1.trans e6) hS, by decide, by decide, by decide, fun wh wh0 wh1 => ?_⟩
    dsimp only [List.set]
    -- the first two numbers
    refine ⟨fun σ H' => Ex H1 H' ∧ ∃ (va vb vc vd : V) (o : FO) (dv : V) (y6 y7 y8 : Option V), σ = [some (.ref a), some (.ref pa), some (.ref N), some (.ref D), some dv, some (.int kd), y6, y7, y8, some (.int wh), none, none, none, none, none] ∧ H' N = some (.lst [va, vb, vc, vd]) ∧ H' D = some (.lst us6) ∧ St41 S H' va vb vc vd us6 o dv ∧ (wh < 2 ∨ (va = .int x.w ∧ vb = .int x.h ∧ vc = .int x.n ∧ vd = .int x.b)), ?_, ?_⟩
    · refine ⟨_, rfl, _, _, rfl, rfl, _, rfl, ?_⟩
      refine ite2 (fun c1 => ?_) (fun _ => ⟨e6, _, _, _, _, o6, dv6, _, _, _, rfl, gN6, gD6, st6, .inr ⟨rfl, rfl, rfl, rfl⟩⟩)
      have c1 : wh < 2 := of_decide_eq_true c1
      refine ⟨_, rfl, a, ns, 412, 64, rfl, ex_l (e1.trans e6) hS, by decide, fun v G eg hv => ?_⟩
      obtain ⟨nov, knv⟩ := odd_no hv
      have w01 : wh = 0 ∨ wh = 1 := by omega
      rcases w01 with rfl | rfl
      · refine ⟨_, rfl, _, rfl, N, _, 0, 0, rfl, rfl, eg _ _ gN6, rfl, ?_⟩
        have gM : upd G N (.lst [v, .int x.h, .int x.n, .int x.b]) N = some (.lst [v, .int x.h, .int x.n, .int x.b]) := upd_same
        have gDM : upd G N (.lst [v, .int x.h, .int x.n, .int x.b]) D = some (.lst us6) := (upd_ne (Ne.symm hND)).trans (eg _ _ gD6)
        have eM : Ex H1 (upd G N (.lst [v, .int x.h, .int x.n, .int x.b])) := (Ex.trans e6 eg).mut hN
        have ob : ∀ {Z}, Off S (upd G N (.lst [v, .int x.h, .int x.n, .int x.b])) Z → Off S G Z := fun oz => off_back SN oz
        dsimp only [List.set]
        refine ⟨(by show 2 ≤ sizeLine; decide), fun t4 ht4 => ?_⟩
        have f9 := Ex.new (o := .tup [.str "film", .str "size"]) ht4
        exact ⟨eM.trans f9, _, _, _, _, .num "size", .ref t4, _, _, _, rfl, f9 _ _ gM, f9 _ _ gDM, ⟨kn_four knv kn_i kn_i kn_i, fun Z oz => by show numsW v (.int x.h) (.int x.n) (.int x.b) = _; unfold numsW; rw [nov, Bool.false_and, if_pos rfl], fun Z oz => st6.dx Z ((ob (oz.of f9)).of eg), ⟨t4, rfl, upd_same⟩, by show PyData.strOk "size" = true; decide +kernel⟩, .inl (by omega)⟩
      · refine ⟨_, rfl, _, rfl, N, _, 1, 1, rfl, rfl, eg _ _ gN6, rfl, ?_⟩
        have gM : upd G N (.lst [.int x.w, v, .int x.n, .int x.b]) N = some (.lst [.int x.w, v, .int x.n, .int x.b]) := upd_same
        have gDM : upd G N (.lst [.int x.w, v, .int x.n, .int x.b]) D = some (.lst us6) := (upd_ne (Ne.symm hND)).trans (eg _ _ gD6)
        have eM : Ex H1 (upd G N (.lst [.int x.w, v, .int x.n, .int x.b])) := (Ex.trans e6 eg).mut hN
        have ob : ∀ {Z}, Off S (upd G N (.lst [.int x.w, v, .int x.n, .int x.b])) Z → Off S G Z := fun oz => off_back SN oz
        dsimp only [List.set]
        refine ⟨(by show 2 ≤ sizeLine; decide), fun t4 ht4 => ?_⟩
        have f9 := Ex.new (o := .tup [.str "film", .str "size"]) ht4
        exact ⟨eM.trans f9, _, _, _, _, .num "size", .ref t4, _, _, _, rfl, f9 _ _ gM, f9 _ _ gDM, ⟨kn_four kn_i knv kn_i kn_i, fun Z oz => by show numsW (.int x.w) v (.int x.n) (.int x.b) = _; unfold numsW; rw [wv, nov, Bool.true_and, if_pos rfl], fun Z oz => st6.dx Z ((ob (oz.of f9)).of eg), ⟨t4, rfl, upd_same⟩, by show PyData.strOk "size" = true; decide +kernel⟩, .inl (by omega)⟩
    clear e6 gN6 gD6 st6 o6 dv6 y6 y7 y8
    rintro σ H7 ⟨e6, va, vb, vc, vd, o6, dv6, y6, y7, y8, rfl, gN6, gD6, st6, org⟩
    -- the frames
    refine ⟨fun σ H' => Ex H1 H' ∧ ∃ (va vb vc vd : V) (o : FO) (dv : V) (y6 y7 y8 : Option V), σ = [some (.ref a), some (.ref pa), some (.ref N), some (.ref D), some dv, some (.int kd), y6, y7, y8, some (.int wh), none, none, none, none, none] ∧ H' N = some (.lst [va, vb, vc, vd]) ∧ H' D = some (.lst us6) ∧ St41 S H' va vb vc vd us6 o dv ∧ (wh < 3 ∨ (va = .int x.w ∧ vb = .int x.h ∧ vc = .int x.n ∧ vd = .int x.b)), ?_, ?_⟩
    · refine ⟨_, rfl, rfl, _, rfl, ?_⟩
      refine ite2 (fun c1 => ?_) (fun c1 => ⟨e6, _, _, _, _, o6, dv6, _, _, _, rfl, gN6, gD6, st6, org.imp_left fun z => by omega⟩)
      have c1 : wh = 2 := V.int.inj (of_decide_eq_true c1)
      obtain ⟨rfl, rfl, rfl, rfl⟩ := org.resolve_left fun z => by omega
      refine ⟨_, rfl, a, ns, 412, 1000, rfl, ex_l (e1.trans e6) hS, by decide, fun v G eg hv => ?_⟩
      obtain ⟨nov, knv⟩ := odd_no hv
      refine ⟨_, rfl, N, _, 2, 2, rfl, rfl, eg _ _ gN6, rfl, ?_⟩
      have gM : upd G N (.lst [.int x.w, .int x.h, v, .int x.b]) N = some (.lst [.int x.w, .int x.h, v, .int x.b]) := upd_same
      have gDM : upd G N (.lst [.int x.w, .int x.h, v, .int x.b]) D = some (.lst us6) := (upd_ne (Ne.symm hND)).trans (eg _ _ gD6)
      have eM : Ex H1 (upd G N (.lst [.int x.w, .int x.h, v, .int x.b])) := (Ex.trans e6 eg).mut hN
      have ob : ∀ {Z}, Off S (upd G N (.lst [.int x.w, .int x.h, v, .int x.b])) Z → Off S G Z := fun oz => off_back SN oz
      dsimp only [List.set]
      refine ⟨(by show 2 ≤ sizeLine; decide), fun t4 ht4 => ?_⟩
      have f9 := Ex.new (o := .tup [.str "film", .str "frames"]) ht4
      exact ⟨eM.trans f9, _, _, _, _, .num "frames", .ref t4, _, _, _, rfl, f9 _ _ gM, f9 _ _ gDM, ⟨kn_four kn_i kn_i knv kn_i, fun Z oz => by show numsW (.int x.w) (.int x.h) v (.int x.b) = _; unfold numsW; rw [wv, hv_, nov]; rfl, fun Z oz => st6.dx Z ((ob (oz.of f9)).of eg), ⟨t4, rfl, upd_same⟩, by show PyData.strOk "frames" = true; decide +kernel⟩, .inl (by omega)⟩
    clear e6 gN6 gD6 st6 o6 dv6 y6 y7 y8
    rintro σ H8 ⟨e6, va, vb, vc, vd, o6, dv6, y6, y7, y8, rfl, gN6, gD6, st6, org⟩
    -- the background
    refine ⟨fun σ H' => Ex H1 H' ∧ ∃ (va vb vc vd : V) (o : FO) (dv : V) (y6 y7 y8 : Option V), σ = [some (.ref a), some (.ref pa), some (.ref N), some (.ref D), some dv, some (.int kd), y6, y7, y8, some (.int wh), none, none, none, none, none] ∧ H' N = some (.lst [va, vb, vc, vd]) ∧ H' D = some (.lst us6) ∧ St41 S H' va vb vc vd us6 o dv ∧ (wh < 4 ∨ (va = .int x.w ∧ vb = .int x.h ∧ vc = .int x.n ∧ vd = .int x.b)), ?_, ?_⟩
    · refine ⟨_, rfl, rfl, _, rfl, ?_⟩
      refine ite2 (fun c1 => ?_) (fun c1 => ⟨e6, _, _, _, _, o6, dv6, _, _, _, rfl, gN6, gD6, st6, org.imp_left fun z => by omega⟩)
      have c1 : wh = 3 := V.int.inj (of_decide_eq_true c1)
      obtain ⟨rfl, rfl, rfl, rfl⟩ := org.resolve_left fun z => by omega
      refine ⟨_, rfl, (by show 5 ≤ sizeLine; decide), fun l hl => ?_⟩
      have fl := Ex.new (o := .lst [.int (-1), .int 256, .bl false, .str "0", .non]) hl
      have gl : upd H8 l (.lst [.int (-1), .int 256, .bl false, .str "0", .non]) l = some (.lst oddB) := upd_same
      generalize upd H8 l (.lst [.int (-1), .int 256, .bl false, .str "0", .non]) = G at fl gl ⊢
      refine ⟨_, rfl, a, ns, 412, 5, rfl, ex_l ((e1.trans e6).trans fl) hS, by decide, by decide, by decide, fun m m0 m1 => ?_⟩
      obtain ⟨v, hv, av⟩ := pickV (xs := oddB) m0 m1
      refine ⟨l, _, m, v, rfl, rfl, SqL.of gl, av, ?_⟩
      obtain ⟨nov, knv⟩ := oddB_no hv
      refine ⟨_, rfl, N, _, 3, 3, rfl, rfl, fl _ _ gN6, rfl, ?_⟩
      have gM : upd G N (.lst [.int x.w, .int x.h, .int x.n, v]) N = some (.lst [.int x.w, .int x.h, .int x.n, v]) := upd_same
      have gDM : upd G N (.lst [.int x.w, .int x.h, .int x.n, v]) D = some (.lst us6) := (upd_ne (Ne.symm hND)).trans (fl _ _ gD6)
      have eM : Ex H1 (upd G N (.lst [.int x.w, .int x.h, .int x.n, v])) := (Ex.trans e6 fl).mut hN
      have ob : ∀ {Z}, Off S (upd G N (.lst [.int x.w, .int x.h, .int x.n, v])) Z → Off S G Z := fun oz => off_back SN oz
      dsimp only [List.set]
      refine ⟨(by show 2 ≤ sizeLine; decide), fun t4 ht4 => ?_⟩
      have f9 := Ex.new (o := .tup [.str "film", .str "background"]) ht4
      exact ⟨eM.trans f9, _, _, _, _, .num "background", .ref t4, _, _, _, rfl, f9 _ _ gM, f9 _ _ gDM, ⟨kn_four kn_i kn_i kn_i knv, fun Z oz => by show numsW (.int x.w) (.int x.h) (.int x.n) v = _; unfold numsW; rw [wv, hv_, nv, nov]; rfl, fun Z oz => st6.dx Z ((ob (oz.of f9)).of fl), ⟨t4, rfl, upd_same⟩, by show PyData.strOk "background" = true; decide +kernel⟩, .inl (by omega)⟩
    clear e6 gN6 gD6 st6 o6 dv6 y6 y7 y8
    rintro σ H9 ⟨e6, va, vb, vc, vd, o6, dv6, y6, y7, y8, rfl, gN6, gD6, st6, org⟩
    -- more layers
    refine ⟨_, rfl, rfl, _, rfl, ?_⟩
    refine ite2 (fun c1 => ?_) (fun c1 => ⟨e6, D, _, _, _, _, us6, o6, dv6, _, _, _, _, _, rfl, gN6, gD6, by omega, st6⟩)
    have c1 : wh = 4 := V.int.inj (of_decide_eq_true c1)
    obtain ⟨rfl, rfl, rfl, rfl⟩ := org.resolve_left fun z => by omega
    refine ⟨17, rfl, by decide, by decide, fun Dm hDm => ?_⟩
    refine lc_range (lo := 0) (n := 17) (fun i H' => Ex H9 H' ∧ ∃ ws : List V, H' Dm = some (.lst ws) ∧ ws.length = i ∧ ∀ w ∈ ws, (∀ G, DX 60 0 G w)) ⟨Ex.new hDm, [], upd_same, rfl, fun w hw => by cases hw⟩ ?_ ?_
    · rintro i G hi ⟨eg, ws, gW, lw, hw⟩
      refine ⟨rfl, ?_⟩
      refine lcY ?_
      have hl18 : letters18.cps.toList.length = 18 := by decide +kernel
      have hc : letters18.cps.toList[i]? = some letters18.cps.toList[i] := List.getElem?_eq_getElem (by omega)
      have hcm : letters18.cps.toList[i] ∈ letters18.cps.toList := List.getElem_mem (by omega)
      generalize letters18.cps.toList[i]'(by omega) = c at hc hcm
      have la : ("a" : Str).length = 1 := by decide +kernel
      have lc1 : (⟨#[c]⟩ : Str).length = 1 := rfl
      refine ⟨_, rfl, letters18, _, c, rfl, rfl, (by show letters18.length ≤ sizeLine; exact Nat.le_of_lt (slineL (by decide +kernel))), (by rw [Int.zero_add]; exact atI_nat hc), _, _, rfl, rfl, (by rw [la, lc1]; decide), ?_⟩
      refine ⟨ws, gW, slineL (by omega), eg.mut hDm, ws ++ [.str ("a" ++ ⟨#[c]⟩)], upd_same, by rw [List.length_append, lw]; rfl, fun w hw2 => ?_⟩
      rcases List.mem_append.mp hw2 with hw2 | hw2
      · exact hw w hw2
      · rw [List.mem_singleton.mp hw2]
        exact goodC_dx (goodC_all c hcm)
    rintro H10 ⟨e10, ws, gW, lw, hw⟩
    dsimp only [List.set]
    have noS : ∀ {G : Hp} {p : Addr} {xs : List V}, Ex H9 G → G p = some (.tup xs) → ¬ S p := fun {G p xs} e h z => by
      rw [hSd] at z
      rcases z with z | z
      · rw [z, e _ _ gN6] at h; cases h
      · rw [z, e _ _ gD6] at h; cases h
    refine ⟨_, rfl, _, rfl, Dm, rfl, ⟨_, SqL.of gW⟩, fun Dl hDl => ?_⟩
    obtain ⟨S2, hS2⟩ : ∃ S2 : Addr → Prop, S2 = fun p => S p ∨ p = Dl := ⟨_, rfl⟩
    refine lc_list (xs := ws) (fun i H' => Ex H10 H' ∧ ∃ zs : List V, H' Dl = some (.lst zs) ∧ zs.length = i ∧ ∀ Z, Off S2 H' Z → ∀ y ∈ zs, DX 12000 6 Z y) ⟨Ex.new hDl, [], upd_same, rfl, fun _ _ y hy => by cases hy⟩ (fun i H' _ p => SqL.of (p.1 _ _ gW)) ?_ ?_
    · rintro i uv G hu ⟨eg, zs, gZ, lz, hz⟩
      have du := hw uv (List.mem_of_getElem? hu)
      have hi := (List.getElem?_eq_some_iff.mp hu).1
      refine ⟨rfl, ?_⟩
      refine lcY ?_
      refine ⟨_, rfl, (by show 4 ≤ sizeLine; decide), fun t1 ht1 => ?_⟩
      have f1 := Ex.new (o := .tup [.int 0, .int 0, .int 1, .int 1]) ht1
      have k1 : upd G t1 (.tup [.int 0, .int 0, .int 1, .int 1]) t1 = some (.tup [.int 0, .int 0, .int 1, .int 1]) := upd_same
      generalize upd G t1 (.tup [.int 0, .int 0, .int 1, .int 1]) = G1 at f1 k1 ⊢
      refine ⟨(by show 0 ≤ sizeLine; decide), fun t2 ht2 => ?_⟩
      have f2 := Ex.new (o := .tup []) ht2
      have k2 : upd G1 t2 (.tup []) t2 = some (.tup []) := upd_same
      generalize upd G1 t2 (.tup []) = G2 at f2 k2 ⊢
      refine ⟨(by show 1 ≤ sizeLine; decide), fun t3 ht3 => ?_⟩
      have f3 := Ex.new (o := .tup [.str "invert"]) ht3
      have k3 : upd G2 t3 (.tup [.str "invert"]) t3 = some (.tup [.str "invert"]) := upd_same
      generalize upd G2 t3 (.tup [.str "invert"]) = G3 at f3 k3 ⊢
      refine ⟨(by show 0 ≤ sizeLine; decide), fun t4 ht4 => ?_⟩
      have f4 := Ex.new (o := .tup []) ht4
      have k4 : upd G3 t4 (.tup []) t4 = some (.tup []) := upd_same
      generalize upd G3 t4 (.tup []) = G4 at f4 k4 ⊢
      refine ⟨(by show 5 ≤ sizeLine; decide), fun t5 ht5 => ?_⟩
      have f5 := Ex.new (o := .tup [uv, .ref t1, .ref t2, .ref t3, .ref t4]) ht5
      have k5 : upd G4 t5 (.tup [uv, .ref t1, .ref t2, .ref t3, .ref t4]) t5 = some (.tup [uv, .ref t1, .ref t2, .ref t3, .ref t4]) := upd_same
      generalize upd G4 t5 (.tup [uv, .ref t1, .ref t2, .ref t3, .ref t4]) = G5 at f5 k5 ⊢
      have f15 := (f2.trans f3).trans (f4.trans f5)
      have f05 := f1.trans f15
      have g0 := f05 _ _ gZ
      have e95 := (e10.trans eg).trans f05
      have nDl : ∀ {p xs}, G5 p = some (.tup xs) → p ≠ Dl := fun {p xs} h z => by rw [z, g0] at h; cases h
      refine ⟨zs, g0, slineL (by omega), (eg.trans f05).mut hDl, zs ++ [.ref t5], upd_same, by rw [List.length_append, lz]; rfl, fun Z oz y hy => ?_⟩
      have oz5 : Off S2 G5 Z := off_back (by rw [hS2]; exact .inr rfl) oz
      have at_ : ∀ {p xs}, G5 p = some (.tup xs) → Z p = some (.tup xs) := fun {p xs} h => oz5 _ _ (fun z => by
        rw [hS2] at z
        exact z.elim (noS e95 h) (nDl h)) h
      rcases List.mem_append.mp hy with hy | hy
      · exact hz Z (oz5.of f05) y hy
      · rw [List.mem_singleton.mp hy]
        have q1 := at_ (f15 _ _ k1)
        have q2 := at_ (((f3.trans f4).trans f5) _ _ k2)
        have q3 := at_ ((f4.trans f5) _ _ k3)
        have q4 := at_ (f5 _ _ k4)
        have q5 := at_ k5
        have i0 : ∀ i : Int, 0 ≤ i → i ≤ 1 → DX 60 0 Z (.int i) := fun i a b => DX.int (by omega) (by omega)
        have d1 : DX 244 5 Z (.ref t1) := (DX.tupA (n := 0) q1 (.cons (i0 0 (by decide) (by decide)) (.cons (i0 0 (by decide) (by decide)) (.cons (i0 1 (by decide) (by decide)) (.cons (i0 1 (by decide) (by decide)) .nil)))) (by show 4 ≤ 1000000; decide)).le (by decide) (by decide)
        have d2 : DX 0 5 Z (.ref t2) := (DX.tupA (n := 0) q2 .nil (by show 0 ≤ 1000000; decide)).le (Nat.le_refl _) (by decide)
        have d3 : DX 61 5 Z (.ref t3) := (DX.tupA (n := 0) q3 (.cons (dx_word (by decide +kernel)) .nil) (by show 1 ≤ 1000000; decide)).le (Nat.le_refl _) (by decide)
        have d4 : DX 0 5 Z (.ref t4) := (DX.tupA (n := 0) q4 .nil (by show 0 ≤ 1000000; decide)).le (Nat.le_refl _) (by decide)
        exact (DX.tupA q5 (.cons (up0 (du Z)) (.cons d1 (.cons d2 (.cons d3 (.cons d4 .nil))))) (by show 5 ≤ 1000000; decide)).le (by decide) (Nat.le_refl _)
    rintro H11 ⟨e11, zs, gZ, lz, hz⟩
    have e911 := e10.trans e11
    have gD11 := e911 _ _ gD6
    refine ⟨D, Dl, us6, zs, rfl, rfl, gD11, gZ, Nat.le_of_lt (slineL (by omega)), fun r hr => ?_⟩
    have f12 := Ex.new (o := .lst (us6 ++ zs)) hr
    have g12 : upd H11 r (.lst (us6 ++ zs)) r = some (.lst (us6 ++ zs)) := upd_same
    generalize upd H11 r (.lst (us6 ++ zs)) = H12 at f12 g12 ⊢
    dsimp only [List.set]
    refine ⟨(by show 2 ≤ sizeLine; decide), fun t4 ht4 => ?_⟩
    have f13 := Ex.new (o := .tup [.str "film", .str "layers"]) ht4
    have e912 := (e911.trans f12).trans f13
    have weak : ∀ {G Z : Hp}, Off S G Z → Off S2 G Z := fun o b u n hb => o b u (fun z => n (by rw [hS2]; exact .inl z)) hb
    have lall : (us6 ++ zs).length = us6.length + 17 := by rw [List.length_append, lz, lw]
    refine ⟨e6.trans e912, r, _, _, _, _, us6 ++ zs, .many, .ref t4, _, _, _, _, _, rfl, e912 _ _ gN6, f13 _ _ g12, by omega, ⟨kn_ints, fun Z oz => ⟨nums_good k, by omega⟩, fun Z oz y hy => ?_, ⟨t4, rfl, upd_same⟩, trivial⟩⟩
    rcases List.mem_append.mp hy with hy | hy
    · exact st6.dx Z (oz.of e912) y hy
    · exact hz Z (weak (oz.of (f12.trans f13))) y hy
  clear gN6 gD6 l6 st6 e6
  rintro σ H6 ⟨e6, D', va, vb, vc, vd, us6, o6, dv6, y6, y7, y8, y9, y10, rfl, gN6, gD6, l6, st6⟩
  obtain ⟨d, da, dsh, ddp, dlay⟩ := DX.lstA gD6 (DXA.all (st6.dx H6 Off.refl) l6) (by omega)
  have d60 : d.depth ≤ 60 := Nat.le_trans ddp (by decide)
  refine ⟨_, rfl, ?_⟩
  dsimp only [tNil]
  refine reprA da.dp dsh (by decide) d60 ?_
  refine ⟨_, rfl, _, rfl, N, D', va, vb, vc, vd, us6, o6, rfl, gN6, gD6, by omega, fun v hv => by obtain ⟨T', k'⟩ := st6.kn v hv; exact ⟨T', k' _⟩, st6.fin H6 Off.refl, fun v H7 e7 hres => ?_⟩
  have sh := fo_shaped st6.wd
  refine ⟨_, rfl, foD o6, foD o6, hres.dp, (st6.res.ex e7).dp, sh, sh, _, rfl, ?_⟩
  rw [eqv_self (fo_lay st6.wd)]
  refine iteF ?_
  refine ⟨_, rfl, ?_⟩
  dsimp only [tNil]
  refine reprA (da.mono e7).dp dsh (by decide) d60 ?_
  refine ⟨_, rfl, rfl, _, rfl, ?_⟩
  refine iteDn rfl ?_
  have e17 := e6.trans e7
  refine ⟨_, rfl, .ref pa, x, rfl, FiV.ex41 e17 hv, k, fun u1 H8 e8 hf1 => ?_⟩
  dsimp only [List.set]
  refine ⟨_, rfl, _, rfl, .ref pa, x, rfl, FiV.ex41 (e17.trans e8) hv, k, fun u2 H9 e9 hf2 => ?_⟩
  refine ⟨u1, u2, x, x, rfl, hf1.ex e9, hf2, k, k, fun H10 e10 => ⟨_, rfl, ?_⟩⟩
  have sx : sameF x x = true := by
    unfold sameF
    rw [eqv_self (show (numsD x).canLay0 = true from eqs_int.tup.2.1 _), eqv_self (las_lay k.ok)]
    rfl
  rw [sx]
  refine iteF ?_
  have e110 := ((e17.trans e8).trans e9).trans e10
  have hpa10 := e110 _ _ hpa
  refine ⟨_, rfl, _, rfl, pa, _, 0, _, rfl, rfl, SqT.of hpa10, rfl, _, rfl, pa, _, 1, _, rfl, rfl, SqT.of hpa10, rfl, _, rfl, pa, _, 2, _, rfl, rfl, SqT.of hpa10, rfl, _, _, rfl, rfl, _, rfl, pa, _, 3, _, rfl, rfl, SqT.of hpa10, rfl, _, rfl, pa, _, 4, _, rfl, rfl, SqT.of hpa10, rfl, L, us, rfl, .inl (SqL.of (e110 _ _ hL)), fun l hl => ?_⟩
  have f11 := Ex.new (o := .lst us) hl
  have k11 : upd H10 l (.lst us) l = some (.lst us) := upd_same
  generalize upd H10 l (.lst us) = H11 at f11 k11 ⊢
  intro s dx hs hdx ne
  have e2 : Ex H11 (upd (upd H11 dx (.own s)) s (.ins C dx [])) := (Ex.new hdx).trans (Ex.new (by rw [upd_ne (Ne.symm ne)]; exact hs))
  have ks : upd (upd H11 dx (.own s)) s (.ins C dx []) s = some (.ins C dx []) := upd_same
  generalize upd (upd H11 dx (.own s)) s (.ins C dx []) = H12 at e2 ks ⊢
  obtain ⟨x2, hx2⟩ : ∃ x2 : Fi, x2 = ⟨x.w, x.h, x.n + 1, x.b, x.ls⟩ := ⟨_, rfl⟩
  have n1 := ok.n1
  have kx2 : x2.Vd := by
    rw [hx2]
    exact ⟨k.w0, k.w1, k.h0, k.h1, by show 1 ≤ x.n + 1; have := k.n0; omega, by show x.n + 1 ≤ 1000; omega, k.b0, k.b1, k.len, k.ok, k.nd⟩
  have hP12 := Paired.mapP hP fun _ _ => LaV.tk (TK.ex ((e110.trans f11).trans e2))
  refine ⟨s, dx, _, _, _, _, l, us, .fine x2, rfl, ks, e2 _ _ k11, by omega, fun v hv => ?_, ⟨by rw [hx2], by rw [hx2], by rw [hx2], by rw [hx2], by rw [hx2]; exact hP12, kx2⟩, fun x3 ex H13 dx' L' hL' keep hs3 hL3 => ⟨rfl, ?_⟩, fun _ _ _ _ _ z => z.elim⟩
  · simp only [List.mem_cons, List.not_mem_nil, or_false] at hv
    rcases hv with rfl | rfl | rfl | rfl <;> exact ⟨_, .int _⟩
  cases ex
  have e3 : Ex H11 H13 := fun b o hb => by
    have h2 := e2 _ _ hb
    refine keep b o h2 fun z => ?_
    subst z
    rw [hs] at hb
    cases hb
  have e813 := ((e9.trans e10).trans f11).trans e3
  have hf3 : FlV C H13 (.ref s) x2 := ⟨s, dx', L', us, rfl, hs3, hL3, by rw [hx2]; exact Paired.mapP hP fun _ _ => LaV.tk (TK.ex ((e110.trans f11).trans e3))⟩
  refine ⟨u1, .ref s, x, x2, rfl, hf1.ex e813, hf3, k, kx2, fun H14 e14 => ⟨_, rfl, ?_⟩⟩
  have sx2 : sameF x x2 = false := by
    unfold sameF
    have : PyData.eqv (numsD x) (numsD x2) = false := by
      rw [hx2]
      show PyData.eqv (intD _) (intD _) = false
      refine (eqs_int.tup.1 _ _).trans (decide_eq_false fun z => ?_)
      have := List.cons.inj (List.cons.inj (List.cons.inj z).2).2
      have : x.n = x.n + 1 := this.1
      omega
    rw [this]
    rfl
  rw [sx2]
  exact q _
end
theorem all_mk {l : PySem.W.OpenLaw} {w : World} {K : PySem.W.Frag} {h : Heap} {mg : Str → Option Value} {fa f0 f1 f2 f3 f4 f5 f6 f7 f8 f9 f10 f11 f12 f13 f14 f15 f16 f17 f18 f19 f20 f21 f22 f23 f24 f25 f26 f27 f28 f29 f30 f31 f32 f33 f34 f35 f36 f37 f38 f39 f40 f41 f42 : Addr} (X : K.In h) (G : h.Ns mainGlobals mg) (hfa : mg "law" = some (.ref fa))
    {od0 an0 od1 an1 od2 an2 od3 an3 od4 an4 od5 an5 od6 an6 od7 an7 od8 an8 od9 an9 od10 an10 od11 an11 od12 an12 od13 an13 od14 an14 od15 an15 od16 an16 od17 an17 od18 an18 od19 an19 od20 an20 od21 an21 od22 an22 od23 an23 od24 an24 od25 an25 od26 an26 od27 an27 od28 an28 od29 an29 od30 an30 od31 an31 od32 an32 od33 an33 od34 an34 od35 an35 od36 an36 od37 an37 od38 an38 od39 an39 od40 an40 od41 an41 od42 an42 : Option Addr} {sl0 sl1 sl2 sl3 sl4 sl5 sl6 sl7 sl8 sl9 sl10 sl11 sl12 sl13 sl14 sl15 sl16 sl17 sl18 sl19 sl20 sl21 sl22 sl23 sl24 sl25 sl26 sl27 sl28 sl29 sl30 sl31 sl32 sl33 sl34 sl35 sl36 sl37 sl38 sl39 sl40 sl41 sl42 : Array (Option Value)} {oc0 kV0 dc0 pm0 cd0 ct0 oc1 kV1 dc1 pm1 cd1 ct1 oc2 kV2 dc2 pm2 cd2 ct2 oc3 kV3 dc3 pm3 cd3 ct3 oc4 kV4 dc4 pm4 cd4 ct4 oc5 kV5 dc5 pm5 cd5 ct5 oc6 kV6 dc6 pm6 cd6 ct6 oc7 kV7 dc7 pm7 cd7 ct7 oc8 kV8 dc8 pm8 cd8 ct8 oc9 kV9 dc9 pm9 cd9 ct9 oc10 kV10 dc10 pm10 cd10 ct10 oc11 kV11 dc11 pm11 cd11 ct11 oc12 kV12 dc12 pm12 cd12 ct12 oc13 kV13 dc13 pm13 cd13 ct13 oc14 kV14 dc14 pm14 cd14 ct14 oc15 kV15 dc15 pm15 cd15 ct15 oc16 kV16 dc16 pm16 cd16 ct16 oc17 kV17 dc17 pm17 cd17 ct17 oc18 kV18 dc18 pm18 cd18 ct18 oc19 kV19 dc19 pm19 cd19 ct19 oc20 kV20 dc20 pm20 cd20 ct20 oc21 kV21 dc21 pm21 cd21 ct21 oc22 kV22 dc22 pm22 cd22 ct22 oc23 kV23 dc23 pm23 cd23 ct23 oc24 kV24 dc24 pm24 cd24 ct24 oc25 kV25 dc25 pm25 cd25 ct25 oc26 kV26 dc26 pm26 cd26 ct26 oc27 kV27 dc27 pm27 cd27 ct27 oc28 kV28 dc28 pm28 cd28 ct28 oc29 kV29 dc29 pm29 cd29 ct29 oc30 kV30 dc30 pm30 cd30 ct30 oc31 kV31 dc31 pm31 cd31 ct31 oc32 kV32 dc32 pm32 cd32 ct32 oc33 kV33 dc33 pm33 cd33 ct33 oc34 kV34 dc34 pm34 cd34 ct34 oc35 kV35 dc35 pm35 cd35 ct35 oc36 kV36 dc36 pm36 cd36 ct36 oc37 kV37 dc37 pm37 cd37 ct37 oc38 kV38 dc38 pm38 cd38 ct38 oc39 kV39 dc39 pm39 cd39 ct39 oc40 kV40 dc40 pm40 cd40 ct40 oc41 kV41 dc41 pm41 cd41 ct41 oc42 kV42 dc42 pm42 cd42 ct42 : Value}
    {cO_Film : Addr} (aO_Film : PySem.W.nsIn K mainGlobals "Film" = some (some (.ref cO_Film))) (pg_Film : PySem.W.plainGet K cO_Film Str.empty = true) (hd_Film : PySem.W.hasDictIn K cO_Film = true) (po_Film : PySem.W.plainOver K cO_Film = true) (sa_Film : PySem.W.findIn K (.ref cO_Film) "__setattr__" = some (some (.builtin "object.__setattr__"))) (mk_Film : PySem.W.makesIn K cO_Film = true) (kc_Film : PySem.W.keepIn K (.ref cO_Film) = true) (n0_Film : PySem.W.findIn K (.ref cO_Film) "_width" = some none) (n1_Film : PySem.W.findIn K (.ref cO_Film) "_height" = some none) (n2_Film : PySem.W.findIn K (.ref cO_Film) "_frames" = some none) (n3_Film : PySem.W.findIn K (.ref cO_Film) "_background" = some none) (n4_Film : PySem.W.findIn K (.ref cO_Film) "_layers" = some none)
    (a0 : PySem.W.nsIn K mainGlobals "_law_draw" = some (some (.ref f0))) (l0 : K.lookup f0 = some ⟨oc0, od0, .func (PySem.W.fnOf "_law_draw" "_law_draw" (defArgs s_l_draw) (defBody s_l_draw) (defScope s_l_draw) .none kV0 dc0 pm0 an0 cd0 ct0), sl0⟩) (c0 : PySem.W.codeIn K cd0 "_law_draw" = true) (k0 : PySem.W.keepIn K (.ref f0) = true)
    (a1 : PySem.W.nsIn K mainGlobals "_law_picture" = some (some (.ref f1))) (l1 : K.lookup f1 = some ⟨oc1, od1, .func (PySem.W.fnOf "_law_picture" "_law_picture" (defArgs s_l_picture) (defBody s_l_picture) (defScope s_l_picture) .none kV1 dc1 pm1 an1 cd1 ct1), sl1⟩) (c1 : PySem.W.codeIn K cd1 "_law_picture" = true) (k1 : PySem.W.keepIn K (.ref f1) = true)
    (a2 : PySem.W.nsIn K mainGlobals "_law_paint" = some (some (.ref f2))) (l2 : K.lookup f2 = some ⟨oc2, od2, .func (PySem.W.fnOf "_law_paint" "_law_paint" (defArgs s_l_paint) (defBody s_l_paint) (defScope s_l_paint) .none kV2 dc2 pm2 an2 cd2 ct2), sl2⟩) (c2 : PySem.W.codeIn K cd2 "_law_paint" = true) (k2 : PySem.W.keepIn K (.ref f2) = true)
    (a3 : PySem.W.nsIn K mainGlobals "_law_clips" = some (some (.ref f3))) (l3 : K.lookup f3 = some ⟨oc3, od3, .func (PySem.W.fnOf "_law_clips" "_law_clips" (defArgs s_l_clips) (defBody s_l_clips) (defScope s_l_clips) .none kV3 dc3 pm3 an3 cd3 ct3), sl3⟩) (c3 : PySem.W.codeIn K cd3 "_law_clips" = true) (k3 : PySem.W.keepIn K (.ref f3) = true)
    (a4 : PySem.W.nsIn K mainGlobals "_law_what" = some (some (.ref f4))) (l4 : K.lookup f4 = some ⟨oc4, od4, .func (PySem.W.fnOf "_law_what" "_law_what" (defArgs s_l_what) (defBody s_l_what) (defScope s_l_what) .none kV4 dc4 pm4 an4 cd4 ct4), sl4⟩) (c4 : PySem.W.codeIn K cd4 "_law_what" = true) (k4 : PySem.W.keepIn K (.ref f4) = true)
    (a5 : PySem.W.nsIn K mainGlobals "_law_box" = some (some (.ref f5))) (l5 : K.lookup f5 = some ⟨oc5, od5, .func (PySem.W.fnOf "_law_box" "_law_box" (defArgs s_l_box) (defBody s_l_box) (defScope s_l_box) .none kV5 dc5 pm5 an5 cd5 ct5), sl5⟩) (c5 : PySem.W.codeIn K cd5 "_law_box" = true) (k5 : PySem.W.keepIn K (.ref f5) = true)
    (a6 : PySem.W.nsIn K mainGlobals "_law_moves" = some (some (.ref f6))) (l6 : K.lookup f6 = some ⟨oc6, od6, .func (PySem.W.fnOf "_law_moves" "_law_moves" (defArgs s_l_moves) (defBody s_l_moves) (defScope s_l_moves) .none kV6 dc6 pm6 an6 cd6 ct6), sl6⟩) (c6 : PySem.W.codeIn K cd6 "_law_moves" = true) (k6 : PySem.W.keepIn K (.ref f6) = true)
    (a7 : PySem.W.nsIn K mainGlobals "_law_layer" = some (some (.ref f7))) (l7 : K.lookup f7 = some ⟨oc7, od7, .func (PySem.W.fnOf "_law_layer" "_law_layer" (defArgs s_l_layer) (defBody s_l_layer) (defScope s_l_layer) .none kV7 dc7 pm7 an7 cd7 ct7), sl7⟩) (c7 : PySem.W.codeIn K cd7 "_law_layer" = true) (k7 : PySem.W.keepIn K (.ref f7) = true)
    (a8 : PySem.W.nsIn K mainGlobals "_law_name" = some (some (.ref f8))) (l8 : K.lookup f8 = some ⟨oc8, od8, .func (PySem.W.fnOf "_law_name" "_law_name" (defArgs s_l_name) (defBody s_l_name) (defScope s_l_name) .none kV8 dc8 pm8 an8 cd8 ct8), sl8⟩) (c8 : PySem.W.codeIn K cd8 "_law_name" = true) (k8 : PySem.W.keepIn K (.ref f8) = true)
    (a9 : PySem.W.nsIn K mainGlobals "_law_film" = some (some (.ref f9))) (l9 : K.lookup f9 = some ⟨oc9, od9, .func (PySem.W.fnOf "_law_film" "_law_film" (defArgs s_l_film) (defBody s_l_film) (defScope s_l_film) .none kV9 dc9 pm9 an9 cd9 ct9), sl9⟩) (c9 : PySem.W.codeIn K cd9 "_law_film" = true) (k9 : PySem.W.keepIn K (.ref f9) = true)
    (a10 : PySem.W.nsIn K mainGlobals "is_whole" = some (some (.ref f10))) (l10 : K.lookup f10 = some ⟨oc10, od10, .func (PySem.W.fnOf "is_whole" "is_whole" (defArgs s_is_whole) (defBody s_is_whole) (defScope s_is_whole) .none kV10 dc10 pm10 an10 cd10 ct10), sl10⟩) (c10 : PySem.W.codeIn K cd10 "is_whole" = true) (k10 : PySem.W.keepIn K (.ref f10) = true)
    (a11 : PySem.W.nsIn K mainGlobals "is_number" = some (some (.ref f11))) (l11 : K.lookup f11 = some ⟨oc11, od11, .func (PySem.W.fnOf "is_number" "is_number" (defArgs s_is_number) (defBody s_is_number) (defScope s_is_number) .none kV11 dc11 pm11 an11 cd11 ct11), sl11⟩) (c11 : PySem.W.codeIn K cd11 "is_number" = true) (k11 : PySem.W.keepIn K (.ref f11) = true)
    (a12 : PySem.W.nsIn K mainGlobals "_is_distance" = some (some (.ref f12))) (l12 : K.lookup f12 = some ⟨oc12, od12, .func (PySem.W.fnOf "_is_distance" "_is_distance" (defArgs s_is_distance) (defBody s_is_distance) (defScope s_is_distance) .none kV12 dc12 pm12 an12 cd12 ct12), sl12⟩) (c12 : PySem.W.codeIn K cd12 "_is_distance" = true) (k12 : PySem.W.keepIn K (.ref f12) = true)
    (a13 : PySem.W.nsIn K mainGlobals "_is_point" = some (some (.ref f13))) (l13 : K.lookup f13 = some ⟨oc13, od13, .func (PySem.W.fnOf "_is_point" "_is_point" (defArgs s_is_point) (defBody s_is_point) (defScope s_is_point) .none kV13 dc13 pm13 an13 cd13 ct13), sl13⟩) (c13 : PySem.W.codeIn K cd13 "_is_point" = true) (k13 : PySem.W.keepIn K (.ref f13) = true)
    (a14 : PySem.W.nsIn K mainGlobals "check_moves" = some (some (.ref f14))) (l14 : K.lookup f14 = some ⟨oc14, od14, .func (PySem.W.fnOf "check_moves" "check_moves" (defArgs s_check_moves) (defBody s_check_moves) (defScope s_check_moves) .none kV14 dc14 pm14 an14 cd14 ct14), sl14⟩) (c14 : PySem.W.codeIn K cd14 "check_moves" = true) (k14 : PySem.W.keepIn K (.ref f14) = true)
    (a15 : PySem.W.nsIn K mainGlobals "has_form_blends" = some (some (.ref f15))) (l15 : K.lookup f15 = some ⟨oc15, od15, .func (PySem.W.fnOf "_has_form" "_has_form" (defArgs s_has_form_blends) (defBody s_has_form_blends) (defScope s_has_form_blends) .none kV15 dc15 pm15 an15 cd15 ct15), sl15⟩) (c15 : PySem.W.codeIn K cd15 "_has_form" = true) (k15 : PySem.W.keepIn K (.ref f15) = true)
    (a16 : PySem.W.nsIn K mainGlobals "check_what" = some (some (.ref f16))) (l16 : K.lookup f16 = some ⟨oc16, od16, .func (PySem.W.fnOf "check_what" "check_what" (defArgs s_check_what) (defBody s_check_what) (defScope s_check_what) .none kV16 dc16 pm16 an16 cd16 ct16), sl16⟩) (c16 : PySem.W.codeIn K cd16 "check_what" = true) (k16 : PySem.W.keepIn K (.ref f16) = true)
    (a17 : PySem.W.nsIn K mainGlobals "_are_numbers" = some (some (.ref f17))) (l17 : K.lookup f17 = some ⟨oc17, od17, .func (PySem.W.fnOf "_are_numbers" "_are_numbers" (defArgs s_are_numbers) (defBody s_are_numbers) (defScope s_are_numbers) .none kV17 dc17 pm17 an17 cd17 ct17), sl17⟩) (c17 : PySem.W.codeIn K cd17 "_are_numbers" = true) (k17 : PySem.W.keepIn K (.ref f17) = true)
    (a18 : PySem.W.nsIn K mainGlobals "check_picture" = some (some (.ref f18))) (l18 : K.lookup f18 = some ⟨oc18, od18, .func (PySem.W.fnOf "check_picture" "check_picture" (defArgs s_check_picture) (defBody s_check_picture) (defScope s_check_picture) .none kV18 dc18 pm18 an18 cd18 ct18), sl18⟩) (c18 : PySem.W.codeIn K cd18 "check_picture" = true) (k18 : PySem.W.keepIn K (.ref f18) = true)
    (a19 : PySem.W.nsIn K mainGlobals "has_form_paints" = some (some (.ref f19))) (l19 : K.lookup f19 = some ⟨oc19, od19, .func (PySem.W.fnOf "_has_form" "_has_form" (defArgs s_has_form_paints) (defBody s_has_form_paints) (defScope s_has_form_paints) .none kV19 dc19 pm19 an19 cd19 ct19), sl19⟩) (c19 : PySem.W.codeIn K cd19 "_has_form" = true) (k19 : PySem.W.keepIn K (.ref f19) = true)
    (a20 : PySem.W.nsIn K mainGlobals "is_name" = some (some (.ref f20))) (l20 : K.lookup f20 = some ⟨oc20, od20, .func (PySem.W.fnOf "is_name" "is_name" (defArgs s_is_name) (defBody s_is_name) (defScope s_is_name) .none kV20 dc20 pm20 an20 cd20 ct20), sl20⟩) (c20 : PySem.W.codeIn K cd20 "is_name" = true) (k20 : PySem.W.keepIn K (.ref f20) = true)
    (a21 : PySem.W.nsIn K mainGlobals "_adjusts" = some (some (.ref f21))) (l21 : K.lookup f21 = some ⟨oc21, od21, .func (PySem.W.fnOf "_adjusts" "_adjusts" (defArgs s_adjusts) (defBody s_adjusts) (defScope s_adjusts) .none kV21 dc21 pm21 an21 cd21 ct21), sl21⟩) (c21 : PySem.W.codeIn K cd21 "_adjusts" = true) (k21 : PySem.W.keepIn K (.ref f21) = true)
    (a22 : PySem.W.nsIn K mainGlobals "has_form_clips" = some (some (.ref f22))) (l22 : K.lookup f22 = some ⟨oc22, od22, .func (PySem.W.fnOf "_has_form" "_has_form" (defArgs s_has_form_clips) (defBody s_has_form_clips) (defScope s_has_form_clips) .none kV22 dc22 pm22 an22 cd22 ct22), sl22⟩) (c22 : PySem.W.codeIn K cd22 "_has_form" = true) (k22 : PySem.W.keepIn K (.ref f22) = true)
    (a23 : PySem.W.nsIn K mainGlobals "_is_bare" = some (some (.ref f23))) (l23 : K.lookup f23 = some ⟨oc23, od23, .func (PySem.W.fnOf "_is_bare" "_is_bare" (defArgs s_is_bare) (defBody s_is_bare) (defScope s_is_bare) .none kV23 dc23 pm23 an23 cd23 ct23), sl23⟩) (c23 : PySem.W.codeIn K cd23 "_is_bare" = true) (k23 : PySem.W.keepIn K (.ref f23) = true)
    (a24 : PySem.W.nsIn K mainGlobals "end_of" = some (some (.ref f24))) (l24 : K.lookup f24 = some ⟨oc24, od24, .func (PySem.W.fnOf "end_of" "end_of" (defArgs s_end_of) (defBody s_end_of) (defScope s_end_of) .none kV24 dc24 pm24 an24 cd24 ct24), sl24⟩) (c24 : PySem.W.codeIn K cd24 "end_of" = true) (k24 : PySem.W.keepIn K (.ref f24) = true)
    (a25 : PySem.W.nsIn K mainGlobals "check_paint" = some (some (.ref f25))) (l25 : K.lookup f25 = some ⟨oc25, od25, .func (PySem.W.fnOf "check_paint" "check_paint" (defArgs s_check_paint) (defBody s_check_paint) (defScope s_check_paint) .none kV25 dc25 pm25 an25 cd25 ct25), sl25⟩) (c25 : PySem.W.codeIn K cd25 "check_paint" = true) (k25 : PySem.W.keepIn K (.ref f25) = true)
    (a26 : PySem.W.nsIn K mainGlobals "_is_box" = some (some (.ref f26))) (l26 : K.lookup f26 = some ⟨oc26, od26, .func (PySem.W.fnOf "_is_box" "_is_box" (defArgs s_is_box) (defBody s_is_box) (defScope s_is_box) .none kV26 dc26 pm26 an26 cd26 ct26), sl26⟩) (c26 : PySem.W.codeIn K cd26 "_is_box" = true) (k26 : PySem.W.keepIn K (.ref f26) = true)
    (a27 : PySem.W.nsIn K mainGlobals "_check_numbers" = some (some (.ref f27))) (l27 : K.lookup f27 = some ⟨oc27, od27, .func (PySem.W.fnOf "_check_numbers" "_check_numbers" (defArgs s_check_numbers) (defBody s_check_numbers) (defScope s_check_numbers) .none kV27 dc27 pm27 an27 cd27 ct27), sl27⟩) (c27 : PySem.W.codeIn K cd27 "_check_numbers" = true) (k27 : PySem.W.keepIn K (.ref f27) = true)
    (a28 : PySem.W.nsIn K mainGlobals "check_clips" = some (some (.ref f28))) (l28 : K.lookup f28 = some ⟨oc28, od28, .func (PySem.W.fnOf "check_clips" "check_clips" (defArgs s_check_clips) (defBody s_check_clips) (defScope s_check_clips) .none kV28 dc28 pm28 an28 cd28 ct28), sl28⟩) (c28 : PySem.W.codeIn K cd28 "check_clips" = true) (k28 : PySem.W.keepIn K (.ref f28) = true)
    (a29 : PySem.W.nsIn K mainGlobals "_check_layer" = some (some (.ref f29))) (l29 : K.lookup f29 = some ⟨oc29, od29, .func (PySem.W.fnOf "_check_layer" "_check_layer" (defArgs s_check_layer) (defBody s_check_layer) (defScope s_check_layer) .none kV29 dc29 pm29 an29 cd29 ct29), sl29⟩) (c29 : PySem.W.codeIn K cd29 "_check_layer" = true) (k29 : PySem.W.keepIn K (.ref f29) = true)
    {p30 : Addr} {rs30 : List Value} (a30 : PySem.W.findIn K (.ref cO_Film) "width" = some (some (.ref p30))) (g30 : PySem.W.specialIn K (.ref p30) "__get__" = some (some (.builtin "property.__get__"))) (t30 : PySem.W.takesIn K (.ref p30) = some true) (r30 : PySem.W.recIn K p30 "property" = some (.ref f30 :: rs30)) (l30 : K.lookup f30 = some ⟨oc30, od30, .func (PySem.W.fnOf "width" "Film.width" (defArgs s_Film_width) (defBody s_Film_width) (defScope s_Film_width) .none kV30 dc30 pm30 an30 cd30 ct30), sl30⟩) (c30 : PySem.W.codeIn K cd30 "Film.width" = true) (k30 : PySem.W.keepIn K (.ref f30) = true)
    {p31 : Addr} {rs31 : List Value} (a31 : PySem.W.findIn K (.ref cO_Film) "height" = some (some (.ref p31))) (g31 : PySem.W.specialIn K (.ref p31) "__get__" = some (some (.builtin "property.__get__"))) (t31 : PySem.W.takesIn K (.ref p31) = some true) (r31 : PySem.W.recIn K p31 "property" = some (.ref f31 :: rs31)) (l31 : K.lookup f31 = some ⟨oc31, od31, .func (PySem.W.fnOf "height" "Film.height" (defArgs s_Film_height) (defBody s_Film_height) (defScope s_Film_height) .none kV31 dc31 pm31 an31 cd31 ct31), sl31⟩) (c31 : PySem.W.codeIn K cd31 "Film.height" = true) (k31 : PySem.W.keepIn K (.ref f31) = true)
    {p32 : Addr} {rs32 : List Value} (a32 : PySem.W.findIn K (.ref cO_Film) "frames" = some (some (.ref p32))) (g32 : PySem.W.specialIn K (.ref p32) "__get__" = some (some (.builtin "property.__get__"))) (t32 : PySem.W.takesIn K (.ref p32) = some true) (r32 : PySem.W.recIn K p32 "property" = some (.ref f32 :: rs32)) (l32 : K.lookup f32 = some ⟨oc32, od32, .func (PySem.W.fnOf "frames" "Film.frames" (defArgs s_Film_frames) (defBody s_Film_frames) (defScope s_Film_frames) .none kV32 dc32 pm32 an32 cd32 ct32), sl32⟩) (c32 : PySem.W.codeIn K cd32 "Film.frames" = true) (k32 : PySem.W.keepIn K (.ref f32) = true)
    {p33 : Addr} {rs33 : List Value} (a33 : PySem.W.findIn K (.ref cO_Film) "background" = some (some (.ref p33))) (g33 : PySem.W.specialIn K (.ref p33) "__get__" = some (some (.builtin "property.__get__"))) (t33 : PySem.W.takesIn K (.ref p33) = some true) (r33 : PySem.W.recIn K p33 "property" = some (.ref f33 :: rs33)) (l33 : K.lookup f33 = some ⟨oc33, od33, .func (PySem.W.fnOf "background" "Film.background" (defArgs s_Film_background) (defBody s_Film_background) (defScope s_Film_background) .none kV33 dc33 pm33 an33 cd33 ct33), sl33⟩) (c33 : PySem.W.codeIn K cd33 "Film.background" = true) (k33 : PySem.W.keepIn K (.ref f33) = true)
    {p34 : Addr} {rs34 : List Value} (a34 : PySem.W.findIn K (.ref cO_Film) "layers" = some (some (.ref p34))) (g34 : PySem.W.specialIn K (.ref p34) "__get__" = some (some (.builtin "property.__get__"))) (t34 : PySem.W.takesIn K (.ref p34) = some true) (r34 : PySem.W.recIn K p34 "property" = some (.ref f34 :: rs34)) (l34 : K.lookup f34 = some ⟨oc34, od34, .func (PySem.W.fnOf "layers" "Film.layers" (defArgs s_Film_layers) (defBody s_Film_layers) (defScope s_Film_layers) .none kV34 dc34 pm34 an34 cd34 ct34), sl34⟩) (c34 : PySem.W.codeIn K cd34 "Film.layers" = true) (k34 : PySem.W.keepIn K (.ref f34) = true)
    (a35 : PySem.W.findIn K (.ref cO_Film) "__init__" = some (some (.ref f35))) (i35 : PySem.W.isFn K (.ref f35) = true) (l35 : K.lookup f35 = some ⟨oc35, od35, .func (PySem.W.fnOf "__init__" "Film.__init__" (defArgs s_Film_init) (defBody s_Film_init) (defScope s_Film_init) .none kV35 dc35 pm35 an35 cd35 ct35), sl35⟩) (c35 : PySem.W.codeIn K cd35 "Film.__init__" = true) (k35 : PySem.W.keepIn K (.ref f35) = true)
    (a36 : PySem.W.nsIn K mainGlobals "_law_made" = some (some (.ref f36))) (l36 : K.lookup f36 = some ⟨oc36, od36, .func (PySem.W.fnOf "_law_made" "_law_made" (defArgs s_l_made) (defBody s_l_made) (defScope s_l_made) .none kV36 dc36 pm36 an36 cd36 ct36), sl36⟩) (c36 : PySem.W.codeIn K cd36 "_law_made" = true) (k36 : PySem.W.keepIn K (.ref f36) = true)
    (a37 : PySem.W.nsIn K mainGlobals "_law_number" = some (some (.ref f37))) (l37 : K.lookup f37 = some ⟨oc37, od37, .func (PySem.W.fnOf "_law_number" "_law_number" (defArgs s_l_number) (defBody s_l_number) (defScope s_l_number) .none kV37 dc37 pm37 an37 cd37 ct37), sl37⟩) (c37 : PySem.W.codeIn K cd37 "_law_number" = true) (k37 : PySem.W.keepIn K (.ref f37) = true)
    (a38 : PySem.W.nsIn K mainGlobals "_law_told" = some (some (.ref f38))) (l38 : K.lookup f38 = some ⟨oc38, od38, .func (PySem.W.fnOf "_law_told" "_law_told" (defArgs s_l_told) (defBody s_l_told) (defScope s_l_told) .none kV38 dc38 pm38 an38 cd38 ct38), sl38⟩) (c38 : PySem.W.codeIn K cd38 "_law_told" = true) (k38 : PySem.W.keepIn K (.ref f38) = true)
    (a39 : PySem.W.nsIn K mainGlobals "_law_spoilt_layer" = some (some (.ref f39))) (l39 : K.lookup f39 = some ⟨oc39, od39, .func (PySem.W.fnOf "_law_spoilt_layer" "_law_spoilt_layer" (defArgs s_l_spoilt_layer) (defBody s_l_spoilt_layer) (defScope s_l_spoilt_layer) .none kV39 dc39 pm39 an39 cd39 ct39), sl39⟩) (c39 : PySem.W.codeIn K cd39 "_law_spoilt_layer" = true) (k39 : PySem.W.keepIn K (.ref f39) = true)
    (a40 : PySem.W.nsIn K mainGlobals "_numbers_of" = some (some (.ref f40))) (l40 : K.lookup f40 = some ⟨oc40, od40, .func (PySem.W.fnOf "_numbers_of" "_numbers_of" (defArgs s_numbers_of) (defBody s_numbers_of) (defScope s_numbers_of) .none kV40 dc40 pm40 an40 cd40 ct40), sl40⟩) (c40 : PySem.W.codeIn K cd40 "_numbers_of" = true) (k40 : PySem.W.keepIn K (.ref f40) = true)
    (a41 : PySem.W.nsIn K mainGlobals "same_film" = some (some (.ref f41))) (l41 : K.lookup f41 = some ⟨oc41, od41, .func (PySem.W.fnOf "same_film" "same_film" (defArgs s_same_film) (defBody s_same_film) (defScope s_same_film) .none kV41 dc41 pm41 an41 cd41 ct41), sl41⟩) (c41 : PySem.W.codeIn K cd41 "same_film" = true) (k41 : PySem.W.keepIn K (.ref f41) = true)
    (a42 : PySem.W.nsIn K mainGlobals "law" = some (some (.ref f42))) (l42 : K.lookup f42 = some ⟨oc42, od42, .func (PySem.W.fnOf "law" "law" (defArgs s_law) (defBody s_law) (defScope s_law) .none kV42 dc42 pm42 an42 cd42 ct42), sl42⟩) (c42 : PySem.W.codeIn K cd42 "law" = true) (k42 : PySem.W.keepIn K (.ref f42) = true)
    (z_all : PySem.W.nsIn K mainGlobals "all" = some none)
    (z_bool : PySem.W.nsIn K mainGlobals "bool" = some none)
    (z_enumerate : PySem.W.nsIn K mainGlobals "enumerate" = some none)
    (z_int : PySem.W.nsIn K mainGlobals "int" = some none)
    (z_isinstance : PySem.W.nsIn K mainGlobals "isinstance" = some none)
    (z_len : PySem.W.nsIn K mainGlobals "len" = some none)
    (z_list : PySem.W.nsIn K mainGlobals "list" = some none)
    (z_range : PySem.W.nsIn K mainGlobals "range" = some none)
    (z_repr : PySem.W.nsIn K mainGlobals "repr" = some none)
    (z_str : PySem.W.nsIn K mainGlobals "str" = some none)
    (z_tuple : PySem.W.nsIn K mainGlobals "tuple" = some none)
    {t_CLIPS_MOST : Tok} (z_CLIPS_MOST : PySem.W.nsIn K mainGlobals "CLIPS_MOST" = some (some (.int 64 t_CLIPS_MOST)))
    {t_COVER_MOST : Tok} (z_COVER_MOST : PySem.W.nsIn K mainGlobals "COVER_MOST" = some (some (.int 256 t_COVER_MOST)))
    {t_DISTANCE_MOST : Tok} (z_DISTANCE_MOST : PySem.W.nsIn K mainGlobals "DISTANCE_MOST" = some (some (.int 1000 t_DISTANCE_MOST)))
    {t_FRAMES_MOST : Tok} (z_FRAMES_MOST : PySem.W.nsIn K mainGlobals "FRAMES_MOST" = some (some (.int 1000 t_FRAMES_MOST)))
    {t_LAYERS_MOST : Tok} (z_LAYERS_MOST : PySem.W.nsIn K mainGlobals "LAYERS_MOST" = some (some (.int 16 t_LAYERS_MOST)))
    {t_LENGTH_MOST : Tok} (z_LENGTH_MOST : PySem.W.nsIn K mainGlobals "LENGTH_MOST" = some (some (.int 10000 t_LENGTH_MOST)))
    {t_LETTERS : Tok} (z_LETTERS : PySem.W.nsIn K mainGlobals "LETTERS" = some (some (.str "abcdefghijklmnopqrstuvwxyz" t_LETTERS)))
    {xt_MODES_0 xt_MODES_1 xt_MODES_2 : Tok} {x_MODES : Addr} {xd_MODES : Option Addr} {xn_MODES : Nat} {xs_MODES : Array (Option Value)} (z_MODES : PySem.W.nsIn K mainGlobals "MODES" = some (some (.ref x_MODES))) (y_MODES : K.lookup x_MODES = some ⟨.type "tuple", xd_MODES, .seq #[.str "over" xt_MODES_0, .str "add" xt_MODES_1, .str "times" xt_MODES_2] xn_MODES, xs_MODES⟩)
    {t_MOVES_MOST : Tok} (z_MOVES_MOST : PySem.W.nsIn K mainGlobals "MOVES_MOST" = some (some (.int 16 t_MOVES_MOST)))
    {t_MOVE_FRAME_MOST : Tok} (z_MOVE_FRAME_MOST : PySem.W.nsIn K mainGlobals "MOVE_FRAME_MOST" = some (some (.int 1000 t_MOVE_FRAME_MOST)))
    {t_NAME_MOST : Tok} (z_NAME_MOST : PySem.W.nsIn K mainGlobals "NAME_MOST" = some (some (.int 8 t_NAME_MOST)))
    {t_PICTURE_SIDE_MOST : Tok} (z_PICTURE_SIDE_MOST : PySem.W.nsIn K mainGlobals "PICTURE_SIDE_MOST" = some (some (.int 12 t_PICTURE_SIDE_MOST)))
    {t_PLACE_MOST : Tok} (z_PLACE_MOST : PySem.W.nsIn K mainGlobals "PLACE_MOST" = some (some (.int 1000 t_PLACE_MOST)))
    {t_SIDE_MOST : Tok} (z_SIDE_MOST : PySem.W.nsIn K mainGlobals "SIDE_MOST" = some (some (.int 64 t_SIDE_MOST)))
    {t_START_MOST : Tok} (z_START_MOST : PySem.W.nsIn K mainGlobals "START_MOST" = some (some (.int 10000 t_START_MOST)))
    {t_STEP_MOST : Tok} (z_STEP_MOST : PySem.W.nsIn K mainGlobals "STEP_MOST" = some (some (.int 12 t_STEP_MOST)))
    {t_VALUE_MOST : Tok} (z_VALUE_MOST : PySem.W.nsIn K mainGlobals "VALUE_MOST" = some (some (.int 255 t_VALUE_MOST)))
    {eZ0 : Addr} {fZ0 dTZ0 : Addr} {odZ0 odTZ0 anZ0 : Option Addr} {slZ0 slTZ0 : Array (Option Value)} {nTZ0 : Nat} {ocZ0 kVZ0 dcZ0 pmZ0 cdZ0 ctZ0 : Value} (aZ0 : PySem.W.nsIn K mainGlobals "FilmError" = some (some (.ref eZ0))) (rZ0 : PySem.W.readsIn K eZ0 (.type "type") = true) (gZ0 : PySem.W.specialIn K (.ref eZ0) "__getattribute__" = some (some (.builtin "type.__getattribute__"))) (iZ0 : PySem.W.findCls K (.ref eZ0) (.type "type") "__init__" = some (.val (.ref fZ0))) (vZ0 : PySem.W.findCls K (.type "ValueError") (.type "type") "__init__" = some (.val (.builtin "ValueError.__init__"))) (wZ0 : PySem.W.nsIn K mainGlobals "ValueError" = some none) (lZ0 : K.lookup fZ0 = some ⟨ocZ0, odZ0, .func (PySem.W.fnOf "__init__" "FilmError.__init__" (defArgs s_FilmErr) (defBody s_FilmErr) (defScope s_FilmErr) (.ref dTZ0) kVZ0 dcZ0 pmZ0 anZ0 cdZ0 ctZ0), slZ0⟩) (cZ0 : PySem.W.codeIn K cdZ0 "FilmError.__init__" = true) (kZ0 : PySem.W.keepIn K (.ref fZ0) = true) (dZ0 : K.lookup dTZ0 = some ⟨.type "tuple", odTZ0, .seq #[.none] nTZ0, slTZ0⟩)
    {eZ1 : Addr} {nmZ1 qZ1 : Str} {NZ1 : Addr} {bsZ1 : List Value} {snZ1 : List Str} {subZ1 : List Value} {abZ1 : Bool} {colZ1 : Option Bool} {ddZ1 : Option Addr} {m0Z1 m1Z1 m2Z1 m3Z1 m5Z1 : Option Value} {fZ1 dTZ1 : Addr} {odZ1 odTZ1 anZ1 : Option Addr} {slZ1 slTZ1 : Array (Option Value)} {nTZ1 : Nat} {ocZ1 kVZ1 dcZ1 pmZ1 cdZ1 ctZ1 : Value} (aZ1 : PySem.W.nsIn K mainGlobals "BadFilm" = some (some (.ref eZ1))) (xZ1 : K.lookup eZ1 = some (excClassObj nmZ1 qZ1 eZ1 NZ1 bsZ1 [.ref eZ0, .type "ValueError", .type "Exception", .type "BaseException", .type "object"] true snZ1 subZ1 abZ1 colZ1 ddZ1 m0Z1 m1Z1 m2Z1 m3Z1 m5Z1 "ValueError.__new__")) (saZ1 : PySem.W.findIn K (.ref eZ1) "__setattr__" = some (some (.builtin "object.__setattr__"))) (gaZ1 : PySem.W.findIn K (.ref eZ1) "__getattribute__" = some (some (.builtin "BaseException.__getattribute__"))) (ggZ1 : PySem.W.findIn K (.ref eZ1) "__getattr__" = some none) (nwZ1 : PySem.W.findIn K (.ref eZ1) "word" = some none) (npZ1 : PySem.W.findIn K (.ref eZ1) "place" = some none) (iZ1 : PySem.W.findIn K (.ref eZ1) "__init__" = some (some (.ref fZ1))) (tZ1 : PySem.W.typeIn K (.ref fZ1) = some (.type "function")) (keZ1 : PySem.W.keepIn K (.ref eZ1) = true) (exZ1 : PySem.W.subIn K (.ref eZ1) (.type "BaseException") = some true) (tyZ1 : PySem.W.typeIn K (.ref eZ1) = some (.type "type")) (hdZ1 : PySem.W.hasDictIn K eZ1 = true) (icZ1 : PySem.W.isClsIn K eZ1 = true) (scZ1 : PySem.W.subIn K (.ref eZ1) (.ref eZ1) = some true) (lZ1 : K.lookup fZ1 = some ⟨ocZ1, odZ1, .func (PySem.W.fnOf "__init__" "BadFilm.__init__" (defArgs s_BadFilm) (defBody s_BadFilm) (defScope s_BadFilm) (.ref dTZ1) kVZ1 dcZ1 pmZ1 anZ1 cdZ1 ctZ1), slZ1⟩) (cZ1 : PySem.W.codeIn K cdZ1 "BadFilm.__init__" = true) (kZ1 : PySem.W.keepIn K (.ref fZ1) = true) (dZ1 : K.lookup dTZ1 = some ⟨.type "tuple", odTZ1, .seq #[.none] nTZ1, slTZ1⟩)
    {eZ2 : Addr} {nmZ2 qZ2 : Str} {NZ2 : Addr} {bsZ2 : List Value} {snZ2 : List Str} {subZ2 : List Value} {abZ2 : Bool} {colZ2 : Option Bool} {ddZ2 : Option Addr} {m0Z2 m1Z2 m2Z2 m3Z2 m5Z2 : Option Value} {fZ2 dTZ2 : Addr} {odZ2 odTZ2 anZ2 : Option Addr} {slZ2 slTZ2 : Array (Option Value)} {nTZ2 : Nat} {ocZ2 kVZ2 dcZ2 pmZ2 cdZ2 ctZ2 : Value} (aZ2 : PySem.W.nsIn K mainGlobals "BadLayer" = some (some (.ref eZ2))) (xZ2 : K.lookup eZ2 = some (excClassObj nmZ2 qZ2 eZ2 NZ2 bsZ2 [.ref eZ0, .type "ValueError", .type "Exception", .type "BaseException", .type "object"] true snZ2 subZ2 abZ2 colZ2 ddZ2 m0Z2 m1Z2 m2Z2 m3Z2 m5Z2 "ValueError.__new__")) (saZ2 : PySem.W.findIn K (.ref eZ2) "__setattr__" = some (some (.builtin "object.__setattr__"))) (gaZ2 : PySem.W.findIn K (.ref eZ2) "__getattribute__" = some (some (.builtin "BaseException.__getattribute__"))) (ggZ2 : PySem.W.findIn K (.ref eZ2) "__getattr__" = some none) (nwZ2 : PySem.W.findIn K (.ref eZ2) "word" = some none) (npZ2 : PySem.W.findIn K (.ref eZ2) "place" = some none) (iZ2 : PySem.W.findIn K (.ref eZ2) "__init__" = some (some (.ref fZ2))) (tZ2 : PySem.W.typeIn K (.ref fZ2) = some (.type "function")) (keZ2 : PySem.W.keepIn K (.ref eZ2) = true) (exZ2 : PySem.W.subIn K (.ref eZ2) (.type "BaseException") = some true) (tyZ2 : PySem.W.typeIn K (.ref eZ2) = some (.type "type")) (hdZ2 : PySem.W.hasDictIn K eZ2 = true) (icZ2 : PySem.W.isClsIn K eZ2 = true) (scZ2 : PySem.W.subIn K (.ref eZ2) (.ref eZ2) = some true) (lZ2 : K.lookup fZ2 = some ⟨ocZ2, odZ2, .func (PySem.W.fnOf "__init__" "BadLayer.__init__" (defArgs s_BadLayer) (defBody s_BadLayer) (defScope s_BadLayer) (.ref dTZ2) kVZ2 dcZ2 pmZ2 anZ2 cdZ2 ctZ2), slZ2⟩) (cZ2 : PySem.W.codeIn K cdZ2 "BadLayer.__init__" = true) (kZ2 : PySem.W.keepIn K (.ref fZ2) = true) (dZ2 : K.lookup dTZ2 = some ⟨.type "tuple", odTZ2, .seq #[.none] nTZ2, slTZ2⟩)
    {eZ3 : Addr} {nmZ3 qZ3 : Str} {NZ3 : Addr} {bsZ3 : List Value} {snZ3 : List Str} {subZ3 : List Value} {abZ3 : Bool} {colZ3 : Option Bool} {ddZ3 : Option Addr} {m0Z3 m1Z3 m2Z3 m3Z3 m5Z3 : Option Value} {fZ3 dTZ3 : Addr} {odZ3 odTZ3 anZ3 : Option Addr} {slZ3 slTZ3 : Array (Option Value)} {nTZ3 : Nat} {ocZ3 kVZ3 dcZ3 pmZ3 cdZ3 ctZ3 : Value} (aZ3 : PySem.W.nsIn K mainGlobals "DuplicateLayer" = some (some (.ref eZ3))) (xZ3 : K.lookup eZ3 = some (excClassObj nmZ3 qZ3 eZ3 NZ3 bsZ3 [.ref eZ0, .type "ValueError", .type "Exception", .type "BaseException", .type "object"] true snZ3 subZ3 abZ3 colZ3 ddZ3 m0Z3 m1Z3 m2Z3 m3Z3 m5Z3 "ValueError.__new__")) (saZ3 : PySem.W.findIn K (.ref eZ3) "__setattr__" = some (some (.builtin "object.__setattr__"))) (gaZ3 : PySem.W.findIn K (.ref eZ3) "__getattribute__" = some (some (.builtin "BaseException.__getattribute__"))) (ggZ3 : PySem.W.findIn K (.ref eZ3) "__getattr__" = some none) (nwZ3 : PySem.W.findIn K (.ref eZ3) "word" = some none) (npZ3 : PySem.W.findIn K (.ref eZ3) "place" = some none) (iZ3 : PySem.W.findIn K (.ref eZ3) "__init__" = some (some (.ref fZ3))) (tZ3 : PySem.W.typeIn K (.ref fZ3) = some (.type "function")) (keZ3 : PySem.W.keepIn K (.ref eZ3) = true) (exZ3 : PySem.W.subIn K (.ref eZ3) (.type "BaseException") = some true) (tyZ3 : PySem.W.typeIn K (.ref eZ3) = some (.type "type")) (hdZ3 : PySem.W.hasDictIn K eZ3 = true) (icZ3 : PySem.W.isClsIn K eZ3 = true) (scZ3 : PySem.W.subIn K (.ref eZ3) (.ref eZ3) = some true) (lZ3 : K.lookup fZ3 = some ⟨ocZ3, odZ3, .func (PySem.W.fnOf "__init__" "DuplicateLayer.__init__" (defArgs s_DuplicateLayer) (defBody s_DuplicateLayer) (defScope s_DuplicateLayer) (.ref dTZ3) kVZ3 dcZ3 pmZ3 anZ3 cdZ3 ctZ3), slZ3⟩) (cZ3 : PySem.W.codeIn K cdZ3 "DuplicateLayer.__init__" = true) (kZ3 : PySem.W.keepIn K (.ref fZ3) = true) (dZ3 : K.lookup dTZ3 = some ⟨.type "tuple", odTZ3, .seq #[.none] nTZ3, slTZ3⟩)
    {eZ4 : Addr} {nmZ4 qZ4 : Str} {NZ4 : Addr} {bsZ4 : List Value} {snZ4 : List Str} {subZ4 : List Value} {abZ4 : Bool} {colZ4 : Option Bool} {ddZ4 : Option Addr} {m0Z4 m1Z4 m2Z4 m3Z4 m5Z4 : Option Value} {fZ4 dTZ4 : Addr} {odZ4 odTZ4 anZ4 : Option Addr} {slZ4 slTZ4 : Array (Option Value)} {nTZ4 : Nat} {ocZ4 kVZ4 dcZ4 pmZ4 cdZ4 ctZ4 : Value} (aZ4 : PySem.W.nsIn K mainGlobals "BadClip" = some (some (.ref eZ4))) (xZ4 : K.lookup eZ4 = some (excClassObj nmZ4 qZ4 eZ4 NZ4 bsZ4 [.ref eZ0, .type "ValueError", .type "Exception", .type "BaseException", .type "object"] true snZ4 subZ4 abZ4 colZ4 ddZ4 m0Z4 m1Z4 m2Z4 m3Z4 m5Z4 "ValueError.__new__")) (saZ4 : PySem.W.findIn K (.ref eZ4) "__setattr__" = some (some (.builtin "object.__setattr__"))) (gaZ4 : PySem.W.findIn K (.ref eZ4) "__getattribute__" = some (some (.builtin "BaseException.__getattribute__"))) (ggZ4 : PySem.W.findIn K (.ref eZ4) "__getattr__" = some none) (nwZ4 : PySem.W.findIn K (.ref eZ4) "word" = some none) (npZ4 : PySem.W.findIn K (.ref eZ4) "place" = some none) (iZ4 : PySem.W.findIn K (.ref eZ4) "__init__" = some (some (.ref fZ4))) (tZ4 : PySem.W.typeIn K (.ref fZ4) = some (.type "function")) (keZ4 : PySem.W.keepIn K (.ref eZ4) = true) (exZ4 : PySem.W.subIn K (.ref eZ4) (.type "BaseException") = some true) (tyZ4 : PySem.W.typeIn K (.ref eZ4) = some (.type "type")) (hdZ4 : PySem.W.hasDictIn K eZ4 = true) (icZ4 : PySem.W.isClsIn K eZ4 = true) (scZ4 : PySem.W.subIn K (.ref eZ4) (.ref eZ4) = some true) (lZ4 : K.lookup fZ4 = some ⟨ocZ4, odZ4, .func (PySem.W.fnOf "__init__" "BadClip.__init__" (defArgs s_BadClip) (defBody s_BadClip) (defScope s_BadClip) (.ref dTZ4) kVZ4 dcZ4 pmZ4 anZ4 cdZ4 ctZ4), slZ4⟩) (cZ4 : PySem.W.codeIn K cdZ4 "BadClip.__init__" = true) (kZ4 : PySem.W.keepIn K (.ref fZ4) = true) (dZ4 : K.lookup dTZ4 = some ⟨.type "tuple", odTZ4, .seq #[.none] nTZ4, slTZ4⟩)
    {eZ5 : Addr} {nmZ5 qZ5 : Str} {NZ5 : Addr} {bsZ5 : List Value} {snZ5 : List Str} {subZ5 : List Value} {abZ5 : Bool} {colZ5 : Option Bool} {ddZ5 : Option Addr} {m0Z5 m1Z5 m2Z5 m3Z5 m5Z5 : Option Value} {fZ5 dTZ5 : Addr} {odZ5 odTZ5 anZ5 : Option Addr} {slZ5 slTZ5 : Array (Option Value)} {nTZ5 : Nat} {ocZ5 kVZ5 dcZ5 pmZ5 cdZ5 ctZ5 : Value} (aZ5 : PySem.W.nsIn K mainGlobals "BadPaint" = some (some (.ref eZ5))) (xZ5 : K.lookup eZ5 = some (excClassObj nmZ5 qZ5 eZ5 NZ5 bsZ5 [.ref eZ0, .type "ValueError", .type "Exception", .type "BaseException", .type "object"] true snZ5 subZ5 abZ5 colZ5 ddZ5 m0Z5 m1Z5 m2Z5 m3Z5 m5Z5 "ValueError.__new__")) (saZ5 : PySem.W.findIn K (.ref eZ5) "__setattr__" = some (some (.builtin "object.__setattr__"))) (gaZ5 : PySem.W.findIn K (.ref eZ5) "__getattribute__" = some (some (.builtin "BaseException.__getattribute__"))) (ggZ5 : PySem.W.findIn K (.ref eZ5) "__getattr__" = some none) (nwZ5 : PySem.W.findIn K (.ref eZ5) "word" = some none) (npZ5 : PySem.W.findIn K (.ref eZ5) "place" = some none) (iZ5 : PySem.W.findIn K (.ref eZ5) "__init__" = some (some (.ref fZ5))) (tZ5 : PySem.W.typeIn K (.ref fZ5) = some (.type "function")) (keZ5 : PySem.W.keepIn K (.ref eZ5) = true) (exZ5 : PySem.W.subIn K (.ref eZ5) (.type "BaseException") = some true) (tyZ5 : PySem.W.typeIn K (.ref eZ5) = some (.type "type")) (hdZ5 : PySem.W.hasDictIn K eZ5 = true) (icZ5 : PySem.W.isClsIn K eZ5 = true) (scZ5 : PySem.W.subIn K (.ref eZ5) (.ref eZ5) = some true) (lZ5 : K.lookup fZ5 = some ⟨ocZ5, odZ5, .func (PySem.W.fnOf "__init__" "BadPaint.__init__" (defArgs s_BadPaint) (defBody s_BadPaint) (defScope s_BadPaint) (.ref dTZ5) kVZ5 dcZ5 pmZ5 anZ5 cdZ5 ctZ5), slZ5⟩) (cZ5 : PySem.W.codeIn K cdZ5 "BadPaint.__init__" = true) (kZ5 : PySem.W.keepIn K (.ref fZ5) = true) (dZ5 : K.lookup dTZ5 = some ⟨.type "tuple", odTZ5, .seq #[.none] nTZ5, slTZ5⟩)
    {eZ6 : Addr} {nmZ6 qZ6 : Str} {NZ6 : Addr} {bsZ6 : List Value} {snZ6 : List Str} {subZ6 : List Value} {abZ6 : Bool} {colZ6 : Option Bool} {ddZ6 : Option Addr} {m0Z6 m1Z6 m2Z6 m3Z6 m5Z6 : Option Value} {fZ6 dTZ6 : Addr} {odZ6 odTZ6 anZ6 : Option Addr} {slZ6 slTZ6 : Array (Option Value)} {nTZ6 : Nat} {ocZ6 kVZ6 dcZ6 pmZ6 cdZ6 ctZ6 : Value} (aZ6 : PySem.W.nsIn K mainGlobals "BadWhat" = some (some (.ref eZ6))) (xZ6 : K.lookup eZ6 = some (excClassObj nmZ6 qZ6 eZ6 NZ6 bsZ6 [.ref eZ0, .type "ValueError", .type "Exception", .type "BaseException", .type "object"] true snZ6 subZ6 abZ6 colZ6 ddZ6 m0Z6 m1Z6 m2Z6 m3Z6 m5Z6 "ValueError.__new__")) (saZ6 : PySem.W.findIn K (.ref eZ6) "__setattr__" = some (some (.builtin "object.__setattr__"))) (gaZ6 : PySem.W.findIn K (.ref eZ6) "__getattribute__" = some (some (.builtin "BaseException.__getattribute__"))) (ggZ6 : PySem.W.findIn K (.ref eZ6) "__getattr__" = some none) (nwZ6 : PySem.W.findIn K (.ref eZ6) "word" = some none) (npZ6 : PySem.W.findIn K (.ref eZ6) "place" = some none) (iZ6 : PySem.W.findIn K (.ref eZ6) "__init__" = some (some (.ref fZ6))) (tZ6 : PySem.W.typeIn K (.ref fZ6) = some (.type "function")) (keZ6 : PySem.W.keepIn K (.ref eZ6) = true) (exZ6 : PySem.W.subIn K (.ref eZ6) (.type "BaseException") = some true) (tyZ6 : PySem.W.typeIn K (.ref eZ6) = some (.type "type")) (hdZ6 : PySem.W.hasDictIn K eZ6 = true) (icZ6 : PySem.W.isClsIn K eZ6 = true) (scZ6 : PySem.W.subIn K (.ref eZ6) (.ref eZ6) = some true) (lZ6 : K.lookup fZ6 = some ⟨ocZ6, odZ6, .func (PySem.W.fnOf "__init__" "BadWhat.__init__" (defArgs s_BadWhat) (defBody s_BadWhat) (defScope s_BadWhat) (.ref dTZ6) kVZ6 dcZ6 pmZ6 anZ6 cdZ6 ctZ6), slZ6⟩) (cZ6 : PySem.W.codeIn K cdZ6 "BadWhat.__init__" = true) (kZ6 : PySem.W.keepIn K (.ref fZ6) = true) (dZ6 : K.lookup dTZ6 = some ⟨.type "tuple", odTZ6, .seq #[.none] nTZ6, slTZ6⟩)
    {eZ7 : Addr} {nmZ7 qZ7 : Str} {NZ7 : Addr} {bsZ7 : List Value} {snZ7 : List Str} {subZ7 : List Value} {abZ7 : Bool} {colZ7 : Option Bool} {ddZ7 : Option Addr} {m0Z7 m1Z7 m2Z7 m3Z7 m5Z7 : Option Value} {fZ7 dTZ7 : Addr} {odZ7 odTZ7 anZ7 : Option Addr} {slZ7 slTZ7 : Array (Option Value)} {nTZ7 : Nat} {ocZ7 kVZ7 dcZ7 pmZ7 cdZ7 ctZ7 : Value} (aZ7 : PySem.W.nsIn K mainGlobals "BadMoves" = some (some (.ref eZ7))) (xZ7 : K.lookup eZ7 = some (excClassObj nmZ7 qZ7 eZ7 NZ7 bsZ7 [.ref eZ0, .type "ValueError", .type "Exception", .type "BaseException", .type "object"] true snZ7 subZ7 abZ7 colZ7 ddZ7 m0Z7 m1Z7 m2Z7 m3Z7 m5Z7 "ValueError.__new__")) (saZ7 : PySem.W.findIn K (.ref eZ7) "__setattr__" = some (some (.builtin "object.__setattr__"))) (gaZ7 : PySem.W.findIn K (.ref eZ7) "__getattribute__" = some (some (.builtin "BaseException.__getattribute__"))) (ggZ7 : PySem.W.findIn K (.ref eZ7) "__getattr__" = some none) (nwZ7 : PySem.W.findIn K (.ref eZ7) "word" = some none) (npZ7 : PySem.W.findIn K (.ref eZ7) "place" = some none) (iZ7 : PySem.W.findIn K (.ref eZ7) "__init__" = some (some (.ref fZ7))) (tZ7 : PySem.W.typeIn K (.ref fZ7) = some (.type "function")) (keZ7 : PySem.W.keepIn K (.ref eZ7) = true) (exZ7 : PySem.W.subIn K (.ref eZ7) (.type "BaseException") = some true) (tyZ7 : PySem.W.typeIn K (.ref eZ7) = some (.type "type")) (hdZ7 : PySem.W.hasDictIn K eZ7 = true) (icZ7 : PySem.W.isClsIn K eZ7 = true) (scZ7 : PySem.W.subIn K (.ref eZ7) (.ref eZ7) = some true) (lZ7 : K.lookup fZ7 = some ⟨ocZ7, odZ7, .func (PySem.W.fnOf "__init__" "BadMoves.__init__" (defArgs s_BadMoves) (defBody s_BadMoves) (defScope s_BadMoves) (.ref dTZ7) kVZ7 dcZ7 pmZ7 anZ7 cdZ7 ctZ7), slZ7⟩) (cZ7 : PySem.W.codeIn K cdZ7 "BadMoves.__init__" = true) (kZ7 : PySem.W.keepIn K (.ref fZ7) = true) (dZ7 : K.lookup dTZ7 = some ⟨.type "tuple", odTZ7, .seq #[.none] nTZ7, slTZ7⟩)
(uZ2_Z1 : PySem.W.subIn K (.ref eZ2) (.ref eZ1) = some false)
(uZ3_Z1 : PySem.W.subIn K (.ref eZ3) (.ref eZ1) = some false)
(uZ3_Z2 : PySem.W.subIn K (.ref eZ3) (.ref eZ2) = some false)
(uZ7_Z1 : PySem.W.subIn K (.ref eZ7) (.ref eZ1) = some false)
(uZ7_Z2 : PySem.W.subIn K (.ref eZ7) (.ref eZ2) = some false)
(uZ7_Z3 : PySem.W.subIn K (.ref eZ7) (.ref eZ3) = some false)
(uZ6_Z1 : PySem.W.subIn K (.ref eZ6) (.ref eZ1) = some false)
(uZ6_Z2 : PySem.W.subIn K (.ref eZ6) (.ref eZ2) = some false)
(uZ6_Z3 : PySem.W.subIn K (.ref eZ6) (.ref eZ3) = some false)
(uZ6_Z7 : PySem.W.subIn K (.ref eZ6) (.ref eZ7) = some false)
(uZ4_Z1 : PySem.W.subIn K (.ref eZ4) (.ref eZ1) = some false)
(uZ4_Z2 : PySem.W.subIn K (.ref eZ4) (.ref eZ2) = some false)
(uZ4_Z3 : PySem.W.subIn K (.ref eZ4) (.ref eZ3) = some false)
(uZ4_Z7 : PySem.W.subIn K (.ref eZ4) (.ref eZ7) = some false)
(uZ4_Z6 : PySem.W.subIn K (.ref eZ4) (.ref eZ6) = some false)
(uZ5_Z1 : PySem.W.subIn K (.ref eZ5) (.ref eZ1) = some false)
(uZ5_Z2 : PySem.W.subIn K (.ref eZ5) (.ref eZ2) = some false)
(uZ5_Z3 : PySem.W.subIn K (.ref eZ5) (.ref eZ3) = some false)
(uZ5_Z7 : PySem.W.subIn K (.ref eZ5) (.ref eZ7) = some false)
(uZ5_Z6 : PySem.W.subIn K (.ref eZ5) (.ref eZ6) = some false)
(uZ5_Z4 : PySem.W.subIn K (.ref eZ5) (.ref eZ4) = some false)
    : ∃ fd : FuncData, (∀ (s : Shared) (v : Value), BindsTo s fd ⟨[v], []⟩ [("script", v)]) ∧ ∀ base : Heap, K.In base → base.Ns mainGlobals mg → FnG l.prog w K mg base CX0 11 fa fd ["script"] (spLaw K) := by
  have e := hfa.symm.trans (PySem.W.mg_of X G a42)
  cases e
  have T : Txt K mg := ⟨PySem.W.mg_none_of X G z_all, PySem.W.mg_none_of X G z_bool, PySem.W.mg_none_of X G z_enumerate, PySem.W.mg_none_of X G z_int, PySem.W.mg_none_of X G z_isinstance, PySem.W.mg_none_of X G z_len, PySem.W.mg_none_of X G z_list, PySem.W.mg_none_of X G z_range, PySem.W.mg_none_of X G z_repr, PySem.W.mg_none_of X G z_str, PySem.W.mg_none_of X G z_tuple, ⟨_, PySem.W.mg_of X G z_CLIPS_MOST⟩, ⟨_, PySem.W.mg_of X G z_COVER_MOST⟩, ⟨_, PySem.W.mg_of X G z_DISTANCE_MOST⟩, ⟨_, PySem.W.mg_of X G z_FRAMES_MOST⟩, ⟨_, PySem.W.mg_of X G z_LAYERS_MOST⟩, ⟨_, PySem.W.mg_of X G z_LENGTH_MOST⟩, ⟨_, PySem.W.mg_of X G z_LETTERS⟩, ⟨_, PySem.W.mg_of X G z_MODES, fun H => .inr ⟨_, _, _, y_MODES, rfl, rfl, by show 3 ≤ sizeLine; decide, by repeat (first | exact .nil | refine .cons rfl ?_ | refine .cons ⟨_, rfl⟩ ?_)⟩⟩, ⟨_, PySem.W.mg_of X G z_MOVES_MOST⟩, ⟨_, PySem.W.mg_of X G z_MOVE_FRAME_MOST⟩, ⟨_, PySem.W.mg_of X G z_NAME_MOST⟩, ⟨_, PySem.W.mg_of X G z_PICTURE_SIDE_MOST⟩, ⟨_, PySem.W.mg_of X G z_PLACE_MOST⟩, ⟨_, PySem.W.mg_of X G z_SIDE_MOST⟩, ⟨_, PySem.W.mg_of X G z_START_MOST⟩, ⟨_, PySem.W.mg_of X G z_STEP_MOST⟩, ⟨_, PySem.W.mg_of X G z_VALUE_MOST⟩⟩
  refine ⟨PySem.W.fnOf "law" "law" (defArgs s_law) (defBody s_law) (defScope s_law) .none kV42 dc42 pm42 an42 cd42 ct42, fun s v => .of_eq rfl, fun base _ _ => ?_⟩
  have FT : FilmTxt K mg eZ0 fZ0 := ⟨PySem.W.mg_of X G aZ0, rZ0, gZ0, iZ0, PySem.W.mg_none_of X G wZ0, vZ0⟩
  have FZ0 : FunD K "__init__" "FilmError.__init__" (defArgs s_FilmErr) (defBody s_FilmErr) (defScope s_FilmErr) [.non] [] fZ0 _ := ⟨⟨_, _, _, _, _, _, _, _, _, _, rfl, lZ0, cZ0, .inr ⟨by simp, _, _, [.none], _, rfl, dZ0, rfl, .cons rfl .nil⟩, .inl rfl⟩, kZ0⟩
  have GZ0 := ok_FilmErr (P := l.prog) (w := w) (base := base) FZ0 FT
  have bZ0 := binds_FilmErr FZ0
  have FZ1 : FunD K "__init__" "BadFilm.__init__" (defArgs s_BadFilm) (defBody s_BadFilm) (defScope s_BadFilm) [.non] [] fZ1 _ := ⟨⟨_, _, _, _, _, _, _, _, _, _, rfl, lZ1, cZ1, .inr ⟨by simp, _, _, [.none], _, rfl, dZ1, rfl, .cons rfl .nil⟩, .inl rfl⟩, kZ1⟩
  have OZ1 : OexC K eZ1 := ⟨⟨_, _, _, _, _, _, _, _, _, _, _, _, _, _, _, xZ1, by rfl⟩, saZ1, exZ1, tyZ1, keZ1⟩
  have KB_BadFilm : KindOk l.prog w K mg base "BadFilm" eZ1 := ⟨fZ1, ⟨PySem.W.mg_of X G aZ1, OZ1, ⟨gaZ1, ggZ1, exZ1, hdZ1⟩, nwZ1, npZ1, iZ1, tZ1, exm_self exZ1 icZ1 tyZ1 scZ1⟩, _, ok_BadFilm FZ1 FT GZ0 kZ0 bZ0, binds_BadFilm FZ1⟩
  have FZ2 : FunD K "__init__" "BadLayer.__init__" (defArgs s_BadLayer) (defBody s_BadLayer) (defScope s_BadLayer) [.non] [] fZ2 _ := ⟨⟨_, _, _, _, _, _, _, _, _, _, rfl, lZ2, cZ2, .inr ⟨by simp, _, _, [.none], _, rfl, dZ2, rfl, .cons rfl .nil⟩, .inl rfl⟩, kZ2⟩
  have OZ2 : OexC K eZ2 := ⟨⟨_, _, _, _, _, _, _, _, _, _, _, _, _, _, _, xZ2, by rfl⟩, saZ2, exZ2, tyZ2, keZ2⟩
  have KB_BadLayer : KindOk l.prog w K mg base "BadLayer" eZ2 := ⟨fZ2, ⟨PySem.W.mg_of X G aZ2, OZ2, ⟨gaZ2, ggZ2, exZ2, hdZ2⟩, nwZ2, npZ2, iZ2, tZ2, exm_self exZ2 icZ2 tyZ2 scZ2⟩, _, ok_BadLayer FZ2 FT GZ0 kZ0 bZ0, binds_BadLayer FZ2⟩
  have FZ3 : FunD K "__init__" "DuplicateLayer.__init__" (defArgs s_DuplicateLayer) (defBody s_DuplicateLayer) (defScope s_DuplicateLayer) [.non] [] fZ3 _ := ⟨⟨_, _, _, _, _, _, _, _, _, _, rfl, lZ3, cZ3, .inr ⟨by simp, _, _, [.none], _, rfl, dZ3, rfl, .cons rfl .nil⟩, .inl rfl⟩, kZ3⟩
  have OZ3 : OexC K eZ3 := ⟨⟨_, _, _, _, _, _, _, _, _, _, _, _, _, _, _, xZ3, by rfl⟩, saZ3, exZ3, tyZ3, keZ3⟩
  have KB_DuplicateLayer : KindOk l.prog w K mg base "DuplicateLayer" eZ3 := ⟨fZ3, ⟨PySem.W.mg_of X G aZ3, OZ3, ⟨gaZ3, ggZ3, exZ3, hdZ3⟩, nwZ3, npZ3, iZ3, tZ3, exm_self exZ3 icZ3 tyZ3 scZ3⟩, _, ok_DuplicateLayer FZ3 FT GZ0 kZ0 bZ0, binds_DuplicateLayer FZ3⟩
  have FZ4 : FunD K "__init__" "BadClip.__init__" (defArgs s_BadClip) (defBody s_BadClip) (defScope s_BadClip) [.non] [] fZ4 _ := ⟨⟨_, _, _, _, _, _, _, _, _, _, rfl, lZ4, cZ4, .inr ⟨by simp, _, _, [.none], _, rfl, dZ4, rfl, .cons rfl .nil⟩, .inl rfl⟩, kZ4⟩
  have OZ4 : OexC K eZ4 := ⟨⟨_, _, _, _, _, _, _, _, _, _, _, _, _, _, _, xZ4, by rfl⟩, saZ4, exZ4, tyZ4, keZ4⟩
  have KB_BadClip : KindOk l.prog w K mg base "BadClip" eZ4 := ⟨fZ4, ⟨PySem.W.mg_of X G aZ4, OZ4, ⟨gaZ4, ggZ4, exZ4, hdZ4⟩, nwZ4, npZ4, iZ4, tZ4, exm_self exZ4 icZ4 tyZ4 scZ4⟩, _, ok_BadClip FZ4 FT GZ0 kZ0 bZ0, binds_BadClip FZ4⟩
  have FZ5 : FunD K "__init__" "BadPaint.__init__" (defArgs s_BadPaint) (defBody s_BadPaint) (defScope s_BadPaint) [.non] [] fZ5 _ := ⟨⟨_, _, _, _, _, _, _, _, _, _, rfl, lZ5, cZ5, .inr ⟨by simp, _, _, [.none], _, rfl, dZ5, rfl, .cons rfl .nil⟩, .inl rfl⟩, kZ5⟩
  have OZ5 : OexC K eZ5 := ⟨⟨_, _, _, _, _, _, _, _, _, _, _, _, _, _, _, xZ5, by rfl⟩, saZ5, exZ5, tyZ5, keZ5⟩
  have KB_BadPaint : KindOk l.prog w K mg base "BadPaint" eZ5 := ⟨fZ5, ⟨PySem.W.mg_of X G aZ5, OZ5, ⟨gaZ5, ggZ5, exZ5, hdZ5⟩, nwZ5, npZ5, iZ5, tZ5, exm_self exZ5 icZ5 tyZ5 scZ5⟩, _, ok_BadPaint FZ5 FT GZ0 kZ0 bZ0, binds_BadPaint FZ5⟩
  have FZ6 : FunD K "__init__" "BadWhat.__init__" (defArgs s_BadWhat) (defBody s_BadWhat) (defScope s_BadWhat) [.non] [] fZ6 _ := ⟨⟨_, _, _, _, _, _, _, _, _, _, rfl, lZ6, cZ6, .inr ⟨by simp, _, _, [.none], _, rfl, dZ6, rfl, .cons rfl .nil⟩, .inl rfl⟩, kZ6⟩
  have OZ6 : OexC K eZ6 := ⟨⟨_, _, _, _, _, _, _, _, _, _, _, _, _, _, _, xZ6, by rfl⟩, saZ6, exZ6, tyZ6, keZ6⟩
  have KB_BadWhat : KindOk l.prog w K mg base "BadWhat" eZ6 := ⟨fZ6, ⟨PySem.W.mg_of X G aZ6, OZ6, ⟨gaZ6, ggZ6, exZ6, hdZ6⟩, nwZ6, npZ6, iZ6, tZ6, exm_self exZ6 icZ6 tyZ6 scZ6⟩, _, ok_BadWhat FZ6 FT GZ0 kZ0 bZ0, binds_BadWhat FZ6⟩
  have FZ7 : FunD K "__init__" "BadMoves.__init__" (defArgs s_BadMoves) (defBody s_BadMoves) (defScope s_BadMoves) [.non] [] fZ7 _ := ⟨⟨_, _, _, _, _, _, _, _, _, _, rfl, lZ7, cZ7, .inr ⟨by simp, _, _, [.none], _, rfl, dZ7, rfl, .cons rfl .nil⟩, .inl rfl⟩, kZ7⟩
  have OZ7 : OexC K eZ7 := ⟨⟨_, _, _, _, _, _, _, _, _, _, _, _, _, _, _, xZ7, by rfl⟩, saZ7, exZ7, tyZ7, keZ7⟩
  have KB_BadMoves : KindOk l.prog w K mg base "BadMoves" eZ7 := ⟨fZ7, ⟨PySem.W.mg_of X G aZ7, OZ7, ⟨gaZ7, ggZ7, exZ7, hdZ7⟩, nwZ7, npZ7, iZ7, tZ7, exm_self exZ7 icZ7 tyZ7 scZ7⟩, _, ok_BadMoves FZ7 FT GZ0 kZ0 bZ0, binds_BadMoves FZ7⟩
  have EX_BadLayer_BadFilm : PySem.W.exmOne K (.ref eZ2) (.ref eZ1) = some false := exm_no exZ1 icZ1 tyZ1 uZ2_Z1
  have EX_DuplicateLayer_BadFilm : PySem.W.exmOne K (.ref eZ3) (.ref eZ1) = some false := exm_no exZ1 icZ1 tyZ1 uZ3_Z1
  have EX_DuplicateLayer_BadLayer : PySem.W.exmOne K (.ref eZ3) (.ref eZ2) = some false := exm_no exZ2 icZ2 tyZ2 uZ3_Z2
  have EX_BadMoves_BadFilm : PySem.W.exmOne K (.ref eZ7) (.ref eZ1) = some false := exm_no exZ1 icZ1 tyZ1 uZ7_Z1
  have EX_BadMoves_BadLayer : PySem.W.exmOne K (.ref eZ7) (.ref eZ2) = some false := exm_no exZ2 icZ2 tyZ2 uZ7_Z2
  have EX_BadMoves_DuplicateLayer : PySem.W.exmOne K (.ref eZ7) (.ref eZ3) = some false := exm_no exZ3 icZ3 tyZ3 uZ7_Z3
  have EX_BadWhat_BadFilm : PySem.W.exmOne K (.ref eZ6) (.ref eZ1) = some false := exm_no exZ1 icZ1 tyZ1 uZ6_Z1
  have EX_BadWhat_BadLayer : PySem.W.exmOne K (.ref eZ6) (.ref eZ2) = some false := exm_no exZ2 icZ2 tyZ2 uZ6_Z2
  have EX_BadWhat_DuplicateLayer : PySem.W.exmOne K (.ref eZ6) (.ref eZ3) = some false := exm_no exZ3 icZ3 tyZ3 uZ6_Z3
  have EX_BadWhat_BadMoves : PySem.W.exmOne K (.ref eZ6) (.ref eZ7) = some false := exm_no exZ7 icZ7 tyZ7 uZ6_Z7
  have EX_BadClip_BadFilm : PySem.W.exmOne K (.ref eZ4) (.ref eZ1) = some false := exm_no exZ1 icZ1 tyZ1 uZ4_Z1
  have EX_BadClip_BadLayer : PySem.W.exmOne K (.ref eZ4) (.ref eZ2) = some false := exm_no exZ2 icZ2 tyZ2 uZ4_Z2
  have EX_BadClip_DuplicateLayer : PySem.W.exmOne K (.ref eZ4) (.ref eZ3) = some false := exm_no exZ3 icZ3 tyZ3 uZ4_Z3
  have EX_BadClip_BadMoves : PySem.W.exmOne K (.ref eZ4) (.ref eZ7) = some false := exm_no exZ7 icZ7 tyZ7 uZ4_Z7
  have EX_BadClip_BadWhat : PySem.W.exmOne K (.ref eZ4) (.ref eZ6) = some false := exm_no exZ6 icZ6 tyZ6 uZ4_Z6
  have EX_BadPaint_BadFilm : PySem.W.exmOne K (.ref eZ5) (.ref eZ1) = some false := exm_no exZ1 icZ1 tyZ1 uZ5_Z1
  have EX_BadPaint_BadLayer : PySem.W.exmOne K (.ref eZ5) (.ref eZ2) = some false := exm_no exZ2 icZ2 tyZ2 uZ5_Z2
  have EX_BadPaint_DuplicateLayer : PySem.W.exmOne K (.ref eZ5) (.ref eZ3) = some false := exm_no exZ3 icZ3 tyZ3 uZ5_Z3
  have EX_BadPaint_BadMoves : PySem.W.exmOne K (.ref eZ5) (.ref eZ7) = some false := exm_no exZ7 icZ7 tyZ7 uZ5_Z7
  have EX_BadPaint_BadWhat : PySem.W.exmOne K (.ref eZ5) (.ref eZ6) = some false := exm_no exZ6 icZ6 tyZ6 uZ5_Z6
  have EX_BadPaint_BadClip : PySem.W.exmOne K (.ref eZ5) (.ref eZ4) = some false := exm_no exZ4 icZ4 tyZ4 uZ5_Z4
  have OT_Film : FilmT K cO_Film := ⟨⟨pg_Film, hd_Film, po_Film, sa_Film⟩, n0_Film, n1_Film, n2_Film, n3_Film, n4_Film⟩
  have F0 := fun_mk (st := s_l_draw) l0 c0 k0
  have D_l_draw : Def l.prog w K mg base CX0 "_law_draw" 1 ["script", "k", "below"] (spDrawF K) := ⟨f0, _, ok_l_draw F0 T, PySem.W.mg_of X G a0, k0, F0.binds (ps := ["script", "k", "below"]) fun _ _ _ _ _ _ us hl => match us, hl with | [_, _, _], _ => rfl⟩
  have F1 := fun_mk (st := s_l_picture) l1 c1 k1
  have D_l_picture : Def l.prog w K mg base CX0 "_law_picture" 2 ["script", "k"] (spPicF K) := ⟨f1, _, ok_l_picture F1 T D_l_draw, PySem.W.mg_of X G a1, k1, F1.binds (ps := ["script", "k"]) fun _ _ _ _ _ _ us hl => match us, hl with | [_, _], _ => rfl⟩
  have F2 := fun_mk (st := s_l_paint) l2 c2 k2
  have D_l_paint : Def l.prog w K mg base CX0 "_law_paint" 3 ["script", "k"] (spPaintF K) := ⟨f2, _, ok_l_paint F2 T D_l_draw D_l_picture, PySem.W.mg_of X G a2, k2, F2.binds (ps := ["script", "k"]) fun _ _ _ _ _ _ us hl => match us, hl with | [_, _], _ => rfl⟩
  have F3 := fun_mk (st := s_l_clips) l3 c3 k3
  have D_l_clips : Def l.prog w K mg base CX0 "_law_clips" 4 ["script", "k", "adjusts"] (spClipsF K) := ⟨f3, _, ok_l_clips F3 T D_l_draw D_l_paint, PySem.W.mg_of X G a3, k3, F3.binds (ps := ["script", "k", "adjusts"]) fun _ _ _ _ _ _ us hl => match us, hl with | [_, _, _], _ => rfl⟩
  have F4 := fun_mk (st := s_l_what) l4 c4 k4
  have D_l_what : Def l.prog w K mg base CX0 "_law_what" 2 ["script", "k"] (spWhatF K) := ⟨f4, _, ok_l_what F4 T D_l_draw, PySem.W.mg_of X G a4, k4, F4.binds (ps := ["script", "k"]) fun _ _ _ _ _ _ us hl => match us, hl with | [_, _], _ => rfl⟩
  have F5 := fun_mk (st := s_l_box) l5 c5 k5
  have D_l_box : Def l.prog w K mg base CX0 "_law_box" 2 ["script", "k"] (spBoxF K) := ⟨f5, _, ok_l_box F5 T D_l_draw, PySem.W.mg_of X G a5, k5, F5.binds (ps := ["script", "k"]) fun _ _ _ _ _ _ us hl => match us, hl with | [_, _], _ => rfl⟩
  have F6 := fun_mk (st := s_l_moves) l6 c6 k6
  have D_l_moves : Def l.prog w K mg base CX0 "_law_moves" 2 ["script", "k"] (spMovesF K) := ⟨f6, _, ok_l_moves F6 T D_l_draw, PySem.W.mg_of X G a6, k6, F6.binds (ps := ["script", "k"]) fun _ _ _ _ _ _ us hl => match us, hl with | [_, _], _ => rfl⟩
  have F7 := fun_mk (st := s_l_layer) l7 c7 k7
  have D_l_layer : Def l.prog w K mg base CX0 "_law_layer" 5 ["script", "k", "name"] (spLayerF K) := ⟨f7, _, ok_l_layer F7 T D_l_what D_l_clips D_l_box D_l_moves, PySem.W.mg_of X G a7, k7, F7.binds (ps := ["script", "k", "name"]) fun _ _ _ _ _ _ us hl => match us, hl with | [_, _, _], _ => rfl⟩
  have F8 := fun_mk (st := s_l_name) l8 c8 k8
  have D_l_name : Def l.prog w K mg base CX0 "_law_name" 2 ["script", "k", "first"] (spNameF K) := ⟨f8, _, ok_l_name F8 T D_l_draw, PySem.W.mg_of X G a8, k8, F8.binds (ps := ["script", "k", "first"]) fun _ _ _ _ _ _ us hl => match us, hl with | [_, _, _], _ => rfl⟩
  have F9 := fun_mk (st := s_l_film) l9 c9 k9
  have D_l_film : Def l.prog w K mg base CX0 "_law_film" 6 ["script", "k"] (spFilmF K) := ⟨f9, _, ok_l_film F9 T D_l_draw D_l_layer D_l_name, PySem.W.mg_of X G a9, k9, F9.binds (ps := ["script", "k"]) fun _ _ _ _ _ _ us hl => match us, hl with | [_, _], _ => rfl⟩
  have F10 := fun_mk (st := s_is_whole) l10 c10 k10
  have D_is_whole : Def l.prog w K mg base CX0 "is_whole" 1 ["value"] (spWhole) := ⟨f10, _, ok_is_whole F10 T, PySem.W.mg_of X G a10, k10, F10.binds (ps := ["value"]) fun _ _ _ _ _ _ us hl => match us, hl with | [_], _ => rfl⟩
  have F11 := fun_mk (st := s_is_number) l11 c11 k11
  have D_is_number : Def l.prog w K mg base CX0 "is_number" 2 ["value", "least", "most"] (spNumber) := ⟨f11, _, ok_is_number F11 T D_is_whole, PySem.W.mg_of X G a11, k11, F11.binds (ps := ["value", "least", "most"]) fun _ _ _ _ _ _ us hl => match us, hl with | [_, _, _], _ => rfl⟩
  have F12 := fun_mk (st := s_is_distance) l12 c12 k12
  have D_is_distance : Def l.prog w K mg base CX0 "_is_distance" 3 ["value"] (spDist) := ⟨f12, _, ok_is_distance F12 T D_is_number, PySem.W.mg_of X G a12, k12, F12.binds (ps := ["value"]) fun _ _ _ _ _ _ us hl => match us, hl with | [_], _ => rfl⟩
  have F13 := fun_mk (st := s_is_point) l13 c13 k13
  have D_is_point : Def l.prog w K mg base CX0 "_is_point" 4 ["point", "least"] (spIsPt) := ⟨f13, _, ok_is_point F13 T D_is_number D_is_distance, PySem.W.mg_of X G a13, k13, F13.binds (ps := ["point", "least"]) fun _ _ _ _ _ _ us hl => match us, hl with | [_, _], _ => rfl⟩
  have F14 := fun_mk (st := s_check_moves) l14 c14 k14
  have D_check_moves : Def l.prog w K mg base (L2.CX l.prog w) "check_moves" 5 ["moves"] (spCheckMv eZ7) := ⟨f14, _, ok_check_moves F14 T KB_BadMoves D_is_point, PySem.W.mg_of X G a14, k14, F14.binds (ps := ["moves"]) fun _ _ _ _ _ _ us hl => match us, hl with | [_], _ => rfl⟩
  have F15 := fun_mk (st := s_has_form_blends) l15 c15 k15
  have D_has_form_blends : Def l.prog w K mg base CX0 "has_form_blends" 3 ["what"] (spFormW) := ⟨f15, _, ok_has_form_blends F15 T D_is_number, PySem.W.mg_of X G a15, k15, F15.binds (ps := ["what"]) fun _ _ _ _ _ _ us hl => match us, hl with | [_], _ => rfl⟩
  have F16 := fun_mk (st := s_check_what) l16 c16 k16
  have D_check_what : Def l.prog w K mg base (L2.CX l.prog w) "check_what" 4 ["what"] (spChkW eZ6) := ⟨f16, _, ok_check_what F16 T KB_BadWhat D_has_form_blends, PySem.W.mg_of X G a16, k16, F16.binds (ps := ["what"]) fun _ _ _ _ _ _ us hl => match us, hl with | [_], _ => rfl⟩
  have F17 := fun_mk (st := s_are_numbers) l17 c17 k17
  have D_are_numbers : Def l.prog w K mg base CX0 "_are_numbers" 3 ["items", "many", "most"] (spNums) := ⟨f17, _, ok_are_numbers F17 T D_is_number, PySem.W.mg_of X G a17, k17, F17.binds (ps := ["items", "many", "most"]) fun _ _ _ _ _ _ us hl => match us, hl with | [_, _, _], _ => rfl⟩
  have F18 := fun_mk (st := s_check_picture) l18 c18 k18
  have D_check_picture : Def l.prog w K mg base CX0 "check_picture" 4 ["picture"] (spCheck K) := ⟨f18, _, ok_check_picture F18 T D_is_number D_are_numbers, PySem.W.mg_of X G a18, k18, F18.binds (ps := ["picture"]) fun _ _ _ _ _ _ us hl => match us, hl with | [_], _ => rfl⟩
  have F19 := fun_mk (st := s_has_form_paints) l19 c19 k19
  have D_has_form_paints : Def l.prog w K mg base CX0 "has_form_paints" 3 ["paint"] (spFormP K) := ⟨f19, _, ok_has_form_paints F19 T D_is_number, PySem.W.mg_of X G a19, k19, F19.binds (ps := ["paint"]) fun _ _ _ _ _ _ us hl => match us, hl with | [_], _ => rfl⟩
  have F20 := fun_mk (st := s_is_name) l20 c20 k20
  have D_is_name : Def l.prog w K mg base CX0 "is_name" 1 ["value"] (spIsName) := ⟨f20, _, ok_is_name F20 T, PySem.W.mg_of X G a20, k20, F20.binds (ps := ["value"]) fun _ _ _ _ _ _ us hl => match us, hl with | [_], _ => rfl⟩
  have F21 := fun_mk (st := s_adjusts) l21 c21 k21
  have D_adjusts : Def l.prog w K mg base CX0 "_adjusts" 1 ["what"] (spAdj K) := ⟨f21, _, ok_adjusts F21 T, PySem.W.mg_of X G a21, k21, F21.binds (ps := ["what"]) fun _ _ _ _ _ _ us hl => match us, hl with | [_], _ => rfl⟩
  have F22 := fun_mk (st := s_has_form_clips) l22 c22 k22
  have D_has_form_clips : Def l.prog w K mg base CX0 "has_form_clips" 3 ["clip"] (spFormC) := ⟨f22, _, ok_has_form_clips F22 T D_is_number, PySem.W.mg_of X G a22, k22, F22.binds (ps := ["clip"]) fun _ _ _ _ _ _ us hl => match us, hl with | [_], _ => rfl⟩
  have F23 := fun_mk (st := s_is_bare) l23 c23 k23
  have D_is_bare : Def l.prog w K mg base CX0 "_is_bare" 1 ["clip"] (spBare K) := ⟨f23, _, ok_is_bare F23 T, PySem.W.mg_of X G a23, k23, F23.binds (ps := ["clip"]) fun _ _ _ _ _ _ us hl => match us, hl with | [_], _ => rfl⟩
  have F24 := fun_mk (st := s_end_of) l24 c24 k24
  have D_end_of : Def l.prog w K mg base CX0 "end_of" 1 ["clip"] (spEnd27 K) := ⟨f24, _, ok_end_of F24 T, PySem.W.mg_of X G a24, k24, F24.binds (ps := ["clip"]) fun _ _ _ _ _ _ us hl => match us, hl with | [_], _ => rfl⟩
  have F25 := fun_mk (st := s_check_paint) l25 c25 k25
  have D_check_paint : Def l.prog w K mg base (L2.CX l.prog w) "check_paint" 5 ["paint"] (spPaint41 eZ5) := ⟨f25, _, ok_check_paint F25 T KB_BadPaint D_has_form_paints D_check_picture, PySem.W.mg_of X G a25, k25, F25.binds (ps := ["paint"]) fun _ _ _ _ _ _ us hl => match us, hl with | [_], _ => rfl⟩
  have F26 := fun_mk (st := s_is_box) l26 c26 k26
  have D_is_box : Def l.prog w K mg base CX0 "_is_box" 3 ["value"] (spBox41) := ⟨f26, _, ok_is_box F26 T D_is_number, PySem.W.mg_of X G a26, k26, F26.binds (ps := ["value"]) fun _ _ _ _ _ _ us hl => match us, hl with | [_], _ => rfl⟩
  have F27 := fun_mk (st := s_check_numbers) l27 c27 k27
  have D_check_numbers : Def l.prog w K mg base (L2.CX l.prog w) "_check_numbers" 4 ["width", "height", "frames", "background"] (spNums41 eZ1) := ⟨f27, _, ok_check_numbers F27 T KB_BadFilm D_is_number, PySem.W.mg_of X G a27, k27, F27.binds (ps := ["width", "height", "frames", "background"]) fun _ _ _ _ _ _ us hl => match us, hl with | [_, _, _, _], _ => rfl⟩
  have F28 := fun_mk (st := s_check_clips) l28 c28 k28
  have D_check_clips : Def l.prog w K mg base (L2.CX l.prog w) "check_clips" 6 ["clips", "adjusts"] (spClips41 eZ4 eZ5) := ⟨f28, _, ok_check_clips F28 T KB_BadClip D_has_form_clips D_is_bare D_check_paint D_end_of, PySem.W.mg_of X G a28, k28, F28.binds (ps := ["clips", "adjusts"]) fun _ _ _ _ _ _ us hl => match us, hl with | [_, _], _ => rfl⟩
  have F29 := fun_mk (st := s_check_layer) l29 c29 k29
  have D_check_layer : Def l.prog w K mg base (L2.CX l.prog w) "_check_layer" 7 ["layer", "place"] (spLayer41 K eZ2 eZ7 eZ6 eZ4 eZ5) := ⟨f29, _, ok_check_layer F29 T KB_BadLayer D_is_name D_is_box D_check_moves D_check_what D_check_clips D_adjusts, PySem.W.mg_of X G a29, k29, F29.binds (ps := ["layer", "place"]) fun _ _ _ _ _ _ us hl => match us, hl with | [_, _], _ => rfl⟩
  have F30 := fun_mk (st := s_Film_width) l30 c30 k30
  have PF_Film_width : Prp l.prog w K mg base cO_Film "width" 1 (spGetI cO_Film Fi.w) := ⟨p30, f30, _, ⟨a30, g30, t30, ⟨_, r30⟩⟩, ok_Film_width F30 T OT_Film, F30.binds (ps := ["self"]) fun _ _ _ _ _ _ us hl => match us, hl with | [_], _ => rfl⟩
  have F31 := fun_mk (st := s_Film_height) l31 c31 k31
  have PF_Film_height : Prp l.prog w K mg base cO_Film "height" 1 (spGetI cO_Film Fi.h) := ⟨p31, f31, _, ⟨a31, g31, t31, ⟨_, r31⟩⟩, ok_Film_height F31 T OT_Film, F31.binds (ps := ["self"]) fun _ _ _ _ _ _ us hl => match us, hl with | [_], _ => rfl⟩
  have F32 := fun_mk (st := s_Film_frames) l32 c32 k32
  have PF_Film_frames : Prp l.prog w K mg base cO_Film "frames" 1 (spGetI cO_Film Fi.n) := ⟨p32, f32, _, ⟨a32, g32, t32, ⟨_, r32⟩⟩, ok_Film_frames F32 T OT_Film, F32.binds (ps := ["self"]) fun _ _ _ _ _ _ us hl => match us, hl with | [_], _ => rfl⟩
  have F33 := fun_mk (st := s_Film_background) l33 c33 k33
  have PF_Film_background : Prp l.prog w K mg base cO_Film "background" 1 (spGetI cO_Film Fi.b) := ⟨p33, f33, _, ⟨a33, g33, t33, ⟨_, r33⟩⟩, ok_Film_background F33 T OT_Film, F33.binds (ps := ["self"]) fun _ _ _ _ _ _ us hl => match us, hl with | [_], _ => rfl⟩
  have F34 := fun_mk (st := s_Film_layers) l34 c34 k34
  have PF_Film_layers : Prp l.prog w K mg base cO_Film "layers" 1 (spGetL cO_Film) := ⟨p34, f34, _, ⟨a34, g34, t34, ⟨_, r34⟩⟩, ok_Film_layers F34 T OT_Film, F34.binds (ps := ["self"]) fun _ _ _ _ _ _ us hl => match us, hl with | [_], _ => rfl⟩
  have F35 := fun_mk (st := s_Film_init) l35 c35 k35
  have MK_Film : MkO l.prog w K mg base (L2.CX l.prog w) "Film" cO_Film 8 ["self", "width", "height", "frames", "background", "layers"] (spFilm41 cO_Film eZ1 eZ3 eZ2 eZ7 eZ6 eZ4 eZ5) := ⟨f35, _, ⟨mk_Film, a35, i35, kc_Film⟩, ok_Film_init F35 T OT_Film KB_BadFilm KB_DuplicateLayer D_check_numbers D_check_layer, PySem.W.mg_of X G aO_Film, F35.binds (ps := ["self", "width", "height", "frames", "background", "layers"]) fun _ _ _ _ _ _ us hl => match us, hl with | [_, _, _, _, _, _], _ => rfl⟩
  have F36 := fun_mk (st := s_l_made) l36 c36 k36
  have D_l_made : Def l.prog w K mg base CX0 "_law_made" 10 ["parts"] (spMade K cO_Film) := ⟨f36, _, ok_l_made F36 T MK_Film, PySem.W.mg_of X G a36, k36, F36.binds (ps := ["parts"]) fun _ _ _ _ _ _ us hl => match us, hl with | [_], _ => rfl⟩
  have F37 := fun_mk (st := s_l_number) l37 c37 k37
  have D_l_number : Def l.prog w K mg base CX0 "_law_number" 2 ["script", "k", "most"] (spNumber41 K) := ⟨f37, _, ok_l_number F37 T D_l_draw, PySem.W.mg_of X G a37, k37, F37.binds (ps := ["script", "k", "most"]) fun _ _ _ _ _ _ us hl => match us, hl with | [_, _, _], _ => rfl⟩
  have F38 := fun_mk (st := s_l_told) l38 c38 k38
  have D_l_told : Def l.prog w K mg base CX0 "_law_told" 10 ["numbers", "layers"] (spTold41 K) := ⟨f38, _, ok_l_told F38 T FT MK_Film KB_BadFilm KB_BadLayer KB_DuplicateLayer KB_BadMoves KB_BadWhat KB_BadClip KB_BadPaint OT_Film PF_Film_layers PF_Film_background PF_Film_frames PF_Film_height PF_Film_width EX_BadLayer_BadFilm EX_DuplicateLayer_BadFilm EX_DuplicateLayer_BadLayer EX_BadMoves_BadFilm EX_BadMoves_BadLayer EX_BadMoves_DuplicateLayer EX_BadWhat_BadFilm EX_BadWhat_BadLayer EX_BadWhat_DuplicateLayer EX_BadWhat_BadMoves EX_BadClip_BadFilm EX_BadClip_BadLayer EX_BadClip_DuplicateLayer EX_BadClip_BadMoves EX_BadClip_BadWhat EX_BadPaint_BadFilm EX_BadPaint_BadLayer EX_BadPaint_DuplicateLayer EX_BadPaint_BadMoves EX_BadPaint_BadWhat EX_BadPaint_BadClip, PySem.W.mg_of X G a38, k38, F38.binds (ps := ["numbers", "layers"]) fun _ _ _ _ _ _ us hl => match us, hl with | [_, _], _ => rfl⟩
  have F39 := fun_mk (st := s_l_spoilt_layer) l39 c39 k39
  have D_l_spoilt_layer : Def l.prog w K mg base CX0 "_law_spoilt_layer" 2 ["script", "k", "layer"] (spSpoilt41 K) := ⟨f39, _, ok_l_spoilt_layer F39 T D_l_draw, PySem.W.mg_of X G a39, k39, F39.binds (ps := ["script", "k", "layer"]) fun _ _ _ _ _ _ us hl => match us, hl with | [_, _, _], _ => rfl⟩
  have F40 := fun_mk (st := s_numbers_of) l40 c40 k40
  have D_numbers_of : Def l.prog w K mg base CX0 "_numbers_of" 3 ["film"] (spNumbers K cO_Film) := ⟨f40, _, ok_numbers_of F40 T OT_Film PF_Film_width PF_Film_height PF_Film_frames PF_Film_background, PySem.W.mg_of X G a40, k40, F40.binds (ps := ["film"]) fun _ _ _ _ _ _ us hl => match us, hl with | [_], _ => rfl⟩
  have F41 := fun_mk (st := s_same_film) l41 c41 k41
  have D_same_film : Def l.prog w K mg base CX0 "same_film" 4 ["first", "second"] (spSame K cO_Film) := ⟨f41, _, ok_same_film F41 T OT_Film D_numbers_of PF_Film_layers, PySem.W.mg_of X G a41, k41, F41.binds (ps := ["first", "second"]) fun _ _ _ _ _ _ us hl => match us, hl with | [_, _], _ => rfl⟩
  exact ok_law (fun_mk (st := s_law) l42 c42 k42) T D_l_film D_l_draw D_l_spoilt_layer D_l_number D_l_told D_l_made D_same_film MK_Film
theorem walk {l : PySem.W.OpenLaw} {q : Program} {loose : List Str} {XP : (Str → Option Value) → Heap → Prop} {YP : World → Heap → Prop} {d : DefRec} {K : Params → PySem.W.Frag} (hn : l.most = some 63) (hdf : d.params.defaults = [])
    (hY : ∀ (w : World) (h : Heap), YP w h → (K w.params).In h)
    (F : ∀ (w : World) (mg : Str → Option Value) (fa : Addr) (h : Heap), (K w.params).In h → h.Ns mainGlobals mg → mg d.name = some (.ref fa) →
      ∃ fd : FuncData, (∀ (s : Shared) (u : Value), BindsTo s fd ⟨[u], []⟩ [("script", u)]) ∧ ∀ base : Heap, (K w.params).In base → base.Ns mainGlobals mg → FnG l.prog w (K w.params) mg base CX0 11 fa fd ["script"] (spLaw (K w.params))) :
    PySem.W.WalkO q loose XP YP l.row.toRowW d [] (fun f vs => PySem.call f vs) :=
  walk_g (n := 63) (k := 11) (x := "script") (sp := fun w => spLaw (K w.params)) hn (by decide) hdf ⟨rfl, by decide, by decide⟩ hY F fun _ _ a ns hl _ hS => ⟨a, ns, rfl, hS, hl, fun _ => rfl⟩
end Od
open PySem PySem.W PyProof.Rows in
set_option maxRecDepth 100000 in
set_option maxHeartbeats 0 in
theorem PySem.Challenge.cw_onlythedirt_k41_film_checked_holds : PySem.Challenge.rw_onlythedirt_k41_film_checked.Holds := by
  w_on; o_law; k_head; (case hw => w_witness2)
  k_fill
  refine Od.walk (l := PySem.Challenge.rw_onlythedirt_k41_film_checked) rfl rfl (fun w h Y => PySem.W.kIn_of Y) ?F
  case F =>
    intro w mg fa h KX G hmg
    refine' Od.all_mk KX G hmg ?aO_Film ?pg_Film ?hd_Film ?po_Film ?sa_Film ?mk_Film ?kc_Film ?n0_Film ?n1_Film ?n2_Film ?n3_Film ?n4_Film ?a0 ?l0 ?c0 ?k0 ?a1 ?l1 ?c1 ?k1 ?a2 ?l2 ?c2 ?k2 ?a3 ?l3 ?c3 ?k3 ?a4 ?l4 ?c4 ?k4 ?a5 ?l5 ?c5 ?k5 ?a6 ?l6 ?c6 ?k6 ?a7 ?l7 ?c7 ?k7 ?a8 ?l8 ?c8 ?k8 ?a9 ?l9 ?c9 ?k9 ?a10 ?l10 ?c10 ?k10 ?a11 ?l11 ?c11 ?k11 ?a12 ?l12 ?c12 ?k12 ?a13 ?l13 ?c13 ?k13 ?a14 ?l14 ?c14 ?k14 ?a15 ?l15 ?c15 ?k15 ?a16 ?l16 ?c16 ?k16 ?a17 ?l17 ?c17 ?k17 ?a18 ?l18 ?c18 ?k18 ?a19 ?l19 ?c19 ?k19 ?a20 ?l20 ?c20 ?k20 ?a21 ?l21 ?c21 ?k21 ?a22 ?l22 ?c22 ?k22 ?a23 ?l23 ?c23 ?k23 ?a24 ?l24 ?c24 ?k24 ?a25 ?l25 ?c25 ?k25 ?a26 ?l26 ?c26 ?k26 ?a27 ?l27 ?c27 ?k27 ?a28 ?l28 ?c28 ?k28 ?a29 ?l29 ?c29 ?k29 ?a30 ?g30 ?t30 ?r30 ?l30 ?c30 ?k30 ?a31 ?g31 ?t31 ?r31 ?l31 ?c31 ?k31 ?a32 ?g32 ?t32 ?r32 ?l32 ?c32 ?k32 ?a33 ?g33 ?t33 ?r33 ?l33 ?c33 ?k33 ?a34 ?g34 ?t34 ?r34 ?l34 ?c34 ?k34 ?a35 ?i35 ?l35 ?c35 ?k35 ?a36 ?l36 ?c36 ?k36 ?a37 ?l37 ?c37 ?k37 ?a38 ?l38 ?c38 ?k38 ?a39 ?l39 ?c39 ?k39 ?a40 ?l40 ?c40 ?k40 ?a41 ?l41 ?c41 ?k41 ?a42 ?l42 ?c42 ?k42 ?z_all ?z_bool ?z_enumerate ?z_int ?z_isinstance ?z_len ?z_list ?z_range ?z_repr ?z_str ?z_tuple ?z_CLIPS_MOST ?z_COVER_MOST ?z_DISTANCE_MOST ?z_FRAMES_MOST ?z_LAYERS_MOST ?z_LENGTH_MOST ?z_LETTERS ?z_MODES ?y_MODES ?z_MOVES_MOST ?z_MOVE_FRAME_MOST ?z_NAME_MOST ?z_PICTURE_SIDE_MOST ?z_PLACE_MOST ?z_SIDE_MOST ?z_START_MOST ?z_STEP_MOST ?z_VALUE_MOST ?aZ0 ?rZ0 ?gZ0 ?iZ0 ?vZ0 ?wZ0 ?lZ0 ?cZ0 ?kZ0 ?dZ0 ?aZ1 ?xZ1 ?saZ1 ?gaZ1 ?ggZ1 ?nwZ1 ?npZ1 ?iZ1 ?tZ1 ?keZ1 ?exZ1 ?tyZ1 ?hdZ1 ?icZ1 ?scZ1 ?lZ1 ?cZ1 ?kZ1 ?dZ1 ?aZ2 ?xZ2 ?saZ2 ?gaZ2 ?ggZ2 ?nwZ2 ?npZ2 ?iZ2 ?tZ2 ?keZ2 ?exZ2 ?tyZ2 ?hdZ2 ?icZ2 ?scZ2 ?lZ2 ?cZ2 ?kZ2 ?dZ2 ?aZ3 ?xZ3 ?saZ3 ?gaZ3 ?ggZ3 ?nwZ3 ?npZ3 ?iZ3 ?tZ3 ?keZ3 ?exZ3 ?tyZ3 ?hdZ3 ?icZ3 ?scZ3 ?lZ3 ?cZ3 ?kZ3 ?dZ3 ?aZ4 ?xZ4 ?saZ4 ?gaZ4 ?ggZ4 ?nwZ4 ?npZ4 ?iZ4 ?tZ4 ?keZ4 ?exZ4 ?tyZ4 ?hdZ4 ?icZ4 ?scZ4 ?lZ4 ?cZ4 ?kZ4 ?dZ4 ?aZ5 ?xZ5 ?saZ5 ?gaZ5 ?ggZ5 ?nwZ5 ?npZ5 ?iZ5 ?tZ5 ?keZ5 ?exZ5 ?tyZ5 ?hdZ5 ?icZ5 ?scZ5 ?lZ5 ?cZ5 ?kZ5 ?dZ5 ?aZ6 ?xZ6 ?saZ6 ?gaZ6 ?ggZ6 ?nwZ6 ?npZ6 ?iZ6 ?tZ6 ?keZ6 ?exZ6 ?tyZ6 ?hdZ6 ?icZ6 ?scZ6 ?lZ6 ?cZ6 ?kZ6 ?dZ6 ?aZ7 ?xZ7 ?saZ7 ?gaZ7 ?ggZ7 ?nwZ7 ?npZ7 ?iZ7 ?tZ7 ?keZ7 ?exZ7 ?tyZ7 ?hdZ7 ?icZ7 ?scZ7 ?lZ7 ?cZ7 ?kZ7 ?dZ7 ?uZ2_Z1 ?uZ3_Z1 ?uZ3_Z2 ?uZ7_Z1 ?uZ7_Z2 ?uZ7_Z3 ?uZ6_Z1 ?uZ6_Z2 ?uZ6_Z3 ?uZ6_Z7 ?uZ4_Z1 ?uZ4_Z2 ?uZ4_Z3 ?uZ4_Z7 ?uZ4_Z6 ?uZ5_Z1 ?uZ5_Z2 ?uZ5_Z3 ?uZ5_Z7 ?uZ5_Z6 ?uZ5_Z4
    (case aO_Film => k_is)
    (case pg_Film => k_is)
    (case hd_Film => k_is)
    (case po_Film => k_is)
    (case sa_Film => k_is)
    (case mk_Film => k_is)
    (case kc_Film => k_is)
    (case n0_Film => k_is)
    (case n1_Film => k_is)
    (case n2_Film => k_is)
    (case n3_Film => k_is)
    (case n4_Film => k_is)
    (case a0 => k_is)
    (case l0 => k_is)
    (case c0 => k_is)
    (case k0 => k_is)
    (case a1 => k_is)
    (case l1 => k_is)
    (case c1 => k_is)
    (case k1 => k_is)
    (case a2 => k_is)
    (case l2 => k_is)
    (case c2 => k_is)
    (case k2 => k_is)
    (case a3 => k_is)
    (case l3 => k_is)
    (case c3 => k_is)
    (case k3 => k_is)
    (case a4 => k_is)
    (case l4 => k_is)
    (case c4 => k_is)
    (case k4 => k_is)
    (case a5 => k_is)
    (case l5 => k_is)
    (case c5 => k_is)
    (case k5 => k_is)
    (case a6 => k_is)
    (case l6 => k_is)
    (case c6 => k_is)
    (case k6 => k_is)
    (case a7 => k_is)
    (case l7 => k_is)
    (case c7 => k_is)
    (case k7 => k_is)
    (case a8 => k_is)
    (case l8 => k_is)
    (case c8 => k_is)
    (case k8 => k_is)
    (case a9 => k_is)
    (case l9 => k_is)
    (case c9 => k_is)
    (case k9 => k_is)
    (case a10 => k_is)
    (case l10 => k_is)
    (case c10 => k_is)
    (case k10 => k_is)
    (case a11 => k_is)
    (case l11 => k_is)
    (case c11 => k_is)
    (case k11 => k_is)
    (case a12 => k_is)
    (case l12 => k_is)
    (case c12 => k_is)
    (case k12 => k_is)
    (case a13 => k_is)
    (case l13 => k_is)
    (case c13 => k_is)
    (case k13 => k_is)
    (case a14 => k_is)
    (case l14 => k_is)
    (case c14 => k_is)
    (case k14 => k_is)
    (case a15 => k_is)
    (case l15 => k_is)
    (case c15 => k_is)
    (case k15 => k_is)
    (case a16 => k_is)
    (case l16 => k_is)
    (case c16 => k_is)
    (case k16 => k_is)
    (case a17 => k_is)
    (case l17 => k_is)
    (case c17 => k_is)
    (case k17 => k_is)
    (case a18 => k_is)
    (case l18 => k_is)
    (case c18 => k_is)
    (case k18 => k_is)
    (case a19 => k_is)
    (case l19 => k_is)
    (case c19 => k_is)
    (case k19 => k_is)
    (case a20 => k_is)
    (case l20 => k_is)
    (case c20 => k_is)
    (case k20 => k_is)
    (case a21 => k_is)
    (case l21 => k_is)
    (case c21 => k_is)
    (case k21 => k_is)
    (case a22 => k_is)
    (case l22 => k_is)
    (case c22 => k_is)
    (case k22 => k_is)
    (case a23 => k_is)
    (case l23 => k_is)
    (case c23 => k_is)
    (case k23 => k_is)
    (case a24 => k_is)
    (case l24 => k_is)
    (case c24 => k_is)
    (case k24 => k_is)
    (case a25 => k_is)
    (case l25 => k_is)
    (case c25 => k_is)
    (case k25 => k_is)
    (case a26 => k_is)
    (case l26 => k_is)
    (case c26 => k_is)
    (case k26 => k_is)
    (case a27 => k_is)
    (case l27 => k_is)
    (case c27 => k_is)
    (case k27 => k_is)
    (case a28 => k_is)
    (case l28 => k_is)
    (case c28 => k_is)
    (case k28 => k_is)
    (case a29 => k_is)
    (case l29 => k_is)
    (case c29 => k_is)
    (case k29 => k_is)
    (case a30 => k_is)
    (case g30 => k_is)
    (case t30 => k_is)
    (case r30 => k_is)
    (case l30 => k_is)
    (case c30 => k_is)
    (case k30 => k_is)
    (case a31 => k_is)
    (case g31 => k_is)
    (case t31 => k_is)
    (case r31 => k_is)
    (case l31 => k_is)
    (case c31 => k_is)
    (case k31 => k_is)
    (case a32 => k_is)
    (case g32 => k_is)
    (case t32 => k_is)
    (case r32 => k_is)
    (case l32 => k_is)
    (case c32 => k_is)
    (case k32 => k_is)
    (case a33 => k_is)
    (case g33 => k_is)
    (case t33 => k_is)
    (case r33 => k_is)
    (case l33 => k_is)
    (case c33 => k_is)
    (case k33 => k_is)
    (case a34 => k_is)
    (case g34 => k_is)
    (case t34 => k_is)
    (case r34 => k_is)
    (case l34 => k_is)
    (case c34 => k_is)
    (case k34 => k_is)
    (case a35 => k_is)
    (case i35 => k_is)
    (case l35 => k_is)
    (case c35 => k_is)
    (case k35 => k_is)
    (case a36 => k_is)
    (case l36 => k_is)
    (case c36 => k_is)
    (case k36 => k_is)
    (case a37 => k_is)
    (case l37 => k_is)
    (case c37 => k_is)
    (case k37 => k_is)
    (case a38 => k_is)
    (case l38 => k_is)
    (case c38 => k_is)
    (case k38 => k_is)
    (case a39 => k_is)
    (case l39 => k_is)
    (case c39 => k_is)
    (case k39 => k_is)
    (case a40 => k_is)
    (case l40 => k_is)
    (case c40 => k_is)
    (case k40 => k_is)
    (case a41 => k_is)
    (case l41 => k_is)
    (case c41 => k_is)
    (case k41 => k_is)
    (case a42 => k_is)
    (case l42 => k_is)
    (case c42 => k_is)
    (case k42 => k_is)
    (case z_all => k_is)
    (case z_bool => k_is)
    (case z_enumerate => k_is)
    (case z_int => k_is)
    (case z_isinstance => k_is)
    (case z_len => k_is)
    (case z_list => k_is)
    (case z_range => k_is)
    (case z_repr => k_is)
    (case z_str => k_is)
    (case z_tuple => k_is)
    (case z_CLIPS_MOST => k_is)
    (case z_COVER_MOST => k_is)
    (case z_DISTANCE_MOST => k_is)
    (case z_FRAMES_MOST => k_is)
    (case z_LAYERS_MOST => k_is)
    (case z_LENGTH_MOST => k_is)
    (case z_LETTERS => k_is)
    (case z_MODES => k_is)
    (case y_MODES => k_is)
    (case z_MOVES_MOST => k_is)
    (case z_MOVE_FRAME_MOST => k_is)
    (case z_NAME_MOST => k_is)
    (case z_PICTURE_SIDE_MOST => k_is)
    (case z_PLACE_MOST => k_is)
    (case z_SIDE_MOST => k_is)
    (case z_START_MOST => k_is)
    (case z_STEP_MOST => k_is)
    (case z_VALUE_MOST => k_is)
    (case aZ0 => k_is)
    (case rZ0 => k_is)
    (case gZ0 => k_is)
    (case iZ0 => k_is)
    (case vZ0 => k_is)
    (case wZ0 => k_is)
    (case lZ0 => k_is)
    (case cZ0 => k_is)
    (case kZ0 => k_is)
    (case dZ0 => k_is)
    (case aZ1 => k_is)
    (case xZ1 => k_is)
    (case saZ1 => k_is)
    (case gaZ1 => k_is)
    (case ggZ1 => k_is)
    (case nwZ1 => k_is)
    (case npZ1 => k_is)
    (case iZ1 => k_is)
    (case tZ1 => k_is)
    (case keZ1 => k_is)
    (case exZ1 => k_is)
    (case tyZ1 => k_is)
    (case hdZ1 => k_is)
    (case icZ1 => k_is)
    (case scZ1 => k_is)
    (case lZ1 => k_is)
    (case cZ1 => k_is)
    (case kZ1 => k_is)
    (case dZ1 => k_is)
    (case aZ2 => k_is)
    (case xZ2 => k_is)
    (case saZ2 => k_is)
    (case gaZ2 => k_is)
    (case ggZ2 => k_is)
    (case nwZ2 => k_is)
    (case npZ2 => k_is)
    (case iZ2 => k_is)
    (case tZ2 => k_is)
    (case keZ2 => k_is)
    (case exZ2 => k_is)
    (case tyZ2 => k_is)
    (case hdZ2 => k_is)
    (case icZ2 => k_is)
    (case scZ2 => k_is)
    (case lZ2 => k_is)
    (case cZ2 => k_is)
    (case kZ2 => k_is)
    (case dZ2 => k_is)
    (case aZ3 => k_is)
    (case xZ3 => k_is)
    (case saZ3 => k_is)
    (case gaZ3 => k_is)
    (case ggZ3 => k_is)
    (case nwZ3 => k_is)
    (case npZ3 => k_is)
    (case iZ3 => k_is)
    (case tZ3 => k_is)
    (case keZ3 => k_is)
    (case exZ3 => k_is)
    (case tyZ3 => k_is)
    (case hdZ3 => k_is)
    (case icZ3 => k_is)
    (case scZ3 => k_is)
    (case lZ3 => k_is)
    (case cZ3 => k_is)
    (case kZ3 => k_is)
    (case dZ3 => k_is)
    (case aZ4 => k_is)
    (case xZ4 => k_is)
    (case saZ4 => k_is)
    (case gaZ4 => k_is)
    (case ggZ4 => k_is)
    (case nwZ4 => k_is)
    (case npZ4 => k_is)
    (case iZ4 => k_is)
    (case tZ4 => k_is)
    (case keZ4 => k_is)
    (case exZ4 => k_is)
    (case tyZ4 => k_is)
    (case hdZ4 => k_is)
    (case icZ4 => k_is)
    (case scZ4 => k_is)
    (case lZ4 => k_is)
    (case cZ4 => k_is)
    (case kZ4 => k_is)
    (case dZ4 => k_is)
    (case aZ5 => k_is)
    (case xZ5 => k_is)
    (case saZ5 => k_is)
    (case gaZ5 => k_is)
    (case ggZ5 => k_is)
    (case nwZ5 => k_is)
    (case npZ5 => k_is)
    (case iZ5 => k_is)
    (case tZ5 => k_is)
    (case keZ5 => k_is)
    (case exZ5 => k_is)
    (case tyZ5 => k_is)
    (case hdZ5 => k_is)
    (case icZ5 => k_is)
    (case scZ5 => k_is)
    (case lZ5 => k_is)
    (case cZ5 => k_is)
    (case kZ5 => k_is)
    (case dZ5 => k_is)
    (case aZ6 => k_is)
    (case xZ6 => k_is)
    (case saZ6 => k_is)
    (case gaZ6 => k_is)
    (case ggZ6 => k_is)
    (case nwZ6 => k_is)
    (case npZ6 => k_is)
    (case iZ6 => k_is)
    (case tZ6 => k_is)
    (case keZ6 => k_is)
    (case exZ6 => k_is)
    (case tyZ6 => k_is)
    (case hdZ6 => k_is)
    (case icZ6 => k_is)
    (case scZ6 => k_is)
    (case lZ6 => k_is)
    (case cZ6 => k_is)
    (case kZ6 => k_is)
    (case dZ6 => k_is)
    (case aZ7 => k_is)
    (case xZ7 => k_is)
    (case saZ7 => k_is)
    (case gaZ7 => k_is)
    (case ggZ7 => k_is)
    (case nwZ7 => k_is)
    (case npZ7 => k_is)
    (case iZ7 => k_is)
    (case tZ7 => k_is)
    (case keZ7 => k_is)
    (case exZ7 => k_is)
    (case tyZ7 => k_is)
    (case hdZ7 => k_is)
    (case icZ7 => k_is)
    (case scZ7 => k_is)
    (case lZ7 => k_is)
    (case cZ7 => k_is)
    (case kZ7 => k_is)
    (case dZ7 => k_is)
    (case uZ2_Z1 => k_is)
    (case uZ3_Z1 => k_is)
    (case uZ3_Z2 => k_is)
    (case uZ7_Z1 => k_is)
    (case uZ7_Z2 => k_is)
    (case uZ7_Z3 => k_is)
    (case uZ6_Z1 => k_is)
    (case uZ6_Z2 => k_is)
    (case uZ6_Z3 => k_is)
    (case uZ6_Z7 => k_is)
    (case uZ4_Z1 => k_is)
    (case uZ4_Z2 => k_is)
    (case uZ4_Z3 => k_is)
    (case uZ4_Z7 => k_is)
    (case uZ4_Z6 => k_is)
    (case uZ5_Z1 => k_is)
    (case uZ5_Z2 => k_is)
    (case uZ5_Z3 => k_is)
    (case uZ5_Z7 => k_is)
    (case uZ5_Z6 => k_is)
    (case uZ5_Z4 => k_is)
