import PyProof.Rows.All
import Wide.All
import OpenK.AllK
import Wide.FinOn
import HandS.ForMost
import HandS.Evl
import HandS.IsInst
import HandS.TupAny
import HandS.SortInts
import HandS.Conv
import HandS.TupLen
import HandS.TupMul
import HandS.Steps
import PyProof.ReprRoads
import PyProof.Rows.RegFStrParts
import HandS.Walk
import HandS.Iter
import HandS.Lambda
import HandS.EndTab
import KE.KSortKeyAny
import HandS.More
import KE.DataCmp
import HandS.ForExc
import HandS.ExcInit
import HandS.ExcOwn
import HandS.ExcField
import HandS.WordsExc
import HandS.Defaults
import HandS.ExcIs
import KE.KExcIs
import PyProof.RulesMatchSeq
import PyProof.Rows.MatchSeqLen
import PyProof.EqKinds
import PySem.Challenge.RW_onlythedirt_k34_whole_lanes
set_option Elab.async false
set_option linter.all false
set_option maxRecDepth 100000
set_option maxHeartbeats 4000000
namespace Od
open PySem L2 Evl

/-! ### an object under another description -/
/-- the same objects, the one at a told otherwise -/
structure Swp (P : Program) (w : World) (H' H'' : Hp) (a : Addr) (o u : HO) : Prop where
  at1 : H' a = some o
  eq : H'' = upd H' a u
  nt : ∀ xs, o ≠ .tup xs
  nf : ∀ x y, o ≠ .frz x y
  nb : ∀ ps, o ≠ .tbl ps
  nw : ∀ x, o ≠ .own x
  to : ∀ h, HOk P w H' h → ObjOk P w H'' h a u
theorem Swp.ne {P : Program} {w : World} {H' H'' : Hp} {a b : Addr} {o u x : HO} (S : Swp P w H' H'' a o u) (h : H' b = some x) (d : o ≠ x) : b ≠ a := by
  intro e
  rw [e, S.at1] at h
  exact d (Option.some.inj h)
theorem Swp.hok {P : Program} {w : World} {H' H'' : Hp} {a : Addr} {o u : HO} {h : Heap} (S : Swp P w H' H'' a o u) (k : HOk P w H' h) : HOk P w H'' h := by
  intro b x e
  by_cases hb : b = a
  · subst hb
    have e2 := e
    rw [S.eq, upd_same] at e2
    cases e2
    exact S.to h k
  · have e1 : H' b = some x := by
      rw [S.eq, upd_ne hb] at e
      exact e
    refine (k b x e1).stay (fun c v _ q => q) (fun c q => ?_) (fun c xs q => ?_)
    · rw [S.eq, upd_ne (S.ne q (S.nw _))]
      exact q
    · rw [S.eq, upd_ne (S.ne q (S.nt _))]
      exact q
theorem Swp.unR {P : Program} {w : World} {H H' H'' : Hp} {a : Addr} {o u : HO} {h h' : Heap} {fs ex : List Addr} (S : Swp P w H' H'' a o u) (k : Un fs ex H H' h h') : Un fs ex H H'' h h' := by
  refine ⟨k.keep, k.slot, fun b x q n hx => ?_, k.there, fun b xs q => ?_, fun b x y q => ?_, fun b ps q => ?_⟩
  · have e := k.free b x q n hx
    rw [S.eq, upd_ne ?_]
    · exact e
    · intro z
      rw [z, S.at1] at e
      cases e
  · have e := k.tups b xs q
    rw [S.eq, upd_ne (S.ne e (S.nt _))]
    exact e
  · have e := k.frzs b x y q
    rw [S.eq, upd_ne (S.ne e (S.nf _ _))]
    exact e
  · obtain ⟨m, e⟩ := k.tbls b ps q
    refine ⟨m, ?_⟩
    rw [S.eq, upd_ne (S.ne e (S.nb _))]
    exact e
theorem Swp.unL {P : Program} {w : World} {H H1 H2 : Hp} {a : Addr} {o u : HO} {h h' : Heap} {fs ex : List Addr} (S : Swp P w H H1 a o u) (k : Un fs ex H1 H2 h h') : Un fs ex H H2 h h' := by
  have z : ∀ b, H b = none → H1 b = none := fun b n => by
    rw [S.eq, upd_ne ?_]
    · exact n
    · intro z
      rw [z, S.at1] at n
      cases n
  refine ⟨fun b x q n => k.keep b x q (z b n), fun b x q n => k.slot b x q (z b n), fun b x q n => k.free b x q (z b n), k.there, fun b xs q => k.tups b xs ?_, fun b x y q => k.frzs b x y ?_, fun b ps q => k.tbls b ps ?_⟩
  · rw [S.eq, upd_ne (S.ne q (S.nt _))]
    exact q
  · rw [S.eq, upd_ne (S.ne q (S.nf _ _))]
    exact q
  · rw [S.eq, upd_ne (S.ne q (S.nb _))]
    exact q
theorem Swp.env {P : Program} {w : World} {K : PySem.W.Frag} {mg : Str → Option Value} {base : Heap} {A : Around} {outer : List Env} {s : Shared} {H H1 : Hp} {a : Addr} {o u : HO}
    (S : Swp P w H H1 a o u) (e : Env0 P w K mg base A outer s H) : Env0 P w K mg base A outer s H1 := by
  have z : ∀ b, H b = none → H1 b = none := fun b n => by
    rw [S.eq, upd_ne ?_]
    · exact n
    · intro z
      rw [z, S.at1] at n
      cases n
  exact ⟨e.frames, e.mod, fun b x q => ⟨(e.bs b x q).1, z b (e.bs b x q).2⟩, e.bsz, e.funs, fun b hb => z b (e.frf b hb), S.hok e.hok, e.bare⟩

/-- behind a call the object at a is told otherwise -/
theorem CE.swp {P : Program} {w : World} {outer : List Env} {H : Hp} {s s' : Shared} {Q : VK} {u : Value}
    (h : CE outer P w H s (fun v H' => ∃ H'' a o x, Swp P w H' H'' a o x ∧ Q v H'') u s') : CE outer P w H s Q u s' := by
  obtain ⟨v, H', h1, h2, h3, h4, h5, H'', a, o, x, S, q⟩ := h
  exact ⟨v, H'', h1, h2, S.unR h3, S.hok h4, h5, q⟩
/-- a def's promise, its answer's object told otherwise -/
theorem FnOk.out {P : Program} {w : World} {K : PySem.W.Frag} {mg : Str → Option Value} {base : Heap} {k : Nat} {f : Addr} {fd : FuncData} {ps : List Str} {sp sp' : Sp} (F : FnOk P w K mg base CX0 k f fd ps sp)
    (hl : ∀ vs H Q E, sp' vs H Q E → vs.length = ps.length)
    (h : ∀ vs H Q E, sp' vs H Q E → sp vs H (fun v H' => ∃ H'' a o x, Swp P w H' H'' a o x ∧ Q v H'') E) : FnOk P w K mg base CX0 k f fd ps sp' := by
  refine ⟨hl, fun A outer s H args us vs Q E hr he hb hv hs => ?_⟩
  refine codeAny_mono (F.run A outer s H args us vs _ E hr he hb hv (h _ _ _ _ hs)) ?_
  intro r s' q
  match r, q with
  | .ok (.ret u), q => exact CE.swp q
  | .error e, q => exact q
end Od

namespace Od
open PySem L2 Evl

/-! ### the law's deck: a list whose state is not told -/
def deckV (n k seed : Int) (l : Addr) (c : Int) : List V := [.int n, .int k, .int seed, .ref l, .int c]
def IsDeck (l : Addr) (xs : List V) : Prop := ∃ n k seed c, xs = deckV n k seed l c ∧ 0 ≤ n ∧ 0 ≤ k ∧ 0 ≤ seed ∧ seed < 2147483647
def deckO (a l : Addr) : HO := .ext fun h => ∃ xs, IsDeck l xs ∧ ∃ (its : List Value) (n : Nat), Vals xs its ∧ h.get? a = some { cls := .type "list", data := .seq its.toArray n }
def DeckAt (K : PySem.W.Frag) (H : Hp) (a : Addr) : Prop := ∃ (l : Addr) (ns : List Int), H a = some (deckO a l) ∧ H l = some (.lst (ns.map V.int))
theorem DeckAt.mono {K : PySem.W.Frag} {H H' : Hp} {a : Addr} (e : Ex H H') (h : DeckAt K H a) : DeckAt K H' a := by
  obtain ⟨l, ns, h1, h2⟩ := h
  exact ⟨l, ns, e _ _ h1, e _ _ h2⟩
theorem isDeck_len {l : Addr} {xs : List V} (h : IsDeck l xs) : xs.length ≤ sizeLine := by
  obtain ⟨n, k, seed, c, rfl, _⟩ := h
  show 5 ≤ sizeLine
  decide
theorem deck_ok {P : Program} {w : World} {H : Hp} {h : Heap} {a l : Addr} {xs : List V} (d : IsDeck l xs) (k : ∃ (its : List Value) (n : Nat), Vals xs its ∧ h.get? a = some { cls := .type "list", data := .seq its.toArray n }) :
    ObjOk P w H h a (deckO a l) := by
  obtain ⟨its, n, r, e⟩ := k
  refine ⟨⟨xs, d, its, n, r, e⟩, ⟨_, e⟩, fun h1 h2 p q => ?_⟩
  obtain ⟨ys, d1, its1, n1, r1, e1⟩ := p
  exact ⟨ys, d1, its1, n1, r1, q _ e1⟩
/-- an open deck is closed -/
theorem swp_close {P : Program} {w : World} {H : Hp} {a l : Addr} {xs : List V} (h : H a = some (.lst xs)) (d : IsDeck l xs) : Swp P w H (upd H a (deckO a l)) a (.lst xs) (deckO a l) := by
  refine ⟨h, rfl, fun _ e => (nomatch e), fun _ _ e => (nomatch e), fun _ e => (nomatch e), fun _ e => (nomatch e), fun hp k => ?_⟩
  obtain ⟨_, its, n, r, e⟩ := k a _ h
  exact deck_ok d ⟨its, n, r, e⟩
/-- a closed deck is opened -/
theorem swp_open {P : Program} {w : World} {H : Hp} {h : Heap} {a l : Addr} (ha : H a = some (deckO a l)) (k : HOk P w H h) :
    ∃ xs, IsDeck l xs ∧ HOk P w (upd H a (.lst xs)) h := by
  obtain ⟨⟨xs, d, its, n, r, e⟩, _, _⟩ := k a _ ha
  refine ⟨xs, d, fun b x q => ?_⟩
  by_cases hb : b = a
  · subst hb
    rw [upd_same] at q
    cases q
    exact ⟨isDeck_len d, its, n, r, e⟩
  · rw [upd_ne hb] at q
    refine (k b x q).stay (fun c v _ q => q) (fun c q => ?_) (fun c xs q => ?_)
    · rw [upd_ne ?_]
      · exact q
      · intro z
        rw [z, ha] at q
        cases q
    · rw [upd_ne ?_]
      · exact q
      · intro z
        rw [z, ha] at q
        cases q
theorem un_open {H H2 : Hp} {a l : Addr} {xs : List V} {h h' : Heap} {fs ex : List Addr} (ha : H a = some (deckO a l)) (k : Un fs ex (upd H a (.lst xs)) H2 h h') : Un fs ex H H2 h h' := by
  have z : ∀ b, H b = none → upd H a (.lst xs) b = none := fun b n => by
    rw [upd_ne ?_]
    · exact n
    · intro z
      rw [z, ha] at n
      cases n
  refine ⟨fun b x q n => k.keep b x q (z b n), fun b x q n => k.slot b x q (z b n), fun b x q n => k.free b x q (z b n), k.there, fun b xs q => k.tups b xs ?_, fun b x y q => k.frzs b x y ?_, fun b ps q => k.tbls b ps ?_⟩
  · rw [upd_ne (ne_of q ha (fun e => nomatch e))]
    exact q
  · rw [upd_ne (ne_of q ha (fun e => nomatch e))]
    exact q
  · rw [upd_ne (ne_of q ha (fun e => nomatch e))]
    exact q
theorem env_open {P : Program} {w : World} {K : PySem.W.Frag} {mg : Str → Option Value} {base : Heap} {A : Around} {outer : List Env} {s : Shared} {H : Hp} {a l : Addr} {xs : List V} (ha : H a = some (deckO a l))
    (e : Env0 P w K mg base A outer s H) (hok : HOk P w (upd H a (.lst xs)) s.heap) : Env0 P w K mg base A outer s (upd H a (.lst xs)) := by
  have z : ∀ b, H b = none → upd H a (.lst xs) b = none := fun b n => by
    rw [upd_ne ?_]
    · exact n
    · intro z
      rw [z, ha] at n
      cases n
  exact ⟨e.frames, e.mod, fun b x q => ⟨(e.bs b x q).1, z b (e.bs b x q).2⟩, e.bsz, e.funs, fun b hb => z b (e.frf b hb), hok, e.bare⟩

/-- how a def that changes the open deck is told: n with 0 ≤ n < b -/
def spDrawO : Sp := fun vs H Q _ => ∃ (a : Addr) (b : Int) (l : Addr) (ns : List Int) (xs : List V), vs = [.ref a, .int b] ∧ H a = some (.lst xs) ∧ IsDeck l xs ∧ H l = some (.lst (ns.map V.int)) ∧ l ≠ a ∧ 0 < b ∧ b < 1073741824 ∧
  ∀ n ys, 0 ≤ n → n < b → IsDeck l ys → Q (.int n) (upd H a (.lst ys))
/-- .. the closed one -/
def spDraw (K : PySem.W.Frag) : Sp := fun vs H Q _ => ∃ a b, vs = [.ref a, .int b] ∧ DeckAt K H a ∧ 0 < b ∧ b < 1073741824 ∧ ∀ n, 0 ≤ n → n < b → Q (.int n) H
theorem upd_back {H : Hp} {a : Addr} {o u : HO} (h : H a = some o) : upd (upd H a u) a o = H := by
  funext b
  unfold upd
  by_cases e : b = a
  · simp [e, h]
  · simp [e]
theorem draw_closed {P : Program} {w : World} {K : PySem.W.Frag} {mg : Str → Option Value} {base : Heap} {k : Nat} {f : Addr} {fd : FuncData} {ps : List Str} (F : FnOk P w K mg base CX0 k f fd ps spDrawO) (hp : ps.length = 2) :
    FnOk P w K mg base CX0 k f fd ps (spDraw K) := by
  refine ⟨fun vs H Q E h => ?_, fun A outer s H args us vs Q E hr he hb hv hs => ?_⟩
  · obtain ⟨a, b, rfl, _⟩ := h
    exact hp.symm
  · obtain ⟨a, b, rfl, ⟨l, ns, h1, h2⟩, b0, b1, q⟩ := hs
    obtain ⟨xs, d, hok⟩ := swp_open h1 he.hok
    have hla : l ≠ a := ne_of h2 h1 (fun e => nomatch e)
    refine codeAny_mono (F.run A outer s (upd H a (.lst xs)) args us _ (fun v H' => ∃ ys, H' = upd H a (.lst ys) ∧ IsDeck l ys ∧ Q v H) E hr (env_open h1 he hok) hb hv ?_) ?_
    · refine ⟨a, b, l, ns, xs, rfl, upd_same, d, by rw [upd_ne hla]; exact h2, hla, b0, b1, fun n ys n0 n1 d2 => ⟨ys, ?_, d2, q n n0 n1⟩⟩
      rw [upd_upd]
    · intro r s' q2
      match r, q2 with
      | .ok (.ret u), q2 =>
        obtain ⟨v, H', c1, c2, c3, c4, c5, ys, rfl, d2, q3⟩ := q2
        have S := swp_close (P := P) (w := w) (H := upd H a (.lst ys)) (a := a) (l := l) upd_same d2
        have e := upd_back (u := .lst ys) h1
        rw [e] at S
        exact ⟨v, H, c1, c2, un_open h1 (S.unR c3), S.hok c4, c5, q3⟩
      | .error e, q2 => exact q2
/-- the def that makes the deck: open, closed -/
def spDeckO (K : PySem.W.Frag) : Sp := fun vs H Q _ => ∃ (a : Addr) (ns : List Int), vs = [.ref a] ∧ SqL K H a (ns.map V.int) ∧ ns.length ≤ 63 ∧ ∀ p l ys H', H p = none → Ex H H' → H' p = some (.lst ys) → IsDeck l ys → l ≠ p → H' l = some (.lst (ns.map V.int)) → Q (.ref p) H'
def spDeck (K : PySem.W.Frag) : Sp := fun vs H Q _ => ∃ (a : Addr) (ns : List Int), vs = [.ref a] ∧ SqL K H a (ns.map V.int) ∧ ns.length ≤ 63 ∧ ∀ p H', Ex H H' → DeckAt K H' p → Q (.ref p) H'
theorem deck_closed {P : Program} {w : World} {K : PySem.W.Frag} {mg : Str → Option Value} {base : Heap} {k : Nat} {f : Addr} {fd : FuncData} {ps : List Str} (F : FnOk P w K mg base CX0 k f fd ps (spDeckO K)) (hp : ps.length = 1) :
    FnOk P w K mg base CX0 k f fd ps (spDeck K) := by
  refine FnOk.out F (fun vs H Q E h => ?_) fun vs H Q E h => ?_
  · obtain ⟨a, ns, rfl, _⟩ := h
    exact hp.symm
  · obtain ⟨a, ns, rfl, h1, h2, q⟩ := h
    refine ⟨a, ns, rfl, h1, h2, fun p l ys H' hp e hy d hl h3 => ⟨upd H' p (deckO p l), p, .lst ys, deckO p l, swp_close hy d, q p _ ?_ ⟨l, ns, upd_same, by rw [upd_ne hl]; exact h3⟩⟩⟩
    exact Ex.mut e hp
end Od

namespace Od
open PySem L2 Evl

/-! ### what kind a value is -/
inductive Kn (H : Hp) : V → String → Prop
  | non : Kn H .non "NoneType"
  | bl (b : Bool) : Kn H (.bl b) "bool"
  | int (i : Int) : Kn H (.int i) "int"
  | str (x : Str) : Kn H (.str x) "str"
  | tup {a : Addr} {xs : List V} (h : H a = some (.tup xs)) : Kn H (.ref a) "tuple"
  | lst {a : Addr} {xs : List V} (h : H a = some (.lst xs)) : Kn H (.ref a) "list"
theorem Kn.mono {H H' : Hp} {v : V} {T : String} (e : Ex H H') (k : Kn H v T) : Kn H' v T := by
  cases k with
  | non => exact .non
  | bl b => exact .bl b
  | int i => exact .int i
  | str x => exact .str x
  | tup h => exact .tup (e _ _ h)
  | lst h => exact .lst (e _ _ h)
theorem Kn.ty {K : PySem.W.Frag} {H : Hp} {v : V} {T : String} (k : Kn H v T) : TyX K H v (.type T) := by
  cases k with
  | non => exact .base .non
  | bl b => exact .base (.bl b)
  | int i => exact .base (.int i)
  | str x => exact .base (.str x)
  | tup h => exact .base (.tup h)
  | lst h => exact .base (.lst h)
/-- isinstance of such a value -/
def isA (T n : String) : Bool := T == n || (T == "bool" && n == "int")
theorem kit_int {H : Hp} {v : V} {T : String} (k : Kn H v T) : kitB T "int" = some (isA T "int") := by
  cases k <;> decide +kernel
theorem kit_bool {H : Hp} {v : V} {T : String} (k : Kn H v T) : kitB T "bool" = some (isA T "bool") := by
  cases k <;> decide +kernel
theorem kit_tuple {H : Hp} {v : V} {T : String} (k : Kn H v T) : kitB T "tuple" = some (isA T "tuple") := by
  cases k <;> decide +kernel
theorem kit_list {H : Hp} {v : V} {T : String} (k : Kn H v T) : kitB T "list" = some (isA T "list") := by
  cases k <;> decide +kernel
theorem kit_str {H : Hp} {v : V} {T : String} (k : Kn H v T) : kitB T "str" = some (isA T "str") := by
  cases k <;> decide +kernel
theorem isi {K : PySem.W.Frag} {H : Hp} {v : V} {T n : String} {b : Bool} {Q : VK} (k : Kn H v T) (h : kitB T n = some b) (q : Q (.bl b) H) : rIsi K [v, .ty n] H Q :=
  ⟨v, _, _, _, b, rfl, .ty n, k.ty, kit_ty h, q⟩
def isI : V → Bool
  | .int _ => true
  | _ => false
theorem Kn.whole {H : Hp} {v : V} {T : String} (k : Kn H v T) : (isA T "int" && !isA T "bool") = isI v := by
  have h1 : (isA "NoneType" "int" && !isA "NoneType" "bool") = false := by decide +kernel
  have h2 : (isA "bool" "int" && !isA "bool" "bool") = false := by decide +kernel
  have h3 : (isA "int" "int" && !isA "int" "bool") = true := by decide +kernel
  have h4 : (isA "str" "int" && !isA "str" "bool") = false := by decide +kernel
  have h5 : (isA "tuple" "int" && !isA "tuple" "bool") = false := by decide +kernel
  have h6 : (isA "list" "int" && !isA "list" "bool") = false := by decide +kernel
  cases k with
  | non => exact h1
  | bl b => exact h2
  | int i => exact h3
  | str x => exact h4
  | tup h => exact h5
  | lst h => exact h6

/-- a comprehension's turn without a test -/
theorem lcY {σ : L2.St} {H : Hp} {A B : Hp → Prop} (h : A H) : tYes σ H (fun b H3 => if b = true then A H3 else B H3) := by
  show if true = true then A H else B H
  exact iteT h
/-- a def that is called: where it stands, what it promises -/
structure Def (P : Program) (w : World) (K : PySem.W.Frag) (mg : Str → Option Value) (base : Heap) (CX : CXT) (x : Str) (k : Nat) (ps : List Str) (sp : Sp) where
  f : Addr
  fd : FuncData
  ok : FnOk P w K mg base CX k f fd ps sp
  mgf : mg x = some (.ref f)
  kp : PySem.W.keepIn K (.ref f) = true
  b : L2.Binds K fd ps []
end Od

namespace Od
open PySem L2 Evl

theorem bt_isinstance : bootBuiltins "isinstance" = some (.builtin "isinstance") := by decide +kernel
theorem bt_len : bootBuiltins "len" = some (.builtin "len") := by decide +kernel
theorem bt_abs : bootBuiltins "abs" = some (.builtin "abs") := by decide +kernel
theorem bt_all : bootBuiltins "all" = some (.builtin "all") := by decide +kernel
theorem bt_any : bootBuiltins "any" = some (.builtin "any") := by decide +kernel
theorem bt_sorted : bootBuiltins "sorted" = some (.builtin "sorted") := by decide +kernel
theorem bt_min : bootBuiltins "min" = some (.builtin "min") := by decide +kernel
theorem bt_max : bootBuiltins "max" = some (.builtin "max") := by decide +kernel
theorem bt_sum : bootBuiltins "sum" = some (.builtin "sum") := by decide +kernel
theorem bt_repr : bootBuiltins "repr" = some (.builtin "repr") := by decide +kernel
theorem bt_int : bootBuiltins "int" = some (.type "int") := by decide +kernel
theorem bt_bool : bootBuiltins "bool" = some (.type "bool") := by decide +kernel
theorem bt_tuple : bootBuiltins "tuple" = some (.type "tuple") := by decide +kernel
theorem bt_list : bootBuiltins "list" = some (.type "list") := by decide +kernel
theorem bt_str : bootBuiltins "str" = some (.type "str") := by decide +kernel
theorem bt_range : bootBuiltins "range" = some (.type "range") := by decide +kernel
theorem bt_enumerate : bootBuiltins "enumerate" = some (.type "enumerate") := by decide +kernel
theorem bt_zip : bootBuiltins "zip" = some (.type "zip") := by decide +kernel
theorem bt_ValueError : bootBuiltins "ValueError" = some (.type "ValueError") := by decide +kernel
theorem pickV {xs : List V} {i : Int} (h0 : 0 ≤ i) (h1 : i < xs.length) : ∃ v, v ∈ xs ∧ atI xs i = some v := by
  obtain ⟨m, rfl⟩ := Int.eq_ofNat_of_zero_le h0
  have hm : m < xs.length := by omega
  exact ⟨xs[m], List.getElem_mem hm, atI_nat (List.getElem?_eq_getElem hm)⟩
theorem pickI {ns : List Int} {i : Int} (h0 : 0 ≤ i) (h1 : i < ns.length) : ∃ w, w ∈ ns ∧ atI (ns.map V.int) i = some (.int w) := by
  obtain ⟨m, rfl⟩ := Int.eq_ofNat_of_zero_le h0
  have hm : m < ns.length := by omega
  exact ⟨ns[m], List.getElem_mem hm, atI_nat (by rw [List.getElem?_map, List.getElem?_eq_getElem hm]; rfl)⟩
theorem ex_free {H H' : Hp} {p : Addr} (e : Ex H H') (h : H' p = none) : H p = none := fresh_back e h
/-- a rectangle of ints stands at p -/
def RectAt (H : Hp) (p : Addr) (l t r b : Int) : Prop := H p = some (.tup [.int l, .int t, .int r, .int b])
theorem cutV_whole {xs : List V} {lo hi : Option Int} (h : HT.sIx xs.length 0 lo = 0 ∧ HT.sIx xs.length xs.length hi = xs.length) : cutV xs lo hi = xs := by
  unfold cutV
  rw [h.1, h.2]
  simp
structure RSlS (K : PySem.W.Frag) (x : V) (lo hi : Option Int) (H : Hp) (Q : VK) : Prop where
  h : rSlA K x lo hi H Q
structure RCatS (K : PySem.W.Frag) (x y : V) (H : Hp) (Q : VK) : Prop where
  h : rCatA K x y H Q
theorem slA {K : PySem.W.Frag} {H : Hp} {a : Addr} {xs : List V} {lo hi : Option Int} {Q : VK} (h : H a = some (.tup xs)) (q : ∀ p H', Ex H H' → H' p = some (.tup (cutV xs lo hi)) → Q (.ref p) H') : RSlS K (.ref a) lo hi H Q := by
  refine .mk ?_
  refine ⟨a, xs, rfl, SqT.of h, fun hw => ?_, fun _ p hp => q p _ (Ex.new hp) upd_same⟩
  refine q a H (Ex.refl _) ?_
  rw [cutV_whole hw]
  exact h
theorem catA {K : PySem.W.Frag} {H : Hp} {a b : Addr} {xs ys : List V} {Q : VK} (h : H a = some (.tup xs)) (h' : H b = some (.tup ys)) (hl : xs.length + ys.length ≤ sizeLine) (q : ∀ p H', Ex H H' → H' p = some (.tup (xs ++ ys)) → Q (.ref p) H') : RCatS K (.ref a) (.ref b) H Q := by
  refine .mk ?_
  refine ⟨a, b, xs, ys, rfl, rfl, SqT.of h, SqT.of h', hl, fun e => ?_, fun _ e => ?_, fun _ _ p hp => q p _ (Ex.new hp) upd_same⟩
  · refine q b H (Ex.refl _) ?_
    rw [e]
    exact h'
  · refine q a H (Ex.refl _) ?_
    rw [e, List.append_nil]
    exact h
theorem mem_cutV {xs : List V} {lo hi : Option Int} {x : V} (h : x ∈ cutV xs lo hi) : x ∈ xs := List.mem_of_mem_drop (List.mem_of_mem_take h)
end Od

namespace Od
open PySem L2 Evl
/-! ### the rules with the written part told -/
section
variable {X : Cx} (K : PySem.W.Frag)
theorem kisi (h : X.K = K := by rfl) : CallR X (.builtin "isinstance") (rIsi K) := by
  subst h
  exact call_isi
theorem kixL (h : X.K = K := by rfl) : IxR X (rIxL K) := by
  subst h
  exact ix_list
theorem kixT (h : X.K = K := by rfl) : IxR X (rIxT K) := by
  subst h
  exact ix_tup
theorem kixS (h : X.K = K := by rfl) : IxR X (rIx K) := by
  subst h
  exact ix_seq
theorem kslL (h : X.K = K := by rfl) : SlR X (rSlL K) := by
  subst h
  exact sl_list
theorem kslA (h : X.K = K := by rfl) : SlR X (RSlS K) := by
  subst h
  exact fun pins s σ H x v vl vu lo hi sl Q I r hs pl pu q => sl_tupA pins s σ H x v vl vu lo hi sl Q I r hs pl pu q.h
theorem kcatA (h : X.K = K := by rfl) : OpR X (binaryOp .Add) (RCatS K) := by
  subst h
  exact fun pins s σ H x y v u Q I rx ry q => op_catA pins s σ H x y v u Q I rx ry q.h
theorem krepT (h : X.K = K := by rfl) : OpR X (binaryOp .Mult) (rRepT K) := by
  subst h
  exact op_repT
theorem keqD (hu : X.A.units + 64 < cLine) (h : X.K = K := by rfl) : OpR X (compareOp .Eq) (rEqD K) := by
  subst h
  exact op_eqD hu
theorem kneD (hu : X.A.units + 64 < cLine) (h : X.K = K := by rfl) : OpR X (compareOp .NotEq) (rNeD K) := by
  subst h
  exact op_neD hu
theorem kin (h : X.K = K := by rfl) : OpR X (compareOp .In) (rIn K false) := by
  subst h
  exact op_in_seq
theorem knotin (h : X.K = K := by rfl) : OpR X (compareOp .NotIn) (rIn K true) := by
  subst h
  exact op_notIn_seq
theorem klen (h : X.K = K := by rfl) : CallR X (.builtin "len") (rLenS K) := by
  subst h
  exact call_len_seq
theorem klist (h : X.K = K := by rfl) : CallR X (.type "list") (rListS K) := by
  subst h
  exact call_list_of
def rTupS (K : PySem.W.Frag) : List V → Hp → VK → Prop := fun xs H Q => ∃ p ys, xs = [.ref p] ∧ ((SqL K H p ys ∧ ∀ l, H l = none → Q (.ref l) (upd H l (.tup ys))) ∨ (SqT K H p ys ∧ Q (.ref p) H))
theorem ktuple (h : X.K = K := by rfl) : CallR X (.type "tuple") (rTupS K) := by
  subst h
  exact call_tuple_of
theorem ksum (hc : X.calm = true) (h : X.K = K := by rfl) : CallR X (.builtin "sum") (rSum K) := by
  subst h
  exact cr_sum hc
theorem kmax (hc : X.calm = true) (h : X.K = K := by rfl) : CallR X (.builtin "max") (rMax K) := by
  subst h
  exact cr_max hc
theorem kmin (hc : X.calm = true) (h : X.K = K := by rfl) : CallR X (.builtin "min") (rMin K) := by
  subst h
  exact cr_min hc
theorem kall (hc : X.calm = true) (h : X.K = K := by rfl) : CallR X (.builtin "all") (rAll K) := by
  subst h
  exact cr_all hc
theorem kany (hc : X.calm = true) (h : X.K = K := by rfl) : CallR X (.builtin "any") (rAny K) := by
  subst h
  exact cr_any hc
theorem ksorted (h : X.K = K := by rfl) : CallR X (.builtin "sorted") (rSortedI K) := by
  subst h
  exact cr_sortedI
variable {tg : Expr}
theorem kpiL {l : Expr} {tl : TE} (hl : PE X l tl) (h : X.K = K := by rfl) : PI X tg l (iList K tl) := by
  subst h
  exact pi_list hl
theorem kpiT {l : Expr} {tl : TE} (hl : PE X l tl) (h : X.K = K := by rfl) : PI X tg l (iTup K tl) := by
  subst h
  exact pi_tup hl
theorem kpgT {es : List Expr} {k : Nat} {t : TGs} {n : Nat} {pos : Pos} (hc : X.calm = true) (hh : PGs X es t) (hn : (assignEach es X.env).length = n := by rfl) (hst : (assignEach es X.env).findIdx? (·.1) = none := by rfl) (h : X.K = K := by rfl) : PG X (.Tuple es k pos) (gTup K n t) := by
  subst h
  exact pg_tup hc hh hn hst
theorem ktru {a : Expr} {ta : TE} (ha : PE X a ta) (he : ∀ whole, isTrue a X.env whole = (do let v ← whole; standAt a.pos; holding [v] (truthy v)) := by intro _; rfl) (h : X.K = K := by rfl) : PT X a (L2.tTru K ta) := by
  subst h
  exact pt_truth ha he
end
end Od

namespace Od
open PySem L2 Evl

/-! ### tuples stay -/
def TK (H H' : Hp) : Prop := ∀ a xs, H a = some (.tup xs) → H' a = some (.tup xs)
theorem TK.refl (H : Hp) : TK H H := fun _ _ h => h
theorem TK.trans {H H1 H2 : Hp} (a : TK H H1) (b : TK H1 H2) : TK H H2 := fun x o h => b x o (a x o h)
theorem TK.ex {H H' : Hp} (e : Ex H H') : TK H H' := fun a xs h => e a _ h
theorem TK.lst {H : Hp} {p : Addr} {xs : List V} {o : HO} (h : H p = some (.lst xs)) : TK H (upd H p o) := fun a ys h' => by
  rw [upd_ne]
  · exact h'
  · intro e
    rw [e, h] at h'
    cases h'
theorem TK.dT {H : Hp} {p : Addr} {xs : List (List Key × V)} {o : HO} (h : H p = some (.dT xs)) : TK H (upd H p o) := fun a ys h' => by
  rw [upd_ne]
  · exact h'
  · intro e
    rw [e, h] at h'
    cases h'
theorem TK.dK {H : Hp} {p : Addr} {xs : List (Key × V)} {o : HO} (h : H p = some (.dK xs)) : TK H (upd H p o) := fun a ys h' => by
  rw [upd_ne]
  · exact h'
  · intro e
    rw [e, h] at h'
    cases h'
theorem TK.fresh {H : Hp} {p : Addr} {o : HO} (h : H p = none) : TK H (upd H p o) := TK.ex (Ex.new h)

/-! ### lists of pairs, of rectangles -/
abbrev Pt := Int × Int
structure Rc where
  l : Int
  t : Int
  r : Int
  b : Int
  deriving DecidableEq
def PtV (H : Hp) (v : V) (q : Pt) : Prop := ∃ p, v = .ref p ∧ H p = some (.tup [.int q.1, .int q.2])
def RcV (H : Hp) (v : V) (q : Rc) : Prop := ∃ p, v = .ref p ∧ H p = some (.tup [.int q.l, .int q.t, .int q.r, .int q.b])
theorem PtV.tk {H H' : Hp} {v : V} {q : Pt} (e : TK H H') (h : PtV H v q) : PtV H' v q := by
  obtain ⟨p, rfl, h⟩ := h
  exact ⟨p, rfl, e _ _ h⟩
theorem RcV.tk {H H' : Hp} {v : V} {q : Rc} (e : TK H H') (h : RcV H v q) : RcV H' v q := by
  obtain ⟨p, rfl, h⟩ := h
  exact ⟨p, rfl, e _ _ h⟩
abbrev RcsV (H : Hp) : List V → List Rc → Prop := Paired (RcV H)
abbrev PtsV (H : Hp) : List V → List Pt → Prop := Paired (PtV H)
theorem RcsV.tk {H H' : Hp} {vs : List V} {qs : List Rc} (e : TK H H') (h : RcsV H vs qs) : RcsV H' vs qs := Paired.mapP h fun _ _ => RcV.tk e
theorem PtsV.tk {H H' : Hp} {vs : List V} {qs : List Pt} (e : TK H H') (h : PtsV H vs qs) : PtsV H' vs qs := Paired.mapP h fun _ _ => PtV.tk e
theorem pr_get {α β : Type} {G : α → β → Prop} : ∀ {l₁ : List α} {l₂ : List β}, Paired G l₁ l₂ → ∀ {i : Nat} {a : α}, l₁[i]? = some a → ∃ b, l₂[i]? = some b ∧ G a b
  | _, _, .nil, i, a, h => by simp at h
  | _, _, .cons r t, 0, a, h => by
    simp at h
    subst h
    exact ⟨_, rfl, r⟩
  | _, _, .cons r t, i + 1, a, h => by
    obtain ⟨b, h1, h2⟩ := pr_get t (i := i) (a := a) (by simpa using h)
    exact ⟨b, by simpa using h1, h2⟩
theorem pr_getR {α β : Type} {G : α → β → Prop} : ∀ {l₁ : List α} {l₂ : List β}, Paired G l₁ l₂ → ∀ {i : Nat} {b : β}, l₂[i]? = some b → ∃ a, l₁[i]? = some a ∧ G a b
  | _, _, .nil, i, a, h => by simp at h
  | _, _, .cons r t, 0, a, h => by
    simp at h
    subst h
    exact ⟨_, rfl, r⟩
  | _, _, .cons r t, i + 1, a, h => by
    obtain ⟨b, h1, h2⟩ := pr_getR t (i := i) (b := a) (by simpa using h)
    exact ⟨b, by simpa using h1, h2⟩
theorem pr_append {α β : Type} {G : α → β → Prop} : ∀ {l₁ k₁ : List α} {l₂ k₂ : List β}, Paired G l₁ l₂ → Paired G k₁ k₂ → Paired G (l₁ ++ k₁) (l₂ ++ k₂)
  | _, _, _, _, .nil, h => h
  | _, _, _, _, .cons r t, h => .cons r (pr_append t h)
/-- an item of a list of rectangles at an index that lies in it -/
theorem pickR {H : Hp} {vs : List V} {qs : List Rc} (h : RcsV H vs qs) {i : Int} (h0 : 0 ≤ i) (h1 : i < vs.length) : ∃ p q, q ∈ qs ∧ atI vs i = some (.ref p) ∧ H p = some (.tup [.int q.l, .int q.t, .int q.r, .int q.b]) := by
  obtain ⟨m, rfl⟩ := Int.eq_ofNat_of_zero_le h0
  have hm : m < vs.length := by omega
  obtain ⟨q, hq, p, e, hp⟩ := pr_get h (List.getElem?_eq_getElem hm)
  exact ⟨p, q, List.mem_of_getElem? hq, by rw [← e]; exact atI_nat (List.getElem?_eq_getElem hm), hp⟩
/-- the bounds of drawn rectangles -/
def Small (m : Int) (q : Rc) : Prop := q.l < q.r ∧ q.t < q.b ∧ q.r - q.l ≤ 50 ∧ q.b - q.t ≤ 50 ∧ -m ≤ q.l ∧ q.r ≤ m ∧ -m ≤ q.t ∧ q.b ≤ m
theorem Small.mono {m n : Int} {q : Rc} (h : Small m q) (e : m ≤ n) : Small n q := by
  obtain ⟨a, b, c, d, e1, e2, e3, e4⟩ := h
  refine ⟨a, b, c, d, ?_, ?_, ?_, ?_⟩ <;> omega
theorem sline {n : Nat} (h : n ≤ 1000000) : n ≤ sizeLine := Nat.le_trans h (by decide)
theorem slineL {n : Nat} (h : n < 1000000) : n < sizeLine := Nat.lt_of_lt_of_le h (by decide)
end Od

namespace Od
open PySem L2 Evl

/-! ### a dict of points -/
def ptK (q : Pt) : List Key := [.inl q.1, .inl q.2]
def mkd (pts : List Pt) : List (List Key × V) := pts.map fun q => (ptK q, V.bl true)
theorem ptK_inj {a b : Pt} (h : ptK a = ptK b) : a = b := by
  unfold ptK at h
  injection h with h1 h2
  injection h2 with h2 _
  injection h1 with h1
  injection h2 with h2
  exact Prod.ext h1 h2
theorem ptK_dec (a b : Pt) : decide (ptK a = ptK b) = decide (a = b) := by
  by_cases e : a = b
  · rw [e, decide_eq_true rfl, decide_eq_true rfl]
  · rw [decide_eq_false e, decide_eq_false fun z => e (ptK_inj z)]
theorem mkd_any (pts : List Pt) (q : Pt) : ((mkd pts).any fun kv => decide (kv.1 = ptK q)) = decide (q ∈ pts) := by
  unfold mkd
  rw [List.any_map]
  induction pts with
  | nil => simp
  | cons p r ih =>
    rw [List.any_cons, ih]
    show (decide (ptK p = ptK q) || decide (q ∈ r)) = decide (q ∈ p :: r)
    rw [ptK_dec]
    by_cases h1 : p = q
    · simp [h1]
    · by_cases h2 : q ∈ r
      · simp [h2]
      · have : ¬ q = p := fun e => h1 e.symm
        simp [h1, h2, this]
theorem mkd_put (pts : List Pt) (q : Pt) : putK (mkd pts) (ptK q) (V.bl true) = mkd (if q ∈ pts then pts else pts ++ [q]) := by
  unfold putK
  rw [mkd_any]
  by_cases h : q ∈ pts
  · rw [if_pos h, decide_eq_true h, if_pos rfl]
    unfold mkd
    rw [List.map_map]
    refine List.map_congr_left fun p _ => ?_
    show (if ptK p = ptK q then (ptK p, V.bl true) else (ptK p, V.bl true)) = (ptK p, V.bl true)
    split <;> rfl
  · rw [if_neg h, decide_eq_false h, if_neg Bool.false_ne_true]
    unfold mkd
    rw [List.map_append]
    rfl
theorem mkd_val (pts : List Pt) (q : Pt) : (valV (mkd pts) (ptK q)).isSome = decide (q ∈ pts) := by
  rw [← valV_any, mkd_any]
def addP (pts : List Pt) (q : Pt) : List Pt := if q ∈ pts then pts else pts ++ [q]
theorem mem_addP {pts : List Pt} {q p : Pt} : p ∈ addP pts q ↔ p ∈ pts ∨ p = q := by
  unfold addP
  split
  · rename_i h
    constructor
    · exact .inl
    · rintro (h1 | rfl)
      · exact h1
      · exact h
  · simp
theorem nodup_addP {pts : List Pt} {q : Pt} (h : pts.Nodup) : (addP pts q).Nodup := by
  unfold addP
  split
  · exact h
  · rename_i hn
    rw [List.nodup_append]
    refine ⟨h, by simp, fun a ha b hb => ?_⟩
    rw [List.mem_singleton.mp hb]
    intro e
    rw [e] at ha
    exact hn ha
theorem len_addP (pts : List Pt) (q : Pt) : (addP pts q).length ≤ pts.length + 1 := by
  unfold addP
  split
  · omega
  · simp
theorem mkd_len (pts : List Pt) : (mkd pts).length = pts.length := by
  unfold mkd
  rw [List.length_map]
def inRc (q : Rc) (x y : Int) : Prop := q.l ≤ x ∧ x < q.r ∧ q.t ≤ y ∧ y < q.b
theorem mem_take_succ {α : Type} {l : List α} {i : Nat} {a x : α} (h : l[i]? = some a) : x ∈ l.take (i + 1) ↔ x ∈ l.take i ∨ x = a := by
  rw [List.take_add_one, h]
  simp
end Od

namespace Od

/-! ### runs -/
def RunsFrom : Int → List Pt → Prop
  | _, [] => True
  | b, q :: t => b < q.1 ∧ q.1 < q.2 ∧ RunsFrom q.2 t
def inRuns (rs : List Pt) (x : Int) : Prop := ∃ q ∈ rs, q.1 ≤ x ∧ x < q.2
theorem RunsFrom.mono {b c : Int} {rs : List Pt} (h : RunsFrom b rs) (e : c ≤ b) : RunsFrom c rs := by
  cases rs with
  | nil => trivial
  | cons q t => exact ⟨by have := h.1; omega, h.2.1, h.2.2⟩
theorem RunsFrom.lt {b : Int} : ∀ {rs : List Pt} {b : Int} {x : Int}, RunsFrom b rs → inRuns rs x → b < x
  | [], _, _, _, ⟨_, h, _⟩ => by simp at h
  | q :: t, b, x, h, ⟨p, hp, h1, h2⟩ => by
    rcases List.mem_cons.mp hp with rfl | hp
    · have := h.1
      omega
    · have := RunsFrom.lt (b := b) h.2.2 ⟨p, hp, h1, h2⟩
      have := h.1
      have := h.2.1
      omega
theorem inRuns_cons {q : Pt} {t : List Pt} {x : Int} : inRuns (q :: t) x ↔ (q.1 ≤ x ∧ x < q.2) ∨ inRuns t x := by
  constructor
  · rintro ⟨p, hp, h⟩
    rcases List.mem_cons.mp hp with rfl | hp
    · exact .inl h
    · exact .inr ⟨p, hp, h⟩
  · rintro (h | ⟨p, hp, h⟩)
    · exact ⟨q, by simp, h⟩
    · exact ⟨p, by simp [hp], h⟩
theorem inRuns_nil {x : Int} : ¬ inRuns [] x := fun ⟨_, h, _⟩ => by simp at h
theorem RunsFrom.some {b : Int} {q : Pt} {t : List Pt} (h : RunsFrom b (q :: t)) : inRuns (q :: t) q.1 := inRuns_cons.mpr (.inl ⟨by omega, h.2.1⟩)
theorem runs_uniq : ∀ {rs ss : List Pt} {b c : Int}, RunsFrom b rs → RunsFrom c ss → (∀ x, inRuns rs x ↔ inRuns ss x) → rs = ss
  | [], [], _, _, _, _, _ => rfl
  | [], q :: t, _, _, _, h, e => absurd ((e q.1).mpr h.some) inRuns_nil
  | q :: t, [], _, _, h, _, e => absurd ((e q.1).mp h.some) inRuns_nil
  | q :: t, p :: u, b, c, h, k, e => by
    have e1 : q.1 = p.1 := by
      have h1 := (e q.1).mp h.some
      have k1 := (e p.1).mpr k.some
      have h2 : p.1 ≤ q.1 := by
        rcases inRuns_cons.mp h1 with z | z
        · omega
        · have := RunsFrom.lt (b := b) k.2.2 z
          have := k.2.1
          omega
      have k2 : q.1 ≤ p.1 := by
        rcases inRuns_cons.mp k1 with z | z
        · omega
        · have := RunsFrom.lt (b := b) h.2.2 z
          have := h.2.1
          omega
      omega
    have hq := h.2.1
    have kp := k.2.1
    have e2 : q.2 = p.2 := by
      rcases Int.lt_trichotomy q.2 p.2 with z | z | z
      · exfalso
        have h1 : inRuns (p :: u) q.2 := inRuns_cons.mpr (.inl ⟨by omega, z⟩)
        rcases inRuns_cons.mp ((e q.2).mpr h1) with y | y
        · omega
        · have := RunsFrom.lt (b := b) h.2.2 y
          omega
      · exact z
      · exfalso
        have h1 : inRuns (q :: t) p.2 := inRuns_cons.mpr (.inl ⟨by omega, z⟩)
        rcases inRuns_cons.mp ((e p.2).mp h1) with y | y
        · omega
        · have := RunsFrom.lt (b := b) k.2.2 y
          omega
    have eq : q = p := Prod.ext e1 e2
    subst eq
    have et : t = u := runs_uniq h.2.2 k.2.2 fun x => by
      constructor
      · intro z
        have := RunsFrom.lt (b := b) h.2.2 z
        rcases inRuns_cons.mp ((e x).mp (inRuns_cons.mpr (.inr z))) with y | y
        · omega
        · exact y
      · intro z
        have := RunsFrom.lt (b := b) k.2.2 z
        rcases inRuns_cons.mp ((e x).mpr (inRuns_cons.mpr (.inr z))) with y | y
        · omega
        · exact y
    rw [et]
def RunsOk (rs : List Pt) : Prop := ∃ b, RunsFrom b rs

/-! ### bands -/
structure Bd where
  t : Int
  b : Int
  rs : List Pt
  deriving DecidableEq
def BandsFrom : Int → List Pt → List Bd → Prop
  | _, _, [] => True
  | y, prev, d :: t => y ≤ d.t ∧ (y = d.t → prev ≠ d.rs) ∧ d.t < d.b ∧ d.rs ≠ [] ∧ RunsOk d.rs ∧ BandsFrom d.b d.rs t
def inBands (bs : List Bd) (x y : Int) : Prop := ∃ d ∈ bs, d.t ≤ y ∧ y < d.b ∧ inRuns d.rs x
theorem inBands_nil {x y : Int} : ¬ inBands [] x y := fun ⟨_, h, _⟩ => by simp at h
theorem inBands_cons {d : Bd} {t : List Bd} {x y : Int} : inBands (d :: t) x y ↔ (d.t ≤ y ∧ y < d.b ∧ inRuns d.rs x) ∨ inBands t x y := by
  constructor
  · rintro ⟨p, hp, h⟩
    rcases List.mem_cons.mp hp with rfl | hp
    · exact .inl h
    · exact .inr ⟨p, hp, h⟩
  · rintro (h | ⟨p, hp, h⟩)
    · exact ⟨d, by simp, h⟩
    · exact ⟨p, by simp [hp], h⟩
theorem BandsFrom.le : ∀ {bs : List Bd} {y : Int} {p : List Pt} {x y' : Int}, BandsFrom y p bs → inBands bs x y' → y ≤ y'
  | [], _, _, _, _, _, h => absurd h inBands_nil
  | d :: t, y, p, x, y', h, k => by
    rcases inBands_cons.mp k with z | z
    · have := h.1
      omega
    · have := BandsFrom.le h.2.2.2.2.2 z
      have := h.1
      have := h.2.2.1
      omega
theorem BandsFrom.mono {bs : List Bd} {y y' : Int} (h : BandsFrom y [] bs) (e : y' ≤ y) : BandsFrom y' [] bs := by
  cases bs with
  | nil => trivial
  | cons d t => exact ⟨by have := h.1; omega, fun _ => fun z => h.2.2.2.1 z.symm, h.2.2⟩
/-- the rows of the first band, the rows behind it -/
theorem BandsFrom.row {d : Bd} {t : List Bd} {y : Int} {p : List Pt} (h : BandsFrom y p (d :: t)) {x y' : Int} (h1 : d.t ≤ y') (h2 : y' < d.b) : inBands (d :: t) x y' ↔ inRuns d.rs x := by
  rw [inBands_cons]
  constructor
  · rintro (z | z)
    · exact z.2.2
    · have := BandsFrom.le h.2.2.2.2.2 z
      omega
  · exact fun z => .inl ⟨h1, h2, z⟩
theorem BandsFrom.behind {d : Bd} {t : List Bd} {x y' : Int} (h2 : d.b ≤ y') : inBands (d :: t) x y' ↔ inBands t x y' := by
  rw [inBands_cons]
  constructor
  · rintro (z | z)
    · omega
    · exact z
  · exact .inr
theorem runs_some {rs : List Pt} (h : RunsOk rs) (n : rs ≠ []) : ∃ x, inRuns rs x := by
  obtain ⟨b, h⟩ := h
  cases rs with
  | nil => exact absurd rfl n
  | cons q t => exact ⟨_, h.some⟩
theorem runsOk_uniq {rs ss : List Pt} (h : RunsOk rs) (k : RunsOk ss) (e : ∀ x, inRuns rs x ↔ inRuns ss x) : rs = ss := by
  obtain ⟨b, h⟩ := h
  obtain ⟨c, k⟩ := k
  exact runs_uniq h k e
/-- a band can't end where another description of the same set goes on -/
theorem no_end {d c : Bd} {t u : List Bd} {y : Int} {p : List Pt} (h : BandsFrom y p (d :: t)) (k : BandsFrom y p (c :: u)) (e : ∀ x y', inBands (d :: t) x y' ↔ inBands (c :: u) x y') (et : d.t = c.t) (er : d.rs = c.rs) (hl : d.b < c.b) : False := by
  have hdb := h.2.2.1
  have row : ∀ x, inBands t x d.b ↔ inRuns c.rs x := fun x => by
    rw [← BandsFrom.behind (d := d) (t := t) (Int.le_refl _), e, k.row (by omega) hl]
  obtain ⟨x0, hx0⟩ := runs_some k.2.2.2.2.1 k.2.2.2.1
  cases t with
  | nil => exact inBands_nil ((row x0).mpr hx0)
  | cons d2 t2 =>
    have h2 := h.2.2.2.2.2
    have hle := h2.1
    by_cases z : d.b = d2.t
    · have er2 : d2.rs = c.rs := runsOk_uniq h2.2.2.2.2.1 k.2.2.2.2.1 fun x => by
        rw [← row x, h2.row (by omega) (by have := h2.2.2.1; omega)]
      exact h2.2.1 z (er.trans er2.symm)
    · have m := (row x0).mpr hx0
      have h3 : BandsFrom d2.t [] (d2 :: t2) := ⟨by omega, fun _ w => h2.2.2.2.1 w.symm, h2.2.2⟩
      have := BandsFrom.le h3 m
      omega
theorem bands_uniq : ∀ {bs cs : List Bd} {y : Int} {p : List Pt}, BandsFrom y p bs → BandsFrom y p cs → (∀ x y', inBands bs x y' ↔ inBands cs x y') → bs = cs
  | [], [], _, _, _, _, _ => rfl
  | [], c :: u, _, _, _, k, e => by
    obtain ⟨x0, hx0⟩ := runs_some k.2.2.2.2.1 k.2.2.2.1
    exact absurd ((e x0 c.t).mpr ((k.row (by omega) k.2.2.1).mpr hx0)) inBands_nil
  | d :: t, [], _, _, h, _, e => by
    obtain ⟨x0, hx0⟩ := runs_some h.2.2.2.2.1 h.2.2.2.1
    exact absurd ((e x0 d.t).mp ((h.row (by omega) h.2.2.1).mpr hx0)) inBands_nil
  | d :: t, c :: u, y, p, h, k, e => by
    have first : ∀ {d c : Bd} {t u : List Bd}, BandsFrom y p (d :: t) → BandsFrom y p (c :: u) → (∀ x y', inBands (d :: t) x y' ↔ inBands (c :: u) x y') → c.t ≤ d.t := by
      intro d c t u h k e
      obtain ⟨x0, hx0⟩ := runs_some h.2.2.2.2.1 h.2.2.2.1
      have m := (e x0 d.t).mp ((h.row (by omega) h.2.2.1).mpr hx0)
      have k2 : BandsFrom c.t [] (c :: u) := ⟨by omega, fun _ w => k.2.2.2.1 w.symm, k.2.2⟩
      exact BandsFrom.le k2 m
    have et : d.t = c.t := by
      have := first h k e
      have := first k h fun x y => (e x y).symm
      omega
    have er : d.rs = c.rs := runsOk_uniq h.2.2.2.2.1 k.2.2.2.2.1 fun x => by
      rw [← h.row (x := x) (y' := d.t) (by omega) h.2.2.1, e, k.row (by omega) (by have := k.2.2.1; omega)]
    have eb : d.b = c.b := by
      rcases Int.lt_trichotomy d.b c.b with z | z | z
      · exact (no_end h k e et er z).elim
      · exact z
      · exact (no_end k h (fun x y => (e x y).symm) et.symm er.symm z).elim
    have ed : d = c := by
      cases d
      cases c
      simp only at et er eb
      rw [et, er, eb]
    subst ed
    rw [bands_uniq h.2.2.2.2.2 k.2.2.2.2.2 fun x y' => ?_]
    by_cases z : d.b ≤ y'
    · rw [← BandsFrom.behind (d := d) (t := t) z, e, BandsFrom.behind z]
    · constructor
      · intro m
        have := BandsFrom.le h.2.2.2.2.2 m
        omega
      · intro m
        have := BandsFrom.le k.2.2.2.2.2 m
        omega

/-! ### the written form -/
def bandRc (d : Bd) : List Rc := d.rs.map fun q => ⟨q.1, d.t, q.2, d.b⟩
def formOf (bs : List Bd) : List Rc := bs.flatMap bandRc
def IsForm (S : Int → Int → Prop) (f : List Rc) : Prop := ∃ y bs, BandsFrom y [] bs ∧ (∀ x y', inBands bs x y' ↔ S x y') ∧ f = formOf bs
theorem form_uniq {S S' : Int → Int → Prop} {f g : List Rc} (h : IsForm S f) (k : IsForm S' g) (e : ∀ x y, S x y ↔ S' x y) : f = g := by
  obtain ⟨y, bs, h1, h2, rfl⟩ := h
  obtain ⟨z, cs, k1, k2, rfl⟩ := k
  rw [bands_uniq (h1.mono (Int.min_le_left y z)) (k1.mono (Int.min_le_right y z)) fun x y' => by rw [h2, k2, e]]
theorem mem_form {bs : List Bd} {x y : Int} : inBands bs x y ↔ ∃ q ∈ formOf bs, inRc q x y := by
  constructor
  · rintro ⟨d, hd, h1, h2, q, hq, h3, h4⟩
    exact ⟨⟨q.1, d.t, q.2, d.b⟩, List.mem_flatMap.mpr ⟨d, hd, List.mem_map.mpr ⟨q, hq, rfl⟩⟩, h3, h4, h1, h2⟩
  · rintro ⟨r, hr, h1, h2, h3, h4⟩
    obtain ⟨d, hd, hr⟩ := List.mem_flatMap.mp hr
    obtain ⟨q, hq, rfl⟩ := List.mem_map.mp hr
    exact ⟨d, hd, h3, h4, q, hq, h1, h2⟩
theorem IsForm.mem {S : Int → Int → Prop} {f : List Rc} (h : IsForm S f) (x y : Int) : S x y ↔ ∃ q ∈ f, inRc q x y := by
  obtain ⟨_, bs, _, h2, rfl⟩ := h
  rw [← h2, mem_form]
end Od

namespace Od
open PySem L2 Evl

/-! ### data: ints in tuples, in lists -/
def intD (ns : List Int) : PyData := .tuple (ns.map PyData.int)
def Eqs (α : Type) [DecidableEq α] (f : α → PyData) (d : Nat) : Prop := (∀ x y, PyData.eqv (f x) (f y) = decide (x = y)) ∧ (∀ x, (f x).canLay0 = true) ∧ ∀ x, (f x).depth ≤ d
theorem eqvAll_map {α : Type} [DecidableEq α] {f : α → PyData} (h : ∀ x y, PyData.eqv (f x) (f y) = decide (x = y)) : ∀ xs ys : List α, PyData.eqvAll (xs.map f) (ys.map f) = decide (xs = ys)
  | [], [] => by simp [PyData.eqvAll]
  | [], y :: ys => by simp [PyData.eqvAll]
  | x :: xs, [] => by simp [PyData.eqvAll]
  | x :: xs, y :: ys => by
    rw [List.map_cons, List.map_cons, PyData.eqvAll, h, eqvAll_map h xs ys]
    by_cases e : x = y <;> by_cases e2 : xs = ys <;> simp [e, e2]
theorem canLay_map {α : Type} {f : α → PyData} (h : ∀ x, (f x).canLay0 = true) : ∀ xs : List α, PyData.canLayAll0 (xs.map f) = true
  | [] => by simp [PyData.canLayAll0]
  | x :: xs => by
    rw [List.map_cons, PyData.canLayAll0, h, canLay_map h xs]
    rfl
theorem depth_map {α : Type} {f : α → PyData} {d : Nat} (h : ∀ x, (f x).depth ≤ d) : ∀ xs : List α, PyData.depthAll (xs.map f) ≤ d
  | [] => by simp [PyData.depthAll]
  | x :: xs => by
    rw [List.map_cons, PyData.depthAll]
    exact Nat.max_le.mpr ⟨h x, depth_map h xs⟩
theorem eqs_int : Eqs Int PyData.int 0 := ⟨fun x y => by rw [PyData.eqv]; by_cases e : x = y <;> simp [e], fun x => by simp [PyData.canLay0], fun x => by simp [PyData.depth]⟩
theorem Eqs.lst {α : Type} [DecidableEq α] {f : α → PyData} {d : Nat} (h : Eqs α f d) : Eqs (List α) (fun xs => .list (xs.map f)) (d + 1) :=
  ⟨fun x y => by rw [PyData.eqv, eqvAll_map h.1], fun x => by simp only [PyData.canLay0]; exact canLay_map h.2.1 x, fun x => by simp only [PyData.depth]; have := depth_map h.2.2 x; omega⟩
theorem Eqs.tup {α : Type} [DecidableEq α] {f : α → PyData} {d : Nat} (h : Eqs α f d) : Eqs (List α) (fun xs => .tuple (xs.map f)) (d + 1) :=
  ⟨fun x y => by rw [PyData.eqv, eqvAll_map h.1], fun x => by simp only [PyData.canLay0]; exact canLay_map h.2.1 x, fun x => by simp only [PyData.depth]; have := depth_map h.2.2 x; omega⟩
theorem Eqs.via {α β : Type} [DecidableEq α] [DecidableEq β] {f : α → PyData} {d : Nat} (h : Eqs α f d) (g : β → α) (inj : ∀ x y, g x = g y → x = y) : Eqs β (fun x => f (g x)) d :=
  ⟨fun x y => by
    rw [h.1]
    by_cases e : x = y
    · rw [e, decide_eq_true rfl, decide_eq_true rfl]
    · rw [decide_eq_false e, decide_eq_false fun z => e (inj _ _ z)], fun x => h.2.1 _, fun x => h.2.2 _⟩
theorem Eqs.shaped {α : Type} [DecidableEq α] {f : α → PyData} {d : Nat} (h : Eqs α f d) (hd : d ≤ 64) (x : α) : SeqAt.shaped (f x) = true := by
  unfold SeqAt.shaped
  rw [h.2.1 x, decide_eq_true (Nat.le_trans (h.2.2 x) hd)]
  rfl
def ptD (q : Pt) : PyData := intD [q.1, q.2]
def rcD (q : Rc) : PyData := intD [q.l, q.t, q.r, q.b]
theorem eqs_pt : Eqs Pt ptD 1 := eqs_int.tup.via (fun q : Pt => [q.1, q.2]) fun x y e => by
  injection e with e1 e2
  injection e2 with e2 _
  exact Prod.ext e1 e2
theorem eqs_rc : Eqs Rc rcD 1 := eqs_int.tup.via (fun q : Rc => [q.l, q.t, q.r, q.b]) fun x y e => by
  injection e with e1 e
  injection e with e2 e
  injection e with e3 e
  injection e with e4 _
  cases x
  cases y
  simp only at e1 e2 e3 e4
  rw [e1, e2, e3, e4]
def ptsD (qs : List Pt) : PyData := .list (qs.map ptD)
def rcsD (qs : List Rc) : PyData := .list (qs.map rcD)
theorem eqs_pts : Eqs (List Pt) ptsD 2 := eqs_pt.lst
theorem eqs_rcs : Eqs (List Rc) rcsD 2 := eqs_rc.lst
theorem dp_ints {K : PySem.W.Frag} {H : Hp} : ∀ ns : List Int, DpAll K H (ns.map V.int) (ns.map PyData.int)
  | [] => .nil
  | n :: ns => .cons (.int n) (dp_ints ns)
theorem dp_tup {K : PySem.W.Frag} {H : Hp} {a : Addr} {ns : List Int} (h : H a = some (.tup (ns.map V.int))) : Dp K H (.ref a) (intD ns) := .tup (SqT.of h) (dp_ints ns)
theorem PtV.dp {K : PySem.W.Frag} {H : Hp} {v : V} {q : Pt} (h : PtV H v q) : Dp K H v (ptD q) := by
  obtain ⟨p, rfl, h⟩ := h
  exact dp_tup (ns := [q.1, q.2]) h
theorem RcV.dp {K : PySem.W.Frag} {H : Hp} {v : V} {q : Rc} (h : RcV H v q) : Dp K H v (rcD q) := by
  obtain ⟨p, rfl, h⟩ := h
  exact dp_tup (ns := [q.l, q.t, q.r, q.b]) h
theorem dp_all {α : Type} {K : PySem.W.Frag} {H : Hp} {G : V → α → Prop} {f : α → PyData} (h : ∀ v x, G v x → Dp K H v (f x)) : ∀ {vs : List V} {xs : List α}, Paired G vs xs → DpAll K H vs (xs.map f)
  | _, _, .nil => .nil
  | _, _, .cons r t => .cons (h _ _ r) (dp_all h t)
theorem dp_pts {K : PySem.W.Frag} {H : Hp} {a : Addr} {us : List V} {qs : List Pt} (h : SqL K H a us) (r : PtsV H us qs) : Dp K H (.ref a) (ptsD qs) := .lst h (dp_all (fun _ _ z => PtV.dp z) r)
theorem dp_rcs {K : PySem.W.Frag} {H : Hp} {a : Addr} {us : List V} {qs : List Rc} (h : SqL K H a us) (r : RcsV H us qs) : Dp K H (.ref a) (rcsD qs) := .lst h (dp_all (fun _ _ z => RcV.dp z) r)

/-! ### walking a dict with tuple keys -/
theorem ex_unlock {H H' : Hp} {d : Addr} {od : Obj} {u : HO} (h : H d = some u) (e : Ex (upd H d (.frz od u)) H') : Ex H (upd H' d u) := fun b o hb => by
  by_cases z : b = d
  · rw [z] at hb ⊢
    rw [h] at hb
    rw [upd_same]
    exact hb
  · rw [upd_ne z]
    exact e b o (by rw [upd_ne z]; exact hb)
theorem lc_keysT {d : Addr} {o : Obj} {kvs : List (List Key × V)} {g : TG} {tt : TT} {te : TE} {vs : List Nat} {σ : L2.St} {H1 : Hp} {D : Addr} {Qd : Hp → Prop} (Pv : Nat → Hp → Prop) (h0 : Pv 0 (upd H1 D (.lst []))) (hl : ∀ i H, i ≤ kvs.length → Pv i H → H d = some (.frz o (.dT kvs)))
    (hs : ∀ i k v q H, kvs[i]? = some (k, v) → H q = some (.tup (k.map kV)) → Pv i H → g (.ref q) (wipe σ vs) H fun σ2 H2 => wipe σ2 vs = wipe σ vs ∧ tt σ2 H2 fun b H3 =>
      if b = true then te σ2 H3 fun y H4 => ∃ acc, H4 D = some (.lst acc) ∧ acc.length < sizeLine ∧ Pv (i + 1) (upd H4 D (.lst (acc ++ [y]))) else Pv (i + 1) H3) (hd : ∀ H, Pv kvs.length H → Qd H) :
    ∃ Wk : Nat → Nat → Hp → Prop, (∃ n, Wk 0 n (upd H1 D (.lst []))) ∧ ∀ i n G, Wk i n G →
      ((Itkt d o kvs).stop i G ∧ Qd G) ∨ ((Itkt d o kvs).go i G ∧ ∃ Go : Hp → Prop, (∀ G', Go G' → ∃ n', n' < n ∧ Wk (i + 1) n' G') ∧ ∀ x G', (Itkt d o kvs).yld i G x G' → g x (wipe σ vs) G' fun σ2 G2 => wipe σ2 vs = wipe σ vs ∧ tt σ2 G2 fun b G3 =>
        if b = true then te σ2 G3 fun y G4 => ∃ made, G4 D = some (.lst made) ∧ made.length < sizeLine ∧ Go (upd G4 D (.lst (made ++ [y]))) else Go G3) := by
  refine ⟨fun i m H => m = kvs.length - i ∧ i ≤ kvs.length ∧ Pv i H, ⟨kvs.length, by simp, Nat.zero_le _, h0⟩, ?_⟩
  rintro i m H ⟨rfl, hi, p⟩
  have q := hl i H hi p
  by_cases hlt : i < kvs.length
  · refine .inr ⟨⟨q, hlt⟩, Pv (i + 1), fun H' p' => ⟨kvs.length - (i + 1), by omega, rfl, hlt, p'⟩, fun x H' y => ?_⟩
    obtain ⟨e, k, v, qa, e1, e2, e3⟩ := y
    subst e e2
    exact hs i k v qa _ e1 e3 p
  · have e : i = kvs.length := by omega
    subst e
    exact .inl ⟨⟨q, Nat.le_refl _⟩, hd H p⟩
theorem for_keysT {d : Addr} {o : Obj} {kvs : List (List Key × V)} {g : TG} {tb : TS} {D : Ends} {σ : L2.St} {H : Hp} (Pv : Nat → L2.St → Hp → Prop) (h0 : Pv 0 σ H) (hl : ∀ i σ H, i ≤ kvs.length → Pv i σ H → H d = some (.frz o (.dT kvs)))
    (hs : ∀ i k v q σ H, kvs[i]? = some (k, v) → H q = some (.tup (k.map kV)) → Pv i σ H → g (.ref q) σ H fun σ2 H2 => tb { D with nx := Pv (i + 1), ct := Pv (i + 1), bk := D.nx } σ2 H2) (hd : ∀ σ H, Pv kvs.length σ H → D.nx σ H) :
    ∃ Wk : Nat → Nat → L2.St → Hp → Prop, (∃ n, Wk 0 n σ H) ∧ ∀ i n τ G, Wk i n τ G →
      ((Itkt d o kvs).stop i G ∧ D.nx τ G) ∨ ((Itkt d o kvs).go i G ∧ ∃ Go : L2.St → Hp → Prop, (∀ τ' G', Go τ' G' → ∃ n', n' < n ∧ Wk (i + 1) n' τ' G') ∧ ∀ x G', (Itkt d o kvs).yld i G x G' → g x τ G' fun τ2 G2 => tb { D with nx := Go, ct := Go, bk := D.nx } τ2 G2) := by
  refine ⟨fun i m σ H => m = kvs.length - i ∧ i ≤ kvs.length ∧ Pv i σ H, ⟨kvs.length, by simp, Nat.zero_le _, h0⟩, ?_⟩
  rintro i m σ H ⟨rfl, hi, p⟩
  have q := hl i σ H hi p
  by_cases hlt : i < kvs.length
  · refine .inr ⟨⟨q, hlt⟩, Pv (i + 1), fun σ' H' p' => ⟨kvs.length - (i + 1), by omega, rfl, hlt, p'⟩, fun x H' y => ?_⟩
    obtain ⟨e, k, v, qa, e1, e2, e3⟩ := y
    subst e e2
    exact hs i k v qa σ _ e1 e3 p
  · have e : i = kvs.length := by omega
    subst e
    exact .inl ⟨⟨q, Nat.le_refl _⟩, hd σ H p⟩
theorem mkd_get {pts : List Pt} {i : Nat} {k : List Key} {v : V} (h : (mkd pts)[i]? = some (k, v)) : ∃ q, pts[i]? = some q ∧ k = ptK q := by
  unfold mkd at h
  rw [List.getElem?_map] at h
  cases e : pts[i]? with
  | none =>
    rw [e] at h
    cases h
  | some q =>
    rw [e] at h
    cases h
    exact ⟨q, rfl, rfl⟩

/-! ### runs from the ascending ints of a row -/
theorem runs_snoc : ∀ {rs : List Pt} {b x : Int}, RunsFrom b rs → (∀ q ∈ rs, q.2 < x) → b < x → RunsFrom b (rs ++ [(x, x + 1)])
  | [], b, x, _, _, h => ⟨h, by show x < x + 1; omega, trivial⟩
  | q :: t, b, x, h, k, _ => ⟨h.1, h.2.1, runs_snoc h.2.2 (fun p hp => k p (by simp [hp])) (k q (by simp))⟩
theorem runs_ext : ∀ {rs : List Pt} {b l r r' : Int}, RunsFrom b (rs ++ [(l, r)]) → r ≤ r' → RunsFrom b (rs ++ [(l, r')])
  | [], b, l, r, r', h, k => ⟨h.1, by have h2 : l < r := h.2.1; show l < r'; omega, trivial⟩
  | q :: t, b, l, r, r', h, k => ⟨h.1, h.2.1, runs_ext h.2.2 k⟩
theorem RunsOk.nil : RunsOk [] := ⟨0, trivial⟩
theorem runsOk_snoc {rs : List Pt} {x : Int} (h : RunsOk rs) (k : ∀ q ∈ rs, q.2 < x) : RunsOk (rs ++ [(x, x + 1)]) := by
  obtain ⟨b, h⟩ := h
  cases rs with
  | nil => exact ⟨x - 1, by omega, by show x < x + 1; omega, trivial⟩
  | cons q t =>
    refine ⟨b, runs_snoc h k ?_⟩
    have h1 : b < q.1 := h.1
    have h2 : q.1 < q.2 := h.2.1
    have h3 := k q (by simp)
    omega
theorem inRuns_app {rs ss : List Pt} {x : Int} : inRuns (rs ++ ss) x ↔ inRuns rs x ∨ inRuns ss x := by
  unfold inRuns
  constructor
  · rintro ⟨q, hq, h⟩
    rcases List.mem_append.mp hq with z | z
    · exact .inl ⟨q, z, h⟩
    · exact .inr ⟨q, z, h⟩
  · rintro (⟨q, hq, h⟩ | ⟨q, hq, h⟩)
    · exact ⟨q, List.mem_append.mpr (.inl hq), h⟩
    · exact ⟨q, List.mem_append.mpr (.inr hq), h⟩
theorem inRuns_one {l r x : Int} : inRuns [(l, r)] x ↔ l ≤ x ∧ x < r := by
  rw [inRuns_cons]
  constructor
  · rintro (h | h)
    · exact h
    · exact absurd h inRuns_nil
  · exact .inl
theorem RunsFrom.wide : ∀ {rs : List Pt} {b : Int}, RunsFrom b rs → ∀ q ∈ rs, q.1 < q.2
  | [], _, _, q, h => by simp at h
  | p :: t, b, h, q, hq => by
    rcases List.mem_cons.mp hq with rfl | hq
    · exact h.2.1
    · exact RunsFrom.wide h.2.2 q hq
/-- what a row's runs say of the ends -/
theorem ends_le {rs : List Pt} {pre : List Int} {x : Int} (h : RunsOk rs) (m : ∀ z, inRuns rs z ↔ z ∈ pre) (k : ∀ z ∈ pre, z < x) : ∀ q ∈ rs, q.2 ≤ x := by
  intro q hq
  obtain ⟨b, h⟩ := h
  have w := h.wide q hq
  have := k (q.2 - 1) ((m _).mp ⟨q, hq, by omega, by omega⟩)
  omega
end Od

namespace Od
open PySem L2 Evl

/-! ### a dict whose keys are ints -/
def mki (ys : List Int) : List (Key × V) := ys.map fun y => (Sum.inl y, V.bl true)
theorem mki_any (ys : List Int) (y : Int) : ((mki ys).any fun kv => decide (kv.1 = Sum.inl y)) = decide (y ∈ ys) := by
  unfold mki
  rw [List.any_map]
  induction ys with
  | nil => simp
  | cons p r ih =>
    rw [List.any_cons, ih]
    show (decide ((Sum.inl p : Key) = Sum.inl y) || decide (y ∈ r)) = decide (y ∈ p :: r)
    by_cases h1 : p = y
    · simp [h1]
    · have h3 : ¬ (Sum.inl p : Key) = Sum.inl y := fun e => h1 (Sum.inl.inj e)
      have : ¬ y = p := fun e => h1 e.symm
      simp [h1, this]
def addI (ys : List Int) (y : Int) : List Int := if y ∈ ys then ys else ys ++ [y]
theorem mki_put (ys : List Int) (y : Int) : putK (mki ys) (Sum.inl y) (V.bl true) = mki (addI ys y) := by
  unfold putK addI
  rw [mki_any]
  by_cases h : y ∈ ys
  · rw [if_pos h, decide_eq_true h, if_pos rfl]
    unfold mki
    rw [List.map_map]
    refine List.map_congr_left fun p _ => ?_
    show (if (Sum.inl p : Key) = Sum.inl y then ((Sum.inl p : Key), V.bl true) else (Sum.inl p, V.bl true)) = (Sum.inl p, V.bl true)
    split <;> rfl
  · rw [if_neg h, decide_eq_false h, if_neg Bool.false_ne_true]
    unfold mki
    rw [List.map_append]
    rfl
theorem mem_addI {ys : List Int} {y z : Int} : z ∈ addI ys y ↔ z ∈ ys ∨ z = y := by
  unfold addI
  split
  · rename_i h
    constructor
    · exact .inl
    · rintro (h1 | rfl)
      · exact h1
      · exact h
  · simp
theorem nodup_addI {ys : List Int} {y : Int} (h : ys.Nodup) : (addI ys y).Nodup := by
  unfold addI
  split
  · exact h
  · rename_i hn
    rw [List.nodup_append]
    refine ⟨h, by simp, fun a ha b hb => ?_⟩
    rw [List.mem_singleton.mp hb]
    intro e
    rw [e] at ha
    exact hn ha
theorem len_addI (ys : List Int) (y : Int) : (addI ys y).length ≤ ys.length + 1 := by
  unfold addI
  split
  · omega
  · simp
theorem mki_len (ys : List Int) : (mki ys).length = ys.length := by
  unfold mki
  rw [List.length_map]
theorem mki_keys (ys : List Int) : (mki ys).map (fun kv => kV kv.1) = ys.map V.int := by
  unfold mki
  rw [List.map_map]
  rfl

/-! ### how many runs there are -/
theorem sum_zero {α : Type} (f : α → Nat) : ∀ l : List α, (∀ x ∈ l, f x = 0) → (l.map f).sum = 0
  | [], _ => rfl
  | x :: l, h => by
    rw [List.map_cons, List.sum_cons, h x (by simp), sum_zero f l fun y hy => h y (by simp [hy])]
theorem ones_le : ∀ {ys : List Int} (a : Int), ys.Nodup → (ys.map fun y => if a == y then 1 else 0).sum ≤ 1
  | [], _, _ => by simp
  | y :: ys, a, h => by
    rw [List.map_cons, List.sum_cons]
    rw [List.nodup_cons] at h
    by_cases e : a = y
    · have z : (ys.map fun y => if a == y then 1 else 0).sum = 0 := by
        refine sum_zero _ _ fun w hw => ?_
        have : ¬ a = w := fun e2 => h.1 (by rw [← e, e2]; exact hw)
        simp [this]
      rw [z]
      simp [e]
    · have := ones_le a h.2
      simp [e]
      simpa using this
theorem sum_add {α : Type} (f g : α → Nat) : ∀ l : List α, (l.map fun x => f x + g x).sum = (l.map f).sum + (l.map g).sum
  | [] => rfl
  | x :: l => by
    rw [List.map_cons, List.map_cons, List.map_cons, List.sum_cons, List.sum_cons, List.sum_cons, sum_add f g l]
    omega
theorem sum_rows {ys : List Int} (h : ys.Nodup) : ∀ pts : List Pt, (ys.map fun y => (pts.filter fun z => z.2 == y).length).sum ≤ pts.length
  | [] => by
    rw [sum_zero (fun y => (List.filter (fun z : Pt => z.snd == y) []).length) ys fun w _ => rfl]
    simp
  | p :: ps => by
    have ih := sum_rows h ps
    have o := ones_le p.2 h
    have e : (ys.map fun y => ((p :: ps).filter fun z => z.2 == y).length) = ys.map fun y => (if p.2 == y then 1 else 0) + (ps.filter fun z => z.2 == y).length := by
      refine List.map_congr_left fun y _ => ?_
      rw [List.filter_cons]
      split <;> simp <;> omega
    rw [e, sum_add, List.length_cons]
    omega
theorem sum_take {ys : List Int} (f : Int → Nat) : ∀ (i : Nat), ((ys.take i).map f).sum ≤ (ys.map f).sum := fun i => by
  have := List.take_append_drop i ys
  have e : ys.map f = (ys.take i).map f ++ (ys.drop i).map f := by rw [← List.map_append, this]
  rw [e, List.sum_append]
  omega

/-! ### bands, one row more -/
def BandsOk (bs : List Bd) : Prop := ∃ y, BandsFrom y [] bs
theorem bands_snoc : ∀ {bs : List Bd} {y0 : Int} {p : List Pt} {y : Int} {rs : List Pt}, BandsFrom y0 p bs → (∀ d, bs.getLast? = some d → d.b ≤ y ∧ (d.b = y → d.rs ≠ rs)) → (bs = [] → y0 ≤ y ∧ (y0 = y → p ≠ rs)) → rs ≠ [] → RunsOk rs →
    BandsFrom y0 p (bs ++ [⟨y, y + 1, rs⟩])
  | [], y0, p, y, rs, _, _, h3, h4, h5 => ⟨(h3 rfl).1, (h3 rfl).2, by show y < y + 1; omega, h4, h5, trivial⟩
  | [d], y0, p, y, rs, h, h2, _, h4, h5 => by
    have k := h2 d rfl
    exact ⟨h.1, h.2.1, h.2.2.1, h.2.2.2.1, h.2.2.2.2.1, k.1, k.2, by show y < y + 1; omega, h4, h5, trivial⟩
  | d :: d2 :: t, y0, p, y, rs, h, h2, _, h4, h5 => by
    have ih := bands_snoc (bs := d2 :: t) (y := y) (rs := rs) h.2.2.2.2.2 (fun e he => h2 e (by rw [List.getLast?_cons_cons]; exact he)) (fun e => by cases e) h4 h5
    exact ⟨h.1, h.2.1, h.2.2.1, h.2.2.2.1, h.2.2.2.2.1, ih⟩
theorem bands_ext : ∀ {bs : List Bd} {y0 : Int} {p : List Pt} {d : Bd} {b : Int}, BandsFrom y0 p (bs ++ [d]) → d.b ≤ b → BandsFrom y0 p (bs ++ [⟨d.t, b, d.rs⟩])
  | [], y0, p, d, b, h, k => ⟨h.1, h.2.1, by have := h.2.2.1; show d.t < b; omega, h.2.2.2.1, h.2.2.2.2.1, trivial⟩
  | c :: t, y0, p, d, b, h, k => ⟨h.1, h.2.1, h.2.2.1, h.2.2.2.1, h.2.2.2.2.1, bands_ext h.2.2.2.2.2 k⟩
theorem BandsFrom.each : ∀ {bs : List Bd} {y0 : Int} {p : List Pt}, BandsFrom y0 p bs → ∀ d ∈ bs, d.t < d.b ∧ d.rs ≠ [] ∧ RunsOk d.rs
  | [], _, _, _, d, h => by simp at h
  | c :: t, y0, p, h, d, hd => by
    rcases List.mem_cons.mp hd with rfl | hd
    · exact ⟨h.2.2.1, h.2.2.2.1, h.2.2.2.2.1⟩
    · exact BandsFrom.each h.2.2.2.2.2 d hd
theorem inBands_app {bs cs : List Bd} {x y : Int} : inBands (bs ++ cs) x y ↔ inBands bs x y ∨ inBands cs x y := by
  unfold inBands
  constructor
  · rintro ⟨q, hq, h⟩
    rcases List.mem_append.mp hq with z | z
    · exact .inl ⟨q, z, h⟩
    · exact .inr ⟨q, z, h⟩
  · rintro (⟨q, hq, h⟩ | ⟨q, hq, h⟩)
    · exact ⟨q, List.mem_append.mpr (.inl hq), h⟩
    · exact ⟨q, List.mem_append.mpr (.inr hq), h⟩
theorem inBands_one {d : Bd} {x y : Int} : inBands [d] x y ↔ d.t ≤ y ∧ y < d.b ∧ inRuns d.rs x := by
  rw [inBands_cons]
  constructor
  · rintro (h | h)
    · exact h
    · exact absurd h inBands_nil
  · exact .inl
theorem formOf_app (bs cs : List Bd) : formOf (bs ++ cs) = formOf bs ++ formOf cs := by
  unfold formOf
  rw [List.flatMap_append]
theorem formOf_one (d : Bd) : formOf [d] = bandRc d := by
  unfold formOf
  simp
theorem bandRc_len (d : Bd) : (bandRc d).length = d.rs.length := by
  unfold bandRc
  rw [List.length_map]

/-! ### bands in the heap; pb: the list that holds them -/
def BdV (pb : Addr) (H : Hp) (v : V) (d : Bd) : Prop := ∃ q r us, v = .ref q ∧ q ≠ pb ∧ r ≠ pb ∧ H q = some (.tup [.int d.t, .int d.b, .ref r]) ∧ H r = some (.lst us) ∧ PtsV H us d.rs
def Xb (pb : Addr) (H H' : Hp) : Prop := ∀ a o, a ≠ pb → H a = some o → H' a = some o
theorem BdV.to {pb : Addr} {H H' : Hp} {v : V} {d : Bd} (k : TK H H') (x : Xb pb H H') (h : BdV pb H v d) : BdV pb H' v d := by
  obtain ⟨q, r, us, rfl, nq, nr, h1, h2, h3⟩ := h
  exact ⟨q, r, us, rfl, nq, nr, x _ _ nq h1, x _ _ nr h2, h3.tk k⟩
theorem Xb.ex {pb : Addr} {H H' : Hp} (e : Ex H H') : Xb pb H H' := fun a o _ h => e a o h
theorem Xb.upd {pb : Addr} {H : Hp} {o : HO} : Xb pb H (upd H pb o) := fun a u n h => by rw [upd_ne n]; exact h
theorem Xb.trans {pb : Addr} {H H1 H2 : Hp} (a : Xb pb H H1) (b : Xb pb H1 H2) : Xb pb H H2 := fun x o n h => b x o n (a x o n h)
theorem pr_split {α β : Type} {G : α → β → Prop} : ∀ {l₁ : List α} {l₂ : List β} {a : α} {b : β}, Paired G (l₁ ++ [a]) (l₂ ++ [b]) → Paired G l₁ l₂ ∧ G a b
  | [], [], _, _, .cons h .nil => ⟨.nil, h⟩
  | [], [_], _, _, .cons _ t => nomatch t
  | [], _ :: _ :: _, _, _, .cons _ t => nomatch t
  | [_], [], _, _, .cons _ t => nomatch t
  | _ :: _ :: _, [], _, _, .cons _ t => nomatch t
  | c :: t, c2 :: t2, _, _, .cons h1 h2 => by
    have ih := pr_split (l₁ := t) (l₂ := t2) h2
    exact ⟨.cons h1 ih.1, ih.2⟩
theorem ixN_last (n : Nat) : ixN (n + 1) (-1) = some n := by
  unfold ixN
  rw [if_neg (by decide), if_pos (by omega)]
  congr 1
  omega
/-! ### points told as a dict's keys or as a list's items -/
def SrcAt (K : PySem.W.Frag) (H : Hp) (d : Addr) (pts : List Pt) : Prop := H d = some (.dT (mkd pts)) ∨ ∃ us, SqL K H d us ∧ PtsV H us pts
theorem SrcAt.mono {K : PySem.W.Frag} {H H' : Hp} {d : Addr} {pts : List Pt} (e : Ex H H') (h : SrcAt K H d pts) : SrcAt K H' d pts := by
  rcases h with h | ⟨us, h1, h2⟩
  · exact .inl (e _ _ h)
  · exact .inr ⟨us, ex_l e h1, h2.tk (TK.ex e)⟩
end Od

namespace Od
open PySem L2 Evl

/-! ### data that the heap bears -/
mutual
inductive Da (H : Hp) : V → PyData → Prop
  | non : Da H .non .none
  | bl (b : Bool) : Da H (.bl b) (.bool b)
  | int (i : Int) : Da H (.int i) (.int i)
  | str (x : Str) : Da H (.str x) (.str x)
  | lst {a : Addr} {xs : List V} {ds : List PyData} : H a = some (.lst xs) → DaAll H xs ds → ds.length ≤ 1000000 → Da H (.ref a) (.list ds)
  | tup {a : Addr} {xs : List V} {ds : List PyData} : H a = some (.tup xs) → DaAll H xs ds → ds.length ≤ 1000000 → Da H (.ref a) (.tuple ds)
inductive DaAll (H : Hp) : List V → List PyData → Prop
  | nil : DaAll H [] []
  | cons {v : V} {vs : List V} {d : PyData} {ds : List PyData} : Da H v d → DaAll H vs ds → DaAll H (v :: vs) (d :: ds)
end
mutual
theorem Da.mono {H H' : Hp} (e : Ex H H') : ∀ {v : V} {d : PyData}, Da H v d → Da H' v d
  | _, _, .non => .non
  | _, _, .bl b => .bl b
  | _, _, .int i => .int i
  | _, _, .str x => .str x
  | _, _, .lst h k l => .lst (e _ _ h) (DaAll.mono e k) l
  | _, _, .tup h k l => .tup (e _ _ h) (DaAll.mono e k) l
theorem DaAll.mono {H H' : Hp} (e : Ex H H') : ∀ {vs : List V} {ds : List PyData}, DaAll H vs ds → DaAll H' vs ds
  | _, _, .nil => .nil
  | _, _, .cons h k => .cons (Da.mono e h) (DaAll.mono e k)
end
mutual
theorem Da.dp {K : PySem.W.Frag} {H : Hp} : ∀ {v : V} {d : PyData}, Da H v d → Dp K H v d
  | _, _, .non => .non
  | _, _, .bl b => .bl b
  | _, _, .int i => .int i
  | _, _, .str x => .str x
  | _, _, .lst h k _ => .lst (SqL.of h) (DaAll.dp k)
  | _, _, .tup h k _ => .tup (SqT.of h) (DaAll.dp k)
theorem DaAll.dp {K : PySem.W.Frag} {H : Hp} : ∀ {vs : List V} {ds : List PyData}, DaAll H vs ds → DpAll K H vs ds
  | _, _, .nil => .nil
  | _, _, .cons h k => .cons (Da.dp h) (DaAll.dp k)
end
theorem DaAll.length {H : Hp} : ∀ {vs : List V} {ds : List PyData}, DaAll H vs ds → vs.length = ds.length
  | _, _, .nil => rfl
  | _, _, .cons _ k => by rw [List.length_cons, List.length_cons, DaAll.length k]
theorem DaAll.get {H : Hp} : ∀ {vs : List V} {ds : List PyData} {i : Nat} {d : PyData}, DaAll H vs ds → ds[i]? = some d → ∃ v, vs[i]? = some v ∧ Da H v d
  | _, _, _, _, .nil, e => by simp at e
  | _, _, 0, d, .cons h k, e => by
    simp at e
    subst e
    exact ⟨_, rfl, h⟩
  | _, _, i + 1, d, .cons h k, e => by
    obtain ⟨v, h1, h2⟩ := DaAll.get (i := i) (d := d) k (by simpa using e)
    exact ⟨v, by simpa using h1, h2⟩
theorem da_ints {H : Hp} : ∀ ns : List Int, DaAll H (ns.map V.int) (ns.map PyData.int)
  | [] => .nil
  | n :: ns => .cons (.int n) (da_ints ns)
theorem PtV.da {H : Hp} {v : V} {q : Pt} (h : PtV H v q) : Da H v (ptD q) := by
  obtain ⟨p, rfl, h⟩ := h
  exact .tup h (da_ints [q.1, q.2]) (by simp)
theorem RcV.da {H : Hp} {v : V} {q : Rc} (h : RcV H v q) : Da H v (rcD q) := by
  obtain ⟨p, rfl, h⟩ := h
  exact .tup h (da_ints [q.l, q.t, q.r, q.b]) (by simp)
theorem da_all {α : Type} {H : Hp} {G : V → α → Prop} {f : α → PyData} (h : ∀ v x, G v x → Da H v (f x)) : ∀ {vs : List V} {xs : List α}, Paired G vs xs → DaAll H vs (xs.map f)
  | _, _, .nil => .nil
  | _, _, .cons r t => .cons (h _ _ r) (da_all h t)
theorem da_pts {H : Hp} {a : Addr} {us : List V} {qs : List Pt} (h : H a = some (.lst us)) (r : PtsV H us qs) (hl : qs.length ≤ 1000000) : Da H (.ref a) (ptsD qs) := .lst h (da_all (fun _ _ z => PtV.da z) r) (by rw [List.length_map]; exact hl)
theorem da_rcs {H : Hp} {a : Addr} {us : List V} {qs : List Rc} (h : H a = some (.lst us)) (r : RcsV H us qs) (hl : qs.length ≤ 1000000) : Da H (.ref a) (rcsD qs) := .lst h (da_all (fun _ _ z => RcV.da z) r) (by rw [List.length_map]; exact hl)
theorem depth_mem {d : PyData} : ∀ {ds : List PyData} {i : Nat}, ds[i]? = some d → d.depth ≤ PyData.depthAll ds
  | [], i, h => by simp at h
  | x :: xs, 0, h => by
    simp at h
    subst h
    rw [PyData.depthAll]
    exact Nat.le_max_left _ _
  | x :: xs, i + 1, h => by
    have := depth_mem (d := d) (ds := xs) (i := i) (by simpa using h)
    rw [PyData.depthAll]
    exact Nat.le_trans this (Nat.le_max_right _ _)
theorem lay_mem {d : PyData} : ∀ {ds : List PyData} {i : Nat}, PyData.canLayAll0 ds = true → ds[i]? = some d → d.canLay0 = true
  | [], i, _, h => by simp at h
  | x :: xs, 0, k, h => by
    simp at h
    subst h
    rw [PyData.canLayAll0, Bool.and_eq_true] at k
    exact k.1
  | x :: xs, i + 1, k, h => by
    rw [PyData.canLayAll0, Bool.and_eq_true] at k
    exact lay_mem (d := d) (ds := xs) (i := i) k.2 (by simpa using h)
theorem eqv_self {d : PyData} (h : d.canLay0 = true) : PyData.eqv d d = true := PySem.SeqAt.eqv_refl d h
theorem Da.kinds {H : Hp} {v w : V} {d : PyData} (hv : Da H v d) (hw : Da H w d) : (∃ t, Kn H v t ∧ Kn H w t ∧ isA t "tuple" = false ∧ isA t "list" = false) ∨
    ∃ ds av aw xs ys T, v = .ref av ∧ w = .ref aw ∧ DaAll H xs ds ∧ DaAll H ys ds ∧ ds.length ≤ 1000000 ∧ Kn H v T ∧ Kn H w T ∧ (T = "list" ∧ H av = some (.lst xs) ∧ H aw = some (.lst ys) ∧ d = .list ds ∨ T = "tuple" ∧ H av = some (.tup xs) ∧ H aw = some (.tup ys) ∧ d = .tuple ds) := by
  cases hv with
  | non => cases hw; exact .inl ⟨_, .non, .non, by decide +kernel, by decide +kernel⟩
  | bl b => cases hw; exact .inl ⟨_, .bl b, .bl b, by decide +kernel, by decide +kernel⟩
  | int b => cases hw; exact .inl ⟨_, .int b, .int b, by decide +kernel, by decide +kernel⟩
  | str b => cases hw; exact .inl ⟨_, .str b, .str b, by decide +kernel, by decide +kernel⟩
  | lst h k l =>
    cases hw with
    | lst h' k' l' => exact .inr ⟨_, _, _, _, _, _, rfl, rfl, k, k', l, .lst h, .lst h', .inl ⟨rfl, h, h', rfl⟩⟩
  | tup h k l =>
    cases hw with
    | tup h' k' l' => exact .inr ⟨_, _, _, _, _, _, rfl, rfl, k, k', l, .tup h, .tup h', .inr ⟨rfl, h, h', rfl⟩⟩
end Od

namespace Od
open PySem L2 Evl

/-! ### a set moved -/
def mvP (dx : Int) (q : Pt) : Pt := (q.1 + dx, q.2 + dx)
def mvB (dx dy : Int) (d : Bd) : Bd := ⟨d.t + dy, d.b + dy, d.rs.map (mvP dx)⟩
def mvR (dx dy : Int) (q : Rc) : Rc := ⟨q.l + dx, q.t + dy, q.r + dx, q.b + dy⟩
theorem mvP_inj {dx : Int} {a b : Pt} (h : mvP dx a = mvP dx b) : a = b := by
  unfold mvP at h
  injection h with h1 h2
  exact Prod.ext (by omega) (by omega)
theorem map_mvP_inj {dx : Int} : ∀ {rs ss : List Pt}, rs.map (mvP dx) = ss.map (mvP dx) → rs = ss
  | [], [], _ => rfl
  | [], _ :: _, h => by simp at h
  | _ :: _, [], h => by simp at h
  | a :: rs, b :: ss, h => by
    rw [List.map_cons, List.map_cons] at h
    injection h with h1 h2
    rw [mvP_inj h1, map_mvP_inj h2]
theorem runs_mv {dx : Int} : ∀ {rs : List Pt} {b : Int}, RunsFrom b rs → RunsFrom (b + dx) (rs.map (mvP dx))
  | [], _, _ => trivial
  | q :: t, b, h => ⟨by have := h.1; show b + dx < q.1 + dx; omega, by have := h.2.1; show q.1 + dx < q.2 + dx; omega, runs_mv h.2.2⟩
theorem inRuns_mv {dx : Int} {rs : List Pt} {x : Int} : inRuns (rs.map (mvP dx)) x ↔ inRuns rs (x - dx) := by
  constructor
  · rintro ⟨q, hq, h1, h2⟩
    obtain ⟨p, hp, rfl⟩ := List.mem_map.mp hq
    exact ⟨p, hp, by unfold mvP at h1; dsimp only at h1; omega, by unfold mvP at h2; dsimp only at h2; omega⟩
  · rintro ⟨p, hp, h1, h2⟩
    exact ⟨mvP dx p, List.mem_map.mpr ⟨p, hp, rfl⟩, by unfold mvP; dsimp only; omega, by unfold mvP; dsimp only; omega⟩
theorem bands_mv {dx dy : Int} : ∀ {bs : List Bd} {y : Int} {p : List Pt}, BandsFrom y p bs → BandsFrom (y + dy) (p.map (mvP dx)) (bs.map (mvB dx dy))
  | [], _, _, _ => trivial
  | d :: t, y, p, h => by
    refine ⟨by have := h.1; show y + dy ≤ d.t + dy; omega, fun e z => h.2.1 ?_ (map_mvP_inj z), by have := h.2.2.1; show d.t + dy < d.b + dy; omega, fun z => h.2.2.2.1 (List.map_eq_nil_iff.mp z), ?_, bands_mv h.2.2.2.2.2⟩
    · have e : y + dy = d.t + dy := e
      omega
    · obtain ⟨b, hb⟩ := h.2.2.2.2.1
      exact ⟨_, runs_mv hb⟩
theorem inBands_mv {dx dy : Int} {bs : List Bd} {x y : Int} : inBands (bs.map (mvB dx dy)) x y ↔ inBands bs (x - dx) (y - dy) := by
  constructor
  · rintro ⟨d, hd, h1, h2, h3⟩
    obtain ⟨c, hc, rfl⟩ := List.mem_map.mp hd
    have h1 : c.t + dy ≤ y := h1
    have h2 : y < c.b + dy := h2
    exact ⟨c, hc, by omega, by omega, inRuns_mv.mp h3⟩
  · rintro ⟨c, hc, h1, h2, h3⟩
    exact ⟨mvB dx dy c, List.mem_map.mpr ⟨c, hc, rfl⟩, by show c.t + dy ≤ y; omega, by show y < c.b + dy; omega, inRuns_mv.mpr h3⟩
theorem formOf_mv {dx dy : Int} : ∀ bs : List Bd, formOf (bs.map (mvB dx dy)) = (formOf bs).map (mvR dx dy)
  | [] => rfl
  | d :: t => by
    have ih := formOf_mv (dx := dx) (dy := dy) t
    unfold formOf at ih ⊢
    rw [List.map_cons, List.flatMap_cons, List.flatMap_cons, List.map_append, ih]
    congr 1
    unfold bandRc mvB
    dsimp only
    rw [List.map_map, List.map_map]
    rfl
theorem IsForm.mv {S : Int → Int → Prop} {f : List Rc} (dx dy : Int) (h : IsForm S f) : IsForm (fun x y => S (x - dx) (y - dy)) (f.map (mvR dx dy)) := by
  obtain ⟨y, bs, h1, h2, rfl⟩ := h
  exact ⟨y + dy, bs.map (mvB dx dy), bands_mv h1, fun x y' => by rw [inBands_mv, h2], (formOf_mv bs).symm⟩
theorem mv_back {dx dy : Int} (f : List Rc) : (f.map (mvR dx dy)).map (mvR (-dx) (-dy)) = f := by
  rw [List.map_map]
  have e : (mvR (-dx) (-dy) ∘ mvR dx dy) = id := by
    funext q
    cases q
    unfold mvR
    simp only [Function.comp, id]
    congr 1 <;> omega
  rw [e, List.map_id]
end Od

namespace Od
open PySem L2 Evl PySem.Spec PyProof.Rows

/-! ### defs that are run where no repr is under way -/
def Gd (A : Around) : Prop := A.guards = some []
theorem Gd.deeper {A : Around} (g : Gd A) (env : Env) : Gd (A.deeper env) := g
structure FnG (P : Program) (w : World) (K : PySem.W.Frag) (mg : Str → Option Value) (base : Heap) (CX : CXT) (k : Nat) (f : Addr) (fd : FuncData) (ps : List Str) (sp : Sp) : Prop where
  len : ∀ vs H Q E, sp vs H Q E → vs.length = ps.length
  run : ∀ (A : Around) (outer : List Env) (s : Shared) (H : Hp) (args : Args) (us : List Value) (vs : List V) (Q : VK) (E : XK), Gd A → Room k A → Env0 P w K mg base A outer s H →
    BindsTo s fd args (ps.zip us) → Vals vs us → sp vs H Q E → codeAny (model P w) A (.call (.ref f) args) (CR CX outer P w H s Q E) s
section
variable {CX : CXT} {P : Program} {w : World} {K : PySem.W.Frag} {mg : Str → Option Value} {base : Heap} {k : Nat} {f : Addr} {fd : FuncData} {N ps : List Str} {sp : Sp}
theorem FnG.of (F : FnOk P w K mg base CX k f fd ps sp) : FnG P w K mg base CX k f fd ps sp := ⟨F.len, fun A o s H a us vs Q E _ => F.run A o s H a us vs Q E⟩
/-- a body's walk, where no repr is under way -/
theorem Fun.okG {x qual : Str} {st : Stmt} (F : Fun K x qual st f fd) (S : FnScope N ps (defScope st)) (len : ∀ vs H Q E, sp vs H Q E → vs.length = ps.length)
    (hb : ∀ (cdv : Value) (A : Around) (outer : List Env) (s : Shared) (H : Hp) (vs : List V) (Q : VK) (E : XK), Gd (A.deeper (envOfC qual (defScope st) s.heap.objs.size f cdv)) → Room k (A.deeper (envOfC qual (defScope st) s.heap.objs.size f cdv)) → sp vs H Q E →
      ∃ t, PSs (cxOf CX0 P w K mg base N qual (defScope st) f cdv A outer s H E).nox (defBody st) t ∧ t { nx := fun _ H' => Q .non H', rt := Q } (L2.start N vs) H) : FnG P w K mg base CX0 (k + 1) f fd ps sp := by
  obtain ⟨oc, od, kV, doc, pm, an, cdv, ct, osl, rfl, lk, hcd⟩ := F.ex
  refine ⟨len, fun A o s H args us vs Q E gd rm env bnd rel prom => ?_⟩
  have eqlen := len vs H Q E prom
  have kin : K.In s.heap := env.mod.kin.keeps fun b ob e => (env.bs b ob e).1
  have nol : s.heap.NoLimit := env.mod.nolimit.keeps fun b ob e => (env.bs b ob e).1
  have places : ∀ y ∈ ps.zip us, (defScope st).names.lookup y.1 = some .local ∨ ((defScope st).names.lookup y.1 = some .cell ∧ ((cellsFrom (s.heap.objs.size + 1) (defScope st).names []).lookup y.1).isSome = true) := by
    rintro ⟨n, v⟩ hy
    rcases S.par n (List.of_mem_zip hy).1 with z | z
    · exact Or.inl z
    · exact Or.inr ⟨z, PySem.W.cellsFrom_some _ _ _ (Or.inl z)⟩
  refine codeAny_call_function rm.depth (kin _ _ lk) rfl S.co S.gen rfl (PySem.W.codeRec_of kin hcd) (bnd _ _ _ _ ?_)
  refine wpAny_newFunctionEnv_cells S.kind places fun e2 he2 s1 inC => ?_
  subst he2
  refine ⟨nol.keeps inC.toInCall.keep, codeAny_func ?_⟩
  obtain ⟨t, walk, read⟩ := hb cdv A o s H vs Q E (gd.deeper _) (rm.deeper _) prom
  have inv := inv_start (E := E) (CX := CX0) S rm.hd env eqlen rel inC
  refine wpAny_mono (walk.nox.run [] s1 _ H _ inv read) (fun fl s' done => ?_) (fun e s' done => done)
  have give : ∀ {σ' : L2.St} {H' : Hp} {v : V} {u : Value}, Inv (cxOf CX0 P w K mg base N qual (defScope st) f cdv A o s H E) [] σ' H' s' → RelV v u → Q v H' → CE o P w H s Q u s' := by
    intro σ' H' v u J rv qq
    exact ⟨v, H', J.os, J.bare, J.base, J.hok, rv, qq⟩
  match fl, done with
  | .ret u, ⟨v, σ', H', J, rv, qq⟩ => exact give J rv qq
  | .next, ⟨σ', H', J, qq⟩ => exact give (v := V.non) (u := Value.none) J rfl qq
  | .brk, ⟨_, _, _, z⟩ => exact z.elim
  | .cont, ⟨_, _, _, z⟩ => exact z.elim
end
section
variable {X : Cx} {CX : CXT} {k : Nat} {f : Addr} {fd : FuncData} {ps : List Str} {sp : Sp} {dvs : List V} {ds : List Value} {E : XK} {x : Str} {p pos : Pos} {e : Expr} {es : List Expr} {t : TA}
theorem run_g {pins : List (Addr × Obj)} {σ : L2.St} {H : Hp} {s : Shared} {Q : VK} {us : List Value} {vs : List V} (F : FnG X.prog X.w X.K X.mg X.base CX k f fd ps sp) (gd : Gd X.A) (rm : Room k X.A) (hb : L2.Binds X.K fd ps ds) (hd : Vals dvs ds) (hx : Passes CX X E) (I : Inv X pins σ H s) (r : Vals vs us)
    (h : sp (vs ++ dvs) H Q E) : wpAny (model X.prog X.w) X.A (call (.ref f) us) (EP X pins σ Q) X.xe s := by
  have both : Vals (vs ++ dvs) (us ++ ds) := Vals.append r hd
  have hlen : (us ++ ds).length = ps.length := both.length.symm.trans (F.len _ _ _ _ h)
  refine wpAny_call (codeAny_mono (F.run X.A X.stack s H ⟨us, []⟩ (us ++ ds) (vs ++ dvs) Q E gd rm I.env0 (hb s us I.kIn hlen) both h) ?_)
  intro res s' out
  match res, out with
  | .error e, out => exact hx pins σ H s e s' I out
  | .ok (.ret u), out => exact I.after out
theorem pe_callG (F : FnG X.prog X.w X.K X.mg X.base CX k f fd ps sp) (gd : Gd X.A) (rm : Room k X.A) (hg : Gl X x) (hm : X.mg x = some (.ref f)) (hk : PySem.W.keepIn X.K (.ref f) = true) (hb : L2.Binds X.K fd ps ds) (hd : Vals dvs ds) (hx : Passes CX X E) (ha : PA X (e :: es) t)
    (hdb : (x == ("__debug__" : Str)) = false := by decide) (he : starEach (e :: es) X.env = (false, eval e X.env) :: starEach es X.env := by rfl) (hpl : (backTo pos (starEach es X.env)).any (·.1) = false := by rfl) : PE X (.Call (.Name x p) (e :: es) [] pos) (tCall sp dvs E t) := by
  constructor
  intro pins s σ H Q I h
  refine wpAny_Call_Name_kw (ld_glob I hg hm ?_ hdb)
  refine PySem.W.callWith_K (h₀ := X.base) I.ok.mod.kin hk (thn (ha.run pos pins s σ H _ I h) ?_) he hpl
  rintro us s1 ⟨vs, H1, I1, rel, qq⟩
  exact ⟨I1.kIn, run_g F gd rm hb hd hx I1 rel qq⟩
end
structure DefG (P : Program) (w : World) (K : PySem.W.Frag) (mg : Str → Option Value) (base : Heap) (CX : CXT) (x : Str) (k : Nat) (ps : List Str) (sp : Sp) where
  f : Addr
  fd : FuncData
  ok : FnG P w K mg base CX k f fd ps sp
  mgf : mg x = some (.ref f)
  kp : PySem.W.keepIn K (.ref f) = true
  b : L2.Binds K fd ps []

/-! ### repr of data -/
/-- what stands in a list or tuple is data of this kind (no dict in it) -/
def rRepr (K : PySem.W.Frag) : List V → Hp → VK → Prop := fun vs H Q => ∃ a d, vs = [.ref a] ∧ Dp K H (.ref a) d ∧ d.showable = true ∧ d.hasDict = false ∧ d.depth ≤ 60 ∧ d.shown.length ≤ sizeLine ∧ Q (.str d.shown) H
theorem krepr {X : Cx} (K : PySem.W.Frag) (gd : Gd X.A) (hu : X.A.units + 64 < cLine) (h : X.K = K := by rfl) : CallR X (.builtin "repr") (rRepr K) := by
  subst h
  intro pins s σ H vs us Q I r q
  obtain ⟨a, d, rfl, hd, h1, h2, h3, h4, q⟩ := q
  obtain rfl := Vals.ref1 r
  obtain ⟨as, rd⟩ := Dp.reads I d (.ref a) (.ref a) hd rfl
  refine repr_of_reads' rd h1 (fun z => by rw [h2] at z; cases z) gd (by omega) (fun _ _ e => e) (fun h' u tk hk => ?_) h4
  exact ⟨.str d.shown, H, I.kept (t' := tk) hk, ⟨u, rfl⟩, q⟩
end Od

namespace Od
open PySem L2 Evl PySem.Spec PyProof.Rows

/-! ### the law's own call, where no repr is under way -/
/-- the call of the law at fa with the script at a ends, gives True, and leaves what stood -/
def LawEnds (P : Program) (w : World) (fa a : Addr) (t : Shared) : Prop := codeAny (model P w) callerA (.call (.ref fa) ⟨[.ref a], []⟩) (fun r s' => r = .ok (.ret (.bool true)) ∧ OldK t.heap s'.heap ∧ s'.os = t.os ∧ AllBare s'.gens) t
section
variable {P : Program} {w : World} {K : PySem.W.Frag} {mg mb : Str → Option Value} {k : Nat} {fa a : Addr} {fd : FuncData} {x : Str} {sp : Sp} {s₁ : Shared} {vs : List Value} {ns : List Int}
/-- from an abstract heap in which at most the script stands -/
theorem end_core (kin : K.In s₁.heap) (hns : s₁.heap.Ns mainGlobals mg) (hb : s₁.heap.Ns builtinsNs mb) (hbb : ∀ x : Str, x ≠ "__name__" → mb x = bootBuiltins x) (nol : s₁.heap.NoLimit) (hg : s₁.gens = #[])
    (ha : s₁.heap.get? a = some { cls := .type "list", data := .seq vs.toArray }) (rm : Room k callerA)
    (F : ∀ base : Heap, K.In base → base.Ns mainGlobals mg → FnG P w K mg base CX0 k fa fd [x] sp) (bnd : ∀ (s : Shared) (u : Value), BindsTo s fd ⟨[u], []⟩ [(x, u)])
    (prom : ∀ H : Hp, Only H → SqL K H a (ns.map V.int) → sp [.ref a] H (fun v _ => v = .bl true) fun _ _ _ => False) {H : Hp}
    (only : Only H) (sq : SqL K H a (ns.map V.int)) (hok : HOk P w H s₁.heap) (alone : ∀ b, H b ≠ none → b = a) (notK : H a ≠ none → K.lookup a = none) :
    LawEnds P w fa a s₁ := by
  -- a dict is not the script
  have dictFree : ∀ {b : Addr} {o : Obj} {es : Array DictEntry} {ep : Nat}, s₁.heap.get? b = some o → o.data = .dict es ep → H b = none := by
    intro b o es ep e d
    by_cases z : H b = none
    · exact z
    · have := alone b z
      rw [this, ha] at e
      cases e
      cases (show Data.seq vs.toArray _ = Data.dict es ep from d)
  have space : ∀ {b : Addr} {m : Str → Option Value}, s₁.heap.Ns b m → (hidT s₁.heap H).Ns b m := by
    rintro b m ⟨o, es, ep, e, d, r⟩
    exact ⟨o, es, ep, hidT_get e (dictFree e d), d, r⟩
  have kinB : K.In (hidT s₁.heap H) := by
    intro b o e
    refine hidT_get (kin b o e) ?_
    by_cases z : H b = none
    · exact z
    · have q := alone b z
      subst q
      rw [notK z] at e
      cases e
  obtain ⟨mc, l1, l2⟩ := nol
  have md : Mod K mg (hidT s₁.heap H) := ⟨kinB, space hns, ⟨mb, space hb, hbb⟩, ⟨mc, space l1, l2⟩⟩
  have env : Env0 P w K mg (hidT s₁.heap H) callerA [] s₁ H := ⟨rfl, md, fun b o e => of_hidT e, Nat.le_of_eq (hidT_size _ _), trivial, fun b z => absurd z (show b ∉ ([] : List Addr) by simp), hok, .of_eq hg⟩
  refine codeAny_mono ((F _ kinB (space hns)).run callerA [] s₁ H ⟨[.ref a], []⟩ [.ref a] [.ref a] _ _ rfl rm env (bnd s₁ (.ref a)) (.cons rfl .nil) (prom H only sq)) ?_
  intro r s' out
  match r, out with
  | .ok (.ret u), ⟨v, H', os, bare, un, hok', rv, qv⟩ =>
    have ev : v = .bl true := qv
    subst ev
    obtain rfl : u = Value.bool true := rv
    refine ⟨rfl, OldK.of_keep fun b o e => ?_, os, bare⟩
    by_cases z : H b = none
    · exact un.keep b o e z (show b ∉ frs [] by intro q; exact absurd (show b ∈ ([] : List Addr) from q) (by simp)) (by simp)
    · rcases only b with q | ⟨ob, xs, q⟩
      · exact absurd q z
      · obtain ⟨f1, _⟩ := hok b _ q
        obtain ⟨f2, _⟩ := hok' b _ (un.frzs b ob _ q)
        rw [e] at f1
        cases f1
        exact f2
theorem end_call (kin : K.In s₁.heap) (hns : s₁.heap.Ns mainGlobals mg) (hb : s₁.heap.Ns builtinsNs mb) (hbb : ∀ x : Str, x ≠ "__name__" → mb x = bootBuiltins x) (nol : s₁.heap.NoLimit) (hg : s₁.gens = #[])
    (ha : s₁.heap.get? a = some { cls := .type "list", data := .seq vs.toArray }) (hi : IntsAre vs ns) (hl : ns.length ≤ sizeLine) (rm : Room k callerA)
    (F : ∀ base : Heap, K.In base → base.Ns mainGlobals mg → FnG P w K mg base CX0 k fa fd [x] sp) (bnd : ∀ (s : Shared) (u : Value), BindsTo s fd ⟨[u], []⟩ [(x, u)])
    (prom : ∀ H : Hp, Only H → SqL K H a (ns.map V.int) → sp [.ref a] H (fun v _ => v = .bl true) fun _ _ _ => False) :
    LawEnds P w fa a s₁ := by
  have rel := vals_ints hi
  have hlen := hi.length
  cases hk : K.lookup a with
  | some o =>
    have e := kin a o hk
    rw [ha] at e
    cases e
    refine end_core kin hns hb hbb nol hg ha rm F bnd prom (H := fun _ => none) (fun _ => Or.inl rfl) (Or.inr ⟨_, vs.toArray, _, hk, rfl, rfl, rfl, ?_, by simpa using rel⟩) (fun b u z => nomatch (show (none : Option HO) = some u from z)) (fun b z => absurd rfl z) (fun z => absurd rfl z)
    rw [List.size_toArray, hlen]
    exact hl
  | none =>
    have one : ∀ b, (fun b => if b = a then some (HO.frz { cls := .type "list", data := .seq vs.toArray } (.lst (ns.map V.int))) else none : Hp) b ≠ none → b = a := by
      intro b z
      by_cases q : b = a
      · exact q
      · exact absurd (if_neg q) z
    refine end_core kin hns hb hbb nol hg ha rm F bnd prom (H := fun b => if b = a then some (.frz { cls := .type "list", data := .seq vs.toArray } (.lst (ns.map V.int))) else none) (fun b => ?_) (Or.inl (Or.inr ⟨_, if_pos rfl⟩)) (fun b u z => ?_) one (fun _ => hk)
    · by_cases q : b = a
      · exact Or.inr ⟨_, _, if_pos q⟩
      · exact Or.inl (if_neg q)
    · by_cases q : b = a
      · have z2 := (if_pos q).symm.trans z
        cases z2
        subst q
        exact ⟨ha, by rw [List.length_map]; exact hl, vs, _, rel, ha⟩
      · have z2 := (if_neg q).symm.trans z
        cases z2
end
theorem walk_g {l : PySem.W.OpenLaw} {n k : Nat} {q : Program} {loose : List Str} {XP : (Str → Option Value) → Heap → Prop} {YP : World → Heap → Prop} {d : DefRec} {K : Params → PySem.W.Frag} {sp : World → Sp} {x : Str}
    (hn : l.most = some n) (hn2 : n ≤ sizeLine) (hdf : d.params.defaults = []) (rm : Room k callerA)
    (written : ∀ (w : World) (h : Heap), YP w h → (K w.params).In h) (F : ∀ (w : World) (mg : Str → Option Value) (fa : Addr) (h : Heap), (K w.params).In h → h.Ns mainGlobals mg → mg d.name = some (.ref fa) → ∃ fd : FuncData, (∀ (s : Shared) (u : Value), BindsTo s fd ⟨[u], []⟩ [(x, u)]) ∧ ∀ base : Heap, (K w.params).In base → base.Ns mainGlobals mg → FnG l.prog w (K w.params) mg base CX0 k fa fd [x] (sp w))
    (prom : ∀ (w : World) (H : Hp) (a : Addr) (ns : List Int), ns.length ≤ n → Only H → SqL (K w.params) H a (ns.map V.int) → sp w [.ref a] H (fun v _ => v = .bl true) fun _ _ _ => False) :
    PySem.W.WalkO q loose XP YP l.row.toRowW d [] (fun g us => PySem.call g us) := by
  refine Att.attach_call hn hdf ?_
  intro w s₀ s₁ mg mb fa o pm cd doc a vs ns G Y _ _ _ hmg hobj hints hlen hg
  have kin := written w _ Y
  obtain ⟨fd, bnd, fn⟩ := F w mg fa _ kin G.T.g hmg
  exact end_call kin G.T.g G.T.b G.T.builtins G.T.nolimit hg hobj hints (Nat.le_trans hlen hn2) rm fn bnd fun H hO hS => prom w H a ns hlen hO hS
end Od

namespace Od
open PySem L2 Evl PySem.Spec PyProof.Rows

/-! ### a tuple times 1 is the tuple itself -/
theorem tuple_once (l : Addr) (items : Array Value) (n : Nat) (dd : Option Addr) (sl : Array (Option Value)) (u : Tok) :
    Meets (Builtin.«tuple.__mul__» ⟨[.ref l, .int 1 u], []⟩) (fun _ R s => s.heap.get? l = some { cls := .type "tuple", dict := dd, data := .seq items n, slots := sl } ∧ R (.ok (.ret (.ref l))) s) :=
  .of_wp fun prog w A R s h => by
    obtain ⟨hp, g, d, tk, os⟩ := s
    obtain ⟨hl, h⟩ := h
    have f1 := AutoSeq1.idx_int
    have c1 : (items.isEmpty || (1 : Int) == 1) = true := by
      rw [show ((1 : Int) == 1) = true from rfl, Bool.or_true]
    wp_walk using AutoSeq1.wpAny_loadPart' hl
    exact ⟨_, rfl, h⟩
def rRep1 (K : PySem.W.Frag) : R2 := fun x y H Q => ∃ l xs, x = .ref l ∧ y = .int 1 ∧ SqT K H l xs ∧ Q (.ref l) H
theorem op_rep1 {X : Cx} : OpR X (binaryOp .Mult) (rRep1 X.K) := by
  intro pins s σ H x y v u Q I rx ry h
  obtain ⟨l, xs, rfl, rfl, hT, q⟩ := h
  cases rx
  obtain ⟨t, rfl⟩ := ry
  obtain ⟨its, r, ⟨⟨cls, dd, data, sl⟩, ho, hc, n, hd⟩, hs⟩ := I.tuple hT
  simp only at hc hd
  subst hc hd
  refine wpAny_binaryOp_repeat_ref (T := "tuple") (U := "int") (by decide) ⟨_, ho, rfl⟩ (fun s' => typeIs_int s' 1 t) noFill_tuple_mul F.fills_int_mul F.slot_int_rmul repeat_tuple F.slot_int_index.lookup
    (call_meets F.slot_int_rmul (typeIs_int s 1 t) F.entry_int_rmul (F.args_int_rmul_2 _ _) (int_rmul_tuple 1 t l its.toArray n dd sl)
      ⟨ho, rfl, ⟨_, ho, rfl⟩, call_meets F.slot_tuple_mul ⟨_, ho, rfl⟩ F.entry_tuple_mul (F.args_tuple_mul_2 _ _) (tuple_once l its.toArray n dd sl t) ⟨ho, ?_⟩⟩)
  exact ⟨.ref l, H, I, rfl, q⟩
structure RRep (K : PySem.W.Frag) (x y : V) (H : Hp) (Q : VK) : Prop where
  h : rRepT K x y H Q ∨ rRep1 K x y H Q
theorem krep {X : Cx} (K : PySem.W.Frag) (h : X.K = K := by rfl) : OpR X (binaryOp .Mult) (RRep K) := by
  subst h
  exact fun pins s σ H x y v u Q I rx ry q => (OpR.or op_repT op_rep1) pins s σ H x y v u Q I rx ry q.h
theorem repA {K : PySem.W.Frag} {H : Hp} {a : Addr} {x : V} {k : Int} {Q : VK} (h : H a = some (.tup [x])) (h1 : 1 ≤ k) (h2 : k ≤ 1000) (q : ∀ p H', Ex H H' → H' p = some (.tup (List.replicate k.toNat x)) → Q (.ref p) H') : RRep K (.ref a) (.int k) H Q := by
  refine .mk ?_
  by_cases e : k = 1
  · subst e
    exact .inr ⟨a, _, rfl, rfl, SqT.of h, q a H (Ex.refl _) h⟩
  · refine .inl ⟨a, k, _, rfl, rfl, SqT.of h, by simp, by omega, h2, by simp, fun p hp => q p _ (Ex.new hp) ?_⟩
    rw [upd_same]
    congr 2
    generalize k.toNat = m
    induction m with
    | zero => rfl
    | succ m ih => rw [List.replicate_succ, List.replicate_succ, List.flatten_cons, ih]; rfl

/-! ### data whose text is short -/
structure Sh (B : Nat) (d : PyData) : Prop where
  show_ : d.showable = true
  dict : d.hasDict = false
  short : d.leavesShort 13 = true
  wt : d.weight ≤ B
structure ShAll (B : Nat) (ds : List PyData) : Prop where
  show_ : PyData.showableAll ds = true
  dict : PyData.hasDictAll ds = false
  short : PyData.leavesShortAll 13 ds = true
  wt : PyData.weightAll ds ≤ B
theorem Sh.mono {B C : Nat} {d : PyData} (h : Sh B d) (e : B ≤ C) : Sh C d := ⟨h.1, h.2, h.3, Nat.le_trans h.4 e⟩
theorem ShAll.nil : ShAll 0 [] := ⟨rfl, rfl, rfl, Nat.le_refl _⟩
theorem ShAll.cons {B C : Nat} {d : PyData} {ds : List PyData} (h : Sh B d) (t : ShAll C ds) : ShAll (B + 1 + C) (d :: ds) := by
  refine ⟨?_, ?_, ?_, ?_⟩
  · simp only [PyData.showableAll, h.1, t.1, Bool.and_self]
  · simp only [PyData.hasDictAll, h.2, t.2, Bool.or_self]
  · simp only [PyData.leavesShortAll, h.3, t.3, Bool.and_self]
  · have h1 := h.4
    have h2 := t.4
    simp only [PyData.weightAll]
    omega
theorem ShAll.tup {B : Nat} {ds : List PyData} (t : ShAll B ds) : Sh B (.tuple ds) := ⟨by simpa only [PyData.showable] using t.1, by simpa only [PyData.hasDict] using t.2, by simpa only [PyData.leavesShort] using t.3, by simpa only [PyData.weight] using t.4⟩
theorem ShAll.lst {B : Nat} {ds : List PyData} (t : ShAll B ds) : Sh B (.list ds) := ⟨by simpa only [PyData.showable] using t.1, by simpa only [PyData.hasDict] using t.2, by simpa only [PyData.leavesShort] using t.3, by simpa only [PyData.weight] using t.4⟩
theorem sh_int {i : Int} (h1 : -1000000 ≤ i) (h2 : i ≤ 1000000) : Sh 20 (.int i) := by
  have hn : i.natAbs ≤ 1000000 := by omega
  have hl : i.natAbs ≠ 0 → i.natAbs.log2 < 20 := fun h => (Nat.log2_lt h).mpr (Nat.lt_of_le_of_lt hn (by decide))
  refine ⟨?_, rfl, ?_, ?_⟩
  · simp only [PyData.showable, decide_eq_true_eq]
    by_cases h : i.natAbs = 0
    · rw [h]
      decide
    · exact Nat.lt_trans (hl h) (by decide)
  · simp only [PyData.leavesShort, decide_eq_true_eq]
    exact PyData.shown_int_le2 (by omega) (by omega)
  · simp only [PyData.weight]
    by_cases h : i = 0
    · subst h
      decide
    · have : (i == 0) = false := beq_eq_false_iff_ne.mpr h
      rw [this]
      have := hl (by omega)
      show i.natAbs.log2 + 1 ≤ 20
      omega
theorem sh_ints : ∀ {ns : List Int}, (∀ n ∈ ns, -1000000 ≤ n ∧ n ≤ 1000000) → ShAll (21 * ns.length) (ns.map PyData.int)
  | [], _ => .nil
  | n :: ns, h => by
    have z := ShAll.cons (sh_int (h n (by simp)).1 (h n (by simp)).2) (sh_ints (ns := ns) fun m hm => h m (by simp [hm]))
    refine ⟨z.1, z.2, z.3, Nat.le_trans z.4 ?_⟩
    rw [List.length_cons]
    omega
theorem Sh.len {B : Nat} {d : PyData} (h : Sh B d) (hB : B ≤ 1000000) : d.shown.length ≤ sizeLine := by
  have h2 := PyData.shown_le 13 (by decide) d h.3
  have h4 := h.4
  have e : sizeLine = 16777216 := by decide
  omega
theorem reprA {K : PySem.W.Frag} {H : Hp} {a : Addr} {d : PyData} {B : Nat} {Q : VK} (hd : Dp K H (.ref a) d) (h : Sh B d) (hB : B ≤ 1000000) (hdp : d.depth ≤ 60) (q : Q (.str d.shown) H) : rRepr K [.ref a] H Q := ⟨a, d, rfl, hd, h.1, h.2, hdp, h.len hB, q⟩
end Od

namespace Od
open PySem L2 Evl

/-! ### pictures -/
structure Pc where
  w : Int
  h : Int
  vs : List Int
  cs : List Int
structure Pc.Ok (m : Int) (p : Pc) : Prop where
  w1 : 1 ≤ p.w
  w2 : p.w ≤ m
  h1 : 1 ≤ p.h
  h2 : p.h ≤ m
  vl : (p.vs.length : Int) = p.w * p.h
  cl : (p.cs.length : Int) = p.w * p.h
  vb : ∀ v ∈ p.vs, 0 ≤ v ∧ v ≤ 255
  cb : ∀ v ∈ p.cs, 0 ≤ v ∧ v ≤ 256
def PcV (H : Hp) (v : V) (p : Pc) : Prop := ∃ a va ca, v = .ref a ∧ H a = some (.tup [.int p.w, .int p.h, .ref va, .ref ca]) ∧ H va = some (.tup (p.vs.map V.int)) ∧ H ca = some (.tup (p.cs.map V.int))
theorem PcV.tk {H H' : Hp} {v : V} {p : Pc} (e : TK H H') (h : PcV H v p) : PcV H' v p := by
  obtain ⟨a, va, ca, rfl, h1, h2, h3⟩ := h
  exact ⟨a, va, ca, rfl, e _ _ h1, e _ _ h2, e _ _ h3⟩
def pcD (p : Pc) : PyData := .tuple [.int p.w, .int p.h, .tuple (p.vs.map PyData.int), .tuple (p.cs.map PyData.int)]
theorem PcV.dp {K : PySem.W.Frag} {H : Hp} {v : V} {p : Pc} (h : PcV H v p) : Dp K H v (pcD p) := by
  obtain ⟨a, va, ca, rfl, h1, h2, h3⟩ := h
  exact .tup (SqT.of h1) (.cons (.int _) (.cons (.int _) (.cons (.tup (SqT.of h2) (DaAll.dp (da_ints _))) (.cons (.tup (SqT.of h3) (DaAll.dp (da_ints _))) .nil))))
theorem area_le {w h m : Int} (w1 : 1 ≤ w) (w2 : w ≤ m) (h1 : 1 ≤ h) (h2 : h ≤ m) : 1 ≤ w * h ∧ w * h ≤ m * m := by
  have a : 1 * 1 ≤ w * h := Int.mul_le_mul w1 h1 (by omega) (by omega)
  have b : w * h ≤ m * m := Int.mul_le_mul w2 h2 (by omega) (by omega)
  exact ⟨a, b⟩
theorem Pc.Ok.area {m : Int} {p : Pc} (k : p.Ok m) : 1 ≤ p.w * p.h ∧ p.w * p.h ≤ m * m := area_le k.w1 k.w2 k.h1 k.h2
theorem place_lt {w h x y : Int} (x0 : 0 ≤ x) (x1 : x < w) (y0 : 0 ≤ y) (y1 : y < h) : 0 ≤ y * w + x ∧ y * w + x < w * h := by
  have a : 0 ≤ y * w := Int.mul_nonneg y0 (by omega)
  have b : (y + 1) * w ≤ h * w := Int.mul_le_mul_of_nonneg_right (by omega) (by omega)
  rw [Int.add_mul, Int.one_mul, Int.mul_comm h w] at b
  omega
theorem getD_at {ns : List Int} {i : Nat} (h : i < ns.length) : ns.getD i 0 = ns[i] := by
  rw [List.getD_eq_getElem?_getD, List.getElem?_eq_getElem h]
  rfl
/-- what stands at a point -/
def Pc.In (p : Pc) (x y : Int) : Prop := 0 ≤ x ∧ x < p.w ∧ 0 ≤ y ∧ y < p.h
instance (p : Pc) (x y : Int) : Decidable (p.In x y) := inferInstanceAs (Decidable (_ ∧ _))
def Pc.at (p : Pc) (x y : Int) : Pt := if p.In x y then (p.vs.getD (y * p.w + x).toNat 0, p.cs.getD (y * p.w + x).toNat 0) else (0, 0)
theorem at_bound {m : Int} {p : Pc} (k : p.Ok m) (x y : Int) : 0 ≤ (p.at x y).1 ∧ (p.at x y).1 ≤ 255 ∧ 0 ≤ (p.at x y).2 ∧ (p.at x y).2 ≤ 256 := by
  unfold Pc.at
  split
  · rename_i h
    obtain ⟨a, b, c, d⟩ := h
    obtain ⟨e, f⟩ := place_lt a b c d
    have e1 : (y * p.w + x).toNat < p.vs.length := by have := k.vl; omega
    have e2 : (y * p.w + x).toNat < p.cs.length := by have := k.cl; omega
    rw [getD_at e1, getD_at e2]
    exact ⟨(k.vb _ (List.getElem_mem e1)).1, (k.vb _ (List.getElem_mem e1)).2, (k.cb _ (List.getElem_mem e2)).1, (k.cb _ (List.getElem_mem e2)).2⟩
  · exact ⟨by decide, by decide, by decide, by decide⟩
/-- the item of a tuple of ints at a place -/
theorem atD {ns : List Int} {i : Int} (h0 : 0 ≤ i) (h1 : i < ns.length) : atI (ns.map V.int) i = some (.int (ns.getD i.toNat 0)) := by
  obtain ⟨m, rfl⟩ := Int.eq_ofNat_of_zero_le h0
  have hm : m < ns.length := by omega
  have e : ((m : Int)).toNat = m := by omega
  rw [e, getD_at hm]
  exact atI_nat (by rw [List.getElem?_map, List.getElem?_eq_getElem hm]; rfl)
def spPoint (K : PySem.W.Frag) : Sp := fun vs H Q _ => ∃ v x y p m, vs = [v, .int x, .int y] ∧ PcV H v p ∧ p.Ok m ∧ m ≤ 60 ∧ ∀ w H', Ex H H' → PtV H' w (p.at x y) → Q w H'
theorem sh_pic {m : Int} {p : Pc} (k : p.Ok m) (hm : m ≤ 60) : Sh 300000 (pcD p) := by
  have hv := sh_ints (ns := p.vs) fun n hn => by have := k.vb n hn; omega
  have hc := sh_ints (ns := p.cs) fun n hn => by have := k.cb n hn; omega
  have z := (ShAll.cons (sh_int (i := p.w) (by have := k.w1; omega) (by have := k.w2; omega)) (.cons (sh_int (i := p.h) (by have := k.h1; omega) (by have := k.h2; omega)) (.cons hv.tup (.cons hc.tup .nil)))).tup
  refine z.mono ?_
  have a := k.area.2
  have b : m * m ≤ 60 * 60 := Int.mul_le_mul hm hm (by have := k.w1; have := k.w2; omega) (by decide)
  have := k.vl
  have := k.cl
  omega
theorem depth_ints : ∀ ns : List Int, PyData.depthAll (ns.map PyData.int) = 0
  | [] => by simp only [List.map_nil, PyData.depthAll]
  | n :: ns => by
    rw [List.map_cons]
    simp only [PyData.depthAll, PyData.depth, depth_ints ns, Nat.max_self]
theorem depth_pic (p : Pc) : (pcD p).depth ≤ 60 := by
  simp only [pcD, PyData.depth, PyData.depthAll, depth_ints]
  decide
theorem canLay_ints : ∀ ns : List Int, PyData.canLayAll0 (ns.map PyData.int) = true
  | [] => by simp only [List.map_nil, PyData.canLayAll0]
  | n :: ns => by
    rw [List.map_cons]
    simp only [PyData.canLayAll0, PyData.canLay0, canLay_ints ns, Bool.and_self]
end Od

namespace Od
open PySem L2 Evl

/-! ### the turns of a block, whatever is done in a turn -/
theorem turns {J : It} {n : Nat} {G : Hp → Prop} {Y : Nat → Hp → V → Hp → Prop} (w : Walk J n G Y) {B : V → Hp → (Hp → Prop) → Prop} {H0 : Hp} {Qd : Hp → Prop} (Pv : Nat → Hp → Prop) (h0 : Pv 0 H0) (hG : ∀ i H, i ≤ n → Pv i H → G H)
    (hs : ∀ i x H H', i < n → Pv i H → Y i H x H' → B x H' (Pv (i + 1))) (hd : ∀ H, Pv n H → Qd H) :
    ∃ W : Nat → Nat → Hp → Prop, (∃ m, W 0 m H0) ∧ ∀ i m H, W i m H →
      (J.stop i H ∧ Qd H) ∨ (J.go i H ∧ ∃ Nx : Hp → Prop, (∀ H', Nx H' → ∃ m', m' < m ∧ W (i + 1) m' H') ∧ ∀ x H', J.yld i H x H' → B x H' Nx) := by
  refine ⟨fun i m H => m = n - i ∧ i ≤ n ∧ Pv i H, ⟨n, by simp, Nat.zero_le _, h0⟩, ?_⟩
  rintro i m H ⟨rfl, hi, p⟩
  have q := hG i H hi p
  by_cases hlt : i < n
  · exact .inr ⟨w.goes i H hlt q, Pv (i + 1), fun H' p' => ⟨n - (i + 1), by omega, rfl, hlt, p'⟩, fun x H' y => hs i x H H' hlt p (w.yields i H x H' hlt q y)⟩
  · have e : i = n := by omega
    subst e
    exact .inl ⟨w.stops H q, hd H p⟩
theorem turns_range {lo : Int} {n : Nat} {B : V → Hp → (Hp → Prop) → Prop} {H0 : Hp} {Qd : Hp → Prop} (Pv : Nat → Hp → Prop) (h0 : Pv 0 H0) (hs : ∀ i H, i < n → Pv i H → B (.int (lo + (i : Nat))) H (Pv (i + 1))) (hd : ∀ H, Pv n H → Qd H) :
    ∃ W : Nat → Nat → Hp → Prop, (∃ m, W 0 m H0) ∧ ∀ i m H, W i m H →
      ((Itr lo n).stop i H ∧ Qd H) ∨ ((Itr lo n).go i H ∧ ∃ Nx : Hp → Prop, (∀ H', Nx H' → ∃ m', m' < m ∧ W (i + 1) m' H') ∧ ∀ x H', (Itr lo n).yld i H x H' → B x H' Nx) :=
  turns walk_range Pv h0 (fun _ _ _ _ => trivial) (fun i x H H' hi p y => by
    obtain ⟨rfl, rfl⟩ := y
    exact hs i H' hi p) hd

/-! ### a picture made point by point -/
def cells (w h : Int) (g : Int → Int → Pt) : List Pt := (List.range (w * h).toNat).map fun (k : Nat) => g ((k : Int) % w) ((k : Int) / w)
def mkP (w h : Int) (g : Int → Int → Pt) : Pc := ⟨w, h, (cells w h g).map Prod.fst, (cells w h g).map Prod.snd⟩
theorem mkP_at {w h x y : Int} {g : Int → Int → Pt} (x0 : 0 ≤ x) (x1 : x < w) (y0 : 0 ≤ y) (y1 : y < h) : (mkP w h g).at x y = g x y := by
  obtain ⟨b0, b1⟩ := place_lt x0 x1 y0 y1
  unfold Pc.at
  rw [if_pos ⟨x0, x1, y0, y1⟩]
  have hk : (y * w + x).toNat < (w * h).toNat := by omega
  have e1 : ((y * w + x).toNat : Int) % w = x := by
    rw [Int.toNat_of_nonneg b0, Int.add_comm, Int.add_mul_emod_self_right, Int.emod_eq_of_lt x0 x1]
  have e2 : ((y * w + x).toNat : Int) / w = y := by
    rw [Int.toNat_of_nonneg b0, Int.add_comm, Int.add_mul_ediv_right _ _ (by omega), Int.ediv_eq_zero_of_lt x0 x1, Int.zero_add]
  have l1 : (y * w + x).toNat < ((cells w h g).map Prod.fst).length := by
    unfold cells
    rw [List.length_map, List.length_map, List.length_range]
    exact hk
  have l2 : (y * w + x).toNat < ((cells w h g).map Prod.snd).length := by
    unfold cells
    rw [List.length_map, List.length_map, List.length_range]
    exact hk
  show (((cells w h g).map Prod.fst).getD (y * w + x).toNat 0, ((cells w h g).map Prod.snd).getD (y * w + x).toNat 0) = g x y
  rw [getD_at l1, getD_at l2]
  simp only [cells, List.getElem_map, List.getElem_range]
  rw [e1, e2]
theorem mkP_out {w h x y : Int} {g : Int → Int → Pt} (no : ¬ (0 ≤ x ∧ x < w ∧ 0 ≤ y ∧ y < h)) : (mkP w h g).at x y = (0, 0) := by
  unfold Pc.at
  exact if_neg no
theorem mkP_ok {w h m : Int} {g : Int → Int → Pt} (w1 : 1 ≤ w) (w2 : w ≤ m) (h1 : 1 ≤ h) (h2 : h ≤ m) (hg : ∀ x y, 0 ≤ (g x y).1 ∧ (g x y).1 ≤ 255 ∧ 0 ≤ (g x y).2 ∧ (g x y).2 ≤ 256) : (mkP w h g).Ok m := by
  obtain ⟨a1, a2⟩ := area_le w1 w2 h1 h2
  refine ⟨w1, w2, h1, h2, ?_, ?_, ?_, ?_⟩
  · show (((cells w h g).map Prod.fst).length : Int) = w * h
    unfold cells
    rw [List.length_map, List.length_map, List.length_range]
    omega
  · show (((cells w h g).map Prod.snd).length : Int) = w * h
    unfold cells
    rw [List.length_map, List.length_map, List.length_range]
    omega
  · intro v hv
    obtain ⟨q, hq, rfl⟩ := List.mem_map.mp hv
    obtain ⟨k, _, rfl⟩ := List.mem_map.mp hq
    exact ⟨(hg _ _).1, (hg _ _).2.1⟩
  · intro v hv
    obtain ⟨q, hq, rfl⟩ := List.mem_map.mp hv
    obtain ⟨k, _, rfl⟩ := List.mem_map.mp hq
    exact (hg _ _).2.2
theorem pc_ext {p q : Pc} {m n : Int} (hp : p.Ok m) (hq : q.Ok n) (hw : p.w = q.w) (hh : p.h = q.h) (h : ∀ x y, p.In x y → p.at x y = q.at x y) : p = q := by
  obtain ⟨w, hg, vs, cs⟩ := p
  obtain ⟨w', hg', vs', cs'⟩ := q
  dsimp only at hw hh
  subst hw hh
  have vl := hp.vl
  have cl := hp.cl
  have vl' := hq.vl
  have cl' := hq.cl
  dsimp only at vl cl vl' cl'
  have w1 := hp.w1
  dsimp only at w1
  have key : ∀ k : Nat, k < vs.length → vs.getD k 0 = vs'.getD k 0 ∧ cs.getD k 0 = cs'.getD k 0 := by
    intro k hk
    have d := Int.emod_add_mul_ediv (k : Int) w
    have x0 := Int.emod_nonneg (k : Int) (b := w) (by omega)
    have x1 := Int.emod_lt_of_pos (k : Int) (b := w) (by omega)
    have y0 : 0 ≤ (k : Int) / w := Int.ediv_nonneg (by omega) (by omega)
    have y1 : (k : Int) / w < hg := by
      refine Int.ediv_lt_of_lt_mul (by omega) ?_
      rw [Int.mul_comm]
      omega
    have hin : (⟨w, hg, vs, cs⟩ : Pc).In ((k : Int) % w) ((k : Int) / w) := ⟨x0, x1, y0, y1⟩
    have e := h _ _ hin
    have hin' : (⟨w, hg, vs', cs'⟩ : Pc).In ((k : Int) % w) ((k : Int) / w) := ⟨x0, x1, y0, y1⟩
    unfold Pc.at at e
    rw [if_pos hin, if_pos hin'] at e
    dsimp only at e
    have ek : (((k : Int) / w) * w + (k : Int) % w).toNat = k := by
      rw [Int.mul_comm]
      omega
    rw [ek] at e
    exact ⟨(Prod.mk.inj e).1, (Prod.mk.inj e).2⟩
  have e1 : vs = vs' := by
    refine List.ext_getElem (by omega) fun k h1 h2 => ?_
    have := (key k h1).1
    rw [getD_at h1, getD_at h2] at this
    exact this
  have e2 : cs = cs' := by
    refine List.ext_getElem (by omega) fun k h1 h2 => ?_
    have := (key k (by omega)).2
    rw [getD_at h1, getD_at h2] at this
    exact this
  subst e1 e2
  rfl
/-- row by row -/
theorem cells_take {w h : Int} {g : Int → Int → Pt} {i j : Nat} (hj : (j : Int) < w) (hi : (i : Int) < h) : (cells w h g).take (i * w.toNat + j + 1) = (cells w h g).take (i * w.toNat + j) ++ [g j i] := by
  obtain ⟨b0, b1⟩ := place_lt (x := (j : Int)) (y := (i : Int)) (by omega) hj (by omega) hi
  have hw : ((i * w.toNat + j : Nat) : Int) = (i : Int) * w + j := by
    rw [Int.natCast_add, Int.natCast_mul, Int.toNat_of_nonneg (by omega)]
  have hk : i * w.toNat + j < (w * h).toNat := by omega
  rw [List.take_add_one]
  congr 1
  unfold cells
  rw [List.getElem?_map, List.getElem?_range hk]
  show [g (((i * w.toNat + j : Nat) : Int) % w) (((i * w.toNat + j : Nat) : Int) / w)] = _
  rw [hw, Int.add_comm, Int.add_mul_emod_self_right, Int.emod_eq_of_lt (by omega) hj, Int.add_mul_ediv_right _ _ (by omega), Int.ediv_eq_zero_of_lt (by omega) hj, Int.zero_add]
theorem cells_len {w h : Int} {g : Int → Int → Pt} : (cells w h g).length = (w * h).toNat := by
  unfold cells
  rw [List.length_map, List.length_range]
theorem pc_lay (p : Pc) : (pcD p).canLay0 = true := by
  simp only [pcD, PyData.canLay0, PyData.canLayAll0, canLay_ints, Bool.and_self]
theorem shaped_of {d : PyData} (h : d.canLay0 = true) (hd : d.depth ≤ 64) : SeqAt.shaped d = true := by
  unfold SeqAt.shaped
  rw [h, decide_eq_true hd]
  rfl
theorem pc_shaped (p : Pc) : SeqAt.shaped (pcD p) = true := shaped_of (pc_lay p) (by have := depth_pic p; omega)
theorem pt_shaped (q : Pt) : SeqAt.shaped (ptD q) = true := eqs_pt.shaped (by decide) q
theorem pt_self (q : Pt) : PyData.eqv (ptD q) (ptD q) = true := by rw [eqs_pt.1, decide_eq_true rfl]
theorem pc_self (p : Pc) : PyData.eqv (pcD p) (pcD p) = true := eqv_self (pc_lay p)
theorem mkP_congr {w h : Int} {g k : Int → Int → Pt} (hw : 0 < w) (hh : 0 < h) (e : ∀ x y, 0 ≤ x → x < w → 0 ≤ y → y < h → g x y = k x y) : mkP w h g = mkP w h k := by
  unfold mkP
  have e2 : cells w h g = cells w h k := by
    unfold cells
    refine List.map_congr_left fun i hi => ?_
    have hi := List.mem_range.mp hi
    have a : (0 : Int) ≤ w * h := Int.mul_nonneg (by omega) (by omega)
    refine e _ _ (Int.emod_nonneg _ (by omega)) (Int.emod_lt_of_pos _ hw) (Int.ediv_nonneg (by omega) (by omega)) ?_
    refine Int.ediv_lt_of_lt_mul hw ?_
    rw [Int.mul_comm]
    omega
  rw [e2]
theorem mkP_self {p : Pc} {m : Int} (k : p.Ok m) {g : Int → Int → Pt} (e : ∀ x y, p.In x y → g x y = p.at x y) (hg : ∀ x y, 0 ≤ (g x y).1 ∧ (g x y).1 ≤ 255 ∧ 0 ≤ (g x y).2 ∧ (g x y).2 ≤ 256) : mkP p.w p.h g = p := by
  refine pc_ext (mkP_ok k.w1 k.w2 k.h1 k.h2 hg) k rfl rfl fun x y hi => ?_
  obtain ⟨a, b, c, d⟩ := hi
  have z := mkP_at (w := p.w) (h := p.h) (g := g) a b c d
  rw [z]
  exact e x y ⟨a, b, c, d⟩
end Od

namespace Od
open PySem L2 Evl
/-- what a layer's value becomes: a mode as a value of its own -/
inductive Md where
  | over | add | times | invert | shift (n : Int)
deriving DecidableEq
def Md.word : Md → Str
  | .over => "over" | .add => "add" | .times => "times" | .invert => "invert" | .shift _ => "shift"
def Md.rest : Md → List V
  | .shift n => [.int n]
  | _ => []
def Md.items (m : Md) : List V := .str m.word :: m.rest
theorem Md.at0 (m : Md) : atI m.items 0 = some (.str m.word) := by cases m <;> rfl
theorem Md.ne_invert {m : Md} (h : m ≠ .invert) : m.word ≠ "invert" := by
  cases m with
  | invert => exact absurd rfl h
  | shift _ => show Str.ofString "shift" ≠ _; decide +kernel
  | _ => decide +kernel
theorem Md.ne_over {m : Md} (h : m ≠ .over) : m.word ≠ "over" := by
  cases m with
  | over => exact absurd rfl h
  | shift _ => show Str.ofString "shift" ≠ _; decide +kernel
  | _ => decide +kernel
def Md.Ok : Md → Prop
  | .shift n => -255 ≤ n ∧ n ≤ 255
  | _ => True
def MdV (H : Hp) (v : V) (m : Md) : Prop := ∃ a, v = .ref a ∧ H a = some (.tup m.items)
theorem MdV.ex {H H' : Hp} {v : V} {m : Md} (e : Ex H H') (h : MdV H v m) : MdV H' v m := by
  obtain ⟨a, rfl, ha⟩ := h
  exact ⟨a, rfl, e _ _ ha⟩
theorem MdV.tk {H H' : Hp} {v : V} {m : Md} (e : TK H H') (h : MdV H v m) : MdV H' v m := by
  obtain ⟨a, rfl, ha⟩ := h
  exact ⟨a, rfl, e _ _ ha⟩
/-- the lesser one of 255 and a value, the greater one of 0 and a value -/
def lo255 (x : Int) : Int := if x < 255 then x else 255
def hi0 (x : Int) : Int := if x > 0 then x else 0
def Md.to : Md → Int → Int → Int
  | .over, _, p => p
  | .add, v, p => lo255 (v + p)
  | .times, v, p => v * p / 255
  | .invert, v, _ => 255 - v
  | .shift n, v, _ => hi0 (lo255 (v + n))
def Md.mix (m : Md) (v p c : Int) : Int := v + (m.to v p - v) * c / 256
theorem times_le {v p : Int} (v0 : 0 ≤ v) (v1 : v ≤ 255) (p0 : 0 ≤ p) (p1 : p ≤ 255) : 0 ≤ v * p / 255 ∧ v * p / 255 ≤ 255 := by
  have h0 : 0 ≤ v * p := Int.mul_nonneg v0 p0
  have h1 : v * p ≤ 255 * 255 := Int.le_trans (Int.mul_le_mul_of_nonneg_right v1 p0) (Int.mul_le_mul_of_nonneg_left p1 (by decide))
  omega
theorem Md.to_in (m : Md) {v p : Int} (v0 : 0 ≤ v) (v1 : v ≤ 255) (p0 : 0 ≤ p) (p1 : p ≤ 255) : 0 ≤ m.to v p ∧ m.to v p ≤ 255 := by
  cases m with
  | over => exact ⟨p0, p1⟩
  | add => show 0 ≤ lo255 _ ∧ lo255 _ ≤ 255; unfold lo255; split <;> omega
  | times => exact times_le v0 v1 p0 p1
  | invert => show 0 ≤ 255 - v ∧ 255 - v ≤ 255; omega
  | shift n => show 0 ≤ hi0 _ ∧ hi0 _ ≤ 255; unfold hi0 lo255; split <;> split <;> omega
/-- between a value and a goal -/
theorem mix_between {v g c : Int} (c0 : 0 ≤ c) (c1 : c ≤ 256) : (v ≤ g → v ≤ v + (g - v) * c / 256 ∧ v + (g - v) * c / 256 ≤ g) ∧ (g ≤ v → g ≤ v + (g - v) * c / 256 ∧ v + (g - v) * c / 256 ≤ v) := by
  refine ⟨fun h => ?_, fun h => ?_⟩
  · have a0 : 0 ≤ (g - v) * c := Int.mul_nonneg (by omega) c0
    have a1 : (g - v) * c ≤ (g - v) * 256 := Int.mul_le_mul_of_nonneg_left c1 (by omega)
    omega
  · have a0 : 0 ≤ (v - g) * c := Int.mul_nonneg (by omega) c0
    have a1 : (v - g) * c ≤ (v - g) * 256 := Int.mul_le_mul_of_nonneg_left c1 (by omega)
    have e : (g - v) * c = -((v - g) * c) := by rw [← Int.neg_mul]; congr 1; omega
    rw [e]
    omega
theorem Md.mix_in (m : Md) {v p c : Int} (v0 : 0 ≤ v) (v1 : v ≤ 255) (p0 : 0 ≤ p) (p1 : p ≤ 255) (c0 : 0 ≤ c) (c1 : c ≤ 256) : 0 ≤ m.mix v p c ∧ m.mix v p c ≤ 255 := by
  obtain ⟨t0, t1⟩ := m.to_in v0 v1 p0 p1
  obtain ⟨h1, h2⟩ := mix_between (v := v) (g := m.to v p) c0 c1
  unfold Md.mix
  by_cases h : v ≤ m.to v p
  · have := h1 h; omega
  · have := h2 (by omega); omega
theorem Md.mix_zero (m : Md) (v p : Int) : m.mix v p 0 = v := by
  unfold Md.mix
  rw [Int.mul_zero]
  omega
theorem Md.mix_full (m : Md) (v p : Int) : m.mix v p 256 = m.to v p := by
  unfold Md.mix
  omega
theorem mix_eq (v g c : Int) : v + (g - v) * c / 256 = (256 * v + (g - v) * c) / 256 := by omega
theorem mix_mono {v w g h c : Int} (hv : v ≤ w) (hg : g ≤ h) (c0 : 0 ≤ c) (c1 : c ≤ 256) : v + (g - v) * c / 256 ≤ w + (h - w) * c / 256 := by
  rw [mix_eq, mix_eq]
  have a : v * (256 - c) ≤ w * (256 - c) := Int.mul_le_mul_of_nonneg_right hv (by omega)
  have b : g * c ≤ h * c := Int.mul_le_mul_of_nonneg_right hg c0
  have e1 : 256 * v + (g - v) * c = v * (256 - c) + g * c := by rw [Int.sub_mul, Int.mul_sub]; omega
  have e2 : 256 * w + (h - w) * c = w * (256 - c) + h * c := by rw [Int.sub_mul, Int.mul_sub]; omega
  rw [e1, e2]
  omega
theorem Md.to_mono (m : Md) {v w p : Int} (hm : m ≠ .invert) (hv : v ≤ w) (p0 : 0 ≤ p) : m.to v p ≤ m.to w p := by
  cases m with
  | over => exact Int.le_refl _
  | add => show lo255 _ ≤ lo255 _; unfold lo255; split <;> split <;> omega
  | times =>
    show v * p / 255 ≤ w * p / 255
    have := Int.mul_le_mul_of_nonneg_right hv p0
    omega
  | invert => exact absurd rfl hm
  | shift n =>
    have e : lo255 (v + n) ≤ lo255 (w + n) := by unfold lo255; split <;> split <;> omega
    show hi0 _ ≤ hi0 _
    unfold hi0
    split <;> split <;> omega
theorem Md.mix_mono (m : Md) {v w p c : Int} (hm : m ≠ .invert) (hv : v ≤ w) (p0 : 0 ≤ p) (c0 : 0 ≤ c) (c1 : c ≤ 256) : m.mix v p c ≤ m.mix w p c :=
  Od.mix_mono hv (m.to_mono hm hv p0) c0 c1
theorem iteW {a b : Str} {A B : Prop} (h : a ≠ b) (q : B) : if decide (V.str a = V.str b) = true then A else B := by
  rw [decide_eq_false fun e => h (V.str.inj e)]
  exact q
theorem iteE {a b : Str} {A B : Prop} (h : a = b) (q : A) : if decide (V.str a = V.str b) = true then A else B := by
  rw [decide_eq_true (congrArg V.str h)]
  exact q
theorem iteWn {a b : Str} {A B : Prop} (h : a ≠ b) (q : A) : if (!decide (V.str a = V.str b)) = true then A else B := by
  rw [decide_eq_false fun e => h (V.str.inj e)]
  exact q
theorem iteEn {a b : Str} {A B : Prop} (h : a = b) (q : B) : if (!decide (V.str a = V.str b)) = true then A else B := by
  rw [decide_eq_true (congrArg V.str h)]
  exact q
theorem iteD {p : Prop} [Decidable p] {A B : Prop} (h : p) (q : A) : if decide p = true then A else B := by
  rw [decide_eq_true h]
  exact q
theorem iteN {p : Prop} [Decidable p] {A B : Prop} (h : ¬ p) (q : B) : if decide p = true then A else B := by
  rw [decide_eq_false h]
  exact q
theorem iteDn {p : Prop} [Decidable p] {A B : Prop} (h : p) (q : B) : if (!decide p) = true then A else B := by
  rw [decide_eq_true h]
  exact q
theorem iteNn {p : Prop} [Decidable p] {A B : Prop} (h : ¬ p) (q : A) : if (!decide p) = true then A else B := by
  rw [decide_eq_false h]
  exact q
def spBlend (K : PySem.W.Frag) (g : Md → Int → Int → Int → Int) : Sp := fun vs H Q _ => ∃ mv m v p c, vs = [mv, .int v, .int p, .int c] ∧ MdV H mv m ∧ m.Ok ∧ 0 ≤ v ∧ v ≤ 255 ∧ 0 ≤ p ∧ p ≤ 255 ∧ 0 ≤ c ∧ c ≤ 256 ∧ Q (.int (g m v p c)) H
end Od

namespace Od
open PySem L2 Evl
/-- a paint as a value of its own -/
inductive Pa where
  | solid (v : Int) | steps (f s z : Int) | pic (p : Pc)
def Pa.word : Pa → Str
  | .solid _ => "solid" | .steps _ _ _ => "steps" | .pic _ => "picture"
def PaV (H : Hp) (v : V) : Pa → Prop
  | .solid x => ∃ a, v = .ref a ∧ H a = some (.tup [.str "solid", .int x])
  | .steps f s z => ∃ a, v = .ref a ∧ H a = some (.tup [.str "steps", .int f, .int s, .int z])
  | .pic p => ∃ a u, v = .ref a ∧ H a = some (.tup [.str "picture", u]) ∧ PcV H u p
theorem PaV.tk {H H' : Hp} {v : V} {p : Pa} (e : TK H H') (h : PaV H v p) : PaV H' v p := by
  cases p with
  | solid x => obtain ⟨a, rfl, ha⟩ := h; exact ⟨a, rfl, e _ _ ha⟩
  | steps f s z => obtain ⟨a, rfl, ha⟩ := h; exact ⟨a, rfl, e _ _ ha⟩
  | pic p => obtain ⟨a, u, rfl, ha, hu⟩ := h; exact ⟨a, u, rfl, e _ _ ha, hu.tk e⟩
def Pa.Ok (m : Int) : Pa → Prop
  | .solid x => 0 ≤ x ∧ x ≤ 255
  | .steps f s z => 0 ≤ f ∧ f ≤ 255 ∧ 0 ≤ s ∧ s ≤ 255 ∧ 1 ≤ z ∧ z ≤ 12
  | .pic p => p.Ok m
def Pa.D : Pa → PyData
  | .solid x => .tuple [.str "solid", .int x]
  | .steps f s z => .tuple [.str "steps", .int f, .int s, .int z]
  | .pic p => .tuple [.str "picture", pcD p]
theorem PaV.dp {K : PySem.W.Frag} {H : Hp} {v : V} {p : Pa} (h : PaV H v p) : Dp K H v p.D := by
  cases p with
  | solid x => obtain ⟨a, rfl, ha⟩ := h; exact .tup (SqT.of ha) (.cons (.str _) (.cons (.int _) .nil))
  | steps f s z => obtain ⟨a, rfl, ha⟩ := h; exact .tup (SqT.of ha) (.cons (.str _) (.cons (.int _) (.cons (.int _) (.cons (.int _) .nil))))
  | pic p => obtain ⟨a, u, rfl, ha, hu⟩ := h; exact .tup (SqT.of ha) (.cons (.str _) (.cons hu.dp .nil))
/-- a paint, or None -/
def OpV (H : Hp) (v : V) : Option Pa → Prop
  | none => v = .non
  | some p => PaV H v p
theorem OpV.tk {H H' : Hp} {v : V} {o : Option Pa} (e : TK H H') (h : OpV H v o) : OpV H' v o := by
  cases o with
  | none => exact h
  | some p => exact PaV.tk e h
def opD : Option Pa → PyData
  | none => .none
  | some p => p.D
theorem OpV.dp {K : PySem.W.Frag} {H : Hp} {v : V} {o : Option Pa} (h : OpV H v o) : Dp K H v (opD o) := by
  cases o with
  | none => cases h; exact .non
  | some p => exact PaV.dp h
def opOk (m : Int) : Option Pa → Prop
  | none => True
  | some p => p.Ok m
/-- a clip -/
structure Cl where
  s : Int
  n : Int
  pa : Option Pa
  fi : Int
  fo : Int
structure Cl.Ok (m : Int) (c : Cl) : Prop where
  s0 : 0 ≤ c.s
  s1 : c.s ≤ m
  n1 : 1 ≤ c.n
  n2 : c.n ≤ 400
  fi0 : 0 ≤ c.fi
  fo0 : 0 ≤ c.fo
  fs : c.fi + c.fo ≤ c.n
  pa : opOk 3 c.pa
def Cl.items (c : Cl) (u : V) : List V := [.int c.s, .int c.n, u, .int c.fi, .int c.fo]
def ClV (H : Hp) (v : V) (c : Cl) : Prop := ∃ a u, v = .ref a ∧ H a = some (.tup (c.items u)) ∧ OpV H u c.pa
theorem ClV.tk {H H' : Hp} {v : V} {c : Cl} (e : TK H H') (h : ClV H v c) : ClV H' v c := by
  obtain ⟨a, u, rfl, ha, hu⟩ := h
  exact ⟨a, u, rfl, e _ _ ha, hu.tk e⟩
def Cl.fin (c : Cl) : Int := c.s + c.n
def Cl.lev (c : Cl) (f : Int) : Int := if f - c.s < c.fi then 256 * (f - c.s + 1) / (c.fi + 1) else if c.n - (f - c.s) - 1 < c.fo then 256 * (c.n - (f - c.s) - 1 + 1) / (c.fo + 1) else 256
def spLevel (K : PySem.W.Frag) : Sp := fun vs H Q _ => ∃ cv c m f, vs = [cv, .int f] ∧ ClV H cv c ∧ c.Ok m ∧ m ≤ 100000 ∧ c.s ≤ f ∧ f < c.fin ∧ Q (.int (c.lev f)) H
def spEnd (K : PySem.W.Frag) : Sp := fun vs H Q _ => ∃ cv c, vs = [cv] ∧ ClV H cv c ∧ Q (.int c.fin) H
theorem Cl.lev_in {m : Int} {c : Cl} (k : c.Ok m) {f : Int} (h0 : c.s ≤ f) (h1 : f < c.fin) : 0 ≤ c.lev f ∧ c.lev f ≤ 256 := by
  have := k.fi0
  have := k.fo0
  unfold Cl.lev
  unfold Cl.fin at h1
  have aux : ∀ x y : Int, 0 ≤ x → x < y → 0 ≤ 256 * (x + 1) / (y + 1) ∧ 256 * (x + 1) / (y + 1) ≤ 256 := fun x y x0 xy => by
    refine ⟨Int.ediv_nonneg (by omega) (by omega), ?_⟩
    have : 256 * (x + 1) / (y + 1) < 257 := Int.ediv_lt_of_lt_mul (by omega) (by omega)
    omega
  split
  · exact aux _ _ (by omega) (by omega)
  · split
    · exact aux _ _ (by omega) (by omega)
    · omega
/-- a list of so many ints of this kind stands at D -/
def IntsIn (H : Hp) (D : Addr) (n : Nat) (P : Int → Prop) : Prop := ∃ ns : List Int, H D = some (.lst (ns.map V.int)) ∧ ns.length = n ∧ ∀ x ∈ ns, P x
theorem IntsIn.snoc {H0 H H2 : Hp} {D : Addr} {n : Nat} {P : Int → Prop} {x : Int} (hD : H0 D = none) (e : Ex H0 H) (h : IntsIn H D n P) (e2 : Ex H H2) (hn : n ≤ 1000) (hx : P x) : ∃ acc, H2 D = some (.lst acc) ∧ acc.length < sizeLine ∧ Ex H0 (upd H2 D (.lst (acc ++ [.int x]))) ∧ IntsIn (upd H2 D (.lst (acc ++ [.int x]))) D (n + 1) P := by
  obtain ⟨ns, h1, h2, h3⟩ := h
  refine ⟨_, e2 _ _ h1, slineL (by rw [List.length_map]; omega), (e.trans e2).mut hD, ns ++ [x], by rw [upd_same, List.map_append]; rfl, by simp [h2], fun y hy => ?_⟩
  rcases List.mem_append.mp hy with z | z
  · exact h3 y z
  · rw [List.mem_singleton.mp z]
    exact hx
end Od

namespace Od
open PySem L2 Evl
def Pa.at : Pa → Int → Int → Pt
  | .solid v, _, _ => (v, 256)
  | .steps f s z, x, y => (if (x / z + y / z) % 2 = 0 then f else s, 256)
  | .pic p, x, y => p.at x y
def opAt : Option Pa → Int → Int → Pt
  | none, _, _ => (0, 256)
  | some p, x, y => p.at x y
theorem opAt_in {m : Int} {o : Option Pa} (k : opOk m o) (x y : Int) : 0 ≤ (opAt o x y).1 ∧ (opAt o x y).1 ≤ 255 ∧ 0 ≤ (opAt o x y).2 ∧ (opAt o x y).2 ≤ 256 := by
  cases o with
  | none => show (0 : Int) ≤ 0 ∧ (0 : Int) ≤ 255 ∧ (0 : Int) ≤ 256 ∧ (256 : Int) ≤ 256; decide
  | some p =>
    cases p with
    | solid v => exact ⟨k.1, k.2, by show (0 : Int) ≤ 256; decide, by show (256 : Int) ≤ 256; decide⟩
    | steps f s z =>
      obtain ⟨a, b, c, d, _, _⟩ := k
      refine ⟨?_, ?_, by show (0 : Int) ≤ 256; decide, by show (256 : Int) ≤ 256; decide⟩
      · show 0 ≤ if (x / z + y / z) % 2 = 0 then f else s
        split <;> omega
      · show (if (x / z + y / z) % 2 = 0 then f else s) ≤ 255
        split <;> omega
    | pic p => exact at_bound k x y
/-- a paint's value and cover at a point -/
def spAt (K : PySem.W.Frag) : Sp := fun vs H Q _ => ∃ v o m x y, vs = [v, .int x, .int y] ∧ OpV H v o ∧ opOk m o ∧ m ≤ 60 ∧ 0 ≤ x ∧ x ≤ 1000 ∧ 0 ≤ y ∧ y ≤ 1000 ∧ ∀ u H', Ex H H' → PtV H' u (opAt o x y) → Q u H'
theorem PaV.mk {H : Hp} {v : V} {p : Pa} (h : PaV H v p) : ∃ a xs, v = .ref a ∧ H a = some (.tup (.str p.word :: xs)) := by
  cases p with
  | solid x => obtain ⟨a, rfl, ha⟩ := h; exact ⟨a, _, rfl, ha⟩
  | steps f s z => obtain ⟨a, rfl, ha⟩ := h; exact ⟨a, _, rfl, ha⟩
  | pic p => obtain ⟨a, u, rfl, ha, _⟩ := h; exact ⟨a, _, rfl, ha⟩
theorem steps_two {f s z x y : Int} (hz : 1 ≤ z) : Pa.at (.steps f s z) (x + 2 * z) y = Pa.at (.steps f s z) x y ∧ Pa.at (.steps f s z) x (y + 2 * z) = Pa.at (.steps f s z) x y := by
  have e : ∀ t : Int, (t + 2 * z) / z = t / z + 2 := fun t => Int.add_mul_ediv_right t 2 (by omega)
  unfold Pa.at
  dsimp only
  rw [e, e]
  constructor
  · congr 1
    have : (x / z + 2 + y / z) % 2 = (x / z + y / z) % 2 := by omega
    rw [this]
  · congr 1
    have : (x / z + (y / z + 2)) % 2 = (x / z + y / z) % 2 := by omega
    rw [this]
theorem steps_one {f s z x y : Int} (hz : 1 ≤ z) : Pa.at (.steps f s z) (x + z) y = (f + s - (Pa.at (.steps f s z) x y).1, 256) ∧ Pa.at (.steps f s z) x (y + z) = (f + s - (Pa.at (.steps f s z) x y).1, 256) := by
  have e : ∀ t : Int, (t + z) / z = t / z + 1 := fun t => by
    have := Int.add_mul_ediv_right t 1 (show z ≠ 0 by omega)
    rwa [Int.one_mul] at this
  unfold Pa.at
  dsimp only
  rw [e, e]
  constructor
  · congr 1
    split <;> split <;> omega
  · congr 1
    split <;> split <;> omega
end Od

namespace Od
open PySem L2 Evl
theorem at_head {x : V} {xs : List V} : atI (x :: xs) 0 = some x := by
  have e := atI_nat (xs := x :: xs) (j := 0) (v := x) rfl
  exact e
theorem cutV_mid {xs : List V} {lo hi : Int} (l0 : 0 ≤ lo) (lh : lo ≤ hi) (hh : hi ≤ xs.length) : cutV xs (some lo) (some hi) = (xs.drop lo.toNat).take (hi - lo).toNat := by
  unfold cutV
  obtain ⟨l, rfl⟩ := Int.eq_ofNat_of_zero_le l0
  obtain ⟨h, rfl⟩ := Int.eq_ofNat_of_zero_le (Int.le_trans l0 lh)
  rw [HT.sIx_nat, HT.sIx_nat, Nat.min_eq_left (by omega), Nat.min_eq_left (by omega)]
  congr 1
  omega
/-- its cover is 256 at each point of this size -/
def Full (o : Option Pa) (w h : Int) : Prop := o.isSome = true ∧ ∀ x y, 0 ≤ x → x < w → 0 ≤ y → y < h → (opAt o x y).2 = 256
theorem Full.less {o : Option Pa} {w h w' h' : Int} (f : Full o w h) (hw : w' ≤ w) (hh : h' ≤ h) : Full o w' h' := ⟨f.1, fun x y x0 x1 y0 y1 => f.2 x y x0 (by omega) y0 (by omega)⟩
def spFull (K : PySem.W.Frag) : Sp := fun vs H Q _ => ∃ v o m wd hg, vs = [v, .int wd, .int hg] ∧ OpV H v o ∧ opOk m o ∧ m ≤ 12 ∧ 1 ≤ wd ∧ wd ≤ 100 ∧ 1 ≤ hg ∧ hg ≤ 100 ∧ ∀ b H', Ex H H' → (b = true ↔ Full o wd hg) → Q (.bl b) H'
end Od

namespace Od
open PySem L2 Evl
structure Ly where
  m : Md
  lv : Int
  pa : Option Pa
structure Ly.Ok (l : Ly) : Prop where
  m : l.m.Ok
  l0 : 0 ≤ l.lv
  l1 : l.lv ≤ 256
  pa : opOk 8 l.pa
def LyV (H : Hp) (v : V) (l : Ly) : Prop := ∃ a mv pv, v = .ref a ∧ H a = some (.tup [mv, .int l.lv, pv]) ∧ MdV H mv l.m ∧ OpV H pv l.pa
theorem LyV.tk {H H' : Hp} {v : V} {l : Ly} (e : TK H H') (h : LyV H v l) : LyV H' v l := by
  obtain ⟨a, mv, pv, rfl, ha, hm, hp⟩ := h
  exact ⟨a, mv, pv, rfl, e _ _ ha, hm.tk e, hp.tk e⟩
abbrev LysV (H : Hp) : List V → List Ly → Prop := Paired (LyV H)
theorem LysV.tk {H H' : Hp} {vs : List V} {ls : List Ly} (e : TK H H') (h : LysV H vs ls) : LysV H' vs ls := Paired.mapP h fun _ _ => LyV.tk e
theorem pr_take {α β : Type} {G : α → β → Prop} : ∀ {l₁ : List α} {l₂ : List β} (n : Nat), Paired G l₁ l₂ → Paired G (l₁.take n) (l₂.take n)
  | _, _, 0, _ => by simp only [List.take_zero]; exact .nil
  | _, _, _ + 1, .nil => by simp only [List.take_nil]; exact .nil
  | _, _, n + 1, .cons h t => by simp only [List.take_succ_cons]; exact .cons h (pr_take n t)
theorem pr_drop {α β : Type} {G : α → β → Prop} : ∀ {l₁ : List α} {l₂ : List β} (n : Nat), Paired G l₁ l₂ → Paired G (l₁.drop n) (l₂.drop n)
  | _, _, 0, h => h
  | _, _, _ + 1, .nil => by simp only [List.drop_nil]; exact .nil
  | _, _, n + 1, .cons h t => by simp only [List.drop_succ_cons]; exact pr_drop n t
theorem cutV_take {xs : List V} {k : Nat} (h : k ≤ xs.length) : cutV xs none (some (k : Int)) = xs.take k := by
  unfold cutV
  rw [HT.sIx_nat, HT.sIx_none, Nat.min_eq_left h, List.drop_zero, Nat.sub_zero]
theorem cutV_drop {xs : List V} {k : Nat} (h : k ≤ xs.length) : cutV xs (some (k : Int)) none = xs.drop k := by
  unfold cutV
  rw [HT.sIx_nat, HT.sIx_none, Nat.min_eq_left h]
  exact List.take_of_length_le (by rw [List.length_drop]; omega)
/-- the value behind a layer -/
def Ly.step (x y : Int) (v : Int) (l : Ly) : Int := l.m.mix v (opAt l.pa x y).1 ((opAt l.pa x y).2 * l.lv / 256)
def put (ls : List Ly) (b x y : Int) : Int := ls.foldl (Ly.step x y) b
theorem cov_in {c l : Int} (c0 : 0 ≤ c) (c1 : c ≤ 256) (l0 : 0 ≤ l) (l1 : l ≤ 256) : 0 ≤ c * l / 256 ∧ c * l / 256 ≤ 256 := by
  have h0 : 0 ≤ c * l := Int.mul_nonneg c0 l0
  have h1 : c * l ≤ 256 * 256 := Int.le_trans (Int.mul_le_mul_of_nonneg_right c1 l0) (Int.mul_le_mul_of_nonneg_left l1 (by decide))
  omega
theorem Ly.step_in {l : Ly} (k : l.Ok) (x y : Int) {v : Int} (v0 : 0 ≤ v) (v1 : v ≤ 255) : 0 ≤ l.step x y v ∧ l.step x y v ≤ 255 := by
  obtain ⟨a, b, c, d⟩ := opAt_in k.pa x y
  obtain ⟨e, f⟩ := cov_in c d k.l0 k.l1
  exact l.m.mix_in v0 v1 a b e f
theorem put_in : ∀ {ls : List Ly} {x y b : Int}, (∀ l ∈ ls, l.Ok) → 0 ≤ b → b ≤ 255 → 0 ≤ put ls b x y ∧ put ls b x y ≤ 255
  | [], _, _, _, _, b0, b1 => ⟨b0, b1⟩
  | l :: ls, x, y, b, k, b0, b1 => by
    obtain ⟨s0, s1⟩ := Ly.step_in (k l (List.mem_cons_self ..)) x y b0 b1
    exact put_in (ls := ls) (fun m hm => k m (List.mem_cons_of_mem _ hm)) s0 s1
theorem put_app {ls ms : List Ly} {b x y : Int} : put (ls ++ ms) b x y = put ms (put ls b x y) x y := List.foldl_append ..
theorem put_snoc {ls : List Ly} {l : Ly} {i : Nat} {b x y : Int} (h : ls[i]? = some l) : put (ls.take (i + 1)) b x y = l.step x y (put (ls.take i) b x y) := by
  rw [List.take_add_one, h, put_app]
  rfl
theorem split_at {ls : List Ly} {l : Ly} {i : Nat} (h : ls[i]? = some l) : ls.drop i = l :: ls.drop (i + 1) := by
  obtain ⟨hi, e⟩ := List.getElem?_eq_some_iff.mp h
  rw [List.drop_eq_getElem_cons hi, e]
/-- a layer that hides what is below it -/
theorem put_hides {ls ms : List Ly} {l : Ly} {i : Nat} {b c x y : Int} (h : ls[i]? = some l) (hm : l.m = .over) (hl : l.lv = 256) (hc : (opAt l.pa x y).2 = 256) : put (ms ++ ls.drop i) c x y = put ls b x y := by
  have e : ∀ v w : Int, l.step x y v = l.step x y w := fun v w => by
    unfold Ly.step
    rw [hm, hl, hc]
    show Md.mix .over v _ 256 = Md.mix .over w _ 256
    rw [Md.mix_full, Md.mix_full]
    rfl
  have e2 : put ls b x y = put (ls.take i ++ ls.drop i) b x y := by rw [List.take_append_drop]
  rw [e2, put_app, put_app, split_at h]
  show put (ls.drop (i + 1)) (l.step x y _) x y = put (ls.drop (i + 1)) (l.step x y _) x y
  rw [e _ (put (ls.take i) b x y)]
/-- a layer that does nothing at the point -/
theorem put_left {ls : List Ly} {l : Ly} {i : Nat} {b x y : Int} (h : ls[i]? = some l) (hc : (opAt l.pa x y).2 * l.lv = 0) : put (ls.take i ++ ls.drop (i + 1)) b x y = put ls b x y := by
  have e2 : put ls b x y = put (ls.take i ++ ls.drop i) b x y := by rw [List.take_append_drop]
  rw [e2, put_app, put_app, split_at h]
  show _ = put (ls.drop (i + 1)) (l.step x y _) x y
  have e : ∀ v : Int, l.step x y v = v := fun v => by
    unfold Ly.step
    rw [hc]
    exact Md.mix_zero _ _ _
  rw [e]
def spPut (K : PySem.W.Frag) : Sp := fun vs H Q _ => ∃ a us ls b x y, vs = [.ref a, .int b, .int x, .int y] ∧ H a = some (.lst us) ∧ LysV H us ls ∧ (∀ l ∈ ls, l.Ok) ∧ 0 ≤ b ∧ b ≤ 255 ∧ 0 ≤ x ∧ x ≤ 1000 ∧ 0 ≤ y ∧ y ≤ 1000 ∧ ∀ H', Ex H H' → Q (.int (put ls b x y)) H'
def Md.D : Md → PyData
  | .over => .tuple [.str "over"] | .add => .tuple [.str "add"] | .times => .tuple [.str "times"] | .invert => .tuple [.str "invert"] | .shift n => .tuple [.str "shift", .int n]
theorem MdV.dp {K : PySem.W.Frag} {H : Hp} {v : V} {m : Md} (h : MdV H v m) : Dp K H v m.D := by
  obtain ⟨a, rfl, ha⟩ := h
  cases m with
  | shift n => exact .tup (SqT.of ha) (.cons (.str _) (.cons (.int _) .nil))
  | _ => exact .tup (SqT.of ha) (.cons (.str _) .nil)
theorem Md.shaped (m : Md) : SeqAt.shaped m.D = true := by
  cases m with
  | shift n => exact shaped_of (by simp only [Md.D, PyData.canLay0, PyData.canLayAll0, Bool.and_self]; decide +kernel) (by simp only [Md.D, PyData.depth, PyData.depthAll]; decide)
  | _ => decide +kernel
theorem Md.eqv_over (m : Md) : PyData.eqv m.D (Md.D .over) = decide (m = .over) := by
  cases m with
  | shift n => simp [Md.D, PyData.eqv, PyData.eqvAll]
  | over => decide +kernel
  | add => decide +kernel
  | times => decide +kernel
  | invert => decide +kernel
end Od

/-! enumerate(t) of a tuple t (the library has it of lists and of texts): the steps are those of the model's enumerate.__new__ and __next__, so they go as the library's own for lists -/
namespace Od
open PySem PySem.Spec PyProof.Rows L2
open AutoSeq1 (wpAny_loadPart')
open Sem (wp)

theorem ent_new (l : Addr) (xs : Array Value) (n : Nat) (dx : Option Addr) (sl : Array (Option Value)) :
    Meets (Builtin.«enumerate.__new__» ⟨[.type "enumerate", .ref l], []⟩) (fun _ R s =>
      s.heap.get? l = some { cls := .type "tuple", dict := dx, data := .seq xs n, slots := sl } ∧ R (.ok (.ret (.ref (s.heap.objs.size + 1))))
        { s with heap := (s.heap.push { cls := .type "tuple_iterator", data := .fields #[.ref l, .int 0 0] }).push { cls := .type "enumerate", data := .fields #[.none, .bool false, .ref s.heap.objs.size, rawInt 0, .none, .none] } }) :=
  .of_wp fun prog w A R s ⟨look, fin⟩ => by
    obtain ⟨hp, gens, drawn, tk, os⟩ := s
    have isub := sub_enumerate
    have isT : Heap.IsTuple (Shared.heap ⟨hp, gens, drawn, tk, os⟩) l xs := ⟨_, look, rfl, n, rfl⟩
    have esz : (hp.push { cls := .type "tuple_iterator", data := .fields #[.ref l, .int 0 0] }).objs.size = hp.objs.size + 1 := Heap.size_push ..
    rw [← esz] at fin
    wp_walk using wpAny_loadPart' look
    refine wpAny_stack_any fun stk => wpAny_pure ?_
    split
    · rename_i cl _ _ _ _ _
      rcases (cl == Value.type "enumerate")
      all_goals (wp_walk using wpAny_loadPart' look, wpAny_pyIter_tuple isT; exact ⟨_, rfl, fin⟩)
    · wp_walk using wpAny_loadPart' look, wpAny_pyIter_tuple isT
      exact ⟨_, rfl, fin⟩

section
variable {prog : Program} {w : World} {A : Around} {E : Value → Shared → Prop} {s : Shared}
theorem ent_make {l : Addr} {xs : Array Value} {Q : Value → Shared → Prop} (isT : s.heap.IsTuple l xs)
    (q : ∀ h', IsEnum h' (s.heap.objs.size + 1) s.heap.objs.size 0 .none → h'.IsTupleIter s.heap.objs.size l 0 →
      (∀ b o, s.heap.get? b = some o → h'.get? b = some o) → Q (.ref (s.heap.objs.size + 1)) { s with heap := h' }) :
    wpAny (model prog w) A (call (.type "enumerate") [.ref l]) Q E s := by
  obtain ⟨⟨cl, dx, dat, sl⟩, look, ec, n, ed⟩ := isT
  have ec : cl = .type "tuple" := ec
  have ed : dat = .seq xs n := ed
  subst ec
  subst ed
  refine callType_new F.called_enumerate (by decide) (F.typeCall_enumerate_1 _) (F.newCall_enumerate_1 _) (fun ob => F.args_object_init_2 ob _) F.entry_enumerate_new (ent_new l xs n dx sl) ⟨look, ?_⟩
  have esz : (s.heap.push { cls := .type "tuple_iterator", data := .fields #[.ref l, .int 0 0] }).objs.size = s.heap.objs.size + 1 := Heap.size_push ..
  have isE : IsEnum ((s.heap.push { cls := .type "tuple_iterator", data := .fields #[.ref l, .int 0 0] }).push { cls := .type "enumerate", data := .fields #[.none, .bool false, .ref s.heap.objs.size, rawInt 0, .none, .none] }) (s.heap.objs.size + 1) s.heap.objs.size 0 .none :=
    esz ▸ Heap.get?_push_size _ rfl
  exact ⟨⟨_, isE, rfl⟩, q _ isE ⟨_, Heap.get?_push_of_some _ (Heap.get?_push_size _ rfl), rfl, rfl⟩ fun b o e => Heap.get?_push_of_some _ (Heap.get?_push_of_some _ e)⟩

theorem tnx_item {it t : Addr} {i : Nat} {xs : Array Value} {x : Value} {Q : Value → Shared → Prop} (st : s.heap.IsTupleIter it t i) (isT : s.heap.IsTuple t xs) (ex : xs[i]? = some x)
    (q : ∀ h', h'.IsTupleIter it t (i + 1) → Heap.SameBut it s.heap h' → Q x { s with heap := h' }) : wpAny (model prog w) A (Builtin.SmallTypes.nextOf (.ref it)) Q E s := by
  have ty := st.typeIs
  obtain ⟨oi, looki, ci, di⟩ := st
  obtain ⟨ot, lookt, _, n, dt⟩ := isT
  unfold Builtin.SmallTypes.nextOf
  refine wpAny_bind (wpAny_callSpecial?_slot (name := Str.ofString "__next__") ty F.slot_tuple_iterator_next (wpAny_call_entry F.slot_tuple_iterator_next ty F.entry_tuple_iterator_next ?_ (F.args_tuple_iterator_next_1 _)))
  refine wpAny_bind (m := field (.ref it) 0) (wpAny_field looki di (x := .ref t) rfl ?_)
  have alive : ¬ (Value.ref t == Value.none) = true := fun z => Bool.noConfusion z
  change wpAny _ _ (if (Value.ref t == Value.none) = true then _ else _) _ _ s
  rw [if_neg alive]
  refine wpAny_bind (m := field (.ref it) 1) (wpAny_field looki di (x := .int i 0) rfl (wpAny_bind (m := seqItems? (.ref t)) (wpAny_seqItems lookt dt ?_)))
  simp only [Int.toNat_natCast, ex]
  refine wpAny_bind (wpAny_setField looki di (by simp) (wpAny_pure ⟨x, rfl, wpAny_pure (q _ ⟨_, Heap.get?_update_self _ looki (Obj.isFreed_of_fields (Obj.data_mapFields di _)), (Obj.cls_mapFields ..).trans ci, ?_⟩ (Heap.SameBut.update ..))⟩))
  rw [Obj.data_mapFields di]
  simp [rawInt]

theorem tnx_end {it t : Addr} {i : Nat} {xs : Array Value} {Q : Value → Shared → Prop} (hh : A.handled = none) (st : s.heap.IsTupleIter it t i) (isT : s.heap.IsTuple t xs) (ex : xs[i]? = none)
    (q : ∀ h' e, Heap.ExtBut it s.heap h' → (∃ o, h'.get? e = some o ∧ o.cls = .type "StopIteration") → E (.ref e) { s with heap := h' }) : wpAny (model prog w) A (Builtin.SmallTypes.nextOf (.ref it)) Q E s := by
  have ty := st.typeIs
  obtain ⟨oi, looki, ci, di⟩ := st
  obtain ⟨ot, lookt, _, n, dt⟩ := isT
  unfold Builtin.SmallTypes.nextOf
  refine wpAny_bind (wpAny_callSpecial?_slot (name := Str.ofString "__next__") ty F.slot_tuple_iterator_next (wpAny_call_entry F.slot_tuple_iterator_next ty F.entry_tuple_iterator_next ?_ (F.args_tuple_iterator_next_1 _)))
  refine wpAny_bind (m := field (.ref it) 0) (wpAny_field looki di (x := .ref t) rfl ?_)
  have alive : ¬ (Value.ref t == Value.none) = true := fun z => Bool.noConfusion z
  change wpAny _ _ (if (Value.ref t == Value.none) = true then _ else _) _ _ s
  rw [if_neg alive]
  refine wpAny_bind (m := field (.ref it) 1) (wpAny_field looki di (x := .int i 0) rfl (wpAny_bind (m := seqItems? (.ref t)) (wpAny_seqItems lookt dt ?_)))
  simp only [Int.toNat_natCast, ex]
  refine wpAny_bind (wpAny_rule (wpAny_bind (wpAny_setField looki di (by simp) (wpAny_bind (m := newExc (.type "StopIteration") []) ?_))))
  simp only [newExc, newTuple]
  refine wpAny_bind (wpAny_newObj_type (wpAny_bind (m := firstArgMember _ _) (wpAny_of_eq (a := Value.none) (by first | rfl | (simp only [firstArgMember]; rfl)) (wpAny_newObj_type ?_ (by size_fits)))) (by size_fits))
  simp only [raiseNew]
  refine wpAny_bind (wpAny_handled ?_)
  first
    | rw [show A.in1.handled = none from hh]
    | rw [hh]
  exact wpAny_bind (wpAny_pure (wpAny_throw (q _ _ (((Heap.SameBut.update ..).extBut.push _).push _) ⟨_, Heap.get?_push_size _ rfl, rfl⟩)))
/-- one turn: a new pair of the number and the item -/
theorem ent_turn {e it l : Addr} {i : Nat} {xs : Array Value} {x old : Value} {Q : Option Value → Shared → Prop} (isE : IsEnum s.heap e it i old) (st : s.heap.IsTupleIter it l i) (isT : s.heap.IsTuple l xs) (ex : xs[i]? = some x) (apart : e ≠ it)
    (q : ∀ h', IsEnumOut h' e it ((i : Int) + 1) x s.heap.objs.size → h'.IsTupleIter it l (i + 1) → h'.get? s.heap.objs.size = some { cls := .type "tuple", data := .seq #[.int i s.toks, x] } →
      (∀ b o, b ≠ e → b ≠ it → s.heap.get? b = some o → h'.get? b = some o) → Q (some (.ref s.heap.objs.size)) { s with heap := h', toks := s.toks + 1 }) :
    wpAny (model prog w) A (pyNext (.ref e)) Q E s := by
  have ty : s.TypeIs (.ref e) "enumerate" := ⟨_, isE, rfl⟩
  have low := Heap.lt_size isE
  unfold pyNext
  refine wpAny_bind (wpAny_attempt (wpAny_callSpecial?_slot (name := Str.ofString "__next__") ty F.slot_enumerate_next (wpAny_call_entry F.slot_enumerate_next ty F.entry_enumerate_next ?_ (F.args_enumerate_next_1 _))))
  obtain ⟨hp, gens, drawn, tk, os⟩ := s
  refine wpAny_bind (m := field (.ref e) 2) (wpAny_field isE rfl (x := .ref it) rfl (wpAny_bind (tnx_item st isT ex fun k1 st1 sb1 => ?_)))
  have sb1 : Heap.SameBut it hp k1 := sb1
  have f1 : IsEnum k1 e it i old := (sb1.2 e apart).trans isE
  refine wpAny_bind (m := field (.ref e) 3) (wpAny_field f1 rfl (x := rawInt i) rfl (wpAny_bind (m := field (.ref e) 4) (wpAny_field f1 rfl (x := .none) rfl (wpAny_bind (m := mkInt i) (wpAny_mkInt (wpAny_bind (wpAny_setField_rec f1 (by simp) fun k2 f2 sb2 => ?_)))))))
  have sb2 : Heap.SameBut e k1 k2 := sb2
  have f2 : IsEnum k2 e it ((i : Int) + 1) old := f2
  refine wpAny_bind (wpAny_setField_rec f2 (by simp) fun k3 f3 sb3 => ?_)
  have sb3 : Heap.SameBut e k2 k3 := sb3
  have f3 : IsEnum k3 e it ((i : Int) + 1) old := f3
  refine wpAny_bind (m := newTuple [.int i tk, x]) (wpAny_newTuple ?_)
  have size3 : k3.objs.size = hp.objs.size := by rw [sb3.1, sb2.1, sb1.1]
  have back : ∀ b o, b ≠ e → b ≠ it → hp.get? b = some o → (k3.push { cls := .type "tuple", data := .seq #[.int i tk, x] }).get? b = some o := fun b o be bi hb =>
    Heap.get?_push_of_some _ (sb3.extBut b o be (sb2.extBut b o be (sb1.extBut b o bi hb)))
  have pair : (k3.push { cls := .type "tuple", data := .seq #[.int i tk, x] }).get? hp.objs.size = some { cls := .type "tuple", data := .seq #[.int i tk, x] } := size3 ▸ Heap.get?_push_size _ rfl
  have st3 := (st1.extBut sb2.extBut (Ne.symm apart)).extBut sb3.extBut (Ne.symm apart)
  have st4 : (k3.push { cls := .type "tuple", data := .seq #[.int i tk, x] }).IsTupleIter it l (i + 1) := by
    obtain ⟨o3, look3, rest3⟩ := st3
    exact ⟨o3, Heap.get?_push_of_some _ look3, rest3⟩
  have f4 : IsEnum (k3.push { cls := .type "tuple", data := .seq #[.int i tk, x] }) e it ((i : Int) + 1) old := Heap.get?_push_of_some _ f3
  rw [show (Value.ref k3.objs.size) = .ref hp.objs.size from congrArg Value.ref size3]
  generalize k3.push { cls := .type "tuple", data := .seq #[.int i tk, x] } = k4 at back pair st4 f4
  refine wpAny_bind (m := Builtin.SmallTypes.ownedTupleIsFree (.ref e)) ?_
  unfold Builtin.SmallTypes.ownedTupleIsFree
  refine wpAny_bind (wpAny_field f4 rfl (x := .none) rfl (wpAny_pure ?_))
  simp only [if_true]
  refine wpAny_bind (wpAny_rule (wpAny_bind (wpAny_field f4 rfl (x := old) rfl (wpAny_bind (wpAny_setField_rec f4 (by simp) fun k5 f5 sb5 => ?_)))))
  have sb5 : Heap.SameBut e k4 k5 := sb5
  have f5 : IsEnum k5 e it ((i : Int) + 1) x := f5
  refine wpAny_bind (m := Builtin.SmallTypes.ownedTupleHandOut (.ref e) (.ref hp.objs.size)) ?_
  unfold Builtin.SmallTypes.ownedTupleHandOut
  refine wpAny_bind (wpAny_setField_rec f5 (by simp) fun k6 f6 sb6 => ?_)
  have sb6 : Heap.SameBut e k5 k6 := sb6
  have f6 : IsEnumOut k6 e it ((i : Int) + 1) x hp.objs.size := f6
  refine wpAny_setField_rec f6 (by simp) fun k7 f7 sb7 => ?_
  have sb7 : Heap.SameBut e k6 k7 := sb7
  have f7 : IsEnumOut k7 e it ((i : Int) + 1) x hp.objs.size := f7
  have low : e < hp.objs.size := low
  refine wpAny_bind (wpAny_letGo (wpAny_pure ⟨_, rfl, wpAny_pure (q k7 f7 ?_ ?_ ?_)⟩))
  · exact ((st4.extBut sb5.extBut (Ne.symm apart)).extBut sb6.extBut (Ne.symm apart)).extBut sb7.extBut (Ne.symm apart)
  · exact sb7.extBut _ _ (Nat.ne_of_gt low) (sb6.extBut _ _ (Nat.ne_of_gt low) (sb5.extBut _ _ (Nat.ne_of_gt low) pair))
  · exact fun b o be bi hb => sb7.extBut b o be (sb6.extBut b o be (sb5.extBut b o be (back b o be bi hb)))
theorem ent_stop {e it l : Addr} {i : Nat} {xs : Array Value} {old : Value} {Q : Option Value → Shared → Prop} (hh : A.handled = none) (isE : IsEnum s.heap e it i old) (st : s.heap.IsTupleIter it l i) (isT : s.heap.IsTuple l xs) (ex : xs[i]? = none)
    (q : ∀ h', Heap.ExtBut it s.heap h' → Q none { s with heap := h' }) : wpAny (model prog w) A (pyNext (.ref e)) Q E s := by
  have ty : s.TypeIs (.ref e) "enumerate" := ⟨_, isE, rfl⟩
  unfold pyNext
  refine wpAny_bind (wpAny_attempt (wpAny_callSpecial?_slot (name := Str.ofString "__next__") ty F.slot_enumerate_next (wpAny_call_entry F.slot_enumerate_next ty F.entry_enumerate_next ?_ (F.args_enumerate_next_1 _))))
  refine wpAny_bind (m := field (.ref e) 2) (wpAny_field isE rfl (x := .ref it) rfl (wpAny_bind (tnx_end hh st isT ex fun k x ext ⟨o, look, ec⟩ => ?_)))
  exact wpAny_bind (wpAny_isInstance (T := "StopIteration") (b := true) ⟨o, look, ec⟩ isSubtype_stop (wpAny_pure (q _ ext)))
end

/-- the tuple at a, each item in a new pair with its number -/
def ItET (K : PySem.W.Frag) (a : Addr) : It where
  go := fun i H => ∃ (xs : List V) (x : V), SqT K H a xs ∧ xs[i]? = some x
  yld := fun i H v H' => ∃ T x, v = .ref T ∧ H T = none ∧ H' = upd H T (.tup [.int (i : Nat), x]) ∧ ∀ xs, SqT K H a xs → xs[i]? = some x
  stop := fun i H => ∃ xs : List V, SqT K H a xs ∧ xs.length ≤ i
theorem turn_ET {P : Program} {w : World} {K : PySem.W.Frag} {elts : List Expr} {kk : Nat} {tpos : Pos} (a e it : Addr) :
    Turn P w K (.Tuple elts kk tpos) (ItET K a) [e, it] e (fun i h => (∃ old, IsEnum h e it ((i : Nat) : Int) old) ∧ h.IsTupleIter it a i ∧ e ≠ it) where
  mem := List.mem_cons_self
  obj := fun i h ⟨⟨_, isE⟩, ⟨o, look, _, dat⟩, _⟩ b hb => by
    rcases (by simpa using hb : b = e ∨ b = it) with rfl | rfl
    · exact ⟨_, isE, fun v z => nomatch z⟩
    · exact ⟨o, look, fun v z => by rw [dat] at z; cases z⟩
  keep := fun i h h' ⟨⟨old, isE⟩, st, ap⟩ k => ⟨⟨old, k e (by simp) _ isE⟩, st.at fun o z => k it (by simp) o z, ap⟩
  item := by
    intro X eP ew eK hc i pins s σ H E I hf st go
    subst eP ew eK
    obtain ⟨⟨old, isE⟩, st, ap⟩ := st
    obtain ⟨xs, x, sq, hx⟩ := go
    obtain ⟨vs, rel, isT, _⟩ := I.tuple sq
    obtain ⟨u, hu, ru⟩ := rel.get hx
    have le : e < s.heap.objs.size := Heap.lt_size isE
    have li : it < s.heap.objs.size := by obtain ⟨_, z, _⟩ := st; exact Heap.lt_size z
    refine ent_turn isE st (show s.heap.IsTuple a vs.toArray from isT) (x := u) (by simpa using hu) ap fun h1 o1 st1 pair1 k1 => ?_
    refine ⟨_, rfl, wpAny_letOwnedTupleGo_enum (s := { s with heap := h1, toks := s.toks + 1 }) o1 fun h2 o2 sb => ?_⟩
    have pair2 : h2.get? s.heap.objs.size = some { cls := .type "tuple", data := .seq #[.int i s.toks, u] } := (sb.2 _ (Nat.ne_of_gt le)).trans pair1
    have fresh : ObjOk X.prog X.w (upd H s.heap.objs.size (.tup [.int (i : Nat), x])) h2 s.heap.objs.size (.tup [.int (i : Nat), x]) :=
      ⟨by show 2 ≤ sizeLine; decide, [.int i s.toks, u], .cons ⟨_, rfl⟩ (.cons ru .nil), ⟨_, pair2, rfl, _, rfl⟩⟩
    have J : Inv X pins σ (upd H s.heap.objs.size (.tup [.int (i : Nat), x])) { s with heap := h2, toks := s.toks + 1 } :=
      I.turnedNew (ch := [e, it]) (fun b ob nb z => (sb.2 b (fun y => nb (by simp [y]))).trans (k1 b ob (fun y => nb (by simp [y])) (fun y => nb (by simp [y])) z)) hf (Nat.le_refl _) fresh
    refine ⟨.ref s.heap.objs.size, _, J, rfl, ⟨_, x, rfl, I.hok.fresh (Nat.le_refl _), rfl, fun ys hy => by rw [I.tuple_inj hy sq]; exact hx⟩, ⟨⟨u, ?_⟩, st1.at fun o z => (sb.2 it (Ne.symm ap)).trans z, ap⟩, fun b hb => ?_⟩
    · rw [show ((i + 1 : Nat) : Int) = (i : Int) + 1 by omega]
      exact o2
    · have lb : b < s.heap.objs.size := by
        rcases (by simpa using hb : b = e ∨ b = it) with z | z
        · rw [z]; exact le
        · rw [z]; exact li
      rw [upd_ne (Nat.ne_of_lt lb)]
      exact (hf b hb).1
  done := by
    intro X eP ew eK hc i pins s σ H E I hf st go
    subst eP ew eK
    obtain ⟨⟨old, isE⟩, st, ap⟩ := st
    obtain ⟨xs, sq, hx⟩ := go
    obtain ⟨vs, rel, isT, _⟩ := I.tuple sq
    obtain ⟨g0, g1, g2, g3, g4, g5⟩ := hf it (by simp)
    have hlen := rel.length
    exact ent_stop (I.ok.hd hc) isE st (show s.heap.IsTuple a vs.toArray from isT) (by simp; omega) fun h1 ext => ⟨rfl, I.turned (t' := s.toks) (fun b o nb z => ext b o nb z) g0 g1 g3 g4 g5⟩
  self := fun A i s Q E ⟨⟨_, isE⟩, _⟩ h => wpAny_pyIter_enum isE h
def iET (K : PySem.W.Frag) (ta : TA) : TI := fun σ H R => ta σ H fun vs H1 => ∃ a xs, vs = [.ref a] ∧ SqT K H1 a xs ∧ R (ItET K a) H1
theorem kpiET {X : Cx} {e : Expr} {ta : TA} {p pos tpos : Pos} {elts : List Expr} {kk : Nat} (K : PySem.W.Frag) (hg : Gl X "enumerate") (hm : X.mg "enumerate" = none) (ha : PA X [e] ta) (hs : starEach [e] X.env = [(false, eval e X.env)] := by rfl) (hK : X.K = K := by rfl) :
    PI X (.Tuple elts kk tpos) (.Call (.Name "enumerate" p) [e] [] pos) (iET K ta) := by
  subst hK
  refine ⟨fun pins s σ H R I h => Call_ (ld_blt I hg hm boot_enumerate (PyProof.Rows.callWith_type1 (thn (ha.run pos pins s σ H _ I h) fun us s1 ⟨vs, H1, J, r, a, xs, ev, sq, q⟩ => ?_) hs rfl))⟩
  subst ev
  cases r with
  | cons r rr =>
    cases rr
    cases r
    obtain ⟨ws, rel, isT, _⟩ := J.tuple sq
    refine ent_make (show s1.heap.IsTuple a ws.toArray from isT) fun h1 isE st k => wpAny_pyIter_enum isE ?_
    refine ⟨s1.heap.objs.size + 1, [s1.heap.objs.size + 1, s1.heap.objs.size], _, _, H1, rfl, J.kept (t' := s1.toks) k, turn_ET a _ _, ⟨⟨.none, isE⟩, st, Nat.succ_ne_self _⟩, fun b hb => ?_, q⟩
    have lb : s1.heap.objs.size ≤ b := by
      rcases (by simpa using hb : b = s1.heap.objs.size + 1 ∨ b = s1.heap.objs.size) with z | z
      · rw [z]; exact Nat.le_succ _
      · rw [z]; exact Nat.le_refl _
    exact J.fpOk lb (J.hok.fresh lb)
theorem walk_ET {K : PySem.W.Frag} {a : Addr} {xs : List V} : Walk (ItET K a) xs.length (fun H => SqT K H a xs) (YPair (fun i => some (.int (i : Nat))) (fun i => xs[i]?)) := by
  refine ⟨fun i _ hi q => ⟨xs, xs[i], q, by simp [hi]⟩, fun _ q => ⟨xs, q, Nat.le_refl _⟩, fun i H v H' _ q ⟨T, x, h1, h2, h3, h4⟩ => ?_⟩
  exact ⟨T, .int (i : Nat), x, h1, h2, h3, rfl, h4 xs q⟩
/-- for k, x in enumerate(t): -/
theorem for_ET {K : PySem.W.Frag} {a : Addr} {xs : List V} {g : TG} {tb : TS} {D : Ends} {σ : L2.St} {H : Hp} (Pv : Nat → L2.St → Hp → Prop) (h0 : Pv 0 σ H) (hl : ∀ i σ H, i ≤ xs.length → Pv i σ H → SqT K H a xs)
    (hs : ∀ i x σ H T, xs[i]? = some x → Pv i σ H → H T = none → g (.ref T) σ (upd H T (.tup [.int (i : Nat), x])) fun σ2 H2 => tb { D with nx := Pv (i + 1), ct := Pv (i + 1), bk := D.nx } σ2 H2) (hd : ∀ σ H, Pv xs.length σ H → D.nx σ H) :
    ∃ W : Nat → Nat → L2.St → Hp → Prop, (∃ m, W 0 m σ H) ∧ ∀ i m σ H, W i m σ H →
      ((ItET K a).stop i H ∧ D.nx σ H) ∨ ((ItET K a).go i H ∧ ∃ N : L2.St → Hp → Prop, (∀ σ' H', N σ' H' → ∃ m', m' < m ∧ W (i + 1) m' σ' H') ∧ ∀ x H', (ItET K a).yld i H x H' → g x σ H' fun σ2 H2 => tb { D with nx := N, ct := N, bk := D.nx } σ2 H2) := by
  refine ⟨fun i m σ H => m = xs.length - i ∧ i ≤ xs.length ∧ Pv i σ H, ⟨_, rfl, Nat.zero_le _, h0⟩, ?_⟩
  rintro i m σ H ⟨rfl, hi, p⟩
  have sq := hl i σ H hi p
  by_cases lt : i < xs.length
  · refine .inr ⟨walk_ET.goes i H lt sq, Pv (i + 1), fun σ' H' p' => ⟨xs.length - (i + 1), by omega, rfl, lt, p'⟩, fun x H' y => ?_⟩
    obtain ⟨T, n, z, rfl, h2, rfl, h3, h4⟩ := walk_ET.yields i H x H' lt sq y
    cases h3
    exact hs i z σ H T h4 p h2
  · have e : i = xs.length := by omega
    subst e
    exact .inl ⟨walk_ET.stops H sq, hd σ H p⟩
end Od

namespace Od
open PySem L2 Evl
abbrev ClsV (H : Hp) : List V → List Cl → Prop := Paired (ClV H)
theorem ClsV.tk {H H' : Hp} {vs : List V} {cs : List Cl} (e : TK H H') (h : ClsV H vs cs) : ClsV H' vs cs := Paired.mapP h fun _ _ => ClV.tk e
/-- the clip is there at the frame -/
def Cl.here (c : Cl) (f : Int) : Prop := c.s ≤ f ∧ f < c.fin
/-- the first clip that is there -/
def First (cs : List Cl) (f : Int) : Option Nat → Prop
  | none => ∀ c ∈ cs, ¬ c.here f
  | some i => ∃ c, cs[i]? = some c ∧ c.here f ∧ ∀ j < i, ∀ d, cs[j]? = some d → ¬ d.here f
theorem First.uniq {cs : List Cl} {f : Int} {o p : Option Nat} (h : First cs f o) (k : First cs f p) : o = p := by
  cases o with
  | none =>
    cases p with
    | none => rfl
    | some i =>
      obtain ⟨c, hc, h1, _⟩ := k
      exact absurd h1 (h c (List.mem_of_getElem? hc))
  | some i =>
    obtain ⟨c, hc, h1, h2⟩ := h
    cases p with
    | none => exact absurd h1 (k c (List.mem_of_getElem? hc))
    | some j =>
      obtain ⟨d, hd, k1, k2⟩ := k
      by_cases e : i = j
      · rw [e]
      · by_cases lt : i < j
        · exact absurd h1 (k2 i lt c hc)
        · exact absurd k1 (h2 j (by omega) d hd)
def AllOk (cs : List Cl) : Prop := (∀ c ∈ cs, c.Ok 50000) ∧ cs.length ≤ 20
def idxV : Option Nat → V
  | none => .non
  | some i => .int (i : Nat)
def spClipAt (K : PySem.W.Frag) : Sp := fun vs H Q _ => ∃ a us cs f, vs = [.ref a, .int f] ∧ H a = some (.tup us) ∧ ClsV H us cs ∧ ∀ o H', Ex H H' → First cs f o → Q (idxV o) H'
/-- what stands in the lane -/
def LnV (H : Hp) (v : V) (cs : List Cl) (f : Int) : Option Nat → Prop
  | none => v = .non
  | some i => ∃ c a u, cs[i]? = some c ∧ v = .ref a ∧ H a = some (.tup [u, .int (c.lev f)]) ∧ OpV H u c.pa
theorem LnV.tk {H H' : Hp} {v : V} {cs : List Cl} {f : Int} {o : Option Nat} (e : TK H H') (h : LnV H v cs f o) : LnV H' v cs f o := by
  cases o with
  | none => exact h
  | some i =>
    obtain ⟨c, a, u, hc, rfl, ha, hu⟩ := h
    exact ⟨c, a, u, hc, rfl, e _ _ ha, hu.tk e⟩
def spLane (K : PySem.W.Frag) : Sp := fun vs H Q _ => ∃ a us cs f, vs = [.ref a, .int f] ∧ H a = some (.tup us) ∧ ClsV H us cs ∧ AllOk cs ∧ ∀ o v H', Ex H H' → First cs f o → LnV H' v cs f o → Q v H'
theorem Pa.lay (p : Pa) : p.D.canLay0 = true := by
  cases p with
  | solid x => simp only [Pa.D, PyData.canLay0, PyData.canLayAll0, Bool.and_true]; decide +kernel
  | steps f s z => simp only [Pa.D, PyData.canLay0, PyData.canLayAll0, Bool.and_true]; decide +kernel
  | pic p =>
    simp only [Pa.D, PyData.canLay0, PyData.canLayAll0, Bool.and_true, pc_lay]
    decide +kernel
theorem op_lay (o : Option Pa) : (opD o).canLay0 = true := by
  cases o with
  | none => rfl
  | some p => exact p.lay
theorem pcD_depth (p : Pc) : (pcD p).depth ≤ 2 := by
  simp only [pcD, PyData.depth, PyData.depthAll, depth_ints]
  decide
theorem op_depth (o : Option Pa) : (opD o).depth ≤ 3 := by
  cases o with
  | none => decide
  | some p =>
    cases p with
    | solid x => simp only [opD, Pa.D, PyData.depth, PyData.depthAll]; decide
    | steps f s z => simp only [opD, Pa.D, PyData.depth, PyData.depthAll]; decide
    | pic p =>
      have := pcD_depth p
      simp only [opD, Pa.D, PyData.depth, PyData.depthAll]
      omega
def lnD (c : Cl) (f : Int) : PyData := .tuple [opD c.pa, .int (c.lev f)]
theorem ln_lay (c : Cl) (f : Int) : (lnD c f).canLay0 = true := by
  simp only [lnD, PyData.canLay0, PyData.canLayAll0, op_lay, Bool.and_true]
theorem ln_shaped (c : Cl) (f : Int) : SeqAt.shaped (lnD c f) = true := by
  refine shaped_of (ln_lay c f) ?_
  have := op_depth c.pa
  simp only [lnD, PyData.depth, PyData.depthAll]
  omega
end Od

/-! the timeline: clips cut, joined, lifted, put, moved -/
namespace Od
open PySem L2 Evl
def Apart (cs : List Cl) : Prop := cs.Pairwise fun c d => c.fin ≤ d.s
def Cl.inside (c : Cl) (m : Int) : Bool := decide (c.s < m) && decide (m < c.fin)
def Cl.fades (c : Cl) (m : Int) : Bool := decide (m < c.s + c.fi) || decide (c.fin - c.fo < m)
def Cl.left (c : Cl) (m : Int) : Cl := ⟨c.s, m - c.s, c.pa, c.fi, 0⟩
def Cl.right (c : Cl) (m : Int) : Cl := ⟨m, c.fin - m, c.pa, 0, c.fo⟩
def Cl.bad (m : Int) (c : Cl) : Bool := c.inside m && c.fades m
def Cl.halves (m : Int) (c : Cl) : List Cl := if c.inside m = true then [c.left m, c.right m] else [c]
/-- the clips cut at a frame, or none -/
def splitC (m : Int) (cs : List Cl) : Option (List Cl) := if cs.any (Cl.bad m) = true then none else some (cs.flatMap (Cl.halves m))
/-- what a word of the timeline gives: clips, or an error's word and place -/
inductive TL where
  | ok (cs : List Cl) | err (w : Str) (n : Int)
def Cl.keep (a b : Int) (c : Cl) : Bool := decide (c.fin ≤ a) || decide (b ≤ c.s)
/-- the frame at which a cut cannot be, or what is left -/
def liftC (a b : Int) (cs : List Cl) : TL := match splitC a cs with
  | none => .err "cut" a
  | some ds => match splitC b ds with
    | none => .err "cut" b
    | some es => .ok (es.filter (Cl.keep a b))
def Cl.shift (n : Int) (c : Cl) : Cl := ⟨c.s + n, c.n, c.pa, c.fi, c.fo⟩
def laterC (m n : Int) (cs : List Cl) : List Cl := cs.map fun c => if m ≤ c.s then c.shift n else c
def Cl.meets (c d : Cl) : Bool := decide (d.s < c.fin) && decide (c.s < d.fin)
def putC (c : Cl) (cs : List Cl) : Option (List Cl) := if cs.any c.meets = true then none else some (cs.filter (fun d => decide (d.s < c.s)) ++ [c] ++ cs.filter fun d => decide (c.s < d.s))
theorem split_bad {m : Int} {cs : List Cl} (h : cs.any (Cl.bad m) = true) : splitC m cs = none := if_pos h
theorem split_ok {m : Int} {cs : List Cl} (h : cs.any (Cl.bad m) = false) : splitC m cs = some (cs.flatMap (Cl.halves m)) := if_neg (by rw [h]; exact Bool.false_ne_true)
theorem halves_len {m : Int} : ∀ {cs : List Cl}, (cs.flatMap (Cl.halves m)).length ≤ 2 * cs.length
  | [] => Nat.le_refl _
  | c :: cs => by
    have ih := halves_len (m := m) (cs := cs)
    have h : (c.halves m).length ≤ 2 := by
      unfold Cl.halves
      split
      · exact Nat.le_refl 2
      · exact Nat.le_succ 1
    rw [List.flatMap_cons, List.length_append, List.length_cons]
    omega
theorem split_len {m : Int} {cs ds : List Cl} (h : splitC m cs = some ds) : ds.length ≤ 2 * cs.length := by
  unfold splitC at h
  split at h
  · cases h
  · cases h
    exact halves_len
/-- the answer as a value -/
def ResV (H : Hp) (v : V) : TL → Prop
  | .ok cs => ∃ a us, v = .ref a ∧ H a = some (.tup us) ∧ ClsV H us cs
  | .err w n => ∃ a, v = .ref a ∧ H a = some (.lst [.str w, .int n])
theorem ResV.ex {H H' : Hp} {v : V} {r : TL} (e : Ex H H') (h : ResV H v r) : ResV H' v r := by
  cases r with
  | ok cs =>
    obtain ⟨a, us, rfl, h1, h2⟩ := h
    exact ⟨a, us, rfl, e _ _ h1, h2.tk (TK.ex e)⟩
  | err w n =>
    obtain ⟨a, rfl, h1⟩ := h
    exact ⟨a, rfl, e _ _ h1⟩
def clD (c : Cl) : PyData := .tuple [.int c.s, .int c.n, opD c.pa, .int c.fi, .int c.fo]
theorem ClV.dp {K : PySem.W.Frag} {H : Hp} {v : V} {c : Cl} (h : ClV H v c) : Dp K H v (clD c) := by
  obtain ⟨a, u, rfl, ha, hu⟩ := h
  exact .tup (SqT.of ha) (.cons (.int _) (.cons (.int _) (.cons hu.dp (.cons (.int _) (.cons (.int _) .nil)))))
def clsD (cs : List Cl) : PyData := .tuple (cs.map clD)
theorem dp_cls {K : PySem.W.Frag} {H : Hp} {a : Addr} {us : List V} {cs : List Cl} (h : H a = some (.tup us)) (r : ClsV H us cs) : Dp K H (.ref a) (clsD cs) := .tup (SqT.of h) (dp_all (fun _ _ z => ClV.dp z) r)
theorem cls_lay (cs : List Cl) : (clsD cs).canLay0 = true := by
  simp only [clsD, PyData.canLay0]
  refine canLay_map (fun c => ?_) cs
  simp only [clD, PyData.canLay0, PyData.canLayAll0, op_lay, Bool.and_true]
theorem cls_shaped (cs : List Cl) : SeqAt.shaped (clsD cs) = true := by
  refine shaped_of (cls_lay cs) ?_
  have : PyData.depthAll (cs.map clD) ≤ 4 := depth_map (fun c => by
    have := op_depth c.pa
    simp only [clD, PyData.depth, PyData.depthAll]
    omega) cs
  simp only [clsD, PyData.depth]
  omega
/-- the words of the timeline -/
inductive Ask where
  | cut (m : Int) | join (p : Int) | move (p d : Int) | trim (p s n : Int) | lift (a b : Int) | place (c : Cl) | rout (a b : Int) | rin (m n : Int)
def Ask.word : Ask → Str
  | .cut _ => "cut" | .join _ => "join" | .move _ _ => "move" | .trim _ _ _ => "trim" | .lift _ _ => "lift" | .place _ => "place" | .rout _ _ => "ripple out" | .rin _ _ => "ripple in"
/-- the numbers, in a list -/
def NumsV (H : Hp) (a : Addr) : Ask → Prop
  | .cut m => H a = some (.lst [.int m])
  | .join p => H a = some (.lst [.int p])
  | .move p d => H a = some (.lst [.int p, .int d])
  | .trim p s n => H a = some (.lst [.int p, .int s, .int n])
  | .lift x y => H a = some (.lst [.int x, .int y])
  | .place c => ∃ v, H a = some (.lst [v]) ∧ ClV H v c
  | .rout x y => H a = some (.lst [.int x, .int y])
  | .rin m n => H a = some (.lst [.int m, .int n])
theorem NumsV.ex {H H' : Hp} {a : Addr} {k : Ask} (e : Ex H H') (h : NumsV H a k) : NumsV H' a k := by
  cases k with
  | place c =>
    obtain ⟨v, h1, h2⟩ := h
    exact ⟨v, e _ _ h1, h2.tk (TK.ex e)⟩
  | _ => exact e _ _ h
/-- two clips that can be one -/
def joinC (p : Int) (cs : List Cl) : TL :=
  if p < 0 ∨ (cs.length : Int) ≤ p + 1 then .err "join" p else match cs[p.toNat]?, cs[p.toNat + 1]? with
    | some c, some d => if c.fin ≠ d.s ∨ PyData.eqv (opD c.pa) (opD d.pa) = false ∨ 0 < c.fo ∨ 0 < d.fi then .err "join" p else .ok (cs.take p.toNat ++ [⟨c.s, c.n + d.n, c.pa, c.fi, d.fo⟩] ++ cs.drop (p.toNat + 2))
    | _, _ => .err "join" p
def spanC (p s n : Int) (cs : List Cl) : TL :=
  if p < 0 ∨ (cs.length : Int) ≤ p then .err "place" p else match cs[p.toNat]? with
    | some c => if s < 0 ∨ n < 1 ∨ n < c.fi + c.fo then .err "place" p else match putC ⟨s, n, c.pa, c.fi, c.fo⟩ (cs.take p.toNat ++ cs.drop (p.toNat + 1)) with
      | some ds => .ok ds
      | none => .err "place" p
    | none => .err "place" p
/-- what a word gives; no answer where a clip that is put meets another one -/
def lineC : Ask → List Cl → Option TL
  | .cut m, cs => match splitC m cs with
    | none => some (.err "cut" m)
    | some ds => some (if ds.length = cs.length then .err "cut" m else .ok ds)
  | .join p, cs => some (joinC p cs)
  | .move p d, cs => some (match cs[p.toNat]? with
    | some c => spanC p (c.s + d) c.n cs
    | none => .err "place" p)
  | .trim p s n, cs => some (spanC p s n cs)
  | .lift a b, cs => some (liftC a b cs)
  | .place c, cs => match liftC c.s c.fin cs with
    | .ok ds => (putC c ds).map .ok
    | r => some r
  | .rout a b, cs => some (match liftC a b cs with
    | .ok ds => .ok (laterC b (a - b) ds)
    | r => r)
  | .rin m n, cs => some (match splitC m cs with
    | some ds => .ok (laterC m n ds)
    | none => .err "cut" m)
end Od
namespace Od
open PySem L2 Evl
theorem joinC_out {p : Int} {cs : List Cl} (h : p < 0 ∨ (cs.length : Int) ≤ p + 1) : joinC p cs = .err "join" p := if_pos h
theorem joinC_at {m : Nat} {cs : List Cl} {c d : Cl} (hc : cs[m]? = some c) (hd : cs[m + 1]? = some d) : joinC (m : Int) cs = if c.fin ≠ d.s ∨ PyData.eqv (opD c.pa) (opD d.pa) = false ∨ 0 < c.fo ∨ 0 < d.fi then .err "join" (m : Int) else .ok (cs.take m ++ [⟨c.s, c.n + d.n, c.pa, c.fi, d.fo⟩] ++ cs.drop (m + 2)) := by
  have l := (List.getElem?_eq_some_iff.mp hd).1
  unfold joinC
  rw [if_neg (by omega)]
  simp only [Int.toNat_natCast, hc, hd]
theorem spanC_out {p s n : Int} {cs : List Cl} (h : p < 0 ∨ (cs.length : Int) ≤ p) : spanC p s n cs = .err "place" p := if_pos h
theorem spanC_at {m : Nat} {s n : Int} {cs : List Cl} {c : Cl} (hc : cs[m]? = some c) : spanC (m : Int) s n cs = if s < 0 ∨ n < 1 ∨ n < c.fi + c.fo then .err "place" (m : Int) else match putC ⟨s, n, c.pa, c.fi, c.fo⟩ (cs.take m ++ cs.drop (m + 1)) with
    | some ds => .ok ds
    | none => .err "place" (m : Int) := by
  have l := (List.getElem?_eq_some_iff.mp hc).1
  unfold spanC
  rw [if_neg (by omega)]
  simp only [Int.toNat_natCast, hc]
theorem op_shaped (o : Option Pa) : SeqAt.shaped (opD o) = true := by
  refine shaped_of (op_lay o) ?_
  have := op_depth o
  omega
/-- clips that are good: apart, in order, up to B -/
structure Good (B : Int) (cs : List Cl) : Prop where
  ap : Apart cs
  ok : ∀ c ∈ cs, c.Ok 50000
  fin : ∀ c ∈ cs, c.fin ≤ B
/-- a layer that adjusts has bare clips, another one paints -/
def AdjOk (ad : Bool) (c : Cl) : Prop := (ad = true → c.pa = none ∧ c.fi = 0 ∧ c.fo = 0) ∧ (ad = false → ∃ p, c.pa = some p)
/-- what is drawn for a word -/
def AskOk (len : Nat) (B : Int) : Ask → Prop
  | .cut m => 0 ≤ m ∧ m ≤ B + 2
  | .join p => -1 ≤ p ∧ p ≤ len
  | .move p d => -1 ≤ p ∧ p ≤ len ∧ -15 ≤ d ∧ d ≤ 15
  | .trim p s n => -1 ≤ p ∧ p ≤ len ∧ -2 ≤ s ∧ s ≤ B + 3 ∧ 0 ≤ n ∧ n ≤ 15
  | .lift a b => 0 ≤ a ∧ a < b ∧ b ≤ B + 22
  | .place c => c.Ok 50000 ∧ c.s ≤ B + 2
  | .rout a b => 0 ≤ a ∧ a < b ∧ b ≤ B + 22
  | .rin m n => 0 ≤ m ∧ m ≤ B + 2 ∧ 1 ≤ n ∧ n ≤ 20
def words8 : List Str := ["cut", "join", "move", "trim", "lift", "place", "ripple out", "ripple in"]
theorem not_meets {c : Cl} {ds : List Cl} (h : ∀ d ∈ ds, d.fin ≤ c.s ∨ c.fin ≤ d.s) : ∃ es, putC c ds = some es := by
  refine ⟨_, if_neg fun h' => ?_⟩
  obtain ⟨d, hd, hm⟩ := List.any_eq_true.mp h'
  unfold Cl.meets at hm
  rw [Bool.and_eq_true, decide_eq_true_eq, decide_eq_true_eq] at hm
  have := h d hd
  omega
/-- a word always has an answer -/
theorem line_some (k : Ask) (cs : List Cl) : ∃ r, lineC k cs = some r := by
  cases k with
  | cut m =>
    cases e : splitC m cs with
    | none => exact ⟨.err "cut" m, by simp only [lineC, e]⟩
    | some ds => exact ⟨_, by simp only [lineC, e]; rfl⟩
  | place c =>
    cases e : liftC c.s c.fin cs with
    | err w n => exact ⟨.err w n, by simp only [lineC, e]⟩
    | ok ds =>
      have h : ∀ d ∈ ds, d.fin ≤ c.s ∨ c.fin ≤ d.s := fun d hd => by
        unfold liftC at e
        split at e
        · cases e
        · split at e
          · cases e
          · cases e
            have := (List.mem_filter.mp hd).2
            unfold Cl.keep at this
            rw [Bool.or_eq_true, decide_eq_true_eq, decide_eq_true_eq] at this
            exact this
      obtain ⟨es, he⟩ := not_meets h
      exact ⟨.ok es, by simp only [lineC, e, he, Option.map_some]⟩
  | _ => exact ⟨_, rfl⟩
end Od
namespace Od
open PySem L2 Evl
theorem span_word {p s n m : Int} {w : Str} {cs : List Cl} (h : spanC p s n cs = .err w m) : w = "place" := by
  unfold spanC at h
  split at h
  · cases h
    rfl
  · split at h
    · split at h
      · cases h
        rfl
      · split at h
        · cases h
        · cases h
          rfl
    · cases h
      rfl
theorem join_word {p m : Int} {w : Str} {cs : List Cl} (h : joinC p cs = .err w m) : w = "join" := by
  unfold joinC at h
  split at h
  · cases h
    rfl
  · split at h
    · split at h
      · cases h
        rfl
      · cases h
    · cases h
      rfl
theorem lift_word {x y n : Int} {w : Str} {cs : List Cl} (h : liftC x y cs = .err w n) : w = "cut" := by
  unfold liftC at h
  split at h
  · cases h
    rfl
  · split at h
    · cases h
      rfl
    · cases h
/-- an error's word is one of the words -/
theorem line_word {k : Ask} {cs : List Cl} {r : TL} {w : Str} {n : Int} (h : lineC k cs = some r) (e : r = .err w n) : w ∈ words8 := by
  subst e
  have cut : w = "cut" → w ∈ words8 := fun e => by rw [e]; simp [words8]
  have join : w = "join" → w ∈ words8 := fun e => by rw [e]; simp [words8]
  have place : w = "place" → w ∈ words8 := fun e => by rw [e]; simp [words8]
  cases k with
  | cut m =>
    cases e : splitC m cs with
    | none =>
      simp only [lineC, e, Option.some.injEq, TL.err.injEq] at h
      exact cut h.1.symm
    | some ds =>
      simp only [lineC, e, Option.some.injEq] at h
      split at h
      · cases h
        exact cut rfl
      · cases h
  | join p =>
    simp only [lineC, Option.some.injEq] at h
    exact join (join_word h)
  | move p d =>
    simp only [lineC, Option.some.injEq] at h
    split at h
    · exact place (span_word h)
    · cases h
      exact place rfl
  | trim p s n2 =>
    simp only [lineC, Option.some.injEq] at h
    exact place (span_word h)
  | lift x y =>
    simp only [lineC, Option.some.injEq] at h
    exact cut (lift_word h)
  | place c =>
    cases e : liftC c.s c.fin cs with
    | err w2 n2 =>
      simp only [lineC, e, Option.some.injEq, TL.err.injEq] at h
      exact cut (h.1 ▸ lift_word e)
    | ok ds =>
      simp only [lineC, e] at h
      cases e2 : putC c ds with
      | none =>
        rw [e2] at h
        cases h
      | some es =>
        rw [e2] at h
        cases h
  | rout x y =>
    cases e : liftC x y cs with
    | err w2 n2 =>
      simp only [lineC, e, Option.some.injEq, TL.err.injEq] at h
      exact cut (h.1 ▸ lift_word e)
    | ok ds =>
      simp only [lineC, e, Option.some.injEq] at h
      cases h
  | rin m n2 =>
    cases e : splitC m cs with
    | none =>
      simp only [lineC, e, Option.some.injEq, TL.err.injEq] at h
      exact cut h.1.symm
    | some ds =>
      simp only [lineC, e, Option.some.injEq] at h
      cases h
end Od
namespace Od
open PySem L2 Evl
theorem cut_word {m n : Int} {w : Str} {cs : List Cl} (h : lineC (.cut m) cs = some (.err w n)) : w = "cut" := by
  cases e : splitC m cs with
  | none =>
    simp only [lineC, e, Option.some.injEq, TL.err.injEq] at h
    exact h.1.symm
  | some ds =>
    simp only [lineC, e, Option.some.injEq] at h
    split at h
    · cases h
      rfl
    · cases h
theorem rin_word {m k n : Int} {w : Str} {cs : List Cl} (h : lineC (.rin m k) cs = some (.err w n)) : w = "cut" := by
  cases e : splitC m cs with
  | none =>
    simp only [lineC, e, Option.some.injEq, TL.err.injEq] at h
    exact h.1.symm
  | some ds =>
    simp only [lineC, e, Option.some.injEq] at h
    cases h
theorem join_word2 {p n : Int} {w : Str} {cs : List Cl} (h : lineC (.join p) cs = some (.err w n)) : w = "join" := by
  simp only [lineC, Option.some.injEq] at h
  exact join_word h
theorem move_word {p d n : Int} {w : Str} {cs : List Cl} (h : lineC (.move p d) cs = some (.err w n)) : w = "place" := by
  simp only [lineC, Option.some.injEq] at h
  split at h
  · exact span_word h
  · cases h
    rfl
theorem trim_word {p s k n : Int} {w : Str} {cs : List Cl} (h : lineC (.trim p s k) cs = some (.err w n)) : w = "place" := by
  simp only [lineC, Option.some.injEq] at h
  exact span_word h
theorem lift_word2 {x y n : Int} {w : Str} {cs : List Cl} (h : lineC (.lift x y) cs = some (.err w n)) : w = "cut" := by
  simp only [lineC, Option.some.injEq] at h
  exact lift_word h
theorem place_word {c : Cl} {n : Int} {w : Str} {cs : List Cl} (h : lineC (.place c) cs = some (.err w n)) : w = "cut" := by
  cases e : liftC c.s c.fin cs with
  | err w2 n2 =>
    simp only [lineC, e, Option.some.injEq, TL.err.injEq] at h
    exact h.1 ▸ lift_word e
  | ok ds =>
    simp only [lineC, e] at h
    cases e2 : putC c ds with
    | none =>
      rw [e2] at h
      cases h
    | some es =>
      rw [e2] at h
      cases h
theorem rout_word {x y n : Int} {w : Str} {cs : List Cl} (h : lineC (.rout x y) cs = some (.err w n)) : w = "cut" := by
  cases e : liftC x y cs with
  | err w2 n2 =>
    simp only [lineC, e, Option.some.injEq, TL.err.injEq] at h
    exact h.1 ▸ lift_word e
  | ok ds =>
    simp only [lineC, e, Option.some.injEq] at h
    cases h
end Od

/-! what the timeline's words keep: clips apart, within bounds; what stands in the lane -/
namespace Od
theorem Good.le {B C : Int} {cs : List Cl} (h : Good B cs) (e : B ≤ C) : Good C cs := ⟨h.ap, h.ok, fun c hc => Int.le_trans (h.fin c hc) e⟩
theorem Good.sub {B : Int} {cs ds : List Cl} (h : Good B cs) (s : ds.Sublist cs) : Good B ds := ⟨h.ap.sublist s, fun c hc => h.ok c (s.subset hc), fun c hc => h.fin c (s.subset hc)⟩
/-- what stands in the lane at a frame -/
def Ln (cs : List Cl) (f : Int) (p : Option Pa) (l : Int) : Prop := ∃ c ∈ cs, c.here f ∧ c.pa = p ∧ c.lev f = l
theorem inside_no {c : Cl} {m : Int} (h : c.inside m = false) : m ≤ c.s ∨ c.fin ≤ m := by
  unfold Cl.inside at h
  rw [Bool.and_eq_false_iff, decide_eq_false_iff_not, decide_eq_false_iff_not] at h
  omega
theorem inside_yes {c : Cl} {m : Int} (h : c.inside m = true) : c.s < m ∧ m < c.fin := by
  unfold Cl.inside at h
  rw [Bool.and_eq_true, decide_eq_true_eq, decide_eq_true_eq] at h
  exact h
theorem fades_no {c : Cl} {m : Int} (h : c.fades m = false) : c.s + c.fi ≤ m ∧ m ≤ c.fin - c.fo := by
  unfold Cl.fades at h
  rw [Bool.or_eq_false_iff, decide_eq_false_iff_not, decide_eq_false_iff_not] at h
  omega
theorem good_cut {c : Cl} {m : Int} (h : c.bad m = false) (i : c.inside m = true) : c.fades m = false := by
  unfold Cl.bad at h
  rw [i, Bool.true_and] at h
  exact h
/-- the pieces of a clip -/
theorem halves_in {c d : Cl} {m : Int} (ok : c.Ok 50000) (hf : c.fin ≤ 50000) (nb : c.bad m = false) (hd : d ∈ c.halves m) : d.Ok 50000 ∧ c.s ≤ d.s ∧ d.fin ≤ c.fin ∧ d.inside m = false ∧ (∀ a, c.inside a = false → d.inside a = false) := by
  unfold Cl.halves at hd
  split at hd
  · rename_i hi
    obtain ⟨i1, i2⟩ := inside_yes hi
    obtain ⟨f1, f2⟩ := fades_no (good_cut nb hi)
    obtain ⟨o1, o2, o3, o4, o5, o6, o7, o8⟩ := ok
    unfold Cl.fin at *
    simp only [List.mem_cons, List.not_mem_nil, or_false] at hd
    have ins : ∀ {x : Cl} {a : Int}, (a ≤ x.s ∨ x.fin ≤ a) → x.inside a = false := fun {x a} h => by
      unfold Cl.inside
      rw [Bool.and_eq_false_iff, decide_eq_false_iff_not, decide_eq_false_iff_not]
      omega
    rcases hd with rfl | rfl
    · unfold Cl.left Cl.fin at *
      refine ⟨⟨o1, o2, by dsimp only; omega, by dsimp only; omega, o5, Int.le_refl 0, by dsimp only; omega, o8⟩, Int.le_refl _, by dsimp only; omega, ins (.inr (by dsimp only; omega)), fun a ha => ins ?_⟩
      have := inside_no ha
      unfold Cl.fin at *
      dsimp only
      omega
    · unfold Cl.right Cl.fin at *
      refine ⟨⟨by dsimp only; omega, by dsimp only; omega, by dsimp only; omega, by dsimp only; omega, Int.le_refl 0, o6, by dsimp only; omega, o8⟩, by dsimp only; omega, by dsimp only; omega, ins (.inl (by dsimp only; omega)), fun a ha => ins ?_⟩
      have := inside_no ha
      unfold Cl.fin at *
      dsimp only
      omega
  · rename_i hi
    rw [List.mem_singleton.mp hd]
    exact ⟨ok, Int.le_refl _, Int.le_refl _, eq_false_of_ne_true hi, fun a h => h⟩
theorem halves_apart {c : Cl} {m : Int} : (c.halves m).Pairwise fun x y => x.fin ≤ y.s := by
  unfold Cl.halves
  split
  · refine List.pairwise_cons.mpr ⟨fun y hy => ?_, List.pairwise_singleton _ _⟩
    rw [List.mem_singleton.mp hy]
    unfold Cl.left Cl.right Cl.fin
    dsimp only
    omega
  · exact List.pairwise_singleton _ _
/-- the pieces tell the same lane -/
theorem halves_lane {c : Cl} {m f : Int} (nb : c.bad m = false) {p : Option Pa} {l : Int} : Ln (c.halves m) f p l ↔ (c.here f ∧ c.pa = p ∧ c.lev f = l) := by
  unfold Cl.halves
  split
  · rename_i hi
    obtain ⟨i1, i2⟩ := inside_yes hi
    obtain ⟨f1, f2⟩ := fades_no (good_cut nb hi)
    have eL : c.s ≤ f → f < m → (c.left m).lev f = c.lev f := fun h1 h2 => by
      unfold Cl.left Cl.lev Cl.fin at *
      dsimp only
      by_cases k : f - c.s < c.fi
      · rw [if_pos k, if_pos k]
      · rw [if_neg k, if_neg k, if_neg (by omega), if_neg (by omega)]
    have eR : m ≤ f → f < c.fin → (c.right m).lev f = c.lev f := fun h1 h2 => by
      unfold Cl.right Cl.lev Cl.fin at *
      dsimp only
      rw [if_neg (show ¬ f - m < 0 by omega), if_neg (show ¬ f - c.s < c.fi by omega)]
      have e : c.s + c.n - m - (f - m) - 1 = c.n - (f - c.s) - 1 := by omega
      rw [e]
    constructor
    · rintro ⟨d, hd, ⟨h1, h2⟩, h3, h4⟩
      simp only [List.mem_cons, List.not_mem_nil, or_false] at hd
      rcases hd with rfl | rfl
      · have k1 : c.s ≤ f := h1
        have k2 : f < m := by
          unfold Cl.left Cl.fin at h2
          dsimp only at h2
          omega
        exact ⟨⟨k1, by omega⟩, h3, by rw [← eL k1 k2]; exact h4⟩
      · have k1 : m ≤ f := h1
        have k2 : f < c.fin := by
          unfold Cl.right Cl.fin at h2
          unfold Cl.fin
          dsimp only at h2
          omega
        exact ⟨⟨by omega, k2⟩, h3, by rw [← eR k1 k2]; exact h4⟩
    · rintro ⟨⟨h1, h2⟩, h3, h4⟩
      by_cases k : f < m
      · refine ⟨c.left m, by simp, ⟨h1, ?_⟩, h3, by rw [eL h1 k]; exact h4⟩
        unfold Cl.left Cl.fin
        dsimp only
        omega
      · refine ⟨c.right m, by simp, ⟨by show m ≤ f; omega, ?_⟩, h3, by rw [eR (by omega) h2]; exact h4⟩
        unfold Cl.right Cl.fin at *
        dsimp only
        omega
  · constructor
    · rintro ⟨d, hd, h⟩
      rw [List.mem_singleton.mp hd] at h
      exact h
    · intro h
      exact ⟨c, by simp, h⟩
theorem split_not_bad {m : Int} {cs ds : List Cl} (h : splitC m cs = some ds) : (∀ c ∈ cs, c.bad m = false) ∧ ds = cs.flatMap (Cl.halves m) := by
  unfold splitC at h
  split at h
  · cases h
  · rename_i hn
    cases h
    refine ⟨fun c hc => ?_, rfl⟩
    have := eq_false_of_ne_true hn
    rw [List.any_eq_false] at this
    exact eq_false_of_ne_true (this c hc)
theorem split_good {B m : Int} {cs ds : List Cl} (g : Good B cs) (hB : B ≤ 50000) (h : splitC m cs = some ds) : Good B ds ∧ (∀ d ∈ ds, d.inside m = false) ∧ (∀ a, (∀ c ∈ cs, c.inside a = false) → ∀ d ∈ ds, d.inside a = false) ∧ ∀ f p l, Ln ds f p l ↔ Ln cs f p l := by
  obtain ⟨nb, rfl⟩ := split_not_bad h
  have f5 : ∀ c ∈ cs, c.fin ≤ 50000 := fun c hc => Int.le_trans (g.fin c hc) hB
  have mem : ∀ {d : Cl}, d ∈ cs.flatMap (Cl.halves m) → ∃ c ∈ cs, d ∈ c.halves m := fun hd => List.mem_flatMap.mp hd
  refine ⟨⟨?_, fun d hd => ?_, fun d hd => ?_⟩, fun d hd => ?_, fun a ha d hd => ?_, fun f p l => ?_⟩
  · unfold Apart
    rw [List.pairwise_flatMap]
    refine ⟨fun c hc => halves_apart, ?_⟩
    refine List.Pairwise.imp_of_mem ?_ g.ap
    intro x y hx hy hxy u hu v hv
    have h1 := (halves_in (g.ok x hx) (f5 x hx) (nb x hx) hu).2.2.1
    have h2 := (halves_in (g.ok y hy) (f5 y hy) (nb y hy) hv).2.1
    omega
  · obtain ⟨c, hc, hd⟩ := mem hd
    exact (halves_in (g.ok c hc) (f5 c hc) (nb c hc) hd).1
  · obtain ⟨c, hc, hd⟩ := mem hd
    have := (halves_in (g.ok c hc) (f5 c hc) (nb c hc) hd).2.2.1
    have := g.fin c hc
    omega
  · obtain ⟨c, hc, hd⟩ := mem hd
    exact (halves_in (g.ok c hc) (f5 c hc) (nb c hc) hd).2.2.2.1
  · obtain ⟨c, hc, hd⟩ := mem hd
    exact (halves_in (g.ok c hc) (f5 c hc) (nb c hc) hd).2.2.2.2 a (ha c hc)
  · constructor
    · rintro ⟨d, hd, h⟩
      obtain ⟨c, hc, hd⟩ := mem hd
      exact ⟨c, hc, (halves_lane (nb c hc)).mp ⟨d, hd, h⟩⟩
    · rintro ⟨c, hc, h⟩
      obtain ⟨d, hd, h⟩ := (halves_lane (nb c hc)).mpr h
      exact ⟨d, List.mem_flatMap.mpr ⟨c, hc, hd⟩, h⟩
theorem keep_iff {a b : Int} {c : Cl} : c.keep a b = true ↔ c.fin ≤ a ∨ b ≤ c.s := by
  unfold Cl.keep
  rw [Bool.or_eq_true, decide_eq_true_eq, decide_eq_true_eq]
theorem lift_good {B a b : Int} {cs ds : List Cl} (g : Good B cs) (hB : B ≤ 50000) (ab : a < b) (h : liftC a b cs = .ok ds) : Good B ds ∧ (∀ d ∈ ds, d.fin ≤ a ∨ b ≤ d.s) ∧ ∀ f p l, Ln ds f p l ↔ (Ln cs f p l ∧ (f < a ∨ b ≤ f)) := by
  unfold liftC at h
  split at h
  · cases h
  · rename_i d1 h1
    split at h
    · cases h
    · rename_i d2 h2
      cases h
      obtain ⟨g1, n1, _, l1⟩ := split_good g hB h1
      obtain ⟨g2, n2, k2, l2⟩ := split_good g1 hB h2
      have n1 := k2 a n1
      refine ⟨g2.sub List.filter_sublist, fun d hd => keep_iff.mp (List.mem_filter.mp hd).2, fun f p l => ?_⟩
      rw [← l1, ← l2]
      constructor
      · rintro ⟨d, hd, ⟨x1, x2⟩, h3⟩
        obtain ⟨hd, hk⟩ := List.mem_filter.mp hd
        have := keep_iff.mp hk
        exact ⟨⟨d, hd, ⟨x1, x2⟩, h3⟩, by omega⟩
      · rintro ⟨⟨d, hd, ⟨x1, x2⟩, h3⟩, hf⟩
        refine ⟨d, List.mem_filter.mpr ⟨hd, keep_iff.mpr ?_⟩, ⟨x1, x2⟩, h3⟩
        have := inside_no (n1 d hd)
        have := inside_no (n2 d hd)
        omega
theorem shift_lev {c : Cl} {n f : Int} : (c.shift n).lev (f + n) = c.lev f := by
  unfold Cl.shift Cl.lev
  dsimp only
  have e : f + n - (c.s + n) = f - c.s := by omega
  rw [e]
theorem shift_here {c : Cl} {n f : Int} : (c.shift n).here f ↔ c.here (f - n) := by
  unfold Cl.shift Cl.here Cl.fin
  dsimp only
  omega
/-- clips from m on come n later; none has frames on both sides of lim and m -/
theorem later_good {B m lim n : Int} {cs : List Cl} (g : Good B cs) (hn : m + n = lim ∨ 0 ≤ n ∧ lim = m) (c0 : ∀ c ∈ cs, c.fin ≤ lim ∨ m ≤ c.s) (lm : lim ≤ m) (l0 : 0 ≤ lim) (B5 : B + max 0 n ≤ 50000) : Good (B + max 0 n) (laterC m n cs) ∧ ∀ f p l, Ln (laterC m n cs) f p l ↔ ((f < lim ∧ Ln cs f p l) ∨ (m + n ≤ f ∧ Ln cs (f - n) p l ∧ m ≤ f - n)) := by
  have mem : ∀ {d : Cl}, d ∈ laterC m n cs → ∃ c ∈ cs, d = if m ≤ c.s then c.shift n else c := fun hd => by
    obtain ⟨c, hc, rfl⟩ := List.mem_map.mp hd
    exact ⟨c, hc, rfl⟩
  refine ⟨⟨?_, fun d hd => ?_, fun d hd => ?_⟩, fun f p l => ?_⟩
  · unfold Apart laterC
    rw [List.pairwise_map]
    refine List.Pairwise.imp_of_mem ?_ g.ap
    intro x y hx hy hxy
    have ox := (g.ok x hx).n1
    have oy := (g.ok y hy).n1
    have cx := c0 x hx
    have cy := c0 y hy
    unfold Cl.fin at cx cy hxy
    by_cases k1 : m ≤ x.s
    · by_cases k2 : m ≤ y.s
      · rw [if_pos k1, if_pos k2]
        unfold Cl.shift Cl.fin
        dsimp only
        omega
      · omega
    · by_cases k2 : m ≤ y.s
      · rw [if_neg k1, if_pos k2]
        unfold Cl.shift Cl.fin
        dsimp only
        omega
      · rw [if_neg k1, if_neg k2]
        unfold Cl.fin
        omega
  · obtain ⟨c, hc, rfl⟩ := mem hd
    have ok := g.ok c hc
    have fc := g.fin c hc
    split
    · obtain ⟨o1, o2, o3, o4, o5, o6, o7, o8⟩ := ok
      unfold Cl.fin at fc
      exact ⟨by unfold Cl.shift; dsimp only; omega, by unfold Cl.shift; dsimp only; omega, o3, o4, o5, o6, o7, o8⟩
    · exact ok
  · obtain ⟨c, hc, rfl⟩ := mem hd
    have fc := g.fin c hc
    split
    · unfold Cl.shift Cl.fin at *
      dsimp only
      omega
    · omega
  · constructor
    · rintro ⟨d, hd, h1, h2, h3⟩
      obtain ⟨c, hc, rfl⟩ := mem hd
      have ox := (g.ok c hc).n1
      split at h1
      · rename_i k
        rw [if_pos k] at h2 h3
        have h1' := shift_here.mp h1
        have e : f = f - n + n := by omega
        rw [e, shift_lev] at h3
        have := h1'.1
        exact .inr ⟨by omega, ⟨c, hc, h1', h2, h3⟩, by omega⟩
      · rename_i k
        rw [if_neg k] at h2 h3
        have := c0 c hc
        have := h1.2
        exact .inl ⟨by omega, ⟨c, hc, h1, h2, h3⟩⟩
    · rintro (⟨h0, c, hc, h1, h2, h3⟩ | ⟨h0, ⟨c, hc, h1, h2, h3⟩, h4⟩)
      · refine ⟨c, List.mem_map.mpr ⟨c, hc, ?_⟩, h1, h2, h3⟩
        have := h1.1
        exact if_neg (by omega)
      · have := c0 c hc
        have := h1.2
        refine ⟨c.shift n, List.mem_map.mpr ⟨c, hc, if_pos (by omega)⟩, shift_here.mpr h1, h2, ?_⟩
        have e : f = f - n + n := by omega
        rw [e, shift_lev]
        exact h3
theorem meets_no {c d : Cl} (h : c.meets d = false) : c.fin ≤ d.s ∨ d.fin ≤ c.s := by
  unfold Cl.meets at h
  rw [Bool.and_eq_false_iff, decide_eq_false_iff_not, decide_eq_false_iff_not] at h
  omega
theorem put_good {B : Int} {c : Cl} {cs ds : List Cl} (g : Good B cs) (ok : c.Ok 50000) (fc : c.fin ≤ B) (h : putC c cs = some ds) : Good B ds ∧ (∀ d, d ∈ ds ↔ d = c ∨ d ∈ cs) := by
  unfold putC at h
  split at h
  · cases h
  · rename_i hn
    cases h
    have nm : ∀ d ∈ cs, c.fin ≤ d.s ∨ d.fin ≤ c.s := fun d hd => by
      have := eq_false_of_ne_true hn
      rw [List.any_eq_false] at this
      exact meets_no (eq_false_of_ne_true (this d hd))
    have cn := ok.n1
    have mem : ∀ d, d ∈ cs.filter (fun d => decide (d.s < c.s)) ++ [c] ++ cs.filter (fun d => decide (c.s < d.s)) ↔ d = c ∨ d ∈ cs := fun d => by
      rw [List.mem_append, List.mem_append, List.mem_singleton, List.mem_filter, List.mem_filter, decide_eq_true_eq, decide_eq_true_eq]
      constructor
      · rintro ((h | h) | h)
        · exact .inr h.1
        · exact .inl h
        · exact .inr h.1
      · rintro (h | h)
        · exact .inl (.inr h)
        · have := nm d h
          have := (g.ok d h).n1
          by_cases k : d.s < c.s
          · exact .inl (.inl ⟨h, k⟩)
          · exact .inr ⟨h, by unfold Cl.fin at *; omega⟩
    refine ⟨⟨?_, fun d hd => ?_, fun d hd => ?_⟩, mem⟩
    · unfold Apart
      rw [List.pairwise_append, List.pairwise_append]
      refine ⟨⟨g.ap.sublist List.filter_sublist, List.pairwise_singleton _ _, fun x hx y hy => ?_⟩, g.ap.sublist List.filter_sublist, fun x hx y hy => ?_⟩
      · rw [List.mem_singleton.mp hy]
        obtain ⟨hx, k⟩ := List.mem_filter.mp hx
        have k := of_decide_eq_true k
        have := nm x hx
        unfold Cl.fin at *
        omega
      · obtain ⟨hy, k⟩ := List.mem_filter.mp hy
        have k := of_decide_eq_true k
        have hny := nm y hy
        have ny := (g.ok y hy).n1
        rcases List.mem_append.mp hx with hx | hx
        · obtain ⟨hx, k2⟩ := List.mem_filter.mp hx
          have k2 := of_decide_eq_true k2
          have := nm x hx
          unfold Cl.fin at *
          omega
        · rw [List.mem_singleton.mp hx]
          unfold Cl.fin at *
          omega
    · rcases (mem d).mp hd with rfl | h
      · exact ok
      · exact g.ok d h
    · rcases (mem d).mp hd with rfl | h
      · exact fc
      · exact g.fin d h
/-- at most one clip is there -/
theorem Good.one {B : Int} {cs : List Cl} (g : Good B cs) {c d : Cl} {f : Int} (hc : c ∈ cs) (hd : d ∈ cs) (h : c.here f) (k : d.here f) : c = d := by
  have ap := g.ap
  have ok := g.ok
  clear g
  induction cs with
  | nil => simp at hc
  | cons x t ih =>
    obtain ⟨hx, ht⟩ := List.pairwise_cons.mp ap
    rcases List.mem_cons.mp hc with e1 | c1
    · rcases List.mem_cons.mp hd with e2 | d1
      · rw [e1, e2]
      · have := hx d d1
        have := h.2
        have := k.1
        rw [e1] at *
        omega
    · rcases List.mem_cons.mp hd with e2 | d1
      · have := hx c c1
        have := k.2
        have := h.1
        rw [e2] at *
        omega
      · exact ih c1 d1 ht fun z hz => ok z (by simp [hz])
theorem Ln.uniq {B : Int} {cs : List Cl} (g : Good B cs) {f : Int} {p q : Option Pa} {l m : Int} (h : Ln cs f p l) (k : Ln cs f q m) : p = q ∧ l = m := by
  obtain ⟨c, hc, h1, h2, h3⟩ := h
  obtain ⟨d, hd, k1, k2, k3⟩ := k
  obtain rfl := g.one hc hd h1 k1
  exact ⟨h2.symm.trans k2, h3.symm.trans k3⟩
end Od
namespace Od
open PySem L2 Evl
theorem halves_len1 {m : Int} : ∀ {cs : List Cl}, Apart cs → (∀ c ∈ cs, 1 ≤ c.n) → (cs.flatMap (Cl.halves m)).length ≤ cs.length + 1 ∧ ((∃ c ∈ cs, m ≤ c.s) → (∀ c ∈ cs, m ≤ c.s) → (cs.flatMap (Cl.halves m)).length = cs.length)
  | [], _, _ => ⟨Nat.zero_le _, fun _ _ => rfl⟩
  | c :: cs, ap, n1 => by
    obtain ⟨hx, ht⟩ := List.pairwise_cons.mp ap
    obtain ⟨i1, i2⟩ := halves_len1 (m := m) (cs := cs) ht fun z hz => n1 z (by simp [hz])
    have all : ∀ (l : List Cl), (∀ d ∈ l, d.inside m = false) → (l.flatMap (Cl.halves m)).length = l.length := by
      intro l
      induction l with
      | nil => exact fun _ => rfl
      | cons d l ih =>
        intro h
        rw [List.flatMap_cons, List.length_append, ih fun z hz => h z (by simp [hz]), List.length_cons]
        unfold Cl.halves
        rw [if_neg (by rw [h d (by simp)]; exact Bool.false_ne_true), List.length_singleton]
        omega
    have out : ∀ {d : Cl}, m ≤ d.s → d.inside m = false := fun {d} h => by
      unfold Cl.inside
      rw [Bool.and_eq_false_iff, decide_eq_false_iff_not]
      exact .inl (by omega)
    refine ⟨?_, fun _ h => all _ fun d hd => out (h d hd)⟩
    rw [List.flatMap_cons, List.length_append, List.length_cons]
    by_cases k : c.inside m = true
    · obtain ⟨k1, k2⟩ := inside_yes k
      rw [all cs fun d hd => out (by have := hx d hd; omega)]
      unfold Cl.halves
      rw [if_pos k]
      show 2 + cs.length ≤ _
      omega
    · unfold Cl.halves at *
      rw [if_neg k, List.length_singleton]
      omega
theorem split_len1 {B m : Int} {cs ds : List Cl} (g : Good B cs) (h : splitC m cs = some ds) : ds.length ≤ cs.length + 1 := by
  obtain ⟨_, rfl⟩ := split_not_bad h
  exact (halves_len1 g.ap fun c hc => (g.ok c hc).n1).1
theorem lift_len1 {B a b : Int} {cs ds : List Cl} (g : Good B cs) (hB : B ≤ 50000) (h : liftC a b cs = .ok ds) : ds.length ≤ cs.length + 2 := by
  unfold liftC at h
  split at h
  · cases h
  · rename_i d1 h1
    split at h
    · cases h
    · rename_i d2 h2
      cases h
      have := split_len1 g h1
      have := split_len1 (split_good g hB h1).1 h2
      have := List.length_filter_le (Cl.keep a b) d2
      omega
theorem filt_two (c : Cl) : ∀ es : List Cl, (es.filter (fun d => decide (d.s < c.s))).length + (es.filter fun d => decide (c.s < d.s)).length ≤ es.length
  | [] => Nat.le_refl _
  | d :: t => by
    have ih := filt_two c t
    rw [List.length_cons]
    by_cases k1 : d.s < c.s
    · rw [List.filter_cons_of_pos (by simpa using k1), List.filter_cons_of_neg (by simp; omega), List.length_cons]
      omega
    · by_cases k2 : c.s < d.s
      · rw [List.filter_cons_of_neg (by simpa using k1), List.filter_cons_of_pos (by simpa using k2), List.length_cons]
        omega
      · rw [List.filter_cons_of_neg (by simpa using k1), List.filter_cons_of_neg (by simpa using k2)]
        omega
/-- what is due in the lane behind a word -/
def Due (k : Ask) (cs : List Cl) (f : Int) (p : Option Pa) (l : Int) : Prop := match k with
  | .lift a b => Ln cs f p l ∧ (f < a ∨ b ≤ f)
  | .place c => (c.here f ∧ c.pa = p ∧ c.lev f = l) ∨ (¬ c.here f ∧ Ln cs f p l)
  | .rout a b => (f < a ∧ Ln cs f p l) ∨ (a ≤ f ∧ Ln cs (f + b - a) p l)
  | .rin m n => (f < m ∧ Ln cs f p l) ∨ (m + n ≤ f ∧ Ln cs (f - n) p l)
  | _ => True
def Ask.four : Ask → Prop
  | .lift a b => 0 ≤ a ∧ a < b
  | .place c => c.Ok 50000
  | .rout a b => 0 ≤ a ∧ a < b
  | .rin m n => 0 ≤ m ∧ 1 ≤ n ∧ n ≤ 20
  | _ => False
theorem line_good {B : Int} {k : Ask} {cs ds : List Cl} (g : Good B cs) (hB : B ≤ 49000) (hk : k.four) (hp : ∀ c, k = .place c → c.fin ≤ B + 402) (h : lineC k cs = some (.ok ds)) : Good (B + 402) ds ∧ ds.length ≤ cs.length + 3 ∧ ∀ f p l, Ln ds f p l ↔ Due k cs f p l := by
  have hB5 : B ≤ 50000 := by omega
  cases k with
  | lift a b =>
    simp only [lineC, Option.some.injEq] at h
    obtain ⟨h1, h2, h3⟩ := lift_good g hB5 hk.2 h
    have := lift_len1 g hB5 h
    exact ⟨h1.le (by omega), by omega, h3⟩
  | rout a b =>
    cases e : liftC a b cs with
    | err w n =>
      simp only [lineC, e, Option.some.injEq] at h
      cases h
    | ok es =>
      simp only [lineC, e, Option.some.injEq, TL.ok.injEq] at h
      subst h
      obtain ⟨h0, h1⟩ := hk
      obtain ⟨g1, c1, l1⟩ := lift_good g hB5 h1 e
      have len := lift_len1 g hB5 e
      have mx : max 0 (a - b) = 0 := by omega
      obtain ⟨g2, l2⟩ := later_good (m := b) (lim := a) (n := a - b) g1 (.inl (by omega)) c1 (by omega) h0 (by omega)
      rw [mx] at g2
      refine ⟨g2.le (by omega), by unfold laterC; rw [List.length_map]; omega, fun f p l => ?_⟩
      rw [l2, l1, l1]
      have e1 : f - (a - b) = f + b - a := by omega
      rw [e1]
      show _ ↔ (f < a ∧ Ln cs f p l) ∨ (a ≤ f ∧ Ln cs (f + b - a) p l)
      constructor
      · rintro (⟨x1, x2, _⟩ | ⟨x1, ⟨x2, _⟩, _⟩)
        · exact .inl ⟨x1, x2⟩
        · exact .inr ⟨by omega, x2⟩
      · rintro (⟨x1, x2⟩ | ⟨x1, x2⟩)
        · exact .inl ⟨x1, x2, .inl x1⟩
        · exact .inr ⟨by omega, ⟨x2, .inr (by omega)⟩, by omega⟩
  | rin m n =>
    obtain ⟨h0, h1, h2⟩ := hk
    cases e : splitC m cs with
    | none =>
      simp only [lineC, e, Option.some.injEq] at h
      cases h
    | some es =>
      simp only [lineC, e, Option.some.injEq, TL.ok.injEq] at h
      subst h
      obtain ⟨g1, c1, _, l1⟩ := split_good g hB5 e
      have len := split_len1 g e
      have mx : max 0 n = n := by omega
      obtain ⟨g2, l2⟩ := later_good (m := m) (lim := m) (n := n) g1 (.inr ⟨by omega, rfl⟩) (fun c hc => (inside_no (c1 c hc)).symm) (Int.le_refl _) h0 (by omega)
      rw [mx] at g2
      refine ⟨g2.le (by omega), by unfold laterC; rw [List.length_map]; omega, fun f p l => ?_⟩
      rw [l2, l1, l1]
      show _ ↔ (f < m ∧ Ln cs f p l) ∨ (m + n ≤ f ∧ Ln cs (f - n) p l)
      constructor
      · rintro (⟨x1, x2⟩ | ⟨x1, x2, _⟩)
        · exact .inl ⟨x1, x2⟩
        · exact .inr ⟨x1, x2⟩
      · rintro (⟨x1, x2⟩ | ⟨x1, x2⟩)
        · exact .inl ⟨x1, x2⟩
        · exact .inr ⟨x1, x2, by omega⟩
  | place c =>
    have okc : c.Ok 50000 := hk
    have hf := hp c rfl
    cases e : liftC c.s c.fin cs with
    | err w n =>
      simp only [lineC, e, Option.some.injEq] at h
      cases h
    | ok es =>
      cases e2 : putC c es with
      | none =>
        simp only [lineC, e, e2] at h
        cases h
      | some fs =>
        simp only [lineC, e, e2, Option.map_some, Option.some.injEq, TL.ok.injEq] at h
        subst h
        have n1 := okc.n1
        obtain ⟨g1, c1, l1⟩ := lift_good g hB5 (by unfold Cl.fin; omega) e
        have len := lift_len1 g hB5 e
        obtain ⟨g2, mem⟩ := put_good (g1.le (show B ≤ B + 402 by omega)) okc hf e2
        refine ⟨g2, ?_, fun f p l => ?_⟩
        · unfold putC at e2
          split at e2
          · cases e2
          · rename_i nm
            cases e2
            have nm := eq_false_of_ne_true nm
            rw [List.any_eq_false] at nm
            have dis := filt_two c es
            rw [List.length_append, List.length_append, List.length_singleton]
            omega
        · show _ ↔ (c.here f ∧ c.pa = p ∧ c.lev f = l) ∨ (¬ c.here f ∧ Ln cs f p l)
          constructor
          · rintro ⟨d, hd, h1, h2⟩
            rcases (mem d).mp hd with rfl | hd
            · exact .inl ⟨h1, h2⟩
            · obtain ⟨x1, x2⟩ := (l1 f p l).mp ⟨d, hd, h1, h2⟩
              refine .inr ⟨fun ⟨y1, y2⟩ => by omega, x1⟩
          · rintro (⟨h1, h2⟩ | ⟨h1, h2⟩)
            · exact ⟨c, (mem c).mpr (.inl rfl), h1, h2⟩
            · have : f < c.s ∨ c.fin ≤ f := by
                unfold Cl.here at h1
                omega
              obtain ⟨d, hd, x⟩ := (l1 f p l).mpr ⟨h2, this⟩
              exact ⟨d, (mem d).mpr (.inr hd), x⟩
  | cut m => exact hk.elim
  | join p => exact hk.elim
  | move p d => exact hk.elim
  | trim p s n => exact hk.elim
end Od

/-! sorted(xs, key=lambda ..): the lambda is made, called item by item, the list sorted -/
namespace Od
open PySem L2 Evl PySem.Spec PyProof.Rows LamX
section
variable {X : Cx} {pins : List (Addr × Obj)} {σ : L2.St} {H : Hp} {s : Shared}
/-- a lambda without captured names, called within built-ins -/
theorem lam_call {N ps : List Str} {q : Str} {params : Arguments} {body : Expr} {scope : Scope} {pm ctv : Value} {f c' : Addr} {us : List Value} {vs : List V} {Q : VK} {te : TE} {E : Value → Shared → Prop} {A : Around} {k : Nat}
    (I : Inv X pins σ H s) (S : FnScope N ps scope) (hr : Room (k + 1) A) (e0 : Env0 X.prog X.w X.K X.mg X.base A X.stack s H) (hf : s.heap.get? f = some (PySem.W.kla_obj "<lambda>" q params body scope [] pm c' ctv)) (hc : H c' = some (CodeO c' q))
    (hbind : bindArgs (PySem.W.kla_fn "<lambda>" q params body scope [] pm (.ref c') ctv) ⟨us, []⟩ = pure (ps.zip us)) (r : Vals vs us) (hl : vs.length = ps.length)
    (hbody : PE (cxOf CX0 X.prog X.w X.K X.mg X.base N q scope f (.ref c') A X.stack s H (fun _ _ _ => False)) body te) (ht : te (L2.start N vs) H Q) :
    wpAny (model X.prog X.w) A (call (.ref f) us) (EP X pins σ Q) E s := by
  obtain ⟨⟨oc, vs', t, hoc, hdc, hvc⟩, _, _⟩ := I.hok c' _ hc
  have places : ∀ y ∈ ps.zip us, scope.names.lookup y.1 = some .local ∨ (scope.names.lookup y.1 = some .cell ∧ ((cellsFrom (s.heap.objs.size + 1) scope.names []).lookup y.1).isSome = true) := by
    rintro ⟨n, v⟩ hy
    rcases S.par n (List.of_mem_zip hy).1 with z | z
    · exact Or.inl z
    · exact Or.inr ⟨z, PySem.W.cellsFrom_some _ _ _ (Or.inl z)⟩
  have rc : codeAny (model X.prog X.w) A (.call (.ref f) ⟨us, []⟩) (CR CX0 X.stack X.prog X.w H s Q (fun _ _ _ => False)) s := by
    refine PySem.W.kla_callFunE hr.depth hf rfl S.co S.gen rfl ⟨c', oc, vs', t, rfl, hoc, hdc, hvc⟩ ?_
    rw [hbind]
    refine wpAny_pure (wpAny_newFunctionEnv_cells S.kind places fun e2 he2 s1 inC => ?_)
    subst he2
    refine ⟨I.nolimit.keeps inC.toInCall.keep, PySem.W.kla_codeExpr ?_⟩
    have inv := inv_start (E := fun _ _ _ => False) (CX := CX0) S hr.hd e0 hl r inC
    refine wpAny_mono (hbody.run [] s1 _ H Q inv ht) (fun v s' hq => ?_) fun e s' hq => hq
    obtain ⟨w', H', J', rv, q⟩ := hq
    exact ⟨w', H', J'.os, J'.bare, J'.base, J'.hok, rv, q⟩
  refine wpAny_call (codeAny_mono rc fun r s' hq => ?_)
  cases r with
  | error e => exact hq.elim
  | ok fl =>
    cases fl with
    | ret u => exact I.after hq
    | next => exact False.elim hq
    | brk => exact False.elim hq
    | cont => exact False.elim hq
/-- an object of ours that is not tracked yet -/
structure Ours (X : Cx) (pins : List (Addr × Obj)) (b : Addr) : Prop where
  above : X.s_0.heap.objs.size ≤ b
  loc : b ≠ X.env.locals
  cell : ∀ x c, X.env.cells.lookup x = some c → c ≠ b
  pin : ∀ p ∈ X.pn ++ pins, p.1 ≠ b
  fs : b ∉ X.fs
theorem Ours.fresh (I : Inv X pins σ H s) {b : Addr} (h : s.heap.objs.size ≤ b) : Ours X pins b := by
  refine ⟨Nat.le_trans I.sz h, fun z => ?_, fun x c e z => ?_, fun p hp z => ?_, I.nofs h⟩
  · have := I.lt
    rw [← z] at this
    exact absurd (Nat.lt_of_lt_of_le this h) (Nat.lt_irrefl _)
  · obtain ⟨v, o, ho, _⟩ := I.cell x c e
    rw [z] at ho
    exact absurd (Nat.lt_of_lt_of_le (Heap.lt_size ho) h) (Nat.lt_irrefl _)
  · have ho := (I.pin p hp).1
    rw [z] at ho
    exact absurd (Nat.lt_of_lt_of_le (Heap.lt_size ho) h) (Nat.lt_irrefl _)
theorem Ours.more {b : Addr} (o : Ours X pins b) {p : Addr × Obj} (h : p.1 ≠ b) : Ours X (p :: pins) b :=
  ⟨o.above, o.loc, o.cell, fun z hz => by
    rcases List.mem_append.mp hz with hz | hz
    · exact o.pin z (List.mem_append_left _ hz)
    · rcases List.mem_cons.mp hz with rfl | hz
      · exact h
      · exact o.pin z (List.mem_append_right _ hz), o.fs⟩
theorem inv_drop {p : Addr × Obj} (I : Inv X (p :: pins) σ H s) : Inv X pins σ H s := I.pins_of fun z hz => I.pin z (List.mem_append_right _ (.tail _ hz))
theorem inv_pinned {b : Addr} {o : Obj} (I : Inv X pins σ H s) (ou : Ours X pins b) (ho : s.heap.get? b = some o) (hn : H b = none) (hd : ∀ v, o.data ≠ .cell v) : Inv X ((b, o) :: pins) σ H s :=
  I.pins_of fun z hz => by
    rcases List.mem_cons.mp hz with rfl | hz
    · exact ⟨ho, hn, ou.loc, ou.fs, hd⟩
    · exact I.pin z (List.mem_append_right _ hz)
/-- .. becomes tracked -/
theorem inv_track {b : Addr} {xs : List V} {its : List Value} {n : Nat} (I : Inv X pins σ H s) (ou : Ours X pins b) (hn : H b = none) (ho : s.heap.get? b = some (seqObj "list" its.toArray n)) (r : Vals xs its) (hl : xs.length ≤ sizeLine) :
    Inv X pins σ (upd H b (.lst xs)) s := by
  have nb : ∀ c u, H c = some u → c ≠ b := fun c u e z => by rw [z, hn] at e; cases e
  have st : Inv X pins σ (upd H b (.lst xs)) { s with heap := s.heap, gens := s.gens, drawn := s.drawn, toks := s.toks } := by
    refine I.step (ch := [b]) (fun c hc => ?_) (fun _ _ _ _ _ e _ => e) (fun _ o _ _ _ e _ => ⟨o.slots, e⟩) (fun c o hc _ e => ?_) (fun _ o _ e => ⟨o, e⟩) (fun c ys e => ?_) (fun c o u e => ?_) (fun c ps e => ⟨#[], ?_⟩) (fun _ h => h) (fun c u e => ?_) I.bare
    · rw [List.mem_singleton.mp hc]
      exact ⟨.inr ou.above, ou.loc, ou.cell, ou.pin⟩
    · rw [upd_ne (fun z => hc (by simp [z]))]
      exact e
    · rw [upd_ne (nb _ _ e)]
      exact e
    · rw [upd_ne (nb _ _ e)]
      exact e
    · rw [upd_ne (nb _ _ e), e]
      simp
    · by_cases hc : c = b
      · subst hc
        rw [upd_same] at e
        cases e
        exact ⟨hl, its, n, r, ho⟩
      · rw [upd_ne hc] at e
        exact (I.hok c u e).stay (fun _ _ _ z => z) (fun d z => by rw [upd_ne (nb _ _ z)]; exact z) fun d ys z => by rw [upd_ne (nb _ _ z)]; exact z
  exact st
/-- .. is written -/
theorem inv_wrote {b : Addr} {h' : Heap} {t' : Nat} (I : Inv X pins σ H s) (ou : Ours X pins b) (hn : H b = none) (k : ∀ c o, c ≠ b → s.heap.get? c = some o → h'.get? c = some o) : Inv X pins σ H { s with heap := h', toks := t' } :=
  I.turned k hn ou.loc (.inr ou.above) ou.cell ou.pin
end
theorem vals_perm {us us' : List Value} (h : us'.Perm us) : ∀ {xs : List V}, Vals xs us → ∃ xs' : List V, xs'.Perm xs ∧ Vals xs' us' := by
  induction h with
  | nil => intro xs r; exact ⟨xs, List.Perm.refl _, r⟩
  | cons u h ih =>
    intro xs r
    cases r with
    | cons a r =>
      obtain ⟨ys, h1, h2⟩ := ih r
      exact ⟨_, h1.cons _, .cons a h2⟩
  | swap u v l =>
    intro xs r
    cases r with
    | cons a r =>
      cases r with
      | cons b r => exact ⟨_, .swap _ _ _, .cons b (.cons a r)⟩
  | trans h1 h2 ih1 ih2 =>
    intro xs r
    obtain ⟨ys, p1, r1⟩ := ih2 r
    obtain ⟨zs, p2, r2⟩ := ih1 r1
    exact ⟨zs, p2.trans p1, r2⟩
theorem zip_snd_perm {ps : List (Int × Value)} {kz : List Int} {vs out : List Value} (h : KskOut false kz vs out) (hl : kz.length = vs.length) : out.Perm vs := by
  obtain ⟨ps, hp, rfl, _⟩ := h
  have := hp.map Prod.snd
  rw [List.map_snd_zip (by omega)] at this
  exact this
section
variable {X : Cx} {pins : List (Addr × Obj)} {σ : L2.St} {H : Hp} {A : Around} {E : Value → Shared → Prop} {P : PySem.Fin → Shared → Prop} {a kS : Addr} {vs : List Value} {kz : List Int} {keys : Array Value} {e e1 : Nat} {f : Value}
theorem noCell {xs : Array Value} {n : Nat} : ∀ v, (seqObj "list" xs n).data ≠ .cell v := fun _ z => by cases z
/-- what stands while the sort runs: the key store at kS, the list at a -/
structure Stand (X : Cx) (pins : List (Addr × Obj)) (σ : L2.St) (H : Hp) (s : Shared) (kS a : Addr) (keys : Array Value) (e e1 : Nat) : Prop where
  I : Inv X ((kS, seqObj "list" keys e) :: (a, seqObj "list" #[] e1) :: pins) σ H s
  ok : Ours X ((a, seqObj "list" #[] e1) :: pins) kS
  oa : Ours X pins a
  ne : kS ≠ a
theorem Stand.atK {s : Shared} (S : Stand X pins σ H s kS a keys e e1) : s.heap.get? kS = some (seqObj "list" keys e) ∧ H kS = none := ⟨(S.I.pin _ (List.mem_append_right _ (.head _))).1, (S.I.pin _ (List.mem_append_right _ (.head _))).2.1⟩
theorem Stand.atA {s : Shared} (S : Stand X pins σ H s kS a keys e e1) : s.heap.get? a = some (seqObj "list" #[] e1) ∧ H a = none := ⟨(S.I.pin _ (List.mem_append_right _ (.tail _ (.head _)))).1, (S.I.pin _ (List.mem_append_right _ (.tail _ (.head _)))).2.1⟩
theorem sk_tail {s : Shared} {st : SortSt} (S : Stand X pins σ H s kS a keys e e1) (hk : IntsAre keys.toList kz) (hlen : kz.length = vs.length) (hZ : vs.length ≤ sizeLine) (hp : (arrOf st).Perm (keys.zip vs.toArray)) (hs : SortedTo (arrOf st) (arrOf st).size) (hfl : failedOf st = none)
    (h : ∀ s' out c, Inv X pins σ H s' → s'.heap.get? a = some (seqObj "list" out c) → KskOut false kz vs out.toList → P (.done (.ret .none)) s') :
    wpAny (model X.prog X.w) A (ksk_tail a false e1 (.ref kS) st) P E s := by
  have hZ2 := hZ
  rw [sizeLine_eq] at hZ2
  have nk := S.atK
  have na := S.atA
  have hsz : keys.size = vs.length := by
    have h1 := hk.length
    rw [Array.length_toList] at h1
    omega
  have hsz2 : (arrOf st).size = vs.length := by rw [hp.size_eq, Array.size_zip, hsz, List.size_toArray, Nat.min_self]
  have hout : (if false = true then ((arrOf st).map (·.2)).reverse else (arrOf st).map (·.2)).size = vs.length := by
    simp only [Bool.false_eq_true, if_false, Array.size_map]
    exact hsz2
  have s1 := Heap.SameBut.update s.heap kS (Obj.mapSeq fun _ => (#[] : Array Value))
  have na1 : (s.heap.update kS (Obj.mapSeq fun _ => (#[] : Array Value))).get? a = some (seqObj "list" #[] e1) := (s1.2 a S.ne.symm).trans na.1
  have s2 := Heap.SameBut.update (s.heap.update kS (Obj.mapSeq fun _ => (#[] : Array Value))) a (Obj.mapSeq fun _ => if false = true then ((arrOf st).map (·.2)).reverse else (arrOf st).map (·.2))
  have key : ∀ zs : Array Value, ∃ c2, ((s.heap.update kS (Obj.mapSeq fun _ => (#[] : Array Value))).update a (Obj.mapSeq fun _ => zs)).get? a = some (seqObj "list" zs c2) := fun zs => ⟨_, get?_update_seq na1 fun _ => zs⟩
  obtain ⟨c2, hc2⟩ := key (if false = true then ((arrOf st).map (·.2)).reverse else (arrOf st).map (·.2))
  have I1 : Inv X ((a, seqObj "list" #[] e1) :: pins) σ H { s with heap := s.heap.update kS (Obj.mapSeq fun _ => (#[] : Array Value)), toks := s.toks } := inv_wrote (inv_drop S.I) S.ok nk.2 fun c o hc ho => (s1.2 c hc).trans ho
  have I2 : Inv X pins σ H { s with heap := (s.heap.update kS (Obj.mapSeq fun _ => (#[] : Array Value))).update a (Obj.mapSeq fun _ => if false = true then ((arrOf st).map (·.2)).reverse else (arrOf st).map (·.2)), toks := s.toks } :=
    inv_wrote (s := { s with heap := s.heap.update kS (Obj.mapSeq fun _ => (#[] : Array Value)), toks := s.toks }) (inv_drop I1) S.oa na.2 fun c o hc ho => (s2.2 c hc).trans ho
  unfold ksk_tail
  try dsimp only
  refine wpAny_bind (listUpdate_at nk.1 rfl ?_ (by rw [hsz, sizeLine_eq]; omega) (Nat.zero_le _))
  refine wpAny_bind (wpAny_letGo ?_)
  refine wpAny_bind (seqEpoch_at na1 rfl ?_)
  refine wpAny_bind (listUpdate_at na1 rfl ?_ (Nat.zero_le _) (Nat.le_trans (Nat.le_of_eq hout) (by rw [sizeLine_eq]; omega)))
  rw [hfl]
  simp only [bne_self_eq_false, Bool.false_eq_true, if_false]
  exact wpAny_pure (h _ _ c2 I2 hc2 (ksk_out (b := false) hk hp hs))
theorem sk_end {s : Shared} (S : Stand X pins σ H s kS a keys e e1) (hk : IntsAre keys.toList kz) (hlen : kz.length = vs.length) (hZ : vs.length ≤ sizeLine)
    (h : ∀ s' out c, Inv X pins σ H s' → s'.heap.get? a = some (seqObj "list" out c) → KskOut false kz vs out.toList → P (.done (.ret .none)) s') :
    wpAny (model X.prog X.w) A (ksk_end a false vs.toArray e1 (.ref kS) keys) P E s := by
  have hsz : keys.size = vs.length := by
    have h1 := hk.length
    rw [Array.length_toList] at h1
    omega
  have hzs : (keys.zip vs.toArray).size = vs.length := by rw [Array.size_zip, hsz, List.size_toArray, Nat.min_self]
  unfold ksk_end
  simp only [Bool.false_eq_true, if_false]
  by_cases h2 : vs.toArray.size < 2
  · rw [if_pos h2, if_pos h2]
    refine wpAny_bind (wpAny_pure ?_)
    rw [StateT.run_pure]
    refine wpAny_bind (wpAny_pure ?_)
    try dsimp only
    refine sk_tail (st := SortSt.mk' general' (keys.zip vs.toArray) #[] 7 none) S hk hlen hZ (Array.Perm.refl _) ?_ rfl h
    intro i j hij hj
    have hj2 : j < (keys.zip vs.toArray).size := hj
    rw [hzs] at hj2
    rw [List.size_toArray] at h2
    have : i = j := by omega
    subst this
    exact Int.le_refl _
  · rw [if_neg h2, if_neg h2]
    rw [List.size_toArray] at h2
    rw [ksk_kind hk (by rw [hsz]; omega)]
    refine wpAny_bind (wpAny_pure ?_)
    refine wpAny_bind (wpAny_mono (wpS_sortRunsAny (κ := intKind) (a₀ := keys.zip vs.toArray) (st := SortSt.mk' oneType' (keys.zip vs.toArray) #[] 7 none)
      (Q := fun _ st' => (arrOf st').Perm (keys.zip vs.toArray) ∧ failedOf st' = none ∧ SortedTo (arrOf st') (keys.zip vs.toArray).size)
      intKind_oneLt (ksk_keysOfInt (ksk_intKeys hk)) ⟨Array.Perm.refl _, rfl, rfl⟩ rfl (by rw [hzs]; omega) fun st' a1 a2 a3 => ⟨a1, a2, sortedTo_of_int a3⟩) ?_ fun _ _ e => e)
    rintro ⟨⟨⟩, st'⟩ s' ⟨rfl, hp, hf, hs⟩
    try dsimp only
    exact sk_tail S hk hlen hZ hp (by rw [hp.size_eq]; exact hs) hf h
theorem sk_rest {s : Shared} (S : Stand X pins σ H s kS a #[] 0 e1) (hlen : kz.length = vs.length) (hZ : vs.length ≤ sizeLine)
    (turn : ∀ (i : Nat) (v : Value) (k : Int), vs[i]? = some v → kz[i]? = some k → ∀ (s' : Shared) (own : List (Addr × Obj)), Inv X (own ++ pins) σ H s' →
      wpAny (model X.prog X.w) A (call f [v]) (EP X (own ++ pins) σ (fun u H' => u = .int k ∧ H' = H)) (fun _ _ => False) s')
    (h : ∀ s' out c, Inv X pins σ H s' → s'.heap.get? a = some (seqObj "list" out c) → KskOut false kz vs out.toList → P (.done (.ret .none)) s') :
    wpAny (model X.prog X.w) A (ksk_rest a f false vs.toArray e1 (.ref kS)) P E s := by
  have hZ2 := hZ
  rw [sizeLine_eq] at hZ2
  unfold ksk_rest
  refine wpAny_bind (wpAny_rule ?_)
  first
    | rw [List.forIn_toArray]
    | (rw [← Array.forIn_toList]; simp only [List.toList_toArray])
    | rw [← Array.forIn_toList]
  refine wpAny_bind (ksk_fold (fun i s' => ∃ kA e, Stand X pins σ H s' kS a kA e e1 ∧ IntsAre kA.toList (kz.take i)) vs 0 s
    ⟨#[], 0, S, by simpa using IntsAre.nil⟩ ?step ?done)
  case step =>
    rintro j x s' hx ⟨kA, e, S', hk⟩
    simp only [Nat.zero_add] at hk ⊢
    have hj : j < vs.length := (List.getElem?_eq_some_iff.mp hx).1
    obtain ⟨k, hkj⟩ : ∃ k, kz[j]? = some k := ⟨_, List.getElem?_eq_getElem (by omega)⟩
    have hz : kA.size ≤ vs.length := by
      have h1 := hk.length
      rw [Array.length_toList, List.length_take] at h1
      omega
    refine wpAny_bind (wpAny_attempt (wpAny_mono (turn j x k hx hkj s' [(kS, seqObj "list" kA e), (a, seqObj "list" #[] e1)] S'.I) (fun v s'' he => ?_) fun _ _ hF => hF.elim))
    obtain ⟨u, H', J, rv, rfl, rfl⟩ := he
    obtain ⟨t2, rfl⟩ := rv
    try dsimp only
    have S2 : Stand X pins σ H' s'' kS a kA e e1 := ⟨J, S'.ok, S'.oa, S'.ne⟩
    have nk := S2.atK
    have na := S2.atA
    have s1 := Heap.SameBut.update s''.heap kS (Obj.mapSeq (·.push (.int k t2)))
    obtain ⟨c2, hc2⟩ : ∃ c2, (s''.heap.update kS (Obj.mapSeq (·.push (.int k t2)))).get? kS = some (seqObj "list" (kA.push (.int k t2)) c2) := ⟨_, get?_update_seq nk.1 (·.push (.int k t2))⟩
    have ek : kz.take (j + 1) = kz.take j ++ [k] := by rw [List.take_add_one, hkj]; simp
    have ea : (kA.push (Value.int k t2)).toList = kA.toList ++ [Value.int k t2] := by simp
    have I1 : Inv X ((a, seqObj "list" #[] e1) :: pins) σ H' { s'' with heap := s''.heap.update kS (Obj.mapSeq (·.push (.int k t2))), toks := s''.toks } := inv_wrote (inv_drop S2.I) S2.ok nk.2 fun c o hc ho => (s1.2 c hc).trans ho
    refine wpAny_bind (listUpdate_at nk.1 rfl ?_ (by rw [sizeLine_eq]; omega) (Nat.le_trans (Nat.le_of_eq (Array.size_push ..)) (by rw [sizeLine_eq]; omega)))
    exact wpAny_pure ⟨rfl, kA.push (.int k t2), c2, ⟨inv_pinned I1 S2.ok hc2 nk.2 noCell, S2.ok, S2.oa, S2.ne⟩, by rw [ea, ek]; exact ksk_snoc hk⟩
  case done =>
    rintro s' ⟨kA, e, S', hk⟩
    have hk' : IntsAre kA.toList kz := by
      have e3 : kz.take (0 + vs.length) = kz := List.take_of_length_le (by omega)
      rw [e3] at hk
      exact hk
    have nk := S'.atK
    try dsimp only
    refine wpAny_bind (listItems_at nk.1 rfl ?_)
    exact sk_end S' hk' hlen hZ h
/-- sorted(l, key=f) -/
theorem sorted_key {s : Shared} {l fa : Addr} {us : List V} {Q : VK} (I : Inv X pins σ H s) (hs : SqL X.K H l us) (hlen : kz.length = us.length)
    (turn : ∀ (i : Nat) (x : V) (v : Value) (k : Int), us[i]? = some x → RelV x v → kz[i]? = some k → ∀ (s' : Shared) (own : List (Addr × Obj)), Inv X (own ++ pins) σ H s' →
      wpAny (model X.prog X.w) A.in1.in1 (call (.ref fa) [v]) (EP X (own ++ pins) σ (fun u H' => u = .int k ∧ H' = H)) (fun _ _ => False) s')
    (q : ∀ p us', H p = none → us'.Perm us → Q (.ref p) (upd H p (.lst us'))) :
    wpAny (model X.prog X.w) A (call (.builtin "sorted") [.ref l] [(Str.ofString "key", .ref fa)]) (EP X pins σ Q) E s := by
  obtain ⟨vs, rv, pl, hz⟩ := I.list hs
  have hl := pl.isList
  have vl := rv.length
  have hzv : vs.length ≤ sizeLine := by omega
  refine call_function_entry_kw kind_sorted plain_sorted entry_sorted (ksk_s1 _ _) ?_
  unfold Builtin.«sorted»
  refine wpAny_bind (m := checkCount "sorted" 1 1 _) (wpAny_pure ?_)
  refine wpAny_bind (collect_list hl ?_ hzv)
  refine wpAny_bind (wpAny_newList ?_ hzv)
  have hsz : ((s.heap.push (seqObj "list" #[] 0)).update s.heap.objs.size (Obj.mapSeq (· ++ vs.toArray))).objs.size = s.heap.objs.size + 1 := by
    rw [Heap.size_update, size_push']
  have hoL : (((s.heap.push (seqObj "list" #[] 0)).update s.heap.objs.size (Obj.mapSeq (· ++ vs.toArray))).push (seqObj "list" vs.toArray 0)).get? (s.heap.objs.size + 1) = some (seqObj "list" vs.toArray 0) := by
    rw [← hsz]; exact Heap.get?_push_size _ rfl
  have keep : ∀ b o, s.heap.get? b = some o → (((s.heap.push (seqObj "list" #[] 0)).update s.heap.objs.size (Obj.mapSeq (· ++ vs.toArray))).push (seqObj "list" vs.toArray 0)).get? b = some o := fun b o q => by
    have hlt : b < s.heap.objs.size := Heap.lt_size q
    rw [Heap.get?_push_ne _ _ _ (by rw [hsz]; exact Nat.ne_of_lt (Nat.lt_succ_of_lt hlt)), Heap.get?_update_ne _ _ _ _ (Nat.ne_of_lt hlt), Heap.get?_push_ne _ _ _ (Nat.ne_of_lt hlt)]
    exact q
  show wpAny _ _ _ _ _ { s with heap := ((s.heap.push (seqObj "list" #[] 0)).update s.heap.objs.size (Obj.mapSeq (· ++ vs.toArray))).push (seqObj "list" vs.toArray 0) }
  rw [hsz]
  have oa : Ours X pins (s.heap.objs.size + 1) := Ours.fresh I (Nat.le_succ _)
  have na : H (s.heap.objs.size + 1) = none := I.hok.fresh (Nat.le_succ _)
  have I0 : Inv X pins σ H { s with heap := ((s.heap.push (seqObj "list" #[] 0)).update s.heap.objs.size (Obj.mapSeq (· ++ vs.toArray))).push (seqObj "list" vs.toArray 0), toks := s.toks } := I.kept keep
  generalize ((s.heap.push (seqObj "list" #[] 0)).update s.heap.objs.size (Obj.mapSeq (· ++ vs.toArray))).push (seqObj "list" vs.toArray 0) = hp at hoL keep I0 ⊢
  generalize s.heap.objs.size + 1 = a at hoL oa na ⊢
  refine wpAny_bind (wpAny_holding (wpAny_call_entry_kw slot_list_sort ⟨_, hoL, rfl⟩ entry_list_sort ?body (ksk_l1 _ _)))
  show wpAny (model X.prog X.w) A.in1.in1 (Builtin.«list.sort» ⟨[.ref a], [(Str.ofString "key", .ref fa)]⟩) _ _ _
  rw [ksk_t1]
  have hZ2 := hzv
  rw [sizeLine_eq] at hZ2
  have s1 := Heap.SameBut.update hp a (Obj.mapSeq fun _ => (#[] : Array Value))
  obtain ⟨e1, ho1⟩ : ∃ e1, (hp.update a (Obj.mapSeq fun _ => (#[] : Array Value))).get? a = some (seqObj "list" #[] e1) := ⟨_, get?_update_seq hoL fun _ => #[]⟩
  have I1 : Inv X pins σ H { s with heap := hp.update a (Obj.mapSeq fun _ => (#[] : Array Value)), toks := s.toks } := inv_wrote (s := { s with heap := hp, toks := s.toks }) I0 oa na fun c o hc ho => (s1.2 c hc).trans ho
  have I1a := inv_pinned I1 oa ho1 na noCell
  have hkS : ((hp.update a (Obj.mapSeq fun _ => (#[] : Array Value))).push (seqObj "tuple" vs.toArray 0)).objs.size = hp.objs.size + 1 := by rw [size_push', Heap.size_update]
  have ok : Ours X ((a, seqObj "list" #[] e1) :: pins) (((hp.update a (Obj.mapSeq fun _ => (#[] : Array Value))).push (seqObj "tuple" vs.toArray 0)).objs.size) := Ours.fresh I1a (by rw [hkS]; show (hp.update a (Obj.mapSeq fun _ => (#[] : Array Value))).objs.size ≤ _; rw [Heap.size_update]; exact Nat.le_succ _)
  have nk : H (((hp.update a (Obj.mapSeq fun _ => (#[] : Array Value))).push (seqObj "tuple" vs.toArray 0)).objs.size) = none := I1.hok.fresh (by rw [hkS]; show (hp.update a (Obj.mapSeq fun _ => (#[] : Array Value))).objs.size ≤ _; rw [Heap.size_update]; exact Nat.le_succ _)
  have I2 : Inv X ((a, seqObj "list" #[] e1) :: pins) σ H { s with heap := ((hp.update a (Obj.mapSeq fun _ => (#[] : Array Value))).push (seqObj "tuple" vs.toArray 0)).push (seqObj "list" #[] 0), toks := s.toks } := I1a.kept fun b o e => Heap.get?_push_of_some _ (Heap.get?_push_of_some _ e)
  have nea : ((hp.update a (Obj.mapSeq fun _ => (#[] : Array Value))).push (seqObj "tuple" vs.toArray 0)).objs.size ≠ a := by
    rw [hkS]
    exact Nat.ne_of_gt (Nat.lt_succ_of_lt (Heap.lt_size hoL))
  unfold ksk_tree
  refine wpAny_bind (listItems_at hoL rfl ?_)
  refine wpAny_bind (listUpdate_at hoL rfl ?_ (by rw [List.size_toArray, sizeLine_eq]; omega) (Nat.zero_le _))
  refine wpAny_bind (seqEpoch_at ho1 rfl ?_)
  refine wpAny_bind (wpAny_newTuple ?_ (by show vs.length ≤ _; rw [sizeLine_eq]; omega))
  refine wpAny_bind (wpAny_newList ?_ (Nat.zero_le _))
  refine wpAny_holding ?_
  refine sk_rest (kz := kz) (s := { s with heap := ((hp.update a (Obj.mapSeq fun _ => (#[] : Array Value))).push (seqObj "tuple" vs.toArray 0)).push (seqObj "list" #[] 0) }) ⟨inv_pinned I2 ok (Heap.get?_push_size _ rfl) nk noCell, ok, oa, nea⟩ (by omega) hzv (fun i v k hv hk s' own J => ?_) fun s' out c J ho ko => ?_
  · obtain ⟨x, hx, rx⟩ : ∃ x, us[i]? = some x ∧ RelV x v := by
      have hi : i < us.length := by
        have := (List.getElem?_eq_some_iff.mp hv).1
        omega
      obtain ⟨u, hu, ru⟩ := rv.get (List.getElem?_eq_getElem hi)
      rw [hv] at hu
      cases hu
      exact ⟨_, List.getElem?_eq_getElem hi, ru⟩
    exact turn i x v k hx rx hk s' own J
  · obtain ⟨us', hp', r'⟩ := vals_perm (zip_snd_perm (ps := []) ko (by omega)) rv
    refine ⟨_, rfl, wpAny_pure ⟨_, rfl, ?_⟩⟩
    exact ⟨.ref a, _, inv_track J oa na (its := out.toList) (by rw [Array.toArray_toList]; exact ho) r' (by rw [hp'.length_eq]; exact hz), rfl, q a us' na hp'⟩
end
end Od

namespace Od
open PySem L2 Evl PySem.Spec PyProof.Rows LamX
section
variable {X : Cx}
/-- sorted(xs, key=lambda p: e): what is asked -/
def tSortLam (K : PySem.W.Frag) (T : List (Addr × Str)) (N : List Str) (te : TE) (t : TA) : TE := fun σ H Q => t σ H fun vs H1 => ∃ (a : Addr) (us : List V) (kf : V → Int), vs = [.ref a] ∧ SqL K H1 a us ∧ Tabs T H1 ∧
  (∀ x ∈ us, ∀ H2, ExtN H1 H2 → te (L2.start N [x]) H2 fun u H' => u = .int (kf x) ∧ H' = H2) ∧
  ∀ H2 p us', ExtN H1 H2 → Tabs T H2 → H2 p = none → us'.Perm us → Q (.ref p) (upd H2 p (.lst us'))
theorem pe_sortedLam (K : PySem.W.Frag) {N : List Str} {pn : Str} {T : List (Addr × Str)} {c P : Addr} {p pos lpos kpos : Pos} {e : Expr} {t : TA} {te : TE} {params : Arguments} {body : Expr} {scope : Scope} (TB : TabB X.base X.mg c P) (hcode : X.env.code = .ref c)
    (hm : (P, X.env.qual ++ "<lambda>") ∈ T) (hu : ∀ p ∈ T, p.1 = P → p.2 = X.env.qual ++ "<lambda>") (hr : Room 3 X.A) (hs : X.stack = X.env :: X.outer) (hfr : X.env.frame = some X.env.locals)
    (hg : Gl X "sorted") (hmg : X.mg "sorted" = none) (ha : PA X [e] t) (S : FnScope N [pn] scope)
    (hbody : ∀ (f c' : Addr) (A : Around) (s : Shared) (H : Hp), PE (cxOf CX0 X.prog X.w X.K X.mg X.base N (X.env.qual ++ "<lambda>") scope f (.ref c') A X.stack s H (fun _ _ _ => False)) body te)
    (hbind : ∀ (pm ctv : Value) (c' : Addr) (u : Value), bindArgs (PySem.W.kla_fn "<lambda>" (X.env.qual ++ "<lambda>") params body scope [] pm (.ref c') ctv) ⟨[u], []⟩ = pure [(pn, u)] := by exact fun _ _ _ _ => rfl)
    (hdef : defaultsOf params X.env = ([], []) := by rfl) (hclo : cloFrom X.env.cells scope.names [] = [] := by rfl) (hfree : ∀ y ∈ scope.names, y.2 = .free → ∃ c, X.env.cells.lookup y.1 = some c := by intro y hy z; rcases List.mem_singleton.mp hy with rfl; cases z)
    (he : backTo pos (starEach [e] X.env) = (false, eval e X.env) :: backTo pos (starEach [] X.env) := by rfl) (hpl : (backTo pos (starEach [e] X.env)).any (·.1) = false := by rfl) (hK : X.K = K := by rfl) :
    PE X (.Call (.Name "sorted" p) [e] [{ arg := some "key", value := .Lambda params body scope lpos, pos := kpos }] pos) (tSortLam K T N te t) := by
  subst hK
  refine ⟨fun pins s σ H Q I h => ?_⟩
  refine wpAny_Call_Name_kw (ld_blt I hg hmg bt_sorted ?_ (by decide) (by decide))
  refine PyProof.Rows.callWith_kw (thn (ha.run pos pins s σ H _ I h) fun us0 s1 ⟨vs, H1, I1, r1, a, us, kf, ev, sq, tabs, key, q⟩ => ?_) he hpl rfl rfl
  subst ev
  obtain rfl := Vals.ref1 r1
  show wpAny _ _ (evalAll ((do let v ← eval (.Lambda params body scope lpos) X.env; standAt pos; pure v) :: [])) _ _ s1
  refine wpAny_evalAll_cons (wpAny_bind (lam_make2 I1 TB hcode hm hu tabs hdef hfree fun f c' pm ctv H2 s2 I2 en tabs2 hf hfn hfs hc => wpAny_bind (wpAny_standAt (wpAny_pure (wpAny_evalAll_nil ?_)))))
  rw [hclo] at hf
  have nl : f ≠ X.env.locals := fun z => hfs (by rw [hs]; exact List.mem_filterMap.mpr ⟨X.env, List.mem_cons_self, by rw [hfr, z]⟩)
  have nf : f ∉ X.fs := fun z => hfs (by
    rw [hs]
    obtain ⟨e, he, q⟩ := List.mem_filterMap.mp z
    exact List.mem_filterMap.mpr ⟨e, List.mem_cons_of_mem _ he, q⟩)
  have I3 : Inv X ((f, PySem.W.kla_obj "<lambda>" (X.env.qual ++ "<lambda>") params body scope [] pm c' ctv) :: pins) σ H2 s2 := I2.pins_of fun z hz => by
    rcases List.mem_cons.mp hz with rfl | hz
    · exact ⟨hf, hfn, nl, nf, fun v z => by cases z⟩
    · exact I2.pin z (List.mem_append_right _ hz)
  have sq2 : SqL X.K H2 a us := by
    rcases sq with (h | ⟨o, h⟩) | h
    · exact .inl (.inl (en _ _ h fun ps z => by cases z))
    · exact .inl (.inr ⟨o, en _ _ h fun ps z => by cases z⟩)
    · exact .inr h
  show wpAny (model X.prog X.w) X.A (call (.builtin "sorted") [.ref a] [(Str.ofString "key", .ref f)]) _ _ s2
  refine wpAny_mono (sorted_key (kz := us.map kf) (Q := Q) (E := X.xe) I3 sq2 (by rw [List.length_map]) (fun i x v k hx rx hk s' own J => ?_) fun p us' np hp => q H2 p us' en tabs2 np hp) (fun u s' hq => ?_) fun _ _ z => z
  · obtain rfl : kf x = k := by
      rw [List.getElem?_map, hx] at hk
      exact Option.some.inj hk
    have hf' := (J.pin (f, _) (List.mem_append_right _ (List.mem_append_right _ (.head _)))).1
    exact lam_call (k := 0) (te := te) (vs := [x]) (ps := [pn]) J S hr.in1.in1 J.env0.in1.in1 hf' hc (hbind pm ctv c' v) (.cons rx .nil) rfl (hbody f c' X.A.in1.in1 s' H2) (key x (List.mem_of_getElem? hx) H2 en)
  · obtain ⟨w', H', J', rv, qq⟩ := hq
    exact ⟨w', H', inv_drop J', rv, qq⟩
end
end Od

/-! a def with a lambda in it; the law's end where a table of code objects stands -/
namespace Od
open PySem L2 Evl PySem.Spec PyProof.Rows LamX
theorem extN_tk {H H' : Hp} (e : ExtN H H') : TK H H' := fun a xs h => e a _ h fun ps z => by cases z
theorem ExtN.ex {H H' : Hp} (e : Ex H H') : ExtN H H' := fun b o h _ => e b o h
structure FunT (K : PySem.W.Frag) (x qual : Str) (st : Stmt) (f : Addr) (fd : FuncData) (c : Addr) : Prop where
  ex : ∃ (oc : Value) (od : Option Addr) (kV doc pm : Value) (an : Option Addr) (ct : Value) (osl : Array (Option Value)),
    fd = PySem.W.fnOf x qual (defArgs st) (defBody st) (defScope st) .none kV doc pm an (.ref c) ct ∧ K.lookup f = some ⟨oc, od, .func fd, osl⟩ ∧ PySem.W.codeIn K (.ref c) qual = true
  kp : PySem.W.keepIn K (.ref f) = true
section
variable {P : Program} {w : World} {K : PySem.W.Frag} {mg : Str → Option Value} {base : Heap}
theorem FunT.fn {x qual : Str} {st : Stmt} {f c : Addr} {fd : FuncData} (F : FunT K x qual st f fd c) : Fun K x qual st f fd := by
  obtain ⟨oc, od, kV, doc, pm, an, ct, osl, h1, h2, h3⟩ := F.ex
  exact ⟨⟨oc, od, kV, doc, pm, an, .ref c, ct, osl, h1, h2, h3⟩, F.kp⟩
theorem FunT.okX {x qual : Str} {st : Stmt} {f c : Addr} {fd : FuncData} {N ps : List Str} {k : Nat} {sp : Sp} (F : FunT K x qual st f fd c) (S : FnScope N ps (defScope st)) (len : ∀ vs H Q E, sp vs H Q E → vs.length = ps.length)
    (hbody : ∀ (A : Around) (outer : List Env) (s : Shared) (H : Hp) (vs : List V) (Q : VK) (E : XK), Room k (A.deeper (envOfC qual (defScope st) s.heap.objs.size f (.ref c))) → sp vs H Q E →
      ∃ t, PSs (cxOf (L2.CX P w) P w K mg base N qual (defScope st) f (.ref c) A outer s H E) (defBody st) t ∧ t { nx := fun _ H' => Q .non H', rt := Q } (L2.start N vs) H) : FnOk P w K mg base (L2.CX P w) (k + 1) f fd ps sp := by
  obtain ⟨oc, od, kV, doc, pm, an, ct, osl, rfl, lk, hcd⟩ := F.ex
  exact fn_of lk hcd S len fun A outer s H vs Q E hr hsp => hbody A outer s H vs Q E hr hsp
theorem funT_mk {x qual : Str} {st : Stmt} {f c : Addr} {oc : Value} {od an : Option Addr} {osl : Array (Option Value)} {kV doc pm ct : Value} (l : K.lookup f = some ⟨oc, od, .func (PySem.W.fnOf x qual (defArgs st) (defBody st) (defScope st) .none kV doc pm an (.ref c) ct), osl⟩)
    (h : PySem.W.codeIn K (.ref c) qual = true) (k : PySem.W.keepIn K (.ref f) = true) : FunT K x qual st f (PySem.W.fnOf x qual (defArgs st) (defBody st) (defScope st) .none kV doc pm an (.ref c) ct) c := ⟨⟨oc, od, kV, doc, pm, an, ct, osl, rfl, l, h⟩, k⟩
end
theorem tabIn_of {K : PySem.W.Frag} {x : Str} {f c P : Addr} {oc o2 : Value} {od d2 : Option Addr} {fd : FuncData} {sl s2 : Array (Option Value)} {vs : Array Value} (h1 : PySem.W.nsIn K mainGlobals x = some (some (.ref f))) (h2 : K.lookup f = some ⟨oc, od, .func fd, sl⟩) (h3 : fd.code = .ref c)
    (h4 : K.lookup c = some ⟨o2, d2, .fields vs, s2⟩) (h5 : vs[11]? = some (.ref P)) : PySem.W.tabIn K x = some (c, P) := by
  unfold PySem.W.tabIn
  rw [h1]
  simp only [h2, h3, h4, h5]
/-- what is known of the law's promise where a table stands -/
def LawT (l : PySem.W.OpenLaw) (w : World) (K : PySem.W.Frag) (k n : Nat) (x y : Str) (mg : Str → Option Value) (fa : Addr) : Prop :=
  ∃ (fd : FuncData) (c P : Addr) (sp : Sp), PySem.W.tabIn K y = some (c, P) ∧ K.lookup P = none ∧ (∀ (s : Shared) (u : Value), BindsTo s fd ⟨[u], []⟩ [(x, u)]) ∧
    (∀ (H : Hp) (a : Addr) (ns : List Int), ns.length ≤ n → H P = some (.tbl #[]) → SqL K H a (ns.map V.int) → sp [.ref a] H (fun v _ => v = .bl true) fun _ _ _ => False) ∧
    ∀ base : Heap, K.In base → base.Ns mainGlobals mg → TabB base mg c P → FnOk l.prog w K mg base CX0 k fa fd [x] sp
theorem walk_t {l : PySem.W.OpenLaw} {n k : Nat} {q : Program} {loose : List Str} {XP : (Str → Option Value) → Heap → Prop} {YP : World → Heap → Prop} {d : DefRec} {K : Params → PySem.W.Frag} {x y : Str}
    (hn : l.most = some n) (hn2 : n ≤ sizeLine) (hdf : d.params.defaults = []) (rm : Room k callerA) (recs : ((recsOf q).find? (fun e => e.name == y)).isSome = true)
    (written : ∀ (w : World) (h : Heap), YP w h → (K w.params).In h)
    (F : ∀ (w : World) (mg : Str → Option Value) (fa : Addr) (h : Heap), (K w.params).In h → h.Ns mainGlobals mg → mg d.name = some (.ref fa) → LawT l w (K w.params) k n x y mg fa) :
    PySem.W.WalkO q loose XP YP l.row.toRowW d [] (fun g us => PySem.call g us) := by
  refine Att.attach_call hn hdf ?_
  intro w s₀ s₁ mg mb fa o pm cd doc a vs ns G Y _ _ _ hmg hobj hints hlen hg
  have kin := written w _ Y
  obtain ⟨d2, hd2⟩ := Option.isSome_iff_exists.mp recs
  obtain ⟨fd, c, P, sp, tab, nT, bnd, prom, fn⟩ := F w mg fa _ kin G.T.g hmg
  obtain ⟨hC, hT⟩ := PySem.W.tab_of G.T kin hd2 tab
  exact law_callTs (cs := [(c, P)]) kin G.T.g G.T.b G.T.builtins G.T.nolimit hg (fun p hp => by rw [List.mem_singleton.mp hp]; exact hT) (fun p hp => by rw [List.mem_singleton.mp hp]; exact nT) (fun p hp => by rw [List.mem_singleton.mp hp]; exact hC) G.T.bmain hobj hints (Nat.le_trans hlen hn2) rm
    (fun base kb gb tb => fn base kb gb (tb (c, P) (by simp))) bnd (fun H hH hS => prom H a ns hlen (hH (c, P) (by simp)) hS) fun H e s' h => h
end Od

/-! sorted(t, key=lambda ..) of a tuple: a list of the same items, by key -/
namespace Od
open PySem L2 Evl PySem.Spec PyProof.Rows LamX
/-- items, with their keys and values -/
inductive KV (kf : V → Int) : List V → List (Int × Value) → Prop
  | nil : KV kf [] []
  | cons {x : V} {v : Value} {xs : List V} {ps : List (Int × Value)} (h : RelV x v) (t : KV kf xs ps) : KV kf (x :: xs) ((kf x, v) :: ps)
theorem KV.of {kf : V → Int} : ∀ {us : List V} {vs : List Value}, Vals us vs → KV kf us ((us.map kf).zip vs)
  | [], _, h => by cases h; exact .nil
  | u :: us, _, h => by
    cases h with
    | cons a r => exact .cons a (KV.of r)
theorem KV.perm {kf : V → Int} {ps qs : List (Int × Value)} (h : qs.Perm ps) : ∀ {xs : List V}, KV kf xs ps → ∃ ys : List V, ys.Perm xs ∧ KV kf ys qs := by
  induction h with
  | nil => intro xs r; exact ⟨xs, List.Perm.refl _, r⟩
  | cons u h ih =>
    intro xs r
    cases r with
    | cons a r =>
      obtain ⟨ys, h1, h2⟩ := ih r
      exact ⟨_, h1.cons _, .cons a h2⟩
  | swap u v l =>
    intro xs r
    cases r with
    | cons a r =>
      cases r with
      | cons b r => exact ⟨_, .swap _ _ _, .cons b (.cons a r)⟩
  | trans h1 h2 ih1 ih2 =>
    intro xs r
    obtain ⟨ys, p1, r1⟩ := ih2 r
    obtain ⟨zs, p2, r2⟩ := ih1 r1
    exact ⟨zs, p2.trans p1, r2⟩
theorem KV.out {kf : V → Int} : ∀ {xs : List V} {ps : List (Int × Value)}, KV kf xs ps → Vals xs (ps.map Prod.snd) ∧ xs.map kf = ps.map Prod.fst
  | [], _, h => by cases h; exact ⟨.nil, rfl⟩
  | x :: xs, _, h => by
    cases h with
    | cons a r =>
      obtain ⟨h1, h2⟩ := KV.out r
      exact ⟨.cons a h1, by rw [List.map_cons, List.map_cons, h2]⟩
theorem kv_sorted {kf : V → Int} {us : List V} {vs out : List Value} (r : Vals us vs) (k : KskOut false (us.map kf) vs out) : ∃ us' : List V, us'.Perm us ∧ Vals us' out ∧ (us'.map kf).Pairwise (· ≤ ·) := by
  obtain ⟨ps, hp, rfl, ho⟩ := k
  obtain ⟨ys, h1, h2⟩ := KV.perm hp (KV.of (kf := kf) r)
  obtain ⟨h3, h4⟩ := h2.out
  refine ⟨ys, h1, h3, ?_⟩
  rw [h4, List.pairwise_map]
  exact ho.imp fun {p q} z => by simpa using z
section
variable {X : Cx} {pins : List (Addr × Obj)} {σ : L2.St} {H : Hp} {A : Around} {E : Value → Shared → Prop} {kf : V → Int}
theorem sorted_keyT {s : Shared} {l fa : Addr} {us : List V} {Q : VK} (I : Inv X pins σ H s) (hs : SqT X.K H l us)
    (turn : ∀ (i : Nat) (x : V) (v : Value), us[i]? = some x → RelV x v → ∀ (s' : Shared) (own : List (Addr × Obj)), Inv X (own ++ pins) σ H s' →
      wpAny (model X.prog X.w) A.in1.in1 (call (.ref fa) [v]) (EP X (own ++ pins) σ (fun u H' => u = .int (kf x) ∧ H' = H)) (fun _ _ => False) s')
    (q : ∀ p us', H p = none → us'.Perm us → (us'.map kf).Pairwise (· ≤ ·) → Q (.ref p) (upd H p (.lst us'))) :
    wpAny (model X.prog X.w) A (call (.builtin "sorted") [.ref l] [(Str.ofString "key", .ref fa)]) (EP X pins σ Q) E s := by
  obtain ⟨vs, rv, ⟨o, ho, hcls, no, hdat⟩, hz⟩ := I.tuple hs
  have vl := rv.length
  have hzv : vs.length ≤ sizeLine := by omega
  refine call_function_entry_kw kind_sorted plain_sorted entry_sorted (ksk_s1 _ _) ?_
  unfold Builtin.«sorted»
  refine wpAny_bind (m := checkCount "sorted" 1 1 _) (wpAny_pure ?_)
  refine wpAny_bind (wpAny_collect_seq l (.inr rfl) ho hcls hdat (fun h0 keep0 => ?_) (by rw [List.size_toArray]; omega))
  rw [show vs.toArray.toList = vs by simp]
  refine wpAny_bind (wpAny_newList ?_ hzv)
  have oa : Ours X pins h0.objs.size := Ours.fresh (s := { s with heap := h0 }) (I.kept (t' := s.toks) keep0) (Nat.le_refl _)
  have na : H h0.objs.size = none := (I.kept (t' := s.toks) keep0).hok.fresh (Nat.le_refl _)
  have hoL : (h0.push (seqObj "list" vs.toArray 0)).get? h0.objs.size = some (seqObj "list" vs.toArray 0) := Heap.get?_push_size _ rfl
  have I0 : Inv X pins σ H { s with heap := h0.push (seqObj "list" vs.toArray 0), toks := s.toks } := I.kept fun b o e => Heap.get?_push_of_some _ (keep0 b o e)
  show wpAny _ _ _ _ _ { s with heap := h0.push (seqObj "list" vs.toArray 0) }
  generalize h0.push (seqObj "list" vs.toArray 0) = hp at hoL I0 ⊢
  generalize h0.objs.size = a at hoL oa na ⊢
  refine wpAny_bind (wpAny_holding (wpAny_call_entry_kw slot_list_sort ⟨_, hoL, rfl⟩ entry_list_sort ?body (ksk_l1 _ _)))
  show wpAny (model X.prog X.w) A.in1.in1 (Builtin.«list.sort» ⟨[.ref a], [(Str.ofString "key", .ref fa)]⟩) _ _ _
  rw [ksk_t1]
  have hZ2 := hzv
  rw [sizeLine_eq] at hZ2
  have s1 := Heap.SameBut.update hp a (Obj.mapSeq fun _ => (#[] : Array Value))
  obtain ⟨e1, ho1⟩ : ∃ e1, (hp.update a (Obj.mapSeq fun _ => (#[] : Array Value))).get? a = some (seqObj "list" #[] e1) := ⟨_, get?_update_seq hoL fun _ => #[]⟩
  have I1 : Inv X pins σ H { s with heap := hp.update a (Obj.mapSeq fun _ => (#[] : Array Value)), toks := s.toks } := inv_wrote (s := { s with heap := hp, toks := s.toks }) I0 oa na fun c o hc ho => (s1.2 c hc).trans ho
  have I1a := inv_pinned I1 oa ho1 na noCell
  have hkS : ((hp.update a (Obj.mapSeq fun _ => (#[] : Array Value))).push (seqObj "tuple" vs.toArray 0)).objs.size = hp.objs.size + 1 := by rw [size_push', Heap.size_update]
  have ok : Ours X ((a, seqObj "list" #[] e1) :: pins) (((hp.update a (Obj.mapSeq fun _ => (#[] : Array Value))).push (seqObj "tuple" vs.toArray 0)).objs.size) := Ours.fresh I1a (by rw [hkS]; show (hp.update a (Obj.mapSeq fun _ => (#[] : Array Value))).objs.size ≤ _; rw [Heap.size_update]; exact Nat.le_succ _)
  have nk : H (((hp.update a (Obj.mapSeq fun _ => (#[] : Array Value))).push (seqObj "tuple" vs.toArray 0)).objs.size) = none := I1.hok.fresh (by rw [hkS]; show (hp.update a (Obj.mapSeq fun _ => (#[] : Array Value))).objs.size ≤ _; rw [Heap.size_update]; exact Nat.le_succ _)
  have I2 : Inv X ((a, seqObj "list" #[] e1) :: pins) σ H { s with heap := ((hp.update a (Obj.mapSeq fun _ => (#[] : Array Value))).push (seqObj "tuple" vs.toArray 0)).push (seqObj "list" #[] 0), toks := s.toks } := I1a.kept fun b o e => Heap.get?_push_of_some _ (Heap.get?_push_of_some _ e)
  have nea : ((hp.update a (Obj.mapSeq fun _ => (#[] : Array Value))).push (seqObj "tuple" vs.toArray 0)).objs.size ≠ a := by
    rw [hkS]
    exact Nat.ne_of_gt (Nat.lt_succ_of_lt (Heap.lt_size hoL))
  unfold ksk_tree
  refine wpAny_bind (listItems_at hoL rfl ?_)
  refine wpAny_bind (listUpdate_at hoL rfl ?_ (by rw [List.size_toArray, sizeLine_eq]; omega) (Nat.zero_le _))
  refine wpAny_bind (seqEpoch_at ho1 rfl ?_)
  refine wpAny_bind (wpAny_newTuple ?_ (by show vs.length ≤ _; rw [sizeLine_eq]; omega))
  refine wpAny_bind (wpAny_newList ?_ (Nat.zero_le _))
  refine wpAny_holding ?_
  refine sk_rest (kz := us.map kf) (s := { s with heap := ((hp.update a (Obj.mapSeq fun _ => (#[] : Array Value))).push (seqObj "tuple" vs.toArray 0)).push (seqObj "list" #[] 0) }) ⟨inv_pinned I2 ok (Heap.get?_push_size _ rfl) nk noCell, ok, oa, nea⟩ (by rw [List.length_map]; omega) hzv (fun i v k hv hk s' own J => ?_) fun s' out c J ho ko => ?_
  · obtain ⟨x, hx, rx⟩ : ∃ x, us[i]? = some x ∧ RelV x v := by
      have hi : i < us.length := by
        have := (List.getElem?_eq_some_iff.mp hv).1
        omega
      obtain ⟨u, hu, ru⟩ := rv.get (List.getElem?_eq_getElem hi)
      rw [hv] at hu
      cases hu
      exact ⟨_, List.getElem?_eq_getElem hi, ru⟩
    rw [List.getElem?_map, hx] at hk
    obtain rfl : kf x = k := Option.some.inj hk
    exact turn i x v hx rx s' own J
  · obtain ⟨us', hp', r', so⟩ := kv_sorted rv ko
    refine ⟨_, rfl, wpAny_pure ⟨_, rfl, ?_⟩⟩
    exact ⟨.ref a, _, inv_track J oa na (its := out.toList) (by rw [Array.toArray_toList]; exact ho) r' (by rw [hp'.length_eq]; exact hz), rfl, q a us' na hp' so⟩
end
section
variable {X : Cx}
/-- what is asked -/
def tSortLamT (K : PySem.W.Frag) (T : List (Addr × Str)) (N : List Str) (te : TE) (t : TA) : TE := fun σ H Q => t σ H fun vs H1 => ∃ (a : Addr) (us : List V) (kf : V → Int), vs = [.ref a] ∧ SqT K H1 a us ∧ Tabs T H1 ∧
  (∀ x ∈ us, ∀ H2, ExtN H1 H2 → te (L2.start N [x]) H2 fun u H' => u = .int (kf x) ∧ H' = H2) ∧
  ∀ H2 p us', ExtN H1 H2 → Tabs T H2 → H2 p = none → us'.Perm us → (us'.map kf).Pairwise (· ≤ ·) → Q (.ref p) (upd H2 p (.lst us'))
theorem pe_sortedLamT (K : PySem.W.Frag) {N : List Str} {pn : Str} {T : List (Addr × Str)} {c P : Addr} {p pos lpos kpos : Pos} {e : Expr} {t : TA} {te : TE} {params : Arguments} {body : Expr} {scope : Scope} (TB : TabB X.base X.mg c P) (hcode : X.env.code = .ref c)
    (hm : (P, X.env.qual ++ "<lambda>") ∈ T) (hu : ∀ p ∈ T, p.1 = P → p.2 = X.env.qual ++ "<lambda>") (hr : Room 3 X.A) (hs : X.stack = X.env :: X.outer) (hfr : X.env.frame = some X.env.locals)
    (hg : Gl X "sorted") (hmg : X.mg "sorted" = none) (ha : PA X [e] t) (S : FnScope N [pn] scope)
    (hbody : ∀ (f c' : Addr) (A : Around) (s : Shared) (H : Hp), PE (cxOf CX0 X.prog X.w X.K X.mg X.base N (X.env.qual ++ "<lambda>") scope f (.ref c') A X.stack s H (fun _ _ _ => False)) body te)
    (hbind : ∀ (pm ctv : Value) (c' : Addr) (u : Value), bindArgs (PySem.W.kla_fn "<lambda>" (X.env.qual ++ "<lambda>") params body scope [] pm (.ref c') ctv) ⟨[u], []⟩ = pure [(pn, u)] := by exact fun _ _ _ _ => rfl)
    (hdef : defaultsOf params X.env = ([], []) := by rfl) (hclo : cloFrom X.env.cells scope.names [] = [] := by rfl) (hfree : ∀ y ∈ scope.names, y.2 = .free → ∃ c, X.env.cells.lookup y.1 = some c := by intro y hy z; rcases List.mem_singleton.mp hy with rfl; cases z)
    (he : backTo pos (starEach [e] X.env) = (false, eval e X.env) :: backTo pos (starEach [] X.env) := by rfl) (hpl : (backTo pos (starEach [e] X.env)).any (·.1) = false := by rfl) (hK : X.K = K := by rfl) :
    PE X (.Call (.Name "sorted" p) [e] [{ arg := some "key", value := .Lambda params body scope lpos, pos := kpos }] pos) (tSortLamT K T N te t) := by
  subst hK
  refine ⟨fun pins s σ H Q I h => ?_⟩
  refine wpAny_Call_Name_kw (ld_blt I hg hmg bt_sorted ?_ (by decide) (by decide))
  refine PyProof.Rows.callWith_kw (thn (ha.run pos pins s σ H _ I h) fun us0 s1 ⟨vs, H1, I1, r1, a, us, kf, ev, sq, tabs, key, q⟩ => ?_) he hpl rfl rfl
  subst ev
  obtain rfl := Vals.ref1 r1
  show wpAny _ _ (evalAll ((do let v ← eval (.Lambda params body scope lpos) X.env; standAt pos; pure v) :: [])) _ _ s1
  refine wpAny_evalAll_cons (wpAny_bind (lam_make2 I1 TB hcode hm hu tabs hdef hfree fun f c' pm ctv H2 s2 I2 en tabs2 hf hfn hfs hc => wpAny_bind (wpAny_standAt (wpAny_pure (wpAny_evalAll_nil ?_)))))
  rw [hclo] at hf
  have nl : f ≠ X.env.locals := fun z => hfs (by rw [hs]; exact List.mem_filterMap.mpr ⟨X.env, List.mem_cons_self, by rw [hfr, z]⟩)
  have nf : f ∉ X.fs := fun z => hfs (by
    rw [hs]
    obtain ⟨e, he, q⟩ := List.mem_filterMap.mp z
    exact List.mem_filterMap.mpr ⟨e, List.mem_cons_of_mem _ he, q⟩)
  have I3 : Inv X ((f, PySem.W.kla_obj "<lambda>" (X.env.qual ++ "<lambda>") params body scope [] pm c' ctv) :: pins) σ H2 s2 := I2.pins_of fun z hz => by
    rcases List.mem_cons.mp hz with rfl | hz
    · exact ⟨hf, hfn, nl, nf, fun v z => by cases z⟩
    · exact I2.pin z (List.mem_append_right _ hz)
  have sq2 : SqT X.K H2 a us := by
    rcases sq with (h | ⟨o, h⟩) | h
    · exact .inl (.inl (en _ _ h fun ps z => by cases z))
    · exact .inl (.inr ⟨o, en _ _ h fun ps z => by cases z⟩)
    · exact .inr h
  show wpAny (model X.prog X.w) X.A (call (.builtin "sorted") [.ref a] [(Str.ofString "key", .ref f)]) _ _ s2
  refine wpAny_mono (sorted_keyT (kf := kf) (Q := Q) (E := X.xe) I3 sq2 (fun i x v hx rx s' own J => ?_) fun p us' np hp so => q H2 p us' en tabs2 np hp so) (fun u s' hq => ?_) fun _ _ z => z
  · have hf' := (J.pin (f, _) (List.mem_append_right _ (List.mem_append_right _ (.head _)))).1
    exact lam_call (k := 0) (te := te) (vs := [x]) (ps := [pn]) J S hr.in1.in1 J.env0.in1.in1 hf' hc (hbind pm ctv c' v) (.cons rx .nil) rfl (hbody f c' X.A.in1.in1 s' H2) (key x (List.mem_of_getElem? hx) H2 en)
  · obtain ⟨w', H', J', rv, qq⟩ := hq
    exact ⟨w', H', inv_drop J', rv, qq⟩
end
section
variable {P : Program} {w : World} {K : PySem.W.Frag} {mg : Str → Option Value} {base : Heap}
theorem FunT.ok {x qual : Str} {st : Stmt} {f c : Addr} {fd : FuncData} {N ps : List Str} {k : Nat} {sp : Sp} (F : FunT K x qual st f fd c) (S : FnScope N ps (defScope st)) (len : ∀ vs H Q E, sp vs H Q E → vs.length = ps.length)
    (hbody : ∀ (A : Around) (outer : List Env) (s : Shared) (H : Hp) (vs : List V) (Q : VK) (E : XK), Room k (A.deeper (envOfC qual (defScope st) s.heap.objs.size f (.ref c))) → sp vs H Q E →
      ∃ t, PSs (cxOf CX0 P w K mg base N qual (defScope st) f (.ref c) A outer s H E) (defBody st) t ∧ t { nx := fun _ H' => Q .non H', rt := Q } (L2.start N vs) H) : FnOk P w K mg base CX0 (k + 1) f fd ps sp := by
  obtain ⟨oc, od, kV, doc, pm, an, ct, osl, rfl, lk, hcd⟩ := F.ex
  exact fn_of lk hcd S len fun A outer s H vs Q E hr hsp => hbody A outer s H vs Q E hr hsp
end
end Od
namespace Od
open PySem L2 Evl
theorem en_l {H H' : Hp} {a : Addr} {xs : List V} (e : LamX.ExtN H H') (h : H a = some (.lst xs)) : H' a = some (.lst xs) := e _ _ h fun ps z => by cases z
theorem en_t {H H' : Hp} {a : Addr} {xs : List V} (e : LamX.ExtN H H') (h : H a = some (.tup xs)) : H' a = some (.tup xs) := e _ _ h fun ps z => by cases z
theorem en_d {K : PySem.W.Frag} {H H' : Hp} {a : Addr} (e : LamX.ExtN H H') (h : DeckAt K H a) : DeckAt K H' a := by
  obtain ⟨l, ns, h1, h2⟩ := h
  exact ⟨l, ns, e _ _ h1 (fun ps z => by unfold deckO at z; cases z), en_l e h2⟩
end Od

/-! the timeline of the program: which clip is cut, what is left -/
namespace Od
open PySem L2 Evl
/-- clips in a row: apart, none empty, no fade below 0 -/
structure Row (cs : List Cl) : Prop where
  ap : Apart cs
  n1 : ∀ c ∈ cs, 1 ≤ c.n
  f0 : ∀ c ∈ cs, 0 ≤ c.fi ∧ 0 ≤ c.fo
theorem Good.row {B : Int} {cs : List Cl} (g : Good B cs) : Row cs := ⟨g.ap, fun c hc => (g.ok c hc).n1, fun c hc => ⟨(g.ok c hc).fi0, (g.ok c hc).fo0⟩⟩
theorem Row.sub {cs ds : List Cl} (g : Row cs) (s : ds.Sublist cs) : Row ds := ⟨g.ap.sublist s, fun c hc => g.n1 c (s.subset hc), fun c hc => g.f0 c (s.subset hc)⟩
/-- the first clip with frames on both sides -/
def Across (cs : List Cl) (m : Int) : Option Nat → Prop
  | none => ∀ c ∈ cs, c.inside m = false
  | some i => ∃ c, cs[i]? = some c ∧ c.inside m = true ∧ ∀ j < i, ∀ d, cs[j]? = some d → d.inside m = false
theorem out_of {c : Cl} {m : Int} (h : m ≤ c.s ∨ c.fin ≤ m) : c.inside m = false := by
  unfold Cl.inside
  rw [Bool.and_eq_false_iff, decide_eq_false_iff_not, decide_eq_false_iff_not]
  omega
theorem flat_out {m : Int} : ∀ {cs : List Cl}, (∀ c ∈ cs, c.inside m = false) → cs.flatMap (Cl.halves m) = cs
  | [], _ => rfl
  | c :: cs, h => by
    rw [List.flatMap_cons, flat_out fun d hd => h d (by simp [hd])]
    unfold Cl.halves
    rw [if_neg (by rw [h c (by simp)]; exact Bool.false_ne_true)]
    rfl
theorem bad_out {m : Int} {cs : List Cl} (h : ∀ c ∈ cs, c.inside m = false) : cs.any (Cl.bad m) = false := by
  rw [List.any_eq_false]
  intro c hc
  unfold Cl.bad
  rw [h c hc]
  exact Bool.false_ne_true
theorem split_out {m : Int} {cs : List Cl} (h : Across cs m none) : splitC m cs = some cs := by
  rw [split_ok (bad_out h), flat_out h]
/-- the parts around the one that is cut -/
theorem across_parts {m : Int} {cs : List Cl} {i : Nat} (g : Row cs) (h : Across cs m (some i)) : ∃ c, cs[i]? = some c ∧ c.inside m = true ∧ cs = cs.take i ++ [c] ++ cs.drop (i + 1) ∧ (∀ d ∈ cs.take i, d.inside m = false) ∧ ∀ d ∈ cs.drop (i + 1), d.inside m = false := by
  obtain ⟨c, hc, hi, hb⟩ := h
  have hl := (List.getElem?_eq_some_iff.mp hc).1
  have e : cs = cs.take i ++ [c] ++ cs.drop (i + 1) := by
    rw [List.append_assoc, List.singleton_append, ← (List.getElem?_eq_some_iff.mp hc).2, List.getElem_cons_drop, List.take_append_drop]
  refine ⟨c, hc, hi, e, fun d hd => ?_, fun d hd => ?_⟩
  · obtain ⟨j, hj⟩ := List.getElem?_of_mem hd
    rw [List.getElem?_take] at hj
    split at hj
    · rename_i h
      exact hb j h d hj
    · cases hj
  · have ap := g.ap
    rw [e] at ap
    have := (List.pairwise_append.mp ap).2.2 c (by simp) d hd
    exact out_of (.inl (by have := (inside_yes hi).2; omega))
theorem split_bad_at {m : Int} {cs : List Cl} {c : Cl} (hc : c ∈ cs) (hi : c.inside m = true) (hf : c.fades m = true) : splitC m cs = none := by
  refine split_bad ?_
  rw [List.any_eq_true]
  refine ⟨c, hc, ?_⟩
  unfold Cl.bad
  rw [hi, hf]
  rfl
theorem split_ats {m : Int} {cs : List Cl} {i : Nat} {c : Cl} (g : Row cs) (h : Across cs m (some i)) (hc : cs[i]? = some c) (hf : c.fades m = false) : splitC m cs = some (cs.take i ++ [c.left m, c.right m] ++ cs.drop (i + 1)) := by
  obtain ⟨c', hc', hi, e, h1, h2⟩ := across_parts g h
  rw [hc] at hc'
  cases hc'
  have e2 : cs.any (Cl.bad m) = false := by
    rw [e, List.any_append, List.any_append, bad_out h1, bad_out h2]
    show (false || (Cl.bad m c || false) || false) = false
    unfold Cl.bad
    rw [hi, hf]
    rfl
  rw [split_ok e2]
  congr 1
  conv => lhs; rw [e]
  rw [List.flatMap_append, List.flatMap_append, flat_out h1, flat_out h2]
  congr 2
  show Cl.halves m c ++ [] = _
  unfold Cl.halves
  rw [if_pos hi]
  rfl
theorem split_grows {m : Int} {cs : List Cl} {i : Nat} {c : Cl} (hc : cs[i]? = some c) {x y : Cl} : (cs.take i ++ [x, y] ++ cs.drop (i + 1)).length = cs.length + 1 := by
  have hl := (List.getElem?_eq_some_iff.mp hc).1
  rw [List.length_append, List.length_append, List.length_take, List.length_drop]
  show min i cs.length + 2 + (cs.length - (i + 1)) = _
  omega
theorem half_row {m : Int} {c d : Cl} (n1 : 1 ≤ c.n) (f0 : 0 ≤ c.fi ∧ 0 ≤ c.fo) (hd : d ∈ c.halves m) : c.s ≤ d.s ∧ d.fin ≤ c.fin ∧ 1 ≤ d.n ∧ 0 ≤ d.fi ∧ 0 ≤ d.fo ∧ d.inside m = false := by
  unfold Cl.halves at hd
  split at hd
  · rename_i hi
    obtain ⟨i1, i2⟩ := inside_yes hi
    unfold Cl.fin at *
    simp only [List.mem_cons, List.not_mem_nil, or_false] at hd
    rcases hd with rfl | rfl
    · unfold Cl.left
      exact ⟨Int.le_refl _, by dsimp only; omega, by dsimp only; omega, f0.1, Int.le_refl _, out_of (.inr (by unfold Cl.fin; dsimp only; omega))⟩
    · unfold Cl.right
      exact ⟨by dsimp only; omega, by dsimp only [Cl.fin]; omega, by dsimp only [Cl.fin]; omega, Int.le_refl _, f0.2, out_of (.inl (by dsimp only; omega))⟩
  · rename_i hi
    rw [List.mem_singleton.mp hd]
    exact ⟨Int.le_refl _, Int.le_refl _, n1, f0.1, f0.2, eq_false_of_ne_true hi⟩
theorem split_row {m : Int} {cs ds : List Cl} (g : Row cs) (h : splitC m cs = some ds) : Row ds := by
  obtain ⟨_, rfl⟩ := split_not_bad h
  refine ⟨?_, fun d hd => ?_, fun d hd => ?_⟩
  · unfold Apart
    rw [List.pairwise_flatMap]
    refine ⟨fun c hc => halves_apart, ?_⟩
    refine List.Pairwise.imp_of_mem ?_ g.ap
    intro x y hx hy hxy u hu v hv
    have h1 := (half_row (g.n1 x hx) (g.f0 x hx) hu).2.1
    have h2 := (half_row (g.n1 y hy) (g.f0 y hy) hv).1
    omega
  · obtain ⟨c, hc, hd⟩ := List.mem_flatMap.mp hd
    exact (half_row (g.n1 c hc) (g.f0 c hc) hd).2.2.1
  · obtain ⟨c, hc, hd⟩ := List.mem_flatMap.mp hd
    have := half_row (g.n1 c hc) (g.f0 c hc) hd
    exact ⟨this.2.2.2.1, this.2.2.2.2.1⟩
theorem lift_row {x y : Int} {cs ds : List Cl} (g : Row cs) (h : liftC x y cs = .ok ds) : Row ds ∧ (∀ d ∈ ds, d.fin ≤ x ∨ y ≤ d.s) ∧ ds.length ≤ 4 * cs.length := by
  unfold liftC at h
  split at h
  · cases h
  · rename_i d1 h1
    split at h
    · cases h
    · rename_i d2 h2
      cases h
      have l1 := split_len h1
      have l2 := split_len h2
      have l3 := List.length_filter_le (Cl.keep x y) d2
      refine ⟨(split_row (split_row g h1) h2).sub List.filter_sublist, fun d hd => ?_, by omega⟩
      have := (List.mem_filter.mp hd).2
      unfold Cl.keep at this
      rw [Bool.or_eq_true, decide_eq_true_eq, decide_eq_true_eq] at this
      exact this
theorem strict_one : ∀ {L : List Cl}, (L.Pairwise fun x y => x.s < y.s) → ∀ {a b : Cl}, a ∈ L → b ∈ L → a.s = b.s → a = b
  | [], _, _, _, h, _, _ => by simp at h
  | x :: L, hp, a, b, ha, hb, e => by
    obtain ⟨h1, h2⟩ := List.pairwise_cons.mp hp
    rcases List.mem_cons.mp ha with ea | ha
    · rcases List.mem_cons.mp hb with eb | hb
      · rw [ea, eb]
      · have := h1 b hb
        rw [ea] at e
        omega
    · rcases List.mem_cons.mp hb with eb | hb
      · have := h1 a ha
        rw [eb] at e
        omega
      · exact strict_one h2 ha hb e
/-- put by start: what a sort by start gives -/
theorem put_sorted {c : Cl} {cs ds es : List Cl} (g : Row cs) (n1 : 1 ≤ c.n) (h : putC c cs = some ds) (hp : es.Perm (cs ++ [c])) (hs : (es.map Cl.s).Pairwise (· ≤ ·)) : es = ds := by
  unfold putC at h
  split at h
  · cases h
  · rename_i nm
    cases h
    have nm := eq_false_of_ne_true nm
    rw [List.any_eq_false] at nm
    have free : ∀ d ∈ cs, c.fin ≤ d.s ∨ d.fin ≤ c.s := fun d hd => meets_no (eq_false_of_ne_true (nm d hd))
    -- all starts differ, so two rows in order of the same clips are one
    have lt_of : ∀ x ∈ cs, ∀ y ∈ cs, x.fin ≤ y.s → x.s < y.s := fun x hx y hy h => by
      have := g.n1 x hx
      unfold Cl.fin at h
      omega
    have strict : ((cs.filter (fun d => decide (d.s < c.s)) ++ [c] ++ cs.filter fun d => decide (c.s < d.s))).Pairwise fun x y => x.s < y.s := by
      have ord : cs.Pairwise fun x y => x.s < y.s := List.Pairwise.imp_of_mem (fun hx hy h => lt_of _ hx _ hy h) g.ap
      rw [List.pairwise_append, List.pairwise_append]
      refine ⟨⟨ord.sublist List.filter_sublist, List.pairwise_singleton _ _, fun x hx y hy => ?_⟩, ord.sublist List.filter_sublist, fun x hx y hy => ?_⟩
      · rw [List.mem_singleton.mp hy]
        exact of_decide_eq_true (List.mem_filter.mp hx).2
      · have hy := of_decide_eq_true (List.mem_filter.mp hy).2
        rcases List.mem_append.mp hx with hx | hx
        · have hx := of_decide_eq_true (List.mem_filter.mp hx).2
          omega
        · rw [List.mem_singleton.mp hx]
          exact hy
    have perm : (cs ++ [c]).Perm (cs.filter (fun d => decide (d.s < c.s)) ++ [c] ++ cs.filter fun d => decide (c.s < d.s)) := by
      have e : cs.filter (fun d => decide (c.s < d.s)) = cs.filter (fun d => !decide (d.s < c.s)) := by
        refine List.filter_congr fun d hd => ?_
        have := free d hd
        have := g.n1 d hd
        unfold Cl.fin at *
        by_cases k : d.s < c.s
        · rw [decide_eq_true k, decide_eq_false (by omega)]
          rfl
        · rw [decide_eq_false k, decide_eq_true (by omega)]
          rfl
      rw [e, List.append_assoc]
      refine List.Perm.symm ((List.Perm.append_left _ List.perm_append_comm).trans ?_)
      rw [← List.append_assoc]
      exact (List.filter_append_perm _ cs).append_right [c]
    generalize cs.filter (fun d => decide (d.s < c.s)) ++ [c] ++ cs.filter (fun d => decide (c.s < d.s)) = L at strict perm ⊢
    have hp := hp.trans perm
    refine List.Perm.eq_of_pairwise (le := fun x y => x.s ≤ y.s) (fun x y hx hy h k => ?_) (List.pairwise_map.mp hs) (strict.imp fun h => Int.le_of_lt h) hp
    exact strict_one strict (hp.mem_iff.mp hx) hy (Int.le_antisymm h k)
end Od
namespace Od
open PySem L2 Evl
theorem one_iff {c d : Cl} (f1 : 0 ≤ c.fo) (f2 : 0 ≤ d.fi) {e1 e2 : Bool} (h : e1 = e2) : (decide (d.s = c.fin) && e1 && (decide (c.fo = 0) && decide (d.fi = 0))) = false ↔ (c.fin ≠ d.s ∨ e2 = false ∨ 0 < c.fo ∨ 0 < d.fi) := by
  subst h
  by_cases k1 : d.s = c.fin
  · rw [decide_eq_true k1, Bool.true_and]
    cases e1 with
    | false => exact ⟨fun _ => .inr (.inl rfl), fun _ => rfl⟩
    | true =>
      rw [Bool.true_and]
      by_cases k3 : c.fo = 0
      · rw [decide_eq_true k3, Bool.true_and]
        by_cases k4 : d.fi = 0
        · rw [decide_eq_true k4]
          refine ⟨fun h => Bool.noConfusion h, ?_⟩
          rintro (h | h | h | h)
          · exact absurd k1.symm h
          · exact h
          · omega
          · omega
        · rw [decide_eq_false k4]
          exact ⟨fun _ => .inr (.inr (.inr (by omega))), fun _ => rfl⟩
      · rw [decide_eq_false k3]
        exact ⟨fun _ => .inr (.inr (.inl (by omega))), fun _ => rfl⟩
  · rw [decide_eq_false k1]
    exact ⟨fun _ => .inl fun z => k1 z.symm, fun _ => rfl⟩
end Od
namespace Od
open PySem L2 Evl
theorem ResV.en {H H' : Hp} {v : V} {r : TL} (e : LamX.ExtN H H') (h : ResV H v r) : ResV H' v r := by
  cases r with
  | ok cs =>
    obtain ⟨a, us, rfl, h1, h2⟩ := h
    exact ⟨a, us, rfl, en_t e h1, h2.tk (extN_tk e)⟩
  | err w n =>
    obtain ⟨a, rfl, h1⟩ := h
    exact ⟨a, rfl, en_l e h1⟩
theorem NumsV.en {H H' : Hp} {a : Addr} {k : Ask} (e : LamX.ExtN H H') (h : NumsV H a k) : NumsV H' a k := by
  cases k with
  | place c =>
    obtain ⟨v, h1, h2⟩ := h
    exact ⟨v, en_l e h1, h2.tk (extN_tk e)⟩
  | _ => exact en_l e h
end Od

/-! errors of the program: Base.__init__(self, ..) of an own class; Kind() without arguments -/
namespace Od
open PySem PySem.Spec PyProof.Rows L2 Evl
section
variable {X : Cx} {o e : Expr} {es : List Expr} {t : TA} {x : Str} {p1 p2 pos : Pos} {CX : CXT} {k : Nat} {f D : Addr} {fd : FuncData} {ps : List Str} {sp : Sp} {ds : List Value} {dvs : List V} {E : XK} {pl : Sem Bool}
/-- Base.__init__(self, ..), Base an own class: the def is called -/
theorem pe_binit (F1 : FnOk X.prog X.w X.K X.mg X.base CX k f fd ps sp) (hr : Room k X.A) (hg : Gl X x) (hm : X.mg x = some (.ref D)) (rd : PySem.W.readsIn X.K D (.type "type") = true)
    (ga : PySem.W.specialIn X.K (.ref D) "__getattribute__" = some (some (.builtin "type.__getattribute__"))) (fa : PySem.W.findCls X.K (.ref D) (.type "type") "__init__" = some (.val (.ref f))) (kf : PySem.W.keepIn X.K (.ref f) = true)
    (hb : Binds X.K fd ps ds) (hd : Vals dvs ds) (hx : Passes CX X E) (ha : PA X (e :: es) t)
    (hdb : (x == ("__debug__" : Str)) = false := by decide) (he : starEach (e :: es) X.env = (false, eval e X.env) :: starEach es X.env := by rfl) (hpl : (backTo pos (starEach es X.env)).any (·.1) = false := by rfl)
    (hc : eval (.Call (.Attribute (.Name x p1) "__init__" p2) (e :: es) [] pos) X.env = (do
      let base ← eval (.Name x p1) X.env
      standAt p2.atName
      let (g, first) ← holding [base] (getMethod base "__init__" pl)
      callWith pos g first (backTo pos (starEach (e :: es) X.env)) (backToKw pos (keywordEach [] X.env))) := by rfl) :
    PE X (.Call (.Attribute (.Name x p1) "__init__" p2) (e :: es) [] pos) (tCall sp dvs E t) :=
  ⟨fun pins s σ H Q I h => PySem.W.methodCall_KW (ld_glob I hg hm (PySem.W.method_cls I.kIn ga (PySem.W.cls_value I.kIn rd fa rfl
    (PySem.W.callWith_K (h₀ := X.base) I.ok.mod.kin kf (thn (ha.run pos pins _ σ H _ (I.tok _) h) fun us s1 ⟨vs, H1, J, r, q⟩ => ⟨J.kIn, run_fn F1 hr hb hd hx J r q⟩) he hpl))) hdb) hc⟩
/-- Kind() -/
theorem pmk_none {C fI : Addr} (T : OexC X.K C) (iC : PySem.W.findIn X.K (.ref C) "__init__" = some (some (.ref fI))) (tI : PySem.W.typeIn X.K (.ref fI) = some (.type "function")) (F1 : FnOk X.prog X.w X.K X.mg X.base CX k fI fd ps sp) (hr : Room (k + 1) X.A)
    (hb : Binds X.K fd ps ds) (hd : Vals dvs ds) (hx : Passes CX X (fun _ _ _ => False)) (hg : Gl X x) (hm : X.mg x = some (.ref C)) (hdb : (x == ("__debug__" : Str)) = false := by decide) :
    PMk X (.Call (.Name x p1) [] [] pos) (tMkO C sp dvs tNil) := by
  intro pins s σ H Q I ⟨_, h⟩
  obtain ⟨nm, qn, N, bs, bm, sn, sub, ab, col, dd, k0, k1, k2, k3, k5, look, tail⟩ := T.cls
  refine wpAny_Call_Name_kw (ld_glob I hg hm (PySem.W.callWith_K0 I.kIn T.kC ?_) hdb)
  show wpAny _ _ (call (.ref C) []) _ _ _
  obtain ⟨hp, gens, dr, tk, os⟩ := s
  have up : hp.objs.size ≤ hp.objs.size + 1 := Nat.le_succ _
  have q0 := h (hp.objs.size + 1) (I.hok.fresh up)
  have more : ∀ b ob, hp.get? b = some ob → ((hp.push (PySem.W.kdv_tup [])).push (PySem.HandSPX.excO C hp.objs.size)).get? b = some ob := fun b ob z => Heap.get?_push_of_some _ (Heap.get?_push_of_some _ z)
  have there : ((hp.push (PySem.W.kdv_tup [])).push (PySem.HandSPX.excO C hp.objs.size)).get? (hp.objs.size + 1) = some (PySem.HandSPX.excO C hp.objs.size) := by heap_get
  have J : Inv X pins σ (upd H (hp.objs.size + 1) (exo (hp.objs.size + 1) C none)) ⟨(hp.push (PySem.W.kdv_tup [])).push (PySem.HandSPX.excO C hp.objs.size), gens, dr, tk, os⟩ :=
    I.laid (t' := tk) (a := hp.objs.size + 1) (o := exo (hp.objs.size + 1) C none) (h' := (hp.push (PySem.W.kdv_tup [])).push (PySem.HandSPX.excO C hp.objs.size)) more up (exo_ok there)
  have rel : Vals (V.ref (hp.objs.size + 1) :: ([] ++ dvs)) (Value.ref (hp.objs.size + 1) :: ds) := .cons rfl hd
  have len : (Value.ref (hp.objs.size + 1) :: [] ++ ds).length = ps.length := by
    have z := rel.length
    rw [F1.len _ _ _ _ q0] at z
    exact z.symm
  refine wpAny_call (PySem.HandSPX.call_own F.excBase_ValueError (fun Y => PySem.HandSPX.refsVE_contains Y bm tail) (I.kIn _ _ look) (PySem.W.looks_findIn I.kIn iC) (fun self => PySem.W.bind_fn I.kIn self tI) (by show 0 ≤ sizeLine; exact Nat.zero_le _) ?_)
  refine codeAny_mono (F1.run _ X.stack _ _ ⟨[Value.ref (hp.objs.size + 1)], []⟩ (Value.ref (hp.objs.size + 1) :: ds) _ _ (fun _ _ _ => False) (hr.make C [] []) (J.env0.make C [] []) (by have z := hb _ [Value.ref (hp.objs.size + 1)] J.kIn len; exact z) rel q0) fun r s' w => ?_
  match r, w with
  | .error er, w => exact hx pins σ _ _ er s' J w
  | .ok (.ret u), ⟨v, H2, os2, bare2, un2, hok2, rv, ev, d, fs, ea, ed, hd1, q2⟩ =>
    subst ev
    obtain ⟨h2, g2, d2, t2, os'⟩ := s'
    exact ⟨rv, mk_end (raises_own T.exC T.tyC) I up more un2 hok2 os2 bare2 ea ed hd1 q2⟩
  | .ok .next, w => exact w.elim
  | .ok .brk, w => exact w.elim
  | .ok .cont, w => exact w.elim
end
/-- the def that stands first in a class's body -/
def clsDef (s : Stmt) : Stmt := match s with
  | .ClassDef _ _ _ b _ _ _ _ _ _ _ => b.getD 0 (.Pass ⟨0, 0, 0, 0⟩)
  | _ => .Pass ⟨0, 0, 0, 0⟩
/-- what the written part says of the program's own base error -/
structure FilmTxt (K : PySem.W.Frag) (mg : Str → Option Value) (D fD : Addr) : Prop where
  g : mg "FilmError" = some (.ref D)
  rd : PySem.W.readsIn K D (.type "type") = true
  ga : PySem.W.specialIn K (.ref D) "__getattribute__" = some (some (.builtin "type.__getattribute__"))
  fa : PySem.W.findCls K (.ref D) (.type "type") "__init__" = some (.val (.ref fD))
  ve : mg "ValueError" = none
  vi : PySem.W.findCls K (.type "ValueError") (.type "type") "__init__" = some (.val (.builtin "ValueError.__init__"))
/-- .. of an error of a kind -/
structure KindTxt (K : PySem.W.Frag) (mg : Str → Option Value) (x : Str) (C fC : Addr) : Prop where
  g : mg x = some (.ref C)
  T : OexC K C
  xf : XfC K C
  noW : PySem.W.findIn K (.ref C) "word" = some none
  noP : PySem.W.findIn K (.ref C) "place" = some none
  iC : PySem.W.findIn K (.ref C) "__init__" = some (some (.ref fC))
  tI : PySem.W.typeIn K (.ref fC) = some (.type "function")
  te : PySem.W.exmOne K (.ref C) (.ref C) = some true
theorem exm_self {K : PySem.W.Frag} {S : Addr} (h1 : PySem.W.subIn K (.ref S) (.type "BaseException") = some true) (h2 : PySem.W.isClsIn K S = true) (h3 : PySem.W.typeIn K (.ref S) = some (.type "type")) (h4 : PySem.W.subIn K (.ref S) (.ref S) = some true) :
    PySem.W.exmOne K (.ref S) (.ref S) = some true := by
  have c1 : (PySem.W.subIn K (.ref S) (.type "BaseException") == some true) = true := by rw [h1] <;> rfl
  have c2 : ((PySem.W.clsIn K S).isSome && PySem.W.typeIn K (.ref S) == some (.type "type")) = true := by
    rw [show (PySem.W.clsIn K S).isSome = true from h2, h3] <;> rfl
  change (if (PySem.W.subIn K (.ref S) (.type "BaseException") == some true) = true then (if ((PySem.W.clsIn K S).isSome && PySem.W.typeIn K (.ref S) == some (.type "type")) = true then PySem.W.subIn K (.ref S) (.ref S) else none) else none) = _
  rw [if_pos c1, if_pos c2, h4]
/-- behind an __init__: the error has its dict -/
def spErrInit (K : PySem.W.Frag) : Sp := fun vs H Q _ => ∃ (a C : Addr) (wd p : V), vs = [.ref a, wd, p] ∧ OexC K C ∧ H a = some (exo a C none) ∧ PySem.W.findIn K (.ref C) "word" = some none ∧ PySem.W.findIn K (.ref C) "place" = some none ∧
  ∀ dx H', H dx = none → dx ≠ a → H' a = some (exo a C (some dx)) → H' dx = some (exd dx [("place", p), ("word", wd)]) → (∀ b, b ≠ a → b ≠ dx → H' b = H b) → Q .non H'
def spKind (K : PySem.W.Frag) (x : Str) : Sp := fun vs H Q _ => ∃ (a C : Addr) (p : V), vs = [.ref a, p] ∧ OexC K C ∧ H a = some (exo a C none) ∧ PySem.W.findIn K (.ref C) "word" = some none ∧ PySem.W.findIn K (.ref C) "place" = some none ∧
  ∀ dx H', H dx = none → dx ≠ a → H' a = some (exo a C (some dx)) → H' dx = some (exd dx [("place", p), ("word", .str x)]) → (∀ b, b ≠ a → b ≠ dx → H' b = H b) → Q .non H'
/-- an error of a kind can be made -/
def KindOk (P : Program) (w : World) (K : PySem.W.Frag) (mg : Str → Option Value) (base : Heap) (x : Str) (C : Addr) : Prop :=
  ∃ fC, KindTxt K mg x C fC ∧ ∃ fd, FnOk P w K mg base CX0 2 fC fd ["self", "place"] (spKind K x) ∧ (∃ ds, Vals [.non] ds ∧ Binds K fd ["self", "place"] ds) ∧ Binds K fd ["self", "place"] []
/-- the dict of an error as it flies -/
def errD (x : Str) (p : V) : HO := .xd [("place", p), ("word", .str x)]
section
variable {X : Cx} {x : Str} {C fC : Addr} {p : V} {H : Hp} {Q : XK}
/-- what is left of Kind(..): its dict -/
theorem kind_made {K : PySem.W.Frag} {mg : Str → Option Value} (T : KindTxt K mg x C fC) {a : Addr} (ha : H a = none) (h : ∀ d H', H d = none → Ex H H' → H' d = some (errD x p) → Q (.ref C) (some d) H') :
    spKind K x [.ref a, p] (upd H a (exo a C none)) (fun v H2 => v = .non ∧ ∃ (d : Addr) (fs : List (Str × V)), H2 a = some (exo a C (some d)) ∧ H2 d = some (exd d fs) ∧ H d = none ∧ Q (.ref C) (some d) (upd (del H2 a) d (.xd fs))) (fun _ _ _ => False) := by
  refine ⟨a, C, p, rfl, T.T, upd_same, T.noW, T.noP, fun dx H' hd hne h1 h2 h3 => ⟨rfl, dx, _, h1, h2, ?_, ?_⟩⟩
  · rwa [upd_ne hne] at hd
  · rw [upd_ne hne] at hd
    refine h dx _ hd (fun b o hb => ?_) upd_same
    have n1 : b ≠ a := fun z => by rw [z, ha] at hb; cases hb
    have n2 : b ≠ dx := fun z => by rw [z, hd] at hb; cases hb
    rw [upd_ne n2, del_ne n1, h3 b n1 n2, upd_ne n1]
    exact hb
end
/-- isinstance(e, c), e the error that the suite holds, with a dict of its own -/
def rIsED (K : PySem.W.Frag) (a : Addr) (cls : Value) (d : Option Addr) : List V → Hp → VK → Prop := fun xs H Q => ∃ (D dd : Addr) (fs : List (Str × V)) (c : V) (cv : Value) (b : Bool), cls = .ref D ∧ d = some dd ∧ H dd = some (.xd fs) ∧ ExcC K D ∧ PySem.W.isClsIn K D = true ∧
  xs = [.ref a, c] ∧ (∀ u, RelV c u → u = cv) ∧ PySem.W.kitOne K (.ref D) cv = some b ∧ Q (.bl b) H
theorem call_isED {X : Cx} {a : Addr} {cls : Value} {d : Option Addr} {oe : Obj} {pn : List (Addr × Obj)} (hz : Zc cls d oe) (hf : ∃ vs, oe.data = .fields vs) (K : PySem.W.Frag) (hK : X.K = K := by rfl) : CallR (X.suite a ((a, oe) :: pn)) (.builtin "isinstance") (rIsED K a cls d) := by
  subst hK
  rintro pins s σ H xs us Q I r ⟨D, dd, fs, c, cv, b, rfl, rfl, hdd, EC, ic, rfl, hcv, kit, q⟩
  cases r with
  | cons r1 rr =>
    cases rr with
    | cons r2 rr =>
      cases rr
      cases r1
      obtain rfl := hcv _ r2
      obtain ⟨look, _⟩ := I.pin (a, oe) (List.mem_append_left _ List.mem_cons_self)
      obtain ⟨vs, dat⟩ := hf
      have isD : ObjOk X.prog X.w H s.heap dd (.xd fs) := I.hok dd _ hdd
      obtain ⟨mA, ns, _⟩ := isD
      obtain ⟨od, lookD, _⟩ := lookIn_ns ns
      have J : PySem.W.InstAt s.heap a oe D (some od) := ⟨look, hz.1, by unfold PySem.W.notCls; rw [dat] <;> rfl, by rw [hz.2]; exact lookD⟩
      exact PySem.W.kia_one (PySem.W.kitx_exc (show (PySem.W.clsIn X.K D).isSome = true from ic) EC.hg EC.hk EC.hs EC.ha EC.hn EC.ht EC.hm) I.kIn J kit (fun z => nomatch z) fun tk => ⟨.bl b, H, I.kept (t' := tk) fun _ _ z => z, rfl, q⟩
end Od

/-! try with several clauses, each with a name -/
namespace Od
open PySem PySem.Spec PyProof.Rows L2
abbrev HdAs := Value × Nat × (Addr → Value → Option Addr → TS)
/-- what the named clauses wish of an exception of the body, one after the other -/
def wManyAs (K : PySem.W.Frag) (Wout : WX) (D : Ends) : List HdAs → WX
  | [] => Wout
  | (c, i, ts) :: r => fun cls d σ H => ∃ b, PySem.W.exmOne K cls c = some b ∧ (b = true → ∀ a, H a = none → ts a cls d { nx := fun σ' H' => D.nx (σ'.set i none) H', rt := D.rt, bk := fun σ' H' => D.bk (σ'.set i none) H', ct := fun σ' H' => D.ct (σ'.set i none) H' } (σ.set i (some (.ref a))) H) ∧
    (b = false → wManyAs K Wout D r cls d σ H)
inductive HdsAs (X : Cx) : List ExceptHandler → List HdAs → Prop
  | nil : HdsAs X [] []
  | cons {x n : Str} {c : Value} {i : Nat} {ts : Addr → Value → Option Addr → TS} {b₀ : Stmt} {suite : List Stmt} {np pos' : Pos} {hds : List ExceptHandler} {l : List HdAs} (hi : X.N[i]? = some n) (hln : X.env.kindOf n = some .local) (hc : Names X x c)
      (hsu : ∀ (a : Addr) (oe : Obj) (cls : Value) (d : Option Addr) (pn : List (Addr × Obj)), Zc cls d oe → (∃ vs, oe.data = .fields vs) → PSs (X.suite a ((a, oe) :: pn)) (b₀ :: suite) (ts a cls d)) (r : HdsAs X hds l) :
      HdsAs X (.ExceptHandler (some (.Name x np)) (some n) (b₀ :: suite) pos' :: hds) ((c, i, ts) :: l)
section
variable {X : Cx} {body : List Stmt} {h₀ : ExceptHandler} {hds : List ExceptHandler} {l : List HdAs} {pos : Pos} {tb : WX → TS} {Wout : WX}
theorem ps_try_manyAs (hs : X.stack = X.env :: X.outer) (hf : X.env.frame = some X.env.locals) (hN : X.N.Nodup) (tk : Takes X Wout)
    (hb : ∀ (W : WX) (pn : List (Addr × Obj)) (xe : Value → Shared → Prop), Takes (X.tr pn xe) W → PassesOwn (model X.prog X.w) X.A X.env xe → PSs (X.tr pn xe) body (tb W))
    (hh : HdsAs X (h₀ :: hds) l) : PS X (.Try body (h₀ :: hds) [] [] pos) (fun D σ H => tb (wManyAs X.K Wout D l) D σ H) := by
  refine ⟨fun pins s σ H D I h => ?_⟩
  have ok := I.ok
  have hfr : X.A.frames = some (X.env :: X.outer) := by rw [ok.frames, hs]
  refine wpAny_Try_except ?_
  refine wpAny_mono ((hb (wManyAs X.K Wout D l) (X.pn ++ pins) (fun e s₁ => wpAny (model X.prog X.w) X.A (noteFrame e X.env) (fun _ s₂ => wpAny (model X.prog X.w) X.A (setFlight e none) (fun _ s₃ =>
    wpAny (model X.prog X.w) X.A (handleBy e X.env (h₀ :: hds)) (SP X pins D) X.xe s₃) X.xe s₂) X.xe s₁) (fun u s' xx => ?_) PassesOwn.looking).run [] s σ H D (I.toTry _) h) (fun f s1 hsp => ?_) (fun e s1 he => he)
  · -- the catch
    obtain ⟨a, B, sI, pins', σ', H', cls, d, rfl, J', nb, up, sky, na, os, ag, w⟩ := xx
    have J : Inv X pins σ' H' sI := J'.ofTry ok
    have sky' : Sky B (X.env :: X.outer) a (Zc cls d) X.env.locals s'.heap := by rw [← hs]; exact sky
    show wpAny (model X.prog X.w) X.A (noteFrame (.ref a) X.env) _ _ _
    refine Sky.land Zc.steady hfr hf sky' fun h3 fl3 up3 => ?_
    have J3 : Inv X pins σ' H' { s' with heap := h3 } := J.landed nb fl3.1 (up.trans up3) os ag
    obtain ⟨oe3, vs3, he3, hz3, hd3⟩ := fl3.there
    have notFr : ∀ {h : Heap} {o : Obj} {vs : Array Value}, h.FunFrames B (X.env :: X.outer) → h.get? a = some o → o.data = .fields vs → a ∉ frs (X.env :: X.outer) := fun {h o vs} ff e dd hm => by
      obtain ⟨_, o', e', hnf⟩ := ff.mem hm
      rw [e] at e'; cases e'
      exact hnf _ dd
    have nfr := notFr fl3.2.2.1 he3 hd3
    have nL : a ≠ X.env.locals := fun z => nfr (List.mem_filterMap.mpr ⟨X.env, List.mem_cons_self, by rw [hf, z]⟩)
    have nF : a ∉ X.fs := fun hm => by
      obtain ⟨e, he, q⟩ := List.mem_filterMap.mp hm
      exact nfr (List.mem_filterMap.mpr ⟨e, List.mem_cons_of_mem _ he, q⟩)
    have S3 := J3.suite he3 hd3 na nL nF
    have go : ∀ {hds' : List ExceptHandler} {l' : List HdAs}, HdsAs X hds' l' → wManyAs X.K Wout D l' cls d σ' H' →
        wpAny (model X.prog X.w) X.A (handleBy (.ref a) X.env hds') (SP X pins D) X.xe { s' with heap := h3 } := by
      intro hds' l' hk
      induction hk with
      | nil =>
        intro w
        refine wpAny_handleBy_nil ?_
        obtain ⟨k1, k2, k3, oe, vs, T, oT, ts', he, hz, hd, h1, hr⟩ := id fl3
        unfold PySem.passOn
        refine wpAny_bind (wpAny_field he hd h1 ?_)
        rw [if_neg (show ¬ ((Value.ref T == Value.none) = true) from by simp)]
        have fin : wpAny (model X.prog X.w) X.A (setFlight (.ref a) X.env.frame) (fun _ s4 => wpAny (model X.prog X.w) X.A (throw (.ref a) : Sem Flow) (SP X pins D) X.xe s4) X.xe { s' with heap := h3 } := by
          rw [hf]
          refine HandSPX.setFlight_upZ fl3 fun h4 hh4 up4 => wpAny_throw (tk _ _ ?_)
          exact ⟨a, B, sI, pins, σ', H', cls, d, rfl, J, nb, (up.trans up3).trans up4, .inr (.inr (by rw [hs]; exact hh4)), na, os, ag, w⟩
        first
          | exact wpAny_bind (wpAny_pure (wpAny_bind fin))
          | exact wpAny_bind fin
      | @cons x n c i ts b₀ suite np pos' hds2 l2 hi hln hc hsu r ih =>
        intro w
        obtain ⟨b, hb1, hyes, hno⟩ := w
        have hloc : Loc X.env.scope n := .inl hln
        refine wpAny_handleBy_cons (codeAny_handlers_test ?_) (by intro q; cases q)
        have LT : PySem.W.Looks (model X.prog X.w) h3 (typeOf (.ref a)) cls := fun A Q E s k q => wpAny_typeOf_ref (k _ _ he3) (by rw [hz3.1]; exact q)
        have LM := PySem.W.exm_one (M := model X.prog X.w) (J3.kIn) LT hb1
        have test : ∀ {Q : Value → Shared → Prop} {E : Value → Shared → Prop}, Q c { s' with heap := h3 } → wpAny (model X.prog X.w) (X.A.mark (some (.ref a))) (eval (.Name x np) X.env) Q E { s' with heap := h3 } := fun {Q E} q => by
          obtain ⟨hg, hdbg, hm | ⟨hm, hv, hnn⟩⟩ := hc
          · exact ld_glob (X := X.suite a ((a, oe3) :: (X.pn ++ pins))) S3 hg hm q hdbg
          · exact ld_blt (X := X.suite a ((a, oe3) :: (X.pn ++ pins))) S3 hg hm hv q hnn hdbg
        refine test (LM.here ?_)
        cases b with
        | true =>
          refine codeAny_handlers_suite_as ?_
          refine HandSPX.lands_againZ fl3 fun h4 fl4 up4 => ?_
          have J4 : Inv X pins σ' H' { s' with heap := h4 } := J.landed nb fl4.1 ((up.trans up3).trans up4) os ag
          obtain ⟨oe4, vs4, he4, hz4, hd4⟩ := fl4.there
          have S4 := J4.suite he4 hd4 na nL nF
          refine store_ok (X := X.suite a ((a, oe4) :: (X.pn ++ pins))) (v := .ref a) S4 hN hi hloc rfl (fun s5 S5 => ?_) (.inr hln)
          refine wpAny_mono ((hsu a oe4 cls d (X.pn ++ pins) hz4 ⟨_, hd4⟩).run [] s5 _ H' _ S5 (hyes rfl a na)) (fun f s6 hsp => ?_) (fun _ _ z => False.elim z)
          have end_ : ∀ {σ6 : L2.St} {H6 : Hp} {Q : Shared → Prop}, Inv (X.suite a ((a, oe4) :: (X.pn ++ pins))) [] σ6 H6 s6 → (∀ s7, Inv X pins (σ6.set i none) H6 s7 → Q s7) →
              wpAny (model X.prog X.w) X.A (do bindName X.env n .none; unbindBehindTheSuite X.env n pos') (fun _ s7 => Q s7) X.xe s6 := fun {σ6 H6 Q} S6 hq => gone_ok (S6.unsuite ok) hN hi hln hq
          cases f with
          | next =>
            obtain ⟨σ6, H6, S6, q6⟩ := hsp
            exact end_ S6 fun s7 J7 => ⟨_, _, J7, q6⟩
          | brk =>
            obtain ⟨σ6, H6, S6, q6⟩ := hsp
            exact end_ S6 fun s7 J7 => ⟨_, _, J7, q6⟩
          | cont =>
            obtain ⟨σ6, H6, S6, q6⟩ := hsp
            exact end_ S6 fun s7 J7 => ⟨_, _, J7, q6⟩
          | ret u =>
            obtain ⟨v6, σ6, H6, S6, r6, q6⟩ := hsp
            exact end_ S6 fun s7 J7 => ⟨_, _, _, J7, r6, q6⟩
        | false =>
          show wpAny _ X.A (handleBy (.ref a) X.env hds2) _ _ _
          exact ih (hno rfl)
    exact go hh w
  · cases f with
    | next =>
      obtain ⟨σ', H', J', q⟩ := hsp
      exact wpAny_execs_nil ⟨σ', H', J'.ofTry ok, q⟩
    | brk =>
      obtain ⟨σ', H', J', q⟩ := hsp
      exact ⟨σ', H', J'.ofTry ok, q⟩
    | cont =>
      obtain ⟨σ', H', J', q⟩ := hsp
      exact ⟨σ', H', J'.ofTry ok, q⟩
    | ret u =>
      obtain ⟨v, σ', H', J', r, q⟩ := hsp
      exact ⟨v, σ', H', J'.ofTry ok, r, q⟩
end
end Od

/-! one class of errors that another one does not catch -/
namespace Od
open PySem L2 Evl PySem.Spec PyProof.Rows
theorem exm_no {K : PySem.W.Frag} {S U : Addr} (h1 : PySem.W.subIn K (.ref U) (.type "BaseException") = some true) (h2 : PySem.W.isClsIn K U = true) (h3 : PySem.W.typeIn K (.ref U) = some (.type "type")) (h4 : PySem.W.subIn K (.ref S) (.ref U) = some false) :
    PySem.W.exmOne K (.ref S) (.ref U) = some false := by
  have c1 : (PySem.W.subIn K (.ref U) (.type "BaseException") == some true) = true := by rw [h1] <;> rfl
  have c2 : ((PySem.W.clsIn K U).isSome && PySem.W.typeIn K (.ref U) == some (.type "type")) = true := by
    rw [show (PySem.W.clsIn K U).isSome = true from h2, h3] <;> rfl
  change (if (PySem.W.subIn K (.ref U) (.type "BaseException") == some true) = true then (if ((PySem.W.clsIn K U).isSome && PySem.W.typeIn K (.ref U) == some (.type "type")) = true then PySem.W.subIn K (.ref S) (.ref U) else none) else none) = _
  rw [if_pos c1, if_pos c2, h4]
end Od

/-! data of any kind, as a check may be passed it: known kinds, tuples in tuples -/
namespace Od
open PySem L2 Evl
theorem Kn.asTup {H : Hp} {v : V} {T : String} (k : Kn H v T) (h : isA T "tuple" = true) : ∃ a xs, v = .ref a ∧ H a = some (.tup xs) := by
  cases k with
  | tup h1 => exact ⟨_, _, rfl, h1⟩
  | non => exact absurd h (by decide +kernel)
  | bl b => exact absurd h (by decide +kernel)
  | int i => exact absurd h (by decide +kernel)
  | str x => exact absurd h (by decide +kernel)
  | lst h1 => exact absurd h (by decide +kernel)
theorem Kn.noTup {H : Hp} {v : V} {T : String} (k : Kn H v T) (h : isA T "tuple" = false) : ∀ a xs, v = .ref a → H a ≠ some (.tup xs) := by
  intro a xs e z
  cases k with
  | tup h1 => exact absurd h (by decide +kernel)
  | lst h1 =>
    cases e
    rw [h1] at z
    cases z
  | _ => cases e
/-- known, its tuples of at most m items, told n tuples deep -/
def Deep (m : Nat) : Nat → Hp → V → Prop
  | 0, H, v => ∃ T, Kn H v T
  | n + 1, H, v => (∃ T, Kn H v T) ∧ ∀ a xs, v = .ref a → H a = some (.tup xs) → xs.length ≤ m ∧ ∀ x ∈ xs, Deep m n H x
theorem Deep.kn {m n : Nat} {H : Hp} {v : V} (h : Deep m n H v) : ∃ T, Kn H v T := by
  cases n with
  | zero => exact h
  | succ n => exact h.1
theorem Deep.ex {m : Nat} : ∀ {n : Nat} {H H' : Hp} {v : V}, Ex H H' → Deep m n H v → Deep m n H' v
  | 0, _, _, _, e, ⟨T, k⟩ => ⟨T, k.mono e⟩
  | n + 1, H, H', v, e, ⟨⟨T, k⟩, h⟩ => by
    refine ⟨⟨T, k.mono e⟩, fun a xs ev ha => ?_⟩
    cases k with
    | tup h1 =>
      cases ev
      rw [e _ _ h1] at ha
      cases ha
      obtain ⟨l, q⟩ := h _ _ rfl h1
      exact ⟨l, fun x hx => (q x hx).ex e⟩
    | lst h1 =>
      cases ev
      rw [e _ _ h1] at ha
      cases ha
    | _ => cases ev
theorem Deep.le {m m' : Nat} (lm : m ≤ m') : ∀ {n : Nat} {H : Hp} {v : V}, Deep m n H v → Deep m' n H v
  | 0, _, _, h => h
  | n + 1, _, _, ⟨k, h⟩ => ⟨k, fun a xs ev ha => ⟨Nat.le_trans (h a xs ev ha).1 lm, fun x hx => ((h a xs ev ha).2 x hx).le lm⟩⟩
theorem Deep.down {m : Nat} : ∀ {n : Nat} {H : Hp} {v : V}, Deep m (n + 1) H v → Deep m n H v
  | 0, _, _, h => h.1
  | n + 1, _, _, ⟨k, h⟩ => ⟨k, fun a xs ev ha => ⟨(h a xs ev ha).1, fun x hx => ((h a xs ev ha).2 x hx).down⟩⟩
/-- nothing in it is a tuple -/
theorem Deep.flat {m n : Nat} {H : Hp} {v : V} {T : String} (k : Kn H v T) (h : ∀ a xs, v = .ref a → H a ≠ some (.tup xs)) : Deep m n H v := by
  cases n with
  | zero => exact ⟨T, k⟩
  | succ n => exact ⟨⟨T, k⟩, fun a xs ev ha => absurd ha (h a xs ev)⟩
theorem Deep.non {m n : Nat} {H : Hp} : Deep m n H .non := .flat .non fun _ _ z => by cases z
theorem Deep.bl {m n : Nat} {H : Hp} {b : Bool} : Deep m n H (.bl b) := .flat (.bl b) fun _ _ z => by cases z
theorem Deep.int {m n : Nat} {H : Hp} {i : Int} : Deep m n H (.int i) := .flat (.int i) fun _ _ z => by cases z
theorem Deep.str {m n : Nat} {H : Hp} {x : Str} : Deep m n H (.str x) := .flat (.str x) fun _ _ z => by cases z
theorem Deep.lst {m n : Nat} {H : Hp} {a : Addr} {xs : List V} (h : H a = some (.lst xs)) : Deep m n H (.ref a) := .flat (.lst h) fun _ _ e z => by
  cases e
  rw [h] at z
  cases z
theorem Deep.tup {m n : Nat} {H : Hp} {a : Addr} {xs : List V} (h : H a = some (.tup xs)) (l : xs.length ≤ m) (q : ∀ x ∈ xs, Deep m n H x) : Deep m (n + 1) H (.ref a) :=
  ⟨⟨_, .tup h⟩, fun b ys e hb => by
    cases e
    rw [h] at hb
    cases hb
    exact ⟨l, q⟩⟩
theorem Deep.at {m n : Nat} {H : Hp} {a : Addr} {xs : List V} (d : Deep m (n + 1) H (.ref a)) (h : H a = some (.tup xs)) : xs.length ≤ m ∧ ∀ x ∈ xs, Deep m n H x := d.2 a xs rfl h
theorem cutV_le {xs : List V} {lo hi : Option Int} : (cutV xs lo hi).length ≤ xs.length := by
  unfold cutV
  rw [List.length_take, List.length_drop]
  omega
theorem cut_two {xs : List V} {t lo : Int} (t0 : 0 ≤ t) (h : t ≤ lo) : (cutV xs none (some t)).length + (cutV xs (some lo) none).length ≤ xs.length := by
  unfold cutV
  rw [List.length_take, List.length_drop, List.length_take, List.length_drop]
  obtain ⟨t', rfl⟩ := Int.eq_ofNat_of_zero_le t0
  obtain ⟨lo', rfl⟩ := Int.eq_ofNat_of_zero_le (Int.le_trans t0 h)
  rw [HT.sIx_nat, HT.sIx_nat, HT.sIx_none, HT.sIx_none]
  omega
/-- one of the strange values: a tuple among them has only numbers -/
def Odd (H : Hp) (v : V) : Prop := (∃ T, Kn H v T) ∧ ∀ a xs, v = .ref a → H a = some (.tup xs) → xs.length ≤ 2 ∧ ∀ x ∈ xs, ∃ i, x = .int i
theorem Odd.deep {m n : Nat} {H : Hp} {v : V} (h : Odd H v) (l : 2 ≤ m) : Deep m n H v := by
  obtain ⟨⟨T, k⟩, q⟩ := h
  cases n with
  | zero => exact ⟨T, k⟩
  | succ n =>
    refine ⟨⟨T, k⟩, fun a xs ev ha => ⟨Nat.le_trans (q a xs ev ha).1 l, fun x hx => ?_⟩⟩
    obtain ⟨i, rfl⟩ := (q a xs ev ha).2 x hx
    exact .int
theorem Odd.flat {H : Hp} {v : V} {T : String} (k : Kn H v T) (h : ∀ a xs, v = .ref a → H a ≠ some (.tup xs)) : Odd H v := ⟨⟨T, k⟩, fun a xs ev ha => absurd ha (h a xs ev)⟩
theorem Odd.lst {H : Hp} {a : Addr} {xs : List V} (h : H a = some (.lst xs)) : Odd H (.ref a) := .flat (.lst h) fun _ _ e z => by
  cases e
  rw [h] at z
  cases z
theorem Odd.tup {H : Hp} {a : Addr} {xs : List V} (h : H a = some (.tup xs)) (l : xs.length ≤ 2) (q : ∀ x ∈ xs, ∃ i, x = .int i) : Odd H (.ref a) :=
  ⟨⟨_, .tup h⟩, fun b ys e hb => by
    cases e
    rw [h] at hb
    cases hb
    exact ⟨l, q⟩⟩
theorem Odd.non {H : Hp} : Odd H .non := .flat .non fun _ _ z => by cases z
theorem Odd.bl {H : Hp} {b : Bool} : Odd H (.bl b) := .flat (.bl b) fun _ _ z => by cases z
theorem Odd.int {H : Hp} {i : Int} : Odd H (.int i) := .flat (.int i) fun _ _ z => by cases z
theorem Odd.str {H : Hp} {x : Str} : Odd H (.str x) := .flat (.str x) fun _ _ z => by cases z
theorem Odd.ex {H H' : Hp} {v : V} (e : Ex H H') (h : Odd H v) : Odd H' v := by
  obtain ⟨⟨T, k⟩, q⟩ := h
  refine ⟨⟨T, k.mono e⟩, fun a xs ev ha => ?_⟩
  cases k with
  | tup h1 =>
    cases ev
    rw [e _ _ h1] at ha
    cases ha
    exact q _ _ rfl h1
  | lst h1 =>
    cases ev
    rw [e _ _ h1] at ha
    cases ha
  | _ => cases ev
/-- a strange value, drawn -/
def spOdd (K : PySem.W.Frag) : Sp := fun vs H Q _ => ∃ a, vs = [.ref a] ∧ DeckAt K H a ∧ ∀ v H', Ex H H' → Odd H' v → Q v H'
/-- a tuple bent -/
def spBent (K : PySem.W.Frag) : Sp := fun vs H Q _ => ∃ (a b : Addr) (m n : Nat) (xs : List V), vs = [.ref a, .ref b] ∧ DeckAt K H a ∧ H b = some (.tup xs) ∧ Deep m (n + 1) H (.ref b) ∧ 2 ≤ m ∧ m ≤ 1000 ∧ ∀ v H', Ex H H' → Deep (m + 1) (n + 1) H' v → Q v H'
/-- isinstance of a class: what the program's text says -/
def IsK (K : PySem.W.Frag) (mg : Str → Option Value) (C : Addr) (x : Str) (b : Bool) : Prop := ∃ D, mg x = some (.ref D) ∧ PySem.W.kitOne K (.ref C) (.ref D) = some b
structure IsV (K : PySem.W.Frag) (C : Addr) : Prop where
  ec : ExcC K C
  ic : PySem.W.isClsIn K C = true
  ve : PySem.W.kitOne K (.ref C) (.type "ValueError") = some true
end Od

/-! match on a tuple: sequences whose items are texts, names and _, and _ as the last case -/
namespace Od
open PySem L2 Evl PySem.Spec PyProof.Rows
def isW (w : Str) : V → Bool
  | .str x => x == w
  | _ => false
section
variable {X : Cx}
theorem rc_of {prog : Program} {w : World} {A : Around} {E : Value → Shared → Prop} {s : Shared} {Q : Value → Shared → Prop} {a b : Value} {k : Bool} (h : SeqAt.RcAt A s a b k) (hq : Q (.bool k) s) : wpAny (model prog w) A (compareOp .Eq a b) Q E s := h prog w E Q hq
/-- x == 'w', x of a known kind -/
def rEqW : R2 := fun x y H Q => ∃ T w, Kn H x T ∧ y = .str w ∧ Q (.bl (isW w x)) H
theorem op_eqW (hu : X.A.units < cLine) : OpR X (compareOp .Eq) rEqW := by
  intro pins s σ H x y v u Q I rx ry ⟨T, w, kn, e, q⟩
  subst e
  have z := fun (h : rEq x (.str w) H Q) => op_eq pins s σ H x (.str w) v u Q I rx ry h
  have ns : ∀ {c : V}, (∀ y, c ≠ .str y) → isW w c = decide (c = V.str w) := fun {c} hc => by
    rw [decide_eq_false (hc w)]
    cases c with
    | str y => exact absurd rfl (hc y)
    | _ => rfl
  cases kn with
  | non => exact z ⟨rfl, by rw [← ns (fun _ e => by cases e)]; exact q⟩
  | bl b => exact z ⟨rfl, by rw [← ns (fun _ e => by cases e)]; exact q⟩
  | int i => exact z ⟨rfl, by rw [← ns (fun _ e => by cases e)]; exact q⟩
  | str j =>
    refine z ⟨rfl, ?_⟩
    have e : isW w (.str j) = decide (V.str j = V.str w) := by rw [dec_str]; rfl
    rw [← e]
    exact q
  | tup h =>
    cases rx
    obtain ⟨t, rfl⟩ := ry
    obtain ⟨its, _, isT, _⟩ := I.tuple (SqT.of h)
    exact rc_of (SeqAt.RcAt.tuple_str w t (show s.heap.IsTuple _ its.toArray from isT) hu) ⟨.bl false, H, I, rfl, q⟩
  | lst h =>
    cases rx
    obtain ⟨t, rfl⟩ := ry
    obtain ⟨its, _, isL, _⟩ := I.list (SqL.of h)
    exact rc_of (SeqAt.RcAt.list_str w t isL.isList hu) ⟨.bl false, H, I, rfl, q⟩
/-- what a pattern binds: slots, and the names of the model -/
inductive Bnd (X : Cx) : List (Nat × V) → List (Str × Value) → Prop
  | nil : Bnd X [] []
  | cons {i : Nat} {n : Str} {x : V} {u : Value} {vs : List (Nat × V)} {bs : List (Str × Value)} : X.N[i]? = some n → Loc X.env.scope n → (X.fn n = true ∨ X.env.scope.names.lookup n = some .local) → RelV x u → Bnd X vs bs → Bnd X ((i, x) :: vs) ((n, u) :: bs)
def sets (σ : L2.St) : List (Nat × V) → L2.St
  | [] => σ
  | p :: vs => sets (σ.set p.1 (some p.2)) vs
theorem bind_all {pins : List (Addr × Obj)} (hN : X.N.Nodup) {Q : Unit → Shared → Prop} {E : Value → Shared → Prop} : ∀ {vs : List (Nat × V)} {bs : List (Str × Value)} {s : Shared} {σ : L2.St} {H : Hp}, Bnd X vs bs → Inv X pins σ H s → (∀ s', Inv X pins (sets σ vs) H s' → Q () s') →
    wpAny (model X.prog X.w) X.A (assignInOrder (bs.map fun (n, _) => bindName X.env n) (bs.map (·.2))) Q E s
  | _, _, s, σ, H, .nil, I, q => wpAny_assignInOrder_none (q s I)
  | _, _, s, σ, H, .cons hi hx hf r b, I, q => wpAny_assignInOrder_more (wpAny_bindName (store_ok I hN hi hx r (fun s2 I2 => bind_all hN b I2 q) hf))
/-- items against values: the reading; what is bound, or no match -/
abbrev TPs := List V → Hp → (List (Nat × V) → Prop) → Prop → Prop
def MP (X : Cx) (pins : List (Addr × Obj)) (σ : L2.St) (H : Hp) (yes : List (Nat × V) → Prop) (no : Prop) (r : Option (List (Str × Value))) (s' : Shared) : Prop :=
  Inv X pins σ H s' ∧ match r with
    | none => no
    | some bs => ∃ vs, Bnd X vs bs ∧ yes vs
structure PMs (X : Cx) (ps : List Pattern) (t : TPs) : Prop where
  run : ∀ (pins : List (Addr × Obj)) (s : Shared) (σ : L2.St) (H : Hp) (xs : List V) (us : List Value) (yes : List (Nat × V) → Prop) (no : Prop), Inv X pins σ H s → Vals xs us → t xs H yes no → wpAny (model X.prog X.w) X.A (matchEach ps X.env us) (MP X pins σ H yes no) X.xe s
def mNil : TPs := fun xs H yes no => xs = [] ∧ yes []
theorem pms_nil : PMs X [] mNil := ⟨fun pins s σ H xs us yes no I r ⟨e, q⟩ => wpAny_matchEach_nil ⟨I, [], .nil, q⟩⟩
def mCap (i : Nat) (t : TPs) : TPs := fun xs H yes no => ∃ x ys, xs = x :: ys ∧ t ys H (fun bs => yes ((i, x) :: bs)) no
theorem pms_cap {i : Nat} {n : Str} {pos : Pos} {ps : List Pattern} {t : TPs} (hi : X.N[i]? = some n) (hx : Loc X.env.scope n) (h : PMs X ps t) (hf : X.fn n = true ∨ X.env.scope.names.lookup n = some .local := by first | exact .inl rfl | exact .inr rfl | assumption) : PMs X (.MatchAs none (some n) pos :: ps) (mCap i t) := by
  refine ⟨fun pins s σ H xs us yes no I r ⟨x, ys, e, q⟩ => ?_⟩
  subst e
  cases r with
  | cons r1 rr =>
    refine wpAny_matchEach_cons (wpAny_matchPattern_Capture (thn (h.run pins s σ H ys _ _ no I rr q) fun r' s2 ⟨I2, m⟩ => ?_))
    cases r' with
    | none => exact ⟨I2, m⟩
    | some bs =>
      obtain ⟨vs, b, y⟩ := m
      exact ⟨I2, _, .cons hi hx hf r1 b, y⟩
def mWild (t : TPs) : TPs := fun xs H yes no => ∃ x ys, xs = x :: ys ∧ t ys H yes no
theorem pms_wild {pos : Pos} {ps : List Pattern} {t : TPs} (h : PMs X ps t) : PMs X (.MatchAs none none pos :: ps) (mWild t) := by
  refine ⟨fun pins s σ H xs us yes no I r ⟨x, ys, e, q⟩ => ?_⟩
  subst e
  cases r with
  | cons r1 rr =>
    refine wpAny_matchEach_cons (wpAny_matchPattern_Capture (thn (h.run pins s σ H ys _ _ no I rr q) fun r' s2 ⟨I2, m⟩ => ?_))
    cases r' with
    | none => exact ⟨I2, m⟩
    | some bs => exact ⟨I2, m⟩
def mWord (w : Str) (t : TPs) : TPs := fun xs H yes no => ∃ x ys T, xs = x :: ys ∧ Kn H x T ∧ if isW w x = true then t ys H yes no else no
theorem pms_word {w : Str} {j : Nat} {p pos : Pos} {ps : List Pattern} {t : TPs} (hu : X.A.units + 64 < cLine) (h : PMs X ps t) : PMs X (.MatchValue (.Constant (.str w) j p) pos :: ps) (mWord w t) := by
  refine ⟨fun pins s σ H xs us yes no I r ⟨x, ys, T, e, kn, q⟩ => ?_⟩
  subst e
  cases r with
  | cons r1 rr =>
    refine wpAny_matchEach_cons (wpAny_matchPattern_Value (thn (pe_str.run pins s σ H (fun v H' => v = .str w ∧ H' = H) I ⟨rfl, rfl⟩) fun u s1 ⟨v, H1, I1, rv, ev, eH⟩ => ?_))
    subst ev eH
    refine thn (op_eqW (by omega) pins s1 σ H1 x (.str w) _ _ (fun v H' => v = .bl (isW w x) ∧ H' = H1) I1 r1 rv ⟨T, w, kn, rfl, rfl, rfl⟩) fun c s2 ⟨v, H2, I2, rc, ev, eH⟩ => ?_
    subst ev eH
    cases rc
    refine wpAny_truthy_bool ?_
    cases hw : isW w x with
    | false =>
      rw [hw] at q
      exact ⟨I2, q⟩
    | true =>
      rw [hw] at q
      refine thn (h.run pins s2 σ H2 ys _ _ no I2 rr q) fun r' s3 ⟨I3, m⟩ => ?_
      cases r' with
      | none => exact ⟨I3, m⟩
      | some bs => exact ⟨I3, m⟩
/-- the cases -/
structure PCs (X : Cx) (cs : List MatchCase) (t : V → TS) : Prop where
  run : ∀ (pins : List (Addr × Obj)) (s : Shared) (σ : L2.St) (H : Hp) (v : V) (u : Value) (first : Bool) (D : Ends), Inv X pins σ H s → RelV v u → t v D σ H → wpAny (model X.prog X.w) X.A (matchCases cs X.env u first) (SP X pins D) X.xe s
def cNil : V → TS := fun _ D σ H => D.nx σ H
theorem pcs_nil : PCs X [] cNil := ⟨fun pins s σ H v u first D I r q => wpAny_matchCases_nil ⟨σ, H, I, q⟩⟩
def cElse (tb : TS) : V → TS := fun _ D σ H => tb D σ H
theorem pcs_else {pos : Pos} {body : List Stmt} {rest : List MatchCase} {tb : TS} (hb : PSs X body tb) : PCs X (⟨.MatchAs none none pos, none, body⟩ :: rest) (cElse tb) :=
  ⟨fun pins s σ H v u first D I r q => wpAny_matchCases_cons (wpAny_matchPattern_Capture (wpAny_assignInOrder_none (hb.run pins s σ H D I q)))⟩
def cSeq (K : PySem.W.Frag) (n : Nat) (tp : TPs) (tb : TS) (tr : V → TS) : V → TS := fun v D σ H => ∃ a xs, v = .ref a ∧ SqT K H a xs ∧ if xs.length = n then tp xs H (fun bs => tb D (sets σ bs) H) (tr v D σ H) else tr v D σ H
theorem pcs_seq (K : PySem.W.Frag) {pos : Pos} {ps : List Pattern} {body : List Stmt} {rest : List MatchCase} {tp : TPs} {tb : TS} {tr : V → TS} (hc : X.calm = true) (hN : X.N.Nodup) (hp : PMs X ps tp) (hb : PSs X body tb) (hr : PCs X rest tr)
    (hstar : ps.findIdx? (·.isStar) = none := by rfl) (hwild : (ps.all fun p => p.isWildcard || (p.isStar && p.names.isEmpty)) = false := by rfl) (hK : X.K = K := by rfl) : PCs X (⟨.MatchSequence ps pos, none, body⟩ :: rest) (cSeq K ps.length tp tb tr) := by
  subst hK
  refine ⟨fun pins s σ H v u first D I r ⟨a, xs, e, sq, q⟩ => ?_⟩
  subst e
  have r0 := r
  cases r
  obtain ⟨its, rv, isT, sz⟩ := I.tuple sq
  have len := rv.length
  have fit : ((its.toArray.size : Nat) : Int) < 2 ^ 63 := by
    have e : sizeLine = 16777216 := by decide
    rw [List.size_toArray]
    omega
  refine wpAny_matchCases_cons (wpAny_matchPattern_Sequence (wpAny_collectionFlag (T := "tuple") (b := true) isT.typeIs flag_seq_tuple ?_) hstar hwild)
  refine pyLen_tuple isT fit ?_
  have I1 : Inv X pins σ H { s with toks := s.toks + 1 + 1 } := I.kept (h' := s.heap) (t' := s.toks + 1 + 1) fun _ _ z => z
  by_cases hl : xs.length = ps.length
  · rw [if_pos hl] at q
    have e1 : ((its.toArray.size : Int) != (ps.length : Int)) = false := by
      rw [List.size_toArray]
      simp only [bne_eq_false_iff_eq]
      omega
    rw [e1]
    have e2 : ps.length = its.toArray.size := by rw [List.size_toArray]; omega
    rw [e2]
    refine PySem.wpAny_unpackItems_tuple (s := { s with toks := s.toks + 1 + 1 }) (I.ok.hd hc) (show s.heap.IsTuple a its.toArray from isT) fun h' hx => ?_
    have I2 : Inv X pins σ H { s with heap := h', toks := s.toks + 1 + 1 } := I.kept (t' := s.toks + 1 + 1) fun b o z => hx b o (Nat.ne_of_lt (Heap.lt_size z)) z
    refine thn (hp.run pins _ σ H xs _ _ _ I2 (by simpa using rv) q) fun r' s3 ⟨I3, m⟩ => ?_
    cases r' with
    | none => exact hr.run pins s3 σ H _ _ false D I3 r0 m
    | some bs =>
      obtain ⟨vs, b, y⟩ := m
      exact bind_all hN b I3 fun s4 I4 => hb.run pins s4 _ H D I4 y
  · rw [if_neg hl] at q
    have e1 : ((its.toArray.size : Int) != (ps.length : Int)) = true := by
      rw [List.size_toArray]
      simp only [bne_iff_ne, ne_eq]
      omega
    rw [e1]
    exact hr.run pins _ σ H _ _ false D I1 r0 q
theorem ps_match {e : Expr} {cs : List MatchCase} {pos : Pos} {te : TE} {t : V → TS} (he : PE X e te) (hcs : PCs X cs t) : PS X (.Match e cs pos) (fun D σ H => te σ H fun v H1 => t v D σ H1) :=
  ⟨fun pins s σ H D I h => wpAny_Match (thn (he.run pins s σ H _ I h) fun u s1 ⟨v, H1, I1, r, q⟩ => hcs.run pins s1 σ H1 v u true D I1 r q)⟩
end
theorem lenY {A B : Prop} {n m : Nat} (h : n = m) (q : A) : if n = m then A else B := by
  rw [if_pos h]
  exact q
theorem lenN {A B : Prop} {n m : Nat} (h : n ≠ m) (q : B) : if n = m then A else B := by
  rw [if_neg h]
  exact q
end Od

namespace Od
open PySem L2 Evl
def top (i : Nat) : Stmt := PySem.Challenge.pw_onlythedirt_k34_whole_lanes.main.body.getD i (.Pass ⟨0, 0, 0, 0⟩)
structure Txt (K : PySem.W.Frag) (mg : Str → Option Value) : Prop where
  abs_ : mg "abs" = none
  all_ : mg "all" = none
  bool_ : mg "bool" = none
  enumerate_ : mg "enumerate" = none
  int_ : mg "int" = none
  isinstance_ : mg "isinstance" = none
  len_ : mg "len" = none
  list_ : mg "list" = none
  max_ : mg "max" = none
  min_ : mg "min" = none
  range_ : mg "range" = none
  sorted_ : mg "sorted" = none
  tuple_ : mg "tuple" = none
  CLIPS_MOST_ : ∃ t, mg "CLIPS_MOST" = some (.int 64 t)
  COVER_MOST_ : ∃ t, mg "COVER_MOST" = some (.int 256 t)
  LENGTH_MOST_ : ∃ t, mg "LENGTH_MOST" = some (.int 10000 t)
  LEVEL_MOST_ : ∃ t, mg "LEVEL_MOST" = some (.int 256 t)
  PICTURE_SIDE_MOST_ : ∃ t, mg "PICTURE_SIDE_MOST" = some (.int 12 t)
  START_MOST_ : ∃ t, mg "START_MOST" = some (.int 10000 t)
  STEP_MOST_ : ∃ t, mg "STEP_MOST" = some (.int 12 t)
  VALUE_MOST_ : ∃ t, mg "VALUE_MOST" = some (.int 255 t)
section
variable {P : Program} {w : World} {K : PySem.W.Frag} {mg : Str → Option Value} {base : Heap}
abbrev s_l_deck : Stmt := top 53
theorem sc_l_deck : FnScope ["script", "seed", "cell"] ["script"] (defScope s_l_deck) := ⟨rfl, rfl, rfl, by decide +kernel, rfl, by decide +kernel, by decide +kernel⟩
theorem ok_l_deck {f : Addr} {fd : FuncData} (F : Fun K "_law_deck" "_law_deck" s_l_deck f fd) (T : Txt K mg) : FnOk P w K mg base CX0 1 f fd ["script"] (spDeck K) := by
  refine deck_closed ?_ rfl
  refine F.ok sc_l_deck (fun vs H Q E h => ?_) (fun cdv A outer s H vs Q E hr h => ?_)
  · obtain ⟨a, ns, rfl, _⟩ := h
    rfl
  · obtain ⟨a, ns, rfl, hS, hl, q⟩ := h
    refine ⟨_, (pss_cons (ps_set (i := 1) sc_l_deck.nd rfl (by first | exact Or.inl rfl | exact Or.inr rfl) pe_int)
      (pss_cons (ps_for PassesOwn.never rfl (kpiL K (pv 0)) (pg_name (i := 2) sc_l_deck.nd rfl (by first | exact Or.inl rfl | exact Or.inr rfl))
        (pss_one (ps_set (i := 1) sc_l_deck.nd rfl (by first | exact Or.inl rfl | exact Or.inr rfl) (pe_op op_mod (pe_callTy call_int1 (by rfl) T.int_ bt_int (pa_cons (pe_op op_add (pe_op op_mul (pv 1) pe_int) (pv 2)) pa_nil)) pe_int))))
      (pss_one (ps_ret (pe_lst (pa_cons pe_int (pa_cons pe_int (pa_cons (pv 1) (pa_cons (pe_callTy (klist K) (by rfl) T.list_ bt_list (pa_cons (pv 0) pa_nil)) (pa_cons pe_int pa_nil)))))))))), ?_⟩
    refine ⟨_, rfl, a, rfl, ⟨_, hS⟩, for_list (K := K) (a := a) (xs := ns.map V.int) (fun i σ H' => H' = H ∧ ∃ (z : Int) (c : Option V), σ = [some (.ref a), some (.int z), c] ∧ 0 ≤ z ∧ z < 2147483647)
      ⟨rfl, 7, none, rfl, by decide, by decide⟩ (fun i σ H' _ p => by rw [p.1]; exact hS) ?_ ?_⟩
    · rintro i x σ H' hx ⟨rfl, z, c, rfl, z0, z1⟩
      rw [List.getElem?_map] at hx
      cases e : ns[i]? with
      | none =>
        rw [e] at hx
        cases hx
      | some u =>
        rw [e] at hx
        cases hx
        refine ⟨_, rfl, _, _, rfl, rfl, .inl ⟨by omega, by omega⟩, _, rfl, _, _, rfl, rfl, .inl ⟨_, rfl, ?_⟩⟩
        refine ⟨_, _, rfl, rfl, (by show (0 : Int) < 2147483647; decide), ?_⟩
        refine ⟨rfl, _, _, rfl, ?_, ?_⟩
        · exact Int.emod_nonneg _ (by decide)
        · exact Int.emod_lt_of_pos _ (by decide)
    · rintro σ H' ⟨rfl, z, c, rfl, z0, z1⟩
      refine ⟨_, rfl, _, rfl, a, _, rfl, .inl hS, fun l hl' => ?_⟩
      refine ⟨(by show 5 ≤ sizeLine; decide), fun p hp => ?_⟩
      have hpl : l ≠ p := fun e => by
        rw [← e, upd_same] at hp
        cases hp
      have e1 : Ex H' (upd H' l (.lst (ns.map V.int))) := Ex.new hl'
      refine q p l _ _ (fresh_back e1 hp) (e1.trans (Ex.new hp)) upd_same ⟨0, 0, z, 0, rfl, by decide, by decide, z0, z1⟩ hpl ?_
      rw [upd_ne hpl, upd_same]

abbrev s_l_draw : Stmt := top 54
theorem sc_l_draw : FnScope ["deck", "bound", "number", "value"] ["deck", "bound"] (defScope s_l_draw) := ⟨rfl, rfl, rfl, by decide +kernel, rfl, by decide +kernel, by decide +kernel⟩
theorem ok_l_draw {f : Addr} {fd : FuncData} (F : Fun K "_law_draw" "_law_draw" s_l_draw f fd) (T : Txt K mg) : FnOk P w K mg base CX0 1 f fd ["deck", "bound"] (spDraw K) := by
  refine draw_closed ?_ rfl
  refine F.ok sc_l_draw (fun vs H Q E h => ?_) (fun cdv A outer s H vs Q E hr h => ?_)
  · obtain ⟨a, b, l, ns, xs, rfl, _⟩ := h
    rfl
  · obtain ⟨a, b, l, ns, xs, rfl, ha, ⟨n, k, z, c, rfl, n0, k0, z0, z1⟩, hL, hla, b0, b1, q⟩ := h
    have hH : upd H a (.lst (deckV n k z l c)) = H := by
      have e := upd_back (u := .lst (deckV n k z l c)) ha
      rw [upd_upd] at e
      exact e
    have hL2 : ∀ o, upd H a o l = some (.lst (ns.map V.int)) := fun o => by rw [upd_ne hla]; exact hL
    refine ⟨_, (pss_cut (ps_if (PW.pt (pw_and (pt_cmpR op_eq (pe_ix (kixL K) (pv 0) pe_int (fun _ _ => rfl)) pe_int (nomark _)) (pw_and1 (pt_cmpR op_lt (pe_ix (kixL K) (pv 0) pe_int (fun _ _ => rfl)) (pe_callB (klen K) (by rfl) T.len_ PySem.boot_len (pa_cons (pe_ix (kixL K) (pv 0) pe_int (fun _ _ => rfl)) pa_nil)) (nomark _)))))
        (pss_cons (ps_asg (pe_callB call_abs (by rfl) T.abs_ bt_abs (pa_cons (pe_ix (kixL K) (pe_ix (kixL K) (pv 0) pe_int (fun _ _ => rfl)) (pe_ix (kixL K) (pv 0) pe_int (fun _ _ => rfl)) (fun _ _ => rfl)) pa_nil)) (pg_sub (pv 0) pe_int set_list))
        (pss_one (ps_asg (pe_op op_add (pe_ix (kixL K) (pv 0) pe_int (fun _ _ => rfl)) pe_int) (pg_sub (pv 0) pe_int set_list))))
        (pss_one (ps_if (pt_cmpR op_eq (pe_ix (kixL K) (pv 0) pe_int (fun _ _ => rfl)) pe_int (nomark _))
          (pss_cons (ps_asg (pe_op op_add (pe_ix (kixL K) (pv 0) pe_int (fun _ _ => rfl)) pe_int) (pg_sub (pv 0) pe_int set_list))
          (pss_cons (ps_set (i := 2) sc_l_draw.nd rfl (by first | exact Or.inl rfl | exact Or.inr rfl) (pe_op op_mod (pe_callTy call_int1 (by rfl) T.int_ bt_int (pa_cons (pe_op op_add (pe_op op_add (pe_op op_mul (pe_ix (kixL K) (pv 0) pe_int (fun _ _ => rfl)) pe_int) (pe_op op_mul (pe_ix (kixL K) (pv 0) pe_int (fun _ _ => rfl)) pe_int)) pe_int) pa_nil)) pe_int))
          (pss_cons (ps_set (i := 2) sc_l_draw.nd rfl (by first | exact Or.inl rfl | exact Or.inr rfl) (pe_op op_mod (pe_callTy call_int1 (by rfl) T.int_ bt_int (pa_cons (pe_op op_add (pe_op op_add (pe_op op_mul (pv 2) (pv 2)) (pe_op op_mul pe_int (pe_ix (kixL K) (pv 0) pe_int (fun _ _ => rfl)))) pe_int) pa_nil)) pe_int))
          (pss_cons (ps_set (i := 2) sc_l_draw.nd rfl (by first | exact Or.inl rfl | exact Or.inr rfl) (pe_op op_mod (pe_callTy call_int1 (by rfl) T.int_ bt_int (pa_cons (pe_op op_add (pe_op op_add (pe_op op_mul (pv 2) (pv 2)) (pe_op op_mul pe_int (pe_ix (kixL K) (pv 0) pe_int (fun _ _ => rfl)))) (pe_ix (kixL K) (pv 0) pe_int (fun _ _ => rfl))) pa_nil)) pe_int))
          (pss_one (ps_asg (pe_op op_fdiv (pv 2) pe_int) (pg_sub (pv 0) pe_int set_list)))))))
          pss_nil)))
      (pss_cons (ps_set (i := 3) sc_l_draw.nd rfl (by first | exact Or.inl rfl | exact Or.inr rfl) (pe_op op_mod (pe_callTy call_int1 (by rfl) T.int_ bt_int (pa_cons (pe_ix (kixL K) (pv 0) pe_int (fun _ _ => rfl)) pa_nil)) (pv 1)))
      (pss_cons (ps_asg (pe_op op_fdiv (pe_ix (kixL K) (pv 0) pe_int (fun _ _ => rfl)) (pv 1)) (pg_sub (pv 0) pe_int set_list))
      (pss_one (ps_ret (pv 3)))))), ?_⟩
    refine ⟨fun σ H' => ∃ n k c u, σ = [some (.ref a), some (.int b), u, none] ∧ H' = upd H a (.lst (deckV n k z l c)) ∧ 0 ≤ n ∧ 0 ≤ k, ?_, ?_⟩
    · rw [← hH]
      -- if deck[0] == 0 and deck[1] < len(deck[3])
      refine ⟨_, rfl, a, _, _, _, rfl, rfl, SqL.of upd_same, rfl, rfl, _, rfl, ?_⟩
      refine ite2 (fun e0 => ?_) (fun e0 => ?_)
      · refine ⟨_, rfl, a, _, _, _, rfl, rfl, SqL.of upd_same, rfl, ?_⟩
        refine ⟨_, rfl, a, _, _, _, rfl, rfl, SqL.of upd_same, rfl, ?_⟩
        refine ⟨l, _, rfl, .inl (SqL.of (hL2 _)), _, _, rfl, rfl, _, rfl, ?_⟩
        refine ite2 (fun e1 => ?_) (fun e1 => ?_)
        · -- deck[0] = abs(deck[3][deck[1]]); deck[1] = deck[1] + 1
          have hk : k < (ns.length : Int) := by
            have e2 := of_decide_eq_true e1
            rw [List.length_map] at e2
            exact e2
          obtain ⟨m, rfl⟩ := Int.eq_ofNat_of_zero_le k0
          have hm : m < ns.length := by omega
          refine ⟨_, rfl, a, _, _, _, rfl, rfl, SqL.of upd_same, rfl, ?_⟩
          refine ⟨_, rfl, a, _, _, _, rfl, rfl, SqL.of upd_same, rfl, ?_⟩
          refine ⟨l, _, _, .int ns[m], rfl, rfl, SqL.of (hL2 _), atI_nat (by rw [List.getElem?_map, List.getElem?_eq_getElem hm]; rfl), ?_⟩
          refine ⟨_, rfl, ?_⟩
          refine ⟨_, rfl, a, _, 0, 0, rfl, rfl, upd_same, rfl, ?_⟩
          refine ⟨_, rfl, a, _, _, _, rfl, rfl, SqL.of upd_same, rfl, ?_⟩
          refine ⟨_, _, rfl, rfl, ?_⟩
          refine ⟨_, rfl, a, _, 1, 1, rfl, rfl, upd_same, rfl, ?_⟩
          refine ⟨(if ns[m] < 0 then -ns[m] else ns[m]), (m : Int) + 1, c, none, rfl, ?_, ?_, ?_⟩
          · simp only [upd_upd]
            rfl
          · split <;> omega
          · omega
        · -- elif deck[0] == 0
          refine ⟨_, rfl, a, _, _, _, rfl, rfl, SqL.of upd_same, rfl, rfl, _, rfl, ?_⟩
          refine ite2 (fun e2 => ?_) (fun e2 => ?_)
          · refine ⟨_, rfl, a, _, _, _, rfl, rfl, SqL.of upd_same, rfl, ?_⟩
            refine ⟨_, _, rfl, rfl, ?_⟩
            refine ⟨_, rfl, a, _, 4, 4, rfl, rfl, upd_same, rfl, ?_⟩
            rw [upd_upd]
            -- number = ..
            refine ⟨_, rfl, a, _, _, _, rfl, rfl, SqL.of upd_same, rfl, ?_⟩
            refine ⟨_, _, rfl, rfl, .inr ⟨by decide, by decide⟩, ?_⟩
            refine ⟨_, rfl, a, _, _, _, rfl, rfl, SqL.of upd_same, rfl, ?_⟩
            refine ⟨_, _, rfl, rfl, .inr ⟨by decide, by decide⟩, ?_⟩
            refine ⟨_, _, rfl, rfl, ?_⟩
            refine ⟨_, _, rfl, rfl, .inl ⟨_, rfl, ?_⟩⟩
            refine ⟨_, _, rfl, rfl, (by show (0 : Int) < 2147483647; decide), ?_⟩
            refine ⟨_, rfl, _, rfl, ?_⟩
            refine ⟨_, _, rfl, rfl, .inl ⟨by omega, by omega⟩, ?_⟩
            refine ⟨_, rfl, a, _, _, _, rfl, rfl, SqL.of upd_same, rfl, ?_⟩
            refine ⟨_, _, rfl, rfl, .inl ⟨by decide, by decide⟩, ?_⟩
            refine ⟨_, _, rfl, rfl, ?_⟩
            refine ⟨_, _, rfl, rfl, .inl ⟨_, rfl, ?_⟩⟩
            refine ⟨_, _, rfl, rfl, (by show (0 : Int) < 998244353; decide), ?_⟩
            refine ⟨_, rfl, _, rfl, ?_⟩
            refine ⟨_, _, rfl, rfl, .inl ⟨by omega, by omega⟩, ?_⟩
            refine ⟨_, rfl, a, _, _, _, rfl, rfl, SqL.of upd_same, rfl, ?_⟩
            refine ⟨_, _, rfl, rfl, .inl ⟨by decide, by decide⟩, ?_⟩
            refine ⟨_, _, rfl, rfl, ?_⟩
            refine ⟨_, rfl, a, _, _, _, rfl, rfl, SqL.of upd_same, rfl, ?_⟩
            refine ⟨_, _, rfl, rfl, .inl ⟨_, rfl, ?_⟩⟩
            refine ⟨_, _, rfl, rfl, (by show (0 : Int) < 2147483629; decide), ?_⟩
            refine ⟨_, rfl, _, _, rfl, rfl, ⟨by decide, by decide⟩, ?_⟩
            refine ⟨_, rfl, a, _, 0, 0, rfl, rfl, upd_same, rfl, ?_⟩
            let n1 : Int := (z * 48271 + (c + 1) * 69621 + 12345) % 2147483647
            let n2 : Int := (n1 * n1 + 16807 * (c + 1) + 7) % 998244353
            refine ⟨(n2 * n2 + 48271 * (c + 1) + z) % 2147483629 / 13, k, c + 1, _, rfl, ?_, ?_, k0⟩
            · simp only [upd_upd]
              rfl
            · exact Int.ediv_nonneg (Int.emod_nonneg _ (by decide)) (by decide)
          · exact ⟨n, k, c, none, rfl, upd_upd.symm, n0, k0⟩
      · refine ⟨_, rfl, a, _, _, _, rfl, rfl, SqL.of upd_same, rfl, rfl, _, rfl, ?_⟩
        rw [eq_false_of_ne_true e0]
        refine iteF ?_
        exact ⟨n, k, c, none, rfl, upd_upd.symm, n0, k0⟩
    · rintro σ H' ⟨n, k, c, u, rfl, rfl, n0, k0⟩
      refine ⟨_, rfl, a, _, _, _, rfl, rfl, SqL.of upd_same, rfl, .inl ⟨_, rfl, ?_⟩⟩
      refine ⟨_, rfl, _, _, rfl, rfl, b0, ?_⟩
      refine ⟨_, rfl, a, _, _, _, rfl, rfl, SqL.of upd_same, rfl, ?_⟩
      refine ⟨_, rfl, _, _, rfl, rfl, ⟨b0, b1⟩, ?_⟩
      refine ⟨_, rfl, a, _, 0, 0, rfl, rfl, upd_same, rfl, ?_⟩
      refine ⟨_, rfl, ?_⟩
      rw [upd_upd]
      exact q (n % b) _ (Int.emod_nonneg _ (by omega)) (Int.emod_lt_of_pos _ b0) ⟨n / b, k, z, c, rfl, Int.ediv_nonneg n0 (by omega), k0, z0, z1⟩

abbrev s_is_whole : Stmt := top 9
theorem sc_is_whole : FnScope ["value"] ["value"] (defScope s_is_whole) := ⟨rfl, rfl, rfl, by decide +kernel, rfl, by decide +kernel, by decide +kernel⟩
def spWhole : Sp := fun vs H Q _ => ∃ v T, vs = [v] ∧ Kn H v T ∧ Q (.bl (isI v)) H
theorem ok_is_whole {f : Addr} {fd : FuncData} (F : Fun K "is_whole" "is_whole" s_is_whole f fd) (T : Txt K mg) : FnOk P w K mg base CX0 1 f fd ["value"] spWhole := by
  refine F.ok sc_is_whole (fun vs H Q E h => ?_) (fun cdv A outer s H vs Q E hr h => ?_)
  · obtain ⟨v, T, rfl, _⟩ := h
    rfl
  · obtain ⟨v, T', rfl, kn, q⟩ := h
    refine ⟨_, (pss_one (ps_ret (pe_and (pe_callB (kisi K) (by rfl) T.isinstance_ bt_isinstance (pa_cons (pv 0) (pa_cons (pe_bltn (v := .ty "int") (by rfl) T.int_ bt_int rfl) pa_nil))) (pe_one (pe_not (pe_callB (kisi K) (by rfl) T.isinstance_ bt_isinstance (pa_cons (pv 0) (pa_cons (pe_bltn (v := .ty "bool") (by rfl) T.bool_ bt_bool rfl) pa_nil)))))))), ?_⟩
    refine ⟨v, rfl, v, _, _, _, _, rfl, .ty _, kn.ty, kit_ty (kit_int kn), _, rfl, ?_⟩
    refine ite2 (fun e => ?_) (fun e => ?_)
    · refine ⟨v, rfl, v, _, _, _, _, rfl, .ty _, kn.ty, kit_ty (kit_bool kn), _, rfl, ?_⟩
      have z := kn.whole
      rw [e] at z
      rw [← z] at q
      exact q
    · have z := kn.whole
      rw [eq_false_of_ne_true e] at z
      rw [← z] at q
      exact q

abbrev s_is_number : Stmt := top 14
theorem sc_is_number : FnScope ["value", "least", "most"] ["value", "least", "most"] (defScope s_is_number) := ⟨rfl, rfl, rfl, by decide +kernel, rfl, by decide +kernel, by decide +kernel⟩
def numIn (lo hi : Int) : V → Bool
  | .int i => decide (lo ≤ i) && decide (i ≤ hi)
  | _ => false
def spNumber : Sp := fun vs H Q _ => ∃ v lo hi T, vs = [v, .int lo, .int hi] ∧ Kn H v T ∧ Q (.bl (numIn lo hi v)) H
theorem ok_is_number {f : Addr} {fd : FuncData} (F : Fun K "is_number" "is_number" s_is_number f fd) (T : Txt K mg) (D_is_whole : Def P w K mg base CX0 "is_whole" 1 ["value"] spWhole) : FnOk P w K mg base CX0 2 f fd ["value", "least", "most"] spNumber := by
  refine F.ok sc_is_number (fun vs H Q E h => ?_) (fun cdv A outer s H vs Q E hr h => ?_)
  · obtain ⟨v, lo, hi, T, rfl, _⟩ := h
    rfl
  · obtain ⟨v, lo, hi, T', rfl, kn, q⟩ := h
    refine ⟨_, (pss_one (ps_ret (pe_and (pe_call D_is_whole.ok (hr.mono (by decide)) rfl D_is_whole.mgf D_is_whole.kp D_is_whole.b .nil pass0 (pa_cons (pv 0) pa_nil)) (pe_one (pe_chain op_le op_le (pv 1) (pv 0) (pv 2)))))), ?_⟩
    refine ⟨v, rfl, v, _, rfl, kn, _, rfl, ?_⟩
    cases v with
    | int i =>
      refine iteT ?_
      refine ⟨_, rfl, _, rfl, _, _, rfl, rfl, _, rfl, ?_⟩
      have e : numIn lo hi (.int i) = (decide (lo ≤ i) && decide (i ≤ hi)) := rfl
      rw [e] at q
      refine ite2 (fun c => ?_) (fun c => ?_)
      · rw [c, Bool.true_and] at q
        exact ⟨_, rfl, _, _, rfl, rfl, q⟩
      · rw [eq_false_of_ne_true c, Bool.false_and] at q
        exact q
    | _ => exact iteF q

abbrev s_are_numbers : Stmt := top 16
theorem sc_are_numbers : FnScope ["items", "many", "most", "item"] ["items", "many", "most"] (defScope s_are_numbers) := ⟨rfl, rfl, rfl, by decide +kernel, rfl, by decide +kernel, by decide +kernel⟩
/-- what is passed: a value of a known kind; the items of a tuple, too -/
def Itm (H : Hp) (v : V) : Prop := (∃ T, Kn H v T) ∧ ∀ a xs, v = .ref a → H a = some (.tup xs) → (∀ x ∈ xs, ∃ T, Kn H x T) ∧ xs.length ≤ 1000
def numsV (H : Hp) (n m : Int) : V → Bool
  | .ref a => match H a with
    | some (.tup xs) => decide ((xs.length : Int) = n) && xs.all (numIn 0 m)
    | _ => false
  | _ => false
theorem numsV_tup {H : Hp} {n m : Int} {a : Addr} {xs : List V} (h : H a = some (.tup xs)) : numsV H n m (.ref a) = (decide ((xs.length : Int) = n) && xs.all (numIn 0 m)) := by
  unfold numsV
  simp only [h]
theorem kn_tup {H : Hp} {v : V} {T : String} (kn : Kn H v T) (c : isA T "tuple" = true) : ∃ a xs, v = .ref a ∧ H a = some (.tup xs) := by
  cases kn with
  | tup h => exact ⟨_, _, rfl, h⟩
  | non => exact absurd c (by decide +kernel)
  | bl b => exact absurd c (by decide +kernel)
  | int i => exact absurd c (by decide +kernel)
  | str x => exact absurd c (by decide +kernel)
  | lst h => exact absurd c (by decide +kernel)
theorem numsV_no {H : Hp} {n m : Int} {v : V} {T : String} (kn : Kn H v T) (c : isA T "tuple" = false) : numsV H n m v = false := by
  cases kn with
  | tup h => exact absurd c (by decide +kernel)
  | non => rfl
  | bl b => rfl
  | int i => rfl
  | str x => rfl
  | lst h =>
    unfold numsV
    simp only [h]
def spNums : Sp := fun vs H Q _ => ∃ v n m, vs = [v, .int n, .int m] ∧ Itm H v ∧ ∀ H', Ex H H' → Q (.bl (numsV H n m v)) H'
theorem ok_are_numbers {f : Addr} {fd : FuncData} (F : Fun K "_are_numbers" "_are_numbers" s_are_numbers f fd) (T : Txt K mg) (D_is_number : Def P w K mg base CX0 "is_number" 2 ["value", "least", "most"] spNumber) : FnOk P w K mg base CX0 3 f fd ["items", "many", "most"] spNums := by
  refine F.ok sc_are_numbers (fun vs H Q E h => ?_) (fun cdv A outer s H vs Q E hr h => ?_)
  · obtain ⟨v, n, m, rfl, _⟩ := h
    rfl
  · obtain ⟨v, n, m, rfl, ⟨⟨T', kn⟩, ki⟩, q⟩ := h
    refine ⟨_, (pss_cons (ps_if (PW.pt (pw_or (pt_not (pt_val (pe_callB (kisi K) (by rfl) T.isinstance_ bt_isinstance (pa_cons (pv 0) (pa_cons (pe_bltn (v := .ty "tuple") (by rfl) T.tuple_ bt_tuple rfl) pa_nil))))) (pw_or1 (pt_cmpR op_ne (pe_callB (klen K) (by rfl) T.len_ PySem.boot_len (pa_cons (pv 0) pa_nil)) (pv 1) (nomark _)))))
        (pss_one (ps_ret pe_bl))
        pss_nil)
      (pss_one (ps_ret (pe_callB (kall K rfl) (by rfl) T.all_ bt_all (pa_cons (pe_lc (own := [("item", 3)]) (tt := tYes) rfl sc_are_numbers.nd (kpiT K (pv 0)) (blkOk_by (N := ["items", "many", "most", "item"]) (sc := defScope s_are_numbers) (by decide +kernel)) (fun _ _ _ _ _ => (pg_name (i := 3) sc_are_numbers.nd rfl (by first | exact Or.inl rfl | exact Or.inr rfl))) (fun _ _ _ _ _ => pts_nil) (fun _ _ _ _ _ => (pe_call D_is_number.ok (hr.mono (by decide)) rfl D_is_number.mgf D_is_number.kp D_is_number.b .nil pass0 (pa_cons (pv 3) (pa_cons pe_int (pa_cons (pv 2) pa_nil)))))) pa_nil))))), ?_⟩
    refine ⟨v, rfl, v, _, _, _, _, rfl, .ty _, kn.ty, kit_ty (kit_tuple kn), _, rfl, ?_⟩
    cases ct : isA T' "tuple" with
    | false =>
      rw [numsV_no kn ct] at q
      refine iteT ?_
      exact iteT (q _ (Ex.refl _))
    | true =>
      obtain ⟨a, xs, rfl, ha⟩ := kn_tup kn ct
      obtain ⟨kx, hxl⟩ := ki a xs rfl ha
      rw [numsV_tup ha] at q
      refine iteF ?_
      refine ⟨_, rfl, a, xs, rfl, .inr (SqT.of ha), _, rfl, rfl, _, rfl, ?_⟩
      by_cases hn : (xs.length : Int) = n
      · have e4 : decide (V.int (xs.length : Int) = V.int n) = true := decide_eq_true (by rw [hn])
        rw [e4]
        rw [decide_eq_true hn, Bool.true_and] at q
        refine iteF ?_
        refine ⟨_, rfl, a, rfl, ⟨xs, SqT.of ha⟩, fun D hD => lc_tup (xs := xs) (fun i H' => Ex H H' ∧ H' D = some (.lst (((xs.take i).map (numIn 0 m)).map V.bl))) ⟨Ex.new hD, upd_same⟩ (fun i H' _ p => SqT.of (p.1 _ _ ha)) ?_ ?_⟩
        · intro i x H' hx p
          refine ⟨rfl, ?_⟩
          refine lcY ?_
          obtain ⟨Tx, kx⟩ := kx x (List.mem_of_getElem? hx)
          refine ⟨x, rfl, _, rfl, x, 0, m, Tx, rfl, kx.mono p.1, ?_⟩
          have hl : (xs.take i).length ≤ 1000 := by rw [List.length_take]; omega
          refine ⟨_, p.2, ?_, p.1.mut hD, ?_⟩
          · rw [List.length_map, List.length_map]
            exact Nat.lt_of_le_of_lt hl (by decide)
          · rw [upd_same, List.take_add_one, hx]
            simp
        · intro H' p
          rw [List.take_length] at p
          refine ⟨D, xs.map (numIn 0 m), rfl, SqL.of p.2, ?_⟩
          have ea : (xs.map (numIn 0 m)).all id = xs.all (numIn 0 m) := by rw [List.all_map]; rfl
          rw [ea]
          exact q _ p.1
      · have e4 : decide (V.int (xs.length : Int) = V.int n) = false := decide_eq_false (fun e => hn (by injection e))
        rw [e4]
        rw [decide_eq_false hn, Bool.false_and] at q
        refine iteT ?_
        exact q _ (Ex.refl _)

abbrev s_check_picture : Stmt := top 15
theorem sc_check_picture : FnScope ["picture", "width", "height", "values", "covers"] ["picture"] (defScope s_check_picture) := ⟨rfl, rfl, rfl, by decide +kernel, rfl, by decide +kernel, by decide +kernel⟩
theorem itm_ints {H : Hp} {a : Addr} {ns : List Int} (h : H a = some (.tup (ns.map V.int))) (hl : ns.length ≤ 1000) : Itm H (.ref a) := by
  refine ⟨⟨_, .tup h⟩, fun b xs e hb => ?_⟩
  cases e
  rw [h] at hb
  cases hb
  refine ⟨fun x hx => ?_, by rw [List.length_map]; exact hl⟩
  obtain ⟨n, _, rfl⟩ := List.mem_map.mp hx
  exact ⟨_, .int n⟩
theorem nums_ints {H : Hp} {a : Addr} {ns : List Int} {n m : Int} (h : H a = some (.tup (ns.map V.int))) (hl : (ns.length : Int) = n) (hb : ∀ v ∈ ns, 0 ≤ v ∧ v ≤ m) : numsV H n m (.ref a) = true := by
  rw [numsV_tup h, List.length_map, decide_eq_true hl, Bool.true_and, List.all_eq_true]
  intro x hx
  obtain ⟨v, hv, rfl⟩ := List.mem_map.mp hx
  show (decide (0 ≤ v) && decide (v ≤ m)) = true
  rw [decide_eq_true (hb v hv).1, decide_eq_true (hb v hv).2]
  rfl
def spCheck (K : PySem.W.Frag) : Sp := fun vs H Q _ => ∃ v p, vs = [v] ∧ PcV H v p ∧ p.Ok 12 ∧ ∀ H', Ex H H' → Q .non H'
theorem ok_check_picture {f : Addr} {fd : FuncData} (F : Fun K "check_picture" "check_picture" s_check_picture f fd) (T : Txt K mg) (D_is_number : Def P w K mg base CX0 "is_number" 2 ["value", "least", "most"] spNumber) (D_are_numbers : Def P w K mg base CX0 "_are_numbers" 3 ["items", "many", "most"] spNums) : FnOk P w K mg base CX0 4 f fd ["picture"] (spCheck K) := by
  refine F.ok sc_check_picture (fun vs H Q E h => ?_) (fun cdv A outer s H vs Q E hr h => ?_)
  · obtain ⟨v, p, rfl, _⟩ := h
    rfl
  · obtain ⟨v, p, rfl, ⟨a, va, ca, rfl, hp, hva, hca⟩, k, q⟩ := h
    refine ⟨_, (pss_cons (ps_if (PW.pt (pw_or (pt_not (pt_val (pe_callB (kisi K) (by rfl) T.isinstance_ bt_isinstance (pa_cons (pv 0) (pa_cons (pe_bltn (v := .ty "tuple") (by rfl) T.tuple_ bt_tuple rfl) pa_nil))))) (pw_or1 (pt_cmpR op_ne (pe_callB (klen K) (by rfl) T.len_ PySem.boot_len (pa_cons (pv 0) pa_nil)) pe_int (nomark _)))))
        (pss_one ps_never)
        pss_nil)
      (pss_cons (ps_asg (pv 0) (kpgT K (n := 4) rfl (pgs_cons (pg_name (i := 1) sc_check_picture.nd rfl (by first | exact Or.inl rfl | exact Or.inr rfl)) (pgs_cons (pg_name (i := 2) sc_check_picture.nd rfl (by first | exact Or.inl rfl | exact Or.inr rfl)) (pgs_cons (pg_name (i := 3) sc_check_picture.nd rfl (by first | exact Or.inl rfl | exact Or.inr rfl)) (pgs_cons (pg_name (i := 4) sc_check_picture.nd rfl (by first | exact Or.inl rfl | exact Or.inr rfl)) pgs_nil))))))
      (pss_cons (ps_if (pt_not (pt_val (pe_call D_is_number.ok (hr.mono (by decide)) rfl D_is_number.mgf D_is_number.kp D_is_number.b .nil pass0 (pa_cons (pv 1) (pa_cons pe_int (pa_cons (pe_glob (v := .int 12) rfl T.PICTURE_SIDE_MOST_.choose_spec ⟨_, rfl⟩) pa_nil))))))
        (pss_one ps_never)
        pss_nil)
      (pss_cons (ps_if (pt_not (pt_val (pe_call D_is_number.ok (hr.mono (by decide)) rfl D_is_number.mgf D_is_number.kp D_is_number.b .nil pass0 (pa_cons (pv 2) (pa_cons pe_int (pa_cons (pe_glob (v := .int 12) rfl T.PICTURE_SIDE_MOST_.choose_spec ⟨_, rfl⟩) pa_nil))))))
        (pss_one ps_never)
        pss_nil)
      (pss_cons (ps_if (pt_not (pt_val (pe_call D_are_numbers.ok (hr.mono (by decide)) rfl D_are_numbers.mgf D_are_numbers.kp D_are_numbers.b .nil pass0 (pa_cons (pv 3) (pa_cons (pe_op op_mul (pv 1) (pv 2)) (pa_cons (pe_glob (v := .int 255) rfl T.VALUE_MOST_.choose_spec ⟨_, rfl⟩) pa_nil))))))
        (pss_one ps_never)
        pss_nil)
      (pss_one (ps_if (pt_not (pt_val (pe_call D_are_numbers.ok (hr.mono (by decide)) rfl D_are_numbers.mgf D_are_numbers.kp D_are_numbers.b .nil pass0 (pa_cons (pv 4) (pa_cons (pe_op op_mul (pv 1) (pv 2)) (pa_cons (pe_glob (v := .int 256) rfl T.COVER_MOST_.choose_spec ⟨_, rfl⟩) pa_nil))))))
        (pss_one ps_never)
        pss_nil))))))), ?_⟩
    have kn := Kn.tup hp
    have := k.area
    have e0 : numIn 1 12 (.int p.w) = true := by
      show (decide (1 ≤ p.w) && decide (p.w ≤ 12)) = true
      rw [decide_eq_true k.w1, decide_eq_true k.w2]
      rfl
    have e1 : numIn 1 12 (.int p.h) = true := by
      show (decide (1 ≤ p.h) && decide (p.h ≤ 12)) = true
      rw [decide_eq_true k.h1, decide_eq_true k.h2]
      rfl
    refine ⟨_, rfl, _, _, _, _, _, rfl, .ty _, kn.ty, kit_ty (kit_tuple kn), _, rfl, ?_⟩
    refine iteF ?_
    refine ⟨_, rfl, a, _, rfl, .inr (SqT.of hp), rfl, _, rfl, ?_⟩
    refine iteF ?_
    refine ⟨_, rfl, a, _, rfl, SqT.of hp, rfl, _, _, rfl, _, _, rfl, _, _, rfl, _, _, rfl, rfl, ?_⟩
    refine ⟨_, rfl, _, _, _, _, rfl, .int _, _, rfl, ?_⟩
    rw [e0]
    refine iteF ?_
    refine ⟨_, rfl, _, _, _, _, rfl, .int _, _, rfl, ?_⟩
    rw [e1]
    refine iteF ?_
    refine ⟨_, rfl, _, rfl, _, rfl, _, _, rfl, rfl, .inl ⟨by have := k.w1; omega, by have := k.w2; omega⟩, _, _, _, rfl, itm_ints hva (by have := k.vl; omega), fun H1 x1 => ⟨_, rfl, ?_⟩⟩
    rw [nums_ints hva k.vl k.vb]
    refine iteF ?_
    refine ⟨_, rfl, _, rfl, _, rfl, _, _, rfl, rfl, .inl ⟨by have := k.w1; omega, by have := k.w2; omega⟩, _, _, _, rfl, itm_ints (x1 _ _ hca) (by have := k.cl; omega), fun H2 x2 => ⟨_, rfl, ?_⟩⟩
    rw [nums_ints (x1 _ _ hca) k.cl k.cb]
    refine iteF ?_
    exact q _ (x1.trans x2)

def inI : V → Int
  | .int i => i
  | _ => 0
def isNon : V → Bool
  | .non => true
  | _ => false
def fC (s n fi fo : V) : Bool := (numIn 0 10000 s && numIn 1 10000 n) && (numIn 0 (inI n) fi && numIn 0 (inI n - inI fi) fo)
def bCl (p fi fo : V) : Bool := isNon p && (decide (inI fi = 0) && decide (inI fo = 0))
/-- a clip that may stand behind lo -/
def cOk (H : Hp) (ad : Bool) (lo : Int) : V → Bool
  | .ref a => match H a with
    | some (.tup [s, n, p, fi, fo]) => fC s n fi fo && ((!ad || bCl p fi fo) && decide (lo ≤ inI s))
    | _ => false
  | _ => false
def cEn (H : Hp) : V → Int
  | .ref a => match H a with
    | some (.tup (s :: n :: _)) => inI s + inI n
    | _ => 0
  | _ => 0
theorem cOk_tup {H : Hp} {ad : Bool} {lo : Int} {a : Addr} {s n p fi fo : V} (h : H a = some (.tup [s, n, p, fi, fo])) : cOk H ad lo (.ref a) = (fC s n fi fo && ((!ad || bCl p fi fo) && decide (lo ≤ inI s))) := by
  simp only [cOk, h]
theorem cEn_tup {H : Hp} {a : Addr} {s n : V} {xs : List V} (h : H a = some (.tup (s :: n :: xs))) : cEn H (.ref a) = inI s + inI n := by
  simp only [cEn, h]
theorem cOk_len {H : Hp} {ad : Bool} {lo : Int} {a : Addr} {xs : List V} (h : H a = some (.tup xs)) (hl : xs.length ≠ 5) : cOk H ad lo (.ref a) = false := by
  match xs, hl with
  | [], _ => simp only [cOk, h]
  | [_], _ => simp only [cOk, h]
  | [_, _], _ => simp only [cOk, h]
  | [_, _, _], _ => simp only [cOk, h]
  | [_, _, _, _], _ => simp only [cOk, h]
  | [_, _, _, _, _], hl => exact absurd rfl hl
  | _ :: _ :: _ :: _ :: _ :: _ :: _, _ => simp only [cOk, h]
theorem cOk_no {H : Hp} {ad : Bool} {lo : Int} {v : V} {T : String} (k : Kn H v T) (h : isA T "tuple" = false) : cOk H ad lo v = false := by
  cases k with
  | tup h1 => exact absurd h (by decide +kernel)
  | lst h1 => simp only [cOk, h1]
  | _ => rfl
theorem cOk_ex {H H' : Hp} {ad : Bool} {lo : Int} {v : V} {T : String} (e : Ex H H') (k : Kn H v T) : cOk H' ad lo v = cOk H ad lo v ∧ cEn H' v = cEn H v := by
  cases k with
  | tup h1 => simp only [cOk, cEn, h1, e _ _ h1, and_self]
  | lst h1 => simp only [cOk, cEn, h1, e _ _ h1, and_self]
  | _ => exact ⟨rfl, rfl⟩
/-- the form, told -/
theorem fC_ints {s n fi fo : V} (h : fC s n fi fo = true) : ∃ a b c d : Int, s = .int a ∧ n = .int b ∧ fi = .int c ∧ fo = .int d ∧ 0 ≤ a ∧ a ≤ 10000 ∧ 1 ≤ b ∧ b ≤ 10000 ∧ 0 ≤ c ∧ c ≤ b ∧ 0 ≤ d ∧ d ≤ b - c := by
  unfold fC at h
  rw [Bool.and_eq_true, Bool.and_eq_true, Bool.and_eq_true] at h
  obtain ⟨⟨h1, h2⟩, h3, h4⟩ := h
  have num : ∀ {lo hi : Int} {v : V}, numIn lo hi v = true → ∃ i, v = .int i ∧ lo ≤ i ∧ i ≤ hi := fun {lo hi v} h => by
    cases v with
    | int i =>
      have h : (decide (lo ≤ i) && decide (i ≤ hi)) = true := h
      rw [Bool.and_eq_true] at h
      exact ⟨i, rfl, of_decide_eq_true h.1, of_decide_eq_true h.2⟩
    | _ => cases h
  obtain ⟨a, rfl, a0, a1⟩ := num h1
  obtain ⟨b, rfl, b0, b1⟩ := num h2
  obtain ⟨c, rfl, c0, c1⟩ := num h3
  obtain ⟨d, rfl, d0, d1⟩ := num h4
  exact ⟨a, b, c, d, rfl, rfl, rfl, rfl, a0, a1, b0, b1, c0, c1, d0, d1⟩
def leaC (H : Hp) (xs : List V) : Nat → Int
  | 0 => 0
  | k + 1 => cEn H (xs.getD k .non)
def BadC (H : Hp) (ad : Bool) (xs : List V) : Option Nat → Prop
  | none => ∀ k x, xs[k]? = some x → cOk H ad (leaC H xs k) x = true
  | some k => ∃ x, xs[k]? = some x ∧ cOk H ad (leaC H xs k) x = false ∧ ∀ j < k, ∀ y, xs[j]? = some y → cOk H ad (leaC H xs j) y = true
theorem BadC.uniq {H : Hp} {ad : Bool} {xs : List V} {o p : Option Nat} (h : BadC H ad xs o) (k : BadC H ad xs p) : o = p := by
  have key : ∀ {i j : Nat}, BadC H ad xs (some i) → BadC H ad xs (some j) → ¬ i < j := fun {i j} ⟨x, hx, h1, _⟩ ⟨y, hy, _, k2⟩ lt => by
    have := k2 i lt x hx
    rw [h1] at this
    cases this
  cases o with
  | none =>
    cases p with
    | none => rfl
    | some j =>
      obtain ⟨y, hy, k1, _⟩ := k
      have := h j y hy
      rw [k1] at this
      cases this
  | some i =>
    cases p with
    | none =>
      obtain ⟨x, hx, h1, _⟩ := h
      have := k i x hx
      rw [h1] at this
      cases this
    | some j =>
      have a := key h k
      have b := key k h
      congr 1
      omega
def ClOut (H : Hp) (ad : Bool) (v : V) : Option (Option Nat) → Prop
  | none => ∃ a xs, v = .ref a ∧ H a = some (.tup xs) ∧ xs.length ≤ 64 ∧ BadC H ad xs none
  | some none => ∀ a xs, v = .ref a → H a = some (.tup xs) → 64 < xs.length
  | some (some k) => ∃ a xs, v = .ref a ∧ H a = some (.tup xs) ∧ xs.length ≤ 64 ∧ BadC H ad xs (some k)
/-- an item that is passed as a clip -/
def CW (H : Hp) (ad : Bool) (v : V) : Prop := Deep 400 1 H v ∧ (ad = false → ∀ a s n p fi fo, v = .ref a → H a = some (.tup [s, n, p, fi, fo]) → fC s n fi fo = true → ∃ q : Pa, PaV H p q ∧ q.Ok 12)
theorem CW.ex {H H' : Hp} {ad : Bool} {v : V} (e : Ex H H') (h : CW H ad v) : CW H' ad v := by
  refine ⟨h.1.ex e, fun ha a s n p fi fo ev hv f => ?_⟩
  obtain ⟨T, k⟩ := h.1.kn
  subst ev
  cases k with
  | tup h1 =>
    have h2 := h1
    rw [e _ _ h1] at hv
    cases hv
    obtain ⟨q, hq, ok⟩ := h.2 ha a s n p fi fo rfl h2 f
    exact ⟨q, hq.tk (TK.ex e), ok⟩
  | lst h1 =>
    rw [e _ _ h1] at hv
    cases hv
def Ws (H : Hp) (ad : Bool) (v : V) : Prop := (∃ T, Kn H v T) ∧ ∀ a xs, v = .ref a → H a = some (.tup xs) → ∀ x ∈ xs, CW H ad x
theorem Ws.ex {H H' : Hp} {ad : Bool} {v : V} (e : Ex H H') (h : Ws H ad v) : Ws H' ad v := by
  obtain ⟨⟨T, k⟩, q⟩ := h
  refine ⟨⟨T, k.mono e⟩, fun a xs ev hv x hx => ?_⟩
  subst ev
  cases k with
  | tup h1 =>
    have h2 := h1
    rw [e _ _ h1] at hv
    cases hv
    exact (q a xs rfl h2 x hx).ex e
  | lst h1 =>
    rw [e _ _ h1] at hv
    cases hv
theorem leaC_ex {H H' : Hp} {xs : List V} (e : Ex H H') (h : ∀ x ∈ xs, ∃ T, Kn H x T) (k : Nat) : leaC H' xs k = leaC H xs k := by
  cases k with
  | zero => rfl
  | succ k =>
    show cEn H' _ = cEn H _
    by_cases hk : k < xs.length
    · rw [List.getD_eq_getElem?_getD, List.getElem?_eq_getElem hk]
      obtain ⟨T, kn⟩ := h _ (List.getElem_mem hk)
      rw [Option.getD_some, (cOk_ex (ad := true) (lo := 0) e kn).2]
    · rw [List.getD_eq_getElem?_getD, List.getElem?_eq_none (by omega)]
      rfl
theorem BadC.ex {H H' : Hp} {ad : Bool} {xs : List V} (e : Ex H H') (h : ∀ x ∈ xs, ∃ T, Kn H x T) {o : Option Nat} (b : BadC H ad xs o) : BadC H' ad xs o := by
  have same : ∀ k x, xs[k]? = some x → cOk H' ad (leaC H' xs k) x = cOk H ad (leaC H xs k) x := fun k x hx => by
    obtain ⟨T, kn⟩ := h _ (List.mem_of_getElem? hx)
    rw [leaC_ex e h k, (cOk_ex e kn).1]
  cases o with
  | none => exact fun k x hx => by rw [same k x hx]; exact b k x hx
  | some k =>
    obtain ⟨x, hx, h1, h2⟩ := b
    exact ⟨x, hx, by rw [same k x hx]; exact h1, fun j hj y hy => by rw [same j y hy]; exact h2 j hj y hy⟩
def plV : Option Nat → V
  | none => .non
  | some k => .int (k : Nat)
def spEnd27 (K : PySem.W.Frag) : Sp := fun vs H Q _ => ∃ (a : Addr) (s n : Int) (p x y : V), vs = [.ref a] ∧ H a = some (.tup [.int s, .int n, p, x, y]) ∧ Q (.int (s + n)) H

/-- what stands in the lane, as a value -/
def DueV (H : Hp) (v : V) : Option (Option Pa × Int) → Prop
  | none => v = .non
  | some (p, l) => ∃ a u, v = .ref a ∧ H a = some (.tup [u, .int l]) ∧ OpV H u p
theorem DueV.ex {H H' : Hp} {v : V} {q : Option (Option Pa × Int)} (e : Ex H H') (h : DueV H v q) : DueV H' v q := by
  match q, h with
  | none, h => exact h
  | some (p, l), ⟨a, u, e1, h1, h2⟩ => exact ⟨a, u, e1, e _ _ h1, h2.tk (TK.ex e)⟩
def dueD : Option (Option Pa × Int) → PyData
  | none => .none
  | some (p, l) => .tuple [opD p, .int l]
theorem DueV.dp {K : PySem.W.Frag} {H : Hp} {v : V} {q : Option (Option Pa × Int)} (h : DueV H v q) : Dp K H v (dueD q) := by
  match q, h with
  | none, h => cases h; exact .non
  | some (p, l), ⟨a, u, e1, h1, h2⟩ => subst e1; exact .tup (SqT.of h1) (.cons h2.dp (.cons (.int _) .nil))
theorem due_lay (q : Option (Option Pa × Int)) : (dueD q).canLay0 = true := by
  match q with
  | none => rfl
  | some (p, l) => simp only [dueD, PyData.canLay0, PyData.canLayAll0, op_lay, Bool.and_true]
theorem due_shaped (q : Option (Option Pa × Int)) : SeqAt.shaped (dueD q) = true := by
  refine shaped_of (due_lay q) ?_
  match q with
  | none => decide
  | some (p, l) =>
    have := op_depth p
    simp only [dueD, PyData.depth, PyData.depthAll]
    omega
def TellsL (P : Option Pa → Int → Prop) : Option (Option Pa × Int) → Prop
  | none => ∀ p l, ¬ P p l
  | some (p, l) => P p l
theorem lane_tells {H : Hp} {v : V} {cs : List Cl} {f : Int} {o : Option Nat} (h : First cs f o) (k : LnV H v cs f o) : ∃ q, DueV H v q ∧ TellsL (Ln cs f) q := by
  cases o with
  | none => exact ⟨none, k, fun p l ⟨c, hc, h1, _⟩ => h c hc h1⟩
  | some i =>
    obtain ⟨c, a, u, hc, rfl, ha, hu⟩ := k
    obtain ⟨c', hc', h1, _⟩ := h
    rw [hc] at hc'
    cases hc'
    exact ⟨some (c.pa, c.lev f), ⟨a, u, rfl, ha, hu⟩, ⟨c, List.mem_of_getElem? hc, h1, rfl, rfl⟩⟩
theorem tells_same {P R : Option Pa → Int → Prop} {q r : Option (Option Pa × Int)} (h : TellsL P q) (k : TellsL R r) (e : ∀ p l, P p l ↔ R p l) (u : ∀ p l p' l', P p l → P p' l' → p = p' ∧ l = l') : q = r := by
  match q, r, h, k with
  | none, none, _, _ => rfl
  | none, some (p, l), h, k => exact absurd ((e p l).mpr k) (h p l)
  | some (p, l), none, h, k => exact absurd ((e p l).mp h) (k p l)
  | some (p, l), some (p', l'), h, k =>
    obtain ⟨rfl, rfl⟩ := u p l p' l' h ((e p' l').mpr k)
    rfl

theorem cw5 {H : Hp} {ad : Bool} {a : Addr} {s n p fi fo : V} (h : H a = some (.tup [s, n, p, fi, fo])) (k : ∀ x ∈ [s, n, p, fi, fo], ∃ T, Kn H x T) (g : ad = false → ∃ q : Pa, PaV H p q ∧ q.Ok 12) : CW H ad (.ref a) := by
  refine ⟨.tup h (by show 5 ≤ 400; omega) k, fun had b s' n' p' fi' fo' e hb _ => ?_⟩
  cases e
  rw [h] at hb
  cases hb
  exact g had
theorem cl_cw {H : Hp} {ad : Bool} {v : V} {c : Cl} {m : Int} (h : ClV H v c) (k : c.Ok m) (g : ad = false → ∃ p, c.pa = some p) : ∃ (a : Addr) (u : V), v = .ref a ∧ H a = some (.tup [.int c.s, .int c.n, u, .int c.fi, .int c.fo]) ∧ (∃ T, Kn H u T) ∧ (ad = false → ∃ q : Pa, PaV H u q ∧ q.Ok 12) := by
  obtain ⟨a, u, rfl, ha, hu⟩ := h
  have kp := k.pa
  refine ⟨a, u, rfl, ha, ?_, fun had => ?_⟩
  · match ep : c.pa, hu with
    | none, hu => cases hu; exact ⟨_, .non⟩
    | some q, hu =>
      obtain ⟨b, ys, rfl, hb⟩ := PaV.mk hu
      exact ⟨_, .tup hb⟩
  · obtain ⟨q, eq⟩ := g had
    rw [eq] at hu kp
    refine ⟨q, hu, ?_⟩
    have kp : q.Ok 3 := kp
    cases q with
    | solid x => exact kp
    | steps f s z => exact kp
    | pic p => exact ⟨kp.w1, by have := kp.w2; omega, kp.h1, by have := kp.h2; omega, kp.vl, kp.cl, kp.vb, kp.cb⟩
theorem kn_ints {H : Hp} (i : Int) : ∃ T, Kn H (.int i) T := ⟨_, .int i⟩
/-- good clips are what check_clips accepts -/
theorem good_ws {H : Hp} {ad : Bool} {a : Addr} {us : List V} {cs : List Cl} {B : Int} (ha : H a = some (.tup us)) (hC : ClsV H us cs) (g : Good B cs) (aj : ∀ c ∈ cs, AdjOk ad c) : Ws H ad (.ref a) := by
  refine ⟨⟨_, .tup ha⟩, fun b xs e hb x hx => ?_⟩
  cases e
  rw [ha] at hb
  cases hb
  obtain ⟨j, hj⟩ := List.getElem?_of_mem hx
  obtain ⟨c, hc, hcv⟩ := pr_get hC hj
  have hcm := List.mem_of_getElem? hc
  obtain ⟨b, u, rfl, h1, h2, h3⟩ := cl_cw (ad := ad) hcv (g.ok c hcm) (aj c hcm).2
  refine cw5 h1 (fun y hy => ?_) h3
  simp only [List.mem_cons, List.not_mem_nil, or_false] at hy
  rcases hy with rfl | rfl | rfl | rfl | rfl
  · exact kn_ints _
  · exact kn_ints _
  · exact h2
  · exact kn_ints _
  · exact kn_ints _
theorem good_out {H : Hp} {ad : Bool} {a : Addr} {us : List V} {cs : List Cl} {B : Int} (ha : H a = some (.tup us)) (hC : ClsV H us cs) (g : Good B cs) (hB : B ≤ 10000) (l : cs.length ≤ 64) (aj : ∀ c ∈ cs, AdjOk ad c) : ClOut H ad (.ref a) none := by
  have lu := hC.length
  refine ⟨a, us, rfl, ha, by omega, fun k x hx => ?_⟩
  obtain ⟨c, hc, b, u, rfl, hb, hu⟩ := pr_get hC hx
  have hcm := List.mem_of_getElem? hc
  obtain ⟨o1, o2, o3, o4, o5, o6, o7, o8⟩ := g.ok c hcm
  have fc := g.fin c hcm
  unfold Cl.fin at fc
  have e : leaC H us k ≤ c.s := by
    cases k with
    | zero => exact o1
    | succ k =>
      have hk := (List.getElem?_eq_some_iff.mp hx).1
      have hx' : us[k]? = some us[k] := List.getElem?_eq_getElem (by omega)
      obtain ⟨d, hd, b', u', e', hb', _⟩ := pr_get hC hx'
      show cEn H (us.getD k .non) ≤ _
      rw [List.getD_eq_getElem?_getD, hx', Option.getD_some, e', cEn_tup hb']
      have h1 := (List.getElem?_eq_some_iff.mp hd)
      have h2 := (List.getElem?_eq_some_iff.mp hc)
      have := List.pairwise_iff_getElem.mp g.ap k (k + 1) h1.1 h2.1 (Nat.lt_succ_self k)
      rw [h1.2, h2.2] at this
      exact this
  rw [cOk_tup hb]
  have f : fC (.int c.s) (.int c.n) (.int c.fi) (.int c.fo) = true := by
    show (((decide (0 ≤ c.s) && decide (c.s ≤ 10000)) && (decide (1 ≤ c.n) && decide (c.n ≤ 10000))) && ((decide (0 ≤ c.fi) && decide (c.fi ≤ c.n)) && (decide (0 ≤ c.fo) && decide (c.fo ≤ c.n - c.fi)))) = true
    rw [decide_eq_true o1, decide_eq_true (by omega), decide_eq_true o3, decide_eq_true (by omega), decide_eq_true o5, decide_eq_true (by omega), decide_eq_true o6, decide_eq_true (by omega)]
    rfl
  rw [f, decide_eq_true (show leaC H us k ≤ inI (.int c.s) from e)]
  cases ad with
  | false => rfl
  | true =>
    obtain ⟨h1, h2, h3⟩ := (aj c hcm).1 rfl
    rw [h1] at hu
    cases hu
    show (true && ((!true || (true && (decide (c.fi = 0) && decide (c.fo = 0)))) && true)) = true
    rw [h2, h3]
    rfl
theorem ClOut.same {H : Hp} {ad : Bool} {v : V} {p : Option Nat} (h : ClOut H ad v none) (k : ClOut H ad v (some p)) : False := by
  obtain ⟨a, xs, rfl, ha, hl, hb⟩ := h
  cases p with
  | none =>
    have := k a xs rfl ha
    omega
  | some i =>
    obtain ⟨a', xs', e, ha', _, x, hx, hf, _⟩ := k
    cases e
    rw [ha] at ha'
    cases ha'
    have := hb i x hx
    rw [hf] at this
    cases this
theorem four_of {len : Nat} {B : Int} {k : Ask} (h : AskOk len B k) (w : k.word ∈ ([("lift" : Str), ("place" : Str), ("ripple out" : Str), ("ripple in" : Str)] : List Str)) : k.four := by
  have no : ∀ {x : Str}, x ∈ ([("lift" : Str), ("place" : Str), ("ripple out" : Str), ("ripple in" : Str)] : List Str) → x ≠ "lift" → x ≠ "place" → x ≠ "ripple out" → x ≠ "ripple in" → False := fun {x} h a b c d => by
    simp only [List.mem_cons, List.not_mem_nil, or_false] at h
    rcases h with h | h | h | h
    · exact a h
    · exact b h
    · exact c h
    · exact d h
  cases k with
  | lift a b => exact ⟨h.1, h.2.1⟩
  | place c => exact h.1
  | rout a b => exact ⟨h.1, h.2.1⟩
  | rin m n => exact ⟨h.1, h.2.2⟩
  | cut m => exact (no w (show ("cut" : Str) ≠ "lift" by decide +kernel) (show ("cut" : Str) ≠ "place" by decide +kernel) (show ("cut" : Str) ≠ "ripple out" by decide +kernel) (show ("cut" : Str) ≠ "ripple in" by decide +kernel)).elim
  | join m => exact (no w (show ("join" : Str) ≠ "lift" by decide +kernel) (show ("join" : Str) ≠ "place" by decide +kernel) (show ("join" : Str) ≠ "ripple out" by decide +kernel) (show ("join" : Str) ≠ "ripple in" by decide +kernel)).elim
  | move p d => exact (no w (show ("move" : Str) ≠ "lift" by decide +kernel) (show ("move" : Str) ≠ "place" by decide +kernel) (show ("move" : Str) ≠ "ripple out" by decide +kernel) (show ("move" : Str) ≠ "ripple in" by decide +kernel)).elim
  | trim p s n => exact (no w (show ("trim" : Str) ≠ "lift" by decide +kernel) (show ("trim" : Str) ≠ "place" by decide +kernel) (show ("trim" : Str) ≠ "ripple out" by decide +kernel) (show ("trim" : Str) ≠ "ripple in" by decide +kernel)).elim
theorem four_cut {k : Ask} {cs : List Cl} {w : Str} {n : Int} (h : k.four) (e : lineC k cs = some (.err w n)) : w = "cut" := by
  cases k with
  | lift a b => exact lift_word2 e
  | place c => exact place_word e
  | rout a b => exact rout_word e
  | rin m n => exact rin_word e
  | cut m => exact h.elim
  | join p => exact h.elim
  | move p d => exact h.elim
  | trim p s n => exact h.elim
/-- the clips behind keep what a layer may hold -/
theorem line_adj {k : Ask} {cs ds : List Cl} {ad : Bool} (hk : k.four) (aj : ∀ c ∈ cs, AdjOk ad c) (ak : ∀ c, k = .place c → AdjOk ad c) (h : lineC k cs = some (.ok ds)) : ∀ d ∈ ds, AdjOk ad d := by
  have half : ∀ {m : Int} {c : Cl}, AdjOk ad c → ∀ d ∈ c.halves m, AdjOk ad d := fun {m c} a d hd => by
    unfold Cl.halves at hd
    split at hd
    · simp only [List.mem_cons, List.not_mem_nil, or_false] at hd
      rcases hd with rfl | rfl
      · exact ⟨fun h => ⟨(a.1 h).1, (a.1 h).2.1, rfl⟩, a.2⟩
      · exact ⟨fun h => ⟨(a.1 h).1, rfl, (a.1 h).2.2⟩, a.2⟩
    · rw [List.mem_singleton.mp hd]
      exact a
  have spl : ∀ {m : Int} {xs ys : List Cl}, (∀ c ∈ xs, AdjOk ad c) → splitC m xs = some ys → ∀ d ∈ ys, AdjOk ad d := fun {m xs ys} a e d hd => by
    obtain ⟨_, rfl⟩ := split_not_bad e
    obtain ⟨c, hc, hd⟩ := List.mem_flatMap.mp hd
    exact half (a c hc) d hd
  have lif : ∀ {x y : Int} {ys : List Cl}, liftC x y cs = .ok ys → ∀ d ∈ ys, AdjOk ad d := fun {x y ys} e d hd => by
    unfold liftC at e
    split at e
    · cases e
    · rename_i d1 h1
      split at e
      · cases e
      · rename_i d2 h2
        cases e
        exact spl (spl aj h1) h2 d (List.mem_filter.mp hd).1
  have lat : ∀ {m n : Int} {xs : List Cl}, (∀ c ∈ xs, AdjOk ad c) → ∀ d ∈ laterC m n xs, AdjOk ad d := fun {m n xs} a d hd => by
    obtain ⟨c, hc, rfl⟩ := List.mem_map.mp hd
    split
    · exact a c hc
    · exact a c hc
  cases k with
  | lift a b =>
    simp only [lineC, Option.some.injEq] at h
    exact lif h
  | rout a b =>
    cases e : liftC a b cs with
    | err w n =>
      simp only [lineC, e, Option.some.injEq] at h
      cases h
    | ok es =>
      simp only [lineC, e, Option.some.injEq, TL.ok.injEq] at h
      subst h
      exact lat (lif e)
  | rin m n =>
    cases e : splitC m cs with
    | none =>
      simp only [lineC, e, Option.some.injEq] at h
      cases h
    | some es =>
      simp only [lineC, e, Option.some.injEq, TL.ok.injEq] at h
      subst h
      exact lat (spl aj e)
  | place c =>
    cases e : liftC c.s c.fin cs with
    | err w n =>
      simp only [lineC, e, Option.some.injEq] at h
      cases h
    | ok es =>
      cases e2 : putC c es with
      | none =>
        simp only [lineC, e, e2] at h
        cases h
      | some fs =>
        simp only [lineC, e, e2, Option.map_some, Option.some.injEq, TL.ok.injEq] at h
        subst h
        intro d hd
        unfold putC at e2
        split at e2
        · cases e2
        · cases e2
          rcases List.mem_append.mp hd with hd | hd
          · rcases List.mem_append.mp hd with hd | hd
            · exact lif e d (List.mem_filter.mp hd).1
            · rw [List.mem_singleton.mp hd]
              exact ak c rfl
          · exact lif e d (List.mem_filter.mp hd).1
  | cut m => exact hk.elim
  | join p => exact hk.elim
  | move p d => exact hk.elim
  | trim p s n => exact hk.elim
theorem place_fin {len : Nat} {B : Int} {k : Ask} (h : AskOk len B k) : ∀ c, k = .place c → c.fin ≤ B + 402 := fun c e => by
  subst e
  have h1 := h.1.n2
  have h2 := h.2
  unfold Cl.fin
  omega
/-- a promise read for fewer calls -/
theorem FnOk.less {P : Program} {w : World} {K : PySem.W.Frag} {mg : Str → Option Value} {base : Heap} {CX : CXT} {k : Nat} {f : Addr} {fd : FuncData} {ps : List Str} {sp sp' : Sp} (F : FnOk P w K mg base CX k f fd ps sp)
    (h : ∀ vs H Q E, sp' vs H Q E → sp vs H Q E) : FnOk P w K mg base CX k f fd ps sp' :=
  ⟨fun vs H Q E z => F.len vs H Q E (h _ _ _ _ z), fun A outer s H args us vs Q E hr he hb hv hs => F.run A outer s H args us vs Q E hr he hb hv (h _ _ _ _ hs)⟩
def Def.less {P : Program} {w : World} {K : PySem.W.Frag} {mg : Str → Option Value} {base : Heap} {CX : CXT} {x : Str} {k : Nat} {ps : List Str} {sp sp' : Sp} (D : Def P w K mg base CX x k ps sp)
    (h : ∀ vs H Q E, sp' vs H Q E → sp vs H Q E) : Def P w K mg base CX x k ps sp' := ⟨D.f, D.fd, FnOk.less D.ok h, D.mgf, D.kp, D.b⟩
theorem end_less {K : PySem.W.Frag} (vs : List V) (H : Hp) (Q : VK) (E : XK) (h : spEnd K vs H Q E) : spEnd27 K vs H Q E := by
  obtain ⟨cv, c, rfl, ⟨a, u, rfl, ha, hu⟩, q⟩ := h
  exact ⟨a, c.s, c.n, u, _, _, rfl, ha, q⟩
theorem TellsL.iff {P R : Option Pa → Int → Prop} {q : Option (Option Pa × Int)} (h : TellsL P q) (e : ∀ p l, R p l ↔ P p l) : TellsL R q := by
  match q, h with
  | none, h => exact fun p l z => h p l ((e p l).mp z)
  | some (p, l), h => exact (e p l).mpr h
theorem tells_none {P : Option Pa → Int → Prop} (h : ∀ p l, ¬ P p l) : TellsL P none := h

abbrev s_has_form_paints : Stmt := top 20
theorem sc_has_form_paints : FnScope ["paint", "value", "first", "second", "size", "are_values"] ["paint"] (defScope s_has_form_paints) := ⟨rfl, rfl, rfl, by decide +kernel, rfl, by decide +kernel, by decide +kernel⟩
/-- the items of a paint's tuple, whatever stands there as its picture -/
def formB : List V → Bool
  | [w, x] => if isW "solid" w then numIn 0 255 x else isW "picture" w
  | [w, a, b, c] => if isW "steps" w then (numIn 0 255 a && numIn 0 255 b) && numIn 1 12 c else false
  | _ => false
def formV (H : Hp) : V → Bool
  | .ref a => match H a with
    | some (.tup xs) => formB xs
    | _ => false
  | _ => false
theorem formV_tup {H : Hp} {a : Addr} {xs : List V} (h : H a = some (.tup xs)) : formV H (.ref a) = formB xs := by
  simp only [formV, h]
theorem formV_no {H : Hp} {v : V} {T : String} (k : Kn H v T) (h : isA T "tuple" = false) : formV H v = false := by
  cases k with
  | tup h1 => exact absurd h (by decide +kernel)
  | lst h1 => simp only [formV, h1]
  | _ => rfl
def spFormP (K : PySem.W.Frag) : Sp := fun vs H Q _ => ∃ v m, vs = [v] ∧ Deep m 1 H v ∧ Q (.bl (formV H v)) H
theorem ok_has_form_paints {f : Addr} {fd : FuncData} (F : Fun K "_has_form" "_has_form" s_has_form_paints f fd) (T : Txt K mg) (D_is_number : Def P w K mg base CX0 "is_number" 2 ["value", "least", "most"] spNumber) : FnOk P w K mg base CX0 3 f fd ["paint"] (spFormP K) := by
  refine F.ok sc_has_form_paints (fun vs H Q E h => ?_) (fun cdv A outer s H vs Q E hr h => ?_)
  · obtain ⟨v, m, rfl, _⟩ := h
    rfl
  · obtain ⟨v, m, rfl, dp, q⟩ := h
    obtain ⟨T', kn⟩ := dp.kn
    refine ⟨_, (pss_cons (ps_if (pt_not (pt_val (pe_callB (kisi K) (by rfl) T.isinstance_ bt_isinstance (pa_cons (pv 0) (pa_cons (pe_bltn (v := .ty "tuple") (by rfl) T.tuple_ bt_tuple rfl) pa_nil)))))
        (pss_one (ps_ret pe_bl))
        pss_nil)
      (pss_one (ps_match (pv 0) (pcs_seq K rfl sc_has_form_paints.nd (pms_word hr.units (pms_cap (i := 1) rfl (by first | exact Or.inl rfl | exact Or.inr rfl) pms_nil))
          (pss_one (ps_ret (pe_call D_is_number.ok (hr.mono (by decide)) rfl D_is_number.mgf D_is_number.kp D_is_number.b .nil pass0 (pa_cons (pv 1) (pa_cons pe_int (pa_cons (pe_glob (v := .int 255) rfl T.VALUE_MOST_.choose_spec ⟨_, rfl⟩) pa_nil))))))
          (pcs_seq K rfl sc_has_form_paints.nd (pms_word hr.units (pms_wild pms_nil))
          (pss_one (ps_ret pe_bl))
          (pcs_seq K rfl sc_has_form_paints.nd (pms_word hr.units (pms_cap (i := 2) rfl (by first | exact Or.inl rfl | exact Or.inr rfl) (pms_cap (i := 3) rfl (by first | exact Or.inl rfl | exact Or.inr rfl) (pms_cap (i := 4) rfl (by first | exact Or.inl rfl | exact Or.inr rfl) pms_nil))))
          (pss_cons (ps_set (i := 5) sc_has_form_paints.nd rfl (by first | exact Or.inl rfl | exact Or.inr rfl) (pe_and (pe_call D_is_number.ok (hr.mono (by decide)) rfl D_is_number.mgf D_is_number.kp D_is_number.b .nil pass0 (pa_cons (pv 2) (pa_cons pe_int (pa_cons (pe_glob (v := .int 255) rfl T.VALUE_MOST_.choose_spec ⟨_, rfl⟩) pa_nil)))) (pe_one (pe_call D_is_number.ok (hr.mono (by decide)) rfl D_is_number.mgf D_is_number.kp D_is_number.b .nil pass0 (pa_cons (pv 3) (pa_cons pe_int (pa_cons (pe_glob (v := .int 255) rfl T.VALUE_MOST_.choose_spec ⟨_, rfl⟩) pa_nil)))))))
          (pss_one (ps_ret (pe_and (pv 5) (pe_one (pe_call D_is_number.ok (hr.mono (by decide)) rfl D_is_number.mgf D_is_number.kp D_is_number.b .nil pass0 (pa_cons (pv 4) (pa_cons pe_int (pa_cons (pe_glob (v := .int 12) rfl T.STEP_MOST_.choose_spec ⟨_, rfl⟩) pa_nil)))))))))
          (pcs_else (pss_one (ps_ret pe_bl))))))))), ?_⟩
    refine ⟨v, rfl, v, _, _, _, _, rfl, .ty _, kn.ty, kit_ty (kit_tuple kn), _, rfl, ?_⟩
    cases ct : isA T' "tuple" with
    | false =>
      rw [formV_no kn ct] at q
      exact iteT q
    | true =>
      obtain ⟨a, xs, rfl, ha⟩ := kn.asTup ct
      rw [formV_tup ha] at q
      refine iteF ?_
      have px := (dp.at ha).2
      refine ⟨_, rfl, a, xs, rfl, SqT.of ha, ?_⟩
      match xs, ha, px, q with
      | [w, x], ha, px, q =>
        obtain ⟨T0, k0⟩ := px w (by simp)
        obtain ⟨T1, k1⟩ := px x (by simp)
        refine lenY rfl ?_
        refine ⟨w, _, T0, rfl, k0, ?_⟩
        cases c : isW "solid" w with
        | true =>
          refine iteT ?_
          refine ⟨x, _, rfl, rfl, ?_⟩
          refine ⟨_, rfl, x, 0, 255, T1, rfl, k1, ?_⟩
          simp only [formB, c, if_true] at q
          exact q
        | false =>
          simp only [formB, c] at q
          refine iteF ?_
          refine ⟨a, _, rfl, SqT.of ha, lenY rfl ?_⟩
          refine ⟨w, _, T0, rfl, k0, ?_⟩
          cases c2 : isW "picture" w with
          | true =>
            rw [c2] at q
            refine iteT ?_
            exact ⟨x, _, rfl, rfl, q⟩
          | false =>
            rw [c2] at q
            refine iteF ?_
            exact ⟨a, _, rfl, SqT.of ha, lenN (by show 2 ≠ 4; decide) q⟩
      | [w, x, y, z], ha, px, q =>
        obtain ⟨T0, k0⟩ := px w (by simp)
        obtain ⟨T1, k1⟩ := px x (by simp)
        obtain ⟨T2, k2⟩ := px y (by simp)
        obtain ⟨T3, k3⟩ := px z (by simp)
        refine lenN (by show 4 ≠ 2; decide) ?_
        refine ⟨a, _, rfl, SqT.of ha, lenN (by show 4 ≠ 2; decide) ?_⟩
        refine ⟨a, _, rfl, SqT.of ha, lenY rfl ?_⟩
        refine ⟨w, _, T0, rfl, k0, ?_⟩
        cases c : isW "steps" w with
        | true =>
          simp only [formB, c, if_true] at q
          refine iteT ?_
          refine ⟨x, _, rfl, y, _, rfl, z, _, rfl, rfl, ?_⟩
          refine ⟨_, rfl, x, 0, 255, T1, rfl, k1, _, rfl, ?_⟩
          cases c1 : numIn 0 255 x with
          | false =>
            rw [c1, Bool.false_and, Bool.false_and] at q
            exact iteF ⟨_, rfl, _, rfl, iteF q⟩
          | true =>
            rw [c1, Bool.true_and] at q
            refine iteT ?_
            refine ⟨_, rfl, y, 0, 255, T2, rfl, k2, ?_⟩
            cases c2 : numIn 0 255 y with
            | false =>
              rw [c2, Bool.false_and] at q
              exact ⟨_, rfl, _, rfl, iteF q⟩
            | true =>
              rw [c2, Bool.true_and] at q
              refine ⟨_, rfl, _, rfl, iteT ?_⟩
              exact ⟨_, rfl, z, 1, 12, T3, rfl, k3, q⟩
        | false =>
          simp only [formB, c] at q
          refine iteF ?_
          exact q
      | [], ha, px, q =>
        exact lenN (by simp only [List.length_cons, List.length_nil]; omega) ⟨a, _, rfl, SqT.of ha, lenN (by simp only [List.length_cons, List.length_nil]; omega) ⟨a, _, rfl, SqT.of ha, lenN (by simp only [List.length_cons, List.length_nil]; omega) q⟩⟩
      | [_], ha, px, q =>
        exact lenN (by simp only [List.length_cons, List.length_nil]; omega) ⟨a, _, rfl, SqT.of ha, lenN (by simp only [List.length_cons, List.length_nil]; omega) ⟨a, _, rfl, SqT.of ha, lenN (by simp only [List.length_cons, List.length_nil]; omega) q⟩⟩
      | [_, _, _], ha, px, q =>
        exact lenN (by simp only [List.length_cons, List.length_nil]; omega) ⟨a, _, rfl, SqT.of ha, lenN (by simp only [List.length_cons, List.length_nil]; omega) ⟨a, _, rfl, SqT.of ha, lenN (by simp only [List.length_cons, List.length_nil]; omega) q⟩⟩
      | _ :: _ :: _ :: _ :: _ :: _, ha, px, q =>
        exact lenN (by simp only [List.length_cons, List.length_nil]; omega) ⟨a, _, rfl, SqT.of ha, lenN (by simp only [List.length_cons, List.length_nil]; omega) ⟨a, _, rfl, SqT.of ha, lenN (by simp only [List.length_cons, List.length_nil]; omega) q⟩⟩

abbrev s_check_paint : Stmt := top 19
theorem sc_check_paint : FnScope ["paint"] ["paint"] (defScope s_check_paint) := ⟨rfl, rfl, rfl, by decide +kernel, rfl, by decide +kernel, by decide +kernel⟩
theorem pa_deep {H : Hp} {v : V} {p : Pa} (h : PaV H v p) : Deep 4 1 H v := by
  cases p with
  | solid x =>
    obtain ⟨a, rfl, ha⟩ := h
    refine .tup ha (by show 2 ≤ 4; omega) fun y hy => ?_
    simp only [List.mem_cons, List.not_mem_nil, or_false] at hy
    rcases hy with rfl | rfl
    · exact .str
    · exact .int
  | steps f s z =>
    obtain ⟨a, rfl, ha⟩ := h
    refine .tup ha (by show 4 ≤ 4; omega) fun y hy => ?_
    simp only [List.mem_cons, List.not_mem_nil, or_false] at hy
    rcases hy with rfl | rfl | rfl | rfl
    · exact .str
    · exact .int
    · exact .int
    · exact .int
  | pic p =>
    obtain ⟨a, u, rfl, ha, b, va, ca, rfl, hb, _⟩ := h
    refine .tup ha (by show 2 ≤ 4; omega) fun y hy => ?_
    simp only [List.mem_cons, List.not_mem_nil, or_false] at hy
    rcases hy with rfl | rfl
    · exact .str
    · exact ⟨_, .tup hb⟩
theorem pa_form {H : Hp} {v : V} {p : Pa} {m : Int} (h : PaV H v p) (k : p.Ok m) : formV H v = true := by
  have e : ∀ (lo hi i : Int), numIn lo hi (.int i) = (decide (lo ≤ i) && decide (i ≤ hi)) := fun _ _ _ => rfl
  cases p with
  | solid x =>
    obtain ⟨a, rfl, ha⟩ := h
    rw [formV_tup ha]
    show (if isW "solid" (.str "solid") = true then numIn 0 255 (.int x) else isW "picture" (.str "solid")) = true
    rw [show isW "solid" (.str "solid") = true from by decide +kernel, if_pos rfl, e, decide_eq_true k.1, decide_eq_true k.2]
    rfl
  | steps f s z =>
    obtain ⟨a, rfl, ha⟩ := h
    obtain ⟨k1, k2, k3, k4, k5, k6⟩ := k
    rw [formV_tup ha]
    show (if isW "steps" (.str "steps") = true then (numIn 0 255 (.int f) && numIn 0 255 (.int s)) && numIn 1 12 (.int z) else false) = true
    rw [show isW "steps" (.str "steps") = true from by decide +kernel, if_pos rfl, e, e, e, decide_eq_true k1, decide_eq_true k2, decide_eq_true k3, decide_eq_true k4, decide_eq_true k5, decide_eq_true k6]
    rfl
  | pic p =>
    obtain ⟨a, u, rfl, ha, hu⟩ := h
    rw [formV_tup ha]
    show (if isW "solid" (.str "picture") = true then numIn 0 255 u else isW "picture" (.str "picture")) = true
    rw [show isW "solid" (.str "picture") = false from by decide +kernel, if_neg (by decide), show isW "picture" (.str "picture") = true from by decide +kernel]
def spGoodP : Sp := fun vs H Q _ => ∃ v p, vs = [v] ∧ PaV H v p ∧ p.Ok 12 ∧ ∀ H', Ex H H' → Q .non H'
theorem ok_check_paint {f : Addr} {fd : FuncData} (F : Fun K "check_paint" "check_paint" s_check_paint f fd) (T : Txt K mg) (D_has_form_paints : Def P w K mg base CX0 "has_form_paints" 3 ["paint"] (spFormP K)) (D_check_picture : Def P w K mg base CX0 "check_picture" 4 ["picture"] (spCheck K)) : FnOk P w K mg base CX0 5 f fd ["paint"] spGoodP := by
  refine F.ok sc_check_paint (fun vs H Q E h => ?_) (fun cdv A outer s H vs Q E hr h => ?_)
  · obtain ⟨v, p, rfl, _⟩ := h
    rfl
  · obtain ⟨v, p, rfl, hp, k, q⟩ := h
    refine ⟨_, (pss_cons (ps_if (pt_not (pt_val (pe_call D_has_form_paints.ok (hr.mono (by decide)) rfl D_has_form_paints.mgf D_has_form_paints.kp D_has_form_paints.b .nil pass0 (pa_cons (pv 0) pa_nil))))
        (pss_one ps_never)
        pss_nil)
      (pss_one (ps_if (pt_cmpR op_eq (pe_ix (kixT K) (pv 0) pe_int (fun _ _ => rfl)) pe_str (nomark _))
        (pss_one (ps_expr (pe_call D_check_picture.ok (hr.mono (by decide)) rfl D_check_picture.mgf D_check_picture.kp D_check_picture.b .nil pass0 (pa_cons (pe_ix (kixT K) (pv 0) pe_int (fun _ _ => rfl)) pa_nil))))
        pss_nil))), ?_⟩
    refine ⟨_, rfl, v, 4, rfl, pa_deep hp, _, rfl, ?_⟩
    rw [pa_form hp k]
    refine iteF ?_
    cases p with
    | solid x =>
      obtain ⟨a, rfl, ha⟩ := hp
      refine ⟨_, rfl, a, _, 0, _, rfl, rfl, SqT.of ha, rfl, rfl, _, rfl, ?_⟩
      exact iteW (by decide +kernel) (q _ (Ex.refl _))
    | steps f s z =>
      obtain ⟨a, rfl, ha⟩ := hp
      refine ⟨_, rfl, a, _, 0, _, rfl, rfl, SqT.of ha, rfl, rfl, _, rfl, ?_⟩
      exact iteW (by decide +kernel) (q _ (Ex.refl _))
    | pic p =>
      obtain ⟨a, u, rfl, ha, hu⟩ := hp
      refine ⟨_, rfl, a, _, 0, _, rfl, rfl, SqT.of ha, rfl, rfl, _, rfl, ?_⟩
      refine iteE (by decide +kernel) ?_
      exact ⟨_, rfl, a, _, 1, _, rfl, rfl, SqT.of ha, rfl, u, p, rfl, hu, k, fun H' e => q H' e⟩

abbrev s_has_form_clips : Stmt := top 32
theorem sc_has_form_clips : FnScope ["clip", "start", "length", "_", "fade_in", "fade_out"] ["clip"] (defScope s_has_form_clips) := ⟨rfl, rfl, rfl, by decide +kernel, rfl, by decide +kernel, by decide +kernel⟩
def formCV (H : Hp) : V → Bool
  | .ref a => match H a with
    | some (.tup [s, n, p, fi, fo]) => fC s n fi fo
    | _ => false
  | _ => false
theorem formCV_tup {H : Hp} {a : Addr} {s n p fi fo : V} (h : H a = some (.tup [s, n, p, fi, fo])) : formCV H (.ref a) = fC s n fi fo := by
  simp only [formCV, h]
theorem formCV_len {H : Hp} {a : Addr} {xs : List V} (h : H a = some (.tup xs)) (hl : xs.length ≠ 5) : formCV H (.ref a) = false := by
  match xs, hl with
  | [], _ => simp only [formCV, h]
  | [_], _ => simp only [formCV, h]
  | [_, _], _ => simp only [formCV, h]
  | [_, _, _], _ => simp only [formCV, h]
  | [_, _, _, _], _ => simp only [formCV, h]
  | [_, _, _, _, _], hl => exact absurd rfl hl
  | _ :: _ :: _ :: _ :: _ :: _ :: _, _ => simp only [formCV, h]
theorem formCV_no {H : Hp} {v : V} {T : String} (k : Kn H v T) (h : isA T "tuple" = false) : formCV H v = false := by
  cases k with
  | tup h1 => exact absurd h (by decide +kernel)
  | lst h1 => simp only [formCV, h1]
  | _ => rfl
def spFormC : Sp := fun vs H Q _ => ∃ v m, vs = [v] ∧ Deep m 1 H v ∧ Q (.bl (formCV H v)) H
theorem ok_has_form_clips {f : Addr} {fd : FuncData} (F : Fun K "_has_form" "_has_form" s_has_form_clips f fd) (T : Txt K mg) (D_is_number : Def P w K mg base CX0 "is_number" 2 ["value", "least", "most"] spNumber) : FnOk P w K mg base CX0 3 f fd ["clip"] spFormC := by
  refine F.ok sc_has_form_clips (fun vs H Q E h => ?_) (fun cdv A outer s H vs Q E hr h => ?_)
  · obtain ⟨v, m, rfl, _⟩ := h
    rfl
  · obtain ⟨v, m, rfl, dp, q⟩ := h
    obtain ⟨T', kn⟩ := dp.kn
    refine ⟨_, (pss_cons (ps_if (PW.pt (pw_or (pt_not (pt_val (pe_callB (kisi K) (by rfl) T.isinstance_ bt_isinstance (pa_cons (pv 0) (pa_cons (pe_bltn (v := .ty "tuple") (by rfl) T.tuple_ bt_tuple rfl) pa_nil))))) (pw_or1 (pt_cmpR op_ne (pe_callB (klen K) (by rfl) T.len_ PySem.boot_len (pa_cons (pv 0) pa_nil)) pe_int (nomark _)))))
        (pss_one (ps_ret pe_bl))
        pss_nil)
      (pss_cons (ps_asg (pv 0) (kpgT K (n := 5) rfl (pgs_cons (pg_name (i := 1) sc_has_form_clips.nd rfl (by first | exact Or.inl rfl | exact Or.inr rfl)) (pgs_cons (pg_name (i := 2) sc_has_form_clips.nd rfl (by first | exact Or.inl rfl | exact Or.inr rfl)) (pgs_cons (pg_name (i := 3) sc_has_form_clips.nd rfl (by first | exact Or.inl rfl | exact Or.inr rfl)) (pgs_cons (pg_name (i := 4) sc_has_form_clips.nd rfl (by first | exact Or.inl rfl | exact Or.inr rfl)) (pgs_cons (pg_name (i := 5) sc_has_form_clips.nd rfl (by first | exact Or.inl rfl | exact Or.inr rfl)) pgs_nil)))))))
      (pss_cons (ps_if (PW.pt (pw_or (pt_not (pt_val (pe_call D_is_number.ok (hr.mono (by decide)) rfl D_is_number.mgf D_is_number.kp D_is_number.b .nil pass0 (pa_cons (pv 1) (pa_cons pe_int (pa_cons (pe_glob (v := .int 10000) rfl T.START_MOST_.choose_spec ⟨_, rfl⟩) pa_nil)))))) (pw_or1 (pt_not (pt_val (pe_call D_is_number.ok (hr.mono (by decide)) rfl D_is_number.mgf D_is_number.kp D_is_number.b .nil pass0 (pa_cons (pv 2) (pa_cons pe_int (pa_cons (pe_glob (v := .int 10000) rfl T.LENGTH_MOST_.choose_spec ⟨_, rfl⟩) pa_nil)))))))))
        (pss_one (ps_ret pe_bl))
        pss_nil)
      (pss_one (ps_ret (pe_and (pe_call D_is_number.ok (hr.mono (by decide)) rfl D_is_number.mgf D_is_number.kp D_is_number.b .nil pass0 (pa_cons (pv 4) (pa_cons pe_int (pa_cons (pv 2) pa_nil)))) (pe_one (pe_call D_is_number.ok (hr.mono (by decide)) rfl D_is_number.mgf D_is_number.kp D_is_number.b .nil pass0 (pa_cons (pv 5) (pa_cons pe_int (pa_cons (pe_op op_sub (pv 2) (pv 4)) pa_nil))))))))))), ?_⟩
    refine ⟨v, rfl, v, _, _, _, _, rfl, .ty _, kn.ty, kit_ty (kit_tuple kn), _, rfl, ?_⟩
    cases ct : isA T' "tuple" with
    | false =>
      rw [formCV_no kn ct] at q
      exact iteT (iteT q)
    | true =>
      obtain ⟨a, xs, rfl, ha⟩ := kn.asTup ct
      have px := (dp.at ha).2
      refine iteF ?_
      refine ⟨_, rfl, a, xs, rfl, .inr (SqT.of ha), rfl, _, rfl, ?_⟩
      by_cases h5 : xs.length = 5
      · refine iteDn (congrArg V.int (by omega)) ?_
        match xs, h5, ha, px with
        | [s, n, p, fi, fo], _, ha, px =>
          rw [formCV_tup ha] at q
          obtain ⟨T0, k0⟩ := px s (by simp)
          obtain ⟨T1, k1⟩ := px n (by simp)
          obtain ⟨T3, k3⟩ := px fi (by simp)
          obtain ⟨T4, k4⟩ := px fo (by simp)
          unfold fC at q
          refine ⟨_, rfl, a, _, rfl, SqT.of ha, rfl, _, _, rfl, _, _, rfl, _, _, rfl, _, _, rfl, _, _, rfl, rfl, ?_⟩
          refine ⟨_, rfl, s, 0, 10000, T0, rfl, k0, _, rfl, ?_⟩
          cases c0 : numIn 0 10000 s with
          | false =>
            rw [c0, Bool.false_and, Bool.false_and] at q
            exact iteT (iteT q)
          | true =>
            rw [c0, Bool.true_and] at q
            refine iteF ?_
            refine ⟨_, rfl, n, 1, 10000, T1, rfl, k1, _, rfl, ?_⟩
            cases c1 : numIn 1 10000 n with
            | false =>
              rw [c1, Bool.false_and] at q
              exact iteT q
            | true =>
              rw [c1, Bool.true_and] at q
              refine iteF ?_
              cases n with
              | int b =>
                refine ⟨_, rfl, _, rfl, fi, 0, b, T3, rfl, k3, _, rfl, ?_⟩
                cases c3 : numIn 0 b fi with
                | false =>
                  have c3' : numIn 0 (inI (.int b)) fi = false := c3
                  rw [c3', Bool.false_and] at q
                  exact iteF q
                | true =>
                  have c3' : numIn 0 (inI (.int b)) fi = true := c3
                  rw [c3', Bool.true_and] at q
                  refine iteT ?_
                  cases fi with
                  | int c => exact ⟨_, rfl, _, rfl, _, rfl, _, _, rfl, rfl, fo, 0, b - c, T4, rfl, k4, q⟩
                  | _ => cases c3
              | _ => cases c1
      · rw [formCV_len ha h5] at q
        exact iteNn (fun z => h5 (by have := V.int.inj z; omega)) q

abbrev s_is_bare : Stmt := top 34
theorem sc_is_bare : FnScope ["clip"] ["clip"] (defScope s_is_bare) := ⟨rfl, rfl, rfl, by decide +kernel, rfl, by decide +kernel, by decide +kernel⟩
theorem isNon_dec {v : V} : isNon v = decide (v = .non) := by
  cases v with
  | non => rfl
  | _ => exact (decide_eq_false (fun e => by cases e)).symm
def spBare (K : PySem.W.Frag) : Sp := fun vs H Q _ => ∃ a s n p c d, vs = [.ref a] ∧ H a = some (.tup [s, n, p, .int c, .int d]) ∧ Q (.bl (bCl p (.int c) (.int d))) H
theorem ok_is_bare {f : Addr} {fd : FuncData} (F : Fun K "_is_bare" "_is_bare" s_is_bare f fd) (T : Txt K mg) : FnOk P w K mg base CX0 1 f fd ["clip"] (spBare K) := by
  refine F.ok sc_is_bare (fun vs H Q E h => ?_) (fun cdv A outer s H vs Q E hr h => ?_)
  · obtain ⟨a, s, n, p, c, d, rfl, _⟩ := h
    rfl
  · obtain ⟨a, s, n, p, c, d, rfl, ha, q⟩ := h
    refine ⟨_, (pss_one (ps_ret (pe_and (pe_cmpR op_isN (pe_ix (kixT K) (pv 0) pe_int (fun _ _ => rfl)) pe_non (nomark _)) (pe_and (pe_cmpR op_eq (pe_ix (kixT K) (pv 0) pe_int (fun _ _ => rfl)) pe_int (nomark _)) (pe_one (pe_cmpR op_eq (pe_ix (kixT K) (pv 0) pe_int (fun _ _ => rfl)) pe_int (nomark _))))))), ?_⟩
    refine ⟨_, rfl, a, _, 2, p, rfl, rfl, SqT.of ha, rfl, rfl, _, rfl, ?_⟩
    unfold bCl at q
    rw [isNon_dec] at q
    refine ite2 (fun c1 => ?_) (fun c1 => ?_)
    · rw [c1, Bool.true_and] at q
      refine ⟨_, rfl, a, _, 3, _, rfl, rfl, SqT.of ha, rfl, rfl, _, rfl, ?_⟩
      have e3 : decide (inI (.int c) = 0) = decide (V.int c = V.int 0) := decide_eq_decide.mpr ⟨fun e => congrArg V.int e, fun e => V.int.inj e⟩
      rw [e3] at q
      refine ite2 (fun c2 => ?_) (fun c2 => ?_)
      · rw [c2, Bool.true_and] at q
        refine ⟨_, rfl, a, _, 4, _, rfl, rfl, SqT.of ha, rfl, rfl, ?_⟩
        have e4 : decide (inI (.int d) = 0) = decide (V.int d = V.int 0) := decide_eq_decide.mpr ⟨fun e => congrArg V.int e, fun e => V.int.inj e⟩
        rw [e4] at q
        exact q
      · rw [eq_false_of_ne_true c2, Bool.false_and] at q
        exact q
    · rw [eq_false_of_ne_true c1, Bool.false_and] at q
      exact q

abbrev s_end_of : Stmt := top 31
theorem sc_end_of : FnScope ["clip"] ["clip"] (defScope s_end_of) := ⟨rfl, rfl, rfl, by decide +kernel, rfl, by decide +kernel, by decide +kernel⟩
theorem ok_end_of {f : Addr} {fd : FuncData} (F : Fun K "end_of" "end_of" s_end_of f fd) (T : Txt K mg) : FnOk P w K mg base CX0 1 f fd ["clip"] (spEnd27 K) := by
  refine F.ok sc_end_of (fun vs H Q E h => ?_) (fun cdv A outer s H vs Q E hr h => ?_)
  · obtain ⟨a, s, n, p, x, y, rfl, _⟩ := h
    rfl
  · obtain ⟨a, s, n, p, x, y, rfl, ha, q⟩ := h
    refine ⟨_, (pss_one (ps_ret (pe_op op_add (pe_ix (kixT K) (pv 0) pe_int (fun _ _ => rfl)) (pe_ix (kixT K) (pv 0) pe_int (fun _ _ => rfl))))), ?_⟩
    exact ⟨_, rfl, a, _, 0, _, rfl, rfl, SqT.of ha, rfl, _, rfl, a, _, 1, _, rfl, rfl, SqT.of ha, rfl, _, _, rfl, rfl, q⟩

abbrev s_clip_at : Stmt := top 28
theorem sc_clip_at : FnScope ["clips", "frame", "place", "clip"] ["clips", "frame"] (defScope s_clip_at) := ⟨rfl, rfl, rfl, by decide +kernel, rfl, by decide +kernel, by decide +kernel⟩
theorem ok_clip_at {f : Addr} {fd : FuncData} (F : Fun K "clip_at" "clip_at" s_clip_at f fd) (T : Txt K mg) (D_end27 : Def P w K mg base CX0 "end_of" 1 ["clip"] (spEnd27 K)) : FnOk P w K mg base CX0 2 f fd ["clips", "frame"] (spClipAt K)   := by
  have D_end_of := D_end27.less end_less
  refine F.ok sc_clip_at (fun vs H Q E h => ?_) (fun cdv A outer s H vs Q E hr h => ?_)
  · obtain ⟨a, us, cs, f, rfl, _⟩ := h
    rfl
  · obtain ⟨a, us, cs, f, rfl, hU, hC, q⟩ := h
    refine ⟨_, (pss_cons (ps_for PassesOwn.never rfl (kpiET K (by rfl) T.enumerate_ (pa_cons (pv 0) pa_nil)) (kpgT K (n := 2) rfl (pgs_cons (pg_name (i := 2) sc_clip_at.nd rfl (by first | exact Or.inl rfl | exact Or.inr rfl)) (pgs_cons (pg_name (i := 3) sc_clip_at.nd rfl (by first | exact Or.inl rfl | exact Or.inr rfl)) pgs_nil)))
        (pss_one (ps_if (pt_chain op_le op_lt (pe_ix (kixT K) (pv 3) pe_int (fun _ _ => rfl)) (pv 1) (pe_call D_end_of.ok (hr.mono (by decide)) rfl D_end_of.mgf D_end_of.kp D_end_of.b .nil pass0 (pa_cons (pv 3) pa_nil)))
          (pss_one (ps_ret (pv 2)))
          pss_nil)))
      (pss_one (ps_ret pe_non))), ?_⟩
    have hul := hC.length
    refine ⟨_, rfl, a, us, rfl, SqT.of hU, ?_⟩
    refine for_ET (xs := us) (fun i σ H' => Ex H H' ∧ (∃ x y, σ = [some (.ref a), some (.int f), x, y]) ∧ ∀ j < i, ∀ d, cs[j]? = some d → ¬ d.here f) ⟨Ex.refl _, ⟨_, _, rfl⟩, fun j hj => absurd hj (Nat.not_lt_zero _)⟩ (fun i σ H' _ p => SqT.of (p.1 _ _ hU)) ?_ ?_
    · rintro i v σ H1 t hv ⟨e1, ⟨x, y, rfl⟩, hno⟩ ht
      obtain ⟨c, hc, hcv⟩ := pr_get hC hv
      have f1 := Ex.new (o := .tup [.int (i : Nat), v]) ht
      have k1 : upd H1 t (.tup [.int (i : Nat), v]) t = some (.tup [.int (i : Nat), v]) := upd_same
      generalize upd H1 t (.tup [.int (i : Nat), v]) = H2 at f1 k1 ⊢
      have e2 := e1.trans f1
      have hcv := hcv.tk (TK.ex e2)
      obtain ⟨ca, u, rfl, hca, hu⟩ := id hcv
      refine ⟨t, _, rfl, SqT.of k1, rfl, _, _, rfl, _, _, rfl, rfl, ?_⟩
      refine ⟨_, rfl, ca, _, _, _, rfl, rfl, SqT.of hca, rfl, _, rfl, _, _, rfl, rfl, _, rfl, ?_⟩
      have next : ¬ c.here f → Ex H H2 ∧ (∃ x y, [some (V.ref a), some (.int f), some (.int (i : Nat)), some (.ref ca)] = [some (.ref a), some (.int f), x, y]) ∧ ∀ j < i + 1, ∀ d, cs[j]? = some d → ¬ d.here f := fun no =>
        ⟨e2, ⟨_, _, rfl⟩, fun j hj d hd => by
          by_cases e : j = i
          · subst e
            rw [hc] at hd
            cases hd
            exact no
          · exact hno j (by omega) d hd⟩
      refine ite2 (fun c1 => ?_) (fun c1 => ⟨_, rfl, iteF (next fun z => c1 (decide_eq_true z.1))⟩)
      have c1 := of_decide_eq_true c1
      refine ⟨_, rfl, _, c, rfl, hcv, _, _, rfl, rfl, _, rfl, ?_⟩
      refine ite2 (fun c2 => ?_) (fun c2 => next fun z => c2 (decide_eq_true z.2))
      have c2 := of_decide_eq_true c2
      exact ⟨_, rfl, q (some i) H2 e2 ⟨c, hc, ⟨c1, c2⟩, hno⟩⟩
    · rintro σ H1 ⟨e1, ⟨x, y, rfl⟩, hno⟩
      refine q none H1 e1 fun c hc => ?_
      obtain ⟨j, hj⟩ := List.getElem?_of_mem hc
      exact hno j (by rw [hul]; exact (List.getElem?_eq_some_iff.mp hj).1) c hj

abbrev s_level_at : Stmt := top 29
theorem sc_level_at : FnScope ["clip", "frame", "start", "length", "_", "fade_in", "fade_out", "before", "behind"] ["clip", "frame"] (defScope s_level_at) := ⟨rfl, rfl, rfl, by decide +kernel, rfl, by decide +kernel, by decide +kernel⟩
theorem ok_level_at {f : Addr} {fd : FuncData} (F : Fun K "level_at" "level_at" s_level_at f fd) (T : Txt K mg) : FnOk P w K mg base CX0 1 f fd ["clip", "frame"] (spLevel K) := by
  refine F.ok sc_level_at (fun vs H Q E h => ?_) (fun cdv A outer s H vs Q E hr h => ?_)
  · obtain ⟨cv, c, m, f, rfl, _⟩ := h
    rfl
  · obtain ⟨cv, c, m, f, rfl, ⟨a, u, rfl, ha, hu⟩, k, hm, f0, f1, q⟩ := h
    have := k.s0
    have := k.s1
    have := k.n1
    have := k.n2
    have := k.fi0
    have := k.fo0
    have := k.fs
    unfold Cl.fin at f1
    refine ⟨_, (pss_cons (ps_asg (pv 0) (kpgT K (n := 5) rfl (pgs_cons (pg_name (i := 2) sc_level_at.nd rfl (by first | exact Or.inl rfl | exact Or.inr rfl)) (pgs_cons (pg_name (i := 3) sc_level_at.nd rfl (by first | exact Or.inl rfl | exact Or.inr rfl)) (pgs_cons (pg_name (i := 4) sc_level_at.nd rfl (by first | exact Or.inl rfl | exact Or.inr rfl)) (pgs_cons (pg_name (i := 5) sc_level_at.nd rfl (by first | exact Or.inl rfl | exact Or.inr rfl)) (pgs_cons (pg_name (i := 6) sc_level_at.nd rfl (by first | exact Or.inl rfl | exact Or.inr rfl)) pgs_nil)))))))
      (pss_cons (ps_set (i := 7) sc_level_at.nd rfl (by first | exact Or.inl rfl | exact Or.inr rfl) (pe_op op_sub (pv 1) (pv 2)))
      (pss_cons (ps_set (i := 8) sc_level_at.nd rfl (by first | exact Or.inl rfl | exact Or.inr rfl) (pe_op op_sub (pe_op op_sub (pv 3) (pv 7)) pe_int))
      (pss_cons (ps_if (pt_cmpR op_lt (pv 7) (pv 5) (nomark _))
        (pss_one (ps_ret (pe_op op_fdiv (pe_op op_mul (pe_glob (v := .int 256) rfl T.LEVEL_MOST_.choose_spec ⟨_, rfl⟩) (pe_op op_add (pv 7) pe_int)) (pe_op op_add (pv 5) pe_int))))
        pss_nil)
      (pss_cons (ps_if (pt_cmpR op_lt (pv 8) (pv 6) (nomark _))
        (pss_one (ps_ret (pe_op op_fdiv (pe_op op_mul (pe_glob (v := .int 256) rfl T.LEVEL_MOST_.choose_spec ⟨_, rfl⟩) (pe_op op_add (pv 8) pe_int)) (pe_op op_add (pv 6) pe_int))))
        pss_nil)
      (pss_one (ps_ret (pe_glob (v := .int 256) rfl T.LEVEL_MOST_.choose_spec ⟨_, rfl⟩)))))))), ?_⟩
    refine ⟨_, rfl, a, _, rfl, SqT.of ha, rfl, _, _, rfl, _, _, rfl, _, _, rfl, _, _, rfl, _, _, rfl, rfl, ?_⟩
    refine ⟨_, rfl, _, rfl, _, _, rfl, rfl, ?_⟩
    refine ⟨_, rfl, _, rfl, _, _, rfl, rfl, _, _, rfl, rfl, ?_⟩
    unfold Cl.lev at q
    refine ⟨_, rfl, _, rfl, _, _, rfl, rfl, _, rfl, ?_⟩
    refine ite2 (fun c1 => ?_) (fun c1 => ?_)
    · rw [if_pos (of_decide_eq_true c1)] at q
      exact ⟨_, rfl, _, _, rfl, rfl, _, _, rfl, rfl, .inl ⟨by decide, by decide⟩, _, rfl, _, _, rfl, rfl, _, _, rfl, rfl, ⟨by omega, by omega⟩, q⟩
    · rw [if_neg (fun z => c1 (decide_eq_true z))] at q
      refine ⟨_, rfl, _, rfl, _, _, rfl, rfl, _, rfl, ?_⟩
      refine ite2 (fun c2 => ?_) (fun c2 => ?_)
      · rw [if_pos (of_decide_eq_true c2)] at q
        exact ⟨_, rfl, _, _, rfl, rfl, _, _, rfl, rfl, .inl ⟨by decide, by decide⟩, _, rfl, _, _, rfl, rfl, _, _, rfl, rfl, ⟨by omega, by omega⟩, q⟩
      · rw [if_neg (fun z => c2 (decide_eq_true z))] at q
        exact q

abbrev s_lane : Stmt := top 30
theorem sc_lane : FnScope ["clips", "frame", "place", "clip"] ["clips", "frame"] (defScope s_lane) := ⟨rfl, rfl, rfl, by decide +kernel, rfl, by decide +kernel, by decide +kernel⟩
theorem ok_lane {f : Addr} {fd : FuncData} (F : Fun K "lane" "lane" s_lane f fd) (T : Txt K mg) (D_clip_at : Def P w K mg base CX0 "clip_at" 2 ["clips", "frame"] (spClipAt K)) (D_level_at : Def P w K mg base CX0 "level_at" 1 ["clip", "frame"] (spLevel K)) : FnOk P w K mg base CX0 3 f fd ["clips", "frame"] (spLane K) := by
  refine F.ok sc_lane (fun vs H Q E h => ?_) (fun cdv A outer s H vs Q E hr h => ?_)
  · obtain ⟨a, us, cs, f, rfl, _⟩ := h
    rfl
  · obtain ⟨a, us, cs, f, rfl, hU, hC, kC, q⟩ := h
    refine ⟨_, (pss_cons (ps_set (i := 2) sc_lane.nd rfl (by first | exact Or.inl rfl | exact Or.inr rfl) (pe_call D_clip_at.ok (hr.mono (by decide)) rfl D_clip_at.mgf D_clip_at.kp D_clip_at.b .nil pass0 (pa_cons (pv 0) (pa_cons (pv 1) pa_nil))))
      (pss_cons (ps_if (pt_cmpR op_isN (pv 2) pe_non (nomark _))
        (pss_one (ps_ret pe_non))
        pss_nil)
      (pss_cons (ps_set (i := 3) sc_lane.nd rfl (by first | exact Or.inl rfl | exact Or.inr rfl) (pe_ix (kixT K) (pv 0) (pv 2) (fun _ _ => rfl)))
      (pss_one (ps_ret (pe_tup (pa_cons (pe_ix (kixT K) (pv 3) pe_int (fun _ _ => rfl)) (pa_cons (pe_call D_level_at.ok (hr.mono (by decide)) rfl D_level_at.mgf D_level_at.kp D_level_at.b .nil pass0 (pa_cons (pv 3) (pa_cons (pv 1) pa_nil))) pa_nil)))))))), ?_⟩
    refine ⟨_, rfl, _, rfl, a, us, cs, f, rfl, hU, hC, fun o H1 e1 ho => ?_⟩
    refine ⟨_, rfl, rfl, _, rfl, ?_⟩
    cases o with
    | none =>
      refine iteD rfl ?_
      exact q none _ H1 e1 ho rfl
    | some i =>
      refine iteN (fun z => nomatch z) ?_
      obtain ⟨c, hc, hh, _⟩ := id ho
      obtain ⟨v, hv, hcv⟩ := pr_getR hC hc
      have hcv := hcv.tk (TK.ex e1)
      obtain ⟨ca, u, rfl, hca, hu⟩ := id hcv
      refine ⟨_, rfl, _, rfl, a, _, _, _, rfl, rfl, SqT.of (e1 _ _ hU), atI_nat hv, ?_⟩
      refine ⟨_, rfl, ca, _, _, _, rfl, rfl, SqT.of hca, rfl, ?_⟩
      refine ⟨_, rfl, _, rfl, _, c, 50000, f, rfl, hcv, kC.1 c (List.mem_of_getElem? hc), by decide, hh.1, hh.2, ?_⟩
      refine ⟨(by show 2 ≤ sizeLine; decide), fun t ht => ?_⟩
      have f1 := Ex.new (o := .tup [u, .int (c.lev f)]) ht
      exact q (some i) _ _ (e1.trans f1) ho ⟨c, t, u, hc, rfl, upd_same, hu.tk (TK.ex f1)⟩

abbrev s_FilmErr : Stmt := clsDef (top 1)
theorem sc_FilmErr : FnScope ["self", "word", "place"] ["self", "word", "place"] (defScope s_FilmErr) := ⟨rfl, rfl, rfl, by decide +kernel, rfl, by decide +kernel, by decide +kernel⟩
theorem ok_FilmErr {f : Addr} {fd : FuncData} (F : FunD K "__init__" "FilmError.__init__" (defArgs s_FilmErr) (defBody s_FilmErr) (defScope s_FilmErr) [.non] [] f fd) {D fD : Addr} (FT : FilmTxt K mg D fD) : FnOk P w K mg base CX0 1 f fd ["self", "word", "place"] (spErrInit K) := by
  refine F.ok sc_FilmErr (fun vs H Q E h => ?_) (fun cdv A outer s H vs Q E hr h => ?_)
  · obtain ⟨a, C, wd, p, rfl, _⟩ := h
    rfl
  · obtain ⟨a, C, wd, p, rfl, T, ha, nw, np, q⟩ := h
    refine ⟨_, pss_cons (ps_expr (pe_veinit rfl FT.ve FT.vi (pa_cons (pv 0) (pa_cons (pv 1) pa_nil)))) (pss_cons (ps_ost (pv 0) (pv 1)) (pss_one (ps_ost (pv 0) (pv 2)))), ?_⟩
    refine ⟨_, rfl, _, rfl, a, C, [wd], rfl, (by show 1 ≤ 1000; decide), T, ha, ?_⟩
    refine ⟨_, rfl, _, rfl, a, C, rfl, T, nw, .inl ⟨ha, fun dx hd hne => ?_⟩⟩
    refine ⟨_, rfl, _, rfl, a, C, rfl, T, np, .inr ⟨dx, [("word", wd)], upd_same, by rw [upd_ne hne]; exact upd_same, (by show 1 ≤ 900; decide), ?_⟩⟩
    refine q dx _ hd hne (by rw [upd_ne (Ne.symm hne)]; exact upd_same) upd_same fun b n1 n2 => ?_
    rw [upd_ne n2, upd_ne n1, upd_ne n2]
theorem binds_FilmErr {f : Addr} {fd : FuncData} (F : FunD K "__init__" "FilmError.__init__" (defArgs s_FilmErr) (defBody s_FilmErr) (defScope s_FilmErr) [.non] [] f fd) : Binds K fd ["self", "word", "place"] [] := by
  obtain ⟨ds, r, b⟩ := F.binds1 (ps := ["self", "word", "place"]) 3 1 (by simp) rfl fun T kV doc pm an cdv ct us its hu hi => match us, hu, its, hi with | [_, _, _], _, [_], _ => ⟨_, rfl, rfl⟩
  cases r
  exact b

abbrev s_BadClip : Stmt := clsDef (top 2)
theorem sc_BadClip : FnScope ["self", "place"] ["self", "place"] (defScope s_BadClip) := ⟨rfl, rfl, rfl, by decide +kernel, rfl, by decide +kernel, by decide +kernel⟩
theorem ok_BadClip {f : Addr} {fd : FuncData} (F : FunD K "__init__" "BadClip.__init__" (defArgs s_BadClip) (defBody s_BadClip) (defScope s_BadClip) [.non] [] f fd) {D fD : Addr} {fdD : FuncData} (FT : FilmTxt K mg D fD)
    (G : FnOk P w K mg base CX0 1 fD fdD ["self", "word", "place"] (spErrInit K)) (kf : PySem.W.keepIn K (.ref fD) = true) (b : Binds K fdD ["self", "word", "place"] []) : FnOk P w K mg base CX0 2 f fd ["self", "place"] (spKind K "BadClip") := by
  refine F.ok sc_BadClip (fun vs H Q E h => ?_) (fun cdv A outer s H vs Q E hr h => ?_)
  · obtain ⟨a, C, p, rfl, _⟩ := h
    rfl
  · obtain ⟨a, C, p, rfl, T, ha, nw, np, q⟩ := h
    refine ⟨_, pss_one (ps_expr (pe_binit G (hr.mono (by decide)) rfl FT.g FT.rd FT.ga FT.fa kf b .nil pass0 (pa_cons (pv 0) (pa_cons pe_str (pa_cons (pv 1) pa_nil))))), ?_⟩
    exact ⟨_, rfl, _, rfl, a, C, .str "BadClip", p, rfl, T, ha, nw, np, fun dx H' h1 h2 h3 h4 h5 => q dx H' h1 h2 h3 h4 h5⟩
theorem binds_BadClip {f : Addr} {fd : FuncData} (F : FunD K "__init__" "BadClip.__init__" (defArgs s_BadClip) (defBody s_BadClip) (defScope s_BadClip) [.non] [] f fd) : (∃ ds, Vals [.non] ds ∧ Binds K fd ["self", "place"] ds) ∧ Binds K fd ["self", "place"] [] := by
  refine ⟨F.binds1 (ps := ["self", "place"]) 1 0 (by simp) rfl fun T kV doc pm an cdv ct us its hu hi => match us, hu, its, hi with | [_], _, [_], _ => ⟨_, rfl, rfl⟩, ?_⟩
  obtain ⟨ds, r, b⟩ := F.binds1 (ps := ["self", "place"]) 2 1 (by simp) rfl fun T kV doc pm an cdv ct us its hu hi => match us, hu, its, hi with | [_, _], _, [_], _ => ⟨_, rfl, rfl⟩
  cases r
  exact b

abbrev s_check_clips : Stmt := top 27
theorem sc_check_clips : FnScope ["clips", "adjusts", "free", "place", "clip"] ["clips", "adjusts"] (defScope s_check_clips) := ⟨rfl, rfl, rfl, by decide +kernel, rfl, by decide +kernel, by decide +kernel⟩
def spCheckCl (C : Addr) : Sp := fun vs H Q E => ∃ v ad, vs = [v, .bl ad] ∧ Ws H ad v ∧ (∀ H', Ex H H' → ClOut H ad v none → Q .non H') ∧
  ∀ p d H', H d = none → Ex H H' → ClOut H ad v (some p) → H' d = some (errD "BadClip" (plV p)) → E (.ref C) (some d) H'
theorem ok_check_clips {f : Addr} {fd : FuncData} (F : Fun K "check_clips" "check_clips" s_check_clips f fd) (T : Txt K mg) {C : Addr} (KB : KindOk P w K mg base "BadClip" C) (D_has_form_clips : Def P w K mg base CX0 "has_form_clips" 3 ["clip"] spFormC) (D_is_bare : Def P w K mg base CX0 "_is_bare" 1 ["clip"] (spBare K))
    (D_check_paint : Def P w K mg base CX0 "check_paint" 5 ["paint"] spGoodP) (D_end_of : Def P w K mg base CX0 "end_of" 1 ["clip"] (spEnd27 K)) : FnOk P w K mg base (L2.CX P w) 6 f fd ["clips", "adjusts"] (spCheckCl C) := by
  refine F.okX sc_check_clips (fun vs H Q E h => ?_) (fun cdv A outer s H vs Q E hr h => ?_)
  · obtain ⟨v, ad, rfl, _⟩ := h
    rfl
  · obtain ⟨v, ad, rfl, wf, qN, qE⟩ := h
    obtain ⟨fK, KT, fdC, GC, ⟨ds, hds, bC⟩, bA⟩ := KB
    obtain ⟨⟨T', kn⟩, it⟩ := wf
    refine ⟨_, (pss_cons (ps_if (PW.pt (pw_or (pt_not (pt_val (pe_callB (kisi K) (by rfl) T.isinstance_ bt_isinstance (pa_cons (pv 0) (pa_cons (pe_bltn (v := .ty "tuple") (by rfl) T.tuple_ bt_tuple rfl) pa_nil))))) (pw_or1 (pt_cmpR op_gt (pe_callB (klen K) (by rfl) T.len_ PySem.boot_len (pa_cons (pv 0) pa_nil)) (pe_glob (v := .int 64) rfl T.CLIPS_MOST_.choose_spec ⟨_, rfl⟩) (nomark _)))))
        (pss_one (ps_raise rfl (takes_of rfl rfl rfl rfl) (pmk_none KT.T KT.iC KT.tI GC (hr.mono (by decide)) bC hds pass0 rfl KT.g)))
        pss_nil)
      (pss_cons (ps_set (i := 2) sc_check_clips.nd rfl (by first | exact Or.inl rfl | exact Or.inr rfl) pe_int)
      (pss_one (ps_for (passes_of rfl) rfl (kpiET K (by rfl) T.enumerate_ (pa_cons (pv 0) pa_nil)) (kpgT K (n := 2) rfl (pgs_cons (pg_name (i := 3) sc_check_clips.nd rfl (by first | exact Or.inl rfl | exact Or.inr rfl)) (pgs_cons (pg_name (i := 4) sc_check_clips.nd rfl (by first | exact Or.inl rfl | exact Or.inr rfl)) pgs_nil)))
        (pss_cons (ps_if (PW.pt (pw_or (pt_not (pt_val (pe_call D_has_form_clips.ok (hr.mono (by decide)) rfl D_has_form_clips.mgf D_has_form_clips.kp D_has_form_clips.b .nil pass0 (pa_cons (pv 4) pa_nil)))) (pw_or1 (PW.pt (pw_and (pt_val (pv 1)) (pw_and1 (pt_not (pt_val (pe_call D_is_bare.ok (hr.mono (by decide)) rfl D_is_bare.mgf D_is_bare.kp D_is_bare.b .nil pass0 (pa_cons (pv 4) pa_nil))))))))))
          (pss_one (ps_raise rfl (takes_of rfl rfl rfl rfl) (pmk_oex KT.T KT.iC KT.tI GC (hr.mono (by decide)) bA .nil pass0 rfl KT.g (pa_cons (pv 3) pa_nil))))
          pss_nil)
        (pss_cut (ps_if (pt_not (pt_val (pv 1)))
          (pss_one (ps_expr (pe_call D_check_paint.ok (hr.mono (by decide)) rfl D_check_paint.mgf D_check_paint.kp D_check_paint.b .nil pass0 (pa_cons (pe_ix (kixT K) (pv 4) pe_int (fun _ _ => rfl)) pa_nil))))
          pss_nil)
        (pss_cons (ps_if (pt_cmpR op_lt (pe_ix (kixT K) (pv 4) pe_int (fun _ _ => rfl)) (pv 2) (nomark _))
          (pss_one (ps_raise rfl (takes_of rfl rfl rfl rfl) (pmk_oex KT.T KT.iC KT.tI GC (hr.mono (by decide)) bA .nil pass0 rfl KT.g (pa_cons (pv 3) pa_nil))))
          pss_nil)
        (pss_one (ps_set (i := 2) sc_check_clips.nd rfl (by first | exact Or.inl rfl | exact Or.inr rfl) (pe_call D_end_of.ok (hr.mono (by decide)) rfl D_end_of.mgf D_end_of.kp D_end_of.b .nil pass0 (pa_cons (pv 4) pa_nil))))))))))), ?_⟩
    refine ⟨v, rfl, v, _, _, _, _, rfl, .ty _, kn.ty, kit_ty (kit_tuple kn), _, rfl, ?_⟩
    cases ct : isA T' "tuple" with
    | false =>
      refine iteT (iteT ?_)
      exact ⟨by decide, fun b hb => kind_made KT hb fun d H' h1 h2 h3 => qE none d H' h1 h2 (fun a xs e ha => absurd ha (kn.noTup ct a xs e)) h3⟩
    | true =>
      obtain ⟨a, xs, rfl, ha⟩ := kn.asTup ct
      have it := it a xs rfl ha
      refine iteF ?_
      refine ⟨_, rfl, a, xs, rfl, .inr (SqT.of ha), _, _, rfl, rfl, _, rfl, ?_⟩
      refine ite2 (fun big => ?_) (fun small => ?_)
      · have big := of_decide_eq_true big
        refine ⟨by decide, fun b hb => kind_made KT hb fun d H' h1 h2 h3 => qE none d H' h1 h2 (fun a' xs' e ha' => ?_) h3⟩
        cases e
        rw [ha] at ha'
        cases ha'
        omega
      have small : xs.length ≤ 64 := by
        have : ¬ ((64 : Int) < xs.length) := fun z => small (decide_eq_true z)
        omega
      refine ⟨_, rfl, a, xs, rfl, SqT.of ha, ?_⟩
      refine for_ET (xs := xs) (fun i σ H' => Ex H H' ∧ (∃ x y, σ = [some (.ref a), some (.bl ad), some (.int (leaC H xs i)), x, y]) ∧ ∀ j < i, ∀ y, xs[j]? = some y → cOk H ad (leaC H xs j) y = true) ⟨Ex.refl _, ⟨_, _, rfl⟩, fun j hj => absurd hj (Nat.not_lt_zero _)⟩ (fun i σ H' _ p => SqT.of (p.1 _ _ ha)) ?_ ?_
      · rintro i v σ H1 t hv ⟨e1, ⟨x, y, rfl⟩, hall⟩ ht
        have f1 := Ex.new (o := .tup [.int (i : Nat), v]) ht
        have k1 : upd H1 t (.tup [.int (i : Nat), v]) t = some (.tup [.int (i : Nat), v]) := upd_same
        generalize upd H1 t (.tup [.int (i : Nat), v]) = H2 at f1 k1 ⊢
        have e2 := e1.trans f1
        have iv := it v (List.mem_of_getElem? hv)
        obtain ⟨Tv, kv⟩ := iv.1.kn
        refine ⟨t, _, rfl, SqT.of k1, rfl, _, _, rfl, _, _, rfl, rfl, ?_⟩
        have bad : ∀ H3, Ex H H3 → cOk H ad (leaC H xs i) v = false → ∀ b, H3 b = none → spKind K "BadClip" [.ref b, .int (i : Nat)] (upd H3 b (exo b C none)) (fun v H2 => v = .non ∧ ∃ (d : Addr) (fs : List (Str × V)), H2 b = some (exo b C (some d)) ∧ H2 d = some (exd d fs) ∧ H3 d = none ∧ E (.ref C) (some d) (upd (del H2 b) d (.xd fs))) (fun _ _ _ => False) := fun H3 e3 hp b hb =>
          kind_made KT hb fun d H' h1 h2 h3 => qE (some i) d H' (ex_free e3 h1) (e3.trans h2) ⟨a, xs, rfl, ha, small, v, hv, hp, hall⟩ h3
        refine ⟨_, rfl, v, 400, rfl, iv.1.ex e2, _, rfl, ?_⟩
        cases cv : isA Tv "tuple" with
        | false =>
          rw [formCV_no (kv.mono e2) cv]
          refine iteT (iteT ?_)
          exact ⟨_, rfl, (by show 1 ≤ 1000; decide), bad H2 e2 (cOk_no kv cv)⟩
        | true =>
          obtain ⟨ca, ys, rfl, hca⟩ := kv.asTup cv
          by_cases h5 : ys.length = 5
          · match ys, h5, hca with
            | [vs, vn, vp, vi, vo], _, hca =>
              have ek := cOk_tup (ad := ad) (lo := leaC H xs i) hca
              rw [formCV_tup (e2 _ _ hca)]
              cases cf : fC vs vn vi vo with
              | false =>
                rw [cf, Bool.false_and] at ek
                refine iteT (iteT ?_)
                exact ⟨_, rfl, (by show 1 ≤ 1000; decide), bad H2 e2 ek⟩
              | true =>
                rw [cf, Bool.true_and] at ek
                refine iteF ?_
                obtain ⟨s, n, fi, fo, rfl, rfl, rfl, rfl, s0, s1, n0, n1, i0, i1, o0, o1⟩ := fC_ints cf
                cases ad with
                | true =>
                  refine ⟨_, rfl, _, rfl, iteT ?_⟩
                  refine ⟨_, rfl, ca, _, _, vp, fi, fo, rfl, e2 _ _ hca, _, rfl, ?_⟩
                  have ek : cOk H true (leaC H xs i) (.ref ca) = (bCl vp (.int fi) (.int fo) && decide (leaC H xs i ≤ s)) := ek
                  cases hb : bCl vp (.int fi) (.int fo) with
                  | false =>
                    rw [hb, Bool.false_and] at ek
                    refine iteT ?_
                    exact ⟨_, rfl, (by show 1 ≤ 1000; decide), bad H2 e2 ek⟩
                  | true =>
                    rw [hb, Bool.true_and] at ek
                    refine iteF ?_
                    refine ⟨fun σ' H' => σ' = [some (.ref a), some (.bl true), some (.int (leaC H xs i)), some (.int (i : Nat)), some (.ref ca)] ∧ Ex H2 H', ⟨_, rfl, _, rfl, iteF ⟨rfl, Ex.refl _⟩⟩, ?_⟩
                    rintro σ' H3 ⟨rfl, e23⟩
                    have e3 := e2.trans e23
                    refine ⟨_, rfl, ca, _, 0, _, rfl, rfl, SqT.of (e3 _ _ hca), rfl, _, rfl, _, _, rfl, rfl, _, rfl, ?_⟩
                    refine ite2 (fun lt => ?_) (fun ge => ?_)
                    · have lt := of_decide_eq_true lt
                      refine ⟨_, rfl, (by show 1 ≤ 1000; decide), bad H3 e3 ?_⟩
                      rw [ek]
                      exact decide_eq_false (fun z => by have z : leaC H xs i ≤ s := z; omega)
                    · have ge : ¬ s < leaC H xs i := fun z => ge (decide_eq_true z)
                      refine ⟨_, rfl, ca, s, n, vp, _, _, rfl, e3 _ _ hca, ?_⟩
                      have el : leaC H xs (i + 1) = s + n := by
                        show cEn H _ = _
                        rw [List.getD_eq_getElem?_getD, hv, Option.getD_some, cEn_tup hca]
                        rfl
                      refine ⟨e3, ⟨some (.int (i : Nat)), some (.ref ca), by rw [el]; rfl⟩, fun j hj y hy => ?_⟩
                      by_cases e : j = i
                      · subst e
                        rw [hv] at hy
                        cases hy
                        rw [ek]
                        exact decide_eq_true (show leaC H xs j ≤ s by omega)
                      · exact hall j (by omega) y hy
                | false =>
                  refine ⟨_, rfl, _, rfl, iteF ?_⟩
                  have ek : cOk H false (leaC H xs i) (.ref ca) = decide (leaC H xs i ≤ s) := ek
                  obtain ⟨qp, hq, okq⟩ := iv.2 rfl ca _ _ _ _ _ rfl hca cf
                  refine ⟨fun σ' H' => σ' = [some (.ref a), some (.bl false), some (.int (leaC H xs i)), some (.int (i : Nat)), some (.ref ca)] ∧ Ex H2 H', ⟨_, rfl, _, rfl, iteT ⟨_, rfl, ca, _, 2, _, rfl, rfl, SqT.of (e2 _ _ hca), rfl, vp, qp, rfl, hq.tk (TK.ex e2), okq, fun H' e => ⟨rfl, e⟩⟩⟩, ?_⟩
                  rintro σ' H3 ⟨rfl, e23⟩
                  have e3 := e2.trans e23
                  refine ⟨_, rfl, ca, _, 0, _, rfl, rfl, SqT.of (e3 _ _ hca), rfl, _, rfl, _, _, rfl, rfl, _, rfl, ?_⟩
                  refine ite2 (fun lt => ?_) (fun ge => ?_)
                  · have lt := of_decide_eq_true lt
                    refine ⟨_, rfl, (by show 1 ≤ 1000; decide), bad H3 e3 ?_⟩
                    rw [ek]
                    exact decide_eq_false (fun z => by have z : leaC H xs i ≤ s := z; omega)
                  · have ge : ¬ s < leaC H xs i := fun z => ge (decide_eq_true z)
                    refine ⟨_, rfl, ca, s, n, vp, _, _, rfl, e3 _ _ hca, ?_⟩
                    have el : leaC H xs (i + 1) = s + n := by
                      show cEn H _ = _
                      rw [List.getD_eq_getElem?_getD, hv, Option.getD_some, cEn_tup hca]
                      rfl
                    refine ⟨e3, ⟨some (.int (i : Nat)), some (.ref ca), by rw [el]; rfl⟩, fun j hj y hy => ?_⟩
                    by_cases e : j = i
                    · subst e
                      rw [hv] at hy
                      cases hy
                      rw [ek]
                      exact decide_eq_true (show leaC H xs j ≤ s by omega)
                    · exact hall j (by omega) y hy
          · rw [formCV_len (e2 _ _ hca) h5]
            refine iteT (iteT ?_)
            exact ⟨_, rfl, (by show 1 ≤ 1000; decide), bad H2 e2 (cOk_len hca h5)⟩
      · rintro σ H1 ⟨e1, ⟨x, y, rfl⟩, hall⟩
        exact qN H1 e1 ⟨a, xs, rfl, ha, small, fun k x hx => hall k (List.getElem?_eq_some_iff.mp hx).1 x hx⟩

abbrev s_l_paint : Stmt := top 56
theorem sc_l_paint : FnScope ["deck", "kind", "width", "height", "values", "k", "value"] ["deck"] (defScope s_l_paint) := ⟨rfl, rfl, rfl, by decide +kernel, rfl, by decide +kernel, by decide +kernel⟩
def spPaint3 (K : PySem.W.Frag) : Sp := fun vs H Q _ => ∃ a, vs = [.ref a] ∧ DeckAt K H a ∧ ∀ v p H', Ex H H' → PaV H' v p → p.Ok 3 → Q v H'
theorem ok_l_paint {f : Addr} {fd : FuncData} (F : Fun K "_law_paint" "_law_paint" s_l_paint f fd) (T : Txt K mg) (D_l_draw : Def P w K mg base CX0 "_law_draw" 1 ["deck", "bound"] (spDraw K)) : FnOk P w K mg base CX0 2 f fd ["deck"] (spPaint3 K) := by
  refine F.ok sc_l_paint (fun vs H Q E h => ?_) (fun cdv A outer s H vs Q E hr h => ?_)
  · obtain ⟨a, rfl, _⟩ := h
    rfl
  · obtain ⟨a, rfl, hd, q⟩ := h
    refine ⟨_, (pss_cons (ps_set (i := 1) sc_l_paint.nd rfl (by first | exact Or.inl rfl | exact Or.inr rfl) (pe_call D_l_draw.ok (hr.mono (by decide)) rfl D_l_draw.mgf D_l_draw.kp D_l_draw.b .nil pass0 (pa_cons (pv 0) (pa_cons pe_int pa_nil))))
      (pss_cons (ps_if (pt_cmpR op_eq (pv 1) pe_int (nomark _))
        (pss_one (ps_ret (pe_tup (pa_cons pe_str (pa_cons (pe_call D_l_draw.ok (hr.mono (by decide)) rfl D_l_draw.mgf D_l_draw.kp D_l_draw.b .nil pass0 (pa_cons (pv 0) (pa_cons pe_int pa_nil))) (pa_cons (pe_call D_l_draw.ok (hr.mono (by decide)) rfl D_l_draw.mgf D_l_draw.kp D_l_draw.b .nil pass0 (pa_cons (pv 0) (pa_cons pe_int pa_nil))) (pa_cons (pe_op op_add pe_int (pe_call D_l_draw.ok (hr.mono (by decide)) rfl D_l_draw.mgf D_l_draw.kp D_l_draw.b .nil pass0 (pa_cons (pv 0) (pa_cons pe_int pa_nil)))) pa_nil)))))))
        pss_nil)
      (pss_cons (ps_if (pt_cmpR op_eq (pv 1) pe_int (nomark _))
        (pss_cons (ps_set (i := 2) sc_l_paint.nd rfl (by first | exact Or.inl rfl | exact Or.inr rfl) (pe_op op_add pe_int (pe_call D_l_draw.ok (hr.mono (by decide)) rfl D_l_draw.mgf D_l_draw.kp D_l_draw.b .nil pass0 (pa_cons (pv 0) (pa_cons pe_int pa_nil)))))
        (pss_cons (ps_set (i := 3) sc_l_paint.nd rfl (by first | exact Or.inl rfl | exact Or.inr rfl) (pe_op op_add pe_int (pe_call D_l_draw.ok (hr.mono (by decide)) rfl D_l_draw.mgf D_l_draw.kp D_l_draw.b .nil pass0 (pa_cons (pv 0) (pa_cons pe_int pa_nil)))))
        (pss_cons (ps_set (i := 4) sc_l_paint.nd rfl (by first | exact Or.inl rfl | exact Or.inr rfl) (pe_callTy (ktuple K) (by rfl) T.tuple_ bt_tuple (pa_cons (pe_lc (own := [("k", 5)]) (tt := tYes) rfl sc_l_paint.nd (pi_range1 (by rfl) T.range_ (pa_cons (pe_op op_mul (pv 2) (pv 3)) pa_nil)) (blkOk_by (N := ["deck", "kind", "width", "height", "values", "k", "value"]) (sc := defScope s_l_paint) (by decide +kernel)) (fun _ _ _ _ _ => (pg_name (i := 5) sc_l_paint.nd rfl (by first | exact Or.inl rfl | exact Or.inr rfl))) (fun _ _ _ _ _ => pts_nil) (fun _ _ _ _ _ => (pe_call D_l_draw.ok (hr.mono (by decide)) rfl D_l_draw.mgf D_l_draw.kp D_l_draw.b .nil pass0 (pa_cons (pv 0) (pa_cons pe_int pa_nil))))) pa_nil)))
        (pss_one (ps_ret (pe_tup (pa_cons pe_str (pa_cons (pe_tup (pa_cons (pv 2) (pa_cons (pv 3) (pa_cons (pv 4) (pa_cons (pe_callTy (ktuple K) (by rfl) T.tuple_ bt_tuple (pa_cons (pe_lc (own := [("value", 6)]) (tt := tYes) rfl sc_l_paint.nd (kpiT K (pv 4)) (blkOk_by (N := ["deck", "kind", "width", "height", "values", "k", "value"]) (sc := defScope s_l_paint) (by decide +kernel)) (fun _ _ _ _ _ => (pg_name (i := 6) sc_l_paint.nd rfl (by first | exact Or.inl rfl | exact Or.inr rfl))) (fun _ _ _ _ _ => pts_nil) (fun _ _ _ _ _ => (pe_call D_l_draw.ok (hr.mono (by decide)) rfl D_l_draw.mgf D_l_draw.kp D_l_draw.b .nil pass0 (pa_cons (pv 0) (pa_cons pe_int pa_nil))))) pa_nil)) pa_nil))))) pa_nil))))))))
        pss_nil)
      (pss_one (ps_ret (pe_tup (pa_cons pe_str (pa_cons (pe_op op_add (pe_op op_mul (pe_call D_l_draw.ok (hr.mono (by decide)) rfl D_l_draw.mgf D_l_draw.kp D_l_draw.b .nil pass0 (pa_cons (pv 0) (pa_cons pe_int pa_nil))) pe_int) (pe_call D_l_draw.ok (hr.mono (by decide)) rfl D_l_draw.mgf D_l_draw.kp D_l_draw.b .nil pass0 (pa_cons (pv 0) (pa_cons pe_int pa_nil)))) pa_nil)))))))), ?_⟩
    refine ⟨_, rfl, a, 4, rfl, hd, by decide, by decide, fun k k0 k1 => ?_⟩
    refine ⟨_, rfl, rfl, _, rfl, ?_⟩
    refine ite2 (fun _ => ?_) (fun _ => ?_)
    · refine ⟨_, rfl, a, 256, rfl, hd, by decide, by decide, fun x x0 x1 => ?_⟩
      refine ⟨_, rfl, a, 256, rfl, hd, by decide, by decide, fun y y0 y1 => ?_⟩
      refine ⟨_, rfl, a, 3, rfl, hd, by decide, by decide, fun z z0 z1 => ?_⟩
      refine ⟨_, _, rfl, rfl, ?_⟩
      refine ⟨(by show 4 ≤ sizeLine; decide), fun l hl => ?_⟩
      exact q _ (.steps x y (1 + z)) _ (Ex.new hl) ⟨l, rfl, upd_same⟩ ⟨x0, by omega, y0, by omega, by omega, by omega⟩
    · refine ⟨_, rfl, rfl, _, rfl, ?_⟩
      refine ite2 (fun _ => ?_) (fun _ => ?_)
      · refine ⟨_, rfl, a, 3, rfl, hd, by decide, by decide, fun wd w0 w1 => ?_⟩
        refine ⟨_, _, rfl, rfl, ?_⟩
        refine ⟨_, rfl, a, 2, rfl, hd, by decide, by decide, fun hg h0 h1 => ?_⟩
        refine ⟨_, _, rfl, rfl, ?_⟩
        obtain ⟨a1, a2⟩ := area_le (w := 1 + wd) (h := 1 + hg) (m := 3) (by omega) (by omega) (by omega) (by omega)
        have hN : (((1 + wd) * (1 + hg)).toNat : Int) = (1 + wd) * (1 + hg) := by omega
        refine ⟨_, rfl, _, rfl, _, _, rfl, rfl, .inl ⟨by omega, by omega⟩, _, rfl, by omega, by omega, fun D1 hD1 => ?_⟩
        refine lc_range (lo := 0) (n := ((1 + wd) * (1 + hg)).toNat) (fun i H' => Ex H H' ∧ IntsIn H' D1 i fun x => 0 ≤ x ∧ x ≤ 255) ⟨Ex.new hD1, [], upd_same, rfl, by simp⟩ ?_ ?_
        · rintro i H' hi ⟨e, hI⟩
          refine ⟨rfl, ?_⟩
          refine lcY ?_
          refine ⟨_, rfl, a, 256, rfl, hd.mono e, by decide, by decide, fun x x0 x1 => ?_⟩
          exact hI.snoc hD1 e (Ex.refl _) (by omega) ⟨x0, by omega⟩
        rintro H1 ⟨e1, vl, hvl, hvn, hvb⟩
        refine ⟨D1, _, rfl, .inl ⟨SqL.of hvl, fun p1 hp1 => ?_⟩⟩
        have x1 := Ex.new (o := .tup (vl.map V.int)) hp1
        have k1' : upd H1 p1 (.tup (vl.map V.int)) p1 = _ := upd_same
        generalize upd H1 p1 (.tup (vl.map V.int)) = H2 at x1 k1'
        refine ⟨_, rfl, _, rfl, _, rfl, ?_⟩
        refine ⟨_, rfl, p1, rfl, ⟨vl.map V.int, SqT.of k1'⟩, fun D2 hD2 => ?_⟩
        refine lc_tup (xs := vl.map V.int) (fun i H' => Ex H2 H' ∧ IntsIn H' D2 i fun x => 0 ≤ x ∧ x ≤ 256) ⟨Ex.new hD2, [], upd_same, rfl, by simp⟩ (fun i H' _ p => SqT.of (p.1 _ _ k1')) ?_ ?_
        · rintro i x H' hx ⟨e, hI⟩
          have hil : i < vl.length := by
            have := (List.getElem?_eq_some_iff.mp hx).1
            rwa [List.length_map] at this
          refine ⟨rfl, ?_⟩
          refine lcY ?_
          refine ⟨_, rfl, a, 257, rfl, ((hd.mono e1).mono x1).mono e, by decide, by decide, fun x x0 x1 => ?_⟩
          exact hI.snoc hD2 e (Ex.refl _) (by omega) ⟨x0, by omega⟩
        rintro H3 ⟨e3, cl, hcl, hcn, hcb⟩
        rw [List.length_map] at hcn
        refine ⟨D2, _, rfl, .inl ⟨SqL.of hcl, fun p2 hp2 => ?_⟩⟩
        have x2 := Ex.new (o := .tup (cl.map V.int)) hp2
        have k2' : upd H3 p2 (.tup (cl.map V.int)) p2 = _ := upd_same
        generalize upd H3 p2 (.tup (cl.map V.int)) = H4 at x2 k2'
        refine ⟨(by show 4 ≤ sizeLine; decide), fun p3 hp3 => ?_⟩
        have x3 := Ex.new (o := .tup [.int (1 + wd), .int (1 + hg), .ref p1, .ref p2]) hp3
        have k3' : upd H4 p3 (.tup [.int (1 + wd), .int (1 + hg), .ref p1, .ref p2]) p3 = _ := upd_same
        generalize upd H4 p3 (.tup [.int (1 + wd), .int (1 + hg), .ref p1, .ref p2]) = H5 at x3 k3'
        refine ⟨(by show 2 ≤ sizeLine; decide), fun p4 hp4 => ?_⟩
        have x4 := Ex.new (o := .tup [.str "picture", .ref p3]) hp4
        have ea := ((x2.trans x3).trans x4)
        refine q (.ref p4) (.pic ⟨1 + wd, 1 + hg, vl, cl⟩) _ ((((e1.trans x1).trans e3)).trans ea) ⟨p4, .ref p3, rfl, upd_same, p3, p1, p2, rfl, x4 _ _ k3', (e3.trans ea) _ _ k1', (x3.trans x4) _ _ k2'⟩ ⟨?_, ?_, ?_, ?_, ?_, ?_, hvb, hcb⟩ <;> dsimp only <;> omega
      · refine ⟨_, rfl, a, 4, rfl, hd, by decide, by decide, fun x x0 x1 => ?_⟩
        refine ⟨_, _, rfl, rfl, .inr ⟨by decide, by decide⟩, ?_⟩
        refine ⟨_, rfl, a, 16, rfl, hd, by decide, by decide, fun y y0 y1 => ?_⟩
        refine ⟨_, _, rfl, rfl, ?_⟩
        refine ⟨(by show 2 ≤ sizeLine; decide), fun l hl => ?_⟩
        exact q _ (.solid (x * 60 + y)) _ (Ex.new hl) ⟨l, rfl, upd_same⟩ ⟨by omega, by omega⟩

abbrev s_l_clip : Stmt := top 57
theorem sc_l_clip : FnScope ["deck", "start", "adjusts", "length", "first", "last"] ["deck", "start", "adjusts"] (defScope s_l_clip) := ⟨rfl, rfl, rfl, by decide +kernel, rfl, by decide +kernel, by decide +kernel⟩
def spClipB (K : PySem.W.Frag) : Sp := fun vs H Q _ => ∃ a s ad, vs = [.ref a, .int s, .bl ad] ∧ DeckAt K H a ∧ 0 ≤ s ∧ s ≤ 50000 ∧ ∀ v c H', Ex H H' → ClV H' v c → c.Ok 50000 → c.s = s → AdjOk ad c → Q v H'
theorem ok_l_clip {f : Addr} {fd : FuncData} (F : Fun K "_law_clip" "_law_clip" s_l_clip f fd) (T : Txt K mg) (D_l_draw : Def P w K mg base CX0 "_law_draw" 1 ["deck", "bound"] (spDraw K)) (D_l_paint : Def P w K mg base CX0 "_law_paint" 2 ["deck"] (spPaint3 K)) : FnOk P w K mg base CX0 3 f fd ["deck", "start", "adjusts"] (spClipB K) := by
  refine F.ok sc_l_clip (fun vs H Q E h => ?_) (fun cdv A outer s H vs Q E hr h => ?_)
  · obtain ⟨a, s, ad, rfl, _⟩ := h
    rfl
  · obtain ⟨a, s, ad, rfl, hd, s0, s1, q⟩ := h
    refine ⟨_, (pss_cons (ps_set (i := 3) sc_l_clip.nd rfl (by first | exact Or.inl rfl | exact Or.inr rfl) (pe_op op_add pe_int (pe_call D_l_draw.ok (hr.mono (by decide)) rfl D_l_draw.mgf D_l_draw.kp D_l_draw.b .nil pass0 (pa_cons (pv 0) (pa_cons pe_int pa_nil)))))
      (pss_cut (ps_if (pt_cmpR op_eq (pe_call D_l_draw.ok (hr.mono (by decide)) rfl D_l_draw.mgf D_l_draw.kp D_l_draw.b .nil pass0 (pa_cons (pv 0) (pa_cons pe_int pa_nil))) pe_int (nomark _))
        (pss_one (ps_set (i := 3) sc_l_clip.nd rfl (by first | exact Or.inl rfl | exact Or.inr rfl) (pe_op op_add (pv 3) (pe_call D_l_draw.ok (hr.mono (by decide)) rfl D_l_draw.mgf D_l_draw.kp D_l_draw.b .nil pass0 (pa_cons (pv 0) (pa_cons pe_int pa_nil))))))
        pss_nil)
      (pss_cons (ps_if (pt_val (pv 2))
        (pss_one (ps_ret (pe_tup (pa_cons (pv 1) (pa_cons (pv 3) (pa_cons pe_non (pa_cons pe_int (pa_cons pe_int pa_nil))))))))
        pss_nil)
      (pss_cons (ps_set (i := 4) sc_l_clip.nd rfl (by first | exact Or.inl rfl | exact Or.inr rfl) pe_int)
      (pss_cons (ps_set (i := 5) sc_l_clip.nd rfl (by first | exact Or.inl rfl | exact Or.inr rfl) pe_int)
      (pss_cut (ps_if (pt_cmpR op_eq (pe_call D_l_draw.ok (hr.mono (by decide)) rfl D_l_draw.mgf D_l_draw.kp D_l_draw.b .nil pass0 (pa_cons (pv 0) (pa_cons pe_int pa_nil))) pe_int (nomark _))
        (pss_one (ps_set (i := 4) sc_l_clip.nd rfl (by first | exact Or.inl rfl | exact Or.inr rfl) (pe_call D_l_draw.ok (hr.mono (by decide)) rfl D_l_draw.mgf D_l_draw.kp D_l_draw.b .nil pass0 (pa_cons (pv 0) (pa_cons (pe_op op_add (pe_callB (call_min2 rfl) (by rfl) T.min_ bt_min (pa_cons (pv 3) (pa_cons pe_int pa_nil))) pe_int) pa_nil)))))
        pss_nil)
      (pss_cut (ps_if (pt_cmpR op_eq (pe_call D_l_draw.ok (hr.mono (by decide)) rfl D_l_draw.mgf D_l_draw.kp D_l_draw.b .nil pass0 (pa_cons (pv 0) (pa_cons pe_int pa_nil))) pe_int (nomark _))
        (pss_one (ps_set (i := 5) sc_l_clip.nd rfl (by first | exact Or.inl rfl | exact Or.inr rfl) (pe_call D_l_draw.ok (hr.mono (by decide)) rfl D_l_draw.mgf D_l_draw.kp D_l_draw.b .nil pass0 (pa_cons (pv 0) (pa_cons (pe_op op_add (pe_callB (call_min2 rfl) (by rfl) T.min_ bt_min (pa_cons (pe_op op_sub (pv 3) (pv 4)) (pa_cons pe_int pa_nil))) pe_int) pa_nil)))))
        pss_nil)
      (pss_one (ps_ret (pe_tup (pa_cons (pv 1) (pa_cons (pv 3) (pa_cons (pe_call D_l_paint.ok (hr.mono (by decide)) rfl D_l_paint.mgf D_l_paint.kp D_l_paint.b .nil pass0 (pa_cons (pv 0) pa_nil)) (pa_cons (pv 4) (pa_cons (pv 5) pa_nil))))))))))))))), ?_⟩
    refine ⟨_, rfl, a, 14, rfl, hd, by decide, by decide, fun n n0 n1 => ?_⟩
    refine ⟨_, _, rfl, rfl, ?_⟩
    refine ⟨fun σ H' => ∃ L : Int, σ = [some (.ref a), some (.int s), some (.bl ad), some (.int L), none, none] ∧ 1 ≤ L ∧ L ≤ 400 ∧ H = H', ?_, ?_⟩
    · refine ⟨_, rfl, a, 16, rfl, hd, by decide, by decide, fun k k0 k1 => ?_⟩
      refine ⟨rfl, _, rfl, ?_⟩
      refine ite2 (fun _ => ?_) (fun _ => ?_)
      · refine ⟨_, rfl, _, rfl, a, 300, rfl, hd, by decide, by decide, fun x x0 x1 => ?_⟩
        refine ⟨_, _, rfl, rfl, ?_⟩
        exact ⟨_, rfl, by omega, by omega, rfl⟩
      · exact ⟨_, rfl, by omega, by omega, rfl⟩
    rintro σ H' ⟨L, rfl, l0, l1, rfl⟩
    refine ⟨_, rfl, _, rfl, ?_⟩
    refine ite2 (fun had => ?_) (fun had => ?_)
    · refine ⟨_, rfl, _, rfl, (by show 5 ≤ sizeLine; decide), fun l hl => ?_⟩
      exact q _ ⟨s, L, none, 0, 0⟩ _ (Ex.new hl) ⟨l, .non, rfl, upd_same, rfl⟩ ⟨s0, s1, l0, l1, Int.le_refl 0, Int.le_refl 0, by show (0 : Int) + 0 ≤ L; omega, trivial⟩ rfl ⟨fun _ => ⟨rfl, rfl, rfl⟩, fun h => by rw [h] at had; cases had⟩
    · refine ⟨fun σ H' => ∃ x : Int, σ = [some (.ref a), some (.int s), some (.bl ad), some (.int L), some (.int x), some (.int 0)] ∧ 0 ≤ x ∧ x ≤ L ∧ H = H', ?_, ?_⟩
      · refine ⟨_, rfl, a, 2, rfl, hd, by decide, by decide, fun k k0 k1 => ?_⟩
        refine ⟨rfl, _, rfl, ?_⟩
        refine ite2 (fun _ => ?_) (fun _ => ?_)
        · refine ⟨_, rfl, _, rfl, _, _, rfl, _, _, rfl, rfl, a, _, rfl, hd, ?_, ?_, fun x x0 x1 => ?_⟩
          · split <;> omega
          · split <;> omega
          · refine ⟨_, rfl, x0, ?_, rfl⟩
            revert x1
            split <;> omega
        · exact ⟨_, rfl, by decide, by omega, rfl⟩
      rintro σ H' ⟨x, rfl, x0, x1, rfl⟩
      refine ⟨fun σ H' => ∃ y : Int, σ = [some (.ref a), some (.int s), some (.bl ad), some (.int L), some (.int x), some (.int y)] ∧ 0 ≤ y ∧ x + y ≤ L ∧ H = H', ?_, ?_⟩
      · refine ⟨_, rfl, a, 2, rfl, hd, by decide, by decide, fun k k0 k1 => ?_⟩
        refine ⟨rfl, _, rfl, ?_⟩
        refine ite2 (fun _ => ?_) (fun _ => ?_)
        · refine ⟨_, rfl, _, rfl, _, rfl, _, _, rfl, rfl, _, _, rfl, _, _, rfl, rfl, a, _, rfl, hd, ?_, ?_, fun y y0 y1 => ?_⟩
          · split <;> omega
          · split <;> omega
          · refine ⟨_, rfl, y0, ?_, rfl⟩
            revert y1
            split <;> omega
        · exact ⟨_, rfl, by decide, by omega, rfl⟩
      rintro σ H' ⟨y, rfl, y0, y1, rfl⟩
      refine ⟨_, rfl, _, rfl, _, rfl, a, rfl, hd, fun u p H2 e2 hp kp => ?_⟩
      refine ⟨_, rfl, _, rfl, (by show 5 ≤ sizeLine; decide), fun l hl => ?_⟩
      have e3 := Ex.new (o := .tup [.int s, .int L, u, .int x, .int y]) hl
      exact q _ ⟨s, L, some p, x, y⟩ _ (e2.trans e3) ⟨l, u, rfl, upd_same, hp.tk (TK.ex e3)⟩ ⟨s0, s1, l0, l1, x0, y0, y1, kp⟩ rfl ⟨fun h => absurd h had, fun _ => ⟨p, rfl⟩⟩

abbrev s_l_clips : Stmt := top 58
theorem sc_l_clips : FnScope ["deck", "most", "adjusts", "clips", "start", "k", "clip"] ["deck", "most", "adjusts"] (defScope s_l_clips) := ⟨rfl, rfl, rfl, by decide +kernel, rfl, by decide +kernel, by decide +kernel⟩
def spClipsA (K : PySem.W.Frag) : Sp := fun vs H Q _ => ∃ a m ad, vs = [.ref a, .int m, .bl ad] ∧ DeckAt K H a ∧ 0 ≤ m ∧ m ≤ 10 ∧ ∀ p us cs H', Ex H H' → H' p = some (.tup us) → ClsV H' us cs → cs.length ≤ m.toNat → Good (5300 + 410 * m) cs → (∀ c ∈ cs, AdjOk ad c) → Q (.ref p) H'
theorem ok_l_clips {f : Addr} {fd : FuncData} (F : Fun K "_law_clips" "_law_clips" s_l_clips f fd) (T : Txt K mg) (D_l_draw : Def P w K mg base CX0 "_law_draw" 1 ["deck", "bound"] (spDraw K))
    (D_l_clip : Def P w K mg base CX0 "_law_clip" 3 ["deck", "start", "adjusts"] (spClipB K)) : FnOk P w K mg base CX0 4 f fd ["deck", "most", "adjusts"] (spClipsA K) := by
  refine F.ok sc_l_clips (fun vs H Q E h => ?_) (fun cdv A outer s H vs Q E hr h => ?_)
  · obtain ⟨a, m, ad, rfl, _⟩ := h
    rfl
  · obtain ⟨a, m, ad, rfl, hd, m0, m1, q⟩ := h
    refine ⟨_, (pss_cons (ps_set (i := 3) sc_l_clips.nd rfl (by first | exact Or.inl rfl | exact Or.inr rfl) (pe_tup pa_nil))
      (pss_cons (ps_set (i := 4) sc_l_clips.nd rfl (by first | exact Or.inl rfl | exact Or.inr rfl) (pe_call D_l_draw.ok (hr.mono (by decide)) rfl D_l_draw.mgf D_l_draw.kp D_l_draw.b .nil pass0 (pa_cons (pv 0) (pa_cons pe_int pa_nil))))
      (pss_cut (ps_if (pt_cmpR op_eq (pe_call D_l_draw.ok (hr.mono (by decide)) rfl D_l_draw.mgf D_l_draw.kp D_l_draw.b .nil pass0 (pa_cons (pv 0) (pa_cons pe_int pa_nil))) pe_int (nomark _))
        (pss_one (ps_set (i := 4) sc_l_clips.nd rfl (by first | exact Or.inl rfl | exact Or.inr rfl) (pe_op op_add pe_int (pe_call D_l_draw.ok (hr.mono (by decide)) rfl D_l_draw.mgf D_l_draw.kp D_l_draw.b .nil pass0 (pa_cons (pv 0) (pa_cons pe_int pa_nil))))))
        pss_nil)
      (pss_cons (ps_for PassesOwn.never rfl (pi_range1 (by rfl) T.range_ (pa_cons (pe_call D_l_draw.ok (hr.mono (by decide)) rfl D_l_draw.mgf D_l_draw.kp D_l_draw.b .nil pass0 (pa_cons (pv 0) (pa_cons (pe_op op_add (pv 1) pe_int) pa_nil))) pa_nil)) (pg_name (i := 5) sc_l_clips.nd rfl (by first | exact Or.inl rfl | exact Or.inr rfl))
        (pss_cons (ps_set (i := 6) sc_l_clips.nd rfl (by first | exact Or.inl rfl | exact Or.inr rfl) (pe_call D_l_clip.ok (hr.mono (by decide)) rfl D_l_clip.mgf D_l_clip.kp D_l_clip.b .nil pass0 (pa_cons (pv 0) (pa_cons (pv 4) (pa_cons (pv 2) pa_nil)))))
        (pss_cut (ps_if (PW.pt (pw_and (pt_cmpR op_gt (pv 5) pe_int (nomark _)) (pw_and1 (pt_cmpR op_eq (pe_call D_l_draw.ok (hr.mono (by decide)) rfl D_l_draw.mgf D_l_draw.kp D_l_draw.b .nil pass0 (pa_cons (pv 0) (pa_cons pe_int pa_nil))) pe_int (nomark _)))))
          (pss_one (ps_set (i := 6) sc_l_clips.nd rfl (by first | exact Or.inl rfl | exact Or.inr rfl) (pe_op (kcatA K) (pe_op (kcatA K) (pe_slice (kslA K) (pv 6) po_none (po_some pe_int)) (pe_tup (pa_cons (pe_ix (kixT K) (pe_ix (kixT K) (pv 3) (pe_op op_sub (pv 5) pe_int) (fun _ _ => rfl)) pe_int (fun _ _ => rfl)) pa_nil))) (pe_slice (kslA K) (pv 6) (po_some pe_int) po_none))))
          pss_nil)
        (pss_cons (ps_set (i := 3) sc_l_clips.nd rfl (by first | exact Or.inl rfl | exact Or.inr rfl) (pe_op (kcatA K) (pv 3) (pe_tup (pa_cons (pv 6) pa_nil))))
        (pss_one (ps_set (i := 4) sc_l_clips.nd rfl (by first | exact Or.inl rfl | exact Or.inr rfl) (pe_op op_add (pe_op op_add (pv 4) (pe_ix (kixT K) (pv 6) pe_int (fun _ _ => rfl))) (pe_ix (kixL K) (pe_lst (pa_cons pe_int (pa_cons pe_int (pa_cons pe_int (pa_cons pe_int (pa_cons pe_int pa_nil)))))) (pe_call D_l_draw.ok (hr.mono (by decide)) rfl D_l_draw.mgf D_l_draw.kp D_l_draw.b .nil pass0 (pa_cons (pv 0) (pa_cons pe_int pa_nil))) (fun _ _ => rfl)))))))))
      (pss_one (ps_ret (pv 3))))))), ?_⟩
    refine ⟨(by show 0 ≤ sizeLine; decide), fun p0 hp0 => ?_⟩
    have e0 := Ex.new (o := .tup []) hp0
    have k0 : upd H p0 (.tup []) p0 = some (.tup []) := upd_same
    generalize upd H p0 (.tup []) = H0 at e0 k0 ⊢
    have hd0 := hd.mono e0
    refine ⟨_, rfl, a, 6, rfl, hd0, by decide, by decide, fun st st0 st1 => ?_⟩
    refine ⟨fun σ H' => ∃ st : Int, σ = [some (.ref a), some (.int m), some (.bl ad), some (.ref p0), some (.int st), none, none] ∧ 0 ≤ st ∧ st ≤ 5300 ∧ H0 = H', ?_, ?_⟩
    · refine ⟨_, rfl, a, 24, rfl, hd0, by decide, by decide, fun k k0 k1 => ?_⟩
      refine ⟨rfl, _, rfl, ?_⟩
      refine ite2 (fun _ => ?_) (fun _ => ?_)
      · refine ⟨_, rfl, a, 300, rfl, hd0, by decide, by decide, fun x x0 x1 => ?_⟩
        refine ⟨_, _, rfl, rfl, ?_⟩
        exact ⟨_, rfl, by omega, by omega, rfl⟩
      · exact ⟨_, rfl, st0, by omega, rfl⟩
    rintro σ H' ⟨st, rfl, st0, st1, rfl⟩
    refine ⟨_, rfl, _, rfl, _, _, rfl, rfl, a, _, rfl, hd0, by omega, by omega, fun n n0 n1 => ?_⟩
    refine ⟨_, rfl, by omega, by omega, ?_⟩
    refine for_range (lo := 0) (n := n.toNat) (fun i σ H' => Ex H H' ∧ ∃ (p : Addr) (us : List V) (cs : List Cl) (st : Int) (x y : Option V), σ = [some (.ref a), some (.int m), some (.bl ad), some (.ref p), some (.int st), x, y] ∧ H' p = some (.tup us) ∧ ClsV H' us cs ∧ (∀ c ∈ cs, c.Ok 50000) ∧ cs.length = i ∧ 0 ≤ st ∧ st ≤ 5300 + 410 * i ∧ (∀ c ∈ cs, c.fin ≤ st) ∧ Apart cs ∧ ∀ c ∈ cs, AdjOk ad c) ⟨e0, p0, [], [], st, _, _, rfl, k0, .nil, by simp, rfl, st0, by omega, by simp, List.Pairwise.nil, by simp⟩ ?_ ?_
    · rintro i σ H1 hi ⟨e1, p, us, cs, st, x, y, rfl, hU, hC, kC, hn, st0, st1, ls, ap, aj⟩
      have hul := hC.length
      refine ⟨_, rfl, _, rfl, _, rfl, a, st, ad, rfl, hd.mono e1, st0, by omega, fun cv c H2 e2 hc kc es ac => ?_⟩
      have hU2 := e2 _ _ hU
      have hC2 := hC.tk (TK.ex e2)
      have hd2 := (hd.mono e1).mono e2
      refine ⟨fun σ H' => ∃ (cv : V) (c : Cl), σ = [some (.ref a), some (.int m), some (.bl ad), some (.ref p), some (.int st), some (.int (0 + (i : Int))), some cv] ∧ Ex H2 H' ∧ ClV H' cv c ∧ c.Ok 50000 ∧ c.s = st ∧ AdjOk ad c, ?_, ?_⟩
      · refine ⟨_, rfl, _, _, rfl, rfl, _, rfl, ?_⟩
        refine ite2 (fun pos => ?_) (fun _ => ⟨cv, c, rfl, Ex.refl _, hc, kc, es, ac⟩)
        have pos := of_decide_eq_true pos
        refine ⟨_, rfl, a, 3, rfl, hd2, by decide, by decide, fun k k0 k1 => ?_⟩
        refine ⟨rfl, _, rfl, ?_⟩
        refine ite2 (fun _ => ?_) (fun _ => ⟨cv, c, rfl, Ex.refl _, hc, kc, es, ac⟩)
        obtain ⟨ca, u, rfl, hca, hu⟩ := id hc
        refine ⟨_, rfl, _, rfl, ?_⟩
        refine slA hca fun t1 H3 e3 ht1 => ?_
        have ht1 : H3 t1 = some (.tup [.int c.s, .int c.n]) := ht1
        have hi1 : i - 1 < us.length := by omega
        have hux : us[i - 1]? = some us[i - 1] := List.getElem?_eq_getElem hi1
        obtain ⟨dp, hdp, hdv⟩ := pr_get hC2 hux
        generalize us[i - 1] = uu at hux hdv
        obtain ⟨da, du, rfl, hda, hdu⟩ := hdv
        have ati : atI us (0 + (i : Int) - 1) = some (.ref da) := by
          rw [show 0 + (i : Int) - 1 = ((i - 1 : Nat) : Int) by omega]
          exact atI_nat hux
        refine ⟨_, rfl, _, rfl, _, _, rfl, rfl, p, _, _, _, rfl, rfl, SqT.of (e3 _ _ hU2), ati, da, _, _, _, rfl, rfl, SqT.of (e3 _ _ hda), rfl, ?_⟩
        refine ⟨(by show 1 ≤ sizeLine; decide), fun t2 ht2 => ?_⟩
        have f2 := Ex.new (o := .tup [du]) ht2
        have k2 : upd H3 t2 (.tup [du]) t2 = some (.tup [du]) := upd_same
        generalize upd H3 t2 (.tup [du]) = H4 at f2 k2 ⊢
        refine catA (f2 _ _ ht1) k2 (by show 3 ≤ sizeLine; decide) fun t3 H5 e5 ht3 => ?_
        have ht3 : H5 t3 = some (.tup [.int c.s, .int c.n, du]) := ht3
        have e25 := (e3.trans f2).trans e5
        refine ⟨_, rfl, _, rfl, ?_⟩
        refine slA (e25 _ _ hca) fun t4 H6 e6 ht4 => ?_
        have ht4 : H6 t4 = some (.tup [.int c.fi, .int c.fo]) := ht4
        refine catA (e6 _ _ ht3) ht4 (by show 5 ≤ sizeLine; decide) fun t5 H7 e7 ht5 => ?_
        have ht5 : H7 t5 = some (.tup [.int c.s, .int c.n, du, .int c.fi, .int c.fo]) := ht5
        have e27 := (e25.trans e6).trans e7
        refine ⟨.ref t5, ⟨c.s, c.n, dp.pa, c.fi, c.fo⟩, rfl, e27, ⟨t5, du, rfl, ht5, hdu.tk (TK.ex e27)⟩, ?_⟩
        have kd := kC dp (List.mem_of_getElem? hdp)
        exact ⟨⟨kc.s0, kc.s1, kc.n1, kc.n2, kc.fi0, kc.fo0, kc.fs, kd.pa⟩, es, fun h => ⟨((aj dp (List.mem_of_getElem? hdp)).1 h).1, (ac.1 h).2⟩, (aj dp (List.mem_of_getElem? hdp)).2⟩
      rintro σ H3 ⟨cv, c, rfl, e3, hc, kc, es, ac⟩
      have hU3 := e3 _ _ hU2
      have hC3 := hC2.tk (TK.ex e3)
      obtain ⟨ca, u, rfl, hca, hu⟩ := id hc
      refine ⟨_, rfl, _, rfl, (by show 1 ≤ sizeLine; decide), fun t1 ht1 => ?_⟩
      have f1 := Ex.new (o := .tup [.ref ca]) ht1
      have k1 : upd H3 t1 (.tup [.ref ca]) t1 = some (.tup [.ref ca]) := upd_same
      generalize upd H3 t1 (.tup [.ref ca]) = H4 at f1 k1 ⊢
      refine catA (f1 _ _ hU3) k1 (Nat.le_of_lt (slineL (by simp only [List.length_cons, List.length_nil]; omega))) fun p2 H5 e5 hp2 => ?_
      have e35 := f1.trans e5
      have hd5 := (hd2.mono e3).mono e35
      have hc5 := hc.tk (TK.ex e35)
      refine ⟨_, rfl, _, rfl, ca, _, _, _, rfl, rfl, SqT.of (e35 _ _ hca), rfl, _, _, rfl, rfl, ?_⟩
      refine ⟨(by show 5 ≤ sizeLine; decide), fun l hl => ?_⟩
      have f6 := Ex.new (o := .lst [.int 0, .int 0, .int 1, .int 3, .int 7]) hl
      have k6 : upd H5 l (.lst [.int 0, .int 0, .int 1, .int 3, .int 7]) l = some (.lst ([0, 0, 1, 3, 7].map V.int)) := upd_same
      generalize upd H5 l (.lst [.int 0, .int 0, .int 1, .int 3, .int 7]) = H6 at f6 k6 ⊢
      refine ⟨_, rfl, a, 5, rfl, hd5.mono f6, by decide, by decide, fun j j0 j1 => ?_⟩
      obtain ⟨b, hb, exb⟩ := pickI (ns := [0, 0, 1, 3, 7]) j0 j1
      simp only [List.mem_cons, List.not_mem_nil, or_false] at hb
      refine ⟨l, _, j, _, rfl, rfl, SqL.of k6, exb, _, _, rfl, rfl, ?_⟩
      have n1' := kc.n1
      have n2' := kc.n2
      have e36 := e35.trans f6
      refine ⟨((e1.trans e2).trans e3).trans e36, p2, us ++ [.ref ca], cs ++ [c], _, _, _, rfl, f6 _ _ hp2, pr_append (hC3.tk (TK.ex e36)) (.cons (hc.tk (TK.ex e36)) .nil), fun z hz => ?_, by simp [hn], by omega, by omega, fun z hz => ?_, List.pairwise_append.mpr ⟨ap, List.pairwise_singleton _ _, fun x hx y hy => by rw [List.mem_singleton.mp hy]; have := ls x hx; omega⟩, fun z hz => ?_⟩
      · rcases List.mem_append.mp hz with z1 | z1
        · exact kC z z1
        · rw [List.mem_singleton.mp z1]; exact kc
      · rcases List.mem_append.mp hz with z1 | z1
        · have := ls z z1
          omega
        · rw [List.mem_singleton.mp z1]
          unfold Cl.fin
          omega
      · rcases List.mem_append.mp hz with z1 | z1
        · exact aj z z1
        · rw [List.mem_singleton.mp z1]
          exact ac
    · rintro σ H1 ⟨e1, p, us, cs, st, x, y, rfl, hU, hC, kC, hn, st0, st1, ls, ap, aj⟩
      exact ⟨_, rfl, q p us cs H1 e1 hU hC (by omega) ⟨ap, kC, fun c hc => by have := ls c hc; omega⟩ aj⟩

abbrev s_l_end : Stmt := top 59
theorem sc_l_end : FnScope ["clip"] ["clip"] (defScope s_l_end) := ⟨rfl, rfl, rfl, by decide +kernel, rfl, by decide +kernel, by decide +kernel⟩
theorem ok_l_end {f : Addr} {fd : FuncData} (F : Fun K "_law_end" "_law_end" s_l_end f fd) (T : Txt K mg) : FnOk P w K mg base CX0 1 f fd ["clip"] (spEnd K) := by
  refine F.ok sc_l_end (fun vs H Q E h => ?_) (fun cdv A outer s H vs Q E hr h => ?_)
  · obtain ⟨cv, c, rfl, _⟩ := h
    rfl
  · obtain ⟨cv, c, rfl, ⟨a, u, rfl, ha, hu⟩, q⟩ := h
    refine ⟨_, (pss_one (ps_ret (pe_op op_add (pe_ix (kixT K) (pv 0) pe_int (fun _ _ => rfl)) (pe_ix (kixT K) (pv 0) pe_int (fun _ _ => rfl))))), ?_⟩
    exact ⟨_, rfl, a, _, _, _, rfl, rfl, SqT.of ha, rfl, _, rfl, a, _, _, _, rfl, rfl, SqT.of ha, rfl, _, _, rfl, rfl, q⟩

abbrev s_l_frame : Stmt := top 60
theorem sc_l_frame : FnScope ["deck", "clips", "clip", "end", "near"] ["deck", "clips"] (defScope s_l_frame) := ⟨rfl, rfl, rfl, by decide +kernel, rfl, by decide +kernel, by decide +kernel⟩
def spFrame (K : PySem.W.Frag) : Sp := fun vs H Q _ => ∃ (d a : Addr) (us : List V) (cs : List Cl) (B : Int), vs = [.ref d, .ref a] ∧ DeckAt K H d ∧ H a = some (.tup us) ∧ ClsV H us cs ∧ Good B cs ∧ 100 ≤ B ∧ B ≤ 20000 ∧ cs.length ≤ 100 ∧ ∀ f H', Ex H H' → 0 ≤ f → f ≤ B + 2 → Q (.int f) H'
theorem ok_l_frame {f : Addr} {fd : FuncData} (F : Fun K "_law_frame" "_law_frame" s_l_frame f fd) (T : Txt K mg) (D_l_draw : Def P w K mg base CX0 "_law_draw" 1 ["deck", "bound"] (spDraw K)) (D_l_end : Def P w K mg base CX0 "_law_end" 1 ["clip"] (spEnd K)) :
    FnOk P w K mg base CX0 2 f fd ["deck", "clips"] (spFrame K) := by
  refine F.ok sc_l_frame (fun vs H Q E h => ?_) (fun cdv A outer s H vs Q E hr h => ?_)
  · obtain ⟨d, a, us, cs, B, rfl, _⟩ := h
    rfl
  · obtain ⟨d, a, us, cs, B, rfl, hd, ha, hC, gd, B0, B1, lc, q⟩ := h
    have ok : ∀ c ∈ cs, c.Ok 50000 ∧ c.fin ≤ B := fun c hc => ⟨gd.ok c hc, gd.fin c hc⟩
    have lu := hC.length
    refine ⟨_, (pss_cons (ps_if (PW.pt (pw_or (pt_cmpR op_eq (pe_callB (klen K) (by rfl) T.len_ PySem.boot_len (pa_cons (pv 1) pa_nil)) pe_int (nomark _)) (pw_or1 (pt_cmpR op_eq (pe_call D_l_draw.ok (hr.mono (by decide)) rfl D_l_draw.mgf D_l_draw.kp D_l_draw.b .nil pass0 (pa_cons (pv 0) (pa_cons pe_int pa_nil))) pe_int (nomark _)))))
        (pss_one (ps_ret (pe_call D_l_draw.ok (hr.mono (by decide)) rfl D_l_draw.mgf D_l_draw.kp D_l_draw.b .nil pass0 (pa_cons (pv 0) (pa_cons pe_int pa_nil)))))
        pss_nil)
      (pss_cons (ps_set (i := 2) sc_l_frame.nd rfl (by first | exact Or.inl rfl | exact Or.inr rfl) (pe_ix (kixT K) (pv 1) (pe_call D_l_draw.ok (hr.mono (by decide)) rfl D_l_draw.mgf D_l_draw.kp D_l_draw.b .nil pass0 (pa_cons (pv 0) (pa_cons (pe_callB (klen K) (by rfl) T.len_ PySem.boot_len (pa_cons (pv 1) pa_nil)) pa_nil))) (fun _ _ => rfl)))
      (pss_cons (ps_set (i := 3) sc_l_frame.nd rfl (by first | exact Or.inl rfl | exact Or.inr rfl) (pe_call D_l_end.ok (hr.mono (by decide)) rfl D_l_end.mgf D_l_end.kp D_l_end.b .nil pass0 (pa_cons (pv 2) pa_nil)))
      (pss_cons (ps_set (i := 4) sc_l_frame.nd rfl (by first | exact Or.inl rfl | exact Or.inr rfl) (pe_ix (kixL K) (pe_lst (pa_cons (pe_ix (kixT K) (pv 2) pe_int (fun _ _ => rfl)) (pa_cons (pv 3) (pa_cons (pe_op op_add (pe_ix (kixT K) (pv 2) pe_int (fun _ _ => rfl)) (pe_ix (kixT K) (pv 2) pe_int (fun _ _ => rfl))) (pa_cons (pe_op op_sub (pv 3) (pe_ix (kixT K) (pv 2) pe_int (fun _ _ => rfl))) (pa_cons (pe_op op_add (pe_ix (kixT K) (pv 2) pe_int (fun _ _ => rfl)) (pe_op op_fdiv (pe_ix (kixT K) (pv 2) pe_int (fun _ _ => rfl)) pe_int)) pa_nil)))))) (pe_call D_l_draw.ok (hr.mono (by decide)) rfl D_l_draw.mgf D_l_draw.kp D_l_draw.b .nil pass0 (pa_cons (pv 0) (pa_cons pe_int pa_nil))) (fun _ _ => rfl)))
      (pss_one (ps_ret (pe_callB (call_max2 rfl) (by rfl) T.max_ bt_max (pa_cons pe_int (pa_cons (pe_op op_sub (pe_op op_add (pv 4) (pe_call D_l_draw.ok (hr.mono (by decide)) rfl D_l_draw.mgf D_l_draw.kp D_l_draw.b .nil pass0 (pa_cons (pv 0) (pa_cons pe_int pa_nil)))) pe_int) pa_nil))))))))), ?_⟩
    refine ⟨_, rfl, a, us, rfl, .inr (SqT.of ha), rfl, _, rfl, ?_⟩
    by_cases h0 : us.length = 0
    · rw [decide_eq_true (show V.int (us.length : Int) = V.int 0 from congrArg V.int (by omega))]
      refine iteT ?_
      exact iteT ⟨_, rfl, d, 60, rfl, hd, by decide, by decide, fun f f0 f1 => q f _ (Ex.refl _) f0 (by omega)⟩
    rw [decide_eq_false (show ¬ V.int (us.length : Int) = V.int 0 from fun e => h0 (by injection e with e; omega))]
    refine iteF ?_
    refine ⟨_, rfl, d, 4, rfl, hd, by decide, by decide, fun z _ _ => ?_⟩
    refine ⟨rfl, _, rfl, ?_⟩
    refine ite2 (fun _ => ⟨_, rfl, d, 60, rfl, hd, by decide, by decide, fun f f0 f1 => q f _ (Ex.refl _) f0 (by omega)⟩) (fun _ => ?_)
    refine ⟨_, rfl, _, rfl, _, rfl, a, us, rfl, .inr (SqT.of ha), d, _, rfl, hd, by omega, by omega, fun k k0 k1 => ?_⟩
    obtain ⟨m, rfl⟩ := Int.eq_ofNat_of_zero_le k0
    have hm : us[m]? = some us[m] := List.getElem?_eq_getElem (by omega)
    obtain ⟨c, hc, hcv⟩ := pr_get hC hm
    refine ⟨a, us, (m : Int), _, rfl, rfl, SqT.of ha, atI_nat hm, ?_⟩
    generalize us[m] = uu at hcv
    obtain ⟨ca, u, rfl, hca, hu⟩ := id hcv
    have kc := ok c (List.mem_of_getElem? hc)
    obtain ⟨⟨y1, y2, y3, y4, y5, y6, y7, _⟩, y9⟩ := kc
    unfold Cl.fin at y9
    refine ⟨_, rfl, .ref ca, c, rfl, hcv, ?_⟩
    refine ⟨_, rfl, ca, _, _, _, rfl, rfl, SqT.of hca, rfl, _, rfl, _, rfl, ca, _, _, _, rfl, rfl, SqT.of hca, rfl, _, rfl, ca, _, _, _, rfl, rfl, SqT.of hca, rfl, _, _, rfl, rfl, _, rfl, _, rfl, ca, _, _, _, rfl, rfl, SqT.of hca, rfl, _, _, rfl, rfl, _, rfl, ca, _, _, _, rfl, rfl, SqT.of hca, rfl, _, rfl, ca, _, _, _, rfl, rfl, SqT.of hca, rfl, _, _, rfl, rfl, ⟨by decide, by decide⟩, _, _, rfl, rfl, ?_⟩
    refine ⟨(by show 5 ≤ sizeLine; decide), fun l hl => ?_⟩
    obtain ⟨ns, hns⟩ : ∃ n : List Int, n = [c.s, c.fin, c.s + c.fi, c.fin - c.fo, c.s + c.n / 2] := ⟨_, rfl⟩
    have e1 := Ex.new (o := .lst (ns.map V.int)) hl
    have k1 : upd H l (.lst (ns.map V.int)) l = some (.lst (ns.map V.int)) := upd_same
    have e0 : (ns.map V.int) = [.int c.s, .int c.fin, .int (c.s + c.fi), .int (c.fin - c.fo), .int (c.s + c.n / 2)] := by rw [hns]; rfl
    rw [← e0]
    generalize upd H l (.lst (ns.map V.int)) = H1 at e1 k1 ⊢
    refine ⟨_, rfl, d, 5, rfl, hd.mono e1, by decide, by decide, fun j j0 j1 => ?_⟩
    obtain ⟨b, hb, eb⟩ := pickI (ns := ns) j0 (by rw [hns]; exact j1)
    refine ⟨l, _, j, _, rfl, rfl, SqL.of k1, eb, ?_⟩
    have bb : 0 ≤ b ∧ b ≤ B := by
      rw [hns] at hb
      unfold Cl.fin at hb
      simp only [List.mem_cons, List.not_mem_nil, or_false] at hb
      rcases hb with rfl | rfl | rfl | rfl | rfl <;> omega
    refine ⟨_, rfl, _, rfl, d, 3, rfl, hd.mono e1, by decide, by decide, fun z z0 z1 => ?_⟩
    refine ⟨_, _, rfl, rfl, _, _, rfl, rfl, _, _, rfl, q _ _ e1 ?_ ?_⟩
    · split <;> omega
    · split <;> omega

abbrev s_l_level : Stmt := top 61
theorem sc_l_level : FnScope ["clip", "frame", "before", "behind"] ["clip", "frame"] (defScope s_l_level) := ⟨rfl, rfl, rfl, by decide +kernel, rfl, by decide +kernel, by decide +kernel⟩
theorem ok_l_level {f : Addr} {fd : FuncData} (F : Fun K "_law_level" "_law_level" s_l_level f fd) (T : Txt K mg) (D_l_end : Def P w K mg base CX0 "_law_end" 1 ["clip"] (spEnd K)) : FnOk P w K mg base CX0 2 f fd ["clip", "frame"] (spLevel K) := by
  refine F.ok sc_l_level (fun vs H Q E h => ?_) (fun cdv A outer s H vs Q E hr h => ?_)
  · obtain ⟨cv, c, m, f, rfl, _⟩ := h
    rfl
  · obtain ⟨cv, c, m, f, rfl, hc, k, hm, f0, f1, q⟩ := h
    obtain ⟨a, u, rfl, ha, hu⟩ := id hc
    have := k.s0
    have := k.s1
    have := k.n1
    have := k.n2
    have := k.fi0
    have := k.fo0
    have := k.fs
    refine ⟨_, (pss_cons (ps_set (i := 2) sc_l_level.nd rfl (by first | exact Or.inl rfl | exact Or.inr rfl) (pe_op op_sub (pv 1) (pe_ix (kixT K) (pv 0) pe_int (fun _ _ => rfl))))
      (pss_cons (ps_set (i := 3) sc_l_level.nd rfl (by first | exact Or.inl rfl | exact Or.inr rfl) (pe_op op_sub (pe_op op_sub (pe_call D_l_end.ok (hr.mono (by decide)) rfl D_l_end.mgf D_l_end.kp D_l_end.b .nil pass0 (pa_cons (pv 0) pa_nil)) pe_int) (pv 1)))
      (pss_cons (ps_if (pt_cmpR op_lt (pv 2) (pe_ix (kixT K) (pv 0) pe_int (fun _ _ => rfl)) (nomark _))
        (pss_one (ps_ret (pe_op op_fdiv (pe_op op_mul pe_int (pe_op op_add (pv 2) pe_int)) (pe_op op_add (pe_ix (kixT K) (pv 0) pe_int (fun _ _ => rfl)) pe_int))))
        pss_nil)
      (pss_cons (ps_if (pt_cmpR op_lt (pv 3) (pe_ix (kixT K) (pv 0) pe_int (fun _ _ => rfl)) (nomark _))
        (pss_one (ps_ret (pe_op op_fdiv (pe_op op_mul pe_int (pe_op op_add (pv 3) pe_int)) (pe_op op_add (pe_ix (kixT K) (pv 0) pe_int (fun _ _ => rfl)) pe_int))))
        pss_nil)
      (pss_one (ps_ret pe_int)))))), ?_⟩
    refine ⟨_, rfl, _, rfl, a, _, _, _, rfl, rfl, SqT.of ha, rfl, _, _, rfl, rfl, ?_⟩
    refine ⟨_, rfl, _, c, rfl, hc, _, _, rfl, rfl, _, rfl, _, _, rfl, rfl, ?_⟩
    have eb : c.fin - 1 - f = c.n - (f - c.s) - 1 := by unfold Cl.fin; omega
    unfold Cl.fin at f1
    unfold Cl.lev at q
    rw [← eb] at q
    refine ⟨_, rfl, _, rfl, a, _, _, _, rfl, rfl, SqT.of ha, rfl, _, _, rfl, rfl, _, rfl, ?_⟩
    refine ite2 (fun c1 => ?_) (fun c1 => ?_)
    · rw [if_pos (of_decide_eq_true c1)] at q
      exact ⟨_, rfl, _, _, rfl, rfl, _, _, rfl, rfl, .inl ⟨by decide, by decide⟩, _, rfl, a, _, _, _, rfl, rfl, SqT.of ha, rfl, _, _, rfl, rfl, _, _, rfl, rfl, ⟨by omega, by omega⟩, q⟩
    · rw [if_neg (fun z => c1 (decide_eq_true z))] at q
      refine ⟨_, rfl, _, rfl, a, _, _, _, rfl, rfl, SqT.of ha, rfl, _, _, rfl, rfl, _, rfl, ?_⟩
      refine ite2 (fun c2 => ?_) (fun c2 => ?_)
      · rw [if_pos (of_decide_eq_true c2)] at q
        exact ⟨_, rfl, _, _, rfl, rfl, _, _, rfl, rfl, .inl ⟨by decide, by decide⟩, _, rfl, a, _, _, _, rfl, rfl, SqT.of ha, rfl, _, _, rfl, rfl, _, _, rfl, rfl, ⟨by omega, by omega⟩, q⟩
      · rw [if_neg (fun z => c2 (decide_eq_true z))] at q
        exact q

abbrev s_l_lane : Stmt := top 62
theorem sc_l_lane : FnScope ["clips", "frame", "clip"] ["clips", "frame"] (defScope s_l_lane) := ⟨rfl, rfl, rfl, by decide +kernel, rfl, by decide +kernel, by decide +kernel⟩
theorem ok_l_lane {f : Addr} {fd : FuncData} (F : Fun K "_law_lane" "_law_lane" s_l_lane f fd) (T : Txt K mg) (D_l_end : Def P w K mg base CX0 "_law_end" 1 ["clip"] (spEnd K)) (D_l_level : Def P w K mg base CX0 "_law_level" 2 ["clip", "frame"] (spLevel K)) : FnOk P w K mg base CX0 3 f fd ["clips", "frame"] (spLane K) := by
  refine F.ok sc_l_lane (fun vs H Q E h => ?_) (fun cdv A outer s H vs Q E hr h => ?_)
  · obtain ⟨a, us, cs, f, rfl, _⟩ := h
    rfl
  · obtain ⟨a, us, cs, f, rfl, hU, hC, kC, q⟩ := h
    refine ⟨_, (pss_cons (ps_for PassesOwn.never rfl (kpiT K (pv 0)) (pg_name (i := 2) sc_l_lane.nd rfl (by first | exact Or.inl rfl | exact Or.inr rfl))
        (pss_one (ps_if (PW.pt (pw_and (pt_cmpR op_le (pe_ix (kixT K) (pv 2) pe_int (fun _ _ => rfl)) (pv 1) (nomark _)) (pw_and1 (pt_cmpR op_lt (pv 1) (pe_call D_l_end.ok (hr.mono (by decide)) rfl D_l_end.mgf D_l_end.kp D_l_end.b .nil pass0 (pa_cons (pv 2) pa_nil)) (nomark _)))))
          (pss_one (ps_ret (pe_tup (pa_cons (pe_ix (kixT K) (pv 2) pe_int (fun _ _ => rfl)) (pa_cons (pe_call D_l_level.ok (hr.mono (by decide)) rfl D_l_level.mgf D_l_level.kp D_l_level.b .nil pass0 (pa_cons (pv 2) (pa_cons (pv 1) pa_nil))) pa_nil)))))
          pss_nil)))
      (pss_one (ps_ret pe_non))), ?_⟩
    have hul := hC.length
    refine ⟨_, rfl, a, rfl, ⟨us, SqT.of hU⟩, ?_⟩
    refine for_tup (K := K) (a := a) (xs := us) (fun i σ H' => H = H' ∧ (∃ x, σ = [some (.ref a), some (.int f), x]) ∧ ∀ j < i, ∀ d, cs[j]? = some d → ¬ d.here f) ⟨rfl, ⟨_, rfl⟩, fun j hj => absurd hj (Nat.not_lt_zero _)⟩ (fun i σ H' _ p => SqT.of (p.1 ▸ hU)) ?_ ?_
    · rintro i v σ H1 hv ⟨rfl, ⟨x, rfl⟩, hno⟩
      obtain ⟨c, hc, hcv⟩ := pr_get hC hv
      obtain ⟨ca, u, rfl, hca, hu⟩ := id hcv
      refine ⟨_, rfl, ca, _, _, _, rfl, rfl, SqT.of hca, rfl, _, rfl, _, _, rfl, rfl, _, rfl, ?_⟩
      have next : ¬ c.here f → H = H ∧ (∃ x, [some (V.ref a), some (.int f), some (.ref ca)] = [some (.ref a), some (.int f), x]) ∧ ∀ j < i + 1, ∀ d, cs[j]? = some d → ¬ d.here f := fun no =>
        ⟨rfl, ⟨_, rfl⟩, fun j hj d hd => by
          by_cases e : j = i
          · subst e
            rw [hc] at hd
            cases hd
            exact no
          · exact hno j (by omega) d hd⟩
      refine ite2 (fun c1 => ?_) (fun c1 => next fun z => c1 (decide_eq_true z.1))
      have c1 := of_decide_eq_true c1
      refine ⟨_, rfl, _, rfl, _, c, rfl, hcv, _, _, rfl, rfl, _, rfl, ?_⟩
      refine ite2 (fun c2 => ?_) (fun c2 => next fun z => c2 (decide_eq_true z.2))
      have c2 := of_decide_eq_true c2
      refine ⟨_, rfl, ca, _, _, _, rfl, rfl, SqT.of hca, rfl, ?_⟩
      refine ⟨_, rfl, _, rfl, _, c, 50000, f, rfl, hcv, kC.1 c (List.mem_of_getElem? hc), by decide, c1, c2, ?_⟩
      refine ⟨(by show 2 ≤ sizeLine; decide), fun t ht => ?_⟩
      have f1 := Ex.new (o := .tup [u, .int (c.lev f)]) ht
      exact q (some i) _ _ f1 ⟨c, hc, ⟨c1, c2⟩, hno⟩ ⟨c, t, u, hc, rfl, upd_same, hu.tk (TK.ex f1)⟩
    · rintro σ H1 ⟨rfl, ⟨x, rfl⟩, hno⟩
      refine q none _ H (Ex.refl _) (fun c hc => ?_) rfl
      obtain ⟨j, hj⟩ := List.getElem?_of_mem hc
      exact hno j (by rw [hul]; exact (List.getElem?_eq_some_iff.mp hj).1) c hj

abbrev s_l_frames : Stmt := top 63
theorem sc_l_frames : FnScope ["clips", "more", "marks", "clip", "found", "mark", "frame"] ["clips", "more"] (defScope s_l_frames) := ⟨rfl, rfl, rfl, by decide +kernel, rfl, by decide +kernel, by decide +kernel⟩
def spFrames (K : PySem.W.Frag) : Sp := fun vs H Q _ => ∃ a us cs b x, vs = [.ref a, .ref b] ∧ H a = some (.tup us) ∧ ClsV H us cs ∧ AllOk cs ∧ H b = some (.lst [.int x]) ∧ 0 ≤ x ∧ x ≤ 1000 ∧ ∀ (p : Addr) (ns : List Int) (H' : Hp), Ex H H' → H' p = some (.lst (ns.map V.int)) → Q (.ref p) H'
theorem flat_ints : ∀ ns : List Int, (ns.map V.int).all flatV = true
  | [] => rfl
  | _ :: ns => by rw [List.map_cons, List.all_cons, flat_ints ns]; rfl
theorem ok_l_frames {f : Addr} {fd : FuncData} (F : Fun K "_law_frames" "_law_frames" s_l_frames f fd) (T : Txt K mg) (D_l_end : Def P w K mg base CX0 "_law_end" 1 ["clip"] (spEnd K)) : FnOk P w K mg base CX0 2 f fd ["clips", "more"] (spFrames K) := by
  refine F.ok sc_l_frames (fun vs H Q E h => ?_) (fun cdv A outer s H vs Q E hr h => ?_)
  · obtain ⟨a, us, cs, b, x, rfl, _⟩ := h
    rfl
  · obtain ⟨a, us, cs, b, x, rfl, hU, hC, kC, hb, x0, x1, q⟩ := h
    refine ⟨_, (pss_cons (ps_set (i := 2) sc_l_frames.nd rfl (by first | exact Or.inl rfl | exact Or.inr rfl) (pe_op op_cat (pe_lst (pa_cons pe_int pa_nil)) (pv 1)))
      (pss_cons (ps_for PassesOwn.never rfl (kpiT K (pv 0)) (pg_name (i := 3) sc_l_frames.nd rfl (by first | exact Or.inl rfl | exact Or.inr rfl))
        (pss_one (ps_set (i := 2) sc_l_frames.nd rfl (by first | exact Or.inl rfl | exact Or.inr rfl) (pe_op op_cat (pv 2) (pe_lst (pa_cons (pe_ix (kixT K) (pv 3) pe_int (fun _ _ => rfl)) (pa_cons (pe_call D_l_end.ok (hr.mono (by decide)) rfl D_l_end.mgf D_l_end.kp D_l_end.b .nil pass0 (pa_cons (pv 3) pa_nil)) (pa_cons (pe_op op_add (pe_ix (kixT K) (pv 3) pe_int (fun _ _ => rfl)) (pe_ix (kixT K) (pv 3) pe_int (fun _ _ => rfl))) (pa_cons (pe_op op_sub (pe_call D_l_end.ok (hr.mono (by decide)) rfl D_l_end.mgf D_l_end.kp D_l_end.b .nil pass0 (pa_cons (pv 3) pa_nil)) (pe_ix (kixT K) (pv 3) pe_int (fun _ _ => rfl))) pa_nil)))))))))
      (pss_cons (ps_set (i := 4) sc_l_frames.nd rfl (by first | exact Or.inl rfl | exact Or.inr rfl) (pe_lst pa_nil))
      (pss_cons (ps_for PassesOwn.never rfl (kpiL K (pv 2)) (pg_name (i := 5) sc_l_frames.nd rfl (by first | exact Or.inl rfl | exact Or.inr rfl))
        (pss_one (ps_for PassesOwn.never rfl (pi_range2 (by rfl) T.range_ (pa_cons (pe_callB (call_max2 rfl) (by rfl) T.max_ bt_max (pa_cons pe_int (pa_cons (pe_op op_sub (pv 5) pe_int) pa_nil))) (pa_cons (pe_op op_add (pv 5) pe_int) pa_nil))) (pg_name (i := 6) sc_l_frames.nd rfl (by first | exact Or.inl rfl | exact Or.inr rfl))
          (pss_one (ps_if (pt_cmpR (knotin K) (pv 6) (pv 4) (by rfl))
            (pss_one (ps_expr (pe_bm PySem.F.plainAttrs_list PySem.F.slot_list_append PySem.F.type_list_append mt_append (pv 4) (pa_cons (pv 6) pa_nil))))
            pss_nil)))))
      (pss_one (ps_ret (pv 4))))))), ?_⟩
    have hul := hC.length
    have hcl := kC.2
    refine ⟨(by show 1 ≤ sizeLine; decide), fun l hl => ?_⟩
    have e1 := Ex.new (o := .lst [.int 0]) hl
    have k1 : upd H l (.lst [.int 0]) l = some (.lst [.int 0]) := upd_same
    generalize upd H l (.lst [.int 0]) = H1 at e1 k1 ⊢
    refine ⟨_, rfl, l, b, _, _, rfl, rfl, k1, e1 _ _ hb, (by show 2 ≤ sizeLine; decide), fun p hp => ?_⟩
    have e2 := Ex.new (o := .lst ([.int 0] ++ [.int x])) hp
    have k2 : upd H1 p (.lst ([.int 0] ++ [.int x])) p = some (.lst (([0, x] : List Int).map V.int)) := upd_same
    generalize upd H1 p (.lst ([.int 0] ++ [.int x])) = H2 at e2 k2 ⊢
    have hU2 := e2 _ _ (e1 _ _ hU)
    have hC2 := hC.tk (TK.ex (e1.trans e2))
    refine ⟨_, rfl, a, rfl, ⟨us, SqT.of hU2⟩, ?_⟩
    refine for_tup (K := K) (a := a) (xs := us) (fun i σ H' => Ex H2 H' ∧ ∃ (p : Addr) (ns : List Int) (v : Option V), σ = [some (.ref a), some (.ref b), some (.ref p), v, none, none, none] ∧ H' p = some (.lst (ns.map V.int)) ∧ ns.length = 2 + 4 * i ∧ ∀ z ∈ ns, 0 ≤ z ∧ z ≤ 100000) ⟨Ex.refl _, p, [0, x], none, rfl, k2, rfl, fun z hz => ?_⟩ (fun i σ H' _ p => SqT.of (p.1 _ _ hU2)) ?_ ?_
    · simp only [List.mem_cons, List.not_mem_nil, or_false] at hz
      omega
    · rintro i v σ H3 hv ⟨e3, p, ns, v', rfl, hp, hn, hz⟩
      obtain ⟨c, hc, hcv⟩ := pr_get hC2 hv
      have hi : i < us.length := (List.getElem?_eq_some_iff.mp hv).1
      have hcv := hcv.tk (TK.ex e3)
      obtain ⟨ca, u, rfl, hca, hu⟩ := id hcv
      have k := kC.1 c (List.mem_of_getElem? hc)
      have := k.s0
      have := k.s1
      have := k.n1
      have := k.n2
      have := k.fi0
      have := k.fo0
      have := k.fs
      have ef : c.fin = c.s + c.n := rfl
      refine ⟨_, rfl, _, rfl, ca, _, _, _, rfl, rfl, SqT.of hca, rfl, ?_⟩
      refine ⟨_, rfl, _, c, rfl, hcv, ?_⟩
      refine ⟨_, rfl, ca, _, _, _, rfl, rfl, SqT.of hca, rfl, _, rfl, ca, _, _, _, rfl, rfl, SqT.of hca, rfl, _, _, rfl, rfl, ?_⟩
      refine ⟨_, rfl, _, c, rfl, hcv, _, rfl, ca, _, _, _, rfl, rfl, SqT.of hca, rfl, _, _, rfl, rfl, ?_⟩
      refine ⟨(by show 4 ≤ sizeLine; decide), fun l hl => ?_⟩
      have f1 := Ex.new (o := .lst [.int c.s, .int c.fin, .int (c.s + c.fi), .int (c.fin - c.fo)]) hl
      have g1 : upd H3 l (.lst [.int c.s, .int c.fin, .int (c.s + c.fi), .int (c.fin - c.fo)]) l = some (.lst ([c.s, c.fin, c.s + c.fi, c.fin - c.fo].map V.int)) := upd_same
      generalize upd H3 l (.lst [.int c.s, .int c.fin, .int (c.s + c.fi), .int (c.fin - c.fo)]) = H4 at f1 g1 ⊢
      refine ⟨p, l, _, _, rfl, rfl, f1 _ _ hp, g1, Nat.le_of_lt (slineL (by simp only [List.length_map, List.length_cons, List.length_nil]; omega)), fun p2 hp2 => ?_⟩
      have f2 := Ex.new (o := .lst (ns.map V.int ++ [c.s, c.fin, c.s + c.fi, c.fin - c.fo].map V.int)) hp2
      refine ⟨(e3.trans f1).trans f2, p2, ns ++ [c.s, c.fin, c.s + c.fi, c.fin - c.fo], _, rfl, by rw [upd_same, List.map_append], by simp only [List.length_append, List.length_cons, List.length_nil]; omega, fun z hz' => ?_⟩
      rcases List.mem_append.mp hz' with z1 | z1
      · exact hz z z1
      · simp only [List.mem_cons, List.not_mem_nil, or_false] at z1
        omega
    · rintro σ H3 ⟨e3, p, ns, v', rfl, hp, hn, hz⟩
      refine ⟨(by show 0 ≤ sizeLine; decide), fun F hF => ?_⟩
      have f1 := Ex.new (o := .lst []) hF
      have g1 : upd H3 F (.lst []) F = some (.lst (([] : List Int).map V.int)) := upd_same
      generalize upd H3 F (.lst []) = H4 at f1 g1 ⊢
      have hp4 := f1 _ _ hp
      have hne : p ≠ F := fun z => by
        rw [z, hF] at hp
        cases hp
      refine ⟨_, rfl, p, rfl, ⟨_, SqL.of hp4⟩, ?_⟩
      refine for_list (K := K) (a := p) (xs := ns.map V.int) (fun i σ H' => Ex H3 H' ∧ ∃ (fs : List Int) (x y : Option V), σ = [some (.ref a), some (.ref b), some (.ref p), v', some (.ref F), x, y] ∧ H' F = some (.lst (fs.map V.int)) ∧ fs.length ≤ 5 * i) ⟨f1, [], _, _, rfl, g1, Nat.zero_le _⟩ (fun i σ H' _ z => SqL.of (z.1 _ _ hp)) ?_ ?_
      · rintro i v σ H5 hv ⟨e5, fs, x, y, rfl, hFs, hfl⟩
        rw [List.getElem?_map] at hv
        obtain ⟨mk, hmk, rfl⟩ := Option.map_eq_some_iff.mp hv
        have hi : i < ns.length := (List.getElem?_eq_some_iff.mp hmk).1
        obtain ⟨z0, z1⟩ := hz mk (List.mem_of_getElem? hmk)
        refine ⟨_, rfl, _, _, rfl, rfl, _, _, rfl, _, rfl, _, _, rfl, rfl, ?_⟩
        refine ⟨_, _, rfl, ⟨by split <;> omega, by split <;> omega, by omega, by omega⟩, ?_⟩
        have hlo : 0 ≤ (if mk - 2 > 0 then mk - 2 else 0) ∧ mk - 2 ≤ (if mk - 2 > 0 then mk - 2 else 0) := by
          split <;> omega
        generalize (if mk - 2 > 0 then mk - 2 else 0) = lo at hlo ⊢
        refine for_range (lo := lo) (n := (mk + 3 - lo).toNat) (fun j σ H' => Ex H3 H' ∧ ∃ (fs : List Int) (y : Option V), σ = [some (.ref a), some (.ref b), some (.ref p), v', some (.ref F), some (.int mk), y] ∧ H' F = some (.lst (fs.map V.int)) ∧ fs.length ≤ 5 * i + j) ⟨e5, fs, y, rfl, hFs, hfl⟩ ?_ ?_
        · rintro j σ H6 hj ⟨e6, fs, y, rfl, hFs, hfl⟩
          refine ⟨_, rfl, _, rfl, F, _, rfl, .inl (SqL.of hFs), rfl, flat_ints _, _, rfl, ?_⟩
          refine ite2 (fun _ => ?_) (fun _ => ?_)
          · refine ⟨_, rfl, .inl ⟨rfl, _, SqL.of hFs⟩, _, rfl, F, _, _, rfl, rfl, hFs, slineL (by rw [List.length_map]; omega), ?_⟩
            exact ⟨e6.mut hF, fs ++ [lo + (j : Int)], _, rfl, by rw [upd_same, List.map_append]; rfl, by rw [List.length_append]; simp; omega⟩
          · exact ⟨e6, fs, _, rfl, hFs, by omega⟩
        · rintro σ H6 ⟨e6, fs, y, rfl, hFs, hfl⟩
          exact ⟨e6, fs, _, _, rfl, hFs, by omega⟩
      · rintro σ H5 ⟨e5, fs, x, y, rfl, hFs, hfl⟩
        exact ⟨_, rfl, q F fs H5 (((e1.trans e2).trans e3).trans e5) hFs⟩

abbrev s_l_numbers : Stmt := top 71
theorem sc_l_numbers : FnScope ["deck", "word", "clips", "adjusts", "frame", "place"] ["deck", "word", "clips", "adjusts"] (defScope s_l_numbers) := ⟨rfl, rfl, rfl, by decide +kernel, rfl, by decide +kernel, by decide +kernel⟩
def spNumbers (K : PySem.W.Frag) : Sp := fun vs H Q _ => ∃ (d a : Addr) (w : Str) (us : List V) (cs : List Cl) (ad : Bool) (B : Int), vs = [.ref d, .str w, .ref a, .bl ad] ∧ DeckAt K H d ∧ H a = some (.tup us) ∧ ClsV H us cs ∧ Good B cs ∧ 100 ≤ B ∧ B ≤ 20000 ∧ cs.length ≤ 100 ∧ w ∈ words8 ∧
  ∀ n k H', Ex H H' → k.word = w → NumsV H' n k → AskOk cs.length B k → (∀ c, k = .place c → AdjOk ad c) → Q (.ref n) H'
theorem ok_l_numbers {f : Addr} {fd : FuncData} (F : Fun K "_law_numbers" "_law_numbers" s_l_numbers f fd) (T : Txt K mg) (D_l_draw : Def P w K mg base CX0 "_law_draw" 1 ["deck", "bound"] (spDraw K)) (D_l_frame : Def P w K mg base CX0 "_law_frame" 2 ["deck", "clips"] (spFrame K))
    (D_l_clip : Def P w K mg base CX0 "_law_clip" 3 ["deck", "start", "adjusts"] (spClipB K)) : FnOk P w K mg base CX0 4 f fd ["deck", "word", "clips", "adjusts"] (spNumbers K) := by
  refine F.ok sc_l_numbers (fun vs H Q E h => ?_) (fun cdv A outer s H vs Q E hr h => ?_)
  · obtain ⟨d, a, w, us, cs, ad, B, rfl, _⟩ := h
    rfl
  · obtain ⟨d, a, w, us, cs, ad, B, rfl, hd, ha, hC, gd, B0, B1, lc, hw, q⟩ := h
    have lu := hC.length
    refine ⟨_, (pss_cons (ps_set (i := 4) sc_l_numbers.nd rfl (by first | exact Or.inl rfl | exact Or.inr rfl) (pe_call D_l_frame.ok (hr.mono (by decide)) rfl D_l_frame.mgf D_l_frame.kp D_l_frame.b .nil pass0 (pa_cons (pv 0) (pa_cons (pv 2) pa_nil))))
      (pss_cons (ps_set (i := 5) sc_l_numbers.nd rfl (by first | exact Or.inl rfl | exact Or.inr rfl) (pe_call D_l_draw.ok (hr.mono (by decide)) rfl D_l_draw.mgf D_l_draw.kp D_l_draw.b .nil pass0 (pa_cons (pv 0) (pa_cons (pe_op op_add (pe_callB (klen K) (by rfl) T.len_ PySem.boot_len (pa_cons (pv 2) pa_nil)) pe_int) pa_nil))))
      (pss_cut (ps_if (pt_cmpR op_eq (pe_call D_l_draw.ok (hr.mono (by decide)) rfl D_l_draw.mgf D_l_draw.kp D_l_draw.b .nil pass0 (pa_cons (pv 0) (pa_cons pe_int pa_nil))) pe_int (nomark _))
        (pss_one (ps_set (i := 5) sc_l_numbers.nd rfl (by first | exact Or.inl rfl | exact Or.inr rfl) (pe_un un_neg pe_int)))
        pss_nil)
      (pss_cons (ps_if (pt_cmpR op_eq (pv 1) pe_str (nomark _))
        (pss_one (ps_ret (pe_lst (pa_cons (pv 4) pa_nil))))
        pss_nil)
      (pss_cons (ps_if (pt_cmpR op_eq (pv 1) pe_str (nomark _))
        (pss_one (ps_ret (pe_lst (pa_cons (pv 5) pa_nil))))
        pss_nil)
      (pss_cons (ps_if (pt_cmpR op_eq (pv 1) pe_str (nomark _))
        (pss_one (ps_ret (pe_lst (pa_cons (pv 5) (pa_cons (pe_op op_sub (pe_call D_l_draw.ok (hr.mono (by decide)) rfl D_l_draw.mgf D_l_draw.kp D_l_draw.b .nil pass0 (pa_cons (pv 0) (pa_cons pe_int pa_nil))) pe_int) pa_nil)))))
        pss_nil)
      (pss_cons (ps_if (pt_cmpR op_eq (pv 1) pe_str (nomark _))
        (pss_one (ps_ret (pe_lst (pa_cons (pv 5) (pa_cons (pe_op op_add (pe_op op_sub (pe_call D_l_frame.ok (hr.mono (by decide)) rfl D_l_frame.mgf D_l_frame.kp D_l_frame.b .nil pass0 (pa_cons (pv 0) (pa_cons (pv 2) pa_nil))) (pe_call D_l_draw.ok (hr.mono (by decide)) rfl D_l_draw.mgf D_l_draw.kp D_l_draw.b .nil pass0 (pa_cons (pv 0) (pa_cons pe_int pa_nil)))) pe_int) (pa_cons (pe_call D_l_draw.ok (hr.mono (by decide)) rfl D_l_draw.mgf D_l_draw.kp D_l_draw.b .nil pass0 (pa_cons (pv 0) (pa_cons pe_int pa_nil))) pa_nil))))))
        pss_nil)
      (pss_cons (ps_if (pt_cmpR op_eq (pv 1) pe_str (nomark _))
        (pss_one (ps_ret (pe_lst (pa_cons (pv 4) (pa_cons (pe_op op_add pe_int (pe_call D_l_draw.ok (hr.mono (by decide)) rfl D_l_draw.mgf D_l_draw.kp D_l_draw.b .nil pass0 (pa_cons (pv 0) (pa_cons pe_int pa_nil)))) pa_nil)))))
        pss_nil)
      (pss_cons (ps_if (pt_cmpR op_eq (pv 1) pe_str (nomark _))
        (pss_one (ps_ret (pe_lst (pa_cons (pe_call D_l_clip.ok (hr.mono (by decide)) rfl D_l_clip.mgf D_l_clip.kp D_l_clip.b .nil pass0 (pa_cons (pv 0) (pa_cons (pv 4) (pa_cons (pv 3) pa_nil)))) pa_nil))))
        pss_nil)
      (pss_one (ps_ret (pe_lst (pa_cons (pv 4) (pa_cons (pe_op op_add (pe_op op_add (pv 4) pe_int) (pe_call D_l_draw.ok (hr.mono (by decide)) rfl D_l_draw.mgf D_l_draw.kp D_l_draw.b .nil pass0 (pa_cons (pv 0) (pa_cons pe_int pa_nil)))) pa_nil)))))))))))))), ?_⟩
    refine ⟨_, rfl, _, rfl, d, a, us, cs, B, rfl, hd, ha, hC, gd, B0, B1, lc, fun f H1 e1 f0 f1 => ?_⟩
    have hd1 := hd.mono e1
    have ha1 := e1 _ _ ha
    have hC1 := hC.tk (TK.ex e1)
    refine ⟨_, rfl, _, rfl, a, us, rfl, .inr (SqT.of ha1), _, _, rfl, rfl, d, _, rfl, hd1, by omega, by omega, fun p p0 p1 => ?_⟩
    refine ⟨fun σ H' => ∃ p : Int, σ = [some (.ref d), some (.str w), some (.ref a), some (.bl ad), some (.int f), some (.int p)] ∧ -1 ≤ p ∧ p ≤ cs.length ∧ H1 = H', ?_, ?_⟩
    · refine ⟨_, rfl, d, 9, rfl, hd1, by decide, by decide, fun z _ _ => ?_⟩
      refine ⟨rfl, _, rfl, ?_⟩
      refine ite2 (fun _ => ?_) (fun _ => ?_)
      · exact ⟨_, rfl, -1, rfl, Int.le_refl _, by omega, rfl⟩
      · exact ⟨p, rfl, by omega, by omega, rfl⟩
    rintro σ _ ⟨p, rfl, p0, p1, rfl⟩
    unfold words8 at hw
    simp only [List.mem_cons, List.not_mem_nil, or_false] at hw
    rcases hw with rfl | rfl | rfl | rfl | rfl | rfl | rfl | rfl
    · refine ⟨_, rfl, rfl, _, rfl, ?_⟩
      refine iteE rfl ?_
      exact ⟨_, rfl, (by show 1 ≤ sizeLine; decide), fun r hr => q r (.cut f) _ (e1.trans (Ex.new hr)) rfl upd_same ⟨f0, f1⟩ (fun c h => by cases h)⟩
    · refine ⟨_, rfl, rfl, _, rfl, ?_⟩
      refine iteW (show ("join" : Str) ≠ "cut" by decide +kernel) ?_
      refine ⟨_, rfl, rfl, _, rfl, ?_⟩
      refine iteE rfl ?_
      exact ⟨_, rfl, (by show 1 ≤ sizeLine; decide), fun r hr => q r (.join p) _ (e1.trans (Ex.new hr)) rfl upd_same ⟨p0, p1⟩ (fun c h => by cases h)⟩
    · refine ⟨_, rfl, rfl, _, rfl, ?_⟩
      refine iteW (show ("move" : Str) ≠ "cut" by decide +kernel) ?_
      refine ⟨_, rfl, rfl, _, rfl, ?_⟩
      refine iteW (show ("move" : Str) ≠ "join" by decide +kernel) ?_
      refine ⟨_, rfl, rfl, _, rfl, ?_⟩
      refine iteE rfl ?_
      exact ⟨_, rfl, _, rfl, d, 31, rfl, hd1, by decide, by decide, fun z z0 z1 => ⟨_, _, rfl, rfl, (by show 2 ≤ sizeLine; decide), fun r hr => q r (.move p (z - 15)) _ (e1.trans (Ex.new hr)) rfl upd_same ⟨p0, p1, by omega, by omega⟩ (fun c h => by cases h)⟩⟩
    · refine ⟨_, rfl, rfl, _, rfl, ?_⟩
      refine iteW (show ("trim" : Str) ≠ "cut" by decide +kernel) ?_
      refine ⟨_, rfl, rfl, _, rfl, ?_⟩
      refine iteW (show ("trim" : Str) ≠ "join" by decide +kernel) ?_
      refine ⟨_, rfl, rfl, _, rfl, ?_⟩
      refine iteW (show ("trim" : Str) ≠ "move" by decide +kernel) ?_
      refine ⟨_, rfl, rfl, _, rfl, ?_⟩
      refine iteE rfl ?_
      refine ⟨_, rfl, _, rfl, _, rfl, d, a, us, cs, B, rfl, hd1, ha1, hC1, gd, B0, B1, lc, fun g H2 e2 g0 g1 => ?_⟩
      refine ⟨_, rfl, d, 3, rfl, hd1.mono e2, by decide, by decide, fun z z0 z1 => ?_⟩
      refine ⟨_, _, rfl, rfl, _, _, rfl, rfl, _, rfl, d, 16, rfl, hd1.mono e2, by decide, by decide, fun y y0 y1 => ?_⟩
      exact ⟨(by show 3 ≤ sizeLine; decide), fun r hr => q r (.trim p (g - z + 1) y) _ ((e1.trans e2).trans (Ex.new hr)) rfl upd_same ⟨p0, p1, by omega, by omega, y0, by omega⟩ (fun c h => by cases h)⟩
    · refine ⟨_, rfl, rfl, _, rfl, ?_⟩
      refine iteW (show ("lift" : Str) ≠ "cut" by decide +kernel) ?_
      refine ⟨_, rfl, rfl, _, rfl, ?_⟩
      refine iteW (show ("lift" : Str) ≠ "join" by decide +kernel) ?_
      refine ⟨_, rfl, rfl, _, rfl, ?_⟩
      refine iteW (show ("lift" : Str) ≠ "move" by decide +kernel) ?_
      refine ⟨_, rfl, rfl, _, rfl, ?_⟩
      refine iteW (show ("lift" : Str) ≠ "trim" by decide +kernel) ?_
      refine ⟨_, rfl, rfl, _, rfl, ?_⟩
      refine iteW (show ("lift" : Str) ≠ "ripple in" by decide +kernel) ?_
      refine ⟨_, rfl, rfl, _, rfl, ?_⟩
      refine iteW (show ("lift" : Str) ≠ "place" by decide +kernel) ?_
      exact ⟨_, rfl, _, rfl, _, _, rfl, rfl, _, rfl, d, 20, rfl, hd1, by decide, by decide, fun z z0 z1 => ⟨_, _, rfl, rfl, (by show 2 ≤ sizeLine; decide), fun r hr => q r (.lift f (f + 1 + z)) _ (e1.trans (Ex.new hr)) rfl upd_same ⟨f0, by omega, by omega⟩ (fun c h => by cases h)⟩⟩
    · refine ⟨_, rfl, rfl, _, rfl, ?_⟩
      refine iteW (show ("place" : Str) ≠ "cut" by decide +kernel) ?_
      refine ⟨_, rfl, rfl, _, rfl, ?_⟩
      refine iteW (show ("place" : Str) ≠ "join" by decide +kernel) ?_
      refine ⟨_, rfl, rfl, _, rfl, ?_⟩
      refine iteW (show ("place" : Str) ≠ "move" by decide +kernel) ?_
      refine ⟨_, rfl, rfl, _, rfl, ?_⟩
      refine iteW (show ("place" : Str) ≠ "trim" by decide +kernel) ?_
      refine ⟨_, rfl, rfl, _, rfl, ?_⟩
      refine iteW (show ("place" : Str) ≠ "ripple in" by decide +kernel) ?_
      refine ⟨_, rfl, rfl, _, rfl, ?_⟩
      refine iteE rfl ?_
      exact ⟨_, rfl, _, rfl, _, rfl, d, f, ad, rfl, hd1, f0, by omega, fun v c H2 e2 hc kc es ka => ⟨(by show 1 ≤ sizeLine; decide), fun r hr => q r (.place c) _ ((e1.trans e2).trans (Ex.new hr)) rfl ⟨v, upd_same, hc.tk (TK.ex (Ex.new hr))⟩ ⟨kc, by omega⟩ (fun c' e => by cases e; exact ka)⟩⟩
    · refine ⟨_, rfl, rfl, _, rfl, ?_⟩
      refine iteW (show ("ripple out" : Str) ≠ "cut" by decide +kernel) ?_
      refine ⟨_, rfl, rfl, _, rfl, ?_⟩
      refine iteW (show ("ripple out" : Str) ≠ "join" by decide +kernel) ?_
      refine ⟨_, rfl, rfl, _, rfl, ?_⟩
      refine iteW (show ("ripple out" : Str) ≠ "move" by decide +kernel) ?_
      refine ⟨_, rfl, rfl, _, rfl, ?_⟩
      refine iteW (show ("ripple out" : Str) ≠ "trim" by decide +kernel) ?_
      refine ⟨_, rfl, rfl, _, rfl, ?_⟩
      refine iteW (show ("ripple out" : Str) ≠ "ripple in" by decide +kernel) ?_
      refine ⟨_, rfl, rfl, _, rfl, ?_⟩
      refine iteW (show ("ripple out" : Str) ≠ "place" by decide +kernel) ?_
      exact ⟨_, rfl, _, rfl, _, _, rfl, rfl, _, rfl, d, 20, rfl, hd1, by decide, by decide, fun z z0 z1 => ⟨_, _, rfl, rfl, (by show 2 ≤ sizeLine; decide), fun r hr => q r (.rout f (f + 1 + z)) _ (e1.trans (Ex.new hr)) rfl upd_same ⟨f0, by omega, by omega⟩ (fun c h => by cases h)⟩⟩
    · refine ⟨_, rfl, rfl, _, rfl, ?_⟩
      refine iteW (show ("ripple in" : Str) ≠ "cut" by decide +kernel) ?_
      refine ⟨_, rfl, rfl, _, rfl, ?_⟩
      refine iteW (show ("ripple in" : Str) ≠ "join" by decide +kernel) ?_
      refine ⟨_, rfl, rfl, _, rfl, ?_⟩
      refine iteW (show ("ripple in" : Str) ≠ "move" by decide +kernel) ?_
      refine ⟨_, rfl, rfl, _, rfl, ?_⟩
      refine iteW (show ("ripple in" : Str) ≠ "trim" by decide +kernel) ?_
      refine ⟨_, rfl, rfl, _, rfl, ?_⟩
      refine iteE rfl ?_
      exact ⟨_, rfl, _, rfl, d, 20, rfl, hd1, by decide, by decide, fun z z0 z1 => ⟨_, _, rfl, rfl, (by show 2 ≤ sizeLine; decide), fun r hr => q r (.rin f (1 + z)) _ (e1.trans (Ex.new hr)) rfl upd_same ⟨f0, f1, by omega, by omega⟩ (fun c h => by cases h)⟩⟩

abbrev s_BadCut : Stmt := clsDef (top 3)
theorem sc_BadCut : FnScope ["self", "place"] ["self", "place"] (defScope s_BadCut) := ⟨rfl, rfl, rfl, by decide +kernel, rfl, by decide +kernel, by decide +kernel⟩
theorem ok_BadCut {f : Addr} {fd : FuncData} (F : FunD K "__init__" "BadCut.__init__" (defArgs s_BadCut) (defBody s_BadCut) (defScope s_BadCut) [.non] [] f fd) {D fD : Addr} {fdD : FuncData} (FT : FilmTxt K mg D fD)
    (G : FnOk P w K mg base CX0 1 fD fdD ["self", "word", "place"] (spErrInit K)) (kf : PySem.W.keepIn K (.ref fD) = true) (b : Binds K fdD ["self", "word", "place"] []) : FnOk P w K mg base CX0 2 f fd ["self", "place"] (spKind K "BadCut") := by
  refine F.ok sc_BadCut (fun vs H Q E h => ?_) (fun cdv A outer s H vs Q E hr h => ?_)
  · obtain ⟨a, C, p, rfl, _⟩ := h
    rfl
  · obtain ⟨a, C, p, rfl, T, ha, nw, np, q⟩ := h
    refine ⟨_, pss_one (ps_expr (pe_binit G (hr.mono (by decide)) rfl FT.g FT.rd FT.ga FT.fa kf b .nil pass0 (pa_cons (pv 0) (pa_cons pe_str (pa_cons (pv 1) pa_nil))))), ?_⟩
    exact ⟨_, rfl, _, rfl, a, C, .str "BadCut", p, rfl, T, ha, nw, np, fun dx H' h1 h2 h3 h4 h5 => q dx H' h1 h2 h3 h4 h5⟩
theorem binds_BadCut {f : Addr} {fd : FuncData} (F : FunD K "__init__" "BadCut.__init__" (defArgs s_BadCut) (defBody s_BadCut) (defScope s_BadCut) [.non] [] f fd) : (∃ ds, Vals [.non] ds ∧ Binds K fd ["self", "place"] ds) ∧ Binds K fd ["self", "place"] [] := by
  refine ⟨F.binds1 (ps := ["self", "place"]) 1 0 (by simp) rfl fun T kV doc pm an cdv ct us its hu hi => match us, hu, its, hi with | [_], _, [_], _ => ⟨_, rfl, rfl⟩, ?_⟩
  obtain ⟨ds, r, b⟩ := F.binds1 (ps := ["self", "place"]) 2 1 (by simp) rfl fun T kV doc pm an cdv ct us its hu hi => match us, hu, its, hi with | [_, _], _, [_], _ => ⟨_, rfl, rfl⟩
  cases r
  exact b

abbrev s_BadJoin : Stmt := clsDef (top 6)
theorem sc_BadJoin : FnScope ["self", "place"] ["self", "place"] (defScope s_BadJoin) := ⟨rfl, rfl, rfl, by decide +kernel, rfl, by decide +kernel, by decide +kernel⟩
theorem ok_BadJoin {f : Addr} {fd : FuncData} (F : FunD K "__init__" "BadJoin.__init__" (defArgs s_BadJoin) (defBody s_BadJoin) (defScope s_BadJoin) [.non] [] f fd) {D fD : Addr} {fdD : FuncData} (FT : FilmTxt K mg D fD)
    (G : FnOk P w K mg base CX0 1 fD fdD ["self", "word", "place"] (spErrInit K)) (kf : PySem.W.keepIn K (.ref fD) = true) (b : Binds K fdD ["self", "word", "place"] []) : FnOk P w K mg base CX0 2 f fd ["self", "place"] (spKind K "BadJoin") := by
  refine F.ok sc_BadJoin (fun vs H Q E h => ?_) (fun cdv A outer s H vs Q E hr h => ?_)
  · obtain ⟨a, C, p, rfl, _⟩ := h
    rfl
  · obtain ⟨a, C, p, rfl, T, ha, nw, np, q⟩ := h
    refine ⟨_, pss_one (ps_expr (pe_binit G (hr.mono (by decide)) rfl FT.g FT.rd FT.ga FT.fa kf b .nil pass0 (pa_cons (pv 0) (pa_cons pe_str (pa_cons (pv 1) pa_nil))))), ?_⟩
    exact ⟨_, rfl, _, rfl, a, C, .str "BadJoin", p, rfl, T, ha, nw, np, fun dx H' h1 h2 h3 h4 h5 => q dx H' h1 h2 h3 h4 h5⟩
theorem binds_BadJoin {f : Addr} {fd : FuncData} (F : FunD K "__init__" "BadJoin.__init__" (defArgs s_BadJoin) (defBody s_BadJoin) (defScope s_BadJoin) [.non] [] f fd) : (∃ ds, Vals [.non] ds ∧ Binds K fd ["self", "place"] ds) ∧ Binds K fd ["self", "place"] [] := by
  refine ⟨F.binds1 (ps := ["self", "place"]) 1 0 (by simp) rfl fun T kV doc pm an cdv ct us its hu hi => match us, hu, its, hi with | [_], _, [_], _ => ⟨_, rfl, rfl⟩, ?_⟩
  obtain ⟨ds, r, b⟩ := F.binds1 (ps := ["self", "place"]) 2 1 (by simp) rfl fun T kV doc pm an cdv ct us its hu hi => match us, hu, its, hi with | [_, _], _, [_], _ => ⟨_, rfl, rfl⟩
  cases r
  exact b

abbrev s_BadPlace : Stmt := clsDef (top 7)
theorem sc_BadPlace : FnScope ["self", "place"] ["self", "place"] (defScope s_BadPlace) := ⟨rfl, rfl, rfl, by decide +kernel, rfl, by decide +kernel, by decide +kernel⟩
theorem ok_BadPlace {f : Addr} {fd : FuncData} (F : FunD K "__init__" "BadPlace.__init__" (defArgs s_BadPlace) (defBody s_BadPlace) (defScope s_BadPlace) [.non] [] f fd) {D fD : Addr} {fdD : FuncData} (FT : FilmTxt K mg D fD)
    (G : FnOk P w K mg base CX0 1 fD fdD ["self", "word", "place"] (spErrInit K)) (kf : PySem.W.keepIn K (.ref fD) = true) (b : Binds K fdD ["self", "word", "place"] []) : FnOk P w K mg base CX0 2 f fd ["self", "place"] (spKind K "BadPlace") := by
  refine F.ok sc_BadPlace (fun vs H Q E h => ?_) (fun cdv A outer s H vs Q E hr h => ?_)
  · obtain ⟨a, C, p, rfl, _⟩ := h
    rfl
  · obtain ⟨a, C, p, rfl, T, ha, nw, np, q⟩ := h
    refine ⟨_, pss_one (ps_expr (pe_binit G (hr.mono (by decide)) rfl FT.g FT.rd FT.ga FT.fa kf b .nil pass0 (pa_cons (pv 0) (pa_cons pe_str (pa_cons (pv 1) pa_nil))))), ?_⟩
    exact ⟨_, rfl, _, rfl, a, C, .str "BadPlace", p, rfl, T, ha, nw, np, fun dx H' h1 h2 h3 h4 h5 => q dx H' h1 h2 h3 h4 h5⟩
theorem binds_BadPlace {f : Addr} {fd : FuncData} (F : FunD K "__init__" "BadPlace.__init__" (defArgs s_BadPlace) (defBody s_BadPlace) (defScope s_BadPlace) [.non] [] f fd) : (∃ ds, Vals [.non] ds ∧ Binds K fd ["self", "place"] ds) ∧ Binds K fd ["self", "place"] [] := by
  refine ⟨F.binds1 (ps := ["self", "place"]) 1 0 (by simp) rfl fun T kV doc pm an cdv ct us its hu hi => match us, hu, its, hi with | [_], _, [_], _ => ⟨_, rfl, rfl⟩, ?_⟩
  obtain ⟨ds, r, b⟩ := F.binds1 (ps := ["self", "place"]) 2 1 (by simp) rfl fun T kV doc pm an cdv ct us its hu hi => match us, hu, its, hi with | [_, _], _, [_], _ => ⟨_, rfl, rfl⟩
  cases r
  exact b

/-- which clip has frames on both sides -/
def spAcross (K : PySem.W.Frag) : Sp := fun vs H Q _ => ∃ (a : Addr) (us : List V) (cs : List Cl) (m : Int), vs = [.ref a, .int m] ∧ H a = some (.tup us) ∧ ClsV H us cs ∧ ∀ o H', Ex H H' → Across cs m o → Q (idxV o) H'
/-- one clip cut -/
def spCutOne (K : PySem.W.Frag) (C : Addr) : Sp := fun vs H Q E => ∃ (a : Addr) (us : List V) (cs : List Cl) (i : Nat) (c : Cl) (m : Int), vs = [.ref a, .int (i : Nat), .int m] ∧ H a = some (.tup us) ∧ ClsV H us cs ∧ cs.length ≤ 5000 ∧ cs[i]? = some c ∧
  (c.fades m = false → ∀ p ws H', Ex H H' → H' p = some (.tup ws) → ClsV H' ws (cs.take i ++ [c.left m, c.right m] ++ cs.drop (i + 1)) → Q (.ref p) H') ∧
  (c.fades m = true → ∀ d H', H d = none → Ex H H' → H' d = some (errD "BadCut" (.int m)) → E (.ref C) (some d) H')
/-- cut where one can be cut -/
def spParted (K : PySem.W.Frag) (C : Addr) : Sp := fun vs H Q E => ∃ (a : Addr) (us : List V) (cs : List Cl) (m : Int), vs = [.ref a, .int m] ∧ H a = some (.tup us) ∧ ClsV H us cs ∧ cs.length ≤ 5000 ∧ Row cs ∧
  (∀ ds, splitC m cs = some ds → ∀ p ws H', Ex H H' → H' p = some (.tup ws) → ClsV H' ws ds → Q (.ref p) H') ∧
  (splitC m cs = none → ∀ d H', H d = none → Ex H H' → H' d = some (errD "BadCut" (.int m)) → E (.ref C) (some d) H')
def spHasPlace : Sp := fun vs H Q _ => ∃ (a : Addr) (us : List V) (p : Int), vs = [.ref a, .int p] ∧ H a = some (.tup us) ∧ Q (.bl (decide (0 ≤ p) && decide (p < us.length))) H
def spBeside : Sp := fun vs H Q _ => ∃ (cv : V) (c : Cl) (x y : Int), vs = [cv, .int x, .int y] ∧ ClV H cv c ∧ Q (.bl (c.keep x y)) H
def areOne (c d : Cl) : Bool := decide (d.s = c.fin) && PyData.eqv (opD d.pa) (opD c.pa) && (decide (c.fo = 0) && decide (d.fi = 0))
def spAreOne (K : PySem.W.Frag) : Sp := fun vs H Q _ => ∃ (u v : V) (c d : Cl), vs = [u, v] ∧ ClV H u c ∧ ClV H v d ∧ Q (.bl (areOne c d)) H
def spLaterP (K : PySem.W.Frag) : Sp := fun vs H Q _ => ∃ (a : Addr) (us : List V) (cs : List Cl) (m n : Int), vs = [.ref a, .int m, .int n] ∧ H a = some (.tup us) ∧ ClsV H us cs ∧ cs.length ≤ 20000 ∧ ∀ p ws H', Ex H H' → H' p = some (.tup ws) → ClsV H' ws (laterC m n cs) → Q (.ref p) H'
def Ask.Fit : Ask → Prop
  | .place c => 1 ≤ c.n
  | _ => True
def arCut : Hp → List V → Ask → Prop := fun _ r k => ∃ m, r = [.int m] ∧ k = .cut m
def arJoin : Hp → List V → Ask → Prop := fun _ r k => ∃ p, r = [.int p] ∧ k = .join p
def arMove : Hp → List V → Ask → Prop := fun _ r k => ∃ p d, r = [.int p, .int d] ∧ k = .move p d
def arTrim : Hp → List V → Ask → Prop := fun _ r k => ∃ p s n, r = [.int p, .int s, .int n] ∧ k = .trim p s n
def arLift : Hp → List V → Ask → Prop := fun _ r k => ∃ x y, r = [.int x, .int y] ∧ k = .lift x y
def arPlace : Hp → List V → Ask → Prop := fun H r k => ∃ v c, r = [v] ∧ ClV H v c ∧ k = .place c
def arRout : Hp → List V → Ask → Prop := fun _ r k => ∃ x y, r = [.int x, .int y] ∧ k = .rout x y
def arRin : Hp → List V → Ask → Prop := fun _ r k => ∃ m n, r = [.int m, .int n] ∧ k = .rin m n
/-- a def of the timeline: clips, or its error -/
def spTlG (K : PySem.W.Frag) (C : Addr) (x : Str) (args : Hp → List V → Ask → Prop) : Sp := fun vs H Q E => ∃ (a : Addr) (rest us : List V) (cs : List Cl) (k : Ask), vs = .ref a :: rest ∧ args H rest k ∧ H a = some (.tup us) ∧ ClsV H us cs ∧ Row cs ∧ cs.length ≤ 1000 ∧ k.Fit ∧
  (∀ ds p ws H', lineC k cs = some (.ok ds) → Ex H H' → H' p = some (.tup ws) → ClsV H' ws ds → Q (.ref p) H') ∧ (∀ w n, lineC k cs = some (.err w n) → ∀ d H', H d = none → Ex H H' → H' d = some (errD x (.int n)) → E (.ref C) (some d) H')
/-- a def of the timeline that sorts -/
def spTlT (K : PySem.W.Frag) (T : List (Addr × Str)) (C : Addr) (x : Str) (args : Hp → List V → Ask → Prop) : Sp := fun vs H Q E => ∃ (a : Addr) (rest us : List V) (cs : List Cl) (k : Ask), vs = .ref a :: rest ∧ args H rest k ∧ H a = some (.tup us) ∧ ClsV H us cs ∧ Row cs ∧ cs.length ≤ 1000 ∧ k.Fit ∧ LamX.Tabs T H ∧
  (∀ ds p ws H', lineC k cs = some (.ok ds) → LamX.ExtN H H' → LamX.Tabs T H' → H' p = some (.tup ws) → ClsV H' ws ds → Q (.ref p) H') ∧ (∀ w n, lineC k cs = some (.err w n) → ∀ d H', H d = none → Ex H H' → H' d = some (errD x (.int n)) → E (.ref C) (some d) H')
theorem ask_fit {n : Nat} {B : Int} {k : Ask} (h : AskOk n B k) : k.Fit := by
  cases k with
  | place c => exact h.1.n1
  | _ => trivial

abbrev s_place_across : Stmt := top 44
theorem sc_place_across : FnScope ["clips", "frame", "place", "clip"] ["clips", "frame"] (defScope s_place_across) := ⟨rfl, rfl, rfl, by decide +kernel, rfl, by decide +kernel, by decide +kernel⟩
theorem ok_place_across {f : Addr} {fd : FuncData} (F : Fun K "_place_across" "_place_across" s_place_across f fd) (T : Txt K mg) (D_end_of : Def P w K mg base CX0 "end_of" 1 ["clip"] (spEnd K)) : FnOk P w K mg base CX0 2 f fd ["clips", "frame"] (spAcross K) := by
  refine F.ok sc_place_across (fun vs H Q E h => ?_) (fun cdv A outer s H vs Q E hr h => ?_)
  · obtain ⟨a, us, cs, f, rfl, _⟩ := h
    rfl
  · obtain ⟨a, us, cs, f, rfl, hU, hC, q⟩ := h
    refine ⟨_, (pss_cons (ps_for PassesOwn.never rfl (kpiET K (by rfl) T.enumerate_ (pa_cons (pv 0) pa_nil)) (kpgT K (n := 2) rfl (pgs_cons (pg_name (i := 2) sc_place_across.nd rfl (by first | exact Or.inl rfl | exact Or.inr rfl)) (pgs_cons (pg_name (i := 3) sc_place_across.nd rfl (by first | exact Or.inl rfl | exact Or.inr rfl)) pgs_nil)))
        (pss_one (ps_if (pt_chain op_lt op_lt (pe_ix (kixT K) (pv 3) pe_int (fun _ _ => rfl)) (pv 1) (pe_call D_end_of.ok (hr.mono (by decide)) rfl D_end_of.mgf D_end_of.kp D_end_of.b .nil pass0 (pa_cons (pv 3) pa_nil)))
          (pss_one (ps_ret (pv 2)))
          pss_nil)))
      (pss_one (ps_ret pe_non))), ?_⟩
    have hul := hC.length
    refine ⟨_, rfl, a, us, rfl, SqT.of hU, ?_⟩
    refine for_ET (xs := us) (fun i σ H' => Ex H H' ∧ (∃ x y, σ = [some (.ref a), some (.int f), x, y]) ∧ ∀ j < i, ∀ d, cs[j]? = some d → d.inside f = false) ⟨Ex.refl _, ⟨_, _, rfl⟩, fun j hj => absurd hj (Nat.not_lt_zero _)⟩ (fun i σ H' _ p => SqT.of (p.1 _ _ hU)) ?_ ?_
    · rintro i v σ H1 t hv ⟨e1, ⟨x, y, rfl⟩, hno⟩ ht
      obtain ⟨c, hc, hcv⟩ := pr_get hC hv
      have f1 := Ex.new (o := .tup [.int (i : Nat), v]) ht
      have k1 : upd H1 t (.tup [.int (i : Nat), v]) t = some (.tup [.int (i : Nat), v]) := upd_same
      generalize upd H1 t (.tup [.int (i : Nat), v]) = H2 at f1 k1 ⊢
      have e2 := e1.trans f1
      have hcv := hcv.tk (TK.ex e2)
      obtain ⟨ca, u, rfl, hca, hu⟩ := id hcv
      refine ⟨t, _, rfl, SqT.of k1, rfl, _, _, rfl, _, _, rfl, rfl, ?_⟩
      refine ⟨_, rfl, ca, _, _, _, rfl, rfl, SqT.of hca, rfl, _, rfl, _, _, rfl, rfl, _, rfl, ?_⟩
      have next : c.inside f = false → Ex H H2 ∧ (∃ x y, [some (V.ref a), some (.int f), some (.int (i : Nat)), some (.ref ca)] = [some (.ref a), some (.int f), x, y]) ∧ ∀ j < i + 1, ∀ d, cs[j]? = some d → d.inside f = false := fun no =>
        ⟨e2, ⟨_, _, rfl⟩, fun j hj d hd => by
          by_cases e : j = i
          · subst e
            rw [hc] at hd
            cases hd
            exact no
          · exact hno j (by omega) d hd⟩
      refine ite2 (fun c1 => ?_) (fun c1 => ⟨_, rfl, iteF (next (by unfold Cl.inside; rw [eq_false_of_ne_true c1]; rfl))⟩)
      refine ⟨_, rfl, _, c, rfl, hcv, _, _, rfl, rfl, _, rfl, ?_⟩
      refine ite2 (fun c2 => ?_) (fun c2 => next (by unfold Cl.inside; rw [eq_false_of_ne_true c2, Bool.and_false]))
      exact ⟨_, rfl, q (some i) H2 e2 ⟨c, hc, by unfold Cl.inside; rw [c1, c2]; rfl, hno⟩⟩
    · rintro σ H1 ⟨e1, ⟨x, y, rfl⟩, hno⟩
      refine q none H1 e1 fun c hc => ?_
      obtain ⟨j, hj⟩ := List.getElem?_of_mem hc
      exact hno j (by rw [hul]; exact (List.getElem?_eq_some_iff.mp hj).1) c hj

abbrev s_has_place : Stmt := top 48
theorem sc_has_place : FnScope ["clips", "place"] ["clips", "place"] (defScope s_has_place) := ⟨rfl, rfl, rfl, by decide +kernel, rfl, by decide +kernel, by decide +kernel⟩
theorem ok_has_place {f : Addr} {fd : FuncData} (F : Fun K "_has_place" "_has_place" s_has_place f fd) (T : Txt K mg) : FnOk P w K mg base CX0 1 f fd ["clips", "place"] spHasPlace := by
  refine F.ok sc_has_place (fun vs H Q E h => ?_) (fun cdv A outer s H vs Q E hr h => ?_)
  · obtain ⟨a, us, p, rfl, _⟩ := h
    rfl
  · obtain ⟨a, us, p, rfl, ha, q⟩ := h
    refine ⟨_, (pss_one (ps_ret (pe_chain op_le op_lt pe_int (pv 1) (pe_callB (klen K) (by rfl) T.len_ PySem.boot_len (pa_cons (pv 0) pa_nil))))), ?_⟩
    refine ⟨_, rfl, _, _, rfl, rfl, _, rfl, ?_⟩
    cases c : decide (0 ≤ p) with
    | false =>
      rw [c, Bool.false_and] at q
      exact iteF q
    | true =>
      rw [c, Bool.true_and] at q
      exact iteT ⟨_, rfl, a, us, rfl, .inr (SqT.of ha), _, _, rfl, rfl, q⟩

abbrev s_is_beside : Stmt := top 49
theorem sc_is_beside : FnScope ["clip", "first", "last"] ["clip", "first", "last"] (defScope s_is_beside) := ⟨rfl, rfl, rfl, by decide +kernel, rfl, by decide +kernel, by decide +kernel⟩
theorem ok_is_beside {f : Addr} {fd : FuncData} (F : Fun K "_is_beside" "_is_beside" s_is_beside f fd) (T : Txt K mg) (D_end_of : Def P w K mg base CX0 "end_of" 1 ["clip"] (spEnd K)) : FnOk P w K mg base CX0 2 f fd ["clip", "first", "last"] spBeside := by
  refine F.ok sc_is_beside (fun vs H Q E h => ?_) (fun cdv A outer s H vs Q E hr h => ?_)
  · obtain ⟨cv, c, x, y, rfl, _⟩ := h
    rfl
  · obtain ⟨cv, c, x, y, rfl, hcv, q⟩ := h
    obtain ⟨ca, u, rfl, hca, hu⟩ := id hcv
    refine ⟨_, (pss_one (ps_ret (pe_or (pe_cmpR op_le (pe_call D_end_of.ok (hr.mono (by decide)) rfl D_end_of.mgf D_end_of.kp D_end_of.b .nil pass0 (pa_cons (pv 0) pa_nil)) (pv 1) (nomark _)) (pe_one (pe_cmpR op_le (pv 2) (pe_ix (kixT K) (pv 0) pe_int (fun _ _ => rfl)) (nomark _)))))), ?_⟩
    refine ⟨_, rfl, _, c, rfl, hcv, _, rfl, _, _, rfl, rfl, _, rfl, ?_⟩
    unfold Cl.keep at q
    cases k : decide (c.fin ≤ x) with
    | true =>
      rw [k, Bool.true_or] at q
      exact iteT q
    | false =>
      rw [k, Bool.false_or] at q
      exact iteF ⟨_, rfl, _, rfl, ca, _, _, _, rfl, rfl, SqT.of hca, rfl, _, _, rfl, rfl, q⟩

abbrev s_cut : Stmt := top 45
theorem sc_cut : FnScope ["clips", "place", "frame", "start", "length", "paint", "fade_in", "fade_out", "end", "halves"] ["clips", "place", "frame"] (defScope s_cut) := ⟨rfl, rfl, rfl, by decide +kernel, rfl, by decide +kernel, by decide +kernel⟩
theorem ok_cut {f : Addr} {fd : FuncData} (F : Fun K "_cut" "_cut" s_cut f fd) (T : Txt K mg) {C : Addr} (KB : KindOk P w K mg base "BadCut" C) : FnOk P w K mg base (L2.CX P w) 5 f fd ["clips", "place", "frame"] (spCutOne K C) := by
  refine F.okX sc_cut (fun vs H Q E h => ?_) (fun cdv A outer s H vs Q E hr h => ?_)
  · obtain ⟨a, us, cs, i, c, m, rfl, _⟩ := h
    rfl
  · obtain ⟨a, us, cs, i, c, m, rfl, ha, hC, lc, hc, qN, qE⟩ := h
    obtain ⟨fC, KT, fdC, GC, ⟨ds, hds, bC⟩, bA⟩ := KB
    have lu := hC.length
    have hil := (List.getElem?_eq_some_iff.mp hc).1
    have hui : us[i]? = some us[i] := List.getElem?_eq_getElem (by omega)
    obtain ⟨c', hc', hcv⟩ := pr_get hC hui
    rw [hc] at hc'
    cases hc'
    generalize us[i] = uc at hcv hui
    obtain ⟨ca, u, rfl, hca, hu⟩ := id hcv
    refine ⟨_, (pss_cons (ps_asg (pe_ix (kixT K) (pv 0) (pv 1) (fun _ _ => rfl)) (kpgT K (n := 5) rfl (pgs_cons (pg_name (i := 3) sc_cut.nd rfl (by first | exact Or.inl rfl | exact Or.inr rfl)) (pgs_cons (pg_name (i := 4) sc_cut.nd rfl (by first | exact Or.inl rfl | exact Or.inr rfl)) (pgs_cons (pg_name (i := 5) sc_cut.nd rfl (by first | exact Or.inl rfl | exact Or.inr rfl)) (pgs_cons (pg_name (i := 6) sc_cut.nd rfl (by first | exact Or.inl rfl | exact Or.inr rfl)) (pgs_cons (pg_name (i := 7) sc_cut.nd rfl (by first | exact Or.inl rfl | exact Or.inr rfl)) pgs_nil)))))))
      (pss_cons (ps_set (i := 8) sc_cut.nd rfl (by first | exact Or.inl rfl | exact Or.inr rfl) (pe_op op_add (pv 3) (pv 4)))
      (pss_cons (ps_if (pt_not (pt_chain op_le op_le (pe_op op_add (pv 3) (pv 6)) (pv 2) (pe_op op_sub (pv 8) (pv 7))))
        (pss_one (ps_raise rfl (takes_of rfl rfl rfl rfl) (pmk_oex KT.T KT.iC KT.tI GC (hr.mono (by decide)) bA .nil pass0 rfl KT.g (pa_cons (pv 2) pa_nil))))
        pss_nil)
      (pss_cons (ps_set (i := 9) sc_cut.nd rfl (by first | exact Or.inl rfl | exact Or.inr rfl) (pe_tup (pa_cons (pe_tup (pa_cons (pv 3) (pa_cons (pe_op op_sub (pv 2) (pv 3)) (pa_cons (pv 5) (pa_cons (pv 6) (pa_cons pe_int pa_nil)))))) (pa_cons (pe_tup (pa_cons (pv 2) (pa_cons (pe_op op_sub (pv 8) (pv 2)) (pa_cons (pv 5) (pa_cons pe_int (pa_cons (pv 7) pa_nil)))))) pa_nil))))
      (pss_one (ps_ret (pe_op (kcatA K) (pe_op (kcatA K) (pe_slice (kslA K) (pv 0) po_none (po_some (pv 1))) (pv 9)) (pe_slice (kslA K) (pv 0) (po_some (pe_op op_add (pv 1) pe_int)) po_none)))))))), ?_⟩
    refine ⟨_, rfl, _, rfl, a, us, (i : Int), _, rfl, rfl, SqT.of ha, atI_nat hui, ?_⟩
    refine ⟨ca, _, rfl, SqT.of hca, rfl, _, _, rfl, _, _, rfl, _, _, rfl, _, _, rfl, _, _, rfl, rfl, ?_⟩
    refine ⟨_, rfl, _, rfl, _, _, rfl, rfl, ?_⟩
    refine ⟨_, rfl, _, rfl, _, _, rfl, rfl, _, rfl, _, _, rfl, rfl, _, rfl, ?_⟩
    have er : c.fades m = true → ∀ b, H b = none → spKind K "BadCut" [.ref b, .int m] (upd H b (exo b C none)) (fun v H2 => v = .non ∧ ∃ (d : Addr) (fs : List (Str × V)), H2 b = some (exo b C (some d)) ∧ H2 d = some (exd d fs) ∧ H d = none ∧ E (.ref C) (some d) (upd (del H2 b) d (.xd fs))) (fun _ _ _ => False) := fun hf b hb =>
      kind_made KT hb fun d H' h1 h2 h3 => qE hf d H' h1 h2 h3
    refine ite2 (fun c1 => ?_) (fun c1 => ?_)
    · have c1 := of_decide_eq_true c1
      refine ⟨_, rfl, _, rfl, _, _, rfl, rfl, _, _, rfl, rfl, _, rfl, ?_⟩
      refine ite2 (fun c2 => ?_) (fun c2 => ?_)
      · refine ⟨_, rfl, (by show 1 ≤ 1000; decide), er ?_⟩
        unfold Cl.fades Cl.fin
        rw [decide_eq_true (show c.s + c.n - c.fo < m by have : ¬ m ≤ c.s + c.n - c.fo := fun z => (by rw [decide_eq_true z] at c2; cases c2); omega), Bool.or_true]
      · have c2 : m ≤ c.s + c.n - c.fo := Classical.byContradiction fun z => c2 (by rw [decide_eq_false z]; rfl)
        have hf : c.fades m = false := by
          unfold Cl.fades Cl.fin
          rw [decide_eq_false (by omega), decide_eq_false (by omega)]
          rfl
        refine ⟨_, rfl, _, rfl, _, rfl, _, _, rfl, rfl, _, rfl, _, rfl, (by show 5 ≤ sizeLine; decide), fun t1 ht1 => ?_⟩
        have f1 := Ex.new (o := .tup [.int c.s, .int (m - c.s), u, .int c.fi, .int 0]) ht1
        have g1 : upd H t1 (.tup [.int c.s, .int (m - c.s), u, .int c.fi, .int 0]) t1 = some (.tup [.int c.s, .int (m - c.s), u, .int c.fi, .int 0]) := upd_same
        generalize upd H t1 (.tup [.int c.s, .int (m - c.s), u, .int c.fi, .int 0]) = H1 at f1 g1 ⊢
        refine ⟨_, rfl, _, rfl, _, rfl, _, _, rfl, rfl, _, rfl, _, rfl, (by show 5 ≤ sizeLine; decide), fun t2 ht2 => ?_⟩
        have f2 := Ex.new (o := .tup [.int m, (fun i j => V.int (i - j)) (c.s + c.n) m, u, .int 0, .int c.fo]) ht2
        have g2 : upd H1 t2 (.tup [.int m, (fun i j => V.int (i - j)) (c.s + c.n) m, u, .int 0, .int c.fo]) t2 = some (.tup [.int m, .int (c.fin - m), u, .int 0, .int c.fo]) := upd_same
        generalize upd H1 t2 (.tup [.int m, (fun i j => V.int (i - j)) (c.s + c.n) m, u, .int 0, .int c.fo]) = H2 at f2 g2 ⊢
        refine ⟨(by show 2 ≤ sizeLine; decide), fun t3 ht3 => ?_⟩
        have f3 := Ex.new (o := .tup [.ref t1, .ref t2]) ht3
        have g3 : upd H2 t3 (.tup [.ref t1, .ref t2]) t3 = some (.tup [.ref t1, .ref t2]) := upd_same
        generalize upd H2 t3 (.tup [.ref t1, .ref t2]) = H3 at f3 g3 ⊢
        have e13 := (f1.trans f2).trans f3
        have k1 := f3 _ _ (f2 _ _ g1)
        have k2 := f3 _ _ g2
        have hm : i ≤ us.length := by omega
        have hm2 : i + 1 ≤ us.length := by omega
        refine ⟨_, rfl, _, rfl, _, rfl, ?_⟩
        refine slA (e13 _ _ ha) fun t4 H4 e4 ht4 => ?_
        rw [cutV_take hm] at ht4
        refine ⟨_, rfl, ?_⟩
        refine catA ht4 (e4 _ _ g3) (Nat.le_of_lt (slineL (by simp only [List.length_take, List.length_cons, List.length_nil]; omega))) fun t5 H5 e5 ht5 => ?_
        have e15 := (e13.trans e4).trans e5
        refine ⟨_, rfl, _, rfl, _, _, rfl, rfl, _, rfl, ?_⟩
        refine slA (e15 _ _ ha) fun t6 H6 e6 ht6 => ?_
        rw [show (i : Int) + 1 = ((i + 1 : Nat) : Int) from rfl, cutV_drop hm2] at ht6
        refine catA (e6 _ _ ht5) ht6 (Nat.le_of_lt (slineL (by simp only [List.length_append, List.length_take, List.length_drop, List.length_cons, List.length_nil]; omega))) fun t7 H7 e7 ht7 => ?_
        have e37 := ((e4.trans e5).trans e6).trans e7
        have e17 := e13.trans e37
        have hC7 := hC.tk (TK.ex e17)
        have hu7 := hu.tk (TK.ex e17)
        exact qN hf t7 _ H7 e17 ht7 (pr_append (pr_append (pr_take i hC7) (.cons ⟨t1, u, rfl, e37 _ _ k1, hu7⟩ (.cons ⟨t2, u, rfl, e37 _ _ k2, hu7⟩ .nil))) (pr_drop (i + 1) hC7))
    · refine ⟨_, rfl, ?_⟩
      refine iteT ?_
      refine ⟨_, rfl, (by show 1 ≤ 1000; decide), er ?_⟩
      unfold Cl.fades
      rw [decide_eq_true (show m < c.s + c.fi by have : ¬ c.s + c.fi ≤ m := fun z => c1 (decide_eq_true z); omega), Bool.true_or]

abbrev s_parted : Stmt := top 46
theorem sc_parted : FnScope ["clips", "frame", "place"] ["clips", "frame"] (defScope s_parted) := ⟨rfl, rfl, rfl, by decide +kernel, rfl, by decide +kernel, by decide +kernel⟩
theorem ok_parted {f : Addr} {fd : FuncData} (F : Fun K "_parted" "_parted" s_parted f fd) (T : Txt K mg) {C : Addr} (D_place_across : Def P w K mg base CX0 "_place_across" 2 ["clips", "frame"] (spAcross K)) (D_cut : Def P w K mg base (L2.CX P w) "_cut" 5 ["clips", "place", "frame"] (spCutOne K C)) : FnOk P w K mg base (L2.CX P w) 6 f fd ["clips", "frame"] (spParted K C) := by
  refine F.okX sc_parted (fun vs H Q E h => ?_) (fun cdv A outer s H vs Q E hr h => ?_)
  · obtain ⟨a, us, cs, m, rfl, _⟩ := h
    rfl
  · obtain ⟨a, us, cs, m, rfl, ha, hC, lc, rw_, qN, qE⟩ := h
    refine ⟨_, (pss_cons (ps_set (i := 2) sc_parted.nd rfl (by first | exact Or.inl rfl | exact Or.inr rfl) (pe_call D_place_across.ok (hr.mono (by decide)) rfl D_place_across.mgf D_place_across.kp D_place_across.b .nil pass0 (pa_cons (pv 0) (pa_cons (pv 1) pa_nil))))
      (pss_cons (ps_if (pt_cmpR op_isN (pv 2) pe_non (nomark _))
        (pss_one (ps_ret (pv 0)))
        pss_nil)
      (pss_one (ps_ret (pe_call D_cut.ok (hr.mono (by decide)) rfl D_cut.mgf D_cut.kp D_cut.b .nil (passes_call (takes_of rfl rfl rfl rfl) fun _ _ _ _ z => z) (pa_cons (pv 0) (pa_cons (pv 2) (pa_cons (pv 1) pa_nil)))))))), ?_⟩
    refine ⟨_, rfl, _, rfl, a, us, cs, m, rfl, ha, hC, fun o H1 e1 ho => ?_⟩
    have ha1 := e1 _ _ ha
    have hC1 := hC.tk (TK.ex e1)
    refine ⟨_, rfl, rfl, _, rfl, ?_⟩
    cases o with
    | none =>
      refine iteD rfl ?_
      exact ⟨_, rfl, qN cs (split_out ho) a us H1 e1 ha1 hC1⟩
    | some i =>
      refine iteN (fun z => nomatch z) ?_
      obtain ⟨c, hc, hi, _⟩ := id ho
      refine ⟨_, rfl, _, rfl, _, rfl, a, us, cs, i, c, m, rfl, ha1, hC1, lc, hc, fun hf p ws H2 e2 hp hW => ?_, fun hf d H2 h1 e2 h3 => ?_⟩
      · exact qN _ (split_ats rw_ ho hc hf) p ws H2 (e1.trans e2) hp hW
      · exact qE (split_bad_at (List.mem_of_getElem? hc) hi hf) d H2 (ex_free e1 h1) (e1.trans e2) h3

abbrev s_are_one : Stmt := top 47
theorem sc_are_one : FnScope ["first", "second", "is_next"] ["first", "second"] (defScope s_are_one) := ⟨rfl, rfl, rfl, by decide +kernel, rfl, by decide +kernel, by decide +kernel⟩
theorem ok_are_one {f : Addr} {fd : FuncData} (F : Fun K "_are_one" "_are_one" s_are_one f fd) (T : Txt K mg) (D_end_of : Def P w K mg base CX0 "end_of" 1 ["clip"] (spEnd K)) : FnOk P w K mg base CX0 2 f fd ["first", "second"] (spAreOne K) := by
  refine F.ok sc_are_one (fun vs H Q E h => ?_) (fun cdv A outer s H vs Q E hr h => ?_)
  · obtain ⟨u, v, c, d, rfl, _⟩ := h
    rfl
  · obtain ⟨u, v, c, d, rfl, hcv, hdv, q⟩ := h
    obtain ⟨ca, u, rfl, hca, hu⟩ := id hcv
    obtain ⟨da, du, rfl, hda, hdu⟩ := id hdv
    refine ⟨_, (pss_cons (ps_set (i := 2) sc_are_one.nd rfl (by first | exact Or.inl rfl | exact Or.inr rfl) (pe_and (pe_cmpR op_eq (pe_ix (kixT K) (pv 1) pe_int (fun _ _ => rfl)) (pe_call D_end_of.ok (hr.mono (by decide)) rfl D_end_of.mgf D_end_of.kp D_end_of.b .nil pass0 (pa_cons (pv 0) pa_nil)) (nomark _)) (pe_one (pe_cmpR (keqD K hr.units) (pe_ix (kixT K) (pv 1) pe_int (fun _ _ => rfl)) (pe_ix (kixT K) (pv 0) pe_int (fun _ _ => rfl)) (nomark _)))))
      (pss_one (ps_ret (pe_and (pv 2) (pe_and (pe_cmpR op_eq (pe_ix (kixT K) (pv 0) pe_int (fun _ _ => rfl)) pe_int (nomark _)) (pe_one (pe_cmpR op_eq (pe_ix (kixT K) (pv 1) pe_int (fun _ _ => rfl)) pe_int (nomark _)))))))), ?_⟩
    unfold areOne at q
    refine ⟨_, rfl, da, _, _, _, rfl, rfl, SqT.of hda, rfl, _, rfl, .ref ca, c, rfl, hcv, rfl, _, rfl, ?_⟩
    have stop2 : ∀ b, b = false → Q (.bl (b && (decide (c.fo = 0) && decide (d.fi = 0)))) H → Q (.bl false) H := fun b e h => by
      rw [e, Bool.false_and] at h
      exact h
    by_cases k1 : d.s = c.fin
    · rw [decide_eq_true (congrArg V.int k1)]
      refine iteT ?_
      rw [decide_eq_true k1, Bool.true_and] at q
      refine ⟨_, rfl, da, _, _, _, rfl, rfl, SqT.of hda, rfl, _, rfl, ca, _, _, _, rfl, rfl, SqT.of hca, rfl, opD d.pa, opD c.pa, hdu.dp, hu.dp, op_shaped _, op_shaped _, ?_⟩
      refine ⟨_, rfl, _, rfl, ?_⟩
      cases k2 : PyData.eqv (opD d.pa) (opD c.pa) with
      | false => exact iteF (stop2 _ k2 q)
      | true =>
        refine iteT ?_
        rw [k2, Bool.true_and] at q
        refine ⟨_, rfl, ca, _, _, _, rfl, rfl, SqT.of hca, rfl, rfl, _, rfl, ?_⟩
        by_cases k3 : c.fo = 0
        · rw [decide_eq_true (congrArg V.int k3)]
          refine iteT ?_
          rw [decide_eq_true k3, Bool.true_and] at q
          refine ⟨_, rfl, da, _, _, _, rfl, rfl, SqT.of hda, rfl, rfl, ?_⟩
          have ed : decide (V.int d.fi = V.int 0) = decide (d.fi = 0) := decide_eq_decide.mpr ⟨V.int.inj, congrArg _⟩
          show Q (.bl (decide (V.int d.fi = V.int 0))) H
          rw [ed]
          exact q
        · rw [decide_eq_false fun z => k3 (V.int.inj z)]
          rw [decide_eq_false k3, Bool.false_and] at q
          exact iteF q
    · rw [decide_eq_false fun z => k1 (V.int.inj z)]
      rw [decide_eq_false k1, Bool.false_and, Bool.false_and] at q
      refine iteF ?_
      exact ⟨_, rfl, _, rfl, iteF q⟩

abbrev s_later : Stmt := top 51
theorem sc_later : FnScope ["clips", "frame", "count", "clip"] ["clips", "frame", "count"] (defScope s_later) := ⟨rfl, rfl, rfl, by decide +kernel, rfl, by decide +kernel, by decide +kernel⟩
theorem ok_later {f : Addr} {fd : FuncData} (F : Fun K "_later" "_later" s_later f fd) (T : Txt K mg) : FnOk P w K mg base CX0 1 f fd ["clips", "frame", "count"] (spLaterP K) := by
  refine F.ok sc_later (fun vs H Q E h => ?_) (fun cdv A outer s H vs Q E hr h => ?_)
  · obtain ⟨a, us, cs, m, n, rfl, _⟩ := h
    rfl
  · obtain ⟨a, us, cs, m, n, rfl, ha, hC, lc, q⟩ := h
    have lu := hC.length
    refine ⟨_, (pss_one (ps_ret (pe_callTy (ktuple K) (by rfl) T.tuple_ bt_tuple (pa_cons (pe_lc (own := [("clip", 3)]) (tt := tYes) rfl sc_later.nd (kpiT K (pv 0)) (blkOk_by (N := ["clips", "frame", "count", "clip"]) (sc := defScope s_later) (by decide +kernel)) (fun _ _ _ _ _ => (pg_name (i := 3) sc_later.nd rfl (by first | exact Or.inl rfl | exact Or.inr rfl))) (fun _ _ _ _ _ => pts_nil) (fun _ _ _ _ _ => (pe_ifExp (pt_cmpR op_le (pv 1) (pe_ix (kixT K) (pv 3) pe_int (fun _ _ => rfl)) (nomark _)) (pe_op (kcatA K) (pe_tup (pa_cons (pe_op op_add (pe_ix (kixT K) (pv 3) pe_int (fun _ _ => rfl)) (pv 2)) pa_nil)) (pe_slice (kslA K) (pv 3) (po_some pe_int) po_none)) (pv 3)))) pa_nil)))), ?_⟩
    refine ⟨_, rfl, a, rfl, ⟨us, SqT.of ha⟩, fun D hD => ?_⟩
    refine lc_tup (xs := us) (fun i H' => Ex H H' ∧ ∃ ws, H' D = some (.lst ws) ∧ ClsV H' ws (laterC m n (cs.take i))) ⟨Ex.new hD, [], upd_same, .nil⟩ (fun i H' _ p => SqT.of (p.1 _ _ ha)) ?_ ?_
    · rintro i uv H1 hu ⟨e1, ws, hW, hP⟩
      obtain ⟨c, hc, hcv0⟩ := pr_get hC hu
      have hcv := hcv0.tk (TK.ex e1)
      obtain ⟨ca, u, rfl, hca, hu'⟩ := id hcv
      have hi : i < cs.length := (List.getElem?_eq_some_iff.mp hc).1
      have lw : ws.length ≤ 20000 := by
        rw [hP.length]
        unfold laterC
        rw [List.length_map, List.length_take]
        omega
      have stL : laterC m n (cs.take (i + 1)) = laterC m n (cs.take i) ++ [if m ≤ c.s then c.shift n else c] := by
        unfold laterC
        rw [List.take_add_one, hc, List.map_append]
        rfl
      refine ⟨rfl, ?_⟩
      refine lcY ?_
      have step : ∀ (cv : V) (H2 : Hp), Ex H1 H2 → ClV H2 cv (if m ≤ c.s then c.shift n else c) → ∃ v, [some cv] = [some v] ∧ ∃ acc, H2 D = some (.lst acc) ∧ acc.length < sizeLine ∧ (Ex H (upd H2 D (.lst (acc ++ [v]))) ∧ ∃ ws, upd H2 D (.lst (acc ++ [v])) D = some (.lst ws) ∧ ClsV (upd H2 D (.lst (acc ++ [v]))) ws (laterC m n (cs.take (i + 1)))) := fun cv H2 e2 h => by
        have hW2 := e2 _ _ hW
        refine ⟨cv, rfl, ws, hW2, slineL (by omega), (e1.trans e2).mut hD, ws ++ [cv], upd_same, ?_⟩
        rw [stL]
        exact ClsV.tk (TK.lst hW2) (pr_append (hP.tk (TK.ex e2)) (.cons h .nil))
      refine ⟨_, rfl, _, rfl, ca, _, _, _, rfl, rfl, SqT.of hca, rfl, _, _, rfl, rfl, _, rfl, ?_⟩
      by_cases c1 : m ≤ c.s
      · rw [decide_eq_true c1]
        refine iteT ?_
        refine ⟨_, rfl, ca, _, _, _, rfl, rfl, SqT.of hca, rfl, _, rfl, _, _, rfl, rfl, (by show 1 ≤ sizeLine; decide), fun t1 ht1 => ?_⟩
        have f1 := Ex.new (o := .tup [.int (c.s + n)]) ht1
        have g1 : upd H1 t1 (.tup [.int (c.s + n)]) t1 = some (.tup [.int (c.s + n)]) := upd_same
        generalize upd H1 t1 (.tup [.int (c.s + n)]) = H2 at f1 g1 ⊢
        refine ⟨_, rfl, _, rfl, ?_⟩
        refine slA (f1 _ _ hca) fun t2 H3 e3 ht2 => ?_
        have ht2 : H3 t2 = some (.tup [.int c.n, u, .int c.fi, .int c.fo]) := ht2
        refine catA (e3 _ _ g1) ht2 (by show 5 ≤ sizeLine; decide) fun t3 H4 e4 ht3 => ?_
        have e14 := (f1.trans e3).trans e4
        obtain ⟨v, e, z⟩ := step (.ref t3) H4 e14 (by rw [if_pos c1]; exact ⟨t3, u, rfl, ht3, hu'.tk (TK.ex e14)⟩)
        cases e
        exact z
      · rw [decide_eq_false c1]
        refine iteF ?_
        obtain ⟨v, e, z⟩ := step (.ref ca) H1 (Ex.refl _) (by rw [if_neg c1]; exact hcv)
        cases e
        exact ⟨_, rfl, z⟩
    · rintro H9 ⟨e9, ws, hW, hP⟩
      rw [show us.length = cs.length from hC.length, List.take_length] at hP
      refine ⟨D, ws, rfl, .inl ⟨SqL.of hW, fun tp htp => ?_⟩⟩
      have f9 := Ex.new (o := .tup ws) htp
      have g9 : upd H9 tp (.tup ws) tp = some (.tup ws) := upd_same
      generalize upd H9 tp (.tup ws) = H10 at f9 g9 ⊢
      exact q tp ws H10 (e9.trans f9) g9 (hP.tk (TK.ex f9))

abbrev s_with_clip : Stmt := top 50
theorem sc_with_clip : FnScope ["clips", "clip"] ["clips", "clip"] (defScope s_with_clip) := ⟨rfl, rfl, rfl, by decide +kernel, rfl, by decide +kernel, by decide +kernel⟩
def lamW (PT : Addr) : List (Addr × Str) := [(PT, "_with_clip.<locals>.<lambda>")]
/-- a clip more, in order -/
def spWithClip (K : PySem.W.Frag) (PT : Addr) : Sp := fun vs H Q _ => ∃ (a : Addr) (us : List V) (cs ds : List Cl) (cv : V) (c : Cl), vs = [.ref a, cv] ∧ H a = some (.tup us) ∧ ClsV H us cs ∧ ClV H cv c ∧ cs.length ≤ 20000 ∧ Row cs ∧ 1 ≤ c.n ∧ putC c cs = some ds ∧ LamX.Tabs (lamW PT) H ∧
  ∀ p ws H', LamX.ExtN H H' → LamX.Tabs (lamW PT) H' → H' p = some (.tup ws) → ClsV H' ws ds → Q (.ref p) H'
def startOf (H : Hp) : V → Int
  | .ref a => match H a with
    | some (.tup (.int s :: _)) => s
    | _ => 0
  | _ => 0
theorem cls_perm {H : Hp} {us us' : List V} (h : us'.Perm us) : ∀ {cs : List Cl}, ClsV H us cs → ∃ cs' : List Cl, cs'.Perm cs ∧ ClsV H us' cs' := by
  induction h with
  | nil => intro xs r; exact ⟨xs, List.Perm.refl _, r⟩
  | cons u h ih =>
    intro xs r
    cases r with
    | cons a r =>
      obtain ⟨ys, h1, h2⟩ := ih r
      exact ⟨_, h1.cons _, .cons a h2⟩
  | swap u v l =>
    intro xs r
    cases r with
    | cons a r =>
      cases r with
      | cons b r => exact ⟨_, .swap _ _ _, .cons b (.cons a r)⟩
  | trans h1 h2 ih1 ih2 =>
    intro xs r
    obtain ⟨ys, p1, r1⟩ := ih2 r
    obtain ⟨zs, p2, r2⟩ := ih1 r1
    exact ⟨zs, p2.trans p1, r2⟩
theorem start_cl {H : Hp} {v : V} {c : Cl} (h : ClV H v c) : startOf H v = c.s := by
  obtain ⟨a, u, rfl, ha, _⟩ := h
  simp only [startOf, ha, Cl.items]
theorem starts_cls {H : Hp} : ∀ {us : List V} {cs : List Cl}, ClsV H us cs → us.map (startOf H) = cs.map Cl.s
  | [], _, h => by cases h; rfl
  | u :: us, _, h => by
    cases h with
    | cons a r => rw [List.map_cons, List.map_cons, start_cl a, starts_cls r]
theorem ok_with_clip {f cT PT : Addr} {fd : FuncData} (F : FunT K "_with_clip" "_with_clip" s_with_clip f fd cT) (TB : LamX.TabB base mg cT PT) (T : Txt K mg) : FnOk P w K mg base CX0 5 f fd ["clips", "clip"] (spWithClip K PT) := by
  refine F.ok sc_with_clip (fun vs H Q E h => ?_) (fun A outer s H vs Q E hr h => ?_)
  · obtain ⟨a, us, cs, ds, cv, c, rfl, _⟩ := h
    rfl
  · obtain ⟨a, us, cs, ds, cv, c, rfl, ha, hC, hcv, lc, rw_, n1, hp, tb, q⟩ := h
    have lu := hC.length
    refine ⟨_, (pss_one (ps_ret (pe_callTy (ktuple K) (by rfl) T.tuple_ bt_tuple (pa_cons (pe_sortedLamT K (N := ["item"]) (T := [(PT, "_with_clip.<locals>.<lambda>")]) TB rfl (List.mem_singleton.mpr rfl) (fun p hp _ => congrArg Prod.snd (List.mem_singleton.mp hp)) (hr.mono (by decide)) rfl rfl (by rfl) T.sorted_ (pa_cons (pe_op (kcatA K) (pv 0) (pe_tup (pa_cons (pv 1) pa_nil))) pa_nil) ⟨rfl, rfl, rfl, by decide +kernel, rfl, by decide +kernel, by decide +kernel⟩ (fun _ _ _ _ _ => (pe_ix (kixT K) (pv 0) pe_int (fun _ _ => rfl)))) pa_nil)))), ?_⟩
    refine ⟨_, rfl, _, rfl, (by show 1 ≤ sizeLine; decide), fun t1 ht1 => ?_⟩
    have f1 := Ex.new (o := .tup [cv]) ht1
    have g1 : upd H t1 (.tup [cv]) t1 = some (.tup [cv]) := upd_same
    generalize upd H t1 (.tup [cv]) = H1 at f1 g1 ⊢
    refine catA (f1 _ _ ha) g1 (Nat.le_of_lt (slineL (by simp only [List.length_cons, List.length_nil]; omega))) fun t2 H2 e2 ht2 => ?_
    have e12 := f1.trans e2
    have hC2 : ClsV H2 (us ++ [cv]) (cs ++ [c]) := pr_append (hC.tk (TK.ex e12)) (.cons (hcv.tk (TK.ex e12)) .nil)
    refine ⟨t2, us ++ [cv], startOf H2, rfl, SqT.of ht2, tb.ext e12, fun v hv H3 en => ?_, fun H3 p us' en tb3 np hpm so => ?_⟩
    · obtain ⟨j, hj⟩ := List.getElem?_of_mem hv
      obtain ⟨d, hd, hdv⟩ := pr_get hC2 hj
      rw [start_cl hdv]
      obtain ⟨da, du, rfl, hda, _⟩ := hdv
      exact ⟨_, rfl, da, _, 0, _, rfl, rfl, SqT.of (extN_tk en _ _ hda), rfl, rfl, rfl⟩
    · obtain ⟨es, hpe, hE⟩ := cls_perm hpm hC2
      rw [starts_cls hE] at so
      obtain rfl := put_sorted rw_ n1 hp hpe so
      have f3 := Ex.new (o := .lst us') np
      have k3 : upd H3 p (.lst us') p = some (.lst us') := upd_same
      have en3 : LamX.ExtN H2 (upd H3 p (.lst us')) := fun b o hb n => f3 _ _ (en b o hb n)
      have tb4 : LamX.Tabs (lamW PT) (upd H3 p (.lst us')) := tb3.ext f3
      generalize upd H3 p (.lst us') = H4 at f3 k3 en3 tb4 ⊢
      refine ⟨p, us', rfl, .inl ⟨SqL.of k3, fun t5 ht5 => ?_⟩⟩
      have f5 := Ex.new (o := .tup us') ht5
      have g5 : upd H4 t5 (.tup us') t5 = some (.tup us') := upd_same
      generalize upd H4 t5 (.tup us') = H5 at f5 g5 ⊢
      have en5 : LamX.ExtN H2 H5 := fun b o hb n => f5 _ _ (en3 b o hb n)
      exact q t5 us' H5 (fun b o hb n => en5 b o (e12 b o hb) n) (tb4.ext f5) g5 (hE.tk (extN_tk en5))

abbrev s_lifted : Stmt := top 40
theorem sc_lifted : FnScope ["clips", "first", "last", "parts", "clip"] ["clips", "first", "last"] (defScope s_lifted) := ⟨rfl, rfl, rfl, by decide +kernel, rfl, by decide +kernel, by decide +kernel⟩
theorem ok_lifted {f : Addr} {fd : FuncData} (F : Fun K "lifted" "lifted" s_lifted f fd) (T : Txt K mg) {C : Addr} (D_parted : Def P w K mg base (L2.CX P w) "_parted" 6 ["clips", "frame"] (spParted K C)) (D_is_beside : Def P w K mg base CX0 "_is_beside" 2 ["clip", "first", "last"] spBeside) : FnOk P w K mg base (L2.CX P w) 7 f fd ["clips", "first", "last"] (spTlG K C "BadCut" arLift) := by
  refine F.okX sc_lifted (fun vs H Q E h => ?_) (fun cdv A outer s H vs Q E hr h => ?_)
  · obtain ⟨a, rest, us, cs, k, rfl, ⟨x, y, rfl, rfl⟩, _⟩ := h
    rfl
  · obtain ⟨a, rest, us, cs, k, rfl, ⟨x, y, rfl, rfl⟩, ha, hC, rw_, lc, _, qN, qE⟩ := h
    refine ⟨_, (pss_cons (ps_set (i := 3) sc_lifted.nd rfl (by first | exact Or.inl rfl | exact Or.inr rfl) (pe_call D_parted.ok (hr.mono (by decide)) rfl D_parted.mgf D_parted.kp D_parted.b .nil (passes_call (takes_of rfl rfl rfl rfl) fun _ _ _ _ z => z) (pa_cons (pe_call D_parted.ok (hr.mono (by decide)) rfl D_parted.mgf D_parted.kp D_parted.b .nil (passes_call (takes_of rfl rfl rfl rfl) fun _ _ _ _ z => z) (pa_cons (pv 0) (pa_cons (pv 1) pa_nil))) (pa_cons (pv 2) pa_nil))))
      (pss_one (ps_ret (pe_callTy (ktuple K) (by rfl) T.tuple_ bt_tuple (pa_cons (pe_lc (own := [("clip", 4)]) rfl sc_lifted.nd (kpiT K (pv 3)) (blkOk_by (N := ["clips", "first", "last", "parts", "clip"]) (sc := defScope s_lifted) (by decide +kernel)) (fun _ _ _ _ _ => (pg_name (i := 4) sc_lifted.nd rfl (by first | exact Or.inl rfl | exact Or.inr rfl))) (fun _ _ _ _ _ => (pts_one (pt_val (pe_call D_is_beside.ok (hr.mono (by decide)) rfl D_is_beside.mgf D_is_beside.kp D_is_beside.b .nil pass0 (pa_cons (pv 4) (pa_cons (pv 1) (pa_cons (pv 2) pa_nil))))))) (fun _ _ _ _ _ => (pv 4))) pa_nil))))), ?_⟩
    refine ⟨_, rfl, _, rfl, a, us, cs, x, rfl, ha, hC, by omega, rw_, fun d1 hs1 p1 w1 H1 e1 hp1 hW1 => ?_, fun hs1 d H1 h1 e1 h3 => ?_⟩
    · have l1 := split_len hs1
      refine ⟨_, rfl, p1, w1, d1, y, rfl, hp1, hW1, by omega, split_row rw_ hs1, fun ds hs2 p us1 H2 e2 hp hC1 => ?_, fun hs2 d H2 h1 e2 h3 => ?_⟩
      · have l2 := split_len hs2
        refine ⟨_, rfl, p, rfl, ⟨us1, SqT.of hp⟩, fun D hD => ?_⟩
        refine lc_tup (xs := us1) (fun i H' => Ex H2 H' ∧ ∃ ws, H' D = some (.lst ws) ∧ ClsV H2 ws ((ds.take i).filter (Cl.keep x y))) ⟨Ex.new hD, [], upd_same, .nil⟩ (fun i H' _ p => SqT.of (p.1 _ _ hp)) ?_ ?_
        · rintro i uv H' hu ⟨e, ws, hW, hP⟩
          obtain ⟨z, hz, hzv0⟩ := pr_get hC1 hu
          have hzv := hzv0.tk (TK.ex e)
          have hi : i < ds.length := (List.getElem?_eq_some_iff.mp hz).1
          have wl := hP.length
          have fl := List.length_filter_le (Cl.keep x y) (ds.take i)
          rw [List.length_take] at fl
          have st : (ds.take (i + 1)).filter (Cl.keep x y) = (ds.take i).filter (Cl.keep x y) ++ (if (Cl.keep x y) z = true then [z] else []) := by
            rw [List.take_add_one, hz, List.filter_append]
            congr 1
            by_cases c : (Cl.keep x y) z = true
            · rw [if_pos c]
              simp [c]
            · rw [if_neg c]
              simp [c]
          refine ⟨rfl, ?_⟩
          refine ⟨_, rfl, _, rfl, _, rfl, uv, z, x, y, rfl, hzv, _, rfl, ?_⟩
          cases k : Cl.keep x y z with
          | true =>
            refine iteT ?_
            refine ⟨_, rfl, ws, hW, slineL (by omega), e.mut hD, ws ++ [uv], upd_same, ?_⟩
            rw [st, if_pos k]
            exact pr_append hP (.cons hzv0 .nil)
          | false =>
            refine iteF ?_
            refine ⟨e, ws, hW, ?_⟩
            rw [st, if_neg (by rw [k]; exact Bool.false_ne_true), List.append_nil]
            exact hP
        rintro H9 ⟨e9, ws, hW, hP⟩
        rw [show us1.length = ds.length from hC1.length, List.take_length] at hP
        refine ⟨D, ws, rfl, .inl ⟨SqL.of hW, fun tp htp => ?_⟩⟩
        have f9 := Ex.new (o := .tup ws) htp
        have g9 : upd H9 tp (.tup ws) tp = some (.tup ws) := upd_same
        generalize upd H9 tp (.tup ws) = H10 at f9 g9 ⊢
        refine qN _ tp ws H10 ?_ (((e1.trans e2).trans e9).trans f9) g9 (hP.tk (TK.ex (e9.trans f9)))
        simp only [lineC, liftC, hs1, hs2]
      · refine qE "cut" y ?_ d H2 (ex_free e1 h1) (e1.trans e2) h3
        simp only [lineC, liftC, hs1, hs2]
    · refine qE "cut" x ?_ d H1 h1 e1 h3
      simp only [lineC, liftC, hs1]

abbrev s_rippled_out : Stmt := top 42
theorem sc_rippled_out : FnScope ["clips", "first", "last"] ["clips", "first", "last"] (defScope s_rippled_out) := ⟨rfl, rfl, rfl, by decide +kernel, rfl, by decide +kernel, by decide +kernel⟩
theorem ok_rippled_out {f : Addr} {fd : FuncData} (F : Fun K "rippled_out" "rippled_out" s_rippled_out f fd) (T : Txt K mg) {C : Addr} (D_lifted : Def P w K mg base (L2.CX P w) "lifted" 7 ["clips", "first", "last"] (spTlG K C "BadCut" arLift)) (D_later : Def P w K mg base CX0 "_later" 1 ["clips", "frame", "count"] (spLaterP K)) : FnOk P w K mg base (L2.CX P w) 8 f fd ["clips", "first", "last"] (spTlG K C "BadCut" arRout) := by
  refine F.okX sc_rippled_out (fun vs H Q E h => ?_) (fun cdv A outer s H vs Q E hr h => ?_)
  · obtain ⟨a, rest, us, cs, k, rfl, ⟨x, y, rfl, rfl⟩, _⟩ := h
    rfl
  · obtain ⟨a, rest, us, cs, k, rfl, ⟨x, y, rfl, rfl⟩, ha, hC, rw_, lc, _, qN, qE⟩ := h
    refine ⟨_, (pss_one (ps_ret (pe_call D_later.ok (hr.mono (by decide)) rfl D_later.mgf D_later.kp D_later.b .nil pass0 (pa_cons (pe_call D_lifted.ok (hr.mono (by decide)) rfl D_lifted.mgf D_lifted.kp D_lifted.b .nil (passes_call (takes_of rfl rfl rfl rfl) fun _ _ _ _ z => z) (pa_cons (pv 0) (pa_cons (pv 1) (pa_cons (pv 2) pa_nil)))) (pa_cons (pv 2) (pa_cons (pe_op op_sub (pv 1) (pv 2)) pa_nil)))))), ?_⟩
    refine ⟨_, rfl, _, rfl, _, rfl, a, [.int x, .int y], us, cs, .lift x y, rfl, ⟨x, y, rfl, rfl⟩, ha, hC, rw_, lc, trivial, fun ds p ws H1 hL e1 hp hW => ?_, fun wd n hL d H1 h1 e1 h3 => ?_⟩
    · have hL : liftC x y cs = .ok ds := by simpa only [lineC, Option.some.injEq] using hL
      have := (lift_row rw_ hL).2.2
      refine ⟨_, rfl, _, rfl, _, rfl, _, _, rfl, rfl, p, ws, ds, y, x - y, rfl, hp, hW, by omega, fun p2 w2 H2 e2 hp2 hW2 => ?_⟩
      refine qN _ p2 w2 H2 ?_ (e1.trans e2) hp2 hW2
      simp only [lineC, hL]
    · have hL : liftC x y cs = .err wd n := by simpa only [lineC, Option.some.injEq] using hL
      refine qE wd n ?_ d H1 h1 e1 h3
      simp only [lineC, hL]

abbrev s_rippled_in : Stmt := top 43
theorem sc_rippled_in : FnScope ["clips", "frame", "count"] ["clips", "frame", "count"] (defScope s_rippled_in) := ⟨rfl, rfl, rfl, by decide +kernel, rfl, by decide +kernel, by decide +kernel⟩
theorem ok_rippled_in {f : Addr} {fd : FuncData} (F : Fun K "rippled_in" "rippled_in" s_rippled_in f fd) (T : Txt K mg) {C : Addr} (D_parted : Def P w K mg base (L2.CX P w) "_parted" 6 ["clips", "frame"] (spParted K C)) (D_later : Def P w K mg base CX0 "_later" 1 ["clips", "frame", "count"] (spLaterP K)) : FnOk P w K mg base (L2.CX P w) 8 f fd ["clips", "frame", "count"] (spTlG K C "BadCut" arRin) := by
  refine F.okX sc_rippled_in (fun vs H Q E h => ?_) (fun cdv A outer s H vs Q E hr h => ?_)
  · obtain ⟨a, rest, us, cs, k, rfl, ⟨x, y, rfl, rfl⟩, _⟩ := h
    rfl
  · obtain ⟨a, rest, us, cs, k, rfl, ⟨x, y, rfl, rfl⟩, ha, hC, rw_, lc, _, qN, qE⟩ := h
    refine ⟨_, (pss_one (ps_ret (pe_call D_later.ok (hr.mono (by decide)) rfl D_later.mgf D_later.kp D_later.b .nil pass0 (pa_cons (pe_call D_parted.ok (hr.mono (by decide)) rfl D_parted.mgf D_parted.kp D_parted.b .nil (passes_call (takes_of rfl rfl rfl rfl) fun _ _ _ _ z => z) (pa_cons (pv 0) (pa_cons (pv 1) pa_nil))) (pa_cons (pv 1) (pa_cons (pv 2) pa_nil)))))), ?_⟩
    refine ⟨_, rfl, _, rfl, a, us, cs, x, rfl, ha, hC, by omega, rw_, fun ds hs p ws H1 e1 hp hW => ?_, fun hs d H1 h1 e1 h3 => ?_⟩
    · have := split_len hs
      refine ⟨_, rfl, _, rfl, p, ws, ds, x, y, rfl, hp, hW, by omega, fun p2 w2 H2 e2 hp2 hW2 => ?_⟩
      refine qN _ p2 w2 H2 ?_ (e1.trans e2) hp2 hW2
      simp only [lineC, hs]
    · refine qE "cut" x ?_ d H1 h1 e1 h3
      simp only [lineC, hs]

abbrev s_cut_at : Stmt := top 36
theorem sc_cut_at : FnScope ["clips", "frame", "place"] ["clips", "frame"] (defScope s_cut_at) := ⟨rfl, rfl, rfl, by decide +kernel, rfl, by decide +kernel, by decide +kernel⟩
theorem ok_cut_at {f : Addr} {fd : FuncData} (F : Fun K "cut_at" "cut_at" s_cut_at f fd) (T : Txt K mg) {C : Addr} (KB : KindOk P w K mg base "BadCut" C) (D_place_across : Def P w K mg base CX0 "_place_across" 2 ["clips", "frame"] (spAcross K)) (D_cut : Def P w K mg base (L2.CX P w) "_cut" 5 ["clips", "place", "frame"] (spCutOne K C)) : FnOk P w K mg base (L2.CX P w) 8 f fd ["clips", "frame"] (spTlG K C "BadCut" arCut) := by
  refine F.okX sc_cut_at (fun vs H Q E h => ?_) (fun cdv A outer s H vs Q E hr h => ?_)
  · obtain ⟨a, rest, us, cs, k, rfl, ⟨m, rfl, rfl⟩, _⟩ := h
    rfl
  · obtain ⟨a, rest, us, cs, k, rfl, ⟨m, rfl, rfl⟩, ha, hC, rw_, lc, _, qN, qE⟩ := h
    obtain ⟨fC, KT, fdC, GC, ⟨ds, hds, bC⟩, bA⟩ := KB
    refine ⟨_, (pss_cons (ps_set (i := 2) sc_cut_at.nd rfl (by first | exact Or.inl rfl | exact Or.inr rfl) (pe_call D_place_across.ok (hr.mono (by decide)) rfl D_place_across.mgf D_place_across.kp D_place_across.b .nil pass0 (pa_cons (pv 0) (pa_cons (pv 1) pa_nil))))
      (pss_cons (ps_if (pt_cmpR op_isN (pv 2) pe_non (nomark _))
        (pss_one (ps_raise rfl (takes_of rfl rfl rfl rfl) (pmk_oex KT.T KT.iC KT.tI GC (hr.mono (by decide)) bA .nil pass0 rfl KT.g (pa_cons (pv 1) pa_nil))))
        pss_nil)
      (pss_one (ps_ret (pe_call D_cut.ok (hr.mono (by decide)) rfl D_cut.mgf D_cut.kp D_cut.b .nil (passes_call (takes_of rfl rfl rfl rfl) fun _ _ _ _ z => z) (pa_cons (pv 0) (pa_cons (pv 2) (pa_cons (pv 1) pa_nil)))))))), ?_⟩
    refine ⟨_, rfl, _, rfl, a, us, cs, m, rfl, ha, hC, fun o H1 e1 ho => ?_⟩
    have ha1 := e1 _ _ ha
    have hC1 := hC.tk (TK.ex e1)
    refine ⟨_, rfl, rfl, _, rfl, ?_⟩
    cases o with
    | none =>
      refine iteD rfl ?_
      refine ⟨_, rfl, (by show 1 ≤ 1000; decide), fun b hb => kind_made KT hb fun d H' h1 h2 h3 => ?_⟩
      refine qE "cut" m ?_ d H' (ex_free e1 h1) (e1.trans h2) h3
      simp only [lineC, split_out ho, if_pos]
    | some i =>
      refine iteN (fun z => nomatch z) ?_
      obtain ⟨c, hc, hi, _⟩ := id ho
      refine ⟨_, rfl, _, rfl, _, rfl, a, us, cs, i, c, m, rfl, ha1, hC1, by omega, hc, fun hf p ws H2 e2 hp hW => ?_, fun hf d H2 h1 e2 h3 => ?_⟩
      · refine qN _ p ws H2 ?_ (e1.trans e2) hp hW
        have e := split_grows (m := m) hc (x := c.left m) (y := c.right m)
        simp only [lineC, split_ats rw_ ho hc hf]
        rw [if_neg (by rw [e]; omega)]
      · refine qE "cut" m ?_ d H2 (ex_free e1 h1) (e1.trans e2) h3
        simp only [lineC, split_bad_at (List.mem_of_getElem? hc) hi hf]

abbrev s_join_at : Stmt := top 37
theorem sc_join_at : FnScope ["clips", "place", "start", "length", "paint", "fade_in", "_", "behind"] ["clips", "place"] (defScope s_join_at) := ⟨rfl, rfl, rfl, by decide +kernel, rfl, by decide +kernel, by decide +kernel⟩
theorem ok_join_at {f : Addr} {fd : FuncData} (F : Fun K "join_at" "join_at" s_join_at f fd) (T : Txt K mg) {C : Addr} (KB : KindOk P w K mg base "BadJoin" C) (D_are_one : Def P w K mg base CX0 "_are_one" 2 ["first", "second"] (spAreOne K)) : FnOk P w K mg base (L2.CX P w) 8 f fd ["clips", "place"] (spTlG K C "BadJoin" arJoin) := by
  refine F.okX sc_join_at (fun vs H Q E h => ?_) (fun cdv A outer s H vs Q E hr h => ?_)
  · obtain ⟨a, rest, us, cs, k, rfl, ⟨m, rfl, rfl⟩, _⟩ := h
    rfl
  · obtain ⟨a, rest, us, cs, k, rfl, ⟨p, rfl, rfl⟩, ha, hC, rw_, lc, _, qN, qE⟩ := h
    obtain ⟨fC, KT, fdC, GC, ⟨ds, hds, bC⟩, bA⟩ := KB
    have lu := hC.length
    refine ⟨_, (pss_cons (ps_if (PW.pt (pw_or (pt_not (pt_chain op_le op_lt pe_int (pv 1) (pe_op op_sub (pe_callB (klen K) (by rfl) T.len_ PySem.boot_len (pa_cons (pv 0) pa_nil)) pe_int))) (pw_or1 (pt_not (pt_val (pe_call D_are_one.ok (hr.mono (by decide)) rfl D_are_one.mgf D_are_one.kp D_are_one.b .nil pass0 (pa_cons (pe_ix (kixT K) (pv 0) (pv 1) (fun _ _ => rfl)) (pa_cons (pe_ix (kixT K) (pv 0) (pe_op op_add (pv 1) pe_int) (fun _ _ => rfl)) pa_nil))))))))
        (pss_one (ps_raise rfl (takes_of rfl rfl rfl rfl) (pmk_oex KT.T KT.iC KT.tI GC (hr.mono (by decide)) bA .nil pass0 rfl KT.g (pa_cons (pv 1) pa_nil))))
        pss_nil)
      (pss_cons (ps_asg (pe_ix (kixT K) (pv 0) (pv 1) (fun _ _ => rfl)) (kpgT K (n := 5) rfl (pgs_cons (pg_name (i := 2) sc_join_at.nd rfl (by first | exact Or.inl rfl | exact Or.inr rfl)) (pgs_cons (pg_name (i := 3) sc_join_at.nd rfl (by first | exact Or.inl rfl | exact Or.inr rfl)) (pgs_cons (pg_name (i := 4) sc_join_at.nd rfl (by first | exact Or.inl rfl | exact Or.inr rfl)) (pgs_cons (pg_name (i := 5) sc_join_at.nd rfl (by first | exact Or.inl rfl | exact Or.inr rfl)) (pgs_cons (pg_name (i := 6) sc_join_at.nd rfl (by first | exact Or.inl rfl | exact Or.inr rfl)) pgs_nil)))))))
      (pss_cons (ps_set (i := 7) sc_join_at.nd rfl (by first | exact Or.inl rfl | exact Or.inr rfl) (pe_ix (kixT K) (pv 0) (pe_op op_add (pv 1) pe_int) (fun _ _ => rfl)))
      (pss_one (ps_ret (pe_op (kcatA K) (pe_op (kcatA K) (pe_slice (kslA K) (pv 0) po_none (po_some (pv 1))) (pe_tup (pa_cons (pe_tup (pa_cons (pv 2) (pa_cons (pe_op op_add (pv 3) (pe_ix (kixT K) (pv 7) pe_int (fun _ _ => rfl))) (pa_cons (pv 4) (pa_cons (pv 5) (pa_cons (pe_ix (kixT K) (pv 7) pe_int (fun _ _ => rfl)) pa_nil)))))) pa_nil))) (pe_slice (kslA K) (pv 0) (po_some (pe_op op_add (pv 1) pe_int)) po_none))))))), ?_⟩
    have er : joinC p cs = .err "join" p → ∀ b, H b = none → spKind K "BadJoin" [.ref b, .int p] (upd H b (exo b C none)) (fun v H2 => v = .non ∧ ∃ (d : Addr) (fs : List (Str × V)), H2 b = some (exo b C (some d)) ∧ H2 d = some (exd d fs) ∧ H d = none ∧ E (.ref C) (some d) (upd (del H2 b) d (.xd fs))) (fun _ _ _ => False) := fun hf b hb =>
      kind_made KT hb fun d H' h1 h2 h3 => qE "join" p (by simp only [lineC, hf]) d H' h1 h2 h3
    refine ⟨_, rfl, _, _, rfl, rfl, _, rfl, ?_⟩
    have out : ¬ (0 ≤ p ∧ p < (us.length : Int) - 1) → joinC p cs = .err "join" p := fun h => joinC_out (by omega)
    by_cases c0 : 0 ≤ p
    · rw [decide_eq_true c0]
      refine iteT ?_
      refine ⟨_, rfl, a, us, rfl, .inr (SqT.of ha), _, _, rfl, rfl, _, _, rfl, rfl, _, rfl, ?_⟩
      by_cases c1 : p < (us.length : Int) - 1
      · rw [decide_eq_true c1]
        refine iteF ?_
        obtain ⟨m, rfl⟩ := Int.eq_ofNat_of_zero_le c0
        have h1 : us[m]? = some us[m] := List.getElem?_eq_getElem (by omega)
        have h2 : us[m + 1]? = some us[m + 1] := List.getElem?_eq_getElem (by omega)
        obtain ⟨c, hc, hcv⟩ := pr_get hC h1
        obtain ⟨d, hd, hdv⟩ := pr_get hC h2
        generalize us[m] = uc at hcv h1
        generalize us[m + 1] = ud at hdv h2
        obtain ⟨ca, u, rfl, hca, hu⟩ := id hcv
        obtain ⟨da, du, rfl, hda, hdu⟩ := id hdv
        have e0 := joinC_at hc hd
        have iff := one_iff (c := c) (d := d) (rw_.f0 c (List.mem_of_getElem? hc)).2 (rw_.f0 d (List.mem_of_getElem? hd)).1 (PySem.W.eqv_comm (opD d.pa) (opD c.pa))
        refine ⟨_, rfl, _, rfl, a, us, (m : Int), _, rfl, rfl, SqT.of ha, atI_nat h1, _, rfl, _, rfl, _, _, rfl, rfl, a, us, (m : Int) + 1, _, rfl, rfl, SqT.of ha, atI_nat (j := m + 1) h2, ?_⟩
        refine ⟨.ref ca, .ref da, c, d, rfl, hcv, hdv, _, rfl, ?_⟩
        cases k : areOne c d with
        | false =>
          refine iteT ?_
          rw [if_pos (iff.mp k)] at e0
          exact ⟨_, rfl, (by show 1 ≤ 1000; decide), er e0⟩
        | true =>
          refine iteF ?_
          rw [if_neg (fun z => by have := iff.mpr z; unfold areOne at k; rw [k] at this; cases this)] at e0
          refine ⟨_, rfl, _, rfl, a, us, (m : Int), _, rfl, rfl, SqT.of ha, atI_nat h1, ?_⟩
          refine ⟨ca, _, rfl, SqT.of hca, rfl, _, _, rfl, _, _, rfl, _, _, rfl, _, _, rfl, _, _, rfl, rfl, ?_⟩
          refine ⟨_, rfl, _, rfl, _, _, rfl, rfl, a, us, (m : Int) + 1, _, rfl, rfl, SqT.of ha, atI_nat (j := m + 1) h2, ?_⟩
          have hm : m ≤ us.length := by omega
          have hm2 : m + 2 ≤ us.length := by omega
          refine ⟨_, rfl, _, rfl, _, rfl, ?_⟩
          refine slA ha fun t1 H2 e2 ht1 => ?_
          rw [cutV_take hm] at ht1
          have hca2 := e2 _ _ hca
          have hda2 := e2 _ _ hda
          refine ⟨_, rfl, _, rfl, _, rfl, da, _, _, _, rfl, rfl, SqT.of hda2, rfl, _, _, rfl, rfl, _, rfl, _, rfl, _, rfl, da, _, _, _, rfl, rfl, SqT.of hda2, rfl, ?_⟩
          refine ⟨(by show 5 ≤ sizeLine; decide), fun t3 ht3 => ?_⟩
          have f3 := Ex.new (o := .tup [.int c.s, .int (c.n + d.n), u, .int c.fi, .int d.fo]) ht3
          have g3 : upd H2 t3 (.tup [.int c.s, .int (c.n + d.n), u, .int c.fi, .int d.fo]) t3 = some (.tup [.int c.s, .int (c.n + d.n), u, .int c.fi, .int d.fo]) := upd_same
          generalize upd H2 t3 (.tup [.int c.s, .int (c.n + d.n), u, .int c.fi, .int d.fo]) = H3 at f3 g3 ⊢
          refine ⟨(by show 1 ≤ sizeLine; decide), fun t4 ht4 => ?_⟩
          have f4 := Ex.new (o := .tup [.ref t3]) ht4
          have g4 : upd H3 t4 (.tup [.ref t3]) t4 = some (.tup [.ref t3]) := upd_same
          generalize upd H3 t4 (.tup [.ref t3]) = H4 at f4 g4 ⊢
          refine catA (f4 _ _ (f3 _ _ ht1)) g4 (Nat.le_of_lt (slineL (by simp only [List.length_take, List.length_cons, List.length_nil]; omega))) fun t5 H5 e5 ht5 => ?_
          have e15 := ((e2.trans f3).trans f4).trans e5
          refine ⟨_, rfl, _, rfl, _, _, rfl, rfl, _, rfl, ?_⟩
          refine slA (e15 _ _ ha) fun t6 H6 e6 ht6 => ?_
          rw [show (m : Int) + 2 = ((m + 2 : Nat) : Int) from rfl, cutV_drop hm2] at ht6
          refine catA (e6 _ _ ht5) ht6 (Nat.le_of_lt (slineL (by simp only [List.length_append, List.length_take, List.length_drop, List.length_cons, List.length_nil]; omega))) fun t7 H7 e7 ht7 => ?_
          have e17 := (e15.trans e6).trans e7
          have hC7 := hC.tk (TK.ex e17)
          have cl3 : ClV H7 (.ref t3) ⟨c.s, c.n + d.n, c.pa, c.fi, d.fo⟩ := ⟨t3, u, rfl, e7 _ _ (e6 _ _ (e5 _ _ (f4 _ _ g3))), hu.tk (TK.ex e17)⟩
          refine qN (cs.take m ++ [⟨c.s, c.n + d.n, c.pa, c.fi, d.fo⟩] ++ cs.drop (m + 2)) t7 _ H7 (by simp only [lineC, e0]) e17 ht7 (pr_append (pr_append (pr_take m hC7) (.cons cl3 .nil)) (pr_drop (m + 2) hC7))
      · rw [decide_eq_false c1]
        refine iteT ?_
        refine iteT ?_
        exact ⟨_, rfl, (by show 1 ≤ 1000; decide), er (out fun z => c1 z.2)⟩
    · rw [decide_eq_false c0]
      refine iteF ?_
      refine ⟨_, rfl, iteT ?_⟩
      refine iteT ?_
      exact ⟨_, rfl, (by show 1 ≤ 1000; decide), er (out fun z => c0 z.1)⟩

abbrev s_with_span : Stmt := top 38
theorem sc_with_span : FnScope ["clips", "place", "start", "length", "_", "paint", "fade_in", "fade_out", "others", "is_free", "clip"] ["clips", "place", "start", "length"] (defScope s_with_span) := ⟨rfl, rfl, rfl, by decide +kernel, rfl, by decide +kernel, by decide +kernel⟩
theorem ok_with_span {f PT : Addr} {fd : FuncData} (F : Fun K "with_span" "with_span" s_with_span f fd) (T : Txt K mg) {C : Addr} (KB : KindOk P w K mg base "BadPlace" C) (D_has_place : Def P w K mg base CX0 "_has_place" 1 ["clips", "place"] spHasPlace) (D_is_beside : Def P w K mg base CX0 "_is_beside" 2 ["clip", "first", "last"] spBeside)
    (D_with_clip : Def P w K mg base CX0 "_with_clip" 5 ["clips", "clip"] (spWithClip K PT)) : FnOk P w K mg base (L2.CX P w) 7 f fd ["clips", "place", "start", "length"] (spTlT K (lamW PT) C "BadPlace" arTrim) := by
  refine F.okX sc_with_span (fun vs H Q E h => ?_) (fun cdv A outer s H vs Q E hr h => ?_)
  · obtain ⟨a, rest, us, cs, k, rfl, ⟨p, s, n, rfl, rfl⟩, _⟩ := h
    rfl
  · obtain ⟨a, rest, us, cs, k, rfl, ⟨p, s, n, rfl, rfl⟩, ha, hC, rw_, lc, _, tb, qN, qE⟩ := h
    obtain ⟨fC, KT, fdC, GC, ⟨ds, hds, bC⟩, bA⟩ := KB
    have lu := hC.length
    refine ⟨_, (pss_cons (ps_if (pt_not (pt_val (pe_call D_has_place.ok (hr.mono (by decide)) rfl D_has_place.mgf D_has_place.kp D_has_place.b .nil pass0 (pa_cons (pv 0) (pa_cons (pv 1) pa_nil)))))
        (pss_one (ps_raise rfl (takes_of rfl rfl rfl rfl) (pmk_oex KT.T KT.iC KT.tI GC (hr.mono (by decide)) bA .nil pass0 rfl KT.g (pa_cons (pv 1) pa_nil))))
        pss_nil)
      (pss_cons (ps_asg (pe_ix (kixT K) (pv 0) (pv 1) (fun _ _ => rfl)) (kpgT K (n := 5) rfl (pgs_cons (pg_name (i := 4) sc_with_span.nd rfl (by first | exact Or.inl rfl | exact Or.inr rfl)) (pgs_cons (pg_name (i := 4) sc_with_span.nd rfl (by first | exact Or.inl rfl | exact Or.inr rfl)) (pgs_cons (pg_name (i := 5) sc_with_span.nd rfl (by first | exact Or.inl rfl | exact Or.inr rfl)) (pgs_cons (pg_name (i := 6) sc_with_span.nd rfl (by first | exact Or.inl rfl | exact Or.inr rfl)) (pgs_cons (pg_name (i := 7) sc_with_span.nd rfl (by first | exact Or.inl rfl | exact Or.inr rfl)) pgs_nil)))))))
      (pss_cons (ps_set (i := 8) sc_with_span.nd rfl (by first | exact Or.inl rfl | exact Or.inr rfl) (pe_op (kcatA K) (pe_slice (kslA K) (pv 0) po_none (po_some (pv 1))) (pe_slice (kslA K) (pv 0) (po_some (pe_op op_add (pv 1) pe_int)) po_none)))
      (pss_cons (ps_set (i := 9) sc_with_span.nd rfl (by first | exact Or.inl rfl | exact Or.inr rfl) (pe_callB (kall K rfl) (by rfl) T.all_ bt_all (pa_cons (pe_lc (own := [("clip", 10)]) (tt := tYes) rfl sc_with_span.nd (kpiT K (pv 8)) (blkOk_by (N := ["clips", "place", "start", "length", "_", "paint", "fade_in", "fade_out", "others", "is_free", "clip"]) (sc := defScope s_with_span) (by decide +kernel)) (fun _ _ _ _ _ => (pg_name (i := 10) sc_with_span.nd rfl (by first | exact Or.inl rfl | exact Or.inr rfl))) (fun _ _ _ _ _ => pts_nil) (fun _ _ _ _ _ => (pe_call D_is_beside.ok (hr.mono (by decide)) rfl D_is_beside.mgf D_is_beside.kp D_is_beside.b .nil pass0 (pa_cons (pv 10) (pa_cons (pv 2) (pa_cons (pe_op op_add (pv 2) (pv 3)) pa_nil)))))) pa_nil)))
      (pss_cons (ps_if (PW.pt (pw_or (pt_cmpR op_lt (pv 2) pe_int (nomark _)) (pw_or (pt_cmpR op_lt (pv 3) pe_int (nomark _)) (pw_or (pt_cmpR op_lt (pv 3) (pe_op op_add (pv 6) (pv 7)) (nomark _)) (pw_or1 (pt_not (pt_val (pv 9))))))))
        (pss_one (ps_raise rfl (takes_of rfl rfl rfl rfl) (pmk_oex KT.T KT.iC KT.tI GC (hr.mono (by decide)) bA .nil pass0 rfl KT.g (pa_cons (pv 1) pa_nil))))
        pss_nil)
      (pss_one (ps_ret (pe_call D_with_clip.ok (hr.mono (by decide)) rfl D_with_clip.mgf D_with_clip.kp D_with_clip.b .nil pass0 (pa_cons (pv 8) (pa_cons (pe_tup (pa_cons (pv 2) (pa_cons (pv 3) (pa_cons (pv 5) (pa_cons (pv 6) (pa_cons (pv 7) pa_nil)))))) pa_nil)))))))))), ?_⟩
    have er : ∀ {H1 : Hp}, Ex H H1 → spanC p s n cs = .err "place" p → ∀ b, H1 b = none → spKind K "BadPlace" [.ref b, .int p] (upd H1 b (exo b C none)) (fun v H2 => v = .non ∧ ∃ (d : Addr) (fs : List (Str × V)), H2 b = some (exo b C (some d)) ∧ H2 d = some (exd d fs) ∧ H1 d = none ∧ E (.ref C) (some d) (upd (del H2 b) d (.xd fs))) (fun _ _ _ => False) := fun e1 hf b hb =>
      kind_made KT hb fun d H' h1 h2 h3 => qE "place" p (by simp only [lineC, hf]) d H' (ex_free e1 h1) (e1.trans h2) h3
    refine ⟨_, rfl, _, rfl, a, us, p, rfl, ha, _, rfl, ?_⟩
    by_cases c : 0 ≤ p ∧ p < us.length
    · rw [decide_eq_true c.1, decide_eq_true c.2]
      refine iteF ?_
      obtain ⟨m, rfl⟩ := Int.eq_ofNat_of_zero_le c.1
      have hui : us[m]? = some us[m] := List.getElem?_eq_getElem (by omega)
      obtain ⟨c, hc, hcv⟩ := pr_get hC hui
      generalize us[m] = uc at hcv hui
      obtain ⟨ca, u, rfl, hca, hu⟩ := hcv
      have e0 := spanC_at (s := s) (n := n) hc
      have hm : m ≤ us.length := by omega
      have hm1 : m + 1 ≤ us.length := by omega
      refine ⟨_, rfl, _, rfl, a, us, (m : Int), _, rfl, rfl, SqT.of ha, atI_nat hui, ?_⟩
      refine ⟨ca, _, rfl, SqT.of hca, rfl, _, _, rfl, _, _, rfl, _, _, rfl, _, _, rfl, _, _, rfl, rfl, ?_⟩
      refine ⟨_, rfl, _, rfl, _, rfl, ?_⟩
      refine slA ha fun t1 H1 e1 ht1 => ?_
      rw [cutV_take hm] at ht1
      refine ⟨_, rfl, _, rfl, _, _, rfl, rfl, _, rfl, ?_⟩
      refine slA (e1 _ _ ha) fun t2 H2 e2 ht2 => ?_
      rw [show (m : Int) + 1 = ((m + 1 : Nat) : Int) from rfl, cutV_drop hm1] at ht2
      refine catA (e2 _ _ ht1) ht2 (Nat.le_of_lt (slineL (by simp only [List.length_take, List.length_drop]; omega))) fun t3 H3 e3 ht3 => ?_
      have e13 := (e1.trans e2).trans e3
      have hC3 : ClsV H3 (us.take m ++ us.drop (m + 1)) (cs.take m ++ cs.drop (m + 1)) := pr_append (pr_take m (hC.tk (TK.ex e13))) (pr_drop (m + 1) (hC.tk (TK.ex e13)))
      have sub : (cs.take m ++ cs.drop (m + 1)).Sublist cs := by
        conv => rhs; rw [← List.take_append_drop m cs]
        exact (List.Sublist.refl _).append (List.drop_sublist_drop_left cs (Nat.le_succ m))
      have r3 := rw_.sub sub
      have l3 : (cs.take m ++ cs.drop (m + 1)).length ≤ 1000 := Nat.le_trans sub.length_le lc
      have hu3 := hu.tk (TK.ex e13)
      generalize us.take m ++ us.drop (m + 1) = vs at ht3 hC3
      generalize cs.take m ++ cs.drop (m + 1) = os at e0 hC3 r3 l3
      have lv := hC3.length
      refine ⟨_, rfl, t3, rfl, ⟨vs, SqT.of ht3⟩, fun D hD => ?_⟩
      have w0 := e13
      refine lc_tup (xs := vs) (fun i H' => Ex H3 H' ∧ H' D = some (.lst (((os.take i).map (Cl.keep s (s + n))).map V.bl))) ⟨Ex.new hD, upd_same⟩ (fun i H' _ p => SqT.of (p.1 _ _ ht3)) ?_ ?_
      · rintro i uv H' hu' ⟨e, hW⟩
        obtain ⟨z, hz, hzv0⟩ := pr_get hC3 hu'
        have hzv := hzv0.tk (TK.ex e)
        refine ⟨rfl, ?_⟩
        refine lcY ?_
        refine ⟨_, rfl, _, rfl, _, rfl, _, rfl, _, _, rfl, rfl, uv, z, s, s + n, rfl, hzv, ?_⟩
        refine ⟨_, hW, slineL (by simp only [List.length_map, List.length_take]; omega), e.mut hD, ?_⟩
        rw [upd_same, List.take_add_one, hz, List.map_append, List.map_append]
        rfl
      rintro H4 ⟨e4, hW⟩
      rw [lv, List.take_length] at hW
      refine ⟨D, _, rfl, SqL.of hW, ?_⟩
      have free : (os.map (Cl.keep s (s + n))).all id = !os.any (Cl.meets ⟨s, n, c.pa, c.fi, c.fo⟩) := by
        clear hW hC3 lv r3 l3 e0
        induction os with
        | nil => rfl
        | cons d os ih =>
          rw [List.map_cons, List.all_cons, List.any_cons, Bool.not_or, ih]
          congr 1
          unfold Cl.keep Cl.meets
          show _ = !(decide (d.s < s + n) && decide (s < d.fin))
          by_cases k1 : d.fin ≤ s
          · rw [decide_eq_true k1, decide_eq_false (show ¬ s < d.fin by omega), Bool.and_false]
            rfl
          · rw [decide_eq_false k1, decide_eq_true (show s < d.fin by omega), Bool.and_true]
            by_cases k2 : s + n ≤ d.s
            · rw [decide_eq_true k2, decide_eq_false (show ¬ d.s < s + n by omega)]
              rfl
            · rw [decide_eq_false k2, decide_eq_true (show d.s < s + n by omega)]
              rfl
      rw [free]
      have e14 := e13.trans e4
      refine ⟨_, rfl, _, _, rfl, rfl, _, rfl, ?_⟩
      have bad : (s < 0 ∨ n < 1 ∨ n < c.fi + c.fo) ∨ os.any (Cl.meets ⟨s, n, c.pa, c.fi, c.fo⟩) = true → spanC (m : Int) s n cs = .err "place" (m : Int) := fun h => by
        rw [e0]
        by_cases k : s < 0 ∨ n < 1 ∨ n < c.fi + c.fo
        · rw [if_pos k]
        · rw [if_neg k]
          rcases h with h | h
          · exact absurd h k
          · unfold putC
            rw [if_pos h]
      refine ite2 (fun c1 => ?_) (fun c1 => ?_)
      · refine iteT ?_
        exact ⟨_, rfl, (by show 1 ≤ 1000; decide), er e14 (bad (.inl (.inl (of_decide_eq_true c1))))⟩
      · refine ⟨_, rfl, _, _, rfl, rfl, _, rfl, ?_⟩
        refine ite2 (fun c2 => ?_) (fun c2 => ?_)
        · refine iteT ?_
          exact ⟨_, rfl, (by show 1 ≤ 1000; decide), er e14 (bad (.inl (.inr (.inl (of_decide_eq_true c2)))))⟩
        · refine ⟨_, rfl, _, rfl, _, rfl, _, _, rfl, rfl, _, _, rfl, rfl, _, rfl, ?_⟩
          refine ite2 (fun c3 => ?_) (fun c3 => ?_)
          · refine iteT ?_
            exact ⟨_, rfl, (by show 1 ≤ 1000; decide), er e14 (bad (.inl (.inr (.inr (of_decide_eq_true c3)))))⟩
          · refine ⟨_, rfl, _, rfl, ?_⟩
            cases c4 : os.any (Cl.meets ⟨s, n, c.pa, c.fi, c.fo⟩) with
            | true =>
              refine iteT ?_
              exact ⟨_, rfl, (by show 1 ≤ 1000; decide), er e14 (bad (.inr c4))⟩
            | false =>
              refine iteF ?_
              have k1 : ¬ s < 0 := fun z => c1 (decide_eq_true z)
              have k2 : ¬ n < 1 := fun z => c2 (decide_eq_true z)
              have k3 : ¬ n < c.fi + c.fo := fun z => c3 (decide_eq_true z)
              refine ⟨_, rfl, _, rfl, _, rfl, _, rfl, _, rfl, _, rfl, (by show 5 ≤ sizeLine; decide), fun t5 ht5 => ?_⟩
              have f5 := Ex.new (o := .tup [.int s, .int n, u, .int c.fi, .int c.fo]) ht5
              have g5 : upd H4 t5 (.tup [.int s, .int n, u, .int c.fi, .int c.fo]) t5 = some (.tup [.int s, .int n, u, .int c.fi, .int c.fo]) := upd_same
              generalize upd H4 t5 (.tup [.int s, .int n, u, .int c.fi, .int c.fo]) = H5 at f5 g5 ⊢
              have e35 := e4.trans f5
              have e15 := e13.trans e35
              obtain ⟨es, he⟩ : ∃ es, putC ⟨s, n, c.pa, c.fi, c.fo⟩ os = some es := ⟨_, if_neg (by rw [c4]; exact Bool.false_ne_true)⟩
              refine ⟨t3, vs, os, es, .ref t5, ⟨s, n, c.pa, c.fi, c.fo⟩, rfl, e35 _ _ ht3, hC3.tk (TK.ex e35), ⟨t5, u, rfl, g5, hu3.tk (TK.ex e35)⟩, by omega, r3, by show 1 ≤ n; omega, he, tb.ext e15, fun p2 w2 H6 en tb6 hp6 hW6 => ?_⟩
              refine qN es p2 w2 H6 ?_ (fun b o hb n => en b o (e15 b o hb) n) tb6 hp6 hW6
              simp only [lineC]
              rw [e0, if_neg (by omega), he]
    · have e : (decide (0 ≤ p) && decide (p < us.length)) = false := by
        rw [Bool.and_eq_false_iff, decide_eq_false_iff_not, decide_eq_false_iff_not]
        omega
      rw [e]
      refine iteT ?_
      exact ⟨_, rfl, (by show 1 ≤ 1000; decide), er (Ex.refl _) (spanC_out (by omega))⟩

abbrev s_moved_by : Stmt := top 39
theorem sc_moved_by : FnScope ["clips", "place", "frames"] ["clips", "place", "frames"] (defScope s_moved_by) := ⟨rfl, rfl, rfl, by decide +kernel, rfl, by decide +kernel, by decide +kernel⟩
theorem ok_moved_by {f PT : Addr} {fd : FuncData} (F : Fun K "moved_by" "moved_by" s_moved_by f fd) (T : Txt K mg) {C : Addr} (KB : KindOk P w K mg base "BadPlace" C) (D_has_place : Def P w K mg base CX0 "_has_place" 1 ["clips", "place"] spHasPlace)
    (D_with_span : Def P w K mg base (L2.CX P w) "with_span" 7 ["clips", "place", "start", "length"] (spTlT K (lamW PT) C "BadPlace" arTrim)) : FnOk P w K mg base (L2.CX P w) 8 f fd ["clips", "place", "frames"] (spTlT K (lamW PT) C "BadPlace" arMove) := by
  refine F.okX sc_moved_by (fun vs H Q E h => ?_) (fun cdv A outer s H vs Q E hr h => ?_)
  · obtain ⟨a, rest, us, cs, k, rfl, ⟨p, d, rfl, rfl⟩, _⟩ := h
    rfl
  · obtain ⟨a, rest, us, cs, k, rfl, ⟨p, d, rfl, rfl⟩, ha, hC, rw_, lc, _, tb, qN, qE⟩ := h
    obtain ⟨fC, KT, fdC, GC, ⟨ds, hds, bC⟩, bA⟩ := KB
    have lu := hC.length
    refine ⟨_, (pss_cons (ps_if (pt_not (pt_val (pe_call D_has_place.ok (hr.mono (by decide)) rfl D_has_place.mgf D_has_place.kp D_has_place.b .nil pass0 (pa_cons (pv 0) (pa_cons (pv 1) pa_nil)))))
        (pss_one (ps_raise rfl (takes_of rfl rfl rfl rfl) (pmk_oex KT.T KT.iC KT.tI GC (hr.mono (by decide)) bA .nil pass0 rfl KT.g (pa_cons (pv 1) pa_nil))))
        pss_nil)
      (pss_one (ps_ret (pe_call D_with_span.ok (hr.mono (by decide)) rfl D_with_span.mgf D_with_span.kp D_with_span.b .nil (passes_call (takes_of rfl rfl rfl rfl) fun _ _ _ _ z => z) (pa_cons (pv 0) (pa_cons (pv 1) (pa_cons (pe_op op_add (pe_ix (kixT K) (pe_ix (kixT K) (pv 0) (pv 1) (fun _ _ => rfl)) pe_int (fun _ _ => rfl)) (pv 2)) (pa_cons (pe_ix (kixT K) (pe_ix (kixT K) (pv 0) (pv 1) (fun _ _ => rfl)) pe_int (fun _ _ => rfl)) pa_nil)))))))), ?_⟩
    refine ⟨_, rfl, _, rfl, a, us, p, rfl, ha, _, rfl, ?_⟩
    by_cases c : 0 ≤ p ∧ p < us.length
    · rw [decide_eq_true c.1, decide_eq_true c.2]
      refine iteF ?_
      obtain ⟨m, rfl⟩ := Int.eq_ofNat_of_zero_le c.1
      have hui : us[m]? = some us[m] := List.getElem?_eq_getElem (by omega)
      obtain ⟨c, hc, hcv⟩ := pr_get hC hui
      generalize us[m] = uc at hcv hui
      obtain ⟨ca, u, rfl, hca, hu⟩ := hcv
      have eL : lineC (.move (m : Int) d) cs = lineC (.trim (m : Int) (c.s + d) c.n) cs := by
        simp only [lineC, Int.toNat_natCast, hc]
      refine ⟨_, rfl, _, rfl, _, rfl, _, rfl, a, us, (m : Int), _, rfl, rfl, SqT.of ha, atI_nat hui, ca, _, 0, _, rfl, rfl, SqT.of hca, rfl, _, rfl, _, _, rfl, rfl, ?_⟩
      refine ⟨_, rfl, _, rfl, a, us, (m : Int), _, rfl, rfl, SqT.of ha, atI_nat hui, ca, _, 1, _, rfl, rfl, SqT.of hca, rfl, ?_⟩
      exact ⟨a, _, us, cs, .trim (m : Int) (c.s + d) c.n, rfl, ⟨_, _, _, rfl, rfl⟩, ha, hC, rw_, lc, trivial, tb, fun ds p ws H' hL => qN ds p ws H' (eL.trans hL), fun w n hL => qE w n (eL.trans hL)⟩
    · have e : (decide (0 ≤ p) && decide (p < us.length)) = false := by
        rw [Bool.and_eq_false_iff, decide_eq_false_iff_not, decide_eq_false_iff_not]
        omega
      rw [e]
      refine iteT ?_
      refine ⟨_, rfl, (by show 1 ≤ 1000; decide), fun b hb => kind_made KT hb fun d' H' h1 h2 h3 => qE "place" p ?_ d' H' h1 h2 h3⟩
      simp only [lineC]
      split
      · rw [spanC_out (by omega)]
      · rfl

abbrev s_placed : Stmt := top 41
theorem sc_placed : FnScope ["clips", "clip"] ["clips", "clip"] (defScope s_placed) := ⟨rfl, rfl, rfl, by decide +kernel, rfl, by decide +kernel, by decide +kernel⟩
theorem ok_placed {f PT : Addr} {fd : FuncData} (F : Fun K "placed" "placed" s_placed f fd) (T : Txt K mg) {C : Addr} (D_end_of : Def P w K mg base CX0 "end_of" 1 ["clip"] (spEnd K)) (D_lifted : Def P w K mg base (L2.CX P w) "lifted" 7 ["clips", "first", "last"] (spTlG K C "BadCut" arLift))
    (D_with_clip : Def P w K mg base CX0 "_with_clip" 5 ["clips", "clip"] (spWithClip K PT)) : FnOk P w K mg base (L2.CX P w) 8 f fd ["clips", "clip"] (spTlT K (lamW PT) C "BadCut" arPlace) := by
  refine F.okX sc_placed (fun vs H Q E h => ?_) (fun cdv A outer s H vs Q E hr h => ?_)
  · obtain ⟨a, rest, us, cs, k, rfl, ⟨v, c, rfl, _, rfl⟩, _⟩ := h
    rfl
  · obtain ⟨a, rest, us, cs, k, rfl, ⟨v, c, rfl, hcv, rfl⟩, ha, hC, rw_, lc, n1, tb, qN, qE⟩ := h
    have n1 : 1 ≤ c.n := n1
    obtain ⟨ca, u, rfl, hca, hu⟩ := id hcv
    refine ⟨_, (pss_one (ps_ret (pe_call D_with_clip.ok (hr.mono (by decide)) rfl D_with_clip.mgf D_with_clip.kp D_with_clip.b .nil pass0 (pa_cons (pe_call D_lifted.ok (hr.mono (by decide)) rfl D_lifted.mgf D_lifted.kp D_lifted.b .nil (passes_call (takes_of rfl rfl rfl rfl) fun _ _ _ _ z => z) (pa_cons (pv 0) (pa_cons (pe_ix (kixT K) (pv 1) pe_int (fun _ _ => rfl)) (pa_cons (pe_call D_end_of.ok (hr.mono (by decide)) rfl D_end_of.mgf D_end_of.kp D_end_of.b .nil pass0 (pa_cons (pv 1) pa_nil)) pa_nil)))) (pa_cons (pv 1) pa_nil))))), ?_⟩
    refine ⟨_, rfl, _, rfl, ca, _, 0, _, rfl, rfl, SqT.of hca, rfl, _, rfl, .ref ca, c, rfl, hcv, ?_⟩
    refine ⟨a, _, us, cs, .lift c.s c.fin, rfl, ⟨_, _, rfl, rfl⟩, ha, hC, rw_, lc, trivial, fun ds p ws H1 hL e1 hp hW => ?_, fun wd n hL d H1 h1 e1 h3 => ?_⟩
    · have hL : liftC c.s c.fin cs = .ok ds := by simpa only [lineC, Option.some.injEq] using hL
      obtain ⟨r2, free, l2⟩ := lift_row rw_ hL
      obtain ⟨es, he⟩ := not_meets (c := c) (ds := ds) free
      refine ⟨_, rfl, p, ws, ds, es, .ref ca, c, rfl, hp, hW, hcv.tk (TK.ex e1), by omega, r2, n1, he, tb.ext e1, fun p2 w2 H2 en tb2 hp2 hW2 => ?_⟩
      refine qN es p2 w2 H2 ?_ (fun b o hb n => en b o (e1 b o hb) n) tb2 hp2 hW2
      simp only [lineC, hL, he, Option.map_some]
    · have hL : liftC c.s c.fin cs = .err wd n := by simpa only [lineC, Option.some.injEq] using hL
      refine qE wd n ?_ d H1 h1 e1 h3
      simp only [lineC, hL]

abbrev s_l_told : Stmt := top 72
theorem sc_l_told : FnScope ["word", "clips", "numbers", "e"] ["word", "clips", "numbers"] (defScope s_l_told) := ⟨rfl, rfl, rfl, by decide +kernel, rfl, by decide +kernel, by decide +kernel⟩
/-- what the program tells of a word -/
def spToldT (K : PySem.W.Frag) (TT : List (Addr × Str)) : Sp := fun vs H Q _ => ∃ (a n : Addr) (us : List V) (cs : List Cl) (k : Ask), vs = [.str k.word, .ref a, .ref n] ∧ H a = some (.tup us) ∧ ClsV H us cs ∧ Row cs ∧ cs.length ≤ 1000 ∧ NumsV H n k ∧ k.Fit ∧ LamX.Tabs TT H ∧
  ∀ v H', LamX.ExtN H H' → LamX.Tabs TT H' → (∀ r, lineC k cs = some r → ResV H' v r) → Q v H'
theorem ok_l_told {f PT : Addr} {fd : FuncData} (F : Fun K "_law_told" "_law_told" s_l_told f fd) (T : Txt K mg) {C1 C2 C3 : Addr} (KB1 : KindOk P w K mg base "BadCut" C1) (KB2 : KindOk P w K mg base "BadJoin" C2) (KB3 : KindOk P w K mg base "BadPlace" C3)
    (X21 : PySem.W.exmOne K (.ref C2) (.ref C1) = some false) (X31 : PySem.W.exmOne K (.ref C3) (.ref C1) = some false) (X32 : PySem.W.exmOne K (.ref C3) (.ref C2) = some false)
    (D_cut_at : Def P w K mg base (L2.CX P w) "cut_at" 8 ["clips", "frame"] (spTlG K C1 "BadCut" arCut))
    (D_join_at : Def P w K mg base (L2.CX P w) "join_at" 8 ["clips", "place"] (spTlG K C2 "BadJoin" arJoin))
    (D_moved_by : Def P w K mg base (L2.CX P w) "moved_by" 8 ["clips", "place", "frames"] (spTlT K (lamW PT) C3 "BadPlace" arMove))
    (D_with_span : Def P w K mg base (L2.CX P w) "with_span" 7 ["clips", "place", "start", "length"] (spTlT K (lamW PT) C3 "BadPlace" arTrim))
    (D_lifted : Def P w K mg base (L2.CX P w) "lifted" 7 ["clips", "first", "last"] (spTlG K C1 "BadCut" arLift))
    (D_placed : Def P w K mg base (L2.CX P w) "placed" 8 ["clips", "clip"] (spTlT K (lamW PT) C1 "BadCut" arPlace))
    (D_rippled_out : Def P w K mg base (L2.CX P w) "rippled_out" 8 ["clips", "first", "last"] (spTlG K C1 "BadCut" arRout))
    (D_rippled_in : Def P w K mg base (L2.CX P w) "rippled_in" 8 ["clips", "frame", "count"] (spTlG K C1 "BadCut" arRin))
    : FnOk P w K mg base CX0 9 f fd ["word", "clips", "numbers"] (spToldT K (lamW PT)) := by
  refine F.ok sc_l_told (fun vs H Q E h => ?_) (fun cdv A outer s H vs Q E hr h => ?_)
  · obtain ⟨a, n, us, cs, k, rfl, _⟩ := h
    rfl
  · obtain ⟨a, n, us, cs, k, rfl, ha, hC, rw_, lc, hk, fit, tb, q⟩ := h
    obtain ⟨fC1, KT_BadCut, fdC1, GC1, _, _⟩ := KB1
    obtain ⟨fC2, KT_BadJoin, fdC2, GC2, _, _⟩ := KB2
    obtain ⟨fC3, KT_BadPlace, fdC3, GC3, _, _⟩ := KB3
    refine ⟨_, (pss_one (ps_try_manyAs rfl rfl sc_l_told.nd takes0 (fun W pn xe tk _ => (pss_cons (ps_if (pt_cmpR op_eq (pv 0) pe_str (nomark _))
          (pss_one (ps_ret (pe_callS D_cut_at.ok (hr.mono (by decide)) rfl D_cut_at.mgf D_cut_at.kp D_cut_at.b (fun σ => passAt tk σ) (pa_cons (pv 1) (pa_cons (pe_ix (kixL K) (pv 2) pe_int (fun _ _ => rfl)) pa_nil)))))
          pss_nil)
        (pss_cons (ps_if (pt_cmpR op_eq (pv 0) pe_str (nomark _))
          (pss_one (ps_ret (pe_callS D_join_at.ok (hr.mono (by decide)) rfl D_join_at.mgf D_join_at.kp D_join_at.b (fun σ => passAt tk σ) (pa_cons (pv 1) (pa_cons (pe_ix (kixL K) (pv 2) pe_int (fun _ _ => rfl)) pa_nil)))))
          pss_nil)
        (pss_cons (ps_if (pt_cmpR op_eq (pv 0) pe_str (nomark _))
          (pss_one (ps_ret (pe_callS D_moved_by.ok (hr.mono (by decide)) rfl D_moved_by.mgf D_moved_by.kp D_moved_by.b (fun σ => passAt tk σ) (pa_cons (pv 1) (pa_cons (pe_ix (kixL K) (pv 2) pe_int (fun _ _ => rfl)) (pa_cons (pe_ix (kixL K) (pv 2) pe_int (fun _ _ => rfl)) pa_nil))))))
          pss_nil)
        (pss_cons (ps_if (pt_cmpR op_eq (pv 0) pe_str (nomark _))
          (pss_one (ps_ret (pe_callS D_with_span.ok (hr.mono (by decide)) rfl D_with_span.mgf D_with_span.kp D_with_span.b (fun σ => passAt tk σ) (pa_cons (pv 1) (pa_cons (pe_ix (kixL K) (pv 2) pe_int (fun _ _ => rfl)) (pa_cons (pe_ix (kixL K) (pv 2) pe_int (fun _ _ => rfl)) (pa_cons (pe_ix (kixL K) (pv 2) pe_int (fun _ _ => rfl)) pa_nil)))))))
          pss_nil)
        (pss_cons (ps_if (pt_cmpR op_eq (pv 0) pe_str (nomark _))
          (pss_one (ps_ret (pe_callS D_lifted.ok (hr.mono (by decide)) rfl D_lifted.mgf D_lifted.kp D_lifted.b (fun σ => passAt tk σ) (pa_cons (pv 1) (pa_cons (pe_ix (kixL K) (pv 2) pe_int (fun _ _ => rfl)) (pa_cons (pe_ix (kixL K) (pv 2) pe_int (fun _ _ => rfl)) pa_nil))))))
          pss_nil)
        (pss_cons (ps_if (pt_cmpR op_eq (pv 0) pe_str (nomark _))
          (pss_one (ps_ret (pe_callS D_placed.ok (hr.mono (by decide)) rfl D_placed.mgf D_placed.kp D_placed.b (fun σ => passAt tk σ) (pa_cons (pv 1) (pa_cons (pe_ix (kixL K) (pv 2) pe_int (fun _ _ => rfl)) pa_nil)))))
          pss_nil)
        (pss_cons (ps_if (pt_cmpR op_eq (pv 0) pe_str (nomark _))
          (pss_one (ps_ret (pe_callS D_rippled_out.ok (hr.mono (by decide)) rfl D_rippled_out.mgf D_rippled_out.kp D_rippled_out.b (fun σ => passAt tk σ) (pa_cons (pv 1) (pa_cons (pe_ix (kixL K) (pv 2) pe_int (fun _ _ => rfl)) (pa_cons (pe_ix (kixL K) (pv 2) pe_int (fun _ _ => rfl)) pa_nil))))))
          pss_nil)
        (pss_one (ps_ret (pe_callS D_rippled_in.ok (hr.mono (by decide)) rfl D_rippled_in.mgf D_rippled_in.kp D_rippled_in.b (fun σ => passAt tk σ) (pa_cons (pv 1) (pa_cons (pe_ix (kixL K) (pv 2) pe_int (fun _ _ => rfl)) (pa_cons (pe_ix (kixL K) (pv 2) pe_int (fun _ _ => rfl)) pa_nil)))))))))))))) (.cons (i := 3) rfl rfl ⟨rfl, by decide, .inl KT_BadCut.g⟩ (fun a oe cls d pn hz hf => (pss_one (ps_ret (pe_lst (pa_cons pe_str (pa_cons (pe_xf KT_BadCut.xf KT_BadCut.noP hz hf (pv 3)) pa_nil)))))) (.cons (i := 3) rfl rfl ⟨rfl, by decide, .inl KT_BadJoin.g⟩ (fun a oe cls d pn hz hf => (pss_one (ps_ret (pe_lst (pa_cons pe_str (pa_cons (pe_xf KT_BadJoin.xf KT_BadJoin.noP hz hf (pv 3)) pa_nil)))))) (.cons (i := 3) rfl rfl ⟨rfl, by decide, .inl KT_BadPlace.g⟩ (fun a oe cls d pn hz hf => (pss_one (ps_ret (pe_lst (pa_cons pe_str (pa_cons (pe_xf KT_BadPlace.xf KT_BadPlace.noP hz hf (pv 3)) pa_nil)))))) .nil))))), ?_⟩
    cases k with
    | cut m =>
      have hk : H n = some (.lst [.int m]) := hk
      refine ⟨_, rfl, rfl, _, rfl, ?_⟩
      refine iteE rfl ?_
      refine ⟨_, rfl, _, rfl, n, _, 0, _, rfl, rfl, SqL.of hk, rfl, a, [.int m], us, cs, .cut m, rfl, ⟨m, rfl, rfl⟩, ha, hC, rw_, by omega, trivial, fun ds p1 ws1 H1 hL e1 hp hW => ?_, fun wd n3 hL d2 H1 h1 e1 h3 => ?_⟩
      · exact q (.ref p1) H1 (LamX.ExtN.of e1) (tb.ext e1) fun r hr => by rw [hL] at hr; cases hr; exact ⟨p1, ws1, rfl, hp, hW⟩
      · have ew : wd = "cut" := cut_word hL
        subst ew
        refine ⟨true, KT_BadCut.te, fun _ b hb => ?_, fun z => Bool.noConfusion z⟩
        refine ⟨_, rfl, rfl, rfl, d2, _, _, rfl, h3, rfl, (by show 2 ≤ sizeLine; decide), fun t ht => ?_⟩
        exact q _ _ (LamX.ExtN.of (e1.trans (Ex.new ht))) (tb.ext (e1.trans (Ex.new ht))) fun r hr => by rw [hL] at hr; cases hr; exact ⟨t, rfl, upd_same⟩
    | join p =>
      have hk : H n = some (.lst [.int p]) := hk
      refine ⟨_, rfl, rfl, _, rfl, ?_⟩
      refine iteW (show ("join" : Str) ≠ "cut" by decide +kernel) ?_
      refine ⟨_, rfl, rfl, _, rfl, ?_⟩
      refine iteE rfl ?_
      refine ⟨_, rfl, _, rfl, n, _, 0, _, rfl, rfl, SqL.of hk, rfl, a, [.int p], us, cs, .join p, rfl, ⟨p, rfl, rfl⟩, ha, hC, rw_, by omega, trivial, fun ds p1 ws1 H1 hL e1 hp hW => ?_, fun wd n3 hL d2 H1 h1 e1 h3 => ?_⟩
      · exact q (.ref p1) H1 (LamX.ExtN.of e1) (tb.ext e1) fun r hr => by rw [hL] at hr; cases hr; exact ⟨p1, ws1, rfl, hp, hW⟩
      · have ew : wd = "join" := join_word2 hL
        subst ew
        refine ⟨false, X21, fun z => Bool.noConfusion z, fun _ => ⟨true, KT_BadJoin.te, fun _ b hb => ?_, fun z => Bool.noConfusion z⟩⟩
        refine ⟨_, rfl, rfl, rfl, d2, _, _, rfl, h3, rfl, (by show 2 ≤ sizeLine; decide), fun t ht => ?_⟩
        exact q _ _ (LamX.ExtN.of (e1.trans (Ex.new ht))) (tb.ext (e1.trans (Ex.new ht))) fun r hr => by rw [hL] at hr; cases hr; exact ⟨t, rfl, upd_same⟩
    | move p d =>
      have hk : H n = some (.lst [.int p, .int d]) := hk
      refine ⟨_, rfl, rfl, _, rfl, ?_⟩
      refine iteW (show ("move" : Str) ≠ "cut" by decide +kernel) ?_
      refine ⟨_, rfl, rfl, _, rfl, ?_⟩
      refine iteW (show ("move" : Str) ≠ "join" by decide +kernel) ?_
      refine ⟨_, rfl, rfl, _, rfl, ?_⟩
      refine iteE rfl ?_
      refine ⟨_, rfl, _, rfl, n, _, 0, _, rfl, rfl, SqL.of hk, rfl, _, rfl, n, _, 1, _, rfl, rfl, SqL.of hk, rfl, a, [.int p, .int d], us, cs, .move p d, rfl, ⟨p, d, rfl, rfl⟩, ha, hC, rw_, by omega, trivial, tb, fun ds p1 ws1 H1 hL e1 tb1 hp hW => ?_, fun wd n3 hL d2 H1 h1 e1 h3 => ?_⟩
      · exact q (.ref p1) H1 e1 tb1 fun r hr => by rw [hL] at hr; cases hr; exact ⟨p1, ws1, rfl, hp, hW⟩
      · have ew : wd = "place" := move_word hL
        subst ew
        refine ⟨false, X31, fun z => Bool.noConfusion z, fun _ => ⟨false, X32, fun z => Bool.noConfusion z, fun _ => ⟨true, KT_BadPlace.te, fun _ b hb => ?_, fun z => Bool.noConfusion z⟩⟩⟩
        refine ⟨_, rfl, rfl, rfl, d2, _, _, rfl, h3, rfl, (by show 2 ≤ sizeLine; decide), fun t ht => ?_⟩
        exact q _ _ (LamX.ExtN.of (e1.trans (Ex.new ht))) (tb.ext (e1.trans (Ex.new ht))) fun r hr => by rw [hL] at hr; cases hr; exact ⟨t, rfl, upd_same⟩
    | trim p s n2 =>
      have hk : H n = some (.lst [.int p, .int s, .int n2]) := hk
      refine ⟨_, rfl, rfl, _, rfl, ?_⟩
      refine iteW (show ("trim" : Str) ≠ "cut" by decide +kernel) ?_
      refine ⟨_, rfl, rfl, _, rfl, ?_⟩
      refine iteW (show ("trim" : Str) ≠ "join" by decide +kernel) ?_
      refine ⟨_, rfl, rfl, _, rfl, ?_⟩
      refine iteW (show ("trim" : Str) ≠ "move" by decide +kernel) ?_
      refine ⟨_, rfl, rfl, _, rfl, ?_⟩
      refine iteE rfl ?_
      refine ⟨_, rfl, _, rfl, n, _, 0, _, rfl, rfl, SqL.of hk, rfl, _, rfl, n, _, 1, _, rfl, rfl, SqL.of hk, rfl, _, rfl, n, _, 2, _, rfl, rfl, SqL.of hk, rfl, a, [.int p, .int s, .int n2], us, cs, .trim p s n2, rfl, ⟨p, s, n2, rfl, rfl⟩, ha, hC, rw_, by omega, trivial, tb, fun ds p1 ws1 H1 hL e1 tb1 hp hW => ?_, fun wd n3 hL d2 H1 h1 e1 h3 => ?_⟩
      · exact q (.ref p1) H1 e1 tb1 fun r hr => by rw [hL] at hr; cases hr; exact ⟨p1, ws1, rfl, hp, hW⟩
      · have ew : wd = "place" := trim_word hL
        subst ew
        refine ⟨false, X31, fun z => Bool.noConfusion z, fun _ => ⟨false, X32, fun z => Bool.noConfusion z, fun _ => ⟨true, KT_BadPlace.te, fun _ b hb => ?_, fun z => Bool.noConfusion z⟩⟩⟩
        refine ⟨_, rfl, rfl, rfl, d2, _, _, rfl, h3, rfl, (by show 2 ≤ sizeLine; decide), fun t ht => ?_⟩
        exact q _ _ (LamX.ExtN.of (e1.trans (Ex.new ht))) (tb.ext (e1.trans (Ex.new ht))) fun r hr => by rw [hL] at hr; cases hr; exact ⟨t, rfl, upd_same⟩
    | lift x y =>
      have hk : H n = some (.lst [.int x, .int y]) := hk
      refine ⟨_, rfl, rfl, _, rfl, ?_⟩
      refine iteW (show ("lift" : Str) ≠ "cut" by decide +kernel) ?_
      refine ⟨_, rfl, rfl, _, rfl, ?_⟩
      refine iteW (show ("lift" : Str) ≠ "join" by decide +kernel) ?_
      refine ⟨_, rfl, rfl, _, rfl, ?_⟩
      refine iteW (show ("lift" : Str) ≠ "move" by decide +kernel) ?_
      refine ⟨_, rfl, rfl, _, rfl, ?_⟩
      refine iteW (show ("lift" : Str) ≠ "trim" by decide +kernel) ?_
      refine ⟨_, rfl, rfl, _, rfl, ?_⟩
      refine iteE rfl ?_
      refine ⟨_, rfl, _, rfl, n, _, 0, _, rfl, rfl, SqL.of hk, rfl, _, rfl, n, _, 1, _, rfl, rfl, SqL.of hk, rfl, a, [.int x, .int y], us, cs, .lift x y, rfl, ⟨x, y, rfl, rfl⟩, ha, hC, rw_, by omega, trivial, fun ds p1 ws1 H1 hL e1 hp hW => ?_, fun wd n3 hL d2 H1 h1 e1 h3 => ?_⟩
      · exact q (.ref p1) H1 (LamX.ExtN.of e1) (tb.ext e1) fun r hr => by rw [hL] at hr; cases hr; exact ⟨p1, ws1, rfl, hp, hW⟩
      · have ew : wd = "cut" := lift_word2 hL
        subst ew
        refine ⟨true, KT_BadCut.te, fun _ b hb => ?_, fun z => Bool.noConfusion z⟩
        refine ⟨_, rfl, rfl, rfl, d2, _, _, rfl, h3, rfl, (by show 2 ≤ sizeLine; decide), fun t ht => ?_⟩
        exact q _ _ (LamX.ExtN.of (e1.trans (Ex.new ht))) (tb.ext (e1.trans (Ex.new ht))) fun r hr => by rw [hL] at hr; cases hr; exact ⟨t, rfl, upd_same⟩
    | place c =>
      obtain ⟨cv, hk, hcv⟩ := hk
      refine ⟨_, rfl, rfl, _, rfl, ?_⟩
      refine iteW (show ("place" : Str) ≠ "cut" by decide +kernel) ?_
      refine ⟨_, rfl, rfl, _, rfl, ?_⟩
      refine iteW (show ("place" : Str) ≠ "join" by decide +kernel) ?_
      refine ⟨_, rfl, rfl, _, rfl, ?_⟩
      refine iteW (show ("place" : Str) ≠ "move" by decide +kernel) ?_
      refine ⟨_, rfl, rfl, _, rfl, ?_⟩
      refine iteW (show ("place" : Str) ≠ "trim" by decide +kernel) ?_
      refine ⟨_, rfl, rfl, _, rfl, ?_⟩
      refine iteW (show ("place" : Str) ≠ "lift" by decide +kernel) ?_
      refine ⟨_, rfl, rfl, _, rfl, ?_⟩
      refine iteE rfl ?_
      refine ⟨_, rfl, _, rfl, n, _, 0, _, rfl, rfl, SqL.of hk, rfl, a, [cv], us, cs, .place c, rfl, ⟨cv, c, rfl, hcv, rfl⟩, ha, hC, rw_, by omega, fit, tb, fun ds p1 ws1 H1 hL e1 tb1 hp hW => ?_, fun wd n3 hL d2 H1 h1 e1 h3 => ?_⟩
      · exact q (.ref p1) H1 e1 tb1 fun r hr => by rw [hL] at hr; cases hr; exact ⟨p1, ws1, rfl, hp, hW⟩
      · have ew : wd = "cut" := place_word hL
        subst ew
        refine ⟨true, KT_BadCut.te, fun _ b hb => ?_, fun z => Bool.noConfusion z⟩
        refine ⟨_, rfl, rfl, rfl, d2, _, _, rfl, h3, rfl, (by show 2 ≤ sizeLine; decide), fun t ht => ?_⟩
        exact q _ _ (LamX.ExtN.of (e1.trans (Ex.new ht))) (tb.ext (e1.trans (Ex.new ht))) fun r hr => by rw [hL] at hr; cases hr; exact ⟨t, rfl, upd_same⟩
    | rout x y =>
      have hk : H n = some (.lst [.int x, .int y]) := hk
      refine ⟨_, rfl, rfl, _, rfl, ?_⟩
      refine iteW (show ("ripple out" : Str) ≠ "cut" by decide +kernel) ?_
      refine ⟨_, rfl, rfl, _, rfl, ?_⟩
      refine iteW (show ("ripple out" : Str) ≠ "join" by decide +kernel) ?_
      refine ⟨_, rfl, rfl, _, rfl, ?_⟩
      refine iteW (show ("ripple out" : Str) ≠ "move" by decide +kernel) ?_
      refine ⟨_, rfl, rfl, _, rfl, ?_⟩
      refine iteW (show ("ripple out" : Str) ≠ "trim" by decide +kernel) ?_
      refine ⟨_, rfl, rfl, _, rfl, ?_⟩
      refine iteW (show ("ripple out" : Str) ≠ "lift" by decide +kernel) ?_
      refine ⟨_, rfl, rfl, _, rfl, ?_⟩
      refine iteW (show ("ripple out" : Str) ≠ "place" by decide +kernel) ?_
      refine ⟨_, rfl, rfl, _, rfl, ?_⟩
      refine iteE rfl ?_
      refine ⟨_, rfl, _, rfl, n, _, 0, _, rfl, rfl, SqL.of hk, rfl, _, rfl, n, _, 1, _, rfl, rfl, SqL.of hk, rfl, a, [.int x, .int y], us, cs, .rout x y, rfl, ⟨x, y, rfl, rfl⟩, ha, hC, rw_, by omega, trivial, fun ds p1 ws1 H1 hL e1 hp hW => ?_, fun wd n3 hL d2 H1 h1 e1 h3 => ?_⟩
      · exact q (.ref p1) H1 (LamX.ExtN.of e1) (tb.ext e1) fun r hr => by rw [hL] at hr; cases hr; exact ⟨p1, ws1, rfl, hp, hW⟩
      · have ew : wd = "cut" := rout_word hL
        subst ew
        refine ⟨true, KT_BadCut.te, fun _ b hb => ?_, fun z => Bool.noConfusion z⟩
        refine ⟨_, rfl, rfl, rfl, d2, _, _, rfl, h3, rfl, (by show 2 ≤ sizeLine; decide), fun t ht => ?_⟩
        exact q _ _ (LamX.ExtN.of (e1.trans (Ex.new ht))) (tb.ext (e1.trans (Ex.new ht))) fun r hr => by rw [hL] at hr; cases hr; exact ⟨t, rfl, upd_same⟩
    | rin m n2 =>
      have hk : H n = some (.lst [.int m, .int n2]) := hk
      refine ⟨_, rfl, rfl, _, rfl, ?_⟩
      refine iteW (show ("ripple in" : Str) ≠ "cut" by decide +kernel) ?_
      refine ⟨_, rfl, rfl, _, rfl, ?_⟩
      refine iteW (show ("ripple in" : Str) ≠ "join" by decide +kernel) ?_
      refine ⟨_, rfl, rfl, _, rfl, ?_⟩
      refine iteW (show ("ripple in" : Str) ≠ "move" by decide +kernel) ?_
      refine ⟨_, rfl, rfl, _, rfl, ?_⟩
      refine iteW (show ("ripple in" : Str) ≠ "trim" by decide +kernel) ?_
      refine ⟨_, rfl, rfl, _, rfl, ?_⟩
      refine iteW (show ("ripple in" : Str) ≠ "lift" by decide +kernel) ?_
      refine ⟨_, rfl, rfl, _, rfl, ?_⟩
      refine iteW (show ("ripple in" : Str) ≠ "place" by decide +kernel) ?_
      refine ⟨_, rfl, rfl, _, rfl, ?_⟩
      refine iteW (show ("ripple in" : Str) ≠ "ripple out" by decide +kernel) ?_
      refine ⟨_, rfl, _, rfl, n, _, 0, _, rfl, rfl, SqL.of hk, rfl, _, rfl, n, _, 1, _, rfl, rfl, SqL.of hk, rfl, a, [.int m, .int n2], us, cs, .rin m n2, rfl, ⟨m, n2, rfl, rfl⟩, ha, hC, rw_, by omega, trivial, fun ds p1 ws1 H1 hL e1 hp hW => ?_, fun wd n3 hL d2 H1 h1 e1 h3 => ?_⟩
      · exact q (.ref p1) H1 (LamX.ExtN.of e1) (tb.ext e1) fun r hr => by rw [hL] at hr; cases hr; exact ⟨p1, ws1, rfl, hp, hW⟩
      · have ew : wd = "cut" := rin_word hL
        subst ew
        refine ⟨true, KT_BadCut.te, fun _ b hb => ?_, fun z => Bool.noConfusion z⟩
        refine ⟨_, rfl, rfl, rfl, d2, _, _, rfl, h3, rfl, (by show 2 ≤ sizeLine; decide), fun t ht => ?_⟩
        exact q _ _ (LamX.ExtN.of (e1.trans (Ex.new ht))) (tb.ext (e1.trans (Ex.new ht))) fun r hr => by rw [hL] at hr; cases hr; exact ⟨t, rfl, upd_same⟩

abbrev s_l_due : Stmt := top 74
theorem sc_l_due : FnScope ["word", "clips", "numbers", "frame", "clip", "first", "last"] ["word", "clips", "numbers", "frame"] (defScope s_l_due) := ⟨rfl, rfl, rfl, by decide +kernel, rfl, by decide +kernel, by decide +kernel⟩
def spDue34 (K : PySem.W.Frag) : Sp := fun vs H Q _ => ∃ (a n : Addr) (us : List V) (cs : List Cl) (k : Ask) (B f : Int), vs = [.str k.word, .ref a, .ref n, .int f] ∧ H a = some (.tup us) ∧ ClsV H us cs ∧ Good B cs ∧ cs.length ≤ 20 ∧ NumsV H n k ∧ k.four ∧ ∀ v q H', Ex H H' → DueV H' v q → TellsL (Due k cs f) q → Q v H'
theorem ok_l_due {f : Addr} {fd : FuncData} (F : Fun K "_law_due" "_law_due" s_l_due f fd) (T : Txt K mg) (D_l_lane : Def P w K mg base CX0 "_law_lane" 3 ["clips", "frame"] (spLane K)) (D_l_end : Def P w K mg base CX0 "_law_end" 1 ["clip"] (spEnd K))
    (D_l_level : Def P w K mg base CX0 "_law_level" 2 ["clip", "frame"] (spLevel K)) : FnOk P w K mg base CX0 4 f fd ["word", "clips", "numbers", "frame"] (spDue34 K) := by
  refine F.ok sc_l_due (fun vs H Q E h => ?_) (fun cdv A outer s H vs Q E hr h => ?_)
  · obtain ⟨a, n, us, cs, k, B, f, rfl, _⟩ := h
    rfl
  · obtain ⟨a, n, us, cs, k, B, f, rfl, ha, hC, gd, lc, hk, hf, q⟩ := h
    have kC : AllOk cs := ⟨gd.ok, lc⟩
    refine ⟨_, (pss_cons (ps_if (pt_cmpR op_eq (pv 0) pe_str (nomark _))
        (pss_cons (ps_set (i := 4) sc_l_due.nd rfl (by first | exact Or.inl rfl | exact Or.inr rfl) (pe_ix (kixL K) (pv 2) pe_int (fun _ _ => rfl)))
        (pss_cons (ps_if (PW.pt (pw_and (pt_cmpR op_le (pe_ix (kixT K) (pv 4) pe_int (fun _ _ => rfl)) (pv 3) (nomark _)) (pw_and1 (pt_cmpR op_lt (pv 3) (pe_call D_l_end.ok (hr.mono (by decide)) rfl D_l_end.mgf D_l_end.kp D_l_end.b .nil pass0 (pa_cons (pv 4) pa_nil)) (nomark _)))))
          (pss_one (ps_ret (pe_tup (pa_cons (pe_ix (kixT K) (pv 4) pe_int (fun _ _ => rfl)) (pa_cons (pe_call D_l_level.ok (hr.mono (by decide)) rfl D_l_level.mgf D_l_level.kp D_l_level.b .nil pass0 (pa_cons (pv 4) (pa_cons (pv 3) pa_nil))) pa_nil)))))
          pss_nil)
        (pss_one (ps_ret (pe_call D_l_lane.ok (hr.mono (by decide)) rfl D_l_lane.mgf D_l_lane.kp D_l_lane.b .nil pass0 (pa_cons (pv 1) (pa_cons (pv 3) pa_nil)))))))
        pss_nil)
      (pss_cons (ps_par (i := 5) (j := 6) rfl sc_l_due.nd rfl rfl (by decide) rfl rfl (pa_cons (pe_ix (kixL K) (pv 2) pe_int (fun _ _ => rfl)) (pa_cons (pe_ix (kixL K) (pv 2) pe_int (fun _ _ => rfl)) pa_nil)) (by rfl))
      (pss_cons (ps_if (pt_cmpR op_lt (pv 3) (pv 5) (nomark _))
        (pss_one (ps_ret (pe_call D_l_lane.ok (hr.mono (by decide)) rfl D_l_lane.mgf D_l_lane.kp D_l_lane.b .nil pass0 (pa_cons (pv 1) (pa_cons (pv 3) pa_nil)))))
        pss_nil)
      (pss_cons (ps_if (pt_cmpR op_eq (pv 0) pe_str (nomark _))
        (pss_one (ps_ret (pe_call D_l_lane.ok (hr.mono (by decide)) rfl D_l_lane.mgf D_l_lane.kp D_l_lane.b .nil pass0 (pa_cons (pv 1) (pa_cons (pe_op op_sub (pe_op op_add (pv 3) (pv 6)) (pv 5)) pa_nil)))))
        pss_nil)
      (pss_cons (ps_if (pt_cmpR op_eq (pv 0) pe_str (nomark _))
        (pss_cons (ps_if (pt_cmpR op_lt (pv 3) (pe_op op_add (pv 5) (pv 6)) (nomark _))
          (pss_one (ps_ret pe_non))
          pss_nil)
        (pss_one (ps_ret (pe_call D_l_lane.ok (hr.mono (by decide)) rfl D_l_lane.mgf D_l_lane.kp D_l_lane.b .nil pass0 (pa_cons (pv 1) (pa_cons (pe_op op_sub (pv 3) (pv 6)) pa_nil))))))
        pss_nil)
      (pss_cons (ps_if (pt_cmpR op_lt (pv 3) (pv 6) (nomark _))
        (pss_one (ps_ret pe_non))
        pss_nil)
      (pss_one (ps_ret (pe_call D_l_lane.ok (hr.mono (by decide)) rfl D_l_lane.mgf D_l_lane.kp D_l_lane.b .nil pass0 (pa_cons (pv 1) (pa_cons (pv 3) pa_nil))))))))))), ?_⟩
    cases k with
    | cut m => exact hf.elim
    | join p => exact hf.elim
    | move p d => exact hf.elim
    | trim p s n => exact hf.elim
    | place c =>
      have okc : c.Ok 50000 := hf
      obtain ⟨cv, hk, hcv⟩ := hk
      obtain ⟨ca, u, rfl, hca, hu⟩ := id hcv
      refine ⟨_, rfl, rfl, _, rfl, ?_⟩
      refine iteE rfl ?_
      refine ⟨_, rfl, n, _, 0, _, rfl, rfl, SqL.of hk, rfl, ?_⟩
      refine ⟨_, rfl, ca, _, _, _, rfl, rfl, SqT.of hca, rfl, _, rfl, _, _, rfl, rfl, _, rfl, ?_⟩
      refine ite2 (fun c1 => ?_) (fun c1 => ?_)
      · have c1 := of_decide_eq_true c1
        refine ⟨_, rfl, _, rfl, .ref ca, c, rfl, hcv, _, _, rfl, rfl, _, rfl, ?_⟩
        refine ite2 (fun c2 => ?_) (fun c2 => ?_)
        · have c2 := of_decide_eq_true c2
          refine ⟨_, rfl, ca, _, _, _, rfl, rfl, SqT.of hca, rfl, ?_⟩
          refine ⟨_, rfl, _, rfl, .ref ca, c, 50000, f, rfl, hcv, okc, by decide, c1, c2, ?_⟩
          refine ⟨(by show 2 ≤ sizeLine; decide), fun t ht => ?_⟩
          have f1 := Ex.new (o := .tup [u, .int (c.lev f)]) ht
          exact q _ (some (c.pa, c.lev f)) _ f1 ⟨t, u, rfl, upd_same, hu.tk (TK.ex f1)⟩ (.inl ⟨⟨c1, c2⟩, rfl, rfl⟩)
        · refine ⟨_, rfl, _, rfl, a, us, cs, f, rfl, ha, hC, kC, fun o v H1 e1 ho hv => ?_⟩
          obtain ⟨z, hz, tz⟩ := lane_tells ho hv
          exact q v z H1 e1 hz (tz.iff fun p l => ⟨fun z => z.elim (fun y => absurd y.1 (fun h => c2 (decide_eq_true h.2))) fun y => y.2, fun z => .inr ⟨(fun h => c2 (decide_eq_true h.2)), z⟩⟩)
      · refine ⟨_, rfl, _, rfl, a, us, cs, f, rfl, ha, hC, kC, fun o v H1 e1 ho hv => ?_⟩
        obtain ⟨z, hz, tz⟩ := lane_tells ho hv
        exact q v z H1 e1 hz (tz.iff fun p l => ⟨fun z => z.elim (fun y => absurd y.1 (fun h => c1 (decide_eq_true h.1))) fun y => y.2, fun z => .inr ⟨(fun h => c1 (decide_eq_true h.1)), z⟩⟩)
    | lift x y =>
      have hk : H n = some (.lst [.int x, .int y]) := hk
      have hf := hf
      have hf0 : 0 ≤ x := hf.1
      refine ⟨_, rfl, rfl, _, rfl, ?_⟩
      refine iteW (show ("lift" : Str) ≠ "place" by decide +kernel) ?_
      refine ⟨_, rfl, n, _, 0, _, rfl, rfl, SqL.of hk, rfl, _, rfl, n, _, 1, _, rfl, rfl, SqL.of hk, rfl, _, _, rfl, ?_⟩
      refine ⟨_, rfl, _, rfl, _, _, rfl, rfl, _, rfl, ?_⟩
      refine ite2 (fun c1 => ?_) (fun c1 => ?_)
      · refine ⟨_, rfl, _, rfl, a, us, cs, f, rfl, ha, hC, kC, fun o v H1 e1 ho hv => ?_⟩
        obtain ⟨z, hz, tz⟩ := lane_tells ho hv
        exact q v z H1 e1 hz (tz.iff fun p l => ⟨fun z => z.1, fun z => ⟨z, .inl (of_decide_eq_true c1)⟩⟩)
      have c1 : ¬ f < x := fun h => c1 (decide_eq_true h)
      refine ⟨_, rfl, rfl, _, rfl, ?_⟩
      refine iteW (show ("lift" : Str) ≠ "ripple out" by decide +kernel) ?_
      refine ⟨_, rfl, rfl, _, rfl, ?_⟩
      refine iteW (show ("lift" : Str) ≠ "ripple in" by decide +kernel) ?_
      refine ⟨_, rfl, _, rfl, _, _, rfl, rfl, _, rfl, ?_⟩
      refine ite2 (fun c2 => ?_) (fun c2 => ?_)
      · have c2 := of_decide_eq_true c2
        exact q _ none H (Ex.refl _) rfl (fun p l z => by have := z.2; omega)
      · have c2 : ¬ f < y := fun h => c2 (decide_eq_true h)
        refine ⟨_, rfl, _, rfl, a, us, cs, f, rfl, ha, hC, kC, fun o v H1 e1 ho hv => ?_⟩
        obtain ⟨z, hz, tz⟩ := lane_tells ho hv
        exact q v z H1 e1 hz (tz.iff fun p l => ⟨fun z => z.1, fun z => ⟨z, .inr (by omega)⟩⟩)
    | rout x y =>
      have hk : H n = some (.lst [.int x, .int y]) := hk
      have hf := hf
      have hf0 : 0 ≤ x := hf.1
      refine ⟨_, rfl, rfl, _, rfl, ?_⟩
      refine iteW (show ("ripple out" : Str) ≠ "place" by decide +kernel) ?_
      refine ⟨_, rfl, n, _, 0, _, rfl, rfl, SqL.of hk, rfl, _, rfl, n, _, 1, _, rfl, rfl, SqL.of hk, rfl, _, _, rfl, ?_⟩
      refine ⟨_, rfl, _, rfl, _, _, rfl, rfl, _, rfl, ?_⟩
      refine ite2 (fun c1 => ?_) (fun c1 => ?_)
      · refine ⟨_, rfl, _, rfl, a, us, cs, f, rfl, ha, hC, kC, fun o v H1 e1 ho hv => ?_⟩
        obtain ⟨z, hz, tz⟩ := lane_tells ho hv
        exact q v z H1 e1 hz (tz.iff fun p l => ⟨fun z => z.elim (fun y => y.2) fun y => absurd y.1 (by have := of_decide_eq_true c1; omega), fun z => .inl ⟨of_decide_eq_true c1, z⟩⟩)
      have c1 : ¬ f < x := fun h => c1 (decide_eq_true h)
      refine ⟨_, rfl, rfl, _, rfl, ?_⟩
      refine iteE rfl ?_
      refine ⟨_, rfl, _, rfl, _, rfl, _, _, rfl, rfl, _, rfl, _, _, rfl, rfl, a, us, cs, f + y - x, rfl, ha, hC, kC, fun o v H1 e1 ho hv => ?_⟩
      obtain ⟨z, hz, tz⟩ := lane_tells ho hv
      exact q v z H1 e1 hz (tz.iff fun p l => ⟨fun z => z.elim (fun y => absurd y.1 c1) fun y => y.2, fun z => .inr ⟨by omega, z⟩⟩)
    | rin m n2 =>
      have hk : H n = some (.lst [.int m, .int n2]) := hk
      have hf := hf
      have hf0 : 0 ≤ m := hf.1
      refine ⟨_, rfl, rfl, _, rfl, ?_⟩
      refine iteW (show ("ripple in" : Str) ≠ "place" by decide +kernel) ?_
      refine ⟨_, rfl, n, _, 0, _, rfl, rfl, SqL.of hk, rfl, _, rfl, n, _, 1, _, rfl, rfl, SqL.of hk, rfl, _, _, rfl, ?_⟩
      refine ⟨_, rfl, _, rfl, _, _, rfl, rfl, _, rfl, ?_⟩
      refine ite2 (fun c1 => ?_) (fun c1 => ?_)
      · refine ⟨_, rfl, _, rfl, a, us, cs, f, rfl, ha, hC, kC, fun o v H1 e1 ho hv => ?_⟩
        obtain ⟨z, hz, tz⟩ := lane_tells ho hv
        exact q v z H1 e1 hz (tz.iff fun p l => ⟨fun z => z.elim (fun y => y.2) fun y => absurd y.1 (by have := of_decide_eq_true c1; have := hf.2.1; omega), fun z => .inl ⟨of_decide_eq_true c1, z⟩⟩)
      have c1 : ¬ f < m := fun h => c1 (decide_eq_true h)
      refine ⟨_, rfl, rfl, _, rfl, ?_⟩
      refine iteW (show ("ripple in" : Str) ≠ "ripple out" by decide +kernel) ?_
      refine ⟨_, rfl, rfl, _, rfl, ?_⟩
      refine iteE rfl ?_
      have hn : 1 ≤ n2 := hf.2.1
      refine ⟨_, rfl, _, rfl, _, rfl, _, _, rfl, rfl, _, _, rfl, rfl, _, rfl, ?_⟩
      refine ite2 (fun c2 => ?_) (fun c2 => ?_)
      · have c2 := of_decide_eq_true c2
        exact q _ none H (Ex.refl _) rfl (fun p l z => z.elim (fun y => c1 y.1) fun y => by have := y.1; omega)
      · have c2 : ¬ f < m + n2 := fun h => c2 (decide_eq_true h)
        refine ⟨_, rfl, _, rfl, _, rfl, _, _, rfl, rfl, a, us, cs, f - n2, rfl, ha, hC, kC, fun o v H1 e1 ho hv => ?_⟩
        obtain ⟨z, hz, tz⟩ := lane_tells ho hv
        exact q v z H1 e1 hz (tz.iff fun p l => ⟨fun z => z.elim (fun y => absurd y.1 c1) fun y => y.2, fun z => .inr ⟨by omega, z⟩⟩)

abbrev s_law : Stmt := top 75
theorem sc_law : FnScope ["script", "deck", "adjusts", "clips", "turn", "word", "numbers", "found", "frame"] ["script"] (defScope s_law) := ⟨rfl, rfl, rfl, by decide +kernel, rfl, by decide +kernel, by decide +kernel⟩
def spLawT (K : PySem.W.Frag) (PT : Addr) : Sp := fun vs H Q _ => ∃ (a : Addr) (ns : List Int), vs = [.ref a] ∧ SqL K H a (ns.map V.int) ∧ ns.length ≤ 63 ∧ LamX.Tabs (lamW PT) H ∧ ∀ H', Q (.bl true) H'
theorem ok_law {f PT : Addr} {fd : FuncData} (F : Fun K "law" "law" s_law f fd) (T : Txt K mg) (D_l_deck : Def P w K mg base CX0 "_law_deck" 1 ["script"] (spDeck K)) (D_l_draw : Def P w K mg base CX0 "_law_draw" 1 ["deck", "bound"] (spDraw K))
    (D_l_clips : Def P w K mg base CX0 "_law_clips" 4 ["deck", "most", "adjusts"] (spClipsA K)) (D_l_numbers : Def P w K mg base CX0 "_law_numbers" 4 ["deck", "word", "clips", "adjusts"] (spNumbers K))
    (D_l_told : Def P w K mg base CX0 "_law_told" 9 ["word", "clips", "numbers"] (spToldT K (lamW PT))) {C : Addr} (D_check_clips : Def P w K mg base (L2.CX P w) "check_clips" 6 ["clips", "adjusts"] (spCheckCl C)) (D_l_frames : Def P w K mg base CX0 "_law_frames" 2 ["clips", "more"] (spFrames K))
    (D_lane : Def P w K mg base CX0 "lane" 3 ["clips", "frame"] (spLane K)) (D_l_due : Def P w K mg base CX0 "_law_due" 4 ["word", "clips", "numbers", "frame"] (spDue34 K)) :
    FnOk P w K mg base CX0 10 f fd ["script"] (spLawT K PT) := by
  refine F.ok sc_law (fun vs H Q E h => ?_) (fun cdv A outer s H vs Q E hr h => ?_)
  · obtain ⟨a, ns, rfl, _⟩ := h
    rfl
  obtain ⟨a, ns, rfl, hS, hl, tb, q⟩ := h
  refine ⟨_, (pss_cons (ps_set (i := 1) sc_law.nd rfl (by first | exact Or.inl rfl | exact Or.inr rfl) (pe_call D_l_deck.ok (hr.mono (by decide)) rfl D_l_deck.mgf D_l_deck.kp D_l_deck.b .nil pass0 (pa_cons (pv 0) pa_nil)))
      (pss_cons (ps_set (i := 2) sc_law.nd rfl (by first | exact Or.inl rfl | exact Or.inr rfl) (pe_cmpR op_eq (pe_call D_l_draw.ok (hr.mono (by decide)) rfl D_l_draw.mgf D_l_draw.kp D_l_draw.b .nil pass0 (pa_cons (pv 1) (pa_cons pe_int pa_nil))) pe_int (nomark _)))
      (pss_cons (ps_set (i := 3) sc_law.nd rfl (by first | exact Or.inl rfl | exact Or.inr rfl) (pe_call D_l_clips.ok (hr.mono (by decide)) rfl D_l_clips.mgf D_l_clips.kp D_l_clips.b .nil pass0 (pa_cons (pv 1) (pa_cons pe_int (pa_cons (pv 2) pa_nil)))))
      (pss_cons (ps_for PassesOwn.never rfl (pi_range1 (by rfl) T.range_ (pa_cons pe_int pa_nil)) (pg_name (i := 4) sc_law.nd rfl (by first | exact Or.inl rfl | exact Or.inr rfl))
        (pss_cons (ps_set (i := 5) sc_law.nd rfl (by first | exact Or.inl rfl | exact Or.inr rfl) (pe_ix (kixL K) (pe_lst (pa_cons pe_str (pa_cons pe_str (pa_cons pe_str (pa_cons pe_str pa_nil))))) (pe_call D_l_draw.ok (hr.mono (by decide)) rfl D_l_draw.mgf D_l_draw.kp D_l_draw.b .nil pass0 (pa_cons (pv 1) (pa_cons pe_int pa_nil))) (fun _ _ => rfl)))
        (pss_cons (ps_set (i := 6) sc_law.nd rfl (by first | exact Or.inl rfl | exact Or.inr rfl) (pe_call D_l_numbers.ok (hr.mono (by decide)) rfl D_l_numbers.mgf D_l_numbers.kp D_l_numbers.b .nil pass0 (pa_cons (pv 1) (pa_cons (pv 5) (pa_cons (pv 3) (pa_cons (pv 2) pa_nil))))))
        (pss_cons (ps_set (i := 7) sc_law.nd rfl (by first | exact Or.inl rfl | exact Or.inr rfl) (pe_call D_l_told.ok (hr.mono (by decide)) rfl D_l_told.mgf D_l_told.kp D_l_told.b .nil pass0 (pa_cons (pv 5) (pa_cons (pv 3) (pa_cons (pv 6) pa_nil)))))
        (pss_cons (ps_if (pt_val (pe_callB (kisi K) (by rfl) T.isinstance_ bt_isinstance (pa_cons (pv 7) (pa_cons (pe_bltn (v := .ty "list") (by rfl) T.list_ bt_list rfl) pa_nil))))
          (pss_one (ps_ret (pe_cmpR (keqD K hr.units) (pe_ix (kixL K) (pv 7) pe_int (fun _ _ => rfl)) pe_str (nomark _))))
          pss_nil)
        (pss_cons (ps_if (pt_cmpR op_notN (pe_call D_check_clips.ok (hr.mono (by decide)) rfl D_check_clips.mgf D_check_clips.kp D_check_clips.b .nil passL (pa_cons (pv 7) (pa_cons (pv 2) pa_nil))) pe_non (nomark _))
          (pss_one (ps_ret pe_bl))
          pss_nil)
        (pss_cons (ps_for PassesOwn.never rfl (kpiL K (pe_call D_l_frames.ok (hr.mono (by decide)) rfl D_l_frames.mgf D_l_frames.kp D_l_frames.b .nil pass0 (pa_cons (pe_op (kcatA K) (pv 3) (pv 7)) (pa_cons (pe_lst (pa_cons (pe_call D_l_draw.ok (hr.mono (by decide)) rfl D_l_draw.mgf D_l_draw.kp D_l_draw.b .nil pass0 (pa_cons (pv 1) (pa_cons pe_int pa_nil))) pa_nil)) pa_nil)))) (pg_name (i := 8) sc_law.nd rfl (by first | exact Or.inl rfl | exact Or.inr rfl))
          (pss_one (ps_if (pt_cmpR (kneD K hr.units) (pe_call D_lane.ok (hr.mono (by decide)) rfl D_lane.mgf D_lane.kp D_lane.b .nil pass0 (pa_cons (pv 7) (pa_cons (pv 8) pa_nil))) (pe_call D_l_due.ok (hr.mono (by decide)) rfl D_l_due.mgf D_l_due.kp D_l_due.b .nil pass0 (pa_cons (pv 5) (pa_cons (pv 3) (pa_cons (pv 6) (pa_cons (pv 8) pa_nil))))) (nomark _))
            (pss_one (ps_ret pe_bl))
            pss_nil)))
        (pss_one (ps_set (i := 3) sc_law.nd rfl (by first | exact Or.inl rfl | exact Or.inr rfl) (pv 7))))))))))
      (pss_one (ps_ret pe_bl)))))), ?_⟩
  refine ⟨_, rfl, a, ns, rfl, hS, hl, fun d H1 e1 hd => ?_⟩
  refine ⟨_, rfl, d, 3, rfl, hd, by decide, by decide, fun z _ _ => ?_⟩
  refine ⟨rfl, ?_⟩
  generalize decide (V.int z = V.int 0) = ad
  refine ⟨_, rfl, _, rfl, d, 5, ad, rfl, hd, by decide, by decide, fun p us cs H2 e2 hp hC lc gd aj => ?_⟩
  have hd2 := hd.mono e2
  have lc : cs.length ≤ 5 := lc
  refine ⟨(2 : Int), rfl, by decide, by decide, ?_⟩
  refine for_range (lo := 0) (n := 2) (fun i σ H' => LamX.ExtN H2 H' ∧ LamX.Tabs (lamW PT) H' ∧ ∃ (p : Addr) (us : List V) (cs : List Cl) (x4 x5 x6 x7 x8 : Option V), σ = [some (.ref a), some (.ref d), some (.bl ad), some (.ref p), x4, x5, x6, x7, x8] ∧ H' p = some (.tup us) ∧ ClsV H' us cs ∧ cs.length ≤ 5 + 3 * i ∧ Good (7350 + 402 * (i : Int)) cs ∧ ∀ c ∈ cs, AdjOk ad c) ?_ ?_ ?_
  · exact ⟨LamX.ExtN.refl _, tb.ext (e1.trans e2), p, us, cs, _, _, _, _, _, rfl, hp, hC, lc, gd.le (by decide), aj⟩
  · rintro i σ H3 hi ⟨e3, tb3, p, us, cs, x4, x5, x6, x7, x8, rfl, hp, hC, lc, gd, aj⟩
    have hd3 := en_d e3 hd2
    have i0 : (0 : Int) ≤ i := Int.natCast_nonneg i
    have i1 : (i : Int) ≤ 1 := by omega
    refine ⟨(by show 4 ≤ sizeLine; decide), fun l hl' => ?_⟩
    obtain ⟨ws4, hws⟩ : ∃ ws4 : List Str, ws4 = [("lift" : Str), ("place" : Str), ("ripple out" : Str), ("ripple in" : Str)] := ⟨_, rfl⟩
    have e0 : ws4.map V.str = [.str "lift", .str "place", .str "ripple out", .str "ripple in"] := by rw [hws]; rfl
    have f4 := Ex.new (o := .lst (ws4.map V.str)) hl'
    have g4 : upd H3 l (.lst (ws4.map V.str)) l = some (.lst (ws4.map V.str)) := upd_same
    rw [← e0]
    generalize upd H3 l (.lst (ws4.map V.str)) = H4 at f4 g4 ⊢
    have hd4 := hd3.mono f4
    refine ⟨_, rfl, d, 4, rfl, hd4, by decide, by decide, fun z4 z40 z41 => ?_⟩
    have hwd : ∃ wd, atI (ws4.map V.str) z4 = some (.str wd) ∧ wd ∈ ws4 := by
      have l4 : ws4.length = 4 := by rw [hws]; rfl
      have hx : ws4[z4.toNat]? = some ws4[z4.toNat] := List.getElem?_eq_getElem (by omega)
      refine ⟨ws4[z4.toNat], ?_, List.getElem_mem _⟩
      have h4 : (ws4.map V.str)[z4.toNat]? = some (.str ws4[z4.toNat]) := by rw [List.getElem?_map, hx]; rfl
      have := atI_nat h4
      rwa [Int.toNat_of_nonneg z40] at this
    obtain ⟨wd, hat, hwm⟩ := hwd
    have hw8 : wd ∈ words8 := by
      rw [hws] at hwm
      simp only [List.mem_cons, List.not_mem_nil, or_false] at hwm
      unfold words8
      rcases hwm with rfl | rfl | rfl | rfl <;> simp
    refine ⟨l, _, z4, _, rfl, rfl, SqL.of g4, hat, ?_⟩
    have hp4 := f4 _ _ hp
    have hC4 := hC.tk (TK.ex f4)
    refine ⟨_, rfl, _, rfl, _, rfl, _, rfl, d, p, wd, us, cs, ad, _, rfl, hd4, hp4, hC4, gd, by omega, by omega, by omega, hw8, fun n k H5 e5 hk hn ak ak2 => ?_⟩
    subst hk
    have hp5 := e5 _ _ hp4
    have hC5 := hC4.tk (TK.ex e5)
    have hd5 := hd4.mono e5
    have h4 : k.four := four_of ak (by rw [hws] at hwm; exact hwm)
    obtain ⟨r, hr⟩ := line_some k cs
    refine ⟨_, rfl, _, rfl, _, rfl, p, n, us, cs, k, rfl, hp5, hC5, gd.row, by omega, hn, ask_fit ak, tb3.ext (f4.trans e5), fun v H6 e6 tb6 hv => ?_⟩
    have hv := hv r hr
    have hp6 := en_t e6 hp5
    have hC6 := hC5.tk (extN_tk e6)
    have hd6 := en_d e6 hd5
    have hn6 := hn.en e6
    have e26 := ((e3.trans (LamX.ExtN.of f4)).trans (LamX.ExtN.of e5)).trans e6
    cases r with
    | err wd n3 =>
      obtain ⟨l3, rfl, hl3⟩ := hv
      have ew := four_cut h4 hr
      subst ew
      refine ⟨_, rfl, _, _, _, _, _, rfl, .ty _, (Kn.lst hl3).ty, kit_ty (kit_list (Kn.lst hl3)), _, rfl, ?_⟩
      refine iteT ?_
      refine ⟨_, rfl, l3, _, 0, _, rfl, rfl, SqL.of hl3, rfl, .str "cut", .str "cut", .str _, .str _, shaped_of (by decide +kernel) (by decide +kernel), shaped_of (by decide +kernel) (by decide +kernel), ?_⟩
      rw [eqv_self (by decide +kernel)]
      exact q _
    | ok ds =>
      obtain ⟨t, ws, rfl, ht, hW⟩ := hv
      obtain ⟨gd', ld, due⟩ := line_good gd (by omega) h4 (place_fin ak) hr
      have aj' := line_adj h4 aj ak2 hr
      have hB : 7350 + 402 * (i : Int) + 402 ≤ 10000 := by omega
      have lw := hW.length
      have lu := hC6.length
      refine ⟨_, rfl, _, _, _, _, _, rfl, .ty _, (Kn.tup ht).ty, kit_ty (kit_list (Kn.tup ht)), _, rfl, ?_⟩
      refine iteF ?_
      have out := good_out (ad := ad) ht hW gd' hB (by omega) aj'
      refine ⟨_, rfl, _, rfl, .ref t, ad, rfl, good_ws ht hW gd' aj', fun H7 e7 _ => ?_, fun p' d' H7 _ _ ho _ => (ClOut.same out ho).elim⟩
      refine ⟨rfl, _, rfl, ?_⟩
      refine iteDn rfl ?_
      refine ⟨_, rfl, _, rfl, ?_⟩
      refine catA (e7 _ _ hp6) (e7 _ _ ht) (Nat.le_of_lt (slineL (by omega))) fun pc H8 e8 hpc => ?_
      have e68 := e7.trans e8
      have hd8 := hd6.mono e68
      refine ⟨_, rfl, d, 90, rfl, hd8, by decide, by decide, fun x x0 x1 => ?_⟩
      refine ⟨(by show 1 ≤ sizeLine; decide), fun l9 hl9 => ?_⟩
      have f9 := Ex.new (o := .lst [.int x]) hl9
      have g9 : upd H8 l9 (.lst [.int x]) l9 = some (.lst [.int x]) := upd_same
      generalize upd H8 l9 (.lst [.int x]) = H9 at f9 g9 ⊢
      have e69 := e68.trans f9
      have okA : AllOk (cs ++ ds) := by
        refine ⟨fun c hc => ?_, by rw [List.length_append]; omega⟩
        rcases List.mem_append.mp hc with hc | hc
        · exact gd.ok c hc
        · exact gd'.ok c hc
      refine ⟨pc, us ++ ws, cs ++ ds, l9, x, rfl, f9 _ _ hpc, pr_append (hC6.tk (TK.ex e69)) (hW.tk (TK.ex e69)), okA, g9, x0, by omega, fun fp fs H10 e10 hF => ?_⟩
      have e6x := e69.trans e10
      have hpX := e6x _ _ hp6
      have hCX := hC6.tk (TK.ex e6x)
      have hnX := hn6.ex e6x
      have htX := e6x _ _ ht
      have hWX := hW.tk (TK.ex e6x)
      refine ⟨fp, rfl, ⟨_, SqL.of hF⟩, ?_⟩
      refine for_list (K := K) (a := fp) (xs := fs.map V.int) (fun j σ H' => Ex H10 H' ∧ ∃ y, σ = [some (.ref a), some (.ref d), some (.bl ad), some (.ref p), some (.int (0 + (i : Int))), some (.str k.word), some (.ref n), some (.ref t), y]) ⟨Ex.refl _, _, rfl⟩ (fun j σ H' _ z => SqL.of (z.1 _ _ hF)) ?_ ?_
      · rintro j v σ H11 hv ⟨e11, y, rfl⟩
        rw [List.getElem?_map] at hv
        obtain ⟨f, hf, rfl⟩ := Option.map_eq_some_iff.mp hv
        refine ⟨_, rfl, _, rfl, t, ws, ds, f, rfl, e11 _ _ htX, hWX.tk (TK.ex e11), ⟨gd'.ok, by omega⟩, fun o v1 H12 e12 ho hv1 => ?_⟩
        obtain ⟨z1, hz1, tz1⟩ := lane_tells ho hv1
        have e1c := e11.trans e12
        refine ⟨_, rfl, _, rfl, _, rfl, _, rfl, p, n, us, cs, k, _, f, rfl, e1c _ _ hpX, hCX.tk (TK.ex e1c), gd, by omega, hnX.ex e1c, h4, fun v2 z2 H13 e13 hz2 tz2 => ?_⟩
        have ez := tells_same tz1 tz2 (due f) fun p l p' l' h h' => Ln.uniq gd' h h'
        subst ez
        refine ⟨dueD z1, dueD z1, (hz1.ex e13).dp, hz2.dp, due_shaped z1, due_shaped z1, _, rfl, ?_⟩
        rw [eqv_self (due_lay z1)]
        refine iteF ?_
        exact ⟨e1c.trans e13, _, rfl⟩
      · rintro σ H11 ⟨e11, y, rfl⟩
        refine ⟨_, rfl, ?_⟩
        exact ⟨(e26.trans (LamX.ExtN.of e6x)).trans (LamX.ExtN.of e11), tb6.ext (e6x.trans e11), t, ws, ds, _, _, _, _, _, rfl, e11 _ _ htX, hWX.tk (TK.ex e11), by omega, gd'.le (by omega), aj'⟩
  · rintro σ H3 _
    exact q _
end
theorem all_mk {l : PySem.W.OpenLaw} {w : World} {K : PySem.W.Frag} {h : Heap} {mg : Str → Option Value} {fa f0 f1 f2 f3 f4 f5 f6 f7 f8 f9 f10 f11 f12 f13 f14 f15 f16 f17 f18 f19 f20 f21 f22 f23 f24 f25 f26 f27 f28 f29 f30 f31 f32 f33 f34 f35 f36 f37 f38 f39 f40 f41 f42 : Addr} (X : K.In h) (G : h.Ns mainGlobals mg) (hfa : mg "law" = some (.ref fa))
    {od0 an0 od1 an1 od2 an2 od3 an3 od4 an4 od5 an5 od6 an6 od7 an7 od8 an8 od9 an9 od10 an10 od11 an11 od12 an12 od13 an13 od14 an14 od15 an15 od16 an16 od17 an17 od18 an18 od19 an19 od20 an20 od21 an21 od22 an22 od23 an23 od24 an24 od25 an25 od26 an26 od27 an27 od28 an28 od29 an29 od30 an30 od31 an31 od32 an32 od33 an33 od34 an34 od35 an35 od36 an36 od37 an37 od38 an38 od39 an39 od40 an40 od41 an41 od42 an42 : Option Addr} {sl0 sl1 sl2 sl3 sl4 sl5 sl6 sl7 sl8 sl9 sl10 sl11 sl12 sl13 sl14 sl15 sl16 sl17 sl18 sl19 sl20 sl21 sl22 sl23 sl24 sl25 sl26 sl27 sl28 sl29 sl30 sl31 sl32 sl33 sl34 sl35 sl36 sl37 sl38 sl39 sl40 sl41 sl42 : Array (Option Value)} {oc0 kV0 dc0 pm0 cd0 ct0 oc1 kV1 dc1 pm1 cd1 ct1 oc2 kV2 dc2 pm2 cd2 ct2 oc3 kV3 dc3 pm3 cd3 ct3 oc4 kV4 dc4 pm4 cd4 ct4 oc5 kV5 dc5 pm5 cd5 ct5 oc6 kV6 dc6 pm6 cd6 ct6 oc7 kV7 dc7 pm7 cd7 ct7 oc8 kV8 dc8 pm8 cd8 ct8 oc9 kV9 dc9 pm9 cd9 ct9 oc10 kV10 dc10 pm10 cd10 ct10 oc11 kV11 dc11 pm11 cd11 ct11 oc12 kV12 dc12 pm12 cd12 ct12 oc13 kV13 dc13 pm13 cd13 ct13 oc14 kV14 dc14 pm14 cd14 ct14 oc15 kV15 dc15 pm15 cd15 ct15 oc16 kV16 dc16 pm16 cd16 ct16 oc17 kV17 dc17 pm17 cd17 ct17 oc18 kV18 dc18 pm18 cd18 ct18 oc19 kV19 dc19 pm19 cd19 ct19 oc20 kV20 dc20 pm20 cd20 ct20 oc21 kV21 dc21 pm21 cd21 ct21 oc22 kV22 dc22 pm22 cd22 ct22 oc23 kV23 dc23 pm23 cd23 ct23 oc24 kV24 dc24 pm24 cd24 ct24 oc25 kV25 dc25 pm25 cd25 ct25 oc26 kV26 dc26 pm26 cd26 ct26 oc27 kV27 dc27 pm27 cd27 ct27 oc28 kV28 dc28 pm28 cd28 ct28 oc29 kV29 dc29 pm29 cd29 ct29 oc30 kV30 dc30 pm30 cd30 ct30 oc31 kV31 dc31 pm31 ct31 oc32 kV32 dc32 pm32 cd32 ct32 oc33 kV33 dc33 pm33 cd33 ct33 oc34 kV34 dc34 pm34 cd34 ct34 oc35 kV35 dc35 pm35 cd35 ct35 oc36 kV36 dc36 pm36 cd36 ct36 oc37 kV37 dc37 pm37 cd37 ct37 oc38 kV38 dc38 pm38 cd38 ct38 oc39 kV39 dc39 pm39 cd39 ct39 oc40 kV40 dc40 pm40 cd40 ct40 oc41 kV41 dc41 pm41 cd41 ct41 oc42 kV42 dc42 pm42 cd42 ct42 : Value}
    {cT PT : Addr} {ocT : Value} {odT : Option Addr} {vsT : Array Value} {slT : Array (Option Value)} 
    (a0 : PySem.W.nsIn K mainGlobals "_law_deck" = some (some (.ref f0))) (l0 : K.lookup f0 = some ⟨oc0, od0, .func (PySem.W.fnOf "_law_deck" "_law_deck" (defArgs s_l_deck) (defBody s_l_deck) (defScope s_l_deck) .none kV0 dc0 pm0 an0 cd0 ct0), sl0⟩) (c0 : PySem.W.codeIn K cd0 "_law_deck" = true) (k0 : PySem.W.keepIn K (.ref f0) = true)
    (a1 : PySem.W.nsIn K mainGlobals "_law_draw" = some (some (.ref f1))) (l1 : K.lookup f1 = some ⟨oc1, od1, .func (PySem.W.fnOf "_law_draw" "_law_draw" (defArgs s_l_draw) (defBody s_l_draw) (defScope s_l_draw) .none kV1 dc1 pm1 an1 cd1 ct1), sl1⟩) (c1 : PySem.W.codeIn K cd1 "_law_draw" = true) (k1 : PySem.W.keepIn K (.ref f1) = true)
    (a2 : PySem.W.nsIn K mainGlobals "is_whole" = some (some (.ref f2))) (l2 : K.lookup f2 = some ⟨oc2, od2, .func (PySem.W.fnOf "is_whole" "is_whole" (defArgs s_is_whole) (defBody s_is_whole) (defScope s_is_whole) .none kV2 dc2 pm2 an2 cd2 ct2), sl2⟩) (c2 : PySem.W.codeIn K cd2 "is_whole" = true) (k2 : PySem.W.keepIn K (.ref f2) = true)
    (a3 : PySem.W.nsIn K mainGlobals "is_number" = some (some (.ref f3))) (l3 : K.lookup f3 = some ⟨oc3, od3, .func (PySem.W.fnOf "is_number" "is_number" (defArgs s_is_number) (defBody s_is_number) (defScope s_is_number) .none kV3 dc3 pm3 an3 cd3 ct3), sl3⟩) (c3 : PySem.W.codeIn K cd3 "is_number" = true) (k3 : PySem.W.keepIn K (.ref f3) = true)
    (a4 : PySem.W.nsIn K mainGlobals "_are_numbers" = some (some (.ref f4))) (l4 : K.lookup f4 = some ⟨oc4, od4, .func (PySem.W.fnOf "_are_numbers" "_are_numbers" (defArgs s_are_numbers) (defBody s_are_numbers) (defScope s_are_numbers) .none kV4 dc4 pm4 an4 cd4 ct4), sl4⟩) (c4 : PySem.W.codeIn K cd4 "_are_numbers" = true) (k4 : PySem.W.keepIn K (.ref f4) = true)
    (a5 : PySem.W.nsIn K mainGlobals "check_picture" = some (some (.ref f5))) (l5 : K.lookup f5 = some ⟨oc5, od5, .func (PySem.W.fnOf "check_picture" "check_picture" (defArgs s_check_picture) (defBody s_check_picture) (defScope s_check_picture) .none kV5 dc5 pm5 an5 cd5 ct5), sl5⟩) (c5 : PySem.W.codeIn K cd5 "check_picture" = true) (k5 : PySem.W.keepIn K (.ref f5) = true)
    (a6 : PySem.W.nsIn K mainGlobals "has_form_paints" = some (some (.ref f6))) (l6 : K.lookup f6 = some ⟨oc6, od6, .func (PySem.W.fnOf "_has_form" "_has_form" (defArgs s_has_form_paints) (defBody s_has_form_paints) (defScope s_has_form_paints) .none kV6 dc6 pm6 an6 cd6 ct6), sl6⟩) (c6 : PySem.W.codeIn K cd6 "_has_form" = true) (k6 : PySem.W.keepIn K (.ref f6) = true)
    (a7 : PySem.W.nsIn K mainGlobals "check_paint" = some (some (.ref f7))) (l7 : K.lookup f7 = some ⟨oc7, od7, .func (PySem.W.fnOf "check_paint" "check_paint" (defArgs s_check_paint) (defBody s_check_paint) (defScope s_check_paint) .none kV7 dc7 pm7 an7 cd7 ct7), sl7⟩) (c7 : PySem.W.codeIn K cd7 "check_paint" = true) (k7 : PySem.W.keepIn K (.ref f7) = true)
    (a8 : PySem.W.nsIn K mainGlobals "has_form_clips" = some (some (.ref f8))) (l8 : K.lookup f8 = some ⟨oc8, od8, .func (PySem.W.fnOf "_has_form" "_has_form" (defArgs s_has_form_clips) (defBody s_has_form_clips) (defScope s_has_form_clips) .none kV8 dc8 pm8 an8 cd8 ct8), sl8⟩) (c8 : PySem.W.codeIn K cd8 "_has_form" = true) (k8 : PySem.W.keepIn K (.ref f8) = true)
    (a9 : PySem.W.nsIn K mainGlobals "_is_bare" = some (some (.ref f9))) (l9 : K.lookup f9 = some ⟨oc9, od9, .func (PySem.W.fnOf "_is_bare" "_is_bare" (defArgs s_is_bare) (defBody s_is_bare) (defScope s_is_bare) .none kV9 dc9 pm9 an9 cd9 ct9), sl9⟩) (c9 : PySem.W.codeIn K cd9 "_is_bare" = true) (k9 : PySem.W.keepIn K (.ref f9) = true)
    (a10 : PySem.W.nsIn K mainGlobals "end_of" = some (some (.ref f10))) (l10 : K.lookup f10 = some ⟨oc10, od10, .func (PySem.W.fnOf "end_of" "end_of" (defArgs s_end_of) (defBody s_end_of) (defScope s_end_of) .none kV10 dc10 pm10 an10 cd10 ct10), sl10⟩) (c10 : PySem.W.codeIn K cd10 "end_of" = true) (k10 : PySem.W.keepIn K (.ref f10) = true)
    (a11 : PySem.W.nsIn K mainGlobals "clip_at" = some (some (.ref f11))) (l11 : K.lookup f11 = some ⟨oc11, od11, .func (PySem.W.fnOf "clip_at" "clip_at" (defArgs s_clip_at) (defBody s_clip_at) (defScope s_clip_at) .none kV11 dc11 pm11 an11 cd11 ct11), sl11⟩) (c11 : PySem.W.codeIn K cd11 "clip_at" = true) (k11 : PySem.W.keepIn K (.ref f11) = true)
    (a12 : PySem.W.nsIn K mainGlobals "level_at" = some (some (.ref f12))) (l12 : K.lookup f12 = some ⟨oc12, od12, .func (PySem.W.fnOf "level_at" "level_at" (defArgs s_level_at) (defBody s_level_at) (defScope s_level_at) .none kV12 dc12 pm12 an12 cd12 ct12), sl12⟩) (c12 : PySem.W.codeIn K cd12 "level_at" = true) (k12 : PySem.W.keepIn K (.ref f12) = true)
    (a13 : PySem.W.nsIn K mainGlobals "lane" = some (some (.ref f13))) (l13 : K.lookup f13 = some ⟨oc13, od13, .func (PySem.W.fnOf "lane" "lane" (defArgs s_lane) (defBody s_lane) (defScope s_lane) .none kV13 dc13 pm13 an13 cd13 ct13), sl13⟩) (c13 : PySem.W.codeIn K cd13 "lane" = true) (k13 : PySem.W.keepIn K (.ref f13) = true)
    (a14 : PySem.W.nsIn K mainGlobals "check_clips" = some (some (.ref f14))) (l14 : K.lookup f14 = some ⟨oc14, od14, .func (PySem.W.fnOf "check_clips" "check_clips" (defArgs s_check_clips) (defBody s_check_clips) (defScope s_check_clips) .none kV14 dc14 pm14 an14 cd14 ct14), sl14⟩) (c14 : PySem.W.codeIn K cd14 "check_clips" = true) (k14 : PySem.W.keepIn K (.ref f14) = true)
    (a15 : PySem.W.nsIn K mainGlobals "_law_paint" = some (some (.ref f15))) (l15 : K.lookup f15 = some ⟨oc15, od15, .func (PySem.W.fnOf "_law_paint" "_law_paint" (defArgs s_l_paint) (defBody s_l_paint) (defScope s_l_paint) .none kV15 dc15 pm15 an15 cd15 ct15), sl15⟩) (c15 : PySem.W.codeIn K cd15 "_law_paint" = true) (k15 : PySem.W.keepIn K (.ref f15) = true)
    (a16 : PySem.W.nsIn K mainGlobals "_law_clip" = some (some (.ref f16))) (l16 : K.lookup f16 = some ⟨oc16, od16, .func (PySem.W.fnOf "_law_clip" "_law_clip" (defArgs s_l_clip) (defBody s_l_clip) (defScope s_l_clip) .none kV16 dc16 pm16 an16 cd16 ct16), sl16⟩) (c16 : PySem.W.codeIn K cd16 "_law_clip" = true) (k16 : PySem.W.keepIn K (.ref f16) = true)
    (a17 : PySem.W.nsIn K mainGlobals "_law_clips" = some (some (.ref f17))) (l17 : K.lookup f17 = some ⟨oc17, od17, .func (PySem.W.fnOf "_law_clips" "_law_clips" (defArgs s_l_clips) (defBody s_l_clips) (defScope s_l_clips) .none kV17 dc17 pm17 an17 cd17 ct17), sl17⟩) (c17 : PySem.W.codeIn K cd17 "_law_clips" = true) (k17 : PySem.W.keepIn K (.ref f17) = true)
    (a18 : PySem.W.nsIn K mainGlobals "_law_end" = some (some (.ref f18))) (l18 : K.lookup f18 = some ⟨oc18, od18, .func (PySem.W.fnOf "_law_end" "_law_end" (defArgs s_l_end) (defBody s_l_end) (defScope s_l_end) .none kV18 dc18 pm18 an18 cd18 ct18), sl18⟩) (c18 : PySem.W.codeIn K cd18 "_law_end" = true) (k18 : PySem.W.keepIn K (.ref f18) = true)
    (a19 : PySem.W.nsIn K mainGlobals "_law_frame" = some (some (.ref f19))) (l19 : K.lookup f19 = some ⟨oc19, od19, .func (PySem.W.fnOf "_law_frame" "_law_frame" (defArgs s_l_frame) (defBody s_l_frame) (defScope s_l_frame) .none kV19 dc19 pm19 an19 cd19 ct19), sl19⟩) (c19 : PySem.W.codeIn K cd19 "_law_frame" = true) (k19 : PySem.W.keepIn K (.ref f19) = true)
    (a20 : PySem.W.nsIn K mainGlobals "_law_level" = some (some (.ref f20))) (l20 : K.lookup f20 = some ⟨oc20, od20, .func (PySem.W.fnOf "_law_level" "_law_level" (defArgs s_l_level) (defBody s_l_level) (defScope s_l_level) .none kV20 dc20 pm20 an20 cd20 ct20), sl20⟩) (c20 : PySem.W.codeIn K cd20 "_law_level" = true) (k20 : PySem.W.keepIn K (.ref f20) = true)
    (a21 : PySem.W.nsIn K mainGlobals "_law_lane" = some (some (.ref f21))) (l21 : K.lookup f21 = some ⟨oc21, od21, .func (PySem.W.fnOf "_law_lane" "_law_lane" (defArgs s_l_lane) (defBody s_l_lane) (defScope s_l_lane) .none kV21 dc21 pm21 an21 cd21 ct21), sl21⟩) (c21 : PySem.W.codeIn K cd21 "_law_lane" = true) (k21 : PySem.W.keepIn K (.ref f21) = true)
    (a22 : PySem.W.nsIn K mainGlobals "_law_frames" = some (some (.ref f22))) (l22 : K.lookup f22 = some ⟨oc22, od22, .func (PySem.W.fnOf "_law_frames" "_law_frames" (defArgs s_l_frames) (defBody s_l_frames) (defScope s_l_frames) .none kV22 dc22 pm22 an22 cd22 ct22), sl22⟩) (c22 : PySem.W.codeIn K cd22 "_law_frames" = true) (k22 : PySem.W.keepIn K (.ref f22) = true)
    (a23 : PySem.W.nsIn K mainGlobals "_law_numbers" = some (some (.ref f23))) (l23 : K.lookup f23 = some ⟨oc23, od23, .func (PySem.W.fnOf "_law_numbers" "_law_numbers" (defArgs s_l_numbers) (defBody s_l_numbers) (defScope s_l_numbers) .none kV23 dc23 pm23 an23 cd23 ct23), sl23⟩) (c23 : PySem.W.codeIn K cd23 "_law_numbers" = true) (k23 : PySem.W.keepIn K (.ref f23) = true)
    (a24 : PySem.W.nsIn K mainGlobals "_place_across" = some (some (.ref f24))) (l24 : K.lookup f24 = some ⟨oc24, od24, .func (PySem.W.fnOf "_place_across" "_place_across" (defArgs s_place_across) (defBody s_place_across) (defScope s_place_across) .none kV24 dc24 pm24 an24 cd24 ct24), sl24⟩) (c24 : PySem.W.codeIn K cd24 "_place_across" = true) (k24 : PySem.W.keepIn K (.ref f24) = true)
    (a25 : PySem.W.nsIn K mainGlobals "_has_place" = some (some (.ref f25))) (l25 : K.lookup f25 = some ⟨oc25, od25, .func (PySem.W.fnOf "_has_place" "_has_place" (defArgs s_has_place) (defBody s_has_place) (defScope s_has_place) .none kV25 dc25 pm25 an25 cd25 ct25), sl25⟩) (c25 : PySem.W.codeIn K cd25 "_has_place" = true) (k25 : PySem.W.keepIn K (.ref f25) = true)
    (a26 : PySem.W.nsIn K mainGlobals "_is_beside" = some (some (.ref f26))) (l26 : K.lookup f26 = some ⟨oc26, od26, .func (PySem.W.fnOf "_is_beside" "_is_beside" (defArgs s_is_beside) (defBody s_is_beside) (defScope s_is_beside) .none kV26 dc26 pm26 an26 cd26 ct26), sl26⟩) (c26 : PySem.W.codeIn K cd26 "_is_beside" = true) (k26 : PySem.W.keepIn K (.ref f26) = true)
    (a27 : PySem.W.nsIn K mainGlobals "_cut" = some (some (.ref f27))) (l27 : K.lookup f27 = some ⟨oc27, od27, .func (PySem.W.fnOf "_cut" "_cut" (defArgs s_cut) (defBody s_cut) (defScope s_cut) .none kV27 dc27 pm27 an27 cd27 ct27), sl27⟩) (c27 : PySem.W.codeIn K cd27 "_cut" = true) (k27 : PySem.W.keepIn K (.ref f27) = true)
    (a28 : PySem.W.nsIn K mainGlobals "_parted" = some (some (.ref f28))) (l28 : K.lookup f28 = some ⟨oc28, od28, .func (PySem.W.fnOf "_parted" "_parted" (defArgs s_parted) (defBody s_parted) (defScope s_parted) .none kV28 dc28 pm28 an28 cd28 ct28), sl28⟩) (c28 : PySem.W.codeIn K cd28 "_parted" = true) (k28 : PySem.W.keepIn K (.ref f28) = true)
    (a29 : PySem.W.nsIn K mainGlobals "_are_one" = some (some (.ref f29))) (l29 : K.lookup f29 = some ⟨oc29, od29, .func (PySem.W.fnOf "_are_one" "_are_one" (defArgs s_are_one) (defBody s_are_one) (defScope s_are_one) .none kV29 dc29 pm29 an29 cd29 ct29), sl29⟩) (c29 : PySem.W.codeIn K cd29 "_are_one" = true) (k29 : PySem.W.keepIn K (.ref f29) = true)
    (a30 : PySem.W.nsIn K mainGlobals "_later" = some (some (.ref f30))) (l30 : K.lookup f30 = some ⟨oc30, od30, .func (PySem.W.fnOf "_later" "_later" (defArgs s_later) (defBody s_later) (defScope s_later) .none kV30 dc30 pm30 an30 cd30 ct30), sl30⟩) (c30 : PySem.W.codeIn K cd30 "_later" = true) (k30 : PySem.W.keepIn K (.ref f30) = true)
    (a31 : PySem.W.nsIn K mainGlobals "_with_clip" = some (some (.ref f31))) (l31 : K.lookup f31 = some ⟨oc31, od31, .func (PySem.W.fnOf "_with_clip" "_with_clip" (defArgs s_with_clip) (defBody s_with_clip) (defScope s_with_clip) .none kV31 dc31 pm31 an31 (.ref cT) ct31), sl31⟩) (c31 : PySem.W.codeIn K (.ref cT) "_with_clip" = true) (k31 : PySem.W.keepIn K (.ref f31) = true)
    (lcT : K.lookup cT = some ⟨ocT, odT, .fields vsT, slT⟩) (v11 : vsT[11]? = some (.ref PT)) (ntz : K.lookup PT = none)
    (a32 : PySem.W.nsIn K mainGlobals "lifted" = some (some (.ref f32))) (l32 : K.lookup f32 = some ⟨oc32, od32, .func (PySem.W.fnOf "lifted" "lifted" (defArgs s_lifted) (defBody s_lifted) (defScope s_lifted) .none kV32 dc32 pm32 an32 cd32 ct32), sl32⟩) (c32 : PySem.W.codeIn K cd32 "lifted" = true) (k32 : PySem.W.keepIn K (.ref f32) = true)
    (a33 : PySem.W.nsIn K mainGlobals "rippled_out" = some (some (.ref f33))) (l33 : K.lookup f33 = some ⟨oc33, od33, .func (PySem.W.fnOf "rippled_out" "rippled_out" (defArgs s_rippled_out) (defBody s_rippled_out) (defScope s_rippled_out) .none kV33 dc33 pm33 an33 cd33 ct33), sl33⟩) (c33 : PySem.W.codeIn K cd33 "rippled_out" = true) (k33 : PySem.W.keepIn K (.ref f33) = true)
    (a34 : PySem.W.nsIn K mainGlobals "rippled_in" = some (some (.ref f34))) (l34 : K.lookup f34 = some ⟨oc34, od34, .func (PySem.W.fnOf "rippled_in" "rippled_in" (defArgs s_rippled_in) (defBody s_rippled_in) (defScope s_rippled_in) .none kV34 dc34 pm34 an34 cd34 ct34), sl34⟩) (c34 : PySem.W.codeIn K cd34 "rippled_in" = true) (k34 : PySem.W.keepIn K (.ref f34) = true)
    (a35 : PySem.W.nsIn K mainGlobals "cut_at" = some (some (.ref f35))) (l35 : K.lookup f35 = some ⟨oc35, od35, .func (PySem.W.fnOf "cut_at" "cut_at" (defArgs s_cut_at) (defBody s_cut_at) (defScope s_cut_at) .none kV35 dc35 pm35 an35 cd35 ct35), sl35⟩) (c35 : PySem.W.codeIn K cd35 "cut_at" = true) (k35 : PySem.W.keepIn K (.ref f35) = true)
    (a36 : PySem.W.nsIn K mainGlobals "join_at" = some (some (.ref f36))) (l36 : K.lookup f36 = some ⟨oc36, od36, .func (PySem.W.fnOf "join_at" "join_at" (defArgs s_join_at) (defBody s_join_at) (defScope s_join_at) .none kV36 dc36 pm36 an36 cd36 ct36), sl36⟩) (c36 : PySem.W.codeIn K cd36 "join_at" = true) (k36 : PySem.W.keepIn K (.ref f36) = true)
    (a37 : PySem.W.nsIn K mainGlobals "with_span" = some (some (.ref f37))) (l37 : K.lookup f37 = some ⟨oc37, od37, .func (PySem.W.fnOf "with_span" "with_span" (defArgs s_with_span) (defBody s_with_span) (defScope s_with_span) .none kV37 dc37 pm37 an37 cd37 ct37), sl37⟩) (c37 : PySem.W.codeIn K cd37 "with_span" = true) (k37 : PySem.W.keepIn K (.ref f37) = true)
    (a38 : PySem.W.nsIn K mainGlobals "moved_by" = some (some (.ref f38))) (l38 : K.lookup f38 = some ⟨oc38, od38, .func (PySem.W.fnOf "moved_by" "moved_by" (defArgs s_moved_by) (defBody s_moved_by) (defScope s_moved_by) .none kV38 dc38 pm38 an38 cd38 ct38), sl38⟩) (c38 : PySem.W.codeIn K cd38 "moved_by" = true) (k38 : PySem.W.keepIn K (.ref f38) = true)
    (a39 : PySem.W.nsIn K mainGlobals "placed" = some (some (.ref f39))) (l39 : K.lookup f39 = some ⟨oc39, od39, .func (PySem.W.fnOf "placed" "placed" (defArgs s_placed) (defBody s_placed) (defScope s_placed) .none kV39 dc39 pm39 an39 cd39 ct39), sl39⟩) (c39 : PySem.W.codeIn K cd39 "placed" = true) (k39 : PySem.W.keepIn K (.ref f39) = true)
    (a40 : PySem.W.nsIn K mainGlobals "_law_told" = some (some (.ref f40))) (l40 : K.lookup f40 = some ⟨oc40, od40, .func (PySem.W.fnOf "_law_told" "_law_told" (defArgs s_l_told) (defBody s_l_told) (defScope s_l_told) .none kV40 dc40 pm40 an40 cd40 ct40), sl40⟩) (c40 : PySem.W.codeIn K cd40 "_law_told" = true) (k40 : PySem.W.keepIn K (.ref f40) = true)
    (a41 : PySem.W.nsIn K mainGlobals "_law_due" = some (some (.ref f41))) (l41 : K.lookup f41 = some ⟨oc41, od41, .func (PySem.W.fnOf "_law_due" "_law_due" (defArgs s_l_due) (defBody s_l_due) (defScope s_l_due) .none kV41 dc41 pm41 an41 cd41 ct41), sl41⟩) (c41 : PySem.W.codeIn K cd41 "_law_due" = true) (k41 : PySem.W.keepIn K (.ref f41) = true)
    (a42 : PySem.W.nsIn K mainGlobals "law" = some (some (.ref f42))) (l42 : K.lookup f42 = some ⟨oc42, od42, .func (PySem.W.fnOf "law" "law" (defArgs s_law) (defBody s_law) (defScope s_law) .none kV42 dc42 pm42 an42 cd42 ct42), sl42⟩) (c42 : PySem.W.codeIn K cd42 "law" = true) (k42 : PySem.W.keepIn K (.ref f42) = true)
    (z_abs : PySem.W.nsIn K mainGlobals "abs" = some none)
    (z_all : PySem.W.nsIn K mainGlobals "all" = some none)
    (z_bool : PySem.W.nsIn K mainGlobals "bool" = some none)
    (z_enumerate : PySem.W.nsIn K mainGlobals "enumerate" = some none)
    (z_int : PySem.W.nsIn K mainGlobals "int" = some none)
    (z_isinstance : PySem.W.nsIn K mainGlobals "isinstance" = some none)
    (z_len : PySem.W.nsIn K mainGlobals "len" = some none)
    (z_list : PySem.W.nsIn K mainGlobals "list" = some none)
    (z_max : PySem.W.nsIn K mainGlobals "max" = some none)
    (z_min : PySem.W.nsIn K mainGlobals "min" = some none)
    (z_range : PySem.W.nsIn K mainGlobals "range" = some none)
    (z_sorted : PySem.W.nsIn K mainGlobals "sorted" = some none)
    (z_tuple : PySem.W.nsIn K mainGlobals "tuple" = some none)
    {t_CLIPS_MOST : Tok} (z_CLIPS_MOST : PySem.W.nsIn K mainGlobals "CLIPS_MOST" = some (some (.int 64 t_CLIPS_MOST)))
    {t_COVER_MOST : Tok} (z_COVER_MOST : PySem.W.nsIn K mainGlobals "COVER_MOST" = some (some (.int 256 t_COVER_MOST)))
    {t_LENGTH_MOST : Tok} (z_LENGTH_MOST : PySem.W.nsIn K mainGlobals "LENGTH_MOST" = some (some (.int 10000 t_LENGTH_MOST)))
    {t_LEVEL_MOST : Tok} (z_LEVEL_MOST : PySem.W.nsIn K mainGlobals "LEVEL_MOST" = some (some (.int 256 t_LEVEL_MOST)))
    {t_PICTURE_SIDE_MOST : Tok} (z_PICTURE_SIDE_MOST : PySem.W.nsIn K mainGlobals "PICTURE_SIDE_MOST" = some (some (.int 12 t_PICTURE_SIDE_MOST)))
    {t_START_MOST : Tok} (z_START_MOST : PySem.W.nsIn K mainGlobals "START_MOST" = some (some (.int 10000 t_START_MOST)))
    {t_STEP_MOST : Tok} (z_STEP_MOST : PySem.W.nsIn K mainGlobals "STEP_MOST" = some (some (.int 12 t_STEP_MOST)))
    {t_VALUE_MOST : Tok} (z_VALUE_MOST : PySem.W.nsIn K mainGlobals "VALUE_MOST" = some (some (.int 255 t_VALUE_MOST)))
    {eZ0 : Addr} {fZ0 dTZ0 : Addr} {odZ0 odTZ0 anZ0 : Option Addr} {slZ0 slTZ0 : Array (Option Value)} {nTZ0 : Nat} {ocZ0 kVZ0 dcZ0 pmZ0 cdZ0 ctZ0 : Value} (aZ0 : PySem.W.nsIn K mainGlobals "FilmError" = some (some (.ref eZ0))) (rZ0 : PySem.W.readsIn K eZ0 (.type "type") = true) (gZ0 : PySem.W.specialIn K (.ref eZ0) "__getattribute__" = some (some (.builtin "type.__getattribute__"))) (iZ0 : PySem.W.findCls K (.ref eZ0) (.type "type") "__init__" = some (.val (.ref fZ0))) (vZ0 : PySem.W.findCls K (.type "ValueError") (.type "type") "__init__" = some (.val (.builtin "ValueError.__init__"))) (wZ0 : PySem.W.nsIn K mainGlobals "ValueError" = some none) (lZ0 : K.lookup fZ0 = some ⟨ocZ0, odZ0, .func (PySem.W.fnOf "__init__" "FilmError.__init__" (defArgs s_FilmErr) (defBody s_FilmErr) (defScope s_FilmErr) (.ref dTZ0) kVZ0 dcZ0 pmZ0 anZ0 cdZ0 ctZ0), slZ0⟩) (cZ0 : PySem.W.codeIn K cdZ0 "FilmError.__init__" = true) (kZ0 : PySem.W.keepIn K (.ref fZ0) = true) (dZ0 : K.lookup dTZ0 = some ⟨.type "tuple", odTZ0, .seq #[.none] nTZ0, slTZ0⟩)
    {eZ1 : Addr} {nmZ1 qZ1 : Str} {NZ1 : Addr} {bsZ1 : List Value} {snZ1 : List Str} {subZ1 : List Value} {abZ1 : Bool} {colZ1 : Option Bool} {ddZ1 : Option Addr} {m0Z1 m1Z1 m2Z1 m3Z1 m5Z1 : Option Value} {fZ1 dTZ1 : Addr} {odZ1 odTZ1 anZ1 : Option Addr} {slZ1 slTZ1 : Array (Option Value)} {nTZ1 : Nat} {ocZ1 kVZ1 dcZ1 pmZ1 cdZ1 ctZ1 : Value} (aZ1 : PySem.W.nsIn K mainGlobals "BadClip" = some (some (.ref eZ1))) (xZ1 : K.lookup eZ1 = some (excClassObj nmZ1 qZ1 eZ1 NZ1 bsZ1 [.ref eZ0, .type "ValueError", .type "Exception", .type "BaseException", .type "object"] true snZ1 subZ1 abZ1 colZ1 ddZ1 m0Z1 m1Z1 m2Z1 m3Z1 m5Z1 "ValueError.__new__")) (saZ1 : PySem.W.findIn K (.ref eZ1) "__setattr__" = some (some (.builtin "object.__setattr__"))) (gaZ1 : PySem.W.findIn K (.ref eZ1) "__getattribute__" = some (some (.builtin "BaseException.__getattribute__"))) (ggZ1 : PySem.W.findIn K (.ref eZ1) "__getattr__" = some none) (nwZ1 : PySem.W.findIn K (.ref eZ1) "word" = some none) (npZ1 : PySem.W.findIn K (.ref eZ1) "place" = some none) (iZ1 : PySem.W.findIn K (.ref eZ1) "__init__" = some (some (.ref fZ1))) (tZ1 : PySem.W.typeIn K (.ref fZ1) = some (.type "function")) (keZ1 : PySem.W.keepIn K (.ref eZ1) = true) (exZ1 : PySem.W.subIn K (.ref eZ1) (.type "BaseException") = some true) (tyZ1 : PySem.W.typeIn K (.ref eZ1) = some (.type "type")) (hdZ1 : PySem.W.hasDictIn K eZ1 = true) (icZ1 : PySem.W.isClsIn K eZ1 = true) (scZ1 : PySem.W.subIn K (.ref eZ1) (.ref eZ1) = some true) (lZ1 : K.lookup fZ1 = some ⟨ocZ1, odZ1, .func (PySem.W.fnOf "__init__" "BadClip.__init__" (defArgs s_BadClip) (defBody s_BadClip) (defScope s_BadClip) (.ref dTZ1) kVZ1 dcZ1 pmZ1 anZ1 cdZ1 ctZ1), slZ1⟩) (cZ1 : PySem.W.codeIn K cdZ1 "BadClip.__init__" = true) (kZ1 : PySem.W.keepIn K (.ref fZ1) = true) (dZ1 : K.lookup dTZ1 = some ⟨.type "tuple", odTZ1, .seq #[.none] nTZ1, slTZ1⟩)
    {eZ2 : Addr} {nmZ2 qZ2 : Str} {NZ2 : Addr} {bsZ2 : List Value} {snZ2 : List Str} {subZ2 : List Value} {abZ2 : Bool} {colZ2 : Option Bool} {ddZ2 : Option Addr} {m0Z2 m1Z2 m2Z2 m3Z2 m5Z2 : Option Value} {fZ2 dTZ2 : Addr} {odZ2 odTZ2 anZ2 : Option Addr} {slZ2 slTZ2 : Array (Option Value)} {nTZ2 : Nat} {ocZ2 kVZ2 dcZ2 pmZ2 cdZ2 ctZ2 : Value} (aZ2 : PySem.W.nsIn K mainGlobals "BadCut" = some (some (.ref eZ2))) (xZ2 : K.lookup eZ2 = some (excClassObj nmZ2 qZ2 eZ2 NZ2 bsZ2 [.ref eZ0, .type "ValueError", .type "Exception", .type "BaseException", .type "object"] true snZ2 subZ2 abZ2 colZ2 ddZ2 m0Z2 m1Z2 m2Z2 m3Z2 m5Z2 "ValueError.__new__")) (saZ2 : PySem.W.findIn K (.ref eZ2) "__setattr__" = some (some (.builtin "object.__setattr__"))) (gaZ2 : PySem.W.findIn K (.ref eZ2) "__getattribute__" = some (some (.builtin "BaseException.__getattribute__"))) (ggZ2 : PySem.W.findIn K (.ref eZ2) "__getattr__" = some none) (nwZ2 : PySem.W.findIn K (.ref eZ2) "word" = some none) (npZ2 : PySem.W.findIn K (.ref eZ2) "place" = some none) (iZ2 : PySem.W.findIn K (.ref eZ2) "__init__" = some (some (.ref fZ2))) (tZ2 : PySem.W.typeIn K (.ref fZ2) = some (.type "function")) (keZ2 : PySem.W.keepIn K (.ref eZ2) = true) (exZ2 : PySem.W.subIn K (.ref eZ2) (.type "BaseException") = some true) (tyZ2 : PySem.W.typeIn K (.ref eZ2) = some (.type "type")) (hdZ2 : PySem.W.hasDictIn K eZ2 = true) (icZ2 : PySem.W.isClsIn K eZ2 = true) (scZ2 : PySem.W.subIn K (.ref eZ2) (.ref eZ2) = some true) (lZ2 : K.lookup fZ2 = some ⟨ocZ2, odZ2, .func (PySem.W.fnOf "__init__" "BadCut.__init__" (defArgs s_BadCut) (defBody s_BadCut) (defScope s_BadCut) (.ref dTZ2) kVZ2 dcZ2 pmZ2 anZ2 cdZ2 ctZ2), slZ2⟩) (cZ2 : PySem.W.codeIn K cdZ2 "BadCut.__init__" = true) (kZ2 : PySem.W.keepIn K (.ref fZ2) = true) (dZ2 : K.lookup dTZ2 = some ⟨.type "tuple", odTZ2, .seq #[.none] nTZ2, slTZ2⟩)
    {eZ3 : Addr} {nmZ3 qZ3 : Str} {NZ3 : Addr} {bsZ3 : List Value} {snZ3 : List Str} {subZ3 : List Value} {abZ3 : Bool} {colZ3 : Option Bool} {ddZ3 : Option Addr} {m0Z3 m1Z3 m2Z3 m3Z3 m5Z3 : Option Value} {fZ3 dTZ3 : Addr} {odZ3 odTZ3 anZ3 : Option Addr} {slZ3 slTZ3 : Array (Option Value)} {nTZ3 : Nat} {ocZ3 kVZ3 dcZ3 pmZ3 cdZ3 ctZ3 : Value} (aZ3 : PySem.W.nsIn K mainGlobals "BadJoin" = some (some (.ref eZ3))) (xZ3 : K.lookup eZ3 = some (excClassObj nmZ3 qZ3 eZ3 NZ3 bsZ3 [.ref eZ0, .type "ValueError", .type "Exception", .type "BaseException", .type "object"] true snZ3 subZ3 abZ3 colZ3 ddZ3 m0Z3 m1Z3 m2Z3 m3Z3 m5Z3 "ValueError.__new__")) (saZ3 : PySem.W.findIn K (.ref eZ3) "__setattr__" = some (some (.builtin "object.__setattr__"))) (gaZ3 : PySem.W.findIn K (.ref eZ3) "__getattribute__" = some (some (.builtin "BaseException.__getattribute__"))) (ggZ3 : PySem.W.findIn K (.ref eZ3) "__getattr__" = some none) (nwZ3 : PySem.W.findIn K (.ref eZ3) "word" = some none) (npZ3 : PySem.W.findIn K (.ref eZ3) "place" = some none) (iZ3 : PySem.W.findIn K (.ref eZ3) "__init__" = some (some (.ref fZ3))) (tZ3 : PySem.W.typeIn K (.ref fZ3) = some (.type "function")) (keZ3 : PySem.W.keepIn K (.ref eZ3) = true) (exZ3 : PySem.W.subIn K (.ref eZ3) (.type "BaseException") = some true) (tyZ3 : PySem.W.typeIn K (.ref eZ3) = some (.type "type")) (hdZ3 : PySem.W.hasDictIn K eZ3 = true) (icZ3 : PySem.W.isClsIn K eZ3 = true) (scZ3 : PySem.W.subIn K (.ref eZ3) (.ref eZ3) = some true) (lZ3 : K.lookup fZ3 = some ⟨ocZ3, odZ3, .func (PySem.W.fnOf "__init__" "BadJoin.__init__" (defArgs s_BadJoin) (defBody s_BadJoin) (defScope s_BadJoin) (.ref dTZ3) kVZ3 dcZ3 pmZ3 anZ3 cdZ3 ctZ3), slZ3⟩) (cZ3 : PySem.W.codeIn K cdZ3 "BadJoin.__init__" = true) (kZ3 : PySem.W.keepIn K (.ref fZ3) = true) (dZ3 : K.lookup dTZ3 = some ⟨.type "tuple", odTZ3, .seq #[.none] nTZ3, slTZ3⟩)
    {eZ4 : Addr} {nmZ4 qZ4 : Str} {NZ4 : Addr} {bsZ4 : List Value} {snZ4 : List Str} {subZ4 : List Value} {abZ4 : Bool} {colZ4 : Option Bool} {ddZ4 : Option Addr} {m0Z4 m1Z4 m2Z4 m3Z4 m5Z4 : Option Value} {fZ4 dTZ4 : Addr} {odZ4 odTZ4 anZ4 : Option Addr} {slZ4 slTZ4 : Array (Option Value)} {nTZ4 : Nat} {ocZ4 kVZ4 dcZ4 pmZ4 cdZ4 ctZ4 : Value} (aZ4 : PySem.W.nsIn K mainGlobals "BadPlace" = some (some (.ref eZ4))) (xZ4 : K.lookup eZ4 = some (excClassObj nmZ4 qZ4 eZ4 NZ4 bsZ4 [.ref eZ0, .type "ValueError", .type "Exception", .type "BaseException", .type "object"] true snZ4 subZ4 abZ4 colZ4 ddZ4 m0Z4 m1Z4 m2Z4 m3Z4 m5Z4 "ValueError.__new__")) (saZ4 : PySem.W.findIn K (.ref eZ4) "__setattr__" = some (some (.builtin "object.__setattr__"))) (gaZ4 : PySem.W.findIn K (.ref eZ4) "__getattribute__" = some (some (.builtin "BaseException.__getattribute__"))) (ggZ4 : PySem.W.findIn K (.ref eZ4) "__getattr__" = some none) (nwZ4 : PySem.W.findIn K (.ref eZ4) "word" = some none) (npZ4 : PySem.W.findIn K (.ref eZ4) "place" = some none) (iZ4 : PySem.W.findIn K (.ref eZ4) "__init__" = some (some (.ref fZ4))) (tZ4 : PySem.W.typeIn K (.ref fZ4) = some (.type "function")) (keZ4 : PySem.W.keepIn K (.ref eZ4) = true) (exZ4 : PySem.W.subIn K (.ref eZ4) (.type "BaseException") = some true) (tyZ4 : PySem.W.typeIn K (.ref eZ4) = some (.type "type")) (hdZ4 : PySem.W.hasDictIn K eZ4 = true) (icZ4 : PySem.W.isClsIn K eZ4 = true) (scZ4 : PySem.W.subIn K (.ref eZ4) (.ref eZ4) = some true) (lZ4 : K.lookup fZ4 = some ⟨ocZ4, odZ4, .func (PySem.W.fnOf "__init__" "BadPlace.__init__" (defArgs s_BadPlace) (defBody s_BadPlace) (defScope s_BadPlace) (.ref dTZ4) kVZ4 dcZ4 pmZ4 anZ4 cdZ4 ctZ4), slZ4⟩) (cZ4 : PySem.W.codeIn K cdZ4 "BadPlace.__init__" = true) (kZ4 : PySem.W.keepIn K (.ref fZ4) = true) (dZ4 : K.lookup dTZ4 = some ⟨.type "tuple", odTZ4, .seq #[.none] nTZ4, slTZ4⟩)
(uZ3_Z2 : PySem.W.subIn K (.ref eZ3) (.ref eZ2) = some false)
(uZ4_Z2 : PySem.W.subIn K (.ref eZ4) (.ref eZ2) = some false)
(uZ4_Z3 : PySem.W.subIn K (.ref eZ4) (.ref eZ3) = some false)
    : LawT l w K 10 63 "script" "_with_clip" mg fa := by
  have e := hfa.symm.trans (PySem.W.mg_of X G a42)
  cases e
  have T : Txt K mg := ⟨PySem.W.mg_none_of X G z_abs, PySem.W.mg_none_of X G z_all, PySem.W.mg_none_of X G z_bool, PySem.W.mg_none_of X G z_enumerate, PySem.W.mg_none_of X G z_int, PySem.W.mg_none_of X G z_isinstance, PySem.W.mg_none_of X G z_len, PySem.W.mg_none_of X G z_list, PySem.W.mg_none_of X G z_max, PySem.W.mg_none_of X G z_min, PySem.W.mg_none_of X G z_range, PySem.W.mg_none_of X G z_sorted, PySem.W.mg_none_of X G z_tuple, ⟨_, PySem.W.mg_of X G z_CLIPS_MOST⟩, ⟨_, PySem.W.mg_of X G z_COVER_MOST⟩, ⟨_, PySem.W.mg_of X G z_LENGTH_MOST⟩, ⟨_, PySem.W.mg_of X G z_LEVEL_MOST⟩, ⟨_, PySem.W.mg_of X G z_PICTURE_SIDE_MOST⟩, ⟨_, PySem.W.mg_of X G z_START_MOST⟩, ⟨_, PySem.W.mg_of X G z_STEP_MOST⟩, ⟨_, PySem.W.mg_of X G z_VALUE_MOST⟩⟩
  refine ⟨PySem.W.fnOf "law" "law" (defArgs s_law) (defBody s_law) (defScope s_law) .none kV42 dc42 pm42 an42 cd42 ct42, cT, PT, spLawT K PT, tabIn_of a31 l31 rfl lcT v11, ntz, fun s v => .of_eq rfl, fun H a ns hl hP hS => ⟨a, ns, rfl, hS, hl, fun p hp => (by rw [List.mem_singleton.mp hp]; exact LamX.TabS.nil hP), fun _ => rfl⟩, fun base _ _ TB => ?_⟩
  have FT : FilmTxt K mg eZ0 fZ0 := ⟨PySem.W.mg_of X G aZ0, rZ0, gZ0, iZ0, PySem.W.mg_none_of X G wZ0, vZ0⟩
  have FZ0 : FunD K "__init__" "FilmError.__init__" (defArgs s_FilmErr) (defBody s_FilmErr) (defScope s_FilmErr) [.non] [] fZ0 _ := ⟨⟨_, _, _, _, _, _, _, _, _, _, rfl, lZ0, cZ0, .inr ⟨by simp, _, _, [.none], _, rfl, dZ0, rfl, .cons rfl .nil⟩, .inl rfl⟩, kZ0⟩
  have GZ0 := ok_FilmErr (P := l.prog) (w := w) (base := base) FZ0 FT
  have bZ0 := binds_FilmErr FZ0
  have FZ1 : FunD K "__init__" "BadClip.__init__" (defArgs s_BadClip) (defBody s_BadClip) (defScope s_BadClip) [.non] [] fZ1 _ := ⟨⟨_, _, _, _, _, _, _, _, _, _, rfl, lZ1, cZ1, .inr ⟨by simp, _, _, [.none], _, rfl, dZ1, rfl, .cons rfl .nil⟩, .inl rfl⟩, kZ1⟩
  have OZ1 : OexC K eZ1 := ⟨⟨_, _, _, _, _, _, _, _, _, _, _, _, _, _, _, xZ1, by rfl⟩, saZ1, exZ1, tyZ1, keZ1⟩
  have KB_BadClip : KindOk l.prog w K mg base "BadClip" eZ1 := ⟨fZ1, ⟨PySem.W.mg_of X G aZ1, OZ1, ⟨gaZ1, ggZ1, exZ1, hdZ1⟩, nwZ1, npZ1, iZ1, tZ1, exm_self exZ1 icZ1 tyZ1 scZ1⟩, _, ok_BadClip FZ1 FT GZ0 kZ0 bZ0, binds_BadClip FZ1⟩
  have FZ2 : FunD K "__init__" "BadCut.__init__" (defArgs s_BadCut) (defBody s_BadCut) (defScope s_BadCut) [.non] [] fZ2 _ := ⟨⟨_, _, _, _, _, _, _, _, _, _, rfl, lZ2, cZ2, .inr ⟨by simp, _, _, [.none], _, rfl, dZ2, rfl, .cons rfl .nil⟩, .inl rfl⟩, kZ2⟩
  have OZ2 : OexC K eZ2 := ⟨⟨_, _, _, _, _, _, _, _, _, _, _, _, _, _, _, xZ2, by rfl⟩, saZ2, exZ2, tyZ2, keZ2⟩
  have KB_BadCut : KindOk l.prog w K mg base "BadCut" eZ2 := ⟨fZ2, ⟨PySem.W.mg_of X G aZ2, OZ2, ⟨gaZ2, ggZ2, exZ2, hdZ2⟩, nwZ2, npZ2, iZ2, tZ2, exm_self exZ2 icZ2 tyZ2 scZ2⟩, _, ok_BadCut FZ2 FT GZ0 kZ0 bZ0, binds_BadCut FZ2⟩
  have FZ3 : FunD K "__init__" "BadJoin.__init__" (defArgs s_BadJoin) (defBody s_BadJoin) (defScope s_BadJoin) [.non] [] fZ3 _ := ⟨⟨_, _, _, _, _, _, _, _, _, _, rfl, lZ3, cZ3, .inr ⟨by simp, _, _, [.none], _, rfl, dZ3, rfl, .cons rfl .nil⟩, .inl rfl⟩, kZ3⟩
  have OZ3 : OexC K eZ3 := ⟨⟨_, _, _, _, _, _, _, _, _, _, _, _, _, _, _, xZ3, by rfl⟩, saZ3, exZ3, tyZ3, keZ3⟩
  have KB_BadJoin : KindOk l.prog w K mg base "BadJoin" eZ3 := ⟨fZ3, ⟨PySem.W.mg_of X G aZ3, OZ3, ⟨gaZ3, ggZ3, exZ3, hdZ3⟩, nwZ3, npZ3, iZ3, tZ3, exm_self exZ3 icZ3 tyZ3 scZ3⟩, _, ok_BadJoin FZ3 FT GZ0 kZ0 bZ0, binds_BadJoin FZ3⟩
  have FZ4 : FunD K "__init__" "BadPlace.__init__" (defArgs s_BadPlace) (defBody s_BadPlace) (defScope s_BadPlace) [.non] [] fZ4 _ := ⟨⟨_, _, _, _, _, _, _, _, _, _, rfl, lZ4, cZ4, .inr ⟨by simp, _, _, [.none], _, rfl, dZ4, rfl, .cons rfl .nil⟩, .inl rfl⟩, kZ4⟩
  have OZ4 : OexC K eZ4 := ⟨⟨_, _, _, _, _, _, _, _, _, _, _, _, _, _, _, xZ4, by rfl⟩, saZ4, exZ4, tyZ4, keZ4⟩
  have KB_BadPlace : KindOk l.prog w K mg base "BadPlace" eZ4 := ⟨fZ4, ⟨PySem.W.mg_of X G aZ4, OZ4, ⟨gaZ4, ggZ4, exZ4, hdZ4⟩, nwZ4, npZ4, iZ4, tZ4, exm_self exZ4 icZ4 tyZ4 scZ4⟩, _, ok_BadPlace FZ4 FT GZ0 kZ0 bZ0, binds_BadPlace FZ4⟩
  have EX_BadJoin_BadCut : PySem.W.exmOne K (.ref eZ3) (.ref eZ2) = some false := exm_no exZ2 icZ2 tyZ2 uZ3_Z2
  have EX_BadPlace_BadCut : PySem.W.exmOne K (.ref eZ4) (.ref eZ2) = some false := exm_no exZ2 icZ2 tyZ2 uZ4_Z2
  have EX_BadPlace_BadJoin : PySem.W.exmOne K (.ref eZ4) (.ref eZ3) = some false := exm_no exZ3 icZ3 tyZ3 uZ4_Z3
  have F0 := fun_mk (st := s_l_deck) l0 c0 k0
  have D_l_deck : Def l.prog w K mg base CX0 "_law_deck" 1 ["script"] (spDeck K) := ⟨f0, _, ok_l_deck F0 T, PySem.W.mg_of X G a0, k0, F0.binds (ps := ["script"]) fun _ _ _ _ _ _ us hl => match us, hl with | [_], _ => rfl⟩
  have F1 := fun_mk (st := s_l_draw) l1 c1 k1
  have D_l_draw : Def l.prog w K mg base CX0 "_law_draw" 1 ["deck", "bound"] (spDraw K) := ⟨f1, _, ok_l_draw F1 T, PySem.W.mg_of X G a1, k1, F1.binds (ps := ["deck", "bound"]) fun _ _ _ _ _ _ us hl => match us, hl with | [_, _], _ => rfl⟩
  have F2 := fun_mk (st := s_is_whole) l2 c2 k2
  have D_is_whole : Def l.prog w K mg base CX0 "is_whole" 1 ["value"] (spWhole) := ⟨f2, _, ok_is_whole F2 T, PySem.W.mg_of X G a2, k2, F2.binds (ps := ["value"]) fun _ _ _ _ _ _ us hl => match us, hl with | [_], _ => rfl⟩
  have F3 := fun_mk (st := s_is_number) l3 c3 k3
  have D_is_number : Def l.prog w K mg base CX0 "is_number" 2 ["value", "least", "most"] (spNumber) := ⟨f3, _, ok_is_number F3 T D_is_whole, PySem.W.mg_of X G a3, k3, F3.binds (ps := ["value", "least", "most"]) fun _ _ _ _ _ _ us hl => match us, hl with | [_, _, _], _ => rfl⟩
  have F4 := fun_mk (st := s_are_numbers) l4 c4 k4
  have D_are_numbers : Def l.prog w K mg base CX0 "_are_numbers" 3 ["items", "many", "most"] (spNums) := ⟨f4, _, ok_are_numbers F4 T D_is_number, PySem.W.mg_of X G a4, k4, F4.binds (ps := ["items", "many", "most"]) fun _ _ _ _ _ _ us hl => match us, hl with | [_, _, _], _ => rfl⟩
  have F5 := fun_mk (st := s_check_picture) l5 c5 k5
  have D_check_picture : Def l.prog w K mg base CX0 "check_picture" 4 ["picture"] (spCheck K) := ⟨f5, _, ok_check_picture F5 T D_is_number D_are_numbers, PySem.W.mg_of X G a5, k5, F5.binds (ps := ["picture"]) fun _ _ _ _ _ _ us hl => match us, hl with | [_], _ => rfl⟩
  have F6 := fun_mk (st := s_has_form_paints) l6 c6 k6
  have D_has_form_paints : Def l.prog w K mg base CX0 "has_form_paints" 3 ["paint"] (spFormP K) := ⟨f6, _, ok_has_form_paints F6 T D_is_number, PySem.W.mg_of X G a6, k6, F6.binds (ps := ["paint"]) fun _ _ _ _ _ _ us hl => match us, hl with | [_], _ => rfl⟩
  have F7 := fun_mk (st := s_check_paint) l7 c7 k7
  have D_check_paint : Def l.prog w K mg base CX0 "check_paint" 5 ["paint"] (spGoodP) := ⟨f7, _, ok_check_paint F7 T D_has_form_paints D_check_picture, PySem.W.mg_of X G a7, k7, F7.binds (ps := ["paint"]) fun _ _ _ _ _ _ us hl => match us, hl with | [_], _ => rfl⟩
  have F8 := fun_mk (st := s_has_form_clips) l8 c8 k8
  have D_has_form_clips : Def l.prog w K mg base CX0 "has_form_clips" 3 ["clip"] (spFormC) := ⟨f8, _, ok_has_form_clips F8 T D_is_number, PySem.W.mg_of X G a8, k8, F8.binds (ps := ["clip"]) fun _ _ _ _ _ _ us hl => match us, hl with | [_], _ => rfl⟩
  have F9 := fun_mk (st := s_is_bare) l9 c9 k9
  have D_is_bare : Def l.prog w K mg base CX0 "_is_bare" 1 ["clip"] (spBare K) := ⟨f9, _, ok_is_bare F9 T, PySem.W.mg_of X G a9, k9, F9.binds (ps := ["clip"]) fun _ _ _ _ _ _ us hl => match us, hl with | [_], _ => rfl⟩
  have F10 := fun_mk (st := s_end_of) l10 c10 k10
  have D_end_of : Def l.prog w K mg base CX0 "end_of" 1 ["clip"] (spEnd27 K) := ⟨f10, _, ok_end_of F10 T, PySem.W.mg_of X G a10, k10, F10.binds (ps := ["clip"]) fun _ _ _ _ _ _ us hl => match us, hl with | [_], _ => rfl⟩
  have F11 := fun_mk (st := s_clip_at) l11 c11 k11
  have D_clip_at : Def l.prog w K mg base CX0 "clip_at" 2 ["clips", "frame"] (spClipAt K) := ⟨f11, _, ok_clip_at F11 T D_end_of, PySem.W.mg_of X G a11, k11, F11.binds (ps := ["clips", "frame"]) fun _ _ _ _ _ _ us hl => match us, hl with | [_, _], _ => rfl⟩
  have F12 := fun_mk (st := s_level_at) l12 c12 k12
  have D_level_at : Def l.prog w K mg base CX0 "level_at" 1 ["clip", "frame"] (spLevel K) := ⟨f12, _, ok_level_at F12 T, PySem.W.mg_of X G a12, k12, F12.binds (ps := ["clip", "frame"]) fun _ _ _ _ _ _ us hl => match us, hl with | [_, _], _ => rfl⟩
  have F13 := fun_mk (st := s_lane) l13 c13 k13
  have D_lane : Def l.prog w K mg base CX0 "lane" 3 ["clips", "frame"] (spLane K) := ⟨f13, _, ok_lane F13 T D_clip_at D_level_at, PySem.W.mg_of X G a13, k13, F13.binds (ps := ["clips", "frame"]) fun _ _ _ _ _ _ us hl => match us, hl with | [_, _], _ => rfl⟩
  have F14 := fun_mk (st := s_check_clips) l14 c14 k14
  have D_check_clips : Def l.prog w K mg base (L2.CX l.prog w) "check_clips" 6 ["clips", "adjusts"] (spCheckCl eZ1) := ⟨f14, _, ok_check_clips F14 T KB_BadClip D_has_form_clips D_is_bare D_check_paint D_end_of, PySem.W.mg_of X G a14, k14, F14.binds (ps := ["clips", "adjusts"]) fun _ _ _ _ _ _ us hl => match us, hl with | [_, _], _ => rfl⟩
  have F15 := fun_mk (st := s_l_paint) l15 c15 k15
  have D_l_paint : Def l.prog w K mg base CX0 "_law_paint" 2 ["deck"] (spPaint3 K) := ⟨f15, _, ok_l_paint F15 T D_l_draw, PySem.W.mg_of X G a15, k15, F15.binds (ps := ["deck"]) fun _ _ _ _ _ _ us hl => match us, hl with | [_], _ => rfl⟩
  have F16 := fun_mk (st := s_l_clip) l16 c16 k16
  have D_l_clip : Def l.prog w K mg base CX0 "_law_clip" 3 ["deck", "start", "adjusts"] (spClipB K) := ⟨f16, _, ok_l_clip F16 T D_l_draw D_l_paint, PySem.W.mg_of X G a16, k16, F16.binds (ps := ["deck", "start", "adjusts"]) fun _ _ _ _ _ _ us hl => match us, hl with | [_, _, _], _ => rfl⟩
  have F17 := fun_mk (st := s_l_clips) l17 c17 k17
  have D_l_clips : Def l.prog w K mg base CX0 "_law_clips" 4 ["deck", "most", "adjusts"] (spClipsA K) := ⟨f17, _, ok_l_clips F17 T D_l_draw D_l_clip, PySem.W.mg_of X G a17, k17, F17.binds (ps := ["deck", "most", "adjusts"]) fun _ _ _ _ _ _ us hl => match us, hl with | [_, _, _], _ => rfl⟩
  have F18 := fun_mk (st := s_l_end) l18 c18 k18
  have D_l_end : Def l.prog w K mg base CX0 "_law_end" 1 ["clip"] (spEnd K) := ⟨f18, _, ok_l_end F18 T, PySem.W.mg_of X G a18, k18, F18.binds (ps := ["clip"]) fun _ _ _ _ _ _ us hl => match us, hl with | [_], _ => rfl⟩
  have F19 := fun_mk (st := s_l_frame) l19 c19 k19
  have D_l_frame : Def l.prog w K mg base CX0 "_law_frame" 2 ["deck", "clips"] (spFrame K) := ⟨f19, _, ok_l_frame F19 T D_l_draw D_l_end, PySem.W.mg_of X G a19, k19, F19.binds (ps := ["deck", "clips"]) fun _ _ _ _ _ _ us hl => match us, hl with | [_, _], _ => rfl⟩
  have F20 := fun_mk (st := s_l_level) l20 c20 k20
  have D_l_level : Def l.prog w K mg base CX0 "_law_level" 2 ["clip", "frame"] (spLevel K) := ⟨f20, _, ok_l_level F20 T D_l_end, PySem.W.mg_of X G a20, k20, F20.binds (ps := ["clip", "frame"]) fun _ _ _ _ _ _ us hl => match us, hl with | [_, _], _ => rfl⟩
  have F21 := fun_mk (st := s_l_lane) l21 c21 k21
  have D_l_lane : Def l.prog w K mg base CX0 "_law_lane" 3 ["clips", "frame"] (spLane K) := ⟨f21, _, ok_l_lane F21 T D_l_end D_l_level, PySem.W.mg_of X G a21, k21, F21.binds (ps := ["clips", "frame"]) fun _ _ _ _ _ _ us hl => match us, hl with | [_, _], _ => rfl⟩
  have F22 := fun_mk (st := s_l_frames) l22 c22 k22
  have D_l_frames : Def l.prog w K mg base CX0 "_law_frames" 2 ["clips", "more"] (spFrames K) := ⟨f22, _, ok_l_frames F22 T D_l_end, PySem.W.mg_of X G a22, k22, F22.binds (ps := ["clips", "more"]) fun _ _ _ _ _ _ us hl => match us, hl with | [_, _], _ => rfl⟩
  have F23 := fun_mk (st := s_l_numbers) l23 c23 k23
  have D_l_numbers : Def l.prog w K mg base CX0 "_law_numbers" 4 ["deck", "word", "clips", "adjusts"] (spNumbers K) := ⟨f23, _, ok_l_numbers F23 T D_l_draw D_l_frame D_l_clip, PySem.W.mg_of X G a23, k23, F23.binds (ps := ["deck", "word", "clips", "adjusts"]) fun _ _ _ _ _ _ us hl => match us, hl with | [_, _, _, _], _ => rfl⟩
  have F24 := fun_mk (st := s_place_across) l24 c24 k24
  have D_place_across : Def l.prog w K mg base CX0 "_place_across" 2 ["clips", "frame"] (spAcross K) := ⟨f24, _, ok_place_across F24 T (D_end_of.less end_less), PySem.W.mg_of X G a24, k24, F24.binds (ps := ["clips", "frame"]) fun _ _ _ _ _ _ us hl => match us, hl with | [_, _], _ => rfl⟩
  have F25 := fun_mk (st := s_has_place) l25 c25 k25
  have D_has_place : Def l.prog w K mg base CX0 "_has_place" 1 ["clips", "place"] (spHasPlace) := ⟨f25, _, ok_has_place F25 T, PySem.W.mg_of X G a25, k25, F25.binds (ps := ["clips", "place"]) fun _ _ _ _ _ _ us hl => match us, hl with | [_, _], _ => rfl⟩
  have F26 := fun_mk (st := s_is_beside) l26 c26 k26
  have D_is_beside : Def l.prog w K mg base CX0 "_is_beside" 2 ["clip", "first", "last"] (spBeside) := ⟨f26, _, ok_is_beside F26 T (D_end_of.less end_less), PySem.W.mg_of X G a26, k26, F26.binds (ps := ["clip", "first", "last"]) fun _ _ _ _ _ _ us hl => match us, hl with | [_, _, _], _ => rfl⟩
  have F27 := fun_mk (st := s_cut) l27 c27 k27
  have D_cut : Def l.prog w K mg base (L2.CX l.prog w) "_cut" 5 ["clips", "place", "frame"] (spCutOne K eZ2) := ⟨f27, _, ok_cut F27 T KB_BadCut, PySem.W.mg_of X G a27, k27, F27.binds (ps := ["clips", "place", "frame"]) fun _ _ _ _ _ _ us hl => match us, hl with | [_, _, _], _ => rfl⟩
  have F28 := fun_mk (st := s_parted) l28 c28 k28
  have D_parted : Def l.prog w K mg base (L2.CX l.prog w) "_parted" 6 ["clips", "frame"] (spParted K eZ2) := ⟨f28, _, ok_parted F28 T D_place_across D_cut, PySem.W.mg_of X G a28, k28, F28.binds (ps := ["clips", "frame"]) fun _ _ _ _ _ _ us hl => match us, hl with | [_, _], _ => rfl⟩
  have F29 := fun_mk (st := s_are_one) l29 c29 k29
  have D_are_one : Def l.prog w K mg base CX0 "_are_one" 2 ["first", "second"] (spAreOne K) := ⟨f29, _, ok_are_one F29 T (D_end_of.less end_less), PySem.W.mg_of X G a29, k29, F29.binds (ps := ["first", "second"]) fun _ _ _ _ _ _ us hl => match us, hl with | [_, _], _ => rfl⟩
  have F30 := fun_mk (st := s_later) l30 c30 k30
  have D_later : Def l.prog w K mg base CX0 "_later" 1 ["clips", "frame", "count"] (spLaterP K) := ⟨f30, _, ok_later F30 T, PySem.W.mg_of X G a30, k30, F30.binds (ps := ["clips", "frame", "count"]) fun _ _ _ _ _ _ us hl => match us, hl with | [_, _, _], _ => rfl⟩
  have F31 := funT_mk (st := s_with_clip) l31 c31 k31
  have D_with_clip : Def l.prog w K mg base CX0 "_with_clip" 5 ["clips", "clip"] (spWithClip K PT) := ⟨f31, _, ok_with_clip F31 TB T, PySem.W.mg_of X G a31, k31, F31.fn.binds (ps := ["clips", "clip"]) fun _ _ _ _ _ _ us hl => match us, hl with | [_, _], _ => rfl⟩
  have F32 := fun_mk (st := s_lifted) l32 c32 k32
  have D_lifted : Def l.prog w K mg base (L2.CX l.prog w) "lifted" 7 ["clips", "first", "last"] (spTlG K eZ2 "BadCut" arLift) := ⟨f32, _, ok_lifted F32 T D_parted D_is_beside, PySem.W.mg_of X G a32, k32, F32.binds (ps := ["clips", "first", "last"]) fun _ _ _ _ _ _ us hl => match us, hl with | [_, _, _], _ => rfl⟩
  have F33 := fun_mk (st := s_rippled_out) l33 c33 k33
  have D_rippled_out : Def l.prog w K mg base (L2.CX l.prog w) "rippled_out" 8 ["clips", "first", "last"] (spTlG K eZ2 "BadCut" arRout) := ⟨f33, _, ok_rippled_out F33 T D_lifted D_later, PySem.W.mg_of X G a33, k33, F33.binds (ps := ["clips", "first", "last"]) fun _ _ _ _ _ _ us hl => match us, hl with | [_, _, _], _ => rfl⟩
  have F34 := fun_mk (st := s_rippled_in) l34 c34 k34
  have D_rippled_in : Def l.prog w K mg base (L2.CX l.prog w) "rippled_in" 8 ["clips", "frame", "count"] (spTlG K eZ2 "BadCut" arRin) := ⟨f34, _, ok_rippled_in F34 T D_parted D_later, PySem.W.mg_of X G a34, k34, F34.binds (ps := ["clips", "frame", "count"]) fun _ _ _ _ _ _ us hl => match us, hl with | [_, _, _], _ => rfl⟩
  have F35 := fun_mk (st := s_cut_at) l35 c35 k35
  have D_cut_at : Def l.prog w K mg base (L2.CX l.prog w) "cut_at" 8 ["clips", "frame"] (spTlG K eZ2 "BadCut" arCut) := ⟨f35, _, ok_cut_at F35 T KB_BadCut D_place_across D_cut, PySem.W.mg_of X G a35, k35, F35.binds (ps := ["clips", "frame"]) fun _ _ _ _ _ _ us hl => match us, hl with | [_, _], _ => rfl⟩
  have F36 := fun_mk (st := s_join_at) l36 c36 k36
  have D_join_at : Def l.prog w K mg base (L2.CX l.prog w) "join_at" 8 ["clips", "place"] (spTlG K eZ3 "BadJoin" arJoin) := ⟨f36, _, ok_join_at F36 T KB_BadJoin D_are_one, PySem.W.mg_of X G a36, k36, F36.binds (ps := ["clips", "place"]) fun _ _ _ _ _ _ us hl => match us, hl with | [_, _], _ => rfl⟩
  have F37 := fun_mk (st := s_with_span) l37 c37 k37
  have D_with_span : Def l.prog w K mg base (L2.CX l.prog w) "with_span" 7 ["clips", "place", "start", "length"] (spTlT K (lamW PT) eZ4 "BadPlace" arTrim) := ⟨f37, _, ok_with_span F37 T KB_BadPlace D_has_place D_is_beside D_with_clip, PySem.W.mg_of X G a37, k37, F37.binds (ps := ["clips", "place", "start", "length"]) fun _ _ _ _ _ _ us hl => match us, hl with | [_, _, _, _], _ => rfl⟩
  have F38 := fun_mk (st := s_moved_by) l38 c38 k38
  have D_moved_by : Def l.prog w K mg base (L2.CX l.prog w) "moved_by" 8 ["clips", "place", "frames"] (spTlT K (lamW PT) eZ4 "BadPlace" arMove) := ⟨f38, _, ok_moved_by F38 T KB_BadPlace D_has_place D_with_span, PySem.W.mg_of X G a38, k38, F38.binds (ps := ["clips", "place", "frames"]) fun _ _ _ _ _ _ us hl => match us, hl with | [_, _, _], _ => rfl⟩
  have F39 := fun_mk (st := s_placed) l39 c39 k39
  have D_placed : Def l.prog w K mg base (L2.CX l.prog w) "placed" 8 ["clips", "clip"] (spTlT K (lamW PT) eZ2 "BadCut" arPlace) := ⟨f39, _, ok_placed F39 T (D_end_of.less end_less) D_lifted D_with_clip, PySem.W.mg_of X G a39, k39, F39.binds (ps := ["clips", "clip"]) fun _ _ _ _ _ _ us hl => match us, hl with | [_, _], _ => rfl⟩
  have F40 := fun_mk (st := s_l_told) l40 c40 k40
  have D_l_told : Def l.prog w K mg base CX0 "_law_told" 9 ["word", "clips", "numbers"] (spToldT K (lamW PT)) := ⟨f40, _, ok_l_told F40 T KB_BadCut KB_BadJoin KB_BadPlace EX_BadJoin_BadCut EX_BadPlace_BadCut EX_BadPlace_BadJoin D_cut_at D_join_at D_moved_by D_with_span D_lifted D_placed D_rippled_out D_rippled_in, PySem.W.mg_of X G a40, k40, F40.binds (ps := ["word", "clips", "numbers"]) fun _ _ _ _ _ _ us hl => match us, hl with | [_, _, _], _ => rfl⟩
  have F41 := fun_mk (st := s_l_due) l41 c41 k41
  have D_l_due : Def l.prog w K mg base CX0 "_law_due" 4 ["word", "clips", "numbers", "frame"] (spDue34 K) := ⟨f41, _, ok_l_due F41 T D_l_lane D_l_end D_l_level, PySem.W.mg_of X G a41, k41, F41.binds (ps := ["word", "clips", "numbers", "frame"]) fun _ _ _ _ _ _ us hl => match us, hl with | [_, _, _, _], _ => rfl⟩
  exact ok_law (fun_mk (st := s_law) l42 c42 k42) T D_l_deck D_l_draw D_l_clips D_l_numbers D_l_told D_check_clips D_l_frames D_lane D_l_due
end Od
open PySem PySem.W PyProof.Rows in
set_option maxRecDepth 100000 in
set_option maxHeartbeats 0 in
theorem PySem.Challenge.cw_onlythedirt_k34_whole_lanes_holds : PySem.Challenge.rw_onlythedirt_k34_whole_lanes.Holds := by
  w_on; o_law; k_head; (case hw => w_witness2)
  k_fill
  refine Od.walk_t (l := PySem.Challenge.rw_onlythedirt_k34_whole_lanes) (n := 63) (k := 10) (x := "script") (y := "_with_clip") rfl (by decide) rfl ⟨rfl, by decide, by decide⟩ (by decide +kernel) (fun w h Y => PySem.W.km_in_of Y) ?F
  case F =>
    intro w mg fa h KX G hmg
    refine' Od.all_mk KX G hmg ?a0 ?l0 ?c0 ?k0 ?a1 ?l1 ?c1 ?k1 ?a2 ?l2 ?c2 ?k2 ?a3 ?l3 ?c3 ?k3 ?a4 ?l4 ?c4 ?k4 ?a5 ?l5 ?c5 ?k5 ?a6 ?l6 ?c6 ?k6 ?a7 ?l7 ?c7 ?k7 ?a8 ?l8 ?c8 ?k8 ?a9 ?l9 ?c9 ?k9 ?a10 ?l10 ?c10 ?k10 ?a11 ?l11 ?c11 ?k11 ?a12 ?l12 ?c12 ?k12 ?a13 ?l13 ?c13 ?k13 ?a14 ?l14 ?c14 ?k14 ?a15 ?l15 ?c15 ?k15 ?a16 ?l16 ?c16 ?k16 ?a17 ?l17 ?c17 ?k17 ?a18 ?l18 ?c18 ?k18 ?a19 ?l19 ?c19 ?k19 ?a20 ?l20 ?c20 ?k20 ?a21 ?l21 ?c21 ?k21 ?a22 ?l22 ?c22 ?k22 ?a23 ?l23 ?c23 ?k23 ?a24 ?l24 ?c24 ?k24 ?a25 ?l25 ?c25 ?k25 ?a26 ?l26 ?c26 ?k26 ?a27 ?l27 ?c27 ?k27 ?a28 ?l28 ?c28 ?k28 ?a29 ?l29 ?c29 ?k29 ?a30 ?l30 ?c30 ?k30 ?a31 ?l31 ?c31 ?k31 ?lcT ?v11 ?ntz ?a32 ?l32 ?c32 ?k32 ?a33 ?l33 ?c33 ?k33 ?a34 ?l34 ?c34 ?k34 ?a35 ?l35 ?c35 ?k35 ?a36 ?l36 ?c36 ?k36 ?a37 ?l37 ?c37 ?k37 ?a38 ?l38 ?c38 ?k38 ?a39 ?l39 ?c39 ?k39 ?a40 ?l40 ?c40 ?k40 ?a41 ?l41 ?c41 ?k41 ?a42 ?l42 ?c42 ?k42 ?z_abs ?z_all ?z_bool ?z_enumerate ?z_int ?z_isinstance ?z_len ?z_list ?z_max ?z_min ?z_range ?z_sorted ?z_tuple ?z_CLIPS_MOST ?z_COVER_MOST ?z_LENGTH_MOST ?z_LEVEL_MOST ?z_PICTURE_SIDE_MOST ?z_START_MOST ?z_STEP_MOST ?z_VALUE_MOST ?aZ0 ?rZ0 ?gZ0 ?iZ0 ?vZ0 ?wZ0 ?lZ0 ?cZ0 ?kZ0 ?dZ0 ?aZ1 ?xZ1 ?saZ1 ?gaZ1 ?ggZ1 ?nwZ1 ?npZ1 ?iZ1 ?tZ1 ?keZ1 ?exZ1 ?tyZ1 ?hdZ1 ?icZ1 ?scZ1 ?lZ1 ?cZ1 ?kZ1 ?dZ1 ?aZ2 ?xZ2 ?saZ2 ?gaZ2 ?ggZ2 ?nwZ2 ?npZ2 ?iZ2 ?tZ2 ?keZ2 ?exZ2 ?tyZ2 ?hdZ2 ?icZ2 ?scZ2 ?lZ2 ?cZ2 ?kZ2 ?dZ2 ?aZ3 ?xZ3 ?saZ3 ?gaZ3 ?ggZ3 ?nwZ3 ?npZ3 ?iZ3 ?tZ3 ?keZ3 ?exZ3 ?tyZ3 ?hdZ3 ?icZ3 ?scZ3 ?lZ3 ?cZ3 ?kZ3 ?dZ3 ?aZ4 ?xZ4 ?saZ4 ?gaZ4 ?ggZ4 ?nwZ4 ?npZ4 ?iZ4 ?tZ4 ?keZ4 ?exZ4 ?tyZ4 ?hdZ4 ?icZ4 ?scZ4 ?lZ4 ?cZ4 ?kZ4 ?dZ4 ?uZ3_Z2 ?uZ4_Z2 ?uZ4_Z3
    (case a0 => k_is)
    (case l0 => k_is)
    (case c0 => k_is)
    (case k0 => k_is)
    (case a1 => k_is)
    (case l1 => k_is)
    (case c1 => k_is)
    (case k1 => k_is)
    (case a2 => k_is)
    (case l2 => k_is)
    (case c2 => k_is)
    (case k2 => k_is)
    (case a3 => k_is)
    (case l3 => k_is)
    (case c3 => k_is)
    (case k3 => k_is)
    (case a4 => k_is)
    (case l4 => k_is)
    (case c4 => k_is)
    (case k4 => k_is)
    (case a5 => k_is)
    (case l5 => k_is)
    (case c5 => k_is)
    (case k5 => k_is)
    (case a6 => k_is)
    (case l6 => k_is)
    (case c6 => k_is)
    (case k6 => k_is)
    (case a7 => k_is)
    (case l7 => k_is)
    (case c7 => k_is)
    (case k7 => k_is)
    (case a8 => k_is)
    (case l8 => k_is)
    (case c8 => k_is)
    (case k8 => k_is)
    (case a9 => k_is)
    (case l9 => k_is)
    (case c9 => k_is)
    (case k9 => k_is)
    (case a10 => k_is)
    (case l10 => k_is)
    (case c10 => k_is)
    (case k10 => k_is)
    (case a11 => k_is)
    (case l11 => k_is)
    (case c11 => k_is)
    (case k11 => k_is)
    (case a12 => k_is)
    (case l12 => k_is)
    (case c12 => k_is)
    (case k12 => k_is)
    (case a13 => k_is)
    (case l13 => k_is)
    (case c13 => k_is)
    (case k13 => k_is)
    (case a14 => k_is)
    (case l14 => k_is)
    (case c14 => k_is)
    (case k14 => k_is)
    (case a15 => k_is)
    (case l15 => k_is)
    (case c15 => k_is)
    (case k15 => k_is)
    (case a16 => k_is)
    (case l16 => k_is)
    (case c16 => k_is)
    (case k16 => k_is)
    (case a17 => k_is)
    (case l17 => k_is)
    (case c17 => k_is)
    (case k17 => k_is)
    (case a18 => k_is)
    (case l18 => k_is)
    (case c18 => k_is)
    (case k18 => k_is)
    (case a19 => k_is)
    (case l19 => k_is)
    (case c19 => k_is)
    (case k19 => k_is)
    (case a20 => k_is)
    (case l20 => k_is)
    (case c20 => k_is)
    (case k20 => k_is)
    (case a21 => k_is)
    (case l21 => k_is)
    (case c21 => k_is)
    (case k21 => k_is)
    (case a22 => k_is)
    (case l22 => k_is)
    (case c22 => k_is)
    (case k22 => k_is)
    (case a23 => k_is)
    (case l23 => k_is)
    (case c23 => k_is)
    (case k23 => k_is)
    (case a24 => k_is)
    (case l24 => k_is)
    (case c24 => k_is)
    (case k24 => k_is)
    (case a25 => k_is)
    (case l25 => k_is)
    (case c25 => k_is)
    (case k25 => k_is)
    (case a26 => k_is)
    (case l26 => k_is)
    (case c26 => k_is)
    (case k26 => k_is)
    (case a27 => k_is)
    (case l27 => k_is)
    (case c27 => k_is)
    (case k27 => k_is)
    (case a28 => k_is)
    (case l28 => k_is)
    (case c28 => k_is)
    (case k28 => k_is)
    (case a29 => k_is)
    (case l29 => k_is)
    (case c29 => k_is)
    (case k29 => k_is)
    (case a30 => k_is)
    (case l30 => k_is)
    (case c30 => k_is)
    (case k30 => k_is)
    (case a31 => k_is)
    (case l31 => k_is)
    (case c31 => k_is)
    (case k31 => k_is)
    (case lcT => k_is)
    (case v11 => rfl)
    (case ntz => first | rfl | kernel_rfl)
    (case a32 => k_is)
    (case l32 => k_is)
    (case c32 => k_is)
    (case k32 => k_is)
    (case a33 => k_is)
    (case l33 => k_is)
    (case c33 => k_is)
    (case k33 => k_is)
    (case a34 => k_is)
    (case l34 => k_is)
    (case c34 => k_is)
    (case k34 => k_is)
    (case a35 => k_is)
    (case l35 => k_is)
    (case c35 => k_is)
    (case k35 => k_is)
    (case a36 => k_is)
    (case l36 => k_is)
    (case c36 => k_is)
    (case k36 => k_is)
    (case a37 => k_is)
    (case l37 => k_is)
    (case c37 => k_is)
    (case k37 => k_is)
    (case a38 => k_is)
    (case l38 => k_is)
    (case c38 => k_is)
    (case k38 => k_is)
    (case a39 => k_is)
    (case l39 => k_is)
    (case c39 => k_is)
    (case k39 => k_is)
    (case a40 => k_is)
    (case l40 => k_is)
    (case c40 => k_is)
    (case k40 => k_is)
    (case a41 => k_is)
    (case l41 => k_is)
    (case c41 => k_is)
    (case k41 => k_is)
    (case a42 => k_is)
    (case l42 => k_is)
    (case c42 => k_is)
    (case k42 => k_is)
    (case z_abs => k_is)
    (case z_all => k_is)
    (case z_bool => k_is)
    (case z_enumerate => k_is)
    (case z_int => k_is)
    (case z_isinstance => k_is)
    (case z_len => k_is)
    (case z_list => k_is)
    (case z_max => k_is)
    (case z_min => k_is)
    (case z_range => k_is)
    (case z_sorted => k_is)
    (case z_tuple => k_is)
    (case z_CLIPS_MOST => k_is)
    (case z_COVER_MOST => k_is)
    (case z_LENGTH_MOST => k_is)
    (case z_LEVEL_MOST => k_is)
    (case z_PICTURE_SIDE_MOST => k_is)
    (case z_START_MOST => k_is)
    (case z_STEP_MOST => k_is)
    (case z_VALUE_MOST => k_is)
    (case aZ0 => k_is)
    (case rZ0 => k_is)
    (case gZ0 => k_is)
    (case iZ0 => k_is)
    (case vZ0 => k_is)
    (case wZ0 => k_is)
    (case lZ0 => k_is)
    (case cZ0 => k_is)
    (case kZ0 => k_is)
    (case dZ0 => k_is)
    (case aZ1 => k_is)
    (case xZ1 => k_is)
    (case saZ1 => k_is)
    (case gaZ1 => k_is)
    (case ggZ1 => k_is)
    (case nwZ1 => k_is)
    (case npZ1 => k_is)
    (case iZ1 => k_is)
    (case tZ1 => k_is)
    (case keZ1 => k_is)
    (case exZ1 => k_is)
    (case tyZ1 => k_is)
    (case hdZ1 => k_is)
    (case icZ1 => k_is)
    (case scZ1 => k_is)
    (case lZ1 => k_is)
    (case cZ1 => k_is)
    (case kZ1 => k_is)
    (case dZ1 => k_is)
    (case aZ2 => k_is)
    (case xZ2 => k_is)
    (case saZ2 => k_is)
    (case gaZ2 => k_is)
    (case ggZ2 => k_is)
    (case nwZ2 => k_is)
    (case npZ2 => k_is)
    (case iZ2 => k_is)
    (case tZ2 => k_is)
    (case keZ2 => k_is)
    (case exZ2 => k_is)
    (case tyZ2 => k_is)
    (case hdZ2 => k_is)
    (case icZ2 => k_is)
    (case scZ2 => k_is)
    (case lZ2 => k_is)
    (case cZ2 => k_is)
    (case kZ2 => k_is)
    (case dZ2 => k_is)
    (case aZ3 => k_is)
    (case xZ3 => k_is)
    (case saZ3 => k_is)
    (case gaZ3 => k_is)
    (case ggZ3 => k_is)
    (case nwZ3 => k_is)
    (case npZ3 => k_is)
    (case iZ3 => k_is)
    (case tZ3 => k_is)
    (case keZ3 => k_is)
    (case exZ3 => k_is)
    (case tyZ3 => k_is)
    (case hdZ3 => k_is)
    (case icZ3 => k_is)
    (case scZ3 => k_is)
    (case lZ3 => k_is)
    (case cZ3 => k_is)
    (case kZ3 => k_is)
    (case dZ3 => k_is)
    (case aZ4 => k_is)
    (case xZ4 => k_is)
    (case saZ4 => k_is)
    (case gaZ4 => k_is)
    (case ggZ4 => k_is)
    (case nwZ4 => k_is)
    (case npZ4 => k_is)
    (case iZ4 => k_is)
    (case tZ4 => k_is)
    (case keZ4 => k_is)
    (case exZ4 => k_is)
    (case tyZ4 => k_is)
    (case hdZ4 => k_is)
    (case icZ4 => k_is)
    (case scZ4 => k_is)
    (case lZ4 => k_is)
    (case cZ4 => k_is)
    (case kZ4 => k_is)
    (case dZ4 => k_is)
    (case uZ3_Z2 => k_is)
    (case uZ4_Z2 => k_is)
    (case uZ4_Z3 => k_is)
