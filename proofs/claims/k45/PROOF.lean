import PyProof.Rows.All
import Wide.All
import OpenK.AllK
import Wide.FinOn
import HandS.ForMost
import HandS.Evl
import HandS.IsInst
import HandS.TupAny
import HandS.SortInts
import HandS.Conv
import HandS.TupLen
import HandS.TupMul
import HandS.Steps
import PyProof.ReprRoads
import PyProof.Rows.RegFStrParts
import HandS.Walk
import HandS.Iter
import HandS.ForExc
import HandS.ExcInit
import HandS.ExcOwn
import HandS.ExcField
import HandS.WordsExc
import HandS.Defaults
import HandS.ExcIs
import KE.KExcIs
import PyProof.RulesMatchSeq
import PyProof.Rows.MatchSeqLen
import PyProof.EqKinds
import PyProof.P3In
import HandS.Deep
import HandS.Property
import HandS.Comp
import HandS.TupLe
import HandS.More
import PySem.Challenge.RW_onlythedirt_k45_whole_equal_stacks_show
set_option Elab.async false
set_option linter.all false
set_option maxRecDepth 100000
set_option maxHeartbeats 4000000
namespace Od
open PySem L2 Evl

/-! ### an object under another description -/
/-- the same objects, the one at a told otherwise -/
structure Swp (P : Program) (w : World) (H' H'' : Hp) (a : Addr) (o u : HO) : Prop where
  at1 : H' a = some o
  eq : H'' = upd H' a u
  nt : ∀ xs, o ≠ .tup xs
  nf : ∀ x y, o ≠ .frz x y
  nb : ∀ ps, o ≠ .tbl ps
  nw : ∀ x, o ≠ .own x
  to : ∀ h, HOk P w H' h → ObjOk P w H'' h a u
theorem Swp.ne {P : Program} {w : World} {H' H'' : Hp} {a b : Addr} {o u x : HO} (S : Swp P w H' H'' a o u) (h : H' b = some x) (d : o ≠ x) : b ≠ a := by
  intro e
  rw [e, S.at1] at h
  exact d (Option.some.inj h)
theorem Swp.hok {P : Program} {w : World} {H' H'' : Hp} {a : Addr} {o u : HO} {h : Heap} (S : Swp P w H' H'' a o u) (k : HOk P w H' h) : HOk P w H'' h := by
  intro b x e
  by_cases hb : b = a
  · subst hb
    have e2 := e
    rw [S.eq, upd_same] at e2
    cases e2
    exact S.to h k
  · have e1 : H' b = some x := by
      rw [S.eq, upd_ne hb] at e
      exact e
    refine (k b x e1).stay (fun c v _ q => q) (fun c q => ?_) (fun c xs q => ?_)
    · rw [S.eq, upd_ne (S.ne q (S.nw _))]
      exact q
    · rw [S.eq, upd_ne (S.ne q (S.nt _))]
      exact q
theorem Swp.unR {P : Program} {w : World} {H H' H'' : Hp} {a : Addr} {o u : HO} {h h' : Heap} {fs ex : List Addr} (S : Swp P w H' H'' a o u) (k : Un fs ex H H' h h') : Un fs ex H H'' h h' := by
  refine ⟨k.keep, k.slot, fun b x q n hx => ?_, k.there, fun b xs q => ?_, fun b x y q => ?_, fun b ps q => ?_⟩
  · have e := k.free b x q n hx
    rw [S.eq, upd_ne ?_]
    · exact e
    · intro z
      rw [z, S.at1] at e
      cases e
  · have e := k.tups b xs q
    rw [S.eq, upd_ne (S.ne e (S.nt _))]
    exact e
  · have e := k.frzs b x y q
    rw [S.eq, upd_ne (S.ne e (S.nf _ _))]
    exact e
  · obtain ⟨m, e⟩ := k.tbls b ps q
    refine ⟨m, ?_⟩
    rw [S.eq, upd_ne (S.ne e (S.nb _))]
    exact e
theorem Swp.unL {P : Program} {w : World} {H H1 H2 : Hp} {a : Addr} {o u : HO} {h h' : Heap} {fs ex : List Addr} (S : Swp P w H H1 a o u) (k : Un fs ex H1 H2 h h') : Un fs ex H H2 h h' := by
  have z : ∀ b, H b = none → H1 b = none := fun b n => by
    rw [S.eq, upd_ne ?_]
    · exact n
    · intro z
      rw [z, S.at1] at n
      cases n
  refine ⟨fun b x q n => k.keep b x q (z b n), fun b x q n => k.slot b x q (z b n), fun b x q n => k.free b x q (z b n), k.there, fun b xs q => k.tups b xs ?_, fun b x y q => k.frzs b x y ?_, fun b ps q => k.tbls b ps ?_⟩
  · rw [S.eq, upd_ne (S.ne q (S.nt _))]
    exact q
  · rw [S.eq, upd_ne (S.ne q (S.nf _ _))]
    exact q
  · rw [S.eq, upd_ne (S.ne q (S.nb _))]
    exact q
theorem Swp.env {P : Program} {w : World} {K : PySem.W.Frag} {mg : Str → Option Value} {base : Heap} {A : Around} {outer : List Env} {s : Shared} {H H1 : Hp} {a : Addr} {o u : HO}
    (S : Swp P w H H1 a o u) (e : Env0 P w K mg base A outer s H) : Env0 P w K mg base A outer s H1 := by
  have z : ∀ b, H b = none → H1 b = none := fun b n => by
    rw [S.eq, upd_ne ?_]
    · exact n
    · intro z
      rw [z, S.at1] at n
      cases n
  exact ⟨e.frames, e.mod, fun b x q => ⟨(e.bs b x q).1, z b (e.bs b x q).2⟩, e.bsz, e.funs, fun b hb => z b (e.frf b hb), S.hok e.hok, e.bare⟩

/-- behind a call the object at a is told otherwise -/
theorem CE.swp {P : Program} {w : World} {outer : List Env} {H : Hp} {s s' : Shared} {Q : VK} {u : Value}
    (h : CE outer P w H s (fun v H' => ∃ H'' a o x, Swp P w H' H'' a o x ∧ Q v H'') u s') : CE outer P w H s Q u s' := by
  obtain ⟨v, H', h1, h2, h3, h4, h5, H'', a, o, x, S, q⟩ := h
  exact ⟨v, H'', h1, h2, S.unR h3, S.hok h4, h5, q⟩
/-- a def's promise, its answer's object told otherwise -/
theorem FnOk.out {P : Program} {w : World} {K : PySem.W.Frag} {mg : Str → Option Value} {base : Heap} {k : Nat} {f : Addr} {fd : FuncData} {ps : List Str} {sp sp' : Sp} (F : FnOk P w K mg base CX0 k f fd ps sp)
    (hl : ∀ vs H Q E, sp' vs H Q E → vs.length = ps.length)
    (h : ∀ vs H Q E, sp' vs H Q E → sp vs H (fun v H' => ∃ H'' a o x, Swp P w H' H'' a o x ∧ Q v H'') E) : FnOk P w K mg base CX0 k f fd ps sp' := by
  refine ⟨hl, fun A outer s H args us vs Q E hr he hb hv hs => ?_⟩
  refine codeAny_mono (F.run A outer s H args us vs _ E hr he hb hv (h _ _ _ _ hs)) ?_
  intro r s' q
  match r, q with
  | .ok (.ret u), q => exact CE.swp q
  | .error e, q => exact q
end Od

namespace Od
open PySem L2 Evl

/-! ### the law's deck: a list whose state is not told -/
def deckV (n k seed : Int) (l : Addr) (c : Int) : List V := [.int n, .int k, .int seed, .ref l, .int c]
def IsDeck (l : Addr) (xs : List V) : Prop := ∃ n k seed c, xs = deckV n k seed l c ∧ 0 ≤ n ∧ 0 ≤ k ∧ 0 ≤ seed ∧ seed < 2147483647
def deckO (a l : Addr) : HO := .ext fun h => ∃ xs, IsDeck l xs ∧ ∃ (its : List Value) (n : Nat), Vals xs its ∧ h.get? a = some { cls := .type "list", data := .seq its.toArray n }
def DeckAt (K : PySem.W.Frag) (H : Hp) (a : Addr) : Prop := ∃ (l : Addr) (ns : List Int), H a = some (deckO a l) ∧ H l = some (.lst (ns.map V.int))
theorem DeckAt.mono {K : PySem.W.Frag} {H H' : Hp} {a : Addr} (e : Ex H H') (h : DeckAt K H a) : DeckAt K H' a := by
  obtain ⟨l, ns, h1, h2⟩ := h
  exact ⟨l, ns, e _ _ h1, e _ _ h2⟩
theorem isDeck_len {l : Addr} {xs : List V} (h : IsDeck l xs) : xs.length ≤ sizeLine := by
  obtain ⟨n, k, seed, c, rfl, _⟩ := h
  show 5 ≤ sizeLine
  decide
theorem deck_ok {P : Program} {w : World} {H : Hp} {h : Heap} {a l : Addr} {xs : List V} (d : IsDeck l xs) (k : ∃ (its : List Value) (n : Nat), Vals xs its ∧ h.get? a = some { cls := .type "list", data := .seq its.toArray n }) :
    ObjOk P w H h a (deckO a l) := by
  obtain ⟨its, n, r, e⟩ := k
  refine ⟨⟨xs, d, its, n, r, e⟩, ⟨_, e⟩, fun h1 h2 p q => ?_⟩
  obtain ⟨ys, d1, its1, n1, r1, e1⟩ := p
  exact ⟨ys, d1, its1, n1, r1, q _ e1⟩
/-- an open deck is closed -/
theorem swp_close {P : Program} {w : World} {H : Hp} {a l : Addr} {xs : List V} (h : H a = some (.lst xs)) (d : IsDeck l xs) : Swp P w H (upd H a (deckO a l)) a (.lst xs) (deckO a l) := by
  refine ⟨h, rfl, fun _ e => (nomatch e), fun _ _ e => (nomatch e), fun _ e => (nomatch e), fun _ e => (nomatch e), fun hp k => ?_⟩
  obtain ⟨_, its, n, r, e⟩ := k a _ h
  exact deck_ok d ⟨its, n, r, e⟩
/-- a closed deck is opened -/
theorem swp_open {P : Program} {w : World} {H : Hp} {h : Heap} {a l : Addr} (ha : H a = some (deckO a l)) (k : HOk P w H h) :
    ∃ xs, IsDeck l xs ∧ HOk P w (upd H a (.lst xs)) h := by
  obtain ⟨⟨xs, d, its, n, r, e⟩, _, _⟩ := k a _ ha
  refine ⟨xs, d, fun b x q => ?_⟩
  by_cases hb : b = a
  · subst hb
    rw [upd_same] at q
    cases q
    exact ⟨isDeck_len d, its, n, r, e⟩
  · rw [upd_ne hb] at q
    refine (k b x q).stay (fun c v _ q => q) (fun c q => ?_) (fun c xs q => ?_)
    · rw [upd_ne ?_]
      · exact q
      · intro z
        rw [z, ha] at q
        cases q
    · rw [upd_ne ?_]
      · exact q
      · intro z
        rw [z, ha] at q
        cases q
theorem un_open {H H2 : Hp} {a l : Addr} {xs : List V} {h h' : Heap} {fs ex : List Addr} (ha : H a = some (deckO a l)) (k : Un fs ex (upd H a (.lst xs)) H2 h h') : Un fs ex H H2 h h' := by
  have z : ∀ b, H b = none → upd H a (.lst xs) b = none := fun b n => by
    rw [upd_ne ?_]
    · exact n
    · intro z
      rw [z, ha] at n
      cases n
  refine ⟨fun b x q n => k.keep b x q (z b n), fun b x q n => k.slot b x q (z b n), fun b x q n => k.free b x q (z b n), k.there, fun b xs q => k.tups b xs ?_, fun b x y q => k.frzs b x y ?_, fun b ps q => k.tbls b ps ?_⟩
  · rw [upd_ne (ne_of q ha (fun e => nomatch e))]
    exact q
  · rw [upd_ne (ne_of q ha (fun e => nomatch e))]
    exact q
  · rw [upd_ne (ne_of q ha (fun e => nomatch e))]
    exact q
theorem env_open {P : Program} {w : World} {K : PySem.W.Frag} {mg : Str → Option Value} {base : Heap} {A : Around} {outer : List Env} {s : Shared} {H : Hp} {a l : Addr} {xs : List V} (ha : H a = some (deckO a l))
    (e : Env0 P w K mg base A outer s H) (hok : HOk P w (upd H a (.lst xs)) s.heap) : Env0 P w K mg base A outer s (upd H a (.lst xs)) := by
  have z : ∀ b, H b = none → upd H a (.lst xs) b = none := fun b n => by
    rw [upd_ne ?_]
    · exact n
    · intro z
      rw [z, ha] at n
      cases n
  exact ⟨e.frames, e.mod, fun b x q => ⟨(e.bs b x q).1, z b (e.bs b x q).2⟩, e.bsz, e.funs, fun b hb => z b (e.frf b hb), hok, e.bare⟩

/-- how a def that changes the open deck is told: n with 0 ≤ n < b -/
def spDrawO : Sp := fun vs H Q _ => ∃ (a : Addr) (b : Int) (l : Addr) (ns : List Int) (xs : List V), vs = [.ref a, .int b] ∧ H a = some (.lst xs) ∧ IsDeck l xs ∧ H l = some (.lst (ns.map V.int)) ∧ l ≠ a ∧ 0 < b ∧ b < 1073741824 ∧
  ∀ n ys, 0 ≤ n → n < b → IsDeck l ys → Q (.int n) (upd H a (.lst ys))
/-- .. the closed one -/
def spDraw (K : PySem.W.Frag) : Sp := fun vs H Q _ => ∃ a b, vs = [.ref a, .int b] ∧ DeckAt K H a ∧ 0 < b ∧ b < 1073741824 ∧ ∀ n, 0 ≤ n → n < b → Q (.int n) H
theorem upd_back {H : Hp} {a : Addr} {o u : HO} (h : H a = some o) : upd (upd H a u) a o = H := by
  funext b
  unfold upd
  by_cases e : b = a
  · simp [e, h]
  · simp [e]
theorem draw_closed {P : Program} {w : World} {K : PySem.W.Frag} {mg : Str → Option Value} {base : Heap} {k : Nat} {f : Addr} {fd : FuncData} {ps : List Str} (F : FnOk P w K mg base CX0 k f fd ps spDrawO) (hp : ps.length = 2) :
    FnOk P w K mg base CX0 k f fd ps (spDraw K) := by
  refine ⟨fun vs H Q E h => ?_, fun A outer s H args us vs Q E hr he hb hv hs => ?_⟩
  · obtain ⟨a, b, rfl, _⟩ := h
    exact hp.symm
  · obtain ⟨a, b, rfl, ⟨l, ns, h1, h2⟩, b0, b1, q⟩ := hs
    obtain ⟨xs, d, hok⟩ := swp_open h1 he.hok
    have hla : l ≠ a := ne_of h2 h1 (fun e => nomatch e)
    refine codeAny_mono (F.run A outer s (upd H a (.lst xs)) args us _ (fun v H' => ∃ ys, H' = upd H a (.lst ys) ∧ IsDeck l ys ∧ Q v H) E hr (env_open h1 he hok) hb hv ?_) ?_
    · refine ⟨a, b, l, ns, xs, rfl, upd_same, d, by rw [upd_ne hla]; exact h2, hla, b0, b1, fun n ys n0 n1 d2 => ⟨ys, ?_, d2, q n n0 n1⟩⟩
      rw [upd_upd]
    · intro r s' q2
      match r, q2 with
      | .ok (.ret u), q2 =>
        obtain ⟨v, H', c1, c2, c3, c4, c5, ys, rfl, d2, q3⟩ := q2
        have S := swp_close (P := P) (w := w) (H := upd H a (.lst ys)) (a := a) (l := l) upd_same d2
        have e := upd_back (u := .lst ys) h1
        rw [e] at S
        exact ⟨v, H, c1, c2, un_open h1 (S.unR c3), S.hok c4, c5, q3⟩
      | .error e, q2 => exact q2
/-- the def that makes the deck: open, closed -/
def spDeckO (K : PySem.W.Frag) : Sp := fun vs H Q _ => ∃ (a : Addr) (ns : List Int), vs = [.ref a] ∧ SqL K H a (ns.map V.int) ∧ ns.length ≤ 63 ∧ ∀ p l ys H', H p = none → Ex H H' → H' p = some (.lst ys) → IsDeck l ys → l ≠ p → H' l = some (.lst (ns.map V.int)) → Q (.ref p) H'
def spDeck (K : PySem.W.Frag) : Sp := fun vs H Q _ => ∃ (a : Addr) (ns : List Int), vs = [.ref a] ∧ SqL K H a (ns.map V.int) ∧ ns.length ≤ 63 ∧ ∀ p H', Ex H H' → DeckAt K H' p → Q (.ref p) H'
theorem deck_closed {P : Program} {w : World} {K : PySem.W.Frag} {mg : Str → Option Value} {base : Heap} {k : Nat} {f : Addr} {fd : FuncData} {ps : List Str} (F : FnOk P w K mg base CX0 k f fd ps (spDeckO K)) (hp : ps.length = 1) :
    FnOk P w K mg base CX0 k f fd ps (spDeck K) := by
  refine FnOk.out F (fun vs H Q E h => ?_) fun vs H Q E h => ?_
  · obtain ⟨a, ns, rfl, _⟩ := h
    exact hp.symm
  · obtain ⟨a, ns, rfl, h1, h2, q⟩ := h
    refine ⟨a, ns, rfl, h1, h2, fun p l ys H' hp e hy d hl h3 => ⟨upd H' p (deckO p l), p, .lst ys, deckO p l, swp_close hy d, q p _ ?_ ⟨l, ns, upd_same, by rw [upd_ne hl]; exact h3⟩⟩⟩
    exact Ex.mut e hp
end Od

namespace Od
open PySem L2 Evl

/-! ### what kind a value is -/
inductive Kn (H : Hp) : V → String → Prop
  | non : Kn H .non "NoneType"
  | bl (b : Bool) : Kn H (.bl b) "bool"
  | int (i : Int) : Kn H (.int i) "int"
  | str (x : Str) : Kn H (.str x) "str"
  | tup {a : Addr} {xs : List V} (h : H a = some (.tup xs)) : Kn H (.ref a) "tuple"
  | lst {a : Addr} {xs : List V} (h : H a = some (.lst xs)) : Kn H (.ref a) "list"
theorem Kn.mono {H H' : Hp} {v : V} {T : String} (e : Ex H H') (k : Kn H v T) : Kn H' v T := by
  cases k with
  | non => exact .non
  | bl b => exact .bl b
  | int i => exact .int i
  | str x => exact .str x
  | tup h => exact .tup (e _ _ h)
  | lst h => exact .lst (e _ _ h)
theorem Kn.ty {K : PySem.W.Frag} {H : Hp} {v : V} {T : String} (k : Kn H v T) : TyX K H v (.type T) := by
  cases k with
  | non => exact .base .non
  | bl b => exact .base (.bl b)
  | int i => exact .base (.int i)
  | str x => exact .base (.str x)
  | tup h => exact .base (.tup h)
  | lst h => exact .base (.lst h)
/-- isinstance of such a value -/
def isA (T n : String) : Bool := T == n || (T == "bool" && n == "int")
theorem kit_int {H : Hp} {v : V} {T : String} (k : Kn H v T) : kitB T "int" = some (isA T "int") := by
  cases k <;> decide +kernel
theorem kit_bool {H : Hp} {v : V} {T : String} (k : Kn H v T) : kitB T "bool" = some (isA T "bool") := by
  cases k <;> decide +kernel
theorem kit_tuple {H : Hp} {v : V} {T : String} (k : Kn H v T) : kitB T "tuple" = some (isA T "tuple") := by
  cases k <;> decide +kernel
theorem kit_list {H : Hp} {v : V} {T : String} (k : Kn H v T) : kitB T "list" = some (isA T "list") := by
  cases k <;> decide +kernel
theorem kit_str {H : Hp} {v : V} {T : String} (k : Kn H v T) : kitB T "str" = some (isA T "str") := by
  cases k <;> decide +kernel
theorem isi {K : PySem.W.Frag} {H : Hp} {v : V} {T n : String} {b : Bool} {Q : VK} (k : Kn H v T) (h : kitB T n = some b) (q : Q (.bl b) H) : rIsi K [v, .ty n] H Q :=
  ⟨v, _, _, _, b, rfl, .ty n, k.ty, kit_ty h, q⟩
def isI : V → Bool
  | .int _ => true
  | _ => false
theorem Kn.whole {H : Hp} {v : V} {T : String} (k : Kn H v T) : (isA T "int" && !isA T "bool") = isI v := by
  have h1 : (isA "NoneType" "int" && !isA "NoneType" "bool") = false := by decide +kernel
  have h2 : (isA "bool" "int" && !isA "bool" "bool") = false := by decide +kernel
  have h3 : (isA "int" "int" && !isA "int" "bool") = true := by decide +kernel
  have h4 : (isA "str" "int" && !isA "str" "bool") = false := by decide +kernel
  have h5 : (isA "tuple" "int" && !isA "tuple" "bool") = false := by decide +kernel
  have h6 : (isA "list" "int" && !isA "list" "bool") = false := by decide +kernel
  cases k with
  | non => exact h1
  | bl b => exact h2
  | int i => exact h3
  | str x => exact h4
  | tup h => exact h5
  | lst h => exact h6

/-- a comprehension's turn without a test -/
theorem lcY {σ : L2.St} {H : Hp} {A B : Hp → Prop} (h : A H) : tYes σ H (fun b H3 => if b = true then A H3 else B H3) := by
  show if true = true then A H else B H
  exact iteT h
/-- a def that is called: where it stands, what it promises -/
structure Def (P : Program) (w : World) (K : PySem.W.Frag) (mg : Str → Option Value) (base : Heap) (CX : CXT) (x : Str) (k : Nat) (ps : List Str) (sp : Sp) where
  f : Addr
  fd : FuncData
  ok : FnOk P w K mg base CX k f fd ps sp
  mgf : mg x = some (.ref f)
  kp : PySem.W.keepIn K (.ref f) = true
  b : L2.Binds K fd ps []
end Od

namespace Od
open PySem L2 Evl

theorem bt_isinstance : bootBuiltins "isinstance" = some (.builtin "isinstance") := by decide +kernel
theorem bt_len : bootBuiltins "len" = some (.builtin "len") := by decide +kernel
theorem bt_abs : bootBuiltins "abs" = some (.builtin "abs") := by decide +kernel
theorem bt_all : bootBuiltins "all" = some (.builtin "all") := by decide +kernel
theorem bt_any : bootBuiltins "any" = some (.builtin "any") := by decide +kernel
theorem bt_sorted : bootBuiltins "sorted" = some (.builtin "sorted") := by decide +kernel
theorem bt_min : bootBuiltins "min" = some (.builtin "min") := by decide +kernel
theorem bt_max : bootBuiltins "max" = some (.builtin "max") := by decide +kernel
theorem bt_sum : bootBuiltins "sum" = some (.builtin "sum") := by decide +kernel
theorem bt_repr : bootBuiltins "repr" = some (.builtin "repr") := by decide +kernel
theorem bt_int : bootBuiltins "int" = some (.type "int") := by decide +kernel
theorem bt_bool : bootBuiltins "bool" = some (.type "bool") := by decide +kernel
theorem bt_tuple : bootBuiltins "tuple" = some (.type "tuple") := by decide +kernel
theorem bt_list : bootBuiltins "list" = some (.type "list") := by decide +kernel
theorem bt_str : bootBuiltins "str" = some (.type "str") := by decide +kernel
theorem bt_range : bootBuiltins "range" = some (.type "range") := by decide +kernel
theorem bt_enumerate : bootBuiltins "enumerate" = some (.type "enumerate") := by decide +kernel
theorem bt_zip : bootBuiltins "zip" = some (.type "zip") := by decide +kernel
theorem bt_ValueError : bootBuiltins "ValueError" = some (.type "ValueError") := by decide +kernel
theorem pickV {xs : List V} {i : Int} (h0 : 0 ≤ i) (h1 : i < xs.length) : ∃ v, v ∈ xs ∧ atI xs i = some v := by
  obtain ⟨m, rfl⟩ := Int.eq_ofNat_of_zero_le h0
  have hm : m < xs.length := by omega
  exact ⟨xs[m], List.getElem_mem hm, atI_nat (List.getElem?_eq_getElem hm)⟩
theorem pickI {ns : List Int} {i : Int} (h0 : 0 ≤ i) (h1 : i < ns.length) : ∃ w, w ∈ ns ∧ atI (ns.map V.int) i = some (.int w) := by
  obtain ⟨m, rfl⟩ := Int.eq_ofNat_of_zero_le h0
  have hm : m < ns.length := by omega
  exact ⟨ns[m], List.getElem_mem hm, atI_nat (by rw [List.getElem?_map, List.getElem?_eq_getElem hm]; rfl)⟩
theorem ex_free {H H' : Hp} {p : Addr} (e : Ex H H') (h : H' p = none) : H p = none := fresh_back e h
/-- a rectangle of ints stands at p -/
def RectAt (H : Hp) (p : Addr) (l t r b : Int) : Prop := H p = some (.tup [.int l, .int t, .int r, .int b])
theorem cutV_whole {xs : List V} {lo hi : Option Int} (h : HT.sIx xs.length 0 lo = 0 ∧ HT.sIx xs.length xs.length hi = xs.length) : cutV xs lo hi = xs := by
  unfold cutV
  rw [h.1, h.2]
  simp
structure RSlS (K : PySem.W.Frag) (x : V) (lo hi : Option Int) (H : Hp) (Q : VK) : Prop where
  h : rSlA K x lo hi H Q
structure RCatS (K : PySem.W.Frag) (x y : V) (H : Hp) (Q : VK) : Prop where
  h : rCatA K x y H Q
theorem slA {K : PySem.W.Frag} {H : Hp} {a : Addr} {xs : List V} {lo hi : Option Int} {Q : VK} (h : H a = some (.tup xs)) (q : ∀ p H', Ex H H' → H' p = some (.tup (cutV xs lo hi)) → Q (.ref p) H') : RSlS K (.ref a) lo hi H Q := by
  refine .mk ?_
  refine ⟨a, xs, rfl, SqT.of h, fun hw => ?_, fun _ p hp => q p _ (Ex.new hp) upd_same⟩
  refine q a H (Ex.refl _) ?_
  rw [cutV_whole hw]
  exact h
theorem catA {K : PySem.W.Frag} {H : Hp} {a b : Addr} {xs ys : List V} {Q : VK} (h : H a = some (.tup xs)) (h' : H b = some (.tup ys)) (hl : xs.length + ys.length ≤ sizeLine) (q : ∀ p H', Ex H H' → H' p = some (.tup (xs ++ ys)) → Q (.ref p) H') : RCatS K (.ref a) (.ref b) H Q := by
  refine .mk ?_
  refine ⟨a, b, xs, ys, rfl, rfl, SqT.of h, SqT.of h', hl, fun e => ?_, fun _ e => ?_, fun _ _ p hp => q p _ (Ex.new hp) upd_same⟩
  · refine q b H (Ex.refl _) ?_
    rw [e]
    exact h'
  · refine q a H (Ex.refl _) ?_
    rw [e, List.append_nil]
    exact h
theorem mem_cutV {xs : List V} {lo hi : Option Int} {x : V} (h : x ∈ cutV xs lo hi) : x ∈ xs := List.mem_of_mem_drop (List.mem_of_mem_take h)
end Od

namespace Od
open PySem L2 Evl
/-! ### the rules with the written part told -/
section
variable {X : Cx} (K : PySem.W.Frag)
theorem kisi (h : X.K = K := by rfl) : CallR X (.builtin "isinstance") (rIsi K) := by
  subst h
  exact call_isi
theorem kixL (h : X.K = K := by rfl) : IxR X (rIxL K) := by
  subst h
  exact ix_list
theorem kixT (h : X.K = K := by rfl) : IxR X (rIxT K) := by
  subst h
  exact ix_tup
theorem kixS (h : X.K = K := by rfl) : IxR X (rIx K) := by
  subst h
  exact ix_seq
theorem kslL (h : X.K = K := by rfl) : SlR X (rSlL K) := by
  subst h
  exact sl_list
theorem kslA (h : X.K = K := by rfl) : SlR X (RSlS K) := by
  subst h
  exact fun pins s σ H x v vl vu lo hi sl Q I r hs pl pu q => sl_tupA pins s σ H x v vl vu lo hi sl Q I r hs pl pu q.h
theorem kcatA (h : X.K = K := by rfl) : OpR X (binaryOp .Add) (RCatS K) := by
  subst h
  exact fun pins s σ H x y v u Q I rx ry q => op_catA pins s σ H x y v u Q I rx ry q.h
theorem krepT (h : X.K = K := by rfl) : OpR X (binaryOp .Mult) (rRepT K) := by
  subst h
  exact op_repT
theorem keqD (hu : X.A.units + 64 < cLine) (h : X.K = K := by rfl) : OpR X (compareOp .Eq) (rEqD K) := by
  subst h
  exact op_eqD hu
theorem kneD (hu : X.A.units + 64 < cLine) (h : X.K = K := by rfl) : OpR X (compareOp .NotEq) (rNeD K) := by
  subst h
  exact op_neD hu
theorem kin (h : X.K = K := by rfl) : OpR X (compareOp .In) (rIn K false) := by
  subst h
  exact op_in_seq
theorem knotin (h : X.K = K := by rfl) : OpR X (compareOp .NotIn) (rIn K true) := by
  subst h
  exact op_notIn_seq
theorem klen (h : X.K = K := by rfl) : CallR X (.builtin "len") (rLenS K) := by
  subst h
  exact call_len_seq
theorem klist (h : X.K = K := by rfl) : CallR X (.type "list") (rListS K) := by
  subst h
  exact call_list_of
def rTupS (K : PySem.W.Frag) : List V → Hp → VK → Prop := fun xs H Q => ∃ p ys, xs = [.ref p] ∧ ((SqL K H p ys ∧ ∀ l, H l = none → Q (.ref l) (upd H l (.tup ys))) ∨ (SqT K H p ys ∧ Q (.ref p) H))
theorem ktuple (h : X.K = K := by rfl) : CallR X (.type "tuple") (rTupS K) := by
  subst h
  exact call_tuple_of
theorem ksum (hc : X.calm = true) (h : X.K = K := by rfl) : CallR X (.builtin "sum") (rSum K) := by
  subst h
  exact cr_sum hc
theorem kmax (hc : X.calm = true) (h : X.K = K := by rfl) : CallR X (.builtin "max") (rMax K) := by
  subst h
  exact cr_max hc
theorem kmin (hc : X.calm = true) (h : X.K = K := by rfl) : CallR X (.builtin "min") (rMin K) := by
  subst h
  exact cr_min hc
theorem kall (hc : X.calm = true) (h : X.K = K := by rfl) : CallR X (.builtin "all") (rAll K) := by
  subst h
  exact cr_all hc
theorem kany (hc : X.calm = true) (h : X.K = K := by rfl) : CallR X (.builtin "any") (rAny K) := by
  subst h
  exact cr_any hc
theorem ksorted (h : X.K = K := by rfl) : CallR X (.builtin "sorted") (rSortedI K) := by
  subst h
  exact cr_sortedI
variable {tg : Expr}
theorem kpiL {l : Expr} {tl : TE} (hl : PE X l tl) (h : X.K = K := by rfl) : PI X tg l (iList K tl) := by
  subst h
  exact pi_list hl
theorem kpiT {l : Expr} {tl : TE} (hl : PE X l tl) (h : X.K = K := by rfl) : PI X tg l (iTup K tl) := by
  subst h
  exact pi_tup hl
theorem kpgT {es : List Expr} {k : Nat} {t : TGs} {n : Nat} {pos : Pos} (hc : X.calm = true) (hh : PGs X es t) (hn : (assignEach es X.env).length = n := by rfl) (hst : (assignEach es X.env).findIdx? (·.1) = none := by rfl) (h : X.K = K := by rfl) : PG X (.Tuple es k pos) (gTup K n t) := by
  subst h
  exact pg_tup hc hh hn hst
theorem ktru {a : Expr} {ta : TE} (ha : PE X a ta) (he : ∀ whole, isTrue a X.env whole = (do let v ← whole; standAt a.pos; holding [v] (truthy v)) := by intro _; rfl) (h : X.K = K := by rfl) : PT X a (L2.tTru K ta) := by
  subst h
  exact pt_truth ha he
end
end Od

namespace Od
open PySem L2 Evl

/-! ### tuples stay -/
def TK (H H' : Hp) : Prop := ∀ a xs, H a = some (.tup xs) → H' a = some (.tup xs)
theorem TK.refl (H : Hp) : TK H H := fun _ _ h => h
theorem TK.trans {H H1 H2 : Hp} (a : TK H H1) (b : TK H1 H2) : TK H H2 := fun x o h => b x o (a x o h)
theorem TK.ex {H H' : Hp} (e : Ex H H') : TK H H' := fun a xs h => e a _ h
theorem TK.lst {H : Hp} {p : Addr} {xs : List V} {o : HO} (h : H p = some (.lst xs)) : TK H (upd H p o) := fun a ys h' => by
  rw [upd_ne]
  · exact h'
  · intro e
    rw [e, h] at h'
    cases h'
theorem TK.dT {H : Hp} {p : Addr} {xs : List (List Key × V)} {o : HO} (h : H p = some (.dT xs)) : TK H (upd H p o) := fun a ys h' => by
  rw [upd_ne]
  · exact h'
  · intro e
    rw [e, h] at h'
    cases h'
theorem TK.dK {H : Hp} {p : Addr} {xs : List (Key × V)} {o : HO} (h : H p = some (.dK xs)) : TK H (upd H p o) := fun a ys h' => by
  rw [upd_ne]
  · exact h'
  · intro e
    rw [e, h] at h'
    cases h'
theorem TK.fresh {H : Hp} {p : Addr} {o : HO} (h : H p = none) : TK H (upd H p o) := TK.ex (Ex.new h)

/-! ### lists of pairs, of rectangles -/
abbrev Pt := Int × Int
structure Rc where
  l : Int
  t : Int
  r : Int
  b : Int
  deriving DecidableEq
def PtV (H : Hp) (v : V) (q : Pt) : Prop := ∃ p, v = .ref p ∧ H p = some (.tup [.int q.1, .int q.2])
def RcV (H : Hp) (v : V) (q : Rc) : Prop := ∃ p, v = .ref p ∧ H p = some (.tup [.int q.l, .int q.t, .int q.r, .int q.b])
theorem PtV.tk {H H' : Hp} {v : V} {q : Pt} (e : TK H H') (h : PtV H v q) : PtV H' v q := by
  obtain ⟨p, rfl, h⟩ := h
  exact ⟨p, rfl, e _ _ h⟩
theorem RcV.tk {H H' : Hp} {v : V} {q : Rc} (e : TK H H') (h : RcV H v q) : RcV H' v q := by
  obtain ⟨p, rfl, h⟩ := h
  exact ⟨p, rfl, e _ _ h⟩
abbrev RcsV (H : Hp) : List V → List Rc → Prop := Paired (RcV H)
abbrev PtsV (H : Hp) : List V → List Pt → Prop := Paired (PtV H)
theorem RcsV.tk {H H' : Hp} {vs : List V} {qs : List Rc} (e : TK H H') (h : RcsV H vs qs) : RcsV H' vs qs := Paired.mapP h fun _ _ => RcV.tk e
theorem PtsV.tk {H H' : Hp} {vs : List V} {qs : List Pt} (e : TK H H') (h : PtsV H vs qs) : PtsV H' vs qs := Paired.mapP h fun _ _ => PtV.tk e
theorem pr_get {α β : Type} {G : α → β → Prop} : ∀ {l₁ : List α} {l₂ : List β}, Paired G l₁ l₂ → ∀ {i : Nat} {a : α}, l₁[i]? = some a → ∃ b, l₂[i]? = some b ∧ G a b
  | _, _, .nil, i, a, h => by simp at h
  | _, _, .cons r t, 0, a, h => by
    simp at h
    subst h
    exact ⟨_, rfl, r⟩
  | _, _, .cons r t, i + 1, a, h => by
    obtain ⟨b, h1, h2⟩ := pr_get t (i := i) (a := a) (by simpa using h)
    exact ⟨b, by simpa using h1, h2⟩
theorem pr_getR {α β : Type} {G : α → β → Prop} : ∀ {l₁ : List α} {l₂ : List β}, Paired G l₁ l₂ → ∀ {i : Nat} {b : β}, l₂[i]? = some b → ∃ a, l₁[i]? = some a ∧ G a b
  | _, _, .nil, i, a, h => by simp at h
  | _, _, .cons r t, 0, a, h => by
    simp at h
    subst h
    exact ⟨_, rfl, r⟩
  | _, _, .cons r t, i + 1, a, h => by
    obtain ⟨b, h1, h2⟩ := pr_getR t (i := i) (b := a) (by simpa using h)
    exact ⟨b, by simpa using h1, h2⟩
theorem pr_append {α β : Type} {G : α → β → Prop} : ∀ {l₁ k₁ : List α} {l₂ k₂ : List β}, Paired G l₁ l₂ → Paired G k₁ k₂ → Paired G (l₁ ++ k₁) (l₂ ++ k₂)
  | _, _, _, _, .nil, h => h
  | _, _, _, _, .cons r t, h => .cons r (pr_append t h)
/-- an item of a list of rectangles at an index that lies in it -/
theorem pickR {H : Hp} {vs : List V} {qs : List Rc} (h : RcsV H vs qs) {i : Int} (h0 : 0 ≤ i) (h1 : i < vs.length) : ∃ p q, q ∈ qs ∧ atI vs i = some (.ref p) ∧ H p = some (.tup [.int q.l, .int q.t, .int q.r, .int q.b]) := by
  obtain ⟨m, rfl⟩ := Int.eq_ofNat_of_zero_le h0
  have hm : m < vs.length := by omega
  obtain ⟨q, hq, p, e, hp⟩ := pr_get h (List.getElem?_eq_getElem hm)
  exact ⟨p, q, List.mem_of_getElem? hq, by rw [← e]; exact atI_nat (List.getElem?_eq_getElem hm), hp⟩
/-- the bounds of drawn rectangles -/
def Small (m : Int) (q : Rc) : Prop := q.l < q.r ∧ q.t < q.b ∧ q.r - q.l ≤ 50 ∧ q.b - q.t ≤ 50 ∧ -m ≤ q.l ∧ q.r ≤ m ∧ -m ≤ q.t ∧ q.b ≤ m
theorem Small.mono {m n : Int} {q : Rc} (h : Small m q) (e : m ≤ n) : Small n q := by
  obtain ⟨a, b, c, d, e1, e2, e3, e4⟩ := h
  refine ⟨a, b, c, d, ?_, ?_, ?_, ?_⟩ <;> omega
theorem sline {n : Nat} (h : n ≤ 1000000) : n ≤ sizeLine := Nat.le_trans h (by decide)
theorem slineL {n : Nat} (h : n < 1000000) : n < sizeLine := Nat.lt_of_lt_of_le h (by decide)
end Od

namespace Od
open PySem L2 Evl

/-! ### a dict of points -/
def ptK (q : Pt) : List Key := [.inl q.1, .inl q.2]
def mkd (pts : List Pt) : List (List Key × V) := pts.map fun q => (ptK q, V.bl true)
theorem ptK_inj {a b : Pt} (h : ptK a = ptK b) : a = b := by
  unfold ptK at h
  injection h with h1 h2
  injection h2 with h2 _
  injection h1 with h1
  injection h2 with h2
  exact Prod.ext h1 h2
theorem ptK_dec (a b : Pt) : decide (ptK a = ptK b) = decide (a = b) := by
  by_cases e : a = b
  · rw [e, decide_eq_true rfl, decide_eq_true rfl]
  · rw [decide_eq_false e, decide_eq_false fun z => e (ptK_inj z)]
theorem mkd_any (pts : List Pt) (q : Pt) : ((mkd pts).any fun kv => decide (kv.1 = ptK q)) = decide (q ∈ pts) := by
  unfold mkd
  rw [List.any_map]
  induction pts with
  | nil => simp
  | cons p r ih =>
    rw [List.any_cons, ih]
    show (decide (ptK p = ptK q) || decide (q ∈ r)) = decide (q ∈ p :: r)
    rw [ptK_dec]
    by_cases h1 : p = q
    · simp [h1]
    · by_cases h2 : q ∈ r
      · simp [h2]
      · have : ¬ q = p := fun e => h1 e.symm
        simp [h1, h2, this]
theorem mkd_put (pts : List Pt) (q : Pt) : putK (mkd pts) (ptK q) (V.bl true) = mkd (if q ∈ pts then pts else pts ++ [q]) := by
  unfold putK
  rw [mkd_any]
  by_cases h : q ∈ pts
  · rw [if_pos h, decide_eq_true h, if_pos rfl]
    unfold mkd
    rw [List.map_map]
    refine List.map_congr_left fun p _ => ?_
    show (if ptK p = ptK q then (ptK p, V.bl true) else (ptK p, V.bl true)) = (ptK p, V.bl true)
    split <;> rfl
  · rw [if_neg h, decide_eq_false h, if_neg Bool.false_ne_true]
    unfold mkd
    rw [List.map_append]
    rfl
theorem mkd_val (pts : List Pt) (q : Pt) : (valV (mkd pts) (ptK q)).isSome = decide (q ∈ pts) := by
  rw [← valV_any, mkd_any]
def addP (pts : List Pt) (q : Pt) : List Pt := if q ∈ pts then pts else pts ++ [q]
theorem mem_addP {pts : List Pt} {q p : Pt} : p ∈ addP pts q ↔ p ∈ pts ∨ p = q := by
  unfold addP
  split
  · rename_i h
    constructor
    · exact .inl
    · rintro (h1 | rfl)
      · exact h1
      · exact h
  · simp
theorem nodup_addP {pts : List Pt} {q : Pt} (h : pts.Nodup) : (addP pts q).Nodup := by
  unfold addP
  split
  · exact h
  · rename_i hn
    rw [List.nodup_append]
    refine ⟨h, by simp, fun a ha b hb => ?_⟩
    rw [List.mem_singleton.mp hb]
    intro e
    rw [e] at ha
    exact hn ha
theorem len_addP (pts : List Pt) (q : Pt) : (addP pts q).length ≤ pts.length + 1 := by
  unfold addP
  split
  · omega
  · simp
theorem mkd_len (pts : List Pt) : (mkd pts).length = pts.length := by
  unfold mkd
  rw [List.length_map]
def inRc (q : Rc) (x y : Int) : Prop := q.l ≤ x ∧ x < q.r ∧ q.t ≤ y ∧ y < q.b
theorem mem_take_succ {α : Type} {l : List α} {i : Nat} {a x : α} (h : l[i]? = some a) : x ∈ l.take (i + 1) ↔ x ∈ l.take i ∨ x = a := by
  rw [List.take_add_one, h]
  simp
end Od

namespace Od

/-! ### runs -/
def RunsFrom : Int → List Pt → Prop
  | _, [] => True
  | b, q :: t => b < q.1 ∧ q.1 < q.2 ∧ RunsFrom q.2 t
def inRuns (rs : List Pt) (x : Int) : Prop := ∃ q ∈ rs, q.1 ≤ x ∧ x < q.2
theorem RunsFrom.mono {b c : Int} {rs : List Pt} (h : RunsFrom b rs) (e : c ≤ b) : RunsFrom c rs := by
  cases rs with
  | nil => trivial
  | cons q t => exact ⟨by have := h.1; omega, h.2.1, h.2.2⟩
theorem RunsFrom.lt {b : Int} : ∀ {rs : List Pt} {b : Int} {x : Int}, RunsFrom b rs → inRuns rs x → b < x
  | [], _, _, _, ⟨_, h, _⟩ => by simp at h
  | q :: t, b, x, h, ⟨p, hp, h1, h2⟩ => by
    rcases List.mem_cons.mp hp with rfl | hp
    · have := h.1
      omega
    · have := RunsFrom.lt (b := b) h.2.2 ⟨p, hp, h1, h2⟩
      have := h.1
      have := h.2.1
      omega
theorem inRuns_cons {q : Pt} {t : List Pt} {x : Int} : inRuns (q :: t) x ↔ (q.1 ≤ x ∧ x < q.2) ∨ inRuns t x := by
  constructor
  · rintro ⟨p, hp, h⟩
    rcases List.mem_cons.mp hp with rfl | hp
    · exact .inl h
    · exact .inr ⟨p, hp, h⟩
  · rintro (h | ⟨p, hp, h⟩)
    · exact ⟨q, by simp, h⟩
    · exact ⟨p, by simp [hp], h⟩
theorem inRuns_nil {x : Int} : ¬ inRuns [] x := fun ⟨_, h, _⟩ => by simp at h
theorem RunsFrom.some {b : Int} {q : Pt} {t : List Pt} (h : RunsFrom b (q :: t)) : inRuns (q :: t) q.1 := inRuns_cons.mpr (.inl ⟨by omega, h.2.1⟩)
theorem runs_uniq : ∀ {rs ss : List Pt} {b c : Int}, RunsFrom b rs → RunsFrom c ss → (∀ x, inRuns rs x ↔ inRuns ss x) → rs = ss
  | [], [], _, _, _, _, _ => rfl
  | [], q :: t, _, _, _, h, e => absurd ((e q.1).mpr h.some) inRuns_nil
  | q :: t, [], _, _, h, _, e => absurd ((e q.1).mp h.some) inRuns_nil
  | q :: t, p :: u, b, c, h, k, e => by
    have e1 : q.1 = p.1 := by
      have h1 := (e q.1).mp h.some
      have k1 := (e p.1).mpr k.some
      have h2 : p.1 ≤ q.1 := by
        rcases inRuns_cons.mp h1 with z | z
        · omega
        · have := RunsFrom.lt (b := b) k.2.2 z
          have := k.2.1
          omega
      have k2 : q.1 ≤ p.1 := by
        rcases inRuns_cons.mp k1 with z | z
        · omega
        · have := RunsFrom.lt (b := b) h.2.2 z
          have := h.2.1
          omega
      omega
    have hq := h.2.1
    have kp := k.2.1
    have e2 : q.2 = p.2 := by
      rcases Int.lt_trichotomy q.2 p.2 with z | z | z
      · exfalso
        have h1 : inRuns (p :: u) q.2 := inRuns_cons.mpr (.inl ⟨by omega, z⟩)
        rcases inRuns_cons.mp ((e q.2).mpr h1) with y | y
        · omega
        · have := RunsFrom.lt (b := b) h.2.2 y
          omega
      · exact z
      · exfalso
        have h1 : inRuns (q :: t) p.2 := inRuns_cons.mpr (.inl ⟨by omega, z⟩)
        rcases inRuns_cons.mp ((e p.2).mp h1) with y | y
        · omega
        · have := RunsFrom.lt (b := b) k.2.2 y
          omega
    have eq : q = p := Prod.ext e1 e2
    subst eq
    have et : t = u := runs_uniq h.2.2 k.2.2 fun x => by
      constructor
      · intro z
        have := RunsFrom.lt (b := b) h.2.2 z
        rcases inRuns_cons.mp ((e x).mp (inRuns_cons.mpr (.inr z))) with y | y
        · omega
        · exact y
      · intro z
        have := RunsFrom.lt (b := b) k.2.2 z
        rcases inRuns_cons.mp ((e x).mpr (inRuns_cons.mpr (.inr z))) with y | y
        · omega
        · exact y
    rw [et]
def RunsOk (rs : List Pt) : Prop := ∃ b, RunsFrom b rs

/-! ### bands -/
structure Bd where
  t : Int
  b : Int
  rs : List Pt
  deriving DecidableEq
def BandsFrom : Int → List Pt → List Bd → Prop
  | _, _, [] => True
  | y, prev, d :: t => y ≤ d.t ∧ (y = d.t → prev ≠ d.rs) ∧ d.t < d.b ∧ d.rs ≠ [] ∧ RunsOk d.rs ∧ BandsFrom d.b d.rs t
def inBands (bs : List Bd) (x y : Int) : Prop := ∃ d ∈ bs, d.t ≤ y ∧ y < d.b ∧ inRuns d.rs x
theorem inBands_nil {x y : Int} : ¬ inBands [] x y := fun ⟨_, h, _⟩ => by simp at h
theorem inBands_cons {d : Bd} {t : List Bd} {x y : Int} : inBands (d :: t) x y ↔ (d.t ≤ y ∧ y < d.b ∧ inRuns d.rs x) ∨ inBands t x y := by
  constructor
  · rintro ⟨p, hp, h⟩
    rcases List.mem_cons.mp hp with rfl | hp
    · exact .inl h
    · exact .inr ⟨p, hp, h⟩
  · rintro (h | ⟨p, hp, h⟩)
    · exact ⟨d, by simp, h⟩
    · exact ⟨p, by simp [hp], h⟩
theorem BandsFrom.le : ∀ {bs : List Bd} {y : Int} {p : List Pt} {x y' : Int}, BandsFrom y p bs → inBands bs x y' → y ≤ y'
  | [], _, _, _, _, _, h => absurd h inBands_nil
  | d :: t, y, p, x, y', h, k => by
    rcases inBands_cons.mp k with z | z
    · have := h.1
      omega
    · have := BandsFrom.le h.2.2.2.2.2 z
      have := h.1
      have := h.2.2.1
      omega
theorem BandsFrom.mono {bs : List Bd} {y y' : Int} (h : BandsFrom y [] bs) (e : y' ≤ y) : BandsFrom y' [] bs := by
  cases bs with
  | nil => trivial
  | cons d t => exact ⟨by have := h.1; omega, fun _ => fun z => h.2.2.2.1 z.symm, h.2.2⟩
/-- the rows of the first band, the rows behind it -/
theorem BandsFrom.row {d : Bd} {t : List Bd} {y : Int} {p : List Pt} (h : BandsFrom y p (d :: t)) {x y' : Int} (h1 : d.t ≤ y') (h2 : y' < d.b) : inBands (d :: t) x y' ↔ inRuns d.rs x := by
  rw [inBands_cons]
  constructor
  · rintro (z | z)
    · exact z.2.2
    · have := BandsFrom.le h.2.2.2.2.2 z
      omega
  · exact fun z => .inl ⟨h1, h2, z⟩
theorem BandsFrom.behind {d : Bd} {t : List Bd} {x y' : Int} (h2 : d.b ≤ y') : inBands (d :: t) x y' ↔ inBands t x y' := by
  rw [inBands_cons]
  constructor
  · rintro (z | z)
    · omega
    · exact z
  · exact .inr
theorem runs_some {rs : List Pt} (h : RunsOk rs) (n : rs ≠ []) : ∃ x, inRuns rs x := by
  obtain ⟨b, h⟩ := h
  cases rs with
  | nil => exact absurd rfl n
  | cons q t => exact ⟨_, h.some⟩
theorem runsOk_uniq {rs ss : List Pt} (h : RunsOk rs) (k : RunsOk ss) (e : ∀ x, inRuns rs x ↔ inRuns ss x) : rs = ss := by
  obtain ⟨b, h⟩ := h
  obtain ⟨c, k⟩ := k
  exact runs_uniq h k e
/-- a band can't end where another description of the same set goes on -/
theorem no_end {d c : Bd} {t u : List Bd} {y : Int} {p : List Pt} (h : BandsFrom y p (d :: t)) (k : BandsFrom y p (c :: u)) (e : ∀ x y', inBands (d :: t) x y' ↔ inBands (c :: u) x y') (et : d.t = c.t) (er : d.rs = c.rs) (hl : d.b < c.b) : False := by
  have hdb := h.2.2.1
  have row : ∀ x, inBands t x d.b ↔ inRuns c.rs x := fun x => by
    rw [← BandsFrom.behind (d := d) (t := t) (Int.le_refl _), e, k.row (by omega) hl]
  obtain ⟨x0, hx0⟩ := runs_some k.2.2.2.2.1 k.2.2.2.1
  cases t with
  | nil => exact inBands_nil ((row x0).mpr hx0)
  | cons d2 t2 =>
    have h2 := h.2.2.2.2.2
    have hle := h2.1
    by_cases z : d.b = d2.t
    · have er2 : d2.rs = c.rs := runsOk_uniq h2.2.2.2.2.1 k.2.2.2.2.1 fun x => by
        rw [← row x, h2.row (by omega) (by have := h2.2.2.1; omega)]
      exact h2.2.1 z (er.trans er2.symm)
    · have m := (row x0).mpr hx0
      have h3 : BandsFrom d2.t [] (d2 :: t2) := ⟨by omega, fun _ w => h2.2.2.2.1 w.symm, h2.2.2⟩
      have := BandsFrom.le h3 m
      omega
theorem bands_uniq : ∀ {bs cs : List Bd} {y : Int} {p : List Pt}, BandsFrom y p bs → BandsFrom y p cs → (∀ x y', inBands bs x y' ↔ inBands cs x y') → bs = cs
  | [], [], _, _, _, _, _ => rfl
  | [], c :: u, _, _, _, k, e => by
    obtain ⟨x0, hx0⟩ := runs_some k.2.2.2.2.1 k.2.2.2.1
    exact absurd ((e x0 c.t).mpr ((k.row (by omega) k.2.2.1).mpr hx0)) inBands_nil
  | d :: t, [], _, _, h, _, e => by
    obtain ⟨x0, hx0⟩ := runs_some h.2.2.2.2.1 h.2.2.2.1
    exact absurd ((e x0 d.t).mp ((h.row (by omega) h.2.2.1).mpr hx0)) inBands_nil
  | d :: t, c :: u, y, p, h, k, e => by
    have first : ∀ {d c : Bd} {t u : List Bd}, BandsFrom y p (d :: t) → BandsFrom y p (c :: u) → (∀ x y', inBands (d :: t) x y' ↔ inBands (c :: u) x y') → c.t ≤ d.t := by
      intro d c t u h k e
      obtain ⟨x0, hx0⟩ := runs_some h.2.2.2.2.1 h.2.2.2.1
      have m := (e x0 d.t).mp ((h.row (by omega) h.2.2.1).mpr hx0)
      have k2 : BandsFrom c.t [] (c :: u) := ⟨by omega, fun _ w => k.2.2.2.1 w.symm, k.2.2⟩
      exact BandsFrom.le k2 m
    have et : d.t = c.t := by
      have := first h k e
      have := first k h fun x y => (e x y).symm
      omega
    have er : d.rs = c.rs := runsOk_uniq h.2.2.2.2.1 k.2.2.2.2.1 fun x => by
      rw [← h.row (x := x) (y' := d.t) (by omega) h.2.2.1, e, k.row (by omega) (by have := k.2.2.1; omega)]
    have eb : d.b = c.b := by
      rcases Int.lt_trichotomy d.b c.b with z | z | z
      · exact (no_end h k e et er z).elim
      · exact z
      · exact (no_end k h (fun x y => (e x y).symm) et.symm er.symm z).elim
    have ed : d = c := by
      cases d
      cases c
      simp only at et er eb
      rw [et, er, eb]
    subst ed
    rw [bands_uniq h.2.2.2.2.2 k.2.2.2.2.2 fun x y' => ?_]
    by_cases z : d.b ≤ y'
    · rw [← BandsFrom.behind (d := d) (t := t) z, e, BandsFrom.behind z]
    · constructor
      · intro m
        have := BandsFrom.le h.2.2.2.2.2 m
        omega
      · intro m
        have := BandsFrom.le k.2.2.2.2.2 m
        omega

/-! ### the written form -/
def bandRc (d : Bd) : List Rc := d.rs.map fun q => ⟨q.1, d.t, q.2, d.b⟩
def formOf (bs : List Bd) : List Rc := bs.flatMap bandRc
def IsForm (S : Int → Int → Prop) (f : List Rc) : Prop := ∃ y bs, BandsFrom y [] bs ∧ (∀ x y', inBands bs x y' ↔ S x y') ∧ f = formOf bs
theorem form_uniq {S S' : Int → Int → Prop} {f g : List Rc} (h : IsForm S f) (k : IsForm S' g) (e : ∀ x y, S x y ↔ S' x y) : f = g := by
  obtain ⟨y, bs, h1, h2, rfl⟩ := h
  obtain ⟨z, cs, k1, k2, rfl⟩ := k
  rw [bands_uniq (h1.mono (Int.min_le_left y z)) (k1.mono (Int.min_le_right y z)) fun x y' => by rw [h2, k2, e]]
theorem mem_form {bs : List Bd} {x y : Int} : inBands bs x y ↔ ∃ q ∈ formOf bs, inRc q x y := by
  constructor
  · rintro ⟨d, hd, h1, h2, q, hq, h3, h4⟩
    exact ⟨⟨q.1, d.t, q.2, d.b⟩, List.mem_flatMap.mpr ⟨d, hd, List.mem_map.mpr ⟨q, hq, rfl⟩⟩, h3, h4, h1, h2⟩
  · rintro ⟨r, hr, h1, h2, h3, h4⟩
    obtain ⟨d, hd, hr⟩ := List.mem_flatMap.mp hr
    obtain ⟨q, hq, rfl⟩ := List.mem_map.mp hr
    exact ⟨d, hd, h3, h4, q, hq, h1, h2⟩
theorem IsForm.mem {S : Int → Int → Prop} {f : List Rc} (h : IsForm S f) (x y : Int) : S x y ↔ ∃ q ∈ f, inRc q x y := by
  obtain ⟨_, bs, _, h2, rfl⟩ := h
  rw [← h2, mem_form]
end Od

namespace Od
open PySem L2 Evl

/-! ### data: ints in tuples, in lists -/
def intD (ns : List Int) : PyData := .tuple (ns.map PyData.int)
def Eqs (α : Type) [DecidableEq α] (f : α → PyData) (d : Nat) : Prop := (∀ x y, PyData.eqv (f x) (f y) = decide (x = y)) ∧ (∀ x, (f x).canLay0 = true) ∧ ∀ x, (f x).depth ≤ d
theorem eqvAll_map {α : Type} [DecidableEq α] {f : α → PyData} (h : ∀ x y, PyData.eqv (f x) (f y) = decide (x = y)) : ∀ xs ys : List α, PyData.eqvAll (xs.map f) (ys.map f) = decide (xs = ys)
  | [], [] => by simp [PyData.eqvAll]
  | [], y :: ys => by simp [PyData.eqvAll]
  | x :: xs, [] => by simp [PyData.eqvAll]
  | x :: xs, y :: ys => by
    rw [List.map_cons, List.map_cons, PyData.eqvAll, h, eqvAll_map h xs ys]
    by_cases e : x = y <;> by_cases e2 : xs = ys <;> simp [e, e2]
theorem canLay_map {α : Type} {f : α → PyData} (h : ∀ x, (f x).canLay0 = true) : ∀ xs : List α, PyData.canLayAll0 (xs.map f) = true
  | [] => by simp [PyData.canLayAll0]
  | x :: xs => by
    rw [List.map_cons, PyData.canLayAll0, h, canLay_map h xs]
    rfl
theorem depth_map {α : Type} {f : α → PyData} {d : Nat} (h : ∀ x, (f x).depth ≤ d) : ∀ xs : List α, PyData.depthAll (xs.map f) ≤ d
  | [] => by simp [PyData.depthAll]
  | x :: xs => by
    rw [List.map_cons, PyData.depthAll]
    exact Nat.max_le.mpr ⟨h x, depth_map h xs⟩
theorem eqs_int : Eqs Int PyData.int 0 := ⟨fun x y => by rw [PyData.eqv]; by_cases e : x = y <;> simp [e], fun x => by simp [PyData.canLay0], fun x => by simp [PyData.depth]⟩
theorem Eqs.lst {α : Type} [DecidableEq α] {f : α → PyData} {d : Nat} (h : Eqs α f d) : Eqs (List α) (fun xs => .list (xs.map f)) (d + 1) :=
  ⟨fun x y => by rw [PyData.eqv, eqvAll_map h.1], fun x => by simp only [PyData.canLay0]; exact canLay_map h.2.1 x, fun x => by simp only [PyData.depth]; have := depth_map h.2.2 x; omega⟩
theorem Eqs.tup {α : Type} [DecidableEq α] {f : α → PyData} {d : Nat} (h : Eqs α f d) : Eqs (List α) (fun xs => .tuple (xs.map f)) (d + 1) :=
  ⟨fun x y => by rw [PyData.eqv, eqvAll_map h.1], fun x => by simp only [PyData.canLay0]; exact canLay_map h.2.1 x, fun x => by simp only [PyData.depth]; have := depth_map h.2.2 x; omega⟩
theorem Eqs.via {α β : Type} [DecidableEq α] [DecidableEq β] {f : α → PyData} {d : Nat} (h : Eqs α f d) (g : β → α) (inj : ∀ x y, g x = g y → x = y) : Eqs β (fun x => f (g x)) d :=
  ⟨fun x y => by
    rw [h.1]
    by_cases e : x = y
    · rw [e, decide_eq_true rfl, decide_eq_true rfl]
    · rw [decide_eq_false e, decide_eq_false fun z => e (inj _ _ z)], fun x => h.2.1 _, fun x => h.2.2 _⟩
theorem Eqs.shaped {α : Type} [DecidableEq α] {f : α → PyData} {d : Nat} (h : Eqs α f d) (hd : d ≤ 64) (x : α) : SeqAt.shaped (f x) = true := by
  unfold SeqAt.shaped
  rw [h.2.1 x, decide_eq_true (Nat.le_trans (h.2.2 x) hd)]
  rfl
def ptD (q : Pt) : PyData := intD [q.1, q.2]
def rcD (q : Rc) : PyData := intD [q.l, q.t, q.r, q.b]
theorem eqs_pt : Eqs Pt ptD 1 := eqs_int.tup.via (fun q : Pt => [q.1, q.2]) fun x y e => by
  injection e with e1 e2
  injection e2 with e2 _
  exact Prod.ext e1 e2
theorem eqs_rc : Eqs Rc rcD 1 := eqs_int.tup.via (fun q : Rc => [q.l, q.t, q.r, q.b]) fun x y e => by
  injection e with e1 e
  injection e with e2 e
  injection e with e3 e
  injection e with e4 _
  cases x
  cases y
  simp only at e1 e2 e3 e4
  rw [e1, e2, e3, e4]
def ptsD (qs : List Pt) : PyData := .list (qs.map ptD)
def rcsD (qs : List Rc) : PyData := .list (qs.map rcD)
theorem eqs_pts : Eqs (List Pt) ptsD 2 := eqs_pt.lst
theorem eqs_rcs : Eqs (List Rc) rcsD 2 := eqs_rc.lst
theorem dp_ints {K : PySem.W.Frag} {H : Hp} : ∀ ns : List Int, DpAll K H (ns.map V.int) (ns.map PyData.int)
  | [] => .nil
  | n :: ns => .cons (.int n) (dp_ints ns)
theorem dp_tup {K : PySem.W.Frag} {H : Hp} {a : Addr} {ns : List Int} (h : H a = some (.tup (ns.map V.int))) : Dp K H (.ref a) (intD ns) := .tup (SqT.of h) (dp_ints ns)
theorem PtV.dp {K : PySem.W.Frag} {H : Hp} {v : V} {q : Pt} (h : PtV H v q) : Dp K H v (ptD q) := by
  obtain ⟨p, rfl, h⟩ := h
  exact dp_tup (ns := [q.1, q.2]) h
theorem RcV.dp {K : PySem.W.Frag} {H : Hp} {v : V} {q : Rc} (h : RcV H v q) : Dp K H v (rcD q) := by
  obtain ⟨p, rfl, h⟩ := h
  exact dp_tup (ns := [q.l, q.t, q.r, q.b]) h
theorem dp_all {α : Type} {K : PySem.W.Frag} {H : Hp} {G : V → α → Prop} {f : α → PyData} (h : ∀ v x, G v x → Dp K H v (f x)) : ∀ {vs : List V} {xs : List α}, Paired G vs xs → DpAll K H vs (xs.map f)
  | _, _, .nil => .nil
  | _, _, .cons r t => .cons (h _ _ r) (dp_all h t)
theorem dp_pts {K : PySem.W.Frag} {H : Hp} {a : Addr} {us : List V} {qs : List Pt} (h : SqL K H a us) (r : PtsV H us qs) : Dp K H (.ref a) (ptsD qs) := .lst h (dp_all (fun _ _ z => PtV.dp z) r)
theorem dp_rcs {K : PySem.W.Frag} {H : Hp} {a : Addr} {us : List V} {qs : List Rc} (h : SqL K H a us) (r : RcsV H us qs) : Dp K H (.ref a) (rcsD qs) := .lst h (dp_all (fun _ _ z => RcV.dp z) r)

/-! ### walking a dict with tuple keys -/
theorem ex_unlock {H H' : Hp} {d : Addr} {od : Obj} {u : HO} (h : H d = some u) (e : Ex (upd H d (.frz od u)) H') : Ex H (upd H' d u) := fun b o hb => by
  by_cases z : b = d
  · rw [z] at hb ⊢
    rw [h] at hb
    rw [upd_same]
    exact hb
  · rw [upd_ne z]
    exact e b o (by rw [upd_ne z]; exact hb)
theorem lc_keysT {d : Addr} {o : Obj} {kvs : List (List Key × V)} {g : TG} {tt : TT} {te : TE} {vs : List Nat} {σ : L2.St} {H1 : Hp} {D : Addr} {Qd : Hp → Prop} (Pv : Nat → Hp → Prop) (h0 : Pv 0 (upd H1 D (.lst []))) (hl : ∀ i H, i ≤ kvs.length → Pv i H → H d = some (.frz o (.dT kvs)))
    (hs : ∀ i k v q H, kvs[i]? = some (k, v) → H q = some (.tup (k.map kV)) → Pv i H → g (.ref q) (wipe σ vs) H fun σ2 H2 => wipe σ2 vs = wipe σ vs ∧ tt σ2 H2 fun b H3 =>
      if b = true then te σ2 H3 fun y H4 => ∃ acc, H4 D = some (.lst acc) ∧ acc.length < sizeLine ∧ Pv (i + 1) (upd H4 D (.lst (acc ++ [y]))) else Pv (i + 1) H3) (hd : ∀ H, Pv kvs.length H → Qd H) :
    ∃ Wk : Nat → Nat → Hp → Prop, (∃ n, Wk 0 n (upd H1 D (.lst []))) ∧ ∀ i n G, Wk i n G →
      ((Itkt d o kvs).stop i G ∧ Qd G) ∨ ((Itkt d o kvs).go i G ∧ ∃ Go : Hp → Prop, (∀ G', Go G' → ∃ n', n' < n ∧ Wk (i + 1) n' G') ∧ ∀ x G', (Itkt d o kvs).yld i G x G' → g x (wipe σ vs) G' fun σ2 G2 => wipe σ2 vs = wipe σ vs ∧ tt σ2 G2 fun b G3 =>
        if b = true then te σ2 G3 fun y G4 => ∃ made, G4 D = some (.lst made) ∧ made.length < sizeLine ∧ Go (upd G4 D (.lst (made ++ [y]))) else Go G3) := by
  refine ⟨fun i m H => m = kvs.length - i ∧ i ≤ kvs.length ∧ Pv i H, ⟨kvs.length, by simp, Nat.zero_le _, h0⟩, ?_⟩
  rintro i m H ⟨rfl, hi, p⟩
  have q := hl i H hi p
  by_cases hlt : i < kvs.length
  · refine .inr ⟨⟨q, hlt⟩, Pv (i + 1), fun H' p' => ⟨kvs.length - (i + 1), by omega, rfl, hlt, p'⟩, fun x H' y => ?_⟩
    obtain ⟨e, k, v, qa, e1, e2, e3⟩ := y
    subst e e2
    exact hs i k v qa _ e1 e3 p
  · have e : i = kvs.length := by omega
    subst e
    exact .inl ⟨⟨q, Nat.le_refl _⟩, hd H p⟩
theorem for_keysT {d : Addr} {o : Obj} {kvs : List (List Key × V)} {g : TG} {tb : TS} {D : Ends} {σ : L2.St} {H : Hp} (Pv : Nat → L2.St → Hp → Prop) (h0 : Pv 0 σ H) (hl : ∀ i σ H, i ≤ kvs.length → Pv i σ H → H d = some (.frz o (.dT kvs)))
    (hs : ∀ i k v q σ H, kvs[i]? = some (k, v) → H q = some (.tup (k.map kV)) → Pv i σ H → g (.ref q) σ H fun σ2 H2 => tb { D with nx := Pv (i + 1), ct := Pv (i + 1), bk := D.nx } σ2 H2) (hd : ∀ σ H, Pv kvs.length σ H → D.nx σ H) :
    ∃ Wk : Nat → Nat → L2.St → Hp → Prop, (∃ n, Wk 0 n σ H) ∧ ∀ i n τ G, Wk i n τ G →
      ((Itkt d o kvs).stop i G ∧ D.nx τ G) ∨ ((Itkt d o kvs).go i G ∧ ∃ Go : L2.St → Hp → Prop, (∀ τ' G', Go τ' G' → ∃ n', n' < n ∧ Wk (i + 1) n' τ' G') ∧ ∀ x G', (Itkt d o kvs).yld i G x G' → g x τ G' fun τ2 G2 => tb { D with nx := Go, ct := Go, bk := D.nx } τ2 G2) := by
  refine ⟨fun i m σ H => m = kvs.length - i ∧ i ≤ kvs.length ∧ Pv i σ H, ⟨kvs.length, by simp, Nat.zero_le _, h0⟩, ?_⟩
  rintro i m σ H ⟨rfl, hi, p⟩
  have q := hl i σ H hi p
  by_cases hlt : i < kvs.length
  · refine .inr ⟨⟨q, hlt⟩, Pv (i + 1), fun σ' H' p' => ⟨kvs.length - (i + 1), by omega, rfl, hlt, p'⟩, fun x H' y => ?_⟩
    obtain ⟨e, k, v, qa, e1, e2, e3⟩ := y
    subst e e2
    exact hs i k v qa σ _ e1 e3 p
  · have e : i = kvs.length := by omega
    subst e
    exact .inl ⟨⟨q, Nat.le_refl _⟩, hd σ H p⟩
theorem mkd_get {pts : List Pt} {i : Nat} {k : List Key} {v : V} (h : (mkd pts)[i]? = some (k, v)) : ∃ q, pts[i]? = some q ∧ k = ptK q := by
  unfold mkd at h
  rw [List.getElem?_map] at h
  cases e : pts[i]? with
  | none =>
    rw [e] at h
    cases h
  | some q =>
    rw [e] at h
    cases h
    exact ⟨q, rfl, rfl⟩

/-! ### runs from the ascending ints of a row -/
theorem runs_snoc : ∀ {rs : List Pt} {b x : Int}, RunsFrom b rs → (∀ q ∈ rs, q.2 < x) → b < x → RunsFrom b (rs ++ [(x, x + 1)])
  | [], b, x, _, _, h => ⟨h, by show x < x + 1; omega, trivial⟩
  | q :: t, b, x, h, k, _ => ⟨h.1, h.2.1, runs_snoc h.2.2 (fun p hp => k p (by simp [hp])) (k q (by simp))⟩
theorem runs_ext : ∀ {rs : List Pt} {b l r r' : Int}, RunsFrom b (rs ++ [(l, r)]) → r ≤ r' → RunsFrom b (rs ++ [(l, r')])
  | [], b, l, r, r', h, k => ⟨h.1, by have h2 : l < r := h.2.1; show l < r'; omega, trivial⟩
  | q :: t, b, l, r, r', h, k => ⟨h.1, h.2.1, runs_ext h.2.2 k⟩
theorem RunsOk.nil : RunsOk [] := ⟨0, trivial⟩
theorem runsOk_snoc {rs : List Pt} {x : Int} (h : RunsOk rs) (k : ∀ q ∈ rs, q.2 < x) : RunsOk (rs ++ [(x, x + 1)]) := by
  obtain ⟨b, h⟩ := h
  cases rs with
  | nil => exact ⟨x - 1, by omega, by show x < x + 1; omega, trivial⟩
  | cons q t =>
    refine ⟨b, runs_snoc h k ?_⟩
    have h1 : b < q.1 := h.1
    have h2 : q.1 < q.2 := h.2.1
    have h3 := k q (by simp)
    omega
theorem inRuns_app {rs ss : List Pt} {x : Int} : inRuns (rs ++ ss) x ↔ inRuns rs x ∨ inRuns ss x := by
  unfold inRuns
  constructor
  · rintro ⟨q, hq, h⟩
    rcases List.mem_append.mp hq with z | z
    · exact .inl ⟨q, z, h⟩
    · exact .inr ⟨q, z, h⟩
  · rintro (⟨q, hq, h⟩ | ⟨q, hq, h⟩)
    · exact ⟨q, List.mem_append.mpr (.inl hq), h⟩
    · exact ⟨q, List.mem_append.mpr (.inr hq), h⟩
theorem inRuns_one {l r x : Int} : inRuns [(l, r)] x ↔ l ≤ x ∧ x < r := by
  rw [inRuns_cons]
  constructor
  · rintro (h | h)
    · exact h
    · exact absurd h inRuns_nil
  · exact .inl
theorem RunsFrom.wide : ∀ {rs : List Pt} {b : Int}, RunsFrom b rs → ∀ q ∈ rs, q.1 < q.2
  | [], _, _, q, h => by simp at h
  | p :: t, b, h, q, hq => by
    rcases List.mem_cons.mp hq with rfl | hq
    · exact h.2.1
    · exact RunsFrom.wide h.2.2 q hq
/-- what a row's runs say of the ends -/
theorem ends_le {rs : List Pt} {pre : List Int} {x : Int} (h : RunsOk rs) (m : ∀ z, inRuns rs z ↔ z ∈ pre) (k : ∀ z ∈ pre, z < x) : ∀ q ∈ rs, q.2 ≤ x := by
  intro q hq
  obtain ⟨b, h⟩ := h
  have w := h.wide q hq
  have := k (q.2 - 1) ((m _).mp ⟨q, hq, by omega, by omega⟩)
  omega
end Od

namespace Od
open PySem L2 Evl

/-! ### a dict whose keys are ints -/
def mki (ys : List Int) : List (Key × V) := ys.map fun y => (Sum.inl y, V.bl true)
theorem mki_any (ys : List Int) (y : Int) : ((mki ys).any fun kv => decide (kv.1 = Sum.inl y)) = decide (y ∈ ys) := by
  unfold mki
  rw [List.any_map]
  induction ys with
  | nil => simp
  | cons p r ih =>
    rw [List.any_cons, ih]
    show (decide ((Sum.inl p : Key) = Sum.inl y) || decide (y ∈ r)) = decide (y ∈ p :: r)
    by_cases h1 : p = y
    · simp [h1]
    · have h3 : ¬ (Sum.inl p : Key) = Sum.inl y := fun e => h1 (Sum.inl.inj e)
      have : ¬ y = p := fun e => h1 e.symm
      simp [h1, this]
def addI (ys : List Int) (y : Int) : List Int := if y ∈ ys then ys else ys ++ [y]
theorem mki_put (ys : List Int) (y : Int) : putK (mki ys) (Sum.inl y) (V.bl true) = mki (addI ys y) := by
  unfold putK addI
  rw [mki_any]
  by_cases h : y ∈ ys
  · rw [if_pos h, decide_eq_true h, if_pos rfl]
    unfold mki
    rw [List.map_map]
    refine List.map_congr_left fun p _ => ?_
    show (if (Sum.inl p : Key) = Sum.inl y then ((Sum.inl p : Key), V.bl true) else (Sum.inl p, V.bl true)) = (Sum.inl p, V.bl true)
    split <;> rfl
  · rw [if_neg h, decide_eq_false h, if_neg Bool.false_ne_true]
    unfold mki
    rw [List.map_append]
    rfl
theorem mem_addI {ys : List Int} {y z : Int} : z ∈ addI ys y ↔ z ∈ ys ∨ z = y := by
  unfold addI
  split
  · rename_i h
    constructor
    · exact .inl
    · rintro (h1 | rfl)
      · exact h1
      · exact h
  · simp
theorem nodup_addI {ys : List Int} {y : Int} (h : ys.Nodup) : (addI ys y).Nodup := by
  unfold addI
  split
  · exact h
  · rename_i hn
    rw [List.nodup_append]
    refine ⟨h, by simp, fun a ha b hb => ?_⟩
    rw [List.mem_singleton.mp hb]
    intro e
    rw [e] at ha
    exact hn ha
theorem len_addI (ys : List Int) (y : Int) : (addI ys y).length ≤ ys.length + 1 := by
  unfold addI
  split
  · omega
  · simp
theorem mki_len (ys : List Int) : (mki ys).length = ys.length := by
  unfold mki
  rw [List.length_map]
theorem mki_keys (ys : List Int) : (mki ys).map (fun kv => kV kv.1) = ys.map V.int := by
  unfold mki
  rw [List.map_map]
  rfl

/-! ### how many runs there are -/
theorem sum_zero {α : Type} (f : α → Nat) : ∀ l : List α, (∀ x ∈ l, f x = 0) → (l.map f).sum = 0
  | [], _ => rfl
  | x :: l, h => by
    rw [List.map_cons, List.sum_cons, h x (by simp), sum_zero f l fun y hy => h y (by simp [hy])]
theorem ones_le : ∀ {ys : List Int} (a : Int), ys.Nodup → (ys.map fun y => if a == y then 1 else 0).sum ≤ 1
  | [], _, _ => by simp
  | y :: ys, a, h => by
    rw [List.map_cons, List.sum_cons]
    rw [List.nodup_cons] at h
    by_cases e : a = y
    · have z : (ys.map fun y => if a == y then 1 else 0).sum = 0 := by
        refine sum_zero _ _ fun w hw => ?_
        have : ¬ a = w := fun e2 => h.1 (by rw [← e, e2]; exact hw)
        simp [this]
      rw [z]
      simp [e]
    · have := ones_le a h.2
      simp [e]
      simpa using this
theorem sum_add {α : Type} (f g : α → Nat) : ∀ l : List α, (l.map fun x => f x + g x).sum = (l.map f).sum + (l.map g).sum
  | [] => rfl
  | x :: l => by
    rw [List.map_cons, List.map_cons, List.map_cons, List.sum_cons, List.sum_cons, List.sum_cons, sum_add f g l]
    omega
theorem sum_rows {ys : List Int} (h : ys.Nodup) : ∀ pts : List Pt, (ys.map fun y => (pts.filter fun z => z.2 == y).length).sum ≤ pts.length
  | [] => by
    rw [sum_zero (fun y => (List.filter (fun z : Pt => z.snd == y) []).length) ys fun w _ => rfl]
    simp
  | p :: ps => by
    have ih := sum_rows h ps
    have o := ones_le p.2 h
    have e : (ys.map fun y => ((p :: ps).filter fun z => z.2 == y).length) = ys.map fun y => (if p.2 == y then 1 else 0) + (ps.filter fun z => z.2 == y).length := by
      refine List.map_congr_left fun y _ => ?_
      rw [List.filter_cons]
      split <;> simp <;> omega
    rw [e, sum_add, List.length_cons]
    omega
theorem sum_take {ys : List Int} (f : Int → Nat) : ∀ (i : Nat), ((ys.take i).map f).sum ≤ (ys.map f).sum := fun i => by
  have := List.take_append_drop i ys
  have e : ys.map f = (ys.take i).map f ++ (ys.drop i).map f := by rw [← List.map_append, this]
  rw [e, List.sum_append]
  omega

/-! ### bands, one row more -/
def BandsOk (bs : List Bd) : Prop := ∃ y, BandsFrom y [] bs
theorem bands_snoc : ∀ {bs : List Bd} {y0 : Int} {p : List Pt} {y : Int} {rs : List Pt}, BandsFrom y0 p bs → (∀ d, bs.getLast? = some d → d.b ≤ y ∧ (d.b = y → d.rs ≠ rs)) → (bs = [] → y0 ≤ y ∧ (y0 = y → p ≠ rs)) → rs ≠ [] → RunsOk rs →
    BandsFrom y0 p (bs ++ [⟨y, y + 1, rs⟩])
  | [], y0, p, y, rs, _, _, h3, h4, h5 => ⟨(h3 rfl).1, (h3 rfl).2, by show y < y + 1; omega, h4, h5, trivial⟩
  | [d], y0, p, y, rs, h, h2, _, h4, h5 => by
    have k := h2 d rfl
    exact ⟨h.1, h.2.1, h.2.2.1, h.2.2.2.1, h.2.2.2.2.1, k.1, k.2, by show y < y + 1; omega, h4, h5, trivial⟩
  | d :: d2 :: t, y0, p, y, rs, h, h2, _, h4, h5 => by
    have ih := bands_snoc (bs := d2 :: t) (y := y) (rs := rs) h.2.2.2.2.2 (fun e he => h2 e (by rw [List.getLast?_cons_cons]; exact he)) (fun e => by cases e) h4 h5
    exact ⟨h.1, h.2.1, h.2.2.1, h.2.2.2.1, h.2.2.2.2.1, ih⟩
theorem bands_ext : ∀ {bs : List Bd} {y0 : Int} {p : List Pt} {d : Bd} {b : Int}, BandsFrom y0 p (bs ++ [d]) → d.b ≤ b → BandsFrom y0 p (bs ++ [⟨d.t, b, d.rs⟩])
  | [], y0, p, d, b, h, k => ⟨h.1, h.2.1, by have := h.2.2.1; show d.t < b; omega, h.2.2.2.1, h.2.2.2.2.1, trivial⟩
  | c :: t, y0, p, d, b, h, k => ⟨h.1, h.2.1, h.2.2.1, h.2.2.2.1, h.2.2.2.2.1, bands_ext h.2.2.2.2.2 k⟩
theorem BandsFrom.each : ∀ {bs : List Bd} {y0 : Int} {p : List Pt}, BandsFrom y0 p bs → ∀ d ∈ bs, d.t < d.b ∧ d.rs ≠ [] ∧ RunsOk d.rs
  | [], _, _, _, d, h => by simp at h
  | c :: t, y0, p, h, d, hd => by
    rcases List.mem_cons.mp hd with rfl | hd
    · exact ⟨h.2.2.1, h.2.2.2.1, h.2.2.2.2.1⟩
    · exact BandsFrom.each h.2.2.2.2.2 d hd
theorem inBands_app {bs cs : List Bd} {x y : Int} : inBands (bs ++ cs) x y ↔ inBands bs x y ∨ inBands cs x y := by
  unfold inBands
  constructor
  · rintro ⟨q, hq, h⟩
    rcases List.mem_append.mp hq with z | z
    · exact .inl ⟨q, z, h⟩
    · exact .inr ⟨q, z, h⟩
  · rintro (⟨q, hq, h⟩ | ⟨q, hq, h⟩)
    · exact ⟨q, List.mem_append.mpr (.inl hq), h⟩
    · exact ⟨q, List.mem_append.mpr (.inr hq), h⟩
theorem inBands_one {d : Bd} {x y : Int} : inBands [d] x y ↔ d.t ≤ y ∧ y < d.b ∧ inRuns d.rs x := by
  rw [inBands_cons]
  constructor
  · rintro (h | h)
    · exact h
    · exact absurd h inBands_nil
  · exact .inl
theorem formOf_app (bs cs : List Bd) : formOf (bs ++ cs) = formOf bs ++ formOf cs := by
  unfold formOf
  rw [List.flatMap_append]
theorem formOf_one (d : Bd) : formOf [d] = bandRc d := by
  unfold formOf
  simp
theorem bandRc_len (d : Bd) : (bandRc d).length = d.rs.length := by
  unfold bandRc
  rw [List.length_map]

/-! ### bands in the heap; pb: the list that holds them -/
def BdV (pb : Addr) (H : Hp) (v : V) (d : Bd) : Prop := ∃ q r us, v = .ref q ∧ q ≠ pb ∧ r ≠ pb ∧ H q = some (.tup [.int d.t, .int d.b, .ref r]) ∧ H r = some (.lst us) ∧ PtsV H us d.rs
def Xb (pb : Addr) (H H' : Hp) : Prop := ∀ a o, a ≠ pb → H a = some o → H' a = some o
theorem BdV.to {pb : Addr} {H H' : Hp} {v : V} {d : Bd} (k : TK H H') (x : Xb pb H H') (h : BdV pb H v d) : BdV pb H' v d := by
  obtain ⟨q, r, us, rfl, nq, nr, h1, h2, h3⟩ := h
  exact ⟨q, r, us, rfl, nq, nr, x _ _ nq h1, x _ _ nr h2, h3.tk k⟩
theorem Xb.ex {pb : Addr} {H H' : Hp} (e : Ex H H') : Xb pb H H' := fun a o _ h => e a o h
theorem Xb.upd {pb : Addr} {H : Hp} {o : HO} : Xb pb H (upd H pb o) := fun a u n h => by rw [upd_ne n]; exact h
theorem Xb.trans {pb : Addr} {H H1 H2 : Hp} (a : Xb pb H H1) (b : Xb pb H1 H2) : Xb pb H H2 := fun x o n h => b x o n (a x o n h)
theorem pr_split {α β : Type} {G : α → β → Prop} : ∀ {l₁ : List α} {l₂ : List β} {a : α} {b : β}, Paired G (l₁ ++ [a]) (l₂ ++ [b]) → Paired G l₁ l₂ ∧ G a b
  | [], [], _, _, .cons h .nil => ⟨.nil, h⟩
  | [], [_], _, _, .cons _ t => nomatch t
  | [], _ :: _ :: _, _, _, .cons _ t => nomatch t
  | [_], [], _, _, .cons _ t => nomatch t
  | _ :: _ :: _, [], _, _, .cons _ t => nomatch t
  | c :: t, c2 :: t2, _, _, .cons h1 h2 => by
    have ih := pr_split (l₁ := t) (l₂ := t2) h2
    exact ⟨.cons h1 ih.1, ih.2⟩
theorem ixN_last (n : Nat) : ixN (n + 1) (-1) = some n := by
  unfold ixN
  rw [if_neg (by decide), if_pos (by omega)]
  congr 1
  omega
/-! ### points told as a dict's keys or as a list's items -/
def SrcAt (K : PySem.W.Frag) (H : Hp) (d : Addr) (pts : List Pt) : Prop := H d = some (.dT (mkd pts)) ∨ ∃ us, SqL K H d us ∧ PtsV H us pts
theorem SrcAt.mono {K : PySem.W.Frag} {H H' : Hp} {d : Addr} {pts : List Pt} (e : Ex H H') (h : SrcAt K H d pts) : SrcAt K H' d pts := by
  rcases h with h | ⟨us, h1, h2⟩
  · exact .inl (e _ _ h)
  · exact .inr ⟨us, ex_l e h1, h2.tk (TK.ex e)⟩
end Od

namespace Od
open PySem L2 Evl

/-! ### data that the heap bears -/
mutual
inductive Da (H : Hp) : V → PyData → Prop
  | non : Da H .non .none
  | bl (b : Bool) : Da H (.bl b) (.bool b)
  | int (i : Int) : Da H (.int i) (.int i)
  | str (x : Str) : Da H (.str x) (.str x)
  | lst {a : Addr} {xs : List V} {ds : List PyData} : H a = some (.lst xs) → DaAll H xs ds → ds.length ≤ 1000000 → Da H (.ref a) (.list ds)
  | tup {a : Addr} {xs : List V} {ds : List PyData} : H a = some (.tup xs) → DaAll H xs ds → ds.length ≤ 1000000 → Da H (.ref a) (.tuple ds)
inductive DaAll (H : Hp) : List V → List PyData → Prop
  | nil : DaAll H [] []
  | cons {v : V} {vs : List V} {d : PyData} {ds : List PyData} : Da H v d → DaAll H vs ds → DaAll H (v :: vs) (d :: ds)
end
mutual
theorem Da.mono {H H' : Hp} (e : Ex H H') : ∀ {v : V} {d : PyData}, Da H v d → Da H' v d
  | _, _, .non => .non
  | _, _, .bl b => .bl b
  | _, _, .int i => .int i
  | _, _, .str x => .str x
  | _, _, .lst h k l => .lst (e _ _ h) (DaAll.mono e k) l
  | _, _, .tup h k l => .tup (e _ _ h) (DaAll.mono e k) l
theorem DaAll.mono {H H' : Hp} (e : Ex H H') : ∀ {vs : List V} {ds : List PyData}, DaAll H vs ds → DaAll H' vs ds
  | _, _, .nil => .nil
  | _, _, .cons h k => .cons (Da.mono e h) (DaAll.mono e k)
end
mutual
theorem Da.dp {K : PySem.W.Frag} {H : Hp} : ∀ {v : V} {d : PyData}, Da H v d → Dp K H v d
  | _, _, .non => .non
  | _, _, .bl b => .bl b
  | _, _, .int i => .int i
  | _, _, .str x => .str x
  | _, _, .lst h k _ => .lst (SqL.of h) (DaAll.dp k)
  | _, _, .tup h k _ => .tup (SqT.of h) (DaAll.dp k)
theorem DaAll.dp {K : PySem.W.Frag} {H : Hp} : ∀ {vs : List V} {ds : List PyData}, DaAll H vs ds → DpAll K H vs ds
  | _, _, .nil => .nil
  | _, _, .cons h k => .cons (Da.dp h) (DaAll.dp k)
end
theorem DaAll.length {H : Hp} : ∀ {vs : List V} {ds : List PyData}, DaAll H vs ds → vs.length = ds.length
  | _, _, .nil => rfl
  | _, _, .cons _ k => by rw [List.length_cons, List.length_cons, DaAll.length k]
theorem DaAll.get {H : Hp} : ∀ {vs : List V} {ds : List PyData} {i : Nat} {d : PyData}, DaAll H vs ds → ds[i]? = some d → ∃ v, vs[i]? = some v ∧ Da H v d
  | _, _, _, _, .nil, e => by simp at e
  | _, _, 0, d, .cons h k, e => by
    simp at e
    subst e
    exact ⟨_, rfl, h⟩
  | _, _, i + 1, d, .cons h k, e => by
    obtain ⟨v, h1, h2⟩ := DaAll.get (i := i) (d := d) k (by simpa using e)
    exact ⟨v, by simpa using h1, h2⟩
theorem da_ints {H : Hp} : ∀ ns : List Int, DaAll H (ns.map V.int) (ns.map PyData.int)
  | [] => .nil
  | n :: ns => .cons (.int n) (da_ints ns)
theorem PtV.da {H : Hp} {v : V} {q : Pt} (h : PtV H v q) : Da H v (ptD q) := by
  obtain ⟨p, rfl, h⟩ := h
  exact .tup h (da_ints [q.1, q.2]) (by simp)
theorem RcV.da {H : Hp} {v : V} {q : Rc} (h : RcV H v q) : Da H v (rcD q) := by
  obtain ⟨p, rfl, h⟩ := h
  exact .tup h (da_ints [q.l, q.t, q.r, q.b]) (by simp)
theorem da_all {α : Type} {H : Hp} {G : V → α → Prop} {f : α → PyData} (h : ∀ v x, G v x → Da H v (f x)) : ∀ {vs : List V} {xs : List α}, Paired G vs xs → DaAll H vs (xs.map f)
  | _, _, .nil => .nil
  | _, _, .cons r t => .cons (h _ _ r) (da_all h t)
theorem da_pts {H : Hp} {a : Addr} {us : List V} {qs : List Pt} (h : H a = some (.lst us)) (r : PtsV H us qs) (hl : qs.length ≤ 1000000) : Da H (.ref a) (ptsD qs) := .lst h (da_all (fun _ _ z => PtV.da z) r) (by rw [List.length_map]; exact hl)
theorem da_rcs {H : Hp} {a : Addr} {us : List V} {qs : List Rc} (h : H a = some (.lst us)) (r : RcsV H us qs) (hl : qs.length ≤ 1000000) : Da H (.ref a) (rcsD qs) := .lst h (da_all (fun _ _ z => RcV.da z) r) (by rw [List.length_map]; exact hl)
theorem depth_mem {d : PyData} : ∀ {ds : List PyData} {i : Nat}, ds[i]? = some d → d.depth ≤ PyData.depthAll ds
  | [], i, h => by simp at h
  | x :: xs, 0, h => by
    simp at h
    subst h
    rw [PyData.depthAll]
    exact Nat.le_max_left _ _
  | x :: xs, i + 1, h => by
    have := depth_mem (d := d) (ds := xs) (i := i) (by simpa using h)
    rw [PyData.depthAll]
    exact Nat.le_trans this (Nat.le_max_right _ _)
theorem lay_mem {d : PyData} : ∀ {ds : List PyData} {i : Nat}, PyData.canLayAll0 ds = true → ds[i]? = some d → d.canLay0 = true
  | [], i, _, h => by simp at h
  | x :: xs, 0, k, h => by
    simp at h
    subst h
    rw [PyData.canLayAll0, Bool.and_eq_true] at k
    exact k.1
  | x :: xs, i + 1, k, h => by
    rw [PyData.canLayAll0, Bool.and_eq_true] at k
    exact lay_mem (d := d) (ds := xs) (i := i) k.2 (by simpa using h)
theorem eqv_self {d : PyData} (h : d.canLay0 = true) : PyData.eqv d d = true := PySem.SeqAt.eqv_refl d h
theorem Da.kinds {H : Hp} {v w : V} {d : PyData} (hv : Da H v d) (hw : Da H w d) : (∃ t, Kn H v t ∧ Kn H w t ∧ isA t "tuple" = false ∧ isA t "list" = false) ∨
    ∃ ds av aw xs ys T, v = .ref av ∧ w = .ref aw ∧ DaAll H xs ds ∧ DaAll H ys ds ∧ ds.length ≤ 1000000 ∧ Kn H v T ∧ Kn H w T ∧ (T = "list" ∧ H av = some (.lst xs) ∧ H aw = some (.lst ys) ∧ d = .list ds ∨ T = "tuple" ∧ H av = some (.tup xs) ∧ H aw = some (.tup ys) ∧ d = .tuple ds) := by
  cases hv with
  | non => cases hw; exact .inl ⟨_, .non, .non, by decide +kernel, by decide +kernel⟩
  | bl b => cases hw; exact .inl ⟨_, .bl b, .bl b, by decide +kernel, by decide +kernel⟩
  | int b => cases hw; exact .inl ⟨_, .int b, .int b, by decide +kernel, by decide +kernel⟩
  | str b => cases hw; exact .inl ⟨_, .str b, .str b, by decide +kernel, by decide +kernel⟩
  | lst h k l =>
    cases hw with
    | lst h' k' l' => exact .inr ⟨_, _, _, _, _, _, rfl, rfl, k, k', l, .lst h, .lst h', .inl ⟨rfl, h, h', rfl⟩⟩
  | tup h k l =>
    cases hw with
    | tup h' k' l' => exact .inr ⟨_, _, _, _, _, _, rfl, rfl, k, k', l, .tup h, .tup h', .inr ⟨rfl, h, h', rfl⟩⟩
end Od

namespace Od
open PySem L2 Evl

/-! ### a set moved -/
def mvP (dx : Int) (q : Pt) : Pt := (q.1 + dx, q.2 + dx)
def mvB (dx dy : Int) (d : Bd) : Bd := ⟨d.t + dy, d.b + dy, d.rs.map (mvP dx)⟩
def mvR (dx dy : Int) (q : Rc) : Rc := ⟨q.l + dx, q.t + dy, q.r + dx, q.b + dy⟩
theorem mvP_inj {dx : Int} {a b : Pt} (h : mvP dx a = mvP dx b) : a = b := by
  unfold mvP at h
  injection h with h1 h2
  exact Prod.ext (by omega) (by omega)
theorem map_mvP_inj {dx : Int} : ∀ {rs ss : List Pt}, rs.map (mvP dx) = ss.map (mvP dx) → rs = ss
  | [], [], _ => rfl
  | [], _ :: _, h => by simp at h
  | _ :: _, [], h => by simp at h
  | a :: rs, b :: ss, h => by
    rw [List.map_cons, List.map_cons] at h
    injection h with h1 h2
    rw [mvP_inj h1, map_mvP_inj h2]
theorem runs_mv {dx : Int} : ∀ {rs : List Pt} {b : Int}, RunsFrom b rs → RunsFrom (b + dx) (rs.map (mvP dx))
  | [], _, _ => trivial
  | q :: t, b, h => ⟨by have := h.1; show b + dx < q.1 + dx; omega, by have := h.2.1; show q.1 + dx < q.2 + dx; omega, runs_mv h.2.2⟩
theorem inRuns_mv {dx : Int} {rs : List Pt} {x : Int} : inRuns (rs.map (mvP dx)) x ↔ inRuns rs (x - dx) := by
  constructor
  · rintro ⟨q, hq, h1, h2⟩
    obtain ⟨p, hp, rfl⟩ := List.mem_map.mp hq
    exact ⟨p, hp, by unfold mvP at h1; dsimp only at h1; omega, by unfold mvP at h2; dsimp only at h2; omega⟩
  · rintro ⟨p, hp, h1, h2⟩
    exact ⟨mvP dx p, List.mem_map.mpr ⟨p, hp, rfl⟩, by unfold mvP; dsimp only; omega, by unfold mvP; dsimp only; omega⟩
theorem bands_mv {dx dy : Int} : ∀ {bs : List Bd} {y : Int} {p : List Pt}, BandsFrom y p bs → BandsFrom (y + dy) (p.map (mvP dx)) (bs.map (mvB dx dy))
  | [], _, _, _ => trivial
  | d :: t, y, p, h => by
    refine ⟨by have := h.1; show y + dy ≤ d.t + dy; omega, fun e z => h.2.1 ?_ (map_mvP_inj z), by have := h.2.2.1; show d.t + dy < d.b + dy; omega, fun z => h.2.2.2.1 (List.map_eq_nil_iff.mp z), ?_, bands_mv h.2.2.2.2.2⟩
    · have e : y + dy = d.t + dy := e
      omega
    · obtain ⟨b, hb⟩ := h.2.2.2.2.1
      exact ⟨_, runs_mv hb⟩
theorem inBands_mv {dx dy : Int} {bs : List Bd} {x y : Int} : inBands (bs.map (mvB dx dy)) x y ↔ inBands bs (x - dx) (y - dy) := by
  constructor
  · rintro ⟨d, hd, h1, h2, h3⟩
    obtain ⟨c, hc, rfl⟩ := List.mem_map.mp hd
    have h1 : c.t + dy ≤ y := h1
    have h2 : y < c.b + dy := h2
    exact ⟨c, hc, by omega, by omega, inRuns_mv.mp h3⟩
  · rintro ⟨c, hc, h1, h2, h3⟩
    exact ⟨mvB dx dy c, List.mem_map.mpr ⟨c, hc, rfl⟩, by show c.t + dy ≤ y; omega, by show y < c.b + dy; omega, inRuns_mv.mpr h3⟩
theorem formOf_mv {dx dy : Int} : ∀ bs : List Bd, formOf (bs.map (mvB dx dy)) = (formOf bs).map (mvR dx dy)
  | [] => rfl
  | d :: t => by
    have ih := formOf_mv (dx := dx) (dy := dy) t
    unfold formOf at ih ⊢
    rw [List.map_cons, List.flatMap_cons, List.flatMap_cons, List.map_append, ih]
    congr 1
    unfold bandRc mvB
    dsimp only
    rw [List.map_map, List.map_map]
    rfl
theorem IsForm.mv {S : Int → Int → Prop} {f : List Rc} (dx dy : Int) (h : IsForm S f) : IsForm (fun x y => S (x - dx) (y - dy)) (f.map (mvR dx dy)) := by
  obtain ⟨y, bs, h1, h2, rfl⟩ := h
  exact ⟨y + dy, bs.map (mvB dx dy), bands_mv h1, fun x y' => by rw [inBands_mv, h2], (formOf_mv bs).symm⟩
theorem mv_back {dx dy : Int} (f : List Rc) : (f.map (mvR dx dy)).map (mvR (-dx) (-dy)) = f := by
  rw [List.map_map]
  have e : (mvR (-dx) (-dy) ∘ mvR dx dy) = id := by
    funext q
    cases q
    unfold mvR
    simp only [Function.comp, id]
    congr 1 <;> omega
  rw [e, List.map_id]
end Od

namespace Od
open PySem L2 Evl PySem.Spec PyProof.Rows

/-! ### defs that are run where no repr is under way -/
def Gd (A : Around) : Prop := A.guards = some []
theorem Gd.deeper {A : Around} (g : Gd A) (env : Env) : Gd (A.deeper env) := g
structure FnG (P : Program) (w : World) (K : PySem.W.Frag) (mg : Str → Option Value) (base : Heap) (CX : CXT) (k : Nat) (f : Addr) (fd : FuncData) (ps : List Str) (sp : Sp) : Prop where
  len : ∀ vs H Q E, sp vs H Q E → vs.length = ps.length
  run : ∀ (A : Around) (outer : List Env) (s : Shared) (H : Hp) (args : Args) (us : List Value) (vs : List V) (Q : VK) (E : XK), Gd A → Room k A → Env0 P w K mg base A outer s H →
    BindsTo s fd args (ps.zip us) → Vals vs us → sp vs H Q E → codeAny (model P w) A (.call (.ref f) args) (CR CX outer P w H s Q E) s
section
variable {CX : CXT} {P : Program} {w : World} {K : PySem.W.Frag} {mg : Str → Option Value} {base : Heap} {k : Nat} {f : Addr} {fd : FuncData} {N ps : List Str} {sp : Sp}
theorem FnG.of (F : FnOk P w K mg base CX k f fd ps sp) : FnG P w K mg base CX k f fd ps sp := ⟨F.len, fun A o s H a us vs Q E _ => F.run A o s H a us vs Q E⟩
/-- a body's walk, where no repr is under way -/
theorem Fun.okG {x qual : Str} {st : Stmt} (F : Fun K x qual st f fd) (S : FnScope N ps (defScope st)) (len : ∀ vs H Q E, sp vs H Q E → vs.length = ps.length)
    (hb : ∀ (cdv : Value) (A : Around) (outer : List Env) (s : Shared) (H : Hp) (vs : List V) (Q : VK) (E : XK), Gd (A.deeper (envOfC qual (defScope st) s.heap.objs.size f cdv)) → Room k (A.deeper (envOfC qual (defScope st) s.heap.objs.size f cdv)) → sp vs H Q E →
      ∃ t, PSs (cxOf CX0 P w K mg base N qual (defScope st) f cdv A outer s H E).nox (defBody st) t ∧ t { nx := fun _ H' => Q .non H', rt := Q } (L2.start N vs) H) : FnG P w K mg base CX0 (k + 1) f fd ps sp := by
  obtain ⟨oc, od, kV, doc, pm, an, cdv, ct, osl, rfl, lk, hcd⟩ := F.ex
  refine ⟨len, fun A o s H args us vs Q E gd rm env bnd rel prom => ?_⟩
  have eqlen := len vs H Q E prom
  have kin : K.In s.heap := env.mod.kin.keeps fun b ob e => (env.bs b ob e).1
  have nol : s.heap.NoLimit := env.mod.nolimit.keeps fun b ob e => (env.bs b ob e).1
  have places : ∀ y ∈ ps.zip us, (defScope st).names.lookup y.1 = some .local ∨ ((defScope st).names.lookup y.1 = some .cell ∧ ((cellsFrom (s.heap.objs.size + 1) (defScope st).names []).lookup y.1).isSome = true) := by
    rintro ⟨n, v⟩ hy
    rcases S.par n (List.of_mem_zip hy).1 with z | z
    · exact Or.inl z
    · exact Or.inr ⟨z, PySem.W.cellsFrom_some _ _ _ (Or.inl z)⟩
  refine codeAny_call_function rm.depth (kin _ _ lk) rfl S.co S.gen rfl (PySem.W.codeRec_of kin hcd) (bnd _ _ _ _ ?_)
  refine wpAny_newFunctionEnv_cells S.kind places fun e2 he2 s1 inC => ?_
  subst he2
  refine ⟨nol.keeps inC.toInCall.keep, codeAny_func ?_⟩
  obtain ⟨t, walk, read⟩ := hb cdv A o s H vs Q E (gd.deeper _) (rm.deeper _) prom
  have inv := inv_start (E := E) (CX := CX0) S rm.hd env eqlen rel inC
  refine wpAny_mono (walk.nox.run [] s1 _ H _ inv read) (fun fl s' done => ?_) (fun e s' done => done)
  have give : ∀ {σ' : L2.St} {H' : Hp} {v : V} {u : Value}, Inv (cxOf CX0 P w K mg base N qual (defScope st) f cdv A o s H E) [] σ' H' s' → RelV v u → Q v H' → CE o P w H s Q u s' := by
    intro σ' H' v u J rv qq
    exact ⟨v, H', J.os, J.bare, J.base, J.hok, rv, qq⟩
  match fl, done with
  | .ret u, ⟨v, σ', H', J, rv, qq⟩ => exact give J rv qq
  | .next, ⟨σ', H', J, qq⟩ => exact give (v := V.non) (u := Value.none) J rfl qq
  | .brk, ⟨_, _, _, z⟩ => exact z.elim
  | .cont, ⟨_, _, _, z⟩ => exact z.elim
end
section
variable {X : Cx} {CX : CXT} {k : Nat} {f : Addr} {fd : FuncData} {ps : List Str} {sp : Sp} {dvs : List V} {ds : List Value} {E : XK} {x : Str} {p pos : Pos} {e : Expr} {es : List Expr} {t : TA}
theorem run_g {pins : List (Addr × Obj)} {σ : L2.St} {H : Hp} {s : Shared} {Q : VK} {us : List Value} {vs : List V} (F : FnG X.prog X.w X.K X.mg X.base CX k f fd ps sp) (gd : Gd X.A) (rm : Room k X.A) (hb : L2.Binds X.K fd ps ds) (hd : Vals dvs ds) (hx : Passes CX X E) (I : Inv X pins σ H s) (r : Vals vs us)
    (h : sp (vs ++ dvs) H Q E) : wpAny (model X.prog X.w) X.A (call (.ref f) us) (EP X pins σ Q) X.xe s := by
  have both : Vals (vs ++ dvs) (us ++ ds) := Vals.append r hd
  have hlen : (us ++ ds).length = ps.length := both.length.symm.trans (F.len _ _ _ _ h)
  refine wpAny_call (codeAny_mono (F.run X.A X.stack s H ⟨us, []⟩ (us ++ ds) (vs ++ dvs) Q E gd rm I.env0 (hb s us I.kIn hlen) both h) ?_)
  intro res s' out
  match res, out with
  | .error e, out => exact hx pins σ H s e s' I out
  | .ok (.ret u), out => exact I.after out
theorem pe_callG (F : FnG X.prog X.w X.K X.mg X.base CX k f fd ps sp) (gd : Gd X.A) (rm : Room k X.A) (hg : Gl X x) (hm : X.mg x = some (.ref f)) (hk : PySem.W.keepIn X.K (.ref f) = true) (hb : L2.Binds X.K fd ps ds) (hd : Vals dvs ds) (hx : Passes CX X E) (ha : PA X (e :: es) t)
    (hdb : (x == ("__debug__" : Str)) = false := by decide) (he : starEach (e :: es) X.env = (false, eval e X.env) :: starEach es X.env := by rfl) (hpl : (backTo pos (starEach es X.env)).any (·.1) = false := by rfl) : PE X (.Call (.Name x p) (e :: es) [] pos) (tCall sp dvs E t) := by
  constructor
  intro pins s σ H Q I h
  refine wpAny_Call_Name_kw (ld_glob I hg hm ?_ hdb)
  refine PySem.W.callWith_K (h₀ := X.base) I.ok.mod.kin hk (thn (ha.run pos pins s σ H _ I h) ?_) he hpl
  rintro us s1 ⟨vs, H1, I1, rel, qq⟩
  exact ⟨I1.kIn, run_g F gd rm hb hd hx I1 rel qq⟩
end
structure DefG (P : Program) (w : World) (K : PySem.W.Frag) (mg : Str → Option Value) (base : Heap) (CX : CXT) (x : Str) (k : Nat) (ps : List Str) (sp : Sp) where
  f : Addr
  fd : FuncData
  ok : FnG P w K mg base CX k f fd ps sp
  mgf : mg x = some (.ref f)
  kp : PySem.W.keepIn K (.ref f) = true
  b : L2.Binds K fd ps []

/-! ### repr of data -/
/-- what stands in a list or tuple is data of this kind (no dict in it) -/
def rRepr (K : PySem.W.Frag) : List V → Hp → VK → Prop := fun vs H Q => ∃ a d, vs = [.ref a] ∧ Dp K H (.ref a) d ∧ d.showable = true ∧ d.hasDict = false ∧ d.depth ≤ 60 ∧ d.shown.length ≤ sizeLine ∧ Q (.str d.shown) H
theorem krepr {X : Cx} (K : PySem.W.Frag) (gd : Gd X.A) (hu : X.A.units + 64 < cLine) (h : X.K = K := by rfl) : CallR X (.builtin "repr") (rRepr K) := by
  subst h
  intro pins s σ H vs us Q I r q
  obtain ⟨a, d, rfl, hd, h1, h2, h3, h4, q⟩ := q
  obtain rfl := Vals.ref1 r
  obtain ⟨as, rd⟩ := Dp.reads I d (.ref a) (.ref a) hd rfl
  refine repr_of_reads' rd h1 (fun z => by rw [h2] at z; cases z) gd (by omega) (fun _ _ e => e) (fun h' u tk hk => ?_) h4
  exact ⟨.str d.shown, H, I.kept (t' := tk) hk, ⟨u, rfl⟩, q⟩
end Od

namespace Od
open PySem L2 Evl PySem.Spec PyProof.Rows

/-! ### the law's own call, where no repr is under way -/
/-- the call of the law at fa with the script at a ends, gives True, and leaves what stood -/
def LawEnds (P : Program) (w : World) (fa a : Addr) (t : Shared) : Prop := codeAny (model P w) callerA (.call (.ref fa) ⟨[.ref a], []⟩) (fun r s' => r = .ok (.ret (.bool true)) ∧ OldK t.heap s'.heap ∧ s'.os = t.os ∧ AllBare s'.gens) t
section
variable {P : Program} {w : World} {K : PySem.W.Frag} {mg mb : Str → Option Value} {k : Nat} {fa a : Addr} {fd : FuncData} {x : Str} {sp : Sp} {s₁ : Shared} {vs : List Value} {ns : List Int}
/-- from an abstract heap in which at most the script stands -/
theorem end_core (kin : K.In s₁.heap) (hns : s₁.heap.Ns mainGlobals mg) (hb : s₁.heap.Ns builtinsNs mb) (hbb : ∀ x : Str, x ≠ "__name__" → mb x = bootBuiltins x) (nol : s₁.heap.NoLimit) (hg : s₁.gens = #[])
    (ha : s₁.heap.get? a = some { cls := .type "list", data := .seq vs.toArray }) (rm : Room k callerA)
    (F : ∀ base : Heap, K.In base → base.Ns mainGlobals mg → FnG P w K mg base CX0 k fa fd [x] sp) (bnd : ∀ (s : Shared) (u : Value), BindsTo s fd ⟨[u], []⟩ [(x, u)])
    (prom : ∀ H : Hp, Only H → SqL K H a (ns.map V.int) → sp [.ref a] H (fun v _ => v = .bl true) fun _ _ _ => False) {H : Hp}
    (only : Only H) (sq : SqL K H a (ns.map V.int)) (hok : HOk P w H s₁.heap) (alone : ∀ b, H b ≠ none → b = a) (notK : H a ≠ none → K.lookup a = none) :
    LawEnds P w fa a s₁ := by
  -- a dict is not the script
  have dictFree : ∀ {b : Addr} {o : Obj} {es : Array DictEntry} {ep : Nat}, s₁.heap.get? b = some o → o.data = .dict es ep → H b = none := by
    intro b o es ep e d
    by_cases z : H b = none
    · exact z
    · have := alone b z
      rw [this, ha] at e
      cases e
      cases (show Data.seq vs.toArray _ = Data.dict es ep from d)
  have space : ∀ {b : Addr} {m : Str → Option Value}, s₁.heap.Ns b m → (hidT s₁.heap H).Ns b m := by
    rintro b m ⟨o, es, ep, e, d, r⟩
    exact ⟨o, es, ep, hidT_get e (dictFree e d), d, r⟩
  have kinB : K.In (hidT s₁.heap H) := by
    intro b o e
    refine hidT_get (kin b o e) ?_
    by_cases z : H b = none
    · exact z
    · have q := alone b z
      subst q
      rw [notK z] at e
      cases e
  obtain ⟨mc, l1, l2⟩ := nol
  have md : Mod K mg (hidT s₁.heap H) := ⟨kinB, space hns, ⟨mb, space hb, hbb⟩, ⟨mc, space l1, l2⟩⟩
  have env : Env0 P w K mg (hidT s₁.heap H) callerA [] s₁ H := ⟨rfl, md, fun b o e => of_hidT e, Nat.le_of_eq (hidT_size _ _), trivial, fun b z => absurd z (show b ∉ ([] : List Addr) by simp), hok, .of_eq hg⟩
  refine codeAny_mono ((F _ kinB (space hns)).run callerA [] s₁ H ⟨[.ref a], []⟩ [.ref a] [.ref a] _ _ rfl rm env (bnd s₁ (.ref a)) (.cons rfl .nil) (prom H only sq)) ?_
  intro r s' out
  match r, out with
  | .ok (.ret u), ⟨v, H', os, bare, un, hok', rv, qv⟩ =>
    have ev : v = .bl true := qv
    subst ev
    obtain rfl : u = Value.bool true := rv
    refine ⟨rfl, OldK.of_keep fun b o e => ?_, os, bare⟩
    by_cases z : H b = none
    · exact un.keep b o e z (show b ∉ frs [] by intro q; exact absurd (show b ∈ ([] : List Addr) from q) (by simp)) (by simp)
    · rcases only b with q | ⟨ob, xs, q⟩
      · exact absurd q z
      · obtain ⟨f1, _⟩ := hok b _ q
        obtain ⟨f2, _⟩ := hok' b _ (un.frzs b ob _ q)
        rw [e] at f1
        cases f1
        exact f2
theorem end_call (kin : K.In s₁.heap) (hns : s₁.heap.Ns mainGlobals mg) (hb : s₁.heap.Ns builtinsNs mb) (hbb : ∀ x : Str, x ≠ "__name__" → mb x = bootBuiltins x) (nol : s₁.heap.NoLimit) (hg : s₁.gens = #[])
    (ha : s₁.heap.get? a = some { cls := .type "list", data := .seq vs.toArray }) (hi : IntsAre vs ns) (hl : ns.length ≤ sizeLine) (rm : Room k callerA)
    (F : ∀ base : Heap, K.In base → base.Ns mainGlobals mg → FnG P w K mg base CX0 k fa fd [x] sp) (bnd : ∀ (s : Shared) (u : Value), BindsTo s fd ⟨[u], []⟩ [(x, u)])
    (prom : ∀ H : Hp, Only H → SqL K H a (ns.map V.int) → sp [.ref a] H (fun v _ => v = .bl true) fun _ _ _ => False) :
    LawEnds P w fa a s₁ := by
  have rel := vals_ints hi
  have hlen := hi.length
  cases hk : K.lookup a with
  | some o =>
    have e := kin a o hk
    rw [ha] at e
    cases e
    refine end_core kin hns hb hbb nol hg ha rm F bnd prom (H := fun _ => none) (fun _ => Or.inl rfl) (Or.inr ⟨_, vs.toArray, _, hk, rfl, rfl, rfl, ?_, by simpa using rel⟩) (fun b u z => nomatch (show (none : Option HO) = some u from z)) (fun b z => absurd rfl z) (fun z => absurd rfl z)
    rw [List.size_toArray, hlen]
    exact hl
  | none =>
    have one : ∀ b, (fun b => if b = a then some (HO.frz { cls := .type "list", data := .seq vs.toArray } (.lst (ns.map V.int))) else none : Hp) b ≠ none → b = a := by
      intro b z
      by_cases q : b = a
      · exact q
      · exact absurd (if_neg q) z
    refine end_core kin hns hb hbb nol hg ha rm F bnd prom (H := fun b => if b = a then some (.frz { cls := .type "list", data := .seq vs.toArray } (.lst (ns.map V.int))) else none) (fun b => ?_) (Or.inl (Or.inr ⟨_, if_pos rfl⟩)) (fun b u z => ?_) one (fun _ => hk)
    · by_cases q : b = a
      · exact Or.inr ⟨_, _, if_pos q⟩
      · exact Or.inl (if_neg q)
    · by_cases q : b = a
      · have z2 := (if_pos q).symm.trans z
        cases z2
        subst q
        exact ⟨ha, by rw [List.length_map]; exact hl, vs, _, rel, ha⟩
      · have z2 := (if_neg q).symm.trans z
        cases z2
end
theorem walk_g {l : PySem.W.OpenLaw} {n k : Nat} {q : Program} {loose : List Str} {XP : (Str → Option Value) → Heap → Prop} {YP : World → Heap → Prop} {d : DefRec} {K : Params → PySem.W.Frag} {sp : World → Sp} {x : Str}
    (hn : l.most = some n) (hn2 : n ≤ sizeLine) (hdf : d.params.defaults = []) (rm : Room k callerA)
    (written : ∀ (w : World) (h : Heap), YP w h → (K w.params).In h) (F : ∀ (w : World) (mg : Str → Option Value) (fa : Addr) (h : Heap), (K w.params).In h → h.Ns mainGlobals mg → mg d.name = some (.ref fa) → ∃ fd : FuncData, (∀ (s : Shared) (u : Value), BindsTo s fd ⟨[u], []⟩ [(x, u)]) ∧ ∀ base : Heap, (K w.params).In base → base.Ns mainGlobals mg → FnG l.prog w (K w.params) mg base CX0 k fa fd [x] (sp w))
    (prom : ∀ (w : World) (H : Hp) (a : Addr) (ns : List Int), ns.length ≤ n → Only H → SqL (K w.params) H a (ns.map V.int) → sp w [.ref a] H (fun v _ => v = .bl true) fun _ _ _ => False) :
    PySem.W.WalkO q loose XP YP l.row.toRowW d [] (fun g us => PySem.call g us) := by
  refine Att.attach_call hn hdf ?_
  intro w s₀ s₁ mg mb fa o pm cd doc a vs ns G Y _ _ _ hmg hobj hints hlen hg
  have kin := written w _ Y
  obtain ⟨fd, bnd, fn⟩ := F w mg fa _ kin G.T.g hmg
  exact end_call kin G.T.g G.T.b G.T.builtins G.T.nolimit hg hobj hints (Nat.le_trans hlen hn2) rm fn bnd fun H hO hS => prom w H a ns hlen hO hS
end Od

namespace Od
open PySem L2 Evl PySem.Spec PyProof.Rows

/-! ### a tuple times 1 is the tuple itself -/
theorem tuple_once (l : Addr) (items : Array Value) (n : Nat) (dd : Option Addr) (sl : Array (Option Value)) (u : Tok) :
    Meets (Builtin.«tuple.__mul__» ⟨[.ref l, .int 1 u], []⟩) (fun _ R s => s.heap.get? l = some { cls := .type "tuple", dict := dd, data := .seq items n, slots := sl } ∧ R (.ok (.ret (.ref l))) s) :=
  .of_wp fun prog w A R s h => by
    obtain ⟨hp, g, d, tk, os⟩ := s
    obtain ⟨hl, h⟩ := h
    have f1 := AutoSeq1.idx_int
    have c1 : (items.isEmpty || (1 : Int) == 1) = true := by
      rw [show ((1 : Int) == 1) = true from rfl, Bool.or_true]
    wp_walk using AutoSeq1.wpAny_loadPart' hl
    exact ⟨_, rfl, h⟩
def rRep1 (K : PySem.W.Frag) : R2 := fun x y H Q => ∃ l xs, x = .ref l ∧ y = .int 1 ∧ SqT K H l xs ∧ Q (.ref l) H
theorem op_rep1 {X : Cx} : OpR X (binaryOp .Mult) (rRep1 X.K) := by
  intro pins s σ H x y v u Q I rx ry h
  obtain ⟨l, xs, rfl, rfl, hT, q⟩ := h
  cases rx
  obtain ⟨t, rfl⟩ := ry
  obtain ⟨its, r, ⟨⟨cls, dd, data, sl⟩, ho, hc, n, hd⟩, hs⟩ := I.tuple hT
  simp only at hc hd
  subst hc hd
  refine wpAny_binaryOp_repeat_ref (T := "tuple") (U := "int") (by decide) ⟨_, ho, rfl⟩ (fun s' => typeIs_int s' 1 t) noFill_tuple_mul F.fills_int_mul F.slot_int_rmul repeat_tuple F.slot_int_index.lookup
    (call_meets F.slot_int_rmul (typeIs_int s 1 t) F.entry_int_rmul (F.args_int_rmul_2 _ _) (int_rmul_tuple 1 t l its.toArray n dd sl)
      ⟨ho, rfl, ⟨_, ho, rfl⟩, call_meets F.slot_tuple_mul ⟨_, ho, rfl⟩ F.entry_tuple_mul (F.args_tuple_mul_2 _ _) (tuple_once l its.toArray n dd sl t) ⟨ho, ?_⟩⟩)
  exact ⟨.ref l, H, I, rfl, q⟩
structure RRep (K : PySem.W.Frag) (x y : V) (H : Hp) (Q : VK) : Prop where
  h : rRepT K x y H Q ∨ rRep1 K x y H Q
theorem krep {X : Cx} (K : PySem.W.Frag) (h : X.K = K := by rfl) : OpR X (binaryOp .Mult) (RRep K) := by
  subst h
  exact fun pins s σ H x y v u Q I rx ry q => (OpR.or op_repT op_rep1) pins s σ H x y v u Q I rx ry q.h
theorem repA {K : PySem.W.Frag} {H : Hp} {a : Addr} {x : V} {k : Int} {Q : VK} (h : H a = some (.tup [x])) (h1 : 1 ≤ k) (h2 : k ≤ 1000) (q : ∀ p H', Ex H H' → H' p = some (.tup (List.replicate k.toNat x)) → Q (.ref p) H') : RRep K (.ref a) (.int k) H Q := by
  refine .mk ?_
  by_cases e : k = 1
  · subst e
    exact .inr ⟨a, _, rfl, rfl, SqT.of h, q a H (Ex.refl _) h⟩
  · refine .inl ⟨a, k, _, rfl, rfl, SqT.of h, by simp, by omega, h2, by simp, fun p hp => q p _ (Ex.new hp) ?_⟩
    rw [upd_same]
    congr 2
    generalize k.toNat = m
    induction m with
    | zero => rfl
    | succ m ih => rw [List.replicate_succ, List.replicate_succ, List.flatten_cons, ih]; rfl

/-! ### data whose text is short -/
structure Sh (B : Nat) (d : PyData) : Prop where
  show_ : d.showable = true
  dict : d.hasDict = false
  short : d.leavesShort 13 = true
  wt : d.weight ≤ B
structure ShAll (B : Nat) (ds : List PyData) : Prop where
  show_ : PyData.showableAll ds = true
  dict : PyData.hasDictAll ds = false
  short : PyData.leavesShortAll 13 ds = true
  wt : PyData.weightAll ds ≤ B
theorem Sh.mono {B C : Nat} {d : PyData} (h : Sh B d) (e : B ≤ C) : Sh C d := ⟨h.1, h.2, h.3, Nat.le_trans h.4 e⟩
theorem ShAll.nil : ShAll 0 [] := ⟨rfl, rfl, rfl, Nat.le_refl _⟩
theorem ShAll.cons {B C : Nat} {d : PyData} {ds : List PyData} (h : Sh B d) (t : ShAll C ds) : ShAll (B + 1 + C) (d :: ds) := by
  refine ⟨?_, ?_, ?_, ?_⟩
  · simp only [PyData.showableAll, h.1, t.1, Bool.and_self]
  · simp only [PyData.hasDictAll, h.2, t.2, Bool.or_self]
  · simp only [PyData.leavesShortAll, h.3, t.3, Bool.and_self]
  · have h1 := h.4
    have h2 := t.4
    simp only [PyData.weightAll]
    omega
theorem ShAll.tup {B : Nat} {ds : List PyData} (t : ShAll B ds) : Sh B (.tuple ds) := ⟨by simpa only [PyData.showable] using t.1, by simpa only [PyData.hasDict] using t.2, by simpa only [PyData.leavesShort] using t.3, by simpa only [PyData.weight] using t.4⟩
theorem ShAll.lst {B : Nat} {ds : List PyData} (t : ShAll B ds) : Sh B (.list ds) := ⟨by simpa only [PyData.showable] using t.1, by simpa only [PyData.hasDict] using t.2, by simpa only [PyData.leavesShort] using t.3, by simpa only [PyData.weight] using t.4⟩
theorem sh_int {i : Int} (h1 : -1000000 ≤ i) (h2 : i ≤ 1000000) : Sh 20 (.int i) := by
  have hn : i.natAbs ≤ 1000000 := by omega
  have hl : i.natAbs ≠ 0 → i.natAbs.log2 < 20 := fun h => (Nat.log2_lt h).mpr (Nat.lt_of_le_of_lt hn (by decide))
  refine ⟨?_, rfl, ?_, ?_⟩
  · simp only [PyData.showable, decide_eq_true_eq]
    by_cases h : i.natAbs = 0
    · rw [h]
      decide
    · exact Nat.lt_trans (hl h) (by decide)
  · simp only [PyData.leavesShort, decide_eq_true_eq]
    exact PyData.shown_int_le2 (by omega) (by omega)
  · simp only [PyData.weight]
    by_cases h : i = 0
    · subst h
      decide
    · have : (i == 0) = false := beq_eq_false_iff_ne.mpr h
      rw [this]
      have := hl (by omega)
      show i.natAbs.log2 + 1 ≤ 20
      omega
theorem sh_ints : ∀ {ns : List Int}, (∀ n ∈ ns, -1000000 ≤ n ∧ n ≤ 1000000) → ShAll (21 * ns.length) (ns.map PyData.int)
  | [], _ => .nil
  | n :: ns, h => by
    have z := ShAll.cons (sh_int (h n (by simp)).1 (h n (by simp)).2) (sh_ints (ns := ns) fun m hm => h m (by simp [hm]))
    refine ⟨z.1, z.2, z.3, Nat.le_trans z.4 ?_⟩
    rw [List.length_cons]
    omega
theorem Sh.len {B : Nat} {d : PyData} (h : Sh B d) (hB : B ≤ 1000000) : d.shown.length ≤ sizeLine := by
  have h2 := PyData.shown_le 13 (by decide) d h.3
  have h4 := h.4
  have e : sizeLine = 16777216 := by decide
  omega
theorem reprA {K : PySem.W.Frag} {H : Hp} {a : Addr} {d : PyData} {B : Nat} {Q : VK} (hd : Dp K H (.ref a) d) (h : Sh B d) (hB : B ≤ 1000000) (hdp : d.depth ≤ 60) (q : Q (.str d.shown) H) : rRepr K [.ref a] H Q := ⟨a, d, rfl, hd, h.1, h.2, hdp, h.len hB, q⟩
end Od

namespace Od
open PySem L2 Evl

/-! ### pictures -/
structure Pc where
  w : Int
  h : Int
  vs : List Int
  cs : List Int
structure Pc.Ok (m : Int) (p : Pc) : Prop where
  w1 : 1 ≤ p.w
  w2 : p.w ≤ m
  h1 : 1 ≤ p.h
  h2 : p.h ≤ m
  vl : (p.vs.length : Int) = p.w * p.h
  cl : (p.cs.length : Int) = p.w * p.h
  vb : ∀ v ∈ p.vs, 0 ≤ v ∧ v ≤ 255
  cb : ∀ v ∈ p.cs, 0 ≤ v ∧ v ≤ 256
def PcV (H : Hp) (v : V) (p : Pc) : Prop := ∃ a va ca, v = .ref a ∧ H a = some (.tup [.int p.w, .int p.h, .ref va, .ref ca]) ∧ H va = some (.tup (p.vs.map V.int)) ∧ H ca = some (.tup (p.cs.map V.int))
theorem PcV.tk {H H' : Hp} {v : V} {p : Pc} (e : TK H H') (h : PcV H v p) : PcV H' v p := by
  obtain ⟨a, va, ca, rfl, h1, h2, h3⟩ := h
  exact ⟨a, va, ca, rfl, e _ _ h1, e _ _ h2, e _ _ h3⟩
def pcD (p : Pc) : PyData := .tuple [.int p.w, .int p.h, .tuple (p.vs.map PyData.int), .tuple (p.cs.map PyData.int)]
theorem PcV.dp {K : PySem.W.Frag} {H : Hp} {v : V} {p : Pc} (h : PcV H v p) : Dp K H v (pcD p) := by
  obtain ⟨a, va, ca, rfl, h1, h2, h3⟩ := h
  exact .tup (SqT.of h1) (.cons (.int _) (.cons (.int _) (.cons (.tup (SqT.of h2) (DaAll.dp (da_ints _))) (.cons (.tup (SqT.of h3) (DaAll.dp (da_ints _))) .nil))))
theorem area_le {w h m : Int} (w1 : 1 ≤ w) (w2 : w ≤ m) (h1 : 1 ≤ h) (h2 : h ≤ m) : 1 ≤ w * h ∧ w * h ≤ m * m := by
  have a : 1 * 1 ≤ w * h := Int.mul_le_mul w1 h1 (by omega) (by omega)
  have b : w * h ≤ m * m := Int.mul_le_mul w2 h2 (by omega) (by omega)
  exact ⟨a, b⟩
theorem Pc.Ok.area {m : Int} {p : Pc} (k : p.Ok m) : 1 ≤ p.w * p.h ∧ p.w * p.h ≤ m * m := area_le k.w1 k.w2 k.h1 k.h2
theorem place_lt {w h x y : Int} (x0 : 0 ≤ x) (x1 : x < w) (y0 : 0 ≤ y) (y1 : y < h) : 0 ≤ y * w + x ∧ y * w + x < w * h := by
  have a : 0 ≤ y * w := Int.mul_nonneg y0 (by omega)
  have b : (y + 1) * w ≤ h * w := Int.mul_le_mul_of_nonneg_right (by omega) (by omega)
  rw [Int.add_mul, Int.one_mul, Int.mul_comm h w] at b
  omega
theorem getD_at {ns : List Int} {i : Nat} (h : i < ns.length) : ns.getD i 0 = ns[i] := by
  rw [List.getD_eq_getElem?_getD, List.getElem?_eq_getElem h]
  rfl
/-- what stands at a point -/
def Pc.In (p : Pc) (x y : Int) : Prop := 0 ≤ x ∧ x < p.w ∧ 0 ≤ y ∧ y < p.h
instance (p : Pc) (x y : Int) : Decidable (p.In x y) := inferInstanceAs (Decidable (_ ∧ _))
def Pc.at (p : Pc) (x y : Int) : Pt := if p.In x y then (p.vs.getD (y * p.w + x).toNat 0, p.cs.getD (y * p.w + x).toNat 0) else (0, 0)
theorem at_bound {m : Int} {p : Pc} (k : p.Ok m) (x y : Int) : 0 ≤ (p.at x y).1 ∧ (p.at x y).1 ≤ 255 ∧ 0 ≤ (p.at x y).2 ∧ (p.at x y).2 ≤ 256 := by
  unfold Pc.at
  split
  · rename_i h
    obtain ⟨a, b, c, d⟩ := h
    obtain ⟨e, f⟩ := place_lt a b c d
    have e1 : (y * p.w + x).toNat < p.vs.length := by have := k.vl; omega
    have e2 : (y * p.w + x).toNat < p.cs.length := by have := k.cl; omega
    rw [getD_at e1, getD_at e2]
    exact ⟨(k.vb _ (List.getElem_mem e1)).1, (k.vb _ (List.getElem_mem e1)).2, (k.cb _ (List.getElem_mem e2)).1, (k.cb _ (List.getElem_mem e2)).2⟩
  · exact ⟨by decide, by decide, by decide, by decide⟩
/-- the item of a tuple of ints at a place -/
theorem atD {ns : List Int} {i : Int} (h0 : 0 ≤ i) (h1 : i < ns.length) : atI (ns.map V.int) i = some (.int (ns.getD i.toNat 0)) := by
  obtain ⟨m, rfl⟩ := Int.eq_ofNat_of_zero_le h0
  have hm : m < ns.length := by omega
  have e : ((m : Int)).toNat = m := by omega
  rw [e, getD_at hm]
  exact atI_nat (by rw [List.getElem?_map, List.getElem?_eq_getElem hm]; rfl)
def spPoint (K : PySem.W.Frag) : Sp := fun vs H Q _ => ∃ v x y p m, vs = [v, .int x, .int y] ∧ PcV H v p ∧ p.Ok m ∧ m ≤ 60 ∧ ∀ w H', Ex H H' → PtV H' w (p.at x y) → Q w H'
theorem sh_pic {m : Int} {p : Pc} (k : p.Ok m) (hm : m ≤ 60) : Sh 300000 (pcD p) := by
  have hv := sh_ints (ns := p.vs) fun n hn => by have := k.vb n hn; omega
  have hc := sh_ints (ns := p.cs) fun n hn => by have := k.cb n hn; omega
  have z := (ShAll.cons (sh_int (i := p.w) (by have := k.w1; omega) (by have := k.w2; omega)) (.cons (sh_int (i := p.h) (by have := k.h1; omega) (by have := k.h2; omega)) (.cons hv.tup (.cons hc.tup .nil)))).tup
  refine z.mono ?_
  have a := k.area.2
  have b : m * m ≤ 60 * 60 := Int.mul_le_mul hm hm (by have := k.w1; have := k.w2; omega) (by decide)
  have := k.vl
  have := k.cl
  omega
theorem depth_ints : ∀ ns : List Int, PyData.depthAll (ns.map PyData.int) = 0
  | [] => by simp only [List.map_nil, PyData.depthAll]
  | n :: ns => by
    rw [List.map_cons]
    simp only [PyData.depthAll, PyData.depth, depth_ints ns, Nat.max_self]
theorem depth_pic (p : Pc) : (pcD p).depth ≤ 60 := by
  simp only [pcD, PyData.depth, PyData.depthAll, depth_ints]
  decide
theorem canLay_ints : ∀ ns : List Int, PyData.canLayAll0 (ns.map PyData.int) = true
  | [] => by simp only [List.map_nil, PyData.canLayAll0]
  | n :: ns => by
    rw [List.map_cons]
    simp only [PyData.canLayAll0, PyData.canLay0, canLay_ints ns, Bool.and_self]
end Od

namespace Od
open PySem L2 Evl

/-! ### the turns of a block, whatever is done in a turn -/
theorem turns {J : It} {n : Nat} {G : Hp → Prop} {Y : Nat → Hp → V → Hp → Prop} (w : Walk J n G Y) {B : V → Hp → (Hp → Prop) → Prop} {H0 : Hp} {Qd : Hp → Prop} (Pv : Nat → Hp → Prop) (h0 : Pv 0 H0) (hG : ∀ i H, i ≤ n → Pv i H → G H)
    (hs : ∀ i x H H', i < n → Pv i H → Y i H x H' → B x H' (Pv (i + 1))) (hd : ∀ H, Pv n H → Qd H) :
    ∃ W : Nat → Nat → Hp → Prop, (∃ m, W 0 m H0) ∧ ∀ i m H, W i m H →
      (J.stop i H ∧ Qd H) ∨ (J.go i H ∧ ∃ Nx : Hp → Prop, (∀ H', Nx H' → ∃ m', m' < m ∧ W (i + 1) m' H') ∧ ∀ x H', J.yld i H x H' → B x H' Nx) := by
  refine ⟨fun i m H => m = n - i ∧ i ≤ n ∧ Pv i H, ⟨n, by simp, Nat.zero_le _, h0⟩, ?_⟩
  rintro i m H ⟨rfl, hi, p⟩
  have q := hG i H hi p
  by_cases hlt : i < n
  · exact .inr ⟨w.goes i H hlt q, Pv (i + 1), fun H' p' => ⟨n - (i + 1), by omega, rfl, hlt, p'⟩, fun x H' y => hs i x H H' hlt p (w.yields i H x H' hlt q y)⟩
  · have e : i = n := by omega
    subst e
    exact .inl ⟨w.stops H q, hd H p⟩
theorem turns_range {lo : Int} {n : Nat} {B : V → Hp → (Hp → Prop) → Prop} {H0 : Hp} {Qd : Hp → Prop} (Pv : Nat → Hp → Prop) (h0 : Pv 0 H0) (hs : ∀ i H, i < n → Pv i H → B (.int (lo + (i : Nat))) H (Pv (i + 1))) (hd : ∀ H, Pv n H → Qd H) :
    ∃ W : Nat → Nat → Hp → Prop, (∃ m, W 0 m H0) ∧ ∀ i m H, W i m H →
      ((Itr lo n).stop i H ∧ Qd H) ∨ ((Itr lo n).go i H ∧ ∃ Nx : Hp → Prop, (∀ H', Nx H' → ∃ m', m' < m ∧ W (i + 1) m' H') ∧ ∀ x H', (Itr lo n).yld i H x H' → B x H' Nx) :=
  turns walk_range Pv h0 (fun _ _ _ _ => trivial) (fun i x H H' hi p y => by
    obtain ⟨rfl, rfl⟩ := y
    exact hs i H' hi p) hd

/-! ### a picture made point by point -/
def cells (w h : Int) (g : Int → Int → Pt) : List Pt := (List.range (w * h).toNat).map fun (k : Nat) => g ((k : Int) % w) ((k : Int) / w)
def mkP (w h : Int) (g : Int → Int → Pt) : Pc := ⟨w, h, (cells w h g).map Prod.fst, (cells w h g).map Prod.snd⟩
theorem mkP_at {w h x y : Int} {g : Int → Int → Pt} (x0 : 0 ≤ x) (x1 : x < w) (y0 : 0 ≤ y) (y1 : y < h) : (mkP w h g).at x y = g x y := by
  obtain ⟨b0, b1⟩ := place_lt x0 x1 y0 y1
  unfold Pc.at
  rw [if_pos ⟨x0, x1, y0, y1⟩]
  have hk : (y * w + x).toNat < (w * h).toNat := by omega
  have e1 : ((y * w + x).toNat : Int) % w = x := by
    rw [Int.toNat_of_nonneg b0, Int.add_comm, Int.add_mul_emod_self_right, Int.emod_eq_of_lt x0 x1]
  have e2 : ((y * w + x).toNat : Int) / w = y := by
    rw [Int.toNat_of_nonneg b0, Int.add_comm, Int.add_mul_ediv_right _ _ (by omega), Int.ediv_eq_zero_of_lt x0 x1, Int.zero_add]
  have l1 : (y * w + x).toNat < ((cells w h g).map Prod.fst).length := by
    unfold cells
    rw [List.length_map, List.length_map, List.length_range]
    exact hk
  have l2 : (y * w + x).toNat < ((cells w h g).map Prod.snd).length := by
    unfold cells
    rw [List.length_map, List.length_map, List.length_range]
    exact hk
  show (((cells w h g).map Prod.fst).getD (y * w + x).toNat 0, ((cells w h g).map Prod.snd).getD (y * w + x).toNat 0) = g x y
  rw [getD_at l1, getD_at l2]
  simp only [cells, List.getElem_map, List.getElem_range]
  rw [e1, e2]
theorem mkP_out {w h x y : Int} {g : Int → Int → Pt} (no : ¬ (0 ≤ x ∧ x < w ∧ 0 ≤ y ∧ y < h)) : (mkP w h g).at x y = (0, 0) := by
  unfold Pc.at
  exact if_neg no
theorem mkP_ok {w h m : Int} {g : Int → Int → Pt} (w1 : 1 ≤ w) (w2 : w ≤ m) (h1 : 1 ≤ h) (h2 : h ≤ m) (hg : ∀ x y, 0 ≤ (g x y).1 ∧ (g x y).1 ≤ 255 ∧ 0 ≤ (g x y).2 ∧ (g x y).2 ≤ 256) : (mkP w h g).Ok m := by
  obtain ⟨a1, a2⟩ := area_le w1 w2 h1 h2
  refine ⟨w1, w2, h1, h2, ?_, ?_, ?_, ?_⟩
  · show (((cells w h g).map Prod.fst).length : Int) = w * h
    unfold cells
    rw [List.length_map, List.length_map, List.length_range]
    omega
  · show (((cells w h g).map Prod.snd).length : Int) = w * h
    unfold cells
    rw [List.length_map, List.length_map, List.length_range]
    omega
  · intro v hv
    obtain ⟨q, hq, rfl⟩ := List.mem_map.mp hv
    obtain ⟨k, _, rfl⟩ := List.mem_map.mp hq
    exact ⟨(hg _ _).1, (hg _ _).2.1⟩
  · intro v hv
    obtain ⟨q, hq, rfl⟩ := List.mem_map.mp hv
    obtain ⟨k, _, rfl⟩ := List.mem_map.mp hq
    exact (hg _ _).2.2
theorem pc_ext {p q : Pc} {m n : Int} (hp : p.Ok m) (hq : q.Ok n) (hw : p.w = q.w) (hh : p.h = q.h) (h : ∀ x y, p.In x y → p.at x y = q.at x y) : p = q := by
  obtain ⟨w, hg, vs, cs⟩ := p
  obtain ⟨w', hg', vs', cs'⟩ := q
  dsimp only at hw hh
  subst hw hh
  have vl := hp.vl
  have cl := hp.cl
  have vl' := hq.vl
  have cl' := hq.cl
  dsimp only at vl cl vl' cl'
  have w1 := hp.w1
  dsimp only at w1
  have key : ∀ k : Nat, k < vs.length → vs.getD k 0 = vs'.getD k 0 ∧ cs.getD k 0 = cs'.getD k 0 := by
    intro k hk
    have d := Int.emod_add_mul_ediv (k : Int) w
    have x0 := Int.emod_nonneg (k : Int) (b := w) (by omega)
    have x1 := Int.emod_lt_of_pos (k : Int) (b := w) (by omega)
    have y0 : 0 ≤ (k : Int) / w := Int.ediv_nonneg (by omega) (by omega)
    have y1 : (k : Int) / w < hg := by
      refine Int.ediv_lt_of_lt_mul (by omega) ?_
      rw [Int.mul_comm]
      omega
    have hin : (⟨w, hg, vs, cs⟩ : Pc).In ((k : Int) % w) ((k : Int) / w) := ⟨x0, x1, y0, y1⟩
    have e := h _ _ hin
    have hin' : (⟨w, hg, vs', cs'⟩ : Pc).In ((k : Int) % w) ((k : Int) / w) := ⟨x0, x1, y0, y1⟩
    unfold Pc.at at e
    rw [if_pos hin, if_pos hin'] at e
    dsimp only at e
    have ek : (((k : Int) / w) * w + (k : Int) % w).toNat = k := by
      rw [Int.mul_comm]
      omega
    rw [ek] at e
    exact ⟨(Prod.mk.inj e).1, (Prod.mk.inj e).2⟩
  have e1 : vs = vs' := by
    refine List.ext_getElem (by omega) fun k h1 h2 => ?_
    have := (key k h1).1
    rw [getD_at h1, getD_at h2] at this
    exact this
  have e2 : cs = cs' := by
    refine List.ext_getElem (by omega) fun k h1 h2 => ?_
    have := (key k (by omega)).2
    rw [getD_at h1, getD_at h2] at this
    exact this
  subst e1 e2
  rfl
/-- row by row -/
theorem cells_take {w h : Int} {g : Int → Int → Pt} {i j : Nat} (hj : (j : Int) < w) (hi : (i : Int) < h) : (cells w h g).take (i * w.toNat + j + 1) = (cells w h g).take (i * w.toNat + j) ++ [g j i] := by
  obtain ⟨b0, b1⟩ := place_lt (x := (j : Int)) (y := (i : Int)) (by omega) hj (by omega) hi
  have hw : ((i * w.toNat + j : Nat) : Int) = (i : Int) * w + j := by
    rw [Int.natCast_add, Int.natCast_mul, Int.toNat_of_nonneg (by omega)]
  have hk : i * w.toNat + j < (w * h).toNat := by omega
  rw [List.take_add_one]
  congr 1
  unfold cells
  rw [List.getElem?_map, List.getElem?_range hk]
  show [g (((i * w.toNat + j : Nat) : Int) % w) (((i * w.toNat + j : Nat) : Int) / w)] = _
  rw [hw, Int.add_comm, Int.add_mul_emod_self_right, Int.emod_eq_of_lt (by omega) hj, Int.add_mul_ediv_right _ _ (by omega), Int.ediv_eq_zero_of_lt (by omega) hj, Int.zero_add]
theorem cells_len {w h : Int} {g : Int → Int → Pt} : (cells w h g).length = (w * h).toNat := by
  unfold cells
  rw [List.length_map, List.length_range]
theorem pc_lay (p : Pc) : (pcD p).canLay0 = true := by
  simp only [pcD, PyData.canLay0, PyData.canLayAll0, canLay_ints, Bool.and_self]
theorem shaped_of {d : PyData} (h : d.canLay0 = true) (hd : d.depth ≤ 64) : SeqAt.shaped d = true := by
  unfold SeqAt.shaped
  rw [h, decide_eq_true hd]
  rfl
theorem pc_shaped (p : Pc) : SeqAt.shaped (pcD p) = true := shaped_of (pc_lay p) (by have := depth_pic p; omega)
theorem pt_shaped (q : Pt) : SeqAt.shaped (ptD q) = true := eqs_pt.shaped (by decide) q
theorem pt_self (q : Pt) : PyData.eqv (ptD q) (ptD q) = true := by rw [eqs_pt.1, decide_eq_true rfl]
theorem pc_self (p : Pc) : PyData.eqv (pcD p) (pcD p) = true := eqv_self (pc_lay p)
theorem mkP_congr {w h : Int} {g k : Int → Int → Pt} (hw : 0 < w) (hh : 0 < h) (e : ∀ x y, 0 ≤ x → x < w → 0 ≤ y → y < h → g x y = k x y) : mkP w h g = mkP w h k := by
  unfold mkP
  have e2 : cells w h g = cells w h k := by
    unfold cells
    refine List.map_congr_left fun i hi => ?_
    have hi := List.mem_range.mp hi
    have a : (0 : Int) ≤ w * h := Int.mul_nonneg (by omega) (by omega)
    refine e _ _ (Int.emod_nonneg _ (by omega)) (Int.emod_lt_of_pos _ hw) (Int.ediv_nonneg (by omega) (by omega)) ?_
    refine Int.ediv_lt_of_lt_mul hw ?_
    rw [Int.mul_comm]
    omega
  rw [e2]
theorem mkP_self {p : Pc} {m : Int} (k : p.Ok m) {g : Int → Int → Pt} (e : ∀ x y, p.In x y → g x y = p.at x y) (hg : ∀ x y, 0 ≤ (g x y).1 ∧ (g x y).1 ≤ 255 ∧ 0 ≤ (g x y).2 ∧ (g x y).2 ≤ 256) : mkP p.w p.h g = p := by
  refine pc_ext (mkP_ok k.w1 k.w2 k.h1 k.h2 hg) k rfl rfl fun x y hi => ?_
  obtain ⟨a, b, c, d⟩ := hi
  have z := mkP_at (w := p.w) (h := p.h) (g := g) a b c d
  rw [z]
  exact e x y ⟨a, b, c, d⟩
end Od

namespace Od
open PySem L2 Evl
/-- what a layer's value becomes: a mode as a value of its own -/
inductive Md where
  | over | add | times | invert | shift (n : Int)
deriving DecidableEq
def Md.word : Md → Str
  | .over => "over" | .add => "add" | .times => "times" | .invert => "invert" | .shift _ => "shift"
def Md.rest : Md → List V
  | .shift n => [.int n]
  | _ => []
def Md.items (m : Md) : List V := .str m.word :: m.rest
theorem Md.at0 (m : Md) : atI m.items 0 = some (.str m.word) := by cases m <;> rfl
theorem Md.ne_invert {m : Md} (h : m ≠ .invert) : m.word ≠ "invert" := by
  cases m with
  | invert => exact absurd rfl h
  | shift _ => show Str.ofString "shift" ≠ _; decide +kernel
  | _ => decide +kernel
theorem Md.ne_over {m : Md} (h : m ≠ .over) : m.word ≠ "over" := by
  cases m with
  | over => exact absurd rfl h
  | shift _ => show Str.ofString "shift" ≠ _; decide +kernel
  | _ => decide +kernel
def Md.Ok : Md → Prop
  | .shift n => -255 ≤ n ∧ n ≤ 255
  | _ => True
def MdV (H : Hp) (v : V) (m : Md) : Prop := ∃ a, v = .ref a ∧ H a = some (.tup m.items)
theorem MdV.ex {H H' : Hp} {v : V} {m : Md} (e : Ex H H') (h : MdV H v m) : MdV H' v m := by
  obtain ⟨a, rfl, ha⟩ := h
  exact ⟨a, rfl, e _ _ ha⟩
theorem MdV.tk {H H' : Hp} {v : V} {m : Md} (e : TK H H') (h : MdV H v m) : MdV H' v m := by
  obtain ⟨a, rfl, ha⟩ := h
  exact ⟨a, rfl, e _ _ ha⟩
/-- the lesser one of 255 and a value, the greater one of 0 and a value -/
def lo255 (x : Int) : Int := if x < 255 then x else 255
def hi0 (x : Int) : Int := if x > 0 then x else 0
def Md.to : Md → Int → Int → Int
  | .over, _, p => p
  | .add, v, p => lo255 (v + p)
  | .times, v, p => v * p / 255
  | .invert, v, _ => 255 - v
  | .shift n, v, _ => hi0 (lo255 (v + n))
def Md.mix (m : Md) (v p c : Int) : Int := v + (m.to v p - v) * c / 256
theorem times_le {v p : Int} (v0 : 0 ≤ v) (v1 : v ≤ 255) (p0 : 0 ≤ p) (p1 : p ≤ 255) : 0 ≤ v * p / 255 ∧ v * p / 255 ≤ 255 := by
  have h0 : 0 ≤ v * p := Int.mul_nonneg v0 p0
  have h1 : v * p ≤ 255 * 255 := Int.le_trans (Int.mul_le_mul_of_nonneg_right v1 p0) (Int.mul_le_mul_of_nonneg_left p1 (by decide))
  omega
theorem Md.to_in (m : Md) {v p : Int} (v0 : 0 ≤ v) (v1 : v ≤ 255) (p0 : 0 ≤ p) (p1 : p ≤ 255) : 0 ≤ m.to v p ∧ m.to v p ≤ 255 := by
  cases m with
  | over => exact ⟨p0, p1⟩
  | add => show 0 ≤ lo255 _ ∧ lo255 _ ≤ 255; unfold lo255; split <;> omega
  | times => exact times_le v0 v1 p0 p1
  | invert => show 0 ≤ 255 - v ∧ 255 - v ≤ 255; omega
  | shift n => show 0 ≤ hi0 _ ∧ hi0 _ ≤ 255; unfold hi0 lo255; split <;> split <;> omega
/-- between a value and a goal -/
theorem mix_between {v g c : Int} (c0 : 0 ≤ c) (c1 : c ≤ 256) : (v ≤ g → v ≤ v + (g - v) * c / 256 ∧ v + (g - v) * c / 256 ≤ g) ∧ (g ≤ v → g ≤ v + (g - v) * c / 256 ∧ v + (g - v) * c / 256 ≤ v) := by
  refine ⟨fun h => ?_, fun h => ?_⟩
  · have a0 : 0 ≤ (g - v) * c := Int.mul_nonneg (by omega) c0
    have a1 : (g - v) * c ≤ (g - v) * 256 := Int.mul_le_mul_of_nonneg_left c1 (by omega)
    omega
  · have a0 : 0 ≤ (v - g) * c := Int.mul_nonneg (by omega) c0
    have a1 : (v - g) * c ≤ (v - g) * 256 := Int.mul_le_mul_of_nonneg_left c1 (by omega)
    have e : (g - v) * c = -((v - g) * c) := by rw [← Int.neg_mul]; congr 1; omega
    rw [e]
    omega
theorem Md.mix_in (m : Md) {v p c : Int} (v0 : 0 ≤ v) (v1 : v ≤ 255) (p0 : 0 ≤ p) (p1 : p ≤ 255) (c0 : 0 ≤ c) (c1 : c ≤ 256) : 0 ≤ m.mix v p c ∧ m.mix v p c ≤ 255 := by
  obtain ⟨t0, t1⟩ := m.to_in v0 v1 p0 p1
  obtain ⟨h1, h2⟩ := mix_between (v := v) (g := m.to v p) c0 c1
  unfold Md.mix
  by_cases h : v ≤ m.to v p
  · have := h1 h; omega
  · have := h2 (by omega); omega
theorem Md.mix_zero (m : Md) (v p : Int) : m.mix v p 0 = v := by
  unfold Md.mix
  rw [Int.mul_zero]
  omega
theorem Md.mix_full (m : Md) (v p : Int) : m.mix v p 256 = m.to v p := by
  unfold Md.mix
  omega
theorem mix_eq (v g c : Int) : v + (g - v) * c / 256 = (256 * v + (g - v) * c) / 256 := by omega
theorem mix_mono {v w g h c : Int} (hv : v ≤ w) (hg : g ≤ h) (c0 : 0 ≤ c) (c1 : c ≤ 256) : v + (g - v) * c / 256 ≤ w + (h - w) * c / 256 := by
  rw [mix_eq, mix_eq]
  have a : v * (256 - c) ≤ w * (256 - c) := Int.mul_le_mul_of_nonneg_right hv (by omega)
  have b : g * c ≤ h * c := Int.mul_le_mul_of_nonneg_right hg c0
  have e1 : 256 * v + (g - v) * c = v * (256 - c) + g * c := by rw [Int.sub_mul, Int.mul_sub]; omega
  have e2 : 256 * w + (h - w) * c = w * (256 - c) + h * c := by rw [Int.sub_mul, Int.mul_sub]; omega
  rw [e1, e2]
  omega
theorem Md.to_mono (m : Md) {v w p : Int} (hm : m ≠ .invert) (hv : v ≤ w) (p0 : 0 ≤ p) : m.to v p ≤ m.to w p := by
  cases m with
  | over => exact Int.le_refl _
  | add => show lo255 _ ≤ lo255 _; unfold lo255; split <;> split <;> omega
  | times =>
    show v * p / 255 ≤ w * p / 255
    have := Int.mul_le_mul_of_nonneg_right hv p0
    omega
  | invert => exact absurd rfl hm
  | shift n =>
    have e : lo255 (v + n) ≤ lo255 (w + n) := by unfold lo255; split <;> split <;> omega
    show hi0 _ ≤ hi0 _
    unfold hi0
    split <;> split <;> omega
theorem Md.mix_mono (m : Md) {v w p c : Int} (hm : m ≠ .invert) (hv : v ≤ w) (p0 : 0 ≤ p) (c0 : 0 ≤ c) (c1 : c ≤ 256) : m.mix v p c ≤ m.mix w p c :=
  Od.mix_mono hv (m.to_mono hm hv p0) c0 c1
theorem iteW {a b : Str} {A B : Prop} (h : a ≠ b) (q : B) : if decide (V.str a = V.str b) = true then A else B := by
  rw [decide_eq_false fun e => h (V.str.inj e)]
  exact q
theorem iteE {a b : Str} {A B : Prop} (h : a = b) (q : A) : if decide (V.str a = V.str b) = true then A else B := by
  rw [decide_eq_true (congrArg V.str h)]
  exact q
theorem iteWn {a b : Str} {A B : Prop} (h : a ≠ b) (q : A) : if (!decide (V.str a = V.str b)) = true then A else B := by
  rw [decide_eq_false fun e => h (V.str.inj e)]
  exact q
theorem iteEn {a b : Str} {A B : Prop} (h : a = b) (q : B) : if (!decide (V.str a = V.str b)) = true then A else B := by
  rw [decide_eq_true (congrArg V.str h)]
  exact q
theorem iteD {p : Prop} [Decidable p] {A B : Prop} (h : p) (q : A) : if decide p = true then A else B := by
  rw [decide_eq_true h]
  exact q
theorem iteN {p : Prop} [Decidable p] {A B : Prop} (h : ¬ p) (q : B) : if decide p = true then A else B := by
  rw [decide_eq_false h]
  exact q
theorem iteDn {p : Prop} [Decidable p] {A B : Prop} (h : p) (q : B) : if (!decide p) = true then A else B := by
  rw [decide_eq_true h]
  exact q
theorem iteNn {p : Prop} [Decidable p] {A B : Prop} (h : ¬ p) (q : A) : if (!decide p) = true then A else B := by
  rw [decide_eq_false h]
  exact q
def spBlend (K : PySem.W.Frag) (g : Md → Int → Int → Int → Int) : Sp := fun vs H Q _ => ∃ mv m v p c, vs = [mv, .int v, .int p, .int c] ∧ MdV H mv m ∧ m.Ok ∧ 0 ≤ v ∧ v ≤ 255 ∧ 0 ≤ p ∧ p ≤ 255 ∧ 0 ≤ c ∧ c ≤ 256 ∧ Q (.int (g m v p c)) H
end Od

namespace Od
open PySem L2 Evl
/-- a paint as a value of its own -/
inductive Pa where
  | solid (v : Int) | steps (f s z : Int) | pic (p : Pc)
def Pa.word : Pa → Str
  | .solid _ => "solid" | .steps _ _ _ => "steps" | .pic _ => "picture"
def PaV (H : Hp) (v : V) : Pa → Prop
  | .solid x => ∃ a, v = .ref a ∧ H a = some (.tup [.str "solid", .int x])
  | .steps f s z => ∃ a, v = .ref a ∧ H a = some (.tup [.str "steps", .int f, .int s, .int z])
  | .pic p => ∃ a u, v = .ref a ∧ H a = some (.tup [.str "picture", u]) ∧ PcV H u p
theorem PaV.tk {H H' : Hp} {v : V} {p : Pa} (e : TK H H') (h : PaV H v p) : PaV H' v p := by
  cases p with
  | solid x => obtain ⟨a, rfl, ha⟩ := h; exact ⟨a, rfl, e _ _ ha⟩
  | steps f s z => obtain ⟨a, rfl, ha⟩ := h; exact ⟨a, rfl, e _ _ ha⟩
  | pic p => obtain ⟨a, u, rfl, ha, hu⟩ := h; exact ⟨a, u, rfl, e _ _ ha, hu.tk e⟩
def Pa.Ok (m : Int) : Pa → Prop
  | .solid x => 0 ≤ x ∧ x ≤ 255
  | .steps f s z => 0 ≤ f ∧ f ≤ 255 ∧ 0 ≤ s ∧ s ≤ 255 ∧ 1 ≤ z ∧ z ≤ 12
  | .pic p => p.Ok m
def Pa.D : Pa → PyData
  | .solid x => .tuple [.str "solid", .int x]
  | .steps f s z => .tuple [.str "steps", .int f, .int s, .int z]
  | .pic p => .tuple [.str "picture", pcD p]
theorem PaV.dp {K : PySem.W.Frag} {H : Hp} {v : V} {p : Pa} (h : PaV H v p) : Dp K H v p.D := by
  cases p with
  | solid x => obtain ⟨a, rfl, ha⟩ := h; exact .tup (SqT.of ha) (.cons (.str _) (.cons (.int _) .nil))
  | steps f s z => obtain ⟨a, rfl, ha⟩ := h; exact .tup (SqT.of ha) (.cons (.str _) (.cons (.int _) (.cons (.int _) (.cons (.int _) .nil))))
  | pic p => obtain ⟨a, u, rfl, ha, hu⟩ := h; exact .tup (SqT.of ha) (.cons (.str _) (.cons hu.dp .nil))
/-- a paint, or None -/
def OpV (H : Hp) (v : V) : Option Pa → Prop
  | none => v = .non
  | some p => PaV H v p
theorem OpV.tk {H H' : Hp} {v : V} {o : Option Pa} (e : TK H H') (h : OpV H v o) : OpV H' v o := by
  cases o with
  | none => exact h
  | some p => exact PaV.tk e h
def opD : Option Pa → PyData
  | none => .none
  | some p => p.D
theorem OpV.dp {K : PySem.W.Frag} {H : Hp} {v : V} {o : Option Pa} (h : OpV H v o) : Dp K H v (opD o) := by
  cases o with
  | none => cases h; exact .non
  | some p => exact PaV.dp h
def opOk (m : Int) : Option Pa → Prop
  | none => True
  | some p => p.Ok m
/-- a clip -/
structure Cl where
  s : Int
  n : Int
  pa : Option Pa
  fi : Int
  fo : Int
structure Cl.Ok (m : Int) (c : Cl) : Prop where
  s0 : 0 ≤ c.s
  s1 : c.s ≤ m
  n1 : 1 ≤ c.n
  n2 : c.n ≤ 400
  fi0 : 0 ≤ c.fi
  fo0 : 0 ≤ c.fo
  fs : c.fi + c.fo ≤ c.n
  pa : opOk 3 c.pa
def Cl.items (c : Cl) (u : V) : List V := [.int c.s, .int c.n, u, .int c.fi, .int c.fo]
def ClV (H : Hp) (v : V) (c : Cl) : Prop := ∃ a u, v = .ref a ∧ H a = some (.tup (c.items u)) ∧ OpV H u c.pa
theorem ClV.tk {H H' : Hp} {v : V} {c : Cl} (e : TK H H') (h : ClV H v c) : ClV H' v c := by
  obtain ⟨a, u, rfl, ha, hu⟩ := h
  exact ⟨a, u, rfl, e _ _ ha, hu.tk e⟩
def Cl.fin (c : Cl) : Int := c.s + c.n
def Cl.lev (c : Cl) (f : Int) : Int := if f - c.s < c.fi then 256 * (f - c.s + 1) / (c.fi + 1) else if c.n - (f - c.s) - 1 < c.fo then 256 * (c.n - (f - c.s) - 1 + 1) / (c.fo + 1) else 256
def spLevel (K : PySem.W.Frag) : Sp := fun vs H Q _ => ∃ cv c m f, vs = [cv, .int f] ∧ ClV H cv c ∧ c.Ok m ∧ m ≤ 100000 ∧ c.s ≤ f ∧ f < c.fin ∧ Q (.int (c.lev f)) H
def spEnd (K : PySem.W.Frag) : Sp := fun vs H Q _ => ∃ cv c, vs = [cv] ∧ ClV H cv c ∧ Q (.int c.fin) H
theorem Cl.lev_in {m : Int} {c : Cl} (k : c.Ok m) {f : Int} (h0 : c.s ≤ f) (h1 : f < c.fin) : 0 ≤ c.lev f ∧ c.lev f ≤ 256 := by
  have := k.fi0
  have := k.fo0
  unfold Cl.lev
  unfold Cl.fin at h1
  have aux : ∀ x y : Int, 0 ≤ x → x < y → 0 ≤ 256 * (x + 1) / (y + 1) ∧ 256 * (x + 1) / (y + 1) ≤ 256 := fun x y x0 xy => by
    refine ⟨Int.ediv_nonneg (by omega) (by omega), ?_⟩
    have : 256 * (x + 1) / (y + 1) < 257 := Int.ediv_lt_of_lt_mul (by omega) (by omega)
    omega
  split
  · exact aux _ _ (by omega) (by omega)
  · split
    · exact aux _ _ (by omega) (by omega)
    · omega
/-- a list of so many ints of this kind stands at D -/
def IntsIn (H : Hp) (D : Addr) (n : Nat) (P : Int → Prop) : Prop := ∃ ns : List Int, H D = some (.lst (ns.map V.int)) ∧ ns.length = n ∧ ∀ x ∈ ns, P x
theorem IntsIn.snoc {H0 H H2 : Hp} {D : Addr} {n : Nat} {P : Int → Prop} {x : Int} (hD : H0 D = none) (e : Ex H0 H) (h : IntsIn H D n P) (e2 : Ex H H2) (hn : n ≤ 1000) (hx : P x) : ∃ acc, H2 D = some (.lst acc) ∧ acc.length < sizeLine ∧ Ex H0 (upd H2 D (.lst (acc ++ [.int x]))) ∧ IntsIn (upd H2 D (.lst (acc ++ [.int x]))) D (n + 1) P := by
  obtain ⟨ns, h1, h2, h3⟩ := h
  refine ⟨_, e2 _ _ h1, slineL (by rw [List.length_map]; omega), (e.trans e2).mut hD, ns ++ [x], by rw [upd_same, List.map_append]; rfl, by simp [h2], fun y hy => ?_⟩
  rcases List.mem_append.mp hy with z | z
  · exact h3 y z
  · rw [List.mem_singleton.mp z]
    exact hx
end Od

namespace Od
open PySem L2 Evl
def Pa.at : Pa → Int → Int → Pt
  | .solid v, _, _ => (v, 256)
  | .steps f s z, x, y => (if (x / z + y / z) % 2 = 0 then f else s, 256)
  | .pic p, x, y => p.at x y
def opAt : Option Pa → Int → Int → Pt
  | none, _, _ => (0, 256)
  | some p, x, y => p.at x y
theorem opAt_in {m : Int} {o : Option Pa} (k : opOk m o) (x y : Int) : 0 ≤ (opAt o x y).1 ∧ (opAt o x y).1 ≤ 255 ∧ 0 ≤ (opAt o x y).2 ∧ (opAt o x y).2 ≤ 256 := by
  cases o with
  | none => show (0 : Int) ≤ 0 ∧ (0 : Int) ≤ 255 ∧ (0 : Int) ≤ 256 ∧ (256 : Int) ≤ 256; decide
  | some p =>
    cases p with
    | solid v => exact ⟨k.1, k.2, by show (0 : Int) ≤ 256; decide, by show (256 : Int) ≤ 256; decide⟩
    | steps f s z =>
      obtain ⟨a, b, c, d, _, _⟩ := k
      refine ⟨?_, ?_, by show (0 : Int) ≤ 256; decide, by show (256 : Int) ≤ 256; decide⟩
      · show 0 ≤ if (x / z + y / z) % 2 = 0 then f else s
        split <;> omega
      · show (if (x / z + y / z) % 2 = 0 then f else s) ≤ 255
        split <;> omega
    | pic p => exact at_bound k x y
/-- a paint's value and cover at a point -/
def spAt (K : PySem.W.Frag) : Sp := fun vs H Q _ => ∃ v o m x y, vs = [v, .int x, .int y] ∧ OpV H v o ∧ opOk m o ∧ m ≤ 60 ∧ 0 ≤ x ∧ x ≤ 1000 ∧ 0 ≤ y ∧ y ≤ 1000 ∧ ∀ u H', Ex H H' → PtV H' u (opAt o x y) → Q u H'
theorem PaV.mk {H : Hp} {v : V} {p : Pa} (h : PaV H v p) : ∃ a xs, v = .ref a ∧ H a = some (.tup (.str p.word :: xs)) := by
  cases p with
  | solid x => obtain ⟨a, rfl, ha⟩ := h; exact ⟨a, _, rfl, ha⟩
  | steps f s z => obtain ⟨a, rfl, ha⟩ := h; exact ⟨a, _, rfl, ha⟩
  | pic p => obtain ⟨a, u, rfl, ha, _⟩ := h; exact ⟨a, _, rfl, ha⟩
theorem steps_two {f s z x y : Int} (hz : 1 ≤ z) : Pa.at (.steps f s z) (x + 2 * z) y = Pa.at (.steps f s z) x y ∧ Pa.at (.steps f s z) x (y + 2 * z) = Pa.at (.steps f s z) x y := by
  have e : ∀ t : Int, (t + 2 * z) / z = t / z + 2 := fun t => Int.add_mul_ediv_right t 2 (by omega)
  unfold Pa.at
  dsimp only
  rw [e, e]
  constructor
  · congr 1
    have : (x / z + 2 + y / z) % 2 = (x / z + y / z) % 2 := by omega
    rw [this]
  · congr 1
    have : (x / z + (y / z + 2)) % 2 = (x / z + y / z) % 2 := by omega
    rw [this]
theorem steps_one {f s z x y : Int} (hz : 1 ≤ z) : Pa.at (.steps f s z) (x + z) y = (f + s - (Pa.at (.steps f s z) x y).1, 256) ∧ Pa.at (.steps f s z) x (y + z) = (f + s - (Pa.at (.steps f s z) x y).1, 256) := by
  have e : ∀ t : Int, (t + z) / z = t / z + 1 := fun t => by
    have := Int.add_mul_ediv_right t 1 (show z ≠ 0 by omega)
    rwa [Int.one_mul] at this
  unfold Pa.at
  dsimp only
  rw [e, e]
  constructor
  · congr 1
    split <;> split <;> omega
  · congr 1
    split <;> split <;> omega
end Od

namespace Od
open PySem L2 Evl
theorem at_head {x : V} {xs : List V} : atI (x :: xs) 0 = some x := by
  have e := atI_nat (xs := x :: xs) (j := 0) (v := x) rfl
  exact e
theorem cutV_mid {xs : List V} {lo hi : Int} (l0 : 0 ≤ lo) (lh : lo ≤ hi) (hh : hi ≤ xs.length) : cutV xs (some lo) (some hi) = (xs.drop lo.toNat).take (hi - lo).toNat := by
  unfold cutV
  obtain ⟨l, rfl⟩ := Int.eq_ofNat_of_zero_le l0
  obtain ⟨h, rfl⟩ := Int.eq_ofNat_of_zero_le (Int.le_trans l0 lh)
  rw [HT.sIx_nat, HT.sIx_nat, Nat.min_eq_left (by omega), Nat.min_eq_left (by omega)]
  congr 1
  omega
/-- its cover is 256 at each point of this size -/
def Full (o : Option Pa) (w h : Int) : Prop := o.isSome = true ∧ ∀ x y, 0 ≤ x → x < w → 0 ≤ y → y < h → (opAt o x y).2 = 256
theorem Full.less {o : Option Pa} {w h w' h' : Int} (f : Full o w h) (hw : w' ≤ w) (hh : h' ≤ h) : Full o w' h' := ⟨f.1, fun x y x0 x1 y0 y1 => f.2 x y x0 (by omega) y0 (by omega)⟩
def spFull (K : PySem.W.Frag) : Sp := fun vs H Q _ => ∃ v o m wd hg, vs = [v, .int wd, .int hg] ∧ OpV H v o ∧ opOk m o ∧ m ≤ 12 ∧ 1 ≤ wd ∧ wd ≤ 100 ∧ 1 ≤ hg ∧ hg ≤ 100 ∧ ∀ b H', Ex H H' → (b = true ↔ Full o wd hg) → Q (.bl b) H'
end Od

namespace Od
open PySem L2 Evl
structure Ly where
  m : Md
  lv : Int
  pa : Option Pa
structure Ly.Ok (l : Ly) : Prop where
  m : l.m.Ok
  l0 : 0 ≤ l.lv
  l1 : l.lv ≤ 256
  pa : opOk 8 l.pa
def LyV (H : Hp) (v : V) (l : Ly) : Prop := ∃ a mv pv, v = .ref a ∧ H a = some (.tup [mv, .int l.lv, pv]) ∧ MdV H mv l.m ∧ OpV H pv l.pa
theorem LyV.tk {H H' : Hp} {v : V} {l : Ly} (e : TK H H') (h : LyV H v l) : LyV H' v l := by
  obtain ⟨a, mv, pv, rfl, ha, hm, hp⟩ := h
  exact ⟨a, mv, pv, rfl, e _ _ ha, hm.tk e, hp.tk e⟩
abbrev LysV (H : Hp) : List V → List Ly → Prop := Paired (LyV H)
theorem LysV.tk {H H' : Hp} {vs : List V} {ls : List Ly} (e : TK H H') (h : LysV H vs ls) : LysV H' vs ls := Paired.mapP h fun _ _ => LyV.tk e
theorem pr_take {α β : Type} {G : α → β → Prop} : ∀ {l₁ : List α} {l₂ : List β} (n : Nat), Paired G l₁ l₂ → Paired G (l₁.take n) (l₂.take n)
  | _, _, 0, _ => by simp only [List.take_zero]; exact .nil
  | _, _, _ + 1, .nil => by simp only [List.take_nil]; exact .nil
  | _, _, n + 1, .cons h t => by simp only [List.take_succ_cons]; exact .cons h (pr_take n t)
theorem pr_drop {α β : Type} {G : α → β → Prop} : ∀ {l₁ : List α} {l₂ : List β} (n : Nat), Paired G l₁ l₂ → Paired G (l₁.drop n) (l₂.drop n)
  | _, _, 0, h => h
  | _, _, _ + 1, .nil => by simp only [List.drop_nil]; exact .nil
  | _, _, n + 1, .cons h t => by simp only [List.drop_succ_cons]; exact pr_drop n t
theorem cutV_take {xs : List V} {k : Nat} (h : k ≤ xs.length) : cutV xs none (some (k : Int)) = xs.take k := by
  unfold cutV
  rw [HT.sIx_nat, HT.sIx_none, Nat.min_eq_left h, List.drop_zero, Nat.sub_zero]
theorem cutV_drop {xs : List V} {k : Nat} (h : k ≤ xs.length) : cutV xs (some (k : Int)) none = xs.drop k := by
  unfold cutV
  rw [HT.sIx_nat, HT.sIx_none, Nat.min_eq_left h]
  exact List.take_of_length_le (by rw [List.length_drop]; omega)
/-- the value behind a layer -/
def Ly.step (x y : Int) (v : Int) (l : Ly) : Int := l.m.mix v (opAt l.pa x y).1 ((opAt l.pa x y).2 * l.lv / 256)
def put (ls : List Ly) (b x y : Int) : Int := ls.foldl (Ly.step x y) b
theorem cov_in {c l : Int} (c0 : 0 ≤ c) (c1 : c ≤ 256) (l0 : 0 ≤ l) (l1 : l ≤ 256) : 0 ≤ c * l / 256 ∧ c * l / 256 ≤ 256 := by
  have h0 : 0 ≤ c * l := Int.mul_nonneg c0 l0
  have h1 : c * l ≤ 256 * 256 := Int.le_trans (Int.mul_le_mul_of_nonneg_right c1 l0) (Int.mul_le_mul_of_nonneg_left l1 (by decide))
  omega
theorem Ly.step_in {l : Ly} (k : l.Ok) (x y : Int) {v : Int} (v0 : 0 ≤ v) (v1 : v ≤ 255) : 0 ≤ l.step x y v ∧ l.step x y v ≤ 255 := by
  obtain ⟨a, b, c, d⟩ := opAt_in k.pa x y
  obtain ⟨e, f⟩ := cov_in c d k.l0 k.l1
  exact l.m.mix_in v0 v1 a b e f
theorem put_in : ∀ {ls : List Ly} {x y b : Int}, (∀ l ∈ ls, l.Ok) → 0 ≤ b → b ≤ 255 → 0 ≤ put ls b x y ∧ put ls b x y ≤ 255
  | [], _, _, _, _, b0, b1 => ⟨b0, b1⟩
  | l :: ls, x, y, b, k, b0, b1 => by
    obtain ⟨s0, s1⟩ := Ly.step_in (k l (List.mem_cons_self ..)) x y b0 b1
    exact put_in (ls := ls) (fun m hm => k m (List.mem_cons_of_mem _ hm)) s0 s1
theorem put_app {ls ms : List Ly} {b x y : Int} : put (ls ++ ms) b x y = put ms (put ls b x y) x y := List.foldl_append ..
theorem put_snoc {ls : List Ly} {l : Ly} {i : Nat} {b x y : Int} (h : ls[i]? = some l) : put (ls.take (i + 1)) b x y = l.step x y (put (ls.take i) b x y) := by
  rw [List.take_add_one, h, put_app]
  rfl
theorem split_at {ls : List Ly} {l : Ly} {i : Nat} (h : ls[i]? = some l) : ls.drop i = l :: ls.drop (i + 1) := by
  obtain ⟨hi, e⟩ := List.getElem?_eq_some_iff.mp h
  rw [List.drop_eq_getElem_cons hi, e]
/-- a layer that hides what is below it -/
theorem put_hides {ls ms : List Ly} {l : Ly} {i : Nat} {b c x y : Int} (h : ls[i]? = some l) (hm : l.m = .over) (hl : l.lv = 256) (hc : (opAt l.pa x y).2 = 256) : put (ms ++ ls.drop i) c x y = put ls b x y := by
  have e : ∀ v w : Int, l.step x y v = l.step x y w := fun v w => by
    unfold Ly.step
    rw [hm, hl, hc]
    show Md.mix .over v _ 256 = Md.mix .over w _ 256
    rw [Md.mix_full, Md.mix_full]
    rfl
  have e2 : put ls b x y = put (ls.take i ++ ls.drop i) b x y := by rw [List.take_append_drop]
  rw [e2, put_app, put_app, split_at h]
  show put (ls.drop (i + 1)) (l.step x y _) x y = put (ls.drop (i + 1)) (l.step x y _) x y
  rw [e _ (put (ls.take i) b x y)]
/-- a layer that does nothing at the point -/
theorem put_left {ls : List Ly} {l : Ly} {i : Nat} {b x y : Int} (h : ls[i]? = some l) (hc : (opAt l.pa x y).2 * l.lv = 0) : put (ls.take i ++ ls.drop (i + 1)) b x y = put ls b x y := by
  have e2 : put ls b x y = put (ls.take i ++ ls.drop i) b x y := by rw [List.take_append_drop]
  rw [e2, put_app, put_app, split_at h]
  show _ = put (ls.drop (i + 1)) (l.step x y _) x y
  have e : ∀ v : Int, l.step x y v = v := fun v => by
    unfold Ly.step
    rw [hc]
    exact Md.mix_zero _ _ _
  rw [e]
def spPut (K : PySem.W.Frag) : Sp := fun vs H Q _ => ∃ a us ls b x y, vs = [.ref a, .int b, .int x, .int y] ∧ H a = some (.lst us) ∧ LysV H us ls ∧ (∀ l ∈ ls, l.Ok) ∧ 0 ≤ b ∧ b ≤ 255 ∧ 0 ≤ x ∧ x ≤ 1000 ∧ 0 ≤ y ∧ y ≤ 1000 ∧ ∀ H', Ex H H' → Q (.int (put ls b x y)) H'
def Md.D : Md → PyData
  | .over => .tuple [.str "over"] | .add => .tuple [.str "add"] | .times => .tuple [.str "times"] | .invert => .tuple [.str "invert"] | .shift n => .tuple [.str "shift", .int n]
theorem MdV.dp {K : PySem.W.Frag} {H : Hp} {v : V} {m : Md} (h : MdV H v m) : Dp K H v m.D := by
  obtain ⟨a, rfl, ha⟩ := h
  cases m with
  | shift n => exact .tup (SqT.of ha) (.cons (.str _) (.cons (.int _) .nil))
  | _ => exact .tup (SqT.of ha) (.cons (.str _) .nil)
theorem Md.shaped (m : Md) : SeqAt.shaped m.D = true := by
  cases m with
  | shift n => exact shaped_of (by simp only [Md.D, PyData.canLay0, PyData.canLayAll0, Bool.and_self]; decide +kernel) (by simp only [Md.D, PyData.depth, PyData.depthAll]; decide)
  | _ => decide +kernel
theorem Md.eqv_over (m : Md) : PyData.eqv m.D (Md.D .over) = decide (m = .over) := by
  cases m with
  | shift n => simp [Md.D, PyData.eqv, PyData.eqvAll]
  | over => decide +kernel
  | add => decide +kernel
  | times => decide +kernel
  | invert => decide +kernel
end Od

namespace Od
open PySem L2 Evl
structure Mv where
  f : Int
  a : Int
  d : Int
deriving DecidableEq
structure Mv.Ok (m : Mv) : Prop where
  f0 : 0 ≤ m.f
  f1 : m.f ≤ 2000
  a0 : -1000 ≤ m.a
  a1 : m.a ≤ 1000
  d0 : -1000 ≤ m.d
  d1 : m.d ≤ 1000
def MvV (H : Hp) (v : V) (m : Mv) : Prop := ∃ p, v = .ref p ∧ H p = some (.tup [.int m.f, .int m.a, .int m.d])
theorem MvV.tk {H H' : Hp} {v : V} {m : Mv} (e : TK H H') (h : MvV H v m) : MvV H' v m := by
  obtain ⟨p, rfl, hp⟩ := h
  exact ⟨p, rfl, e _ _ hp⟩
abbrev MvsV (H : Hp) : List V → List Mv → Prop := Paired (MvV H)
theorem MvsV.tk {H H' : Hp} {vs : List V} {ms : List Mv} (e : TK H H') (h : MvsV H vs ms) : MvsV H' vs ms := Paired.mapP h fun _ _ => MvV.tk e
def Asc (ms : List Mv) : Prop := ms.Pairwise fun x y => x.f < y.f
theorem filt_split {ms : List Mv} {p : Mv → Bool} {n : Nat} (h1 : ∀ m ∈ ms.take n, p m = true) (h2 : ∀ m ∈ ms.drop n, p m = false) : ms.filter p = ms.take n := by
  have e : ms.filter p = (ms.take n ++ ms.drop n).filter p := by rw [List.take_append_drop]
  rw [e, List.filter_append, List.filter_eq_self.mpr h1, List.filter_eq_nil_iff.mpr fun m hm => by rw [h2 m hm]; exact Bool.false_ne_true, List.append_nil]
theorem asc_le {ms : List Mv} (h : Asc ms) {i j : Nat} {x y : Mv} (hx : ms[i]? = some x) (hy : ms[j]? = some y) (hij : i < j) : x.f < y.f := by
  obtain ⟨hi, ex⟩ := List.getElem?_eq_some_iff.mp hx
  obtain ⟨hj, ey⟩ := List.getElem?_eq_some_iff.mp hy
  have := List.pairwise_iff_getElem.mp h i j hi hj hij
  rw [ex, ey] at this
  exact this
theorem nil_or_snoc {α : Type} (l : List α) : l = [] ∨ ∃ k x, l = k ++ [x] := by
  rcases List.eq_nil_or_concat l with e | ⟨k, x, e⟩
  · exact .inl e
  · exact .inr ⟨k, x, by rw [e, List.concat_eq_append]⟩
/-- how many points are not behind a frame -/
def np (ms : List Mv) (f : Int) : Nat := (ms.filter fun m => decide (m.f ≤ f)).length
theorem np_of {ms : List Mv} {f : Int} {n : Nat} (hn : n ≤ ms.length) (h1 : ∀ m ∈ ms.take n, m.f ≤ f) (h2 : ∀ m ∈ ms.drop n, f < m.f) : np ms f = n := by
  unfold np
  rw [filt_split (n := n) (fun m hm => decide_eq_true (h1 m hm)) (fun m hm => decide_eq_false (by have := h2 m hm; omega)), List.length_take]
  omega
theorem asc_split : ∀ {ms : List Mv} (f : Int), Asc ms → ∃ n, n ≤ ms.length ∧ (∀ m ∈ ms.take n, m.f ≤ f) ∧ ∀ m ∈ ms.drop n, f < m.f
  | [], f, _ => ⟨0, Nat.le_refl _, by simp, by simp⟩
  | m :: ms, f, h => by
    obtain ⟨h0, h1⟩ := List.pairwise_cons.mp h
    by_cases c : m.f ≤ f
    · obtain ⟨n, a, b, d⟩ := asc_split f h1
      refine ⟨n + 1, by simpa using a, fun x hx => ?_, fun x hx => d x (by simpa using hx)⟩
      rw [List.take_succ_cons] at hx
      rcases List.mem_cons.mp hx with rfl | z
      · exact c
      · exact b x z
    · refine ⟨0, Nat.zero_le _, by simp, fun x hx => ?_⟩
      rw [List.drop_zero] at hx
      rcases List.mem_cons.mp hx with rfl | z
      · omega
      · have := h0 x z
        omega
theorem np_split {ms : List Mv} {f : Int} (h : Asc ms) : np ms f ≤ ms.length ∧ (∀ m ∈ ms.take (np ms f), m.f ≤ f) ∧ (∀ m ∈ ms.drop (np ms f), f < m.f) ∧ (ms.filter fun m => decide (m.f ≤ f)) = ms.take (np ms f) ∧ (ms.filter fun m => decide (f < m.f)) = ms.drop (np ms f) := by
  obtain ⟨n, a, b, c⟩ := asc_split f h
  rw [np_of a b c]
  refine ⟨a, b, c, filt_split (fun m hm => decide_eq_true (b m hm)) (fun m hm => decide_eq_false (by have := c m hm; omega)), ?_⟩
  have e : (ms.filter fun m => decide (f < m.f)) = (ms.take n ++ ms.drop n).filter fun m => decide (f < m.f) := by rw [List.take_append_drop]
  rw [e, List.filter_append, List.filter_eq_nil_iff.mpr fun m hm => by have := b m hm; rw [decide_eq_false (by omega)]; exact Bool.false_ne_true, List.nil_append, List.filter_eq_self.mpr fun m hm => decide_eq_true (c m hm)]
/-- on the line between two points -/
def ln (v w g s : Int) : Int := v + (w - v) * g / s
def btw (x y : Mv) (f : Int) : Pt := (ln x.a y.a (f - x.f) (y.f - x.f), ln x.d y.d (f - x.f) (y.f - x.f))
theorem ln_between {v w g s : Int} (g0 : 0 ≤ g) (g1 : g ≤ s) (s0 : 0 < s) : (v ≤ w → v ≤ ln v w g s ∧ ln v w g s ≤ w) ∧ (w ≤ v → w ≤ ln v w g s ∧ ln v w g s ≤ v) := by
  unfold ln
  refine ⟨fun h => ?_, fun h => ?_⟩
  · have a0 : 0 ≤ (w - v) * g := Int.mul_nonneg (by omega) g0
    have a1 : (w - v) * g ≤ (w - v) * s := Int.mul_le_mul_of_nonneg_left g1 (by omega)
    have b0 : 0 ≤ (w - v) * g / s := Int.ediv_nonneg a0 (by omega)
    have b1 : (w - v) * g / s ≤ w - v := by
      have := Int.ediv_le_ediv s0 a1
      rwa [Int.mul_ediv_cancel _ (by omega)] at this
    omega
  · have a0 : (w - v) * g ≤ 0 := Int.mul_nonpos_of_nonpos_of_nonneg (by omega) g0
    have a1 : (w - v) * s ≤ (w - v) * g := Int.mul_le_mul_of_nonpos_left (by omega) g1
    have b0 : (w - v) * g / s ≤ 0 := by
      have := Int.ediv_le_ediv s0 a0
      rwa [Int.zero_ediv] at this
    have b1 : w - v ≤ (w - v) * g / s := by
      have := Int.ediv_le_ediv s0 a1
      rwa [Int.mul_ediv_cancel _ (by omega)] at this
    omega
theorem ln_zero {v w s : Int} : ln v w 0 s = v := by
  unfold ln
  rw [Int.mul_zero, Int.zero_ediv, Int.add_zero]
theorem ln_law {v w g s : Int} (s0 : 0 < s) : (v * s + (w - v) * g) / s = ln v w g s := by
  unfold ln
  rw [Int.add_comm, Int.add_mul_ediv_right _ _ (by omega), Int.add_comm]
def off (ms : List Mv) (f : Int) : Pt :=
  match (ms.take (np ms f)).getLast?, (ms.drop (np ms f)).head? with
  | some x, some y => btw x y f
  | some x, none => (x.a, x.d)
  | none, some y => (y.a, y.d)
  | none, none => (0, 0)
def Mv.later (l : Int) (m : Mv) : Mv := ⟨m.f + l, m.a, m.d⟩
theorem np_later (l : Int) (ms : List Mv) (f : Int) : np (ms.map (Mv.later l)) (f + l) = np ms f := by
  unfold np
  rw [List.filter_map, List.length_map]
  congr 2
  funext m
  show decide (m.f + l ≤ f + l) = decide (m.f ≤ f)
  exact decide_eq_decide.mpr (by omega)
theorem off_later (l : Int) (ms : List Mv) (f : Int) : off (ms.map (Mv.later l)) (f + l) = off ms f := by
  unfold off
  rw [np_later, ← List.map_take, ← List.map_drop, List.getLast?_map, List.head?_map]
  cases (ms.take (np ms f)).getLast? with
  | none => cases (ms.drop (np ms f)).head? <;> rfl
  | some x =>
    cases (ms.drop (np ms f)).head? with
    | none => rfl
    | some y =>
      show btw (x.later l) (y.later l) (f + l) = btw x y f
      unfold btw Mv.later
      dsimp only
      have e1 : f + l - (x.f + l) = f - x.f := by omega
      have e2 : y.f + l - (x.f + l) = y.f - x.f := by omega
      rw [e1, e2]
theorem last_take {ms : List Mv} {k : Nat} {x : Mv} (h : ms[k]? = some x) : (ms.take (k + 1)).getLast? = some x := by
  rw [List.take_add_one, h]
  simp
theorem head_drop {ms : List Mv} {k : Nat} : (ms.drop k).head? = ms[k]? := by
  rw [List.head?_eq_getElem?, List.getElem?_drop]
  rfl
theorem np_at {ms : List Mv} (h : Asc ms) {k : Nat} {x : Mv} {f : Int} (hx : ms[k]? = some x) (h0 : x.f ≤ f) (h1 : ∀ y, ms[k + 1]? = some y → f < y.f) : np ms f = k + 1 := by
  have hk := (List.getElem?_eq_some_iff.mp hx).1
  refine np_of hk (fun m hm => ?_) (fun m hm => ?_)
  · obtain ⟨i, hi⟩ := List.getElem?_of_mem hm
    rw [List.getElem?_take] at hi
    split at hi
    · by_cases e : i = k
      · subst e
        rw [hx] at hi
        cases hi
        exact h0
      · have := asc_le h hi hx (by omega)
        omega
    · cases hi
  · obtain ⟨i, hi⟩ := List.getElem?_of_mem hm
    rw [List.getElem?_drop] at hi
    by_cases e : i = 0
    · subst e
      exact h1 m hi
    · have hk1 : k + 1 < ms.length := by
        have := (List.getElem?_eq_some_iff.mp hi).1
        omega
      have a := h1 _ (List.getElem?_eq_getElem hk1)
      have b := asc_le h (List.getElem?_eq_getElem hk1) hi (by omega)
      omega
theorem off_at {ms : List Mv} (h : Asc ms) {k : Nat} {x : Mv} (hx : ms[k]? = some x) : off ms x.f = (x.a, x.d) := by
  unfold off
  rw [np_at h hx (Int.le_refl _) fun y hy => asc_le h hx hy (by omega), last_take hx]
  cases (ms.drop (k + 1)).head? with
  | none => rfl
  | some y =>
    show btw x y x.f = _
    unfold btw
    rw [Int.sub_self, ln_zero, ln_zero]
theorem off_mid {ms : List Mv} (h : Asc ms) {k : Nat} {x y : Mv} {f : Int} (hx : ms[k]? = some x) (hy : ms[k + 1]? = some y) (h0 : x.f ≤ f) (h1 : f < y.f) : off ms f = btw x y f := by
  unfold off
  rw [np_at h hx h0 fun z hz => by rw [hy] at hz; cases hz; exact h1, last_take hx, head_drop, hy]
def mvD (m : Mv) : PyData := .tuple [.int m.f, .int m.a, .int m.d]
theorem eqs_mv : Eqs Mv mvD 1 := eqs_int.tup.via (fun q : Mv => [q.f, q.a, q.d]) fun x y e => by
  cases x
  cases y
  simp only [List.cons.injEq, and_true] at e
  obtain ⟨rfl, rfl, rfl⟩ := e
  rfl
theorem MvV.dp {K : PySem.W.Frag} {H : Hp} {v : V} {m : Mv} (h : MvV H v m) : Dp K H v (mvD m) := by
  obtain ⟨p, rfl, hp⟩ := h
  exact .tup (SqT.of hp) (.cons (.int _) (.cons (.int _) (.cons (.int _) .nil)))
end Od

/-! enumerate(t) of a tuple t (the library has it of lists and of texts): the steps are those of the model's enumerate.__new__ and __next__, so they go as the library's own for lists -/
namespace Od
open PySem PySem.Spec PyProof.Rows L2
open AutoSeq1 (wpAny_loadPart')
open Sem (wp)

theorem ent_new (l : Addr) (xs : Array Value) (n : Nat) (dx : Option Addr) (sl : Array (Option Value)) :
    Meets (Builtin.«enumerate.__new__» ⟨[.type "enumerate", .ref l], []⟩) (fun _ R s =>
      s.heap.get? l = some { cls := .type "tuple", dict := dx, data := .seq xs n, slots := sl } ∧ R (.ok (.ret (.ref (s.heap.objs.size + 1))))
        { s with heap := (s.heap.push { cls := .type "tuple_iterator", data := .fields #[.ref l, .int 0 0] }).push { cls := .type "enumerate", data := .fields #[.none, .bool false, .ref s.heap.objs.size, rawInt 0, .none, .none] } }) :=
  .of_wp fun prog w A R s ⟨look, fin⟩ => by
    obtain ⟨hp, gens, drawn, tk, os⟩ := s
    have isub := sub_enumerate
    have isT : Heap.IsTuple (Shared.heap ⟨hp, gens, drawn, tk, os⟩) l xs := ⟨_, look, rfl, n, rfl⟩
    have esz : (hp.push { cls := .type "tuple_iterator", data := .fields #[.ref l, .int 0 0] }).objs.size = hp.objs.size + 1 := Heap.size_push ..
    rw [← esz] at fin
    wp_walk using wpAny_loadPart' look
    refine wpAny_stack_any fun stk => wpAny_pure ?_
    split
    · rename_i cl _ _ _ _ _
      rcases (cl == Value.type "enumerate")
      all_goals (wp_walk using wpAny_loadPart' look, wpAny_pyIter_tuple isT; exact ⟨_, rfl, fin⟩)
    · wp_walk using wpAny_loadPart' look, wpAny_pyIter_tuple isT
      exact ⟨_, rfl, fin⟩

section
variable {prog : Program} {w : World} {A : Around} {E : Value → Shared → Prop} {s : Shared}
theorem ent_make {l : Addr} {xs : Array Value} {Q : Value → Shared → Prop} (isT : s.heap.IsTuple l xs)
    (q : ∀ h', IsEnum h' (s.heap.objs.size + 1) s.heap.objs.size 0 .none → h'.IsTupleIter s.heap.objs.size l 0 →
      (∀ b o, s.heap.get? b = some o → h'.get? b = some o) → Q (.ref (s.heap.objs.size + 1)) { s with heap := h' }) :
    wpAny (model prog w) A (call (.type "enumerate") [.ref l]) Q E s := by
  obtain ⟨⟨cl, dx, dat, sl⟩, look, ec, n, ed⟩ := isT
  have ec : cl = .type "tuple" := ec
  have ed : dat = .seq xs n := ed
  subst ec
  subst ed
  refine callType_new F.called_enumerate (by decide) (F.typeCall_enumerate_1 _) (F.newCall_enumerate_1 _) (fun ob => F.args_object_init_2 ob _) F.entry_enumerate_new (ent_new l xs n dx sl) ⟨look, ?_⟩
  have esz : (s.heap.push { cls := .type "tuple_iterator", data := .fields #[.ref l, .int 0 0] }).objs.size = s.heap.objs.size + 1 := Heap.size_push ..
  have isE : IsEnum ((s.heap.push { cls := .type "tuple_iterator", data := .fields #[.ref l, .int 0 0] }).push { cls := .type "enumerate", data := .fields #[.none, .bool false, .ref s.heap.objs.size, rawInt 0, .none, .none] }) (s.heap.objs.size + 1) s.heap.objs.size 0 .none :=
    esz ▸ Heap.get?_push_size _ rfl
  exact ⟨⟨_, isE, rfl⟩, q _ isE ⟨_, Heap.get?_push_of_some _ (Heap.get?_push_size _ rfl), rfl, rfl⟩ fun b o e => Heap.get?_push_of_some _ (Heap.get?_push_of_some _ e)⟩

theorem tnx_item {it t : Addr} {i : Nat} {xs : Array Value} {x : Value} {Q : Value → Shared → Prop} (st : s.heap.IsTupleIter it t i) (isT : s.heap.IsTuple t xs) (ex : xs[i]? = some x)
    (q : ∀ h', h'.IsTupleIter it t (i + 1) → Heap.SameBut it s.heap h' → Q x { s with heap := h' }) : wpAny (model prog w) A (Builtin.SmallTypes.nextOf (.ref it)) Q E s := by
  have ty := st.typeIs
  obtain ⟨oi, looki, ci, di⟩ := st
  obtain ⟨ot, lookt, _, n, dt⟩ := isT
  unfold Builtin.SmallTypes.nextOf
  refine wpAny_bind (wpAny_callSpecial?_slot (name := Str.ofString "__next__") ty F.slot_tuple_iterator_next (wpAny_call_entry F.slot_tuple_iterator_next ty F.entry_tuple_iterator_next ?_ (F.args_tuple_iterator_next_1 _)))
  refine wpAny_bind (m := field (.ref it) 0) (wpAny_field looki di (x := .ref t) rfl ?_)
  have alive : ¬ (Value.ref t == Value.none) = true := fun z => Bool.noConfusion z
  change wpAny _ _ (if (Value.ref t == Value.none) = true then _ else _) _ _ s
  rw [if_neg alive]
  refine wpAny_bind (m := field (.ref it) 1) (wpAny_field looki di (x := .int i 0) rfl (wpAny_bind (m := seqItems? (.ref t)) (wpAny_seqItems lookt dt ?_)))
  simp only [Int.toNat_natCast, ex]
  refine wpAny_bind (wpAny_setField looki di (by simp) (wpAny_pure ⟨x, rfl, wpAny_pure (q _ ⟨_, Heap.get?_update_self _ looki (Obj.isFreed_of_fields (Obj.data_mapFields di _)), (Obj.cls_mapFields ..).trans ci, ?_⟩ (Heap.SameBut.update ..))⟩))
  rw [Obj.data_mapFields di]
  simp [rawInt]

theorem tnx_end {it t : Addr} {i : Nat} {xs : Array Value} {Q : Value → Shared → Prop} (hh : A.handled = none) (st : s.heap.IsTupleIter it t i) (isT : s.heap.IsTuple t xs) (ex : xs[i]? = none)
    (q : ∀ h' e, Heap.ExtBut it s.heap h' → (∃ o, h'.get? e = some o ∧ o.cls = .type "StopIteration") → E (.ref e) { s with heap := h' }) : wpAny (model prog w) A (Builtin.SmallTypes.nextOf (.ref it)) Q E s := by
  have ty := st.typeIs
  obtain ⟨oi, looki, ci, di⟩ := st
  obtain ⟨ot, lookt, _, n, dt⟩ := isT
  unfold Builtin.SmallTypes.nextOf
  refine wpAny_bind (wpAny_callSpecial?_slot (name := Str.ofString "__next__") ty F.slot_tuple_iterator_next (wpAny_call_entry F.slot_tuple_iterator_next ty F.entry_tuple_iterator_next ?_ (F.args_tuple_iterator_next_1 _)))
  refine wpAny_bind (m := field (.ref it) 0) (wpAny_field looki di (x := .ref t) rfl ?_)
  have alive : ¬ (Value.ref t == Value.none) = true := fun z => Bool.noConfusion z
  change wpAny _ _ (if (Value.ref t == Value.none) = true then _ else _) _ _ s
  rw [if_neg alive]
  refine wpAny_bind (m := field (.ref it) 1) (wpAny_field looki di (x := .int i 0) rfl (wpAny_bind (m := seqItems? (.ref t)) (wpAny_seqItems lookt dt ?_)))
  simp only [Int.toNat_natCast, ex]
  refine wpAny_bind (wpAny_rule (wpAny_bind (wpAny_setField looki di (by simp) (wpAny_bind (m := newExc (.type "StopIteration") []) ?_))))
  simp only [newExc, newTuple]
  refine wpAny_bind (wpAny_newObj_type (wpAny_bind (m := firstArgMember _ _) (wpAny_of_eq (a := Value.none) (by first | rfl | (simp only [firstArgMember]; rfl)) (wpAny_newObj_type ?_ (by size_fits)))) (by size_fits))
  simp only [raiseNew]
  refine wpAny_bind (wpAny_handled ?_)
  first
    | rw [show A.in1.handled = none from hh]
    | rw [hh]
  exact wpAny_bind (wpAny_pure (wpAny_throw (q _ _ (((Heap.SameBut.update ..).extBut.push _).push _) ⟨_, Heap.get?_push_size _ rfl, rfl⟩)))
/-- one turn: a new pair of the number and the item -/
theorem ent_turn {e it l : Addr} {i : Nat} {xs : Array Value} {x old : Value} {Q : Option Value → Shared → Prop} (isE : IsEnum s.heap e it i old) (st : s.heap.IsTupleIter it l i) (isT : s.heap.IsTuple l xs) (ex : xs[i]? = some x) (apart : e ≠ it)
    (q : ∀ h', IsEnumOut h' e it ((i : Int) + 1) x s.heap.objs.size → h'.IsTupleIter it l (i + 1) → h'.get? s.heap.objs.size = some { cls := .type "tuple", data := .seq #[.int i s.toks, x] } →
      (∀ b o, b ≠ e → b ≠ it → s.heap.get? b = some o → h'.get? b = some o) → Q (some (.ref s.heap.objs.size)) { s with heap := h', toks := s.toks + 1 }) :
    wpAny (model prog w) A (pyNext (.ref e)) Q E s := by
  have ty : s.TypeIs (.ref e) "enumerate" := ⟨_, isE, rfl⟩
  have low := Heap.lt_size isE
  unfold pyNext
  refine wpAny_bind (wpAny_attempt (wpAny_callSpecial?_slot (name := Str.ofString "__next__") ty F.slot_enumerate_next (wpAny_call_entry F.slot_enumerate_next ty F.entry_enumerate_next ?_ (F.args_enumerate_next_1 _))))
  obtain ⟨hp, gens, drawn, tk, os⟩ := s
  refine wpAny_bind (m := field (.ref e) 2) (wpAny_field isE rfl (x := .ref it) rfl (wpAny_bind (tnx_item st isT ex fun k1 st1 sb1 => ?_)))
  have sb1 : Heap.SameBut it hp k1 := sb1
  have f1 : IsEnum k1 e it i old := (sb1.2 e apart).trans isE
  refine wpAny_bind (m := field (.ref e) 3) (wpAny_field f1 rfl (x := rawInt i) rfl (wpAny_bind (m := field (.ref e) 4) (wpAny_field f1 rfl (x := .none) rfl (wpAny_bind (m := mkInt i) (wpAny_mkInt (wpAny_bind (wpAny_setField_rec f1 (by simp) fun k2 f2 sb2 => ?_)))))))
  have sb2 : Heap.SameBut e k1 k2 := sb2
  have f2 : IsEnum k2 e it ((i : Int) + 1) old := f2
  refine wpAny_bind (wpAny_setField_rec f2 (by simp) fun k3 f3 sb3 => ?_)
  have sb3 : Heap.SameBut e k2 k3 := sb3
  have f3 : IsEnum k3 e it ((i : Int) + 1) old := f3
  refine wpAny_bind (m := newTuple [.int i tk, x]) (wpAny_newTuple ?_)
  have size3 : k3.objs.size = hp.objs.size := by rw [sb3.1, sb2.1, sb1.1]
  have back : ∀ b o, b ≠ e → b ≠ it → hp.get? b = some o → (k3.push { cls := .type "tuple", data := .seq #[.int i tk, x] }).get? b = some o := fun b o be bi hb =>
    Heap.get?_push_of_some _ (sb3.extBut b o be (sb2.extBut b o be (sb1.extBut b o bi hb)))
  have pair : (k3.push { cls := .type "tuple", data := .seq #[.int i tk, x] }).get? hp.objs.size = some { cls := .type "tuple", data := .seq #[.int i tk, x] } := size3 ▸ Heap.get?_push_size _ rfl
  have st3 := (st1.extBut sb2.extBut (Ne.symm apart)).extBut sb3.extBut (Ne.symm apart)
  have st4 : (k3.push { cls := .type "tuple", data := .seq #[.int i tk, x] }).IsTupleIter it l (i + 1) := by
    obtain ⟨o3, look3, rest3⟩ := st3
    exact ⟨o3, Heap.get?_push_of_some _ look3, rest3⟩
  have f4 : IsEnum (k3.push { cls := .type "tuple", data := .seq #[.int i tk, x] }) e it ((i : Int) + 1) old := Heap.get?_push_of_some _ f3
  rw [show (Value.ref k3.objs.size) = .ref hp.objs.size from congrArg Value.ref size3]
  generalize k3.push { cls := .type "tuple", data := .seq #[.int i tk, x] } = k4 at back pair st4 f4
  refine wpAny_bind (m := Builtin.SmallTypes.ownedTupleIsFree (.ref e)) ?_
  unfold Builtin.SmallTypes.ownedTupleIsFree
  refine wpAny_bind (wpAny_field f4 rfl (x := .none) rfl (wpAny_pure ?_))
  simp only [if_true]
  refine wpAny_bind (wpAny_rule (wpAny_bind (wpAny_field f4 rfl (x := old) rfl (wpAny_bind (wpAny_setField_rec f4 (by simp) fun k5 f5 sb5 => ?_)))))
  have sb5 : Heap.SameBut e k4 k5 := sb5
  have f5 : IsEnum k5 e it ((i : Int) + 1) x := f5
  refine wpAny_bind (m := Builtin.SmallTypes.ownedTupleHandOut (.ref e) (.ref hp.objs.size)) ?_
  unfold Builtin.SmallTypes.ownedTupleHandOut
  refine wpAny_bind (wpAny_setField_rec f5 (by simp) fun k6 f6 sb6 => ?_)
  have sb6 : Heap.SameBut e k5 k6 := sb6
  have f6 : IsEnumOut k6 e it ((i : Int) + 1) x hp.objs.size := f6
  refine wpAny_setField_rec f6 (by simp) fun k7 f7 sb7 => ?_
  have sb7 : Heap.SameBut e k6 k7 := sb7
  have f7 : IsEnumOut k7 e it ((i : Int) + 1) x hp.objs.size := f7
  have low : e < hp.objs.size := low
  refine wpAny_bind (wpAny_letGo (wpAny_pure ⟨_, rfl, wpAny_pure (q k7 f7 ?_ ?_ ?_)⟩))
  · exact ((st4.extBut sb5.extBut (Ne.symm apart)).extBut sb6.extBut (Ne.symm apart)).extBut sb7.extBut (Ne.symm apart)
  · exact sb7.extBut _ _ (Nat.ne_of_gt low) (sb6.extBut _ _ (Nat.ne_of_gt low) (sb5.extBut _ _ (Nat.ne_of_gt low) pair))
  · exact fun b o be bi hb => sb7.extBut b o be (sb6.extBut b o be (sb5.extBut b o be (back b o be bi hb)))
theorem ent_stop {e it l : Addr} {i : Nat} {xs : Array Value} {old : Value} {Q : Option Value → Shared → Prop} (hh : A.handled = none) (isE : IsEnum s.heap e it i old) (st : s.heap.IsTupleIter it l i) (isT : s.heap.IsTuple l xs) (ex : xs[i]? = none)
    (q : ∀ h', Heap.ExtBut it s.heap h' → Q none { s with heap := h' }) : wpAny (model prog w) A (pyNext (.ref e)) Q E s := by
  have ty : s.TypeIs (.ref e) "enumerate" := ⟨_, isE, rfl⟩
  unfold pyNext
  refine wpAny_bind (wpAny_attempt (wpAny_callSpecial?_slot (name := Str.ofString "__next__") ty F.slot_enumerate_next (wpAny_call_entry F.slot_enumerate_next ty F.entry_enumerate_next ?_ (F.args_enumerate_next_1 _))))
  refine wpAny_bind (m := field (.ref e) 2) (wpAny_field isE rfl (x := .ref it) rfl (wpAny_bind (tnx_end hh st isT ex fun k x ext ⟨o, look, ec⟩ => ?_)))
  exact wpAny_bind (wpAny_isInstance (T := "StopIteration") (b := true) ⟨o, look, ec⟩ isSubtype_stop (wpAny_pure (q _ ext)))
end

/-- the tuple at a, each item in a new pair with its number -/
def ItET (K : PySem.W.Frag) (a : Addr) : It where
  go := fun i H => ∃ (xs : List V) (x : V), SqT K H a xs ∧ xs[i]? = some x
  yld := fun i H v H' => ∃ T x, v = .ref T ∧ H T = none ∧ H' = upd H T (.tup [.int (i : Nat), x]) ∧ ∀ xs, SqT K H a xs → xs[i]? = some x
  stop := fun i H => ∃ xs : List V, SqT K H a xs ∧ xs.length ≤ i
theorem turn_ET {P : Program} {w : World} {K : PySem.W.Frag} {elts : List Expr} {kk : Nat} {tpos : Pos} (a e it : Addr) :
    Turn P w K (.Tuple elts kk tpos) (ItET K a) [e, it] e (fun i h => (∃ old, IsEnum h e it ((i : Nat) : Int) old) ∧ h.IsTupleIter it a i ∧ e ≠ it) where
  mem := List.mem_cons_self
  obj := fun i h ⟨⟨_, isE⟩, ⟨o, look, _, dat⟩, _⟩ b hb => by
    rcases (by simpa using hb : b = e ∨ b = it) with rfl | rfl
    · exact ⟨_, isE, fun v z => nomatch z⟩
    · exact ⟨o, look, fun v z => by rw [dat] at z; cases z⟩
  keep := fun i h h' ⟨⟨old, isE⟩, st, ap⟩ k => ⟨⟨old, k e (by simp) _ isE⟩, st.at fun o z => k it (by simp) o z, ap⟩
  item := by
    intro X eP ew eK hc i pins s σ H E I hf st go
    subst eP ew eK
    obtain ⟨⟨old, isE⟩, st, ap⟩ := st
    obtain ⟨xs, x, sq, hx⟩ := go
    obtain ⟨vs, rel, isT, _⟩ := I.tuple sq
    obtain ⟨u, hu, ru⟩ := rel.get hx
    have le : e < s.heap.objs.size := Heap.lt_size isE
    have li : it < s.heap.objs.size := by obtain ⟨_, z, _⟩ := st; exact Heap.lt_size z
    refine ent_turn isE st (show s.heap.IsTuple a vs.toArray from isT) (x := u) (by simpa using hu) ap fun h1 o1 st1 pair1 k1 => ?_
    refine ⟨_, rfl, wpAny_letOwnedTupleGo_enum (s := { s with heap := h1, toks := s.toks + 1 }) o1 fun h2 o2 sb => ?_⟩
    have pair2 : h2.get? s.heap.objs.size = some { cls := .type "tuple", data := .seq #[.int i s.toks, u] } := (sb.2 _ (Nat.ne_of_gt le)).trans pair1
    have fresh : ObjOk X.prog X.w (upd H s.heap.objs.size (.tup [.int (i : Nat), x])) h2 s.heap.objs.size (.tup [.int (i : Nat), x]) :=
      ⟨by show 2 ≤ sizeLine; decide, [.int i s.toks, u], .cons ⟨_, rfl⟩ (.cons ru .nil), ⟨_, pair2, rfl, _, rfl⟩⟩
    have J : Inv X pins σ (upd H s.heap.objs.size (.tup [.int (i : Nat), x])) { s with heap := h2, toks := s.toks + 1 } :=
      I.turnedNew (ch := [e, it]) (fun b ob nb z => (sb.2 b (fun y => nb (by simp [y]))).trans (k1 b ob (fun y => nb (by simp [y])) (fun y => nb (by simp [y])) z)) hf (Nat.le_refl _) fresh
    refine ⟨.ref s.heap.objs.size, _, J, rfl, ⟨_, x, rfl, I.hok.fresh (Nat.le_refl _), rfl, fun ys hy => by rw [I.tuple_inj hy sq]; exact hx⟩, ⟨⟨u, ?_⟩, st1.at fun o z => (sb.2 it (Ne.symm ap)).trans z, ap⟩, fun b hb => ?_⟩
    · rw [show ((i + 1 : Nat) : Int) = (i : Int) + 1 by omega]
      exact o2
    · have lb : b < s.heap.objs.size := by
        rcases (by simpa using hb : b = e ∨ b = it) with z | z
        · rw [z]; exact le
        · rw [z]; exact li
      rw [upd_ne (Nat.ne_of_lt lb)]
      exact (hf b hb).1
  done := by
    intro X eP ew eK hc i pins s σ H E I hf st go
    subst eP ew eK
    obtain ⟨⟨old, isE⟩, st, ap⟩ := st
    obtain ⟨xs, sq, hx⟩ := go
    obtain ⟨vs, rel, isT, _⟩ := I.tuple sq
    obtain ⟨g0, g1, g2, g3, g4, g5⟩ := hf it (by simp)
    have hlen := rel.length
    exact ent_stop (I.ok.hd hc) isE st (show s.heap.IsTuple a vs.toArray from isT) (by simp; omega) fun h1 ext => ⟨rfl, I.turned (t' := s.toks) (fun b o nb z => ext b o nb z) g0 g1 g3 g4 g5⟩
  self := fun A i s Q E ⟨⟨_, isE⟩, _⟩ h => wpAny_pyIter_enum isE h
def iET (K : PySem.W.Frag) (ta : TA) : TI := fun σ H R => ta σ H fun vs H1 => ∃ a xs, vs = [.ref a] ∧ SqT K H1 a xs ∧ R (ItET K a) H1
theorem kpiET {X : Cx} {e : Expr} {ta : TA} {p pos tpos : Pos} {elts : List Expr} {kk : Nat} (K : PySem.W.Frag) (hg : Gl X "enumerate") (hm : X.mg "enumerate" = none) (ha : PA X [e] ta) (hs : starEach [e] X.env = [(false, eval e X.env)] := by rfl) (hK : X.K = K := by rfl) :
    PI X (.Tuple elts kk tpos) (.Call (.Name "enumerate" p) [e] [] pos) (iET K ta) := by
  subst hK
  refine ⟨fun pins s σ H R I h => Call_ (ld_blt I hg hm boot_enumerate (PyProof.Rows.callWith_type1 (thn (ha.run pos pins s σ H _ I h) fun us s1 ⟨vs, H1, J, r, a, xs, ev, sq, q⟩ => ?_) hs rfl))⟩
  subst ev
  cases r with
  | cons r rr =>
    cases rr
    cases r
    obtain ⟨ws, rel, isT, _⟩ := J.tuple sq
    refine ent_make (show s1.heap.IsTuple a ws.toArray from isT) fun h1 isE st k => wpAny_pyIter_enum isE ?_
    refine ⟨s1.heap.objs.size + 1, [s1.heap.objs.size + 1, s1.heap.objs.size], _, _, H1, rfl, J.kept (t' := s1.toks) k, turn_ET a _ _, ⟨⟨.none, isE⟩, st, Nat.succ_ne_self _⟩, fun b hb => ?_, q⟩
    have lb : s1.heap.objs.size ≤ b := by
      rcases (by simpa using hb : b = s1.heap.objs.size + 1 ∨ b = s1.heap.objs.size) with z | z
      · rw [z]; exact Nat.le_succ _
      · rw [z]; exact Nat.le_refl _
    exact J.fpOk lb (J.hok.fresh lb)
theorem walk_ET {K : PySem.W.Frag} {a : Addr} {xs : List V} : Walk (ItET K a) xs.length (fun H => SqT K H a xs) (YPair (fun i => some (.int (i : Nat))) (fun i => xs[i]?)) := by
  refine ⟨fun i _ hi q => ⟨xs, xs[i], q, by simp [hi]⟩, fun _ q => ⟨xs, q, Nat.le_refl _⟩, fun i H v H' _ q ⟨T, x, h1, h2, h3, h4⟩ => ?_⟩
  exact ⟨T, .int (i : Nat), x, h1, h2, h3, rfl, h4 xs q⟩
/-- for k, x in enumerate(t): -/
theorem for_ET {K : PySem.W.Frag} {a : Addr} {xs : List V} {g : TG} {tb : TS} {D : Ends} {σ : L2.St} {H : Hp} (Pv : Nat → L2.St → Hp → Prop) (h0 : Pv 0 σ H) (hl : ∀ i σ H, i ≤ xs.length → Pv i σ H → SqT K H a xs)
    (hs : ∀ i x σ H T, xs[i]? = some x → Pv i σ H → H T = none → g (.ref T) σ (upd H T (.tup [.int (i : Nat), x])) fun σ2 H2 => tb { D with nx := Pv (i + 1), ct := Pv (i + 1), bk := D.nx } σ2 H2) (hd : ∀ σ H, Pv xs.length σ H → D.nx σ H) :
    ∃ W : Nat → Nat → L2.St → Hp → Prop, (∃ m, W 0 m σ H) ∧ ∀ i m σ H, W i m σ H →
      ((ItET K a).stop i H ∧ D.nx σ H) ∨ ((ItET K a).go i H ∧ ∃ N : L2.St → Hp → Prop, (∀ σ' H', N σ' H' → ∃ m', m' < m ∧ W (i + 1) m' σ' H') ∧ ∀ x H', (ItET K a).yld i H x H' → g x σ H' fun σ2 H2 => tb { D with nx := N, ct := N, bk := D.nx } σ2 H2) := by
  refine ⟨fun i m σ H => m = xs.length - i ∧ i ≤ xs.length ∧ Pv i σ H, ⟨_, rfl, Nat.zero_le _, h0⟩, ?_⟩
  rintro i m σ H ⟨rfl, hi, p⟩
  have sq := hl i σ H hi p
  by_cases lt : i < xs.length
  · refine .inr ⟨walk_ET.goes i H lt sq, Pv (i + 1), fun σ' H' p' => ⟨xs.length - (i + 1), by omega, rfl, lt, p'⟩, fun x H' y => ?_⟩
    obtain ⟨T, n, z, rfl, h2, rfl, h3, h4⟩ := walk_ET.yields i H x H' lt sq y
    cases h3
    exact hs i z σ H T h4 p h2
  · have e : i = xs.length := by omega
    subst e
    exact .inl ⟨walk_ET.stops H sq, hd σ H p⟩
end Od

/-! enumerate of a list, the written part told -/
namespace Od
open PySem L2 Evl
theorem kpiE {X : Cx} {e : Expr} {ta : TA} {p pos tpos : Pos} {elts : List Expr} {kk : Nat} (K : PySem.W.Frag) (hg : Gl X "enumerate") (hm : X.mg "enumerate" = none) (ha : PA X [e] ta) (hs : starEach [e] X.env = [(false, eval e X.env)] := by rfl) (h : X.K = K := by rfl) :
    PI X (.Tuple elts kk tpos) (.Call (.Name "enumerate" p) [e] [] pos) (iEnum K ta) := by
  subst h
  exact pi_enum hg hm ha hs
end Od

namespace Od
open PySem L2 Evl
abbrev ClsV (H : Hp) : List V → List Cl → Prop := Paired (ClV H)
theorem ClsV.tk {H H' : Hp} {vs : List V} {cs : List Cl} (e : TK H H') (h : ClsV H vs cs) : ClsV H' vs cs := Paired.mapP h fun _ _ => ClV.tk e
/-- the clip is there at the frame -/
def Cl.here (c : Cl) (f : Int) : Prop := c.s ≤ f ∧ f < c.fin
/-- the first clip that is there -/
def First (cs : List Cl) (f : Int) : Option Nat → Prop
  | none => ∀ c ∈ cs, ¬ c.here f
  | some i => ∃ c, cs[i]? = some c ∧ c.here f ∧ ∀ j < i, ∀ d, cs[j]? = some d → ¬ d.here f
theorem First.uniq {cs : List Cl} {f : Int} {o p : Option Nat} (h : First cs f o) (k : First cs f p) : o = p := by
  cases o with
  | none =>
    cases p with
    | none => rfl
    | some i =>
      obtain ⟨c, hc, h1, _⟩ := k
      exact absurd h1 (h c (List.mem_of_getElem? hc))
  | some i =>
    obtain ⟨c, hc, h1, h2⟩ := h
    cases p with
    | none => exact absurd h1 (k c (List.mem_of_getElem? hc))
    | some j =>
      obtain ⟨d, hd, k1, k2⟩ := k
      by_cases e : i = j
      · rw [e]
      · by_cases lt : i < j
        · exact absurd h1 (k2 i lt c hc)
        · exact absurd k1 (h2 j (by omega) d hd)
def AllOk (cs : List Cl) : Prop := (∀ c ∈ cs, c.Ok 50000) ∧ cs.length ≤ 20
def idxV : Option Nat → V
  | none => .non
  | some i => .int (i : Nat)
def spClipAt (K : PySem.W.Frag) : Sp := fun vs H Q _ => ∃ a us cs f, vs = [.ref a, .int f] ∧ H a = some (.tup us) ∧ ClsV H us cs ∧ ∀ o H', Ex H H' → First cs f o → Q (idxV o) H'
/-- what stands in the lane -/
def LnV (H : Hp) (v : V) (cs : List Cl) (f : Int) : Option Nat → Prop
  | none => v = .non
  | some i => ∃ c a u, cs[i]? = some c ∧ v = .ref a ∧ H a = some (.tup [u, .int (c.lev f)]) ∧ OpV H u c.pa
theorem LnV.tk {H H' : Hp} {v : V} {cs : List Cl} {f : Int} {o : Option Nat} (e : TK H H') (h : LnV H v cs f o) : LnV H' v cs f o := by
  cases o with
  | none => exact h
  | some i =>
    obtain ⟨c, a, u, hc, rfl, ha, hu⟩ := h
    exact ⟨c, a, u, hc, rfl, e _ _ ha, hu.tk e⟩
def spLane (K : PySem.W.Frag) : Sp := fun vs H Q _ => ∃ a us cs f, vs = [.ref a, .int f] ∧ H a = some (.tup us) ∧ ClsV H us cs ∧ AllOk cs ∧ ∀ o v H', Ex H H' → First cs f o → LnV H' v cs f o → Q v H'
theorem Pa.lay (p : Pa) : p.D.canLay0 = true := by
  cases p with
  | solid x => simp only [Pa.D, PyData.canLay0, PyData.canLayAll0, Bool.and_true]; decide +kernel
  | steps f s z => simp only [Pa.D, PyData.canLay0, PyData.canLayAll0, Bool.and_true]; decide +kernel
  | pic p =>
    simp only [Pa.D, PyData.canLay0, PyData.canLayAll0, Bool.and_true, pc_lay]
    decide +kernel
theorem op_lay (o : Option Pa) : (opD o).canLay0 = true := by
  cases o with
  | none => rfl
  | some p => exact p.lay
theorem pcD_depth (p : Pc) : (pcD p).depth ≤ 2 := by
  simp only [pcD, PyData.depth, PyData.depthAll, depth_ints]
  decide
theorem op_depth (o : Option Pa) : (opD o).depth ≤ 3 := by
  cases o with
  | none => decide
  | some p =>
    cases p with
    | solid x => simp only [opD, Pa.D, PyData.depth, PyData.depthAll]; decide
    | steps f s z => simp only [opD, Pa.D, PyData.depth, PyData.depthAll]; decide
    | pic p =>
      have := pcD_depth p
      simp only [opD, Pa.D, PyData.depth, PyData.depthAll]
      omega
def lnD (c : Cl) (f : Int) : PyData := .tuple [opD c.pa, .int (c.lev f)]
theorem ln_lay (c : Cl) (f : Int) : (lnD c f).canLay0 = true := by
  simp only [lnD, PyData.canLay0, PyData.canLayAll0, op_lay, Bool.and_true]
theorem ln_shaped (c : Cl) (f : Int) : SeqAt.shaped (lnD c f) = true := by
  refine shaped_of (ln_lay c f) ?_
  have := op_depth c.pa
  simp only [lnD, PyData.depth, PyData.depthAll]
  omega
end Od

/-! the timeline: clips cut, joined, lifted, put, moved -/
namespace Od
open PySem L2 Evl
def Apart (cs : List Cl) : Prop := cs.Pairwise fun c d => c.fin ≤ d.s
def Cl.inside (c : Cl) (m : Int) : Bool := decide (c.s < m) && decide (m < c.fin)
def Cl.fades (c : Cl) (m : Int) : Bool := decide (m < c.s + c.fi) || decide (c.fin - c.fo < m)
def Cl.left (c : Cl) (m : Int) : Cl := ⟨c.s, m - c.s, c.pa, c.fi, 0⟩
def Cl.right (c : Cl) (m : Int) : Cl := ⟨m, c.fin - m, c.pa, 0, c.fo⟩
def Cl.bad (m : Int) (c : Cl) : Bool := c.inside m && c.fades m
def Cl.halves (m : Int) (c : Cl) : List Cl := if c.inside m = true then [c.left m, c.right m] else [c]
/-- the clips cut at a frame, or none -/
def splitC (m : Int) (cs : List Cl) : Option (List Cl) := if cs.any (Cl.bad m) = true then none else some (cs.flatMap (Cl.halves m))
/-- what a word of the timeline gives: clips, or an error's word and place -/
inductive TL where
  | ok (cs : List Cl) | err (w : Str) (n : Int)
def Cl.keep (a b : Int) (c : Cl) : Bool := decide (c.fin ≤ a) || decide (b ≤ c.s)
/-- the frame at which a cut cannot be, or what is left -/
def liftC (a b : Int) (cs : List Cl) : TL := match splitC a cs with
  | none => .err "cut" a
  | some ds => match splitC b ds with
    | none => .err "cut" b
    | some es => .ok (es.filter (Cl.keep a b))
def Cl.shift (n : Int) (c : Cl) : Cl := ⟨c.s + n, c.n, c.pa, c.fi, c.fo⟩
def laterC (m n : Int) (cs : List Cl) : List Cl := cs.map fun c => if m ≤ c.s then c.shift n else c
def Cl.meets (c d : Cl) : Bool := decide (d.s < c.fin) && decide (c.s < d.fin)
def putC (c : Cl) (cs : List Cl) : Option (List Cl) := if cs.any c.meets = true then none else some (cs.filter (fun d => decide (d.s < c.s)) ++ [c] ++ cs.filter fun d => decide (c.s < d.s))
theorem split_bad {m : Int} {cs : List Cl} (h : cs.any (Cl.bad m) = true) : splitC m cs = none := if_pos h
theorem split_ok {m : Int} {cs : List Cl} (h : cs.any (Cl.bad m) = false) : splitC m cs = some (cs.flatMap (Cl.halves m)) := if_neg (by rw [h]; exact Bool.false_ne_true)
theorem halves_len {m : Int} : ∀ {cs : List Cl}, (cs.flatMap (Cl.halves m)).length ≤ 2 * cs.length
  | [] => Nat.le_refl _
  | c :: cs => by
    have ih := halves_len (m := m) (cs := cs)
    have h : (c.halves m).length ≤ 2 := by
      unfold Cl.halves
      split
      · exact Nat.le_refl 2
      · exact Nat.le_succ 1
    rw [List.flatMap_cons, List.length_append, List.length_cons]
    omega
theorem split_len {m : Int} {cs ds : List Cl} (h : splitC m cs = some ds) : ds.length ≤ 2 * cs.length := by
  unfold splitC at h
  split at h
  · cases h
  · cases h
    exact halves_len
/-- the answer as a value -/
def ResV (H : Hp) (v : V) : TL → Prop
  | .ok cs => ∃ a us, v = .ref a ∧ H a = some (.tup us) ∧ ClsV H us cs
  | .err w n => ∃ a, v = .ref a ∧ H a = some (.lst [.str w, .int n])
theorem ResV.ex {H H' : Hp} {v : V} {r : TL} (e : Ex H H') (h : ResV H v r) : ResV H' v r := by
  cases r with
  | ok cs =>
    obtain ⟨a, us, rfl, h1, h2⟩ := h
    exact ⟨a, us, rfl, e _ _ h1, h2.tk (TK.ex e)⟩
  | err w n =>
    obtain ⟨a, rfl, h1⟩ := h
    exact ⟨a, rfl, e _ _ h1⟩
def clD (c : Cl) : PyData := .tuple [.int c.s, .int c.n, opD c.pa, .int c.fi, .int c.fo]
theorem ClV.dp {K : PySem.W.Frag} {H : Hp} {v : V} {c : Cl} (h : ClV H v c) : Dp K H v (clD c) := by
  obtain ⟨a, u, rfl, ha, hu⟩ := h
  exact .tup (SqT.of ha) (.cons (.int _) (.cons (.int _) (.cons hu.dp (.cons (.int _) (.cons (.int _) .nil)))))
def clsD (cs : List Cl) : PyData := .tuple (cs.map clD)
theorem dp_cls {K : PySem.W.Frag} {H : Hp} {a : Addr} {us : List V} {cs : List Cl} (h : H a = some (.tup us)) (r : ClsV H us cs) : Dp K H (.ref a) (clsD cs) := .tup (SqT.of h) (dp_all (fun _ _ z => ClV.dp z) r)
theorem cls_lay (cs : List Cl) : (clsD cs).canLay0 = true := by
  simp only [clsD, PyData.canLay0]
  refine canLay_map (fun c => ?_) cs
  simp only [clD, PyData.canLay0, PyData.canLayAll0, op_lay, Bool.and_true]
theorem cls_shaped (cs : List Cl) : SeqAt.shaped (clsD cs) = true := by
  refine shaped_of (cls_lay cs) ?_
  have : PyData.depthAll (cs.map clD) ≤ 4 := depth_map (fun c => by
    have := op_depth c.pa
    simp only [clD, PyData.depth, PyData.depthAll]
    omega) cs
  simp only [clsD, PyData.depth]
  omega
/-- the words of the timeline -/
inductive Ask where
  | cut (m : Int) | join (p : Int) | move (p d : Int) | trim (p s n : Int) | lift (a b : Int) | place (c : Cl) | rout (a b : Int) | rin (m n : Int)
def Ask.word : Ask → Str
  | .cut _ => "cut" | .join _ => "join" | .move _ _ => "move" | .trim _ _ _ => "trim" | .lift _ _ => "lift" | .place _ => "place" | .rout _ _ => "ripple out" | .rin _ _ => "ripple in"
/-- the numbers, in a list -/
def NumsV (H : Hp) (a : Addr) : Ask → Prop
  | .cut m => H a = some (.lst [.int m])
  | .join p => H a = some (.lst [.int p])
  | .move p d => H a = some (.lst [.int p, .int d])
  | .trim p s n => H a = some (.lst [.int p, .int s, .int n])
  | .lift x y => H a = some (.lst [.int x, .int y])
  | .place c => ∃ v, H a = some (.lst [v]) ∧ ClV H v c
  | .rout x y => H a = some (.lst [.int x, .int y])
  | .rin m n => H a = some (.lst [.int m, .int n])
theorem NumsV.ex {H H' : Hp} {a : Addr} {k : Ask} (e : Ex H H') (h : NumsV H a k) : NumsV H' a k := by
  cases k with
  | place c =>
    obtain ⟨v, h1, h2⟩ := h
    exact ⟨v, e _ _ h1, h2.tk (TK.ex e)⟩
  | _ => exact e _ _ h
/-- two clips that can be one -/
def joinC (p : Int) (cs : List Cl) : TL :=
  if p < 0 ∨ (cs.length : Int) ≤ p + 1 then .err "join" p else match cs[p.toNat]?, cs[p.toNat + 1]? with
    | some c, some d => if c.fin ≠ d.s ∨ PyData.eqv (opD c.pa) (opD d.pa) = false ∨ 0 < c.fo ∨ 0 < d.fi then .err "join" p else .ok (cs.take p.toNat ++ [⟨c.s, c.n + d.n, c.pa, c.fi, d.fo⟩] ++ cs.drop (p.toNat + 2))
    | _, _ => .err "join" p
def spanC (p s n : Int) (cs : List Cl) : TL :=
  if p < 0 ∨ (cs.length : Int) ≤ p then .err "place" p else match cs[p.toNat]? with
    | some c => if s < 0 ∨ n < 1 ∨ n < c.fi + c.fo then .err "place" p else match putC ⟨s, n, c.pa, c.fi, c.fo⟩ (cs.take p.toNat ++ cs.drop (p.toNat + 1)) with
      | some ds => .ok ds
      | none => .err "place" p
    | none => .err "place" p
/-- what a word gives; no answer where a clip that is put meets another one -/
def lineC : Ask → List Cl → Option TL
  | .cut m, cs => match splitC m cs with
    | none => some (.err "cut" m)
    | some ds => some (if ds.length = cs.length then .err "cut" m else .ok ds)
  | .join p, cs => some (joinC p cs)
  | .move p d, cs => some (match cs[p.toNat]? with
    | some c => spanC p (c.s + d) c.n cs
    | none => .err "place" p)
  | .trim p s n, cs => some (spanC p s n cs)
  | .lift a b, cs => some (liftC a b cs)
  | .place c, cs => match liftC c.s c.fin cs with
    | .ok ds => (putC c ds).map .ok
    | r => some r
  | .rout a b, cs => some (match liftC a b cs with
    | .ok ds => .ok (laterC b (a - b) ds)
    | r => r)
  | .rin m n, cs => some (match splitC m cs with
    | some ds => .ok (laterC m n ds)
    | none => .err "cut" m)
end Od
namespace Od
open PySem L2 Evl
theorem joinC_out {p : Int} {cs : List Cl} (h : p < 0 ∨ (cs.length : Int) ≤ p + 1) : joinC p cs = .err "join" p := if_pos h
theorem joinC_at {m : Nat} {cs : List Cl} {c d : Cl} (hc : cs[m]? = some c) (hd : cs[m + 1]? = some d) : joinC (m : Int) cs = if c.fin ≠ d.s ∨ PyData.eqv (opD c.pa) (opD d.pa) = false ∨ 0 < c.fo ∨ 0 < d.fi then .err "join" (m : Int) else .ok (cs.take m ++ [⟨c.s, c.n + d.n, c.pa, c.fi, d.fo⟩] ++ cs.drop (m + 2)) := by
  have l := (List.getElem?_eq_some_iff.mp hd).1
  unfold joinC
  rw [if_neg (by omega)]
  simp only [Int.toNat_natCast, hc, hd]
theorem spanC_out {p s n : Int} {cs : List Cl} (h : p < 0 ∨ (cs.length : Int) ≤ p) : spanC p s n cs = .err "place" p := if_pos h
theorem spanC_at {m : Nat} {s n : Int} {cs : List Cl} {c : Cl} (hc : cs[m]? = some c) : spanC (m : Int) s n cs = if s < 0 ∨ n < 1 ∨ n < c.fi + c.fo then .err "place" (m : Int) else match putC ⟨s, n, c.pa, c.fi, c.fo⟩ (cs.take m ++ cs.drop (m + 1)) with
    | some ds => .ok ds
    | none => .err "place" (m : Int) := by
  have l := (List.getElem?_eq_some_iff.mp hc).1
  unfold spanC
  rw [if_neg (by omega)]
  simp only [Int.toNat_natCast, hc]
theorem op_shaped (o : Option Pa) : SeqAt.shaped (opD o) = true := by
  refine shaped_of (op_lay o) ?_
  have := op_depth o
  omega
/-- clips that are good: apart, in order, up to B -/
structure Good (B : Int) (cs : List Cl) : Prop where
  ap : Apart cs
  ok : ∀ c ∈ cs, c.Ok 50000
  fin : ∀ c ∈ cs, c.fin ≤ B
/-- a layer that adjusts has bare clips, another one paints -/
def AdjOk (ad : Bool) (c : Cl) : Prop := (ad = true → c.pa = none ∧ c.fi = 0 ∧ c.fo = 0) ∧ (ad = false → ∃ p, c.pa = some p)
/-- what is drawn for a word -/
def AskOk (len : Nat) (B : Int) : Ask → Prop
  | .cut m => 0 ≤ m ∧ m ≤ B + 2
  | .join p => -1 ≤ p ∧ p ≤ len
  | .move p d => -1 ≤ p ∧ p ≤ len ∧ -15 ≤ d ∧ d ≤ 15
  | .trim p s n => -1 ≤ p ∧ p ≤ len ∧ -2 ≤ s ∧ s ≤ B + 3 ∧ 0 ≤ n ∧ n ≤ 15
  | .lift a b => 0 ≤ a ∧ a < b ∧ b ≤ B + 22
  | .place c => c.Ok 50000 ∧ c.s ≤ B + 2
  | .rout a b => 0 ≤ a ∧ a < b ∧ b ≤ B + 22
  | .rin m n => 0 ≤ m ∧ m ≤ B + 2 ∧ 1 ≤ n ∧ n ≤ 20
def words8 : List Str := ["cut", "join", "move", "trim", "lift", "place", "ripple out", "ripple in"]
theorem not_meets {c : Cl} {ds : List Cl} (h : ∀ d ∈ ds, d.fin ≤ c.s ∨ c.fin ≤ d.s) : ∃ es, putC c ds = some es := by
  refine ⟨_, if_neg fun h' => ?_⟩
  obtain ⟨d, hd, hm⟩ := List.any_eq_true.mp h'
  unfold Cl.meets at hm
  rw [Bool.and_eq_true, decide_eq_true_eq, decide_eq_true_eq] at hm
  have := h d hd
  omega
/-- a word always has an answer -/
theorem line_some (k : Ask) (cs : List Cl) : ∃ r, lineC k cs = some r := by
  cases k with
  | cut m =>
    cases e : splitC m cs with
    | none => exact ⟨.err "cut" m, by simp only [lineC, e]⟩
    | some ds => exact ⟨_, by simp only [lineC, e]; rfl⟩
  | place c =>
    cases e : liftC c.s c.fin cs with
    | err w n => exact ⟨.err w n, by simp only [lineC, e]⟩
    | ok ds =>
      have h : ∀ d ∈ ds, d.fin ≤ c.s ∨ c.fin ≤ d.s := fun d hd => by
        unfold liftC at e
        split at e
        · cases e
        · split at e
          · cases e
          · cases e
            have := (List.mem_filter.mp hd).2
            unfold Cl.keep at this
            rw [Bool.or_eq_true, decide_eq_true_eq, decide_eq_true_eq] at this
            exact this
      obtain ⟨es, he⟩ := not_meets h
      exact ⟨.ok es, by simp only [lineC, e, he, Option.map_some]⟩
  | _ => exact ⟨_, rfl⟩
end Od
namespace Od
open PySem L2 Evl
theorem span_word {p s n m : Int} {w : Str} {cs : List Cl} (h : spanC p s n cs = .err w m) : w = "place" := by
  unfold spanC at h
  split at h
  · cases h
    rfl
  · split at h
    · split at h
      · cases h
        rfl
      · split at h
        · cases h
        · cases h
          rfl
    · cases h
      rfl
theorem join_word {p m : Int} {w : Str} {cs : List Cl} (h : joinC p cs = .err w m) : w = "join" := by
  unfold joinC at h
  split at h
  · cases h
    rfl
  · split at h
    · split at h
      · cases h
        rfl
      · cases h
    · cases h
      rfl
theorem lift_word {x y n : Int} {w : Str} {cs : List Cl} (h : liftC x y cs = .err w n) : w = "cut" := by
  unfold liftC at h
  split at h
  · cases h
    rfl
  · split at h
    · cases h
      rfl
    · cases h
/-- an error's word is one of the words -/
theorem line_word {k : Ask} {cs : List Cl} {r : TL} {w : Str} {n : Int} (h : lineC k cs = some r) (e : r = .err w n) : w ∈ words8 := by
  subst e
  have cut : w = "cut" → w ∈ words8 := fun e => by rw [e]; simp [words8]
  have join : w = "join" → w ∈ words8 := fun e => by rw [e]; simp [words8]
  have place : w = "place" → w ∈ words8 := fun e => by rw [e]; simp [words8]
  cases k with
  | cut m =>
    cases e : splitC m cs with
    | none =>
      simp only [lineC, e, Option.some.injEq, TL.err.injEq] at h
      exact cut h.1.symm
    | some ds =>
      simp only [lineC, e, Option.some.injEq] at h
      split at h
      · cases h
        exact cut rfl
      · cases h
  | join p =>
    simp only [lineC, Option.some.injEq] at h
    exact join (join_word h)
  | move p d =>
    simp only [lineC, Option.some.injEq] at h
    split at h
    · exact place (span_word h)
    · cases h
      exact place rfl
  | trim p s n2 =>
    simp only [lineC, Option.some.injEq] at h
    exact place (span_word h)
  | lift x y =>
    simp only [lineC, Option.some.injEq] at h
    exact cut (lift_word h)
  | place c =>
    cases e : liftC c.s c.fin cs with
    | err w2 n2 =>
      simp only [lineC, e, Option.some.injEq, TL.err.injEq] at h
      exact cut (h.1 ▸ lift_word e)
    | ok ds =>
      simp only [lineC, e] at h
      cases e2 : putC c ds with
      | none =>
        rw [e2] at h
        cases h
      | some es =>
        rw [e2] at h
        cases h
  | rout x y =>
    cases e : liftC x y cs with
    | err w2 n2 =>
      simp only [lineC, e, Option.some.injEq, TL.err.injEq] at h
      exact cut (h.1 ▸ lift_word e)
    | ok ds =>
      simp only [lineC, e, Option.some.injEq] at h
      cases h
  | rin m n2 =>
    cases e : splitC m cs with
    | none =>
      simp only [lineC, e, Option.some.injEq, TL.err.injEq] at h
      exact cut h.1.symm
    | some ds =>
      simp only [lineC, e, Option.some.injEq] at h
      cases h
end Od
namespace Od
open PySem L2 Evl
theorem cut_word {m n : Int} {w : Str} {cs : List Cl} (h : lineC (.cut m) cs = some (.err w n)) : w = "cut" := by
  cases e : splitC m cs with
  | none =>
    simp only [lineC, e, Option.some.injEq, TL.err.injEq] at h
    exact h.1.symm
  | some ds =>
    simp only [lineC, e, Option.some.injEq] at h
    split at h
    · cases h
      rfl
    · cases h
theorem rin_word {m k n : Int} {w : Str} {cs : List Cl} (h : lineC (.rin m k) cs = some (.err w n)) : w = "cut" := by
  cases e : splitC m cs with
  | none =>
    simp only [lineC, e, Option.some.injEq, TL.err.injEq] at h
    exact h.1.symm
  | some ds =>
    simp only [lineC, e, Option.some.injEq] at h
    cases h
theorem join_word2 {p n : Int} {w : Str} {cs : List Cl} (h : lineC (.join p) cs = some (.err w n)) : w = "join" := by
  simp only [lineC, Option.some.injEq] at h
  exact join_word h
theorem move_word {p d n : Int} {w : Str} {cs : List Cl} (h : lineC (.move p d) cs = some (.err w n)) : w = "place" := by
  simp only [lineC, Option.some.injEq] at h
  split at h
  · exact span_word h
  · cases h
    rfl
theorem trim_word {p s k n : Int} {w : Str} {cs : List Cl} (h : lineC (.trim p s k) cs = some (.err w n)) : w = "place" := by
  simp only [lineC, Option.some.injEq] at h
  exact span_word h
theorem lift_word2 {x y n : Int} {w : Str} {cs : List Cl} (h : lineC (.lift x y) cs = some (.err w n)) : w = "cut" := by
  simp only [lineC, Option.some.injEq] at h
  exact lift_word h
theorem place_word {c : Cl} {n : Int} {w : Str} {cs : List Cl} (h : lineC (.place c) cs = some (.err w n)) : w = "cut" := by
  cases e : liftC c.s c.fin cs with
  | err w2 n2 =>
    simp only [lineC, e, Option.some.injEq, TL.err.injEq] at h
    exact h.1 ▸ lift_word e
  | ok ds =>
    simp only [lineC, e] at h
    cases e2 : putC c ds with
    | none =>
      rw [e2] at h
      cases h
    | some es =>
      rw [e2] at h
      cases h
theorem rout_word {x y n : Int} {w : Str} {cs : List Cl} (h : lineC (.rout x y) cs = some (.err w n)) : w = "cut" := by
  cases e : liftC x y cs with
  | err w2 n2 =>
    simp only [lineC, e, Option.some.injEq, TL.err.injEq] at h
    exact h.1 ▸ lift_word e
  | ok ds =>
    simp only [lineC, e, Option.some.injEq] at h
    cases h
end Od

/-! errors of the program: Base.__init__(self, ..) of an own class; Kind() without arguments -/
namespace Od
open PySem PySem.Spec PyProof.Rows L2 Evl
section
variable {X : Cx} {o e : Expr} {es : List Expr} {t : TA} {x : Str} {p1 p2 pos : Pos} {CX : CXT} {k : Nat} {f D : Addr} {fd : FuncData} {ps : List Str} {sp : Sp} {ds : List Value} {dvs : List V} {E : XK} {pl : Sem Bool}
/-- Base.__init__(self, ..), Base an own class: the def is called -/
theorem pe_binit (F1 : FnOk X.prog X.w X.K X.mg X.base CX k f fd ps sp) (hr : Room k X.A) (hg : Gl X x) (hm : X.mg x = some (.ref D)) (rd : PySem.W.readsIn X.K D (.type "type") = true)
    (ga : PySem.W.specialIn X.K (.ref D) "__getattribute__" = some (some (.builtin "type.__getattribute__"))) (fa : PySem.W.findCls X.K (.ref D) (.type "type") "__init__" = some (.val (.ref f))) (kf : PySem.W.keepIn X.K (.ref f) = true)
    (hb : Binds X.K fd ps ds) (hd : Vals dvs ds) (hx : Passes CX X E) (ha : PA X (e :: es) t)
    (hdb : (x == ("__debug__" : Str)) = false := by decide) (he : starEach (e :: es) X.env = (false, eval e X.env) :: starEach es X.env := by rfl) (hpl : (backTo pos (starEach es X.env)).any (·.1) = false := by rfl)
    (hc : eval (.Call (.Attribute (.Name x p1) "__init__" p2) (e :: es) [] pos) X.env = (do
      let base ← eval (.Name x p1) X.env
      standAt p2.atName
      let (g, first) ← holding [base] (getMethod base "__init__" pl)
      callWith pos g first (backTo pos (starEach (e :: es) X.env)) (backToKw pos (keywordEach [] X.env))) := by rfl) :
    PE X (.Call (.Attribute (.Name x p1) "__init__" p2) (e :: es) [] pos) (tCall sp dvs E t) :=
  ⟨fun pins s σ H Q I h => PySem.W.methodCall_KW (ld_glob I hg hm (PySem.W.method_cls I.kIn ga (PySem.W.cls_value I.kIn rd fa rfl
    (PySem.W.callWith_K (h₀ := X.base) I.ok.mod.kin kf (thn (ha.run pos pins _ σ H _ (I.tok _) h) fun us s1 ⟨vs, H1, J, r, q⟩ => ⟨J.kIn, run_fn F1 hr hb hd hx J r q⟩) he hpl))) hdb) hc⟩
/-- Kind() -/
theorem pmk_none {C fI : Addr} (T : OexC X.K C) (iC : PySem.W.findIn X.K (.ref C) "__init__" = some (some (.ref fI))) (tI : PySem.W.typeIn X.K (.ref fI) = some (.type "function")) (F1 : FnOk X.prog X.w X.K X.mg X.base CX k fI fd ps sp) (hr : Room (k + 1) X.A)
    (hb : Binds X.K fd ps ds) (hd : Vals dvs ds) (hx : Passes CX X (fun _ _ _ => False)) (hg : Gl X x) (hm : X.mg x = some (.ref C)) (hdb : (x == ("__debug__" : Str)) = false := by decide) :
    PMk X (.Call (.Name x p1) [] [] pos) (tMkO C sp dvs tNil) := by
  intro pins s σ H Q I ⟨_, h⟩
  obtain ⟨nm, qn, N, bs, bm, sn, sub, ab, col, dd, k0, k1, k2, k3, k5, look, tail⟩ := T.cls
  refine wpAny_Call_Name_kw (ld_glob I hg hm (PySem.W.callWith_K0 I.kIn T.kC ?_) hdb)
  show wpAny _ _ (call (.ref C) []) _ _ _
  obtain ⟨hp, gens, dr, tk, os⟩ := s
  have up : hp.objs.size ≤ hp.objs.size + 1 := Nat.le_succ _
  have q0 := h (hp.objs.size + 1) (I.hok.fresh up)
  have more : ∀ b ob, hp.get? b = some ob → ((hp.push (PySem.W.kdv_tup [])).push (PySem.HandSPX.excO C hp.objs.size)).get? b = some ob := fun b ob z => Heap.get?_push_of_some _ (Heap.get?_push_of_some _ z)
  have there : ((hp.push (PySem.W.kdv_tup [])).push (PySem.HandSPX.excO C hp.objs.size)).get? (hp.objs.size + 1) = some (PySem.HandSPX.excO C hp.objs.size) := by heap_get
  have J : Inv X pins σ (upd H (hp.objs.size + 1) (exo (hp.objs.size + 1) C none)) ⟨(hp.push (PySem.W.kdv_tup [])).push (PySem.HandSPX.excO C hp.objs.size), gens, dr, tk, os⟩ :=
    I.laid (t' := tk) (a := hp.objs.size + 1) (o := exo (hp.objs.size + 1) C none) (h' := (hp.push (PySem.W.kdv_tup [])).push (PySem.HandSPX.excO C hp.objs.size)) more up (exo_ok there)
  have rel : Vals (V.ref (hp.objs.size + 1) :: ([] ++ dvs)) (Value.ref (hp.objs.size + 1) :: ds) := .cons rfl hd
  have len : (Value.ref (hp.objs.size + 1) :: [] ++ ds).length = ps.length := by
    have z := rel.length
    rw [F1.len _ _ _ _ q0] at z
    exact z.symm
  refine wpAny_call (PySem.HandSPX.call_own F.excBase_ValueError (fun Y => PySem.HandSPX.refsVE_contains Y bm tail) (I.kIn _ _ look) (PySem.W.looks_findIn I.kIn iC) (fun self => PySem.W.bind_fn I.kIn self tI) (by show 0 ≤ sizeLine; exact Nat.zero_le _) ?_)
  refine codeAny_mono (F1.run _ X.stack _ _ ⟨[Value.ref (hp.objs.size + 1)], []⟩ (Value.ref (hp.objs.size + 1) :: ds) _ _ (fun _ _ _ => False) (hr.make C [] []) (J.env0.make C [] []) (by have z := hb _ [Value.ref (hp.objs.size + 1)] J.kIn len; exact z) rel q0) fun r s' w => ?_
  match r, w with
  | .error er, w => exact hx pins σ _ _ er s' J w
  | .ok (.ret u), ⟨v, H2, os2, bare2, un2, hok2, rv, ev, d, fs, ea, ed, hd1, q2⟩ =>
    subst ev
    obtain ⟨h2, g2, d2, t2, os'⟩ := s'
    exact ⟨rv, mk_end (raises_own T.exC T.tyC) I up more un2 hok2 os2 bare2 ea ed hd1 q2⟩
  | .ok .next, w => exact w.elim
  | .ok .brk, w => exact w.elim
  | .ok .cont, w => exact w.elim
end
/-- the def that stands first in a class's body -/
def clsDef (s : Stmt) : Stmt := match s with
  | .ClassDef _ _ _ b _ _ _ _ _ _ _ => b.getD 0 (.Pass ⟨0, 0, 0, 0⟩)
  | _ => .Pass ⟨0, 0, 0, 0⟩
/-- what the written part says of the program's own base error -/
structure FilmTxt (K : PySem.W.Frag) (mg : Str → Option Value) (D fD : Addr) : Prop where
  g : mg "FilmError" = some (.ref D)
  rd : PySem.W.readsIn K D (.type "type") = true
  ga : PySem.W.specialIn K (.ref D) "__getattribute__" = some (some (.builtin "type.__getattribute__"))
  fa : PySem.W.findCls K (.ref D) (.type "type") "__init__" = some (.val (.ref fD))
  ve : mg "ValueError" = none
  vi : PySem.W.findCls K (.type "ValueError") (.type "type") "__init__" = some (.val (.builtin "ValueError.__init__"))
/-- .. of an error of a kind -/
structure KindTxt (K : PySem.W.Frag) (mg : Str → Option Value) (x : Str) (C fC : Addr) : Prop where
  g : mg x = some (.ref C)
  T : OexC K C
  xf : XfC K C
  noW : PySem.W.findIn K (.ref C) "word" = some none
  noP : PySem.W.findIn K (.ref C) "place" = some none
  iC : PySem.W.findIn K (.ref C) "__init__" = some (some (.ref fC))
  tI : PySem.W.typeIn K (.ref fC) = some (.type "function")
  te : PySem.W.exmOne K (.ref C) (.ref C) = some true
theorem exm_self {K : PySem.W.Frag} {S : Addr} (h1 : PySem.W.subIn K (.ref S) (.type "BaseException") = some true) (h2 : PySem.W.isClsIn K S = true) (h3 : PySem.W.typeIn K (.ref S) = some (.type "type")) (h4 : PySem.W.subIn K (.ref S) (.ref S) = some true) :
    PySem.W.exmOne K (.ref S) (.ref S) = some true := by
  have c1 : (PySem.W.subIn K (.ref S) (.type "BaseException") == some true) = true := by rw [h1] <;> rfl
  have c2 : ((PySem.W.clsIn K S).isSome && PySem.W.typeIn K (.ref S) == some (.type "type")) = true := by
    rw [show (PySem.W.clsIn K S).isSome = true from h2, h3] <;> rfl
  change (if (PySem.W.subIn K (.ref S) (.type "BaseException") == some true) = true then (if ((PySem.W.clsIn K S).isSome && PySem.W.typeIn K (.ref S) == some (.type "type")) = true then PySem.W.subIn K (.ref S) (.ref S) else none) else none) = _
  rw [if_pos c1, if_pos c2, h4]
/-- behind an __init__: the error has its dict -/
def spErrInit (K : PySem.W.Frag) : Sp := fun vs H Q _ => ∃ (a C : Addr) (wd p : V), vs = [.ref a, wd, p] ∧ OexC K C ∧ H a = some (exo a C none) ∧ PySem.W.findIn K (.ref C) "word" = some none ∧ PySem.W.findIn K (.ref C) "place" = some none ∧
  ∀ dx H', H dx = none → dx ≠ a → H' a = some (exo a C (some dx)) → H' dx = some (exd dx [("place", p), ("word", wd)]) → (∀ b, b ≠ a → b ≠ dx → H' b = H b) → Q .non H'
def spKind (K : PySem.W.Frag) (x : Str) : Sp := fun vs H Q _ => ∃ (a C : Addr) (p : V), vs = [.ref a, p] ∧ OexC K C ∧ H a = some (exo a C none) ∧ PySem.W.findIn K (.ref C) "word" = some none ∧ PySem.W.findIn K (.ref C) "place" = some none ∧
  ∀ dx H', H dx = none → dx ≠ a → H' a = some (exo a C (some dx)) → H' dx = some (exd dx [("place", p), ("word", .str x)]) → (∀ b, b ≠ a → b ≠ dx → H' b = H b) → Q .non H'
/-- an error of a kind can be made -/
def KindOk (P : Program) (w : World) (K : PySem.W.Frag) (mg : Str → Option Value) (base : Heap) (x : Str) (C : Addr) : Prop :=
  ∃ fC, KindTxt K mg x C fC ∧ ∃ fd, FnOk P w K mg base CX0 2 fC fd ["self", "place"] (spKind K x) ∧ (∃ ds, Vals [.non] ds ∧ Binds K fd ["self", "place"] ds) ∧ Binds K fd ["self", "place"] []
/-- the dict of an error as it flies -/
def errD (x : Str) (p : V) : HO := .xd [("place", p), ("word", .str x)]
section
variable {X : Cx} {x : Str} {C fC : Addr} {p : V} {H : Hp} {Q : XK}
/-- what is left of Kind(..): its dict -/
theorem kind_made {K : PySem.W.Frag} {mg : Str → Option Value} (T : KindTxt K mg x C fC) {a : Addr} (ha : H a = none) (h : ∀ d H', H d = none → Ex H H' → H' d = some (errD x p) → Q (.ref C) (some d) H') :
    spKind K x [.ref a, p] (upd H a (exo a C none)) (fun v H2 => v = .non ∧ ∃ (d : Addr) (fs : List (Str × V)), H2 a = some (exo a C (some d)) ∧ H2 d = some (exd d fs) ∧ H d = none ∧ Q (.ref C) (some d) (upd (del H2 a) d (.xd fs))) (fun _ _ _ => False) := by
  refine ⟨a, C, p, rfl, T.T, upd_same, T.noW, T.noP, fun dx H' hd hne h1 h2 h3 => ⟨rfl, dx, _, h1, h2, ?_, ?_⟩⟩
  · rwa [upd_ne hne] at hd
  · rw [upd_ne hne] at hd
    refine h dx _ hd (fun b o hb => ?_) upd_same
    have n1 : b ≠ a := fun z => by rw [z, ha] at hb; cases hb
    have n2 : b ≠ dx := fun z => by rw [z, hd] at hb; cases hb
    rw [upd_ne n2, del_ne n1, h3 b n1 n2, upd_ne n1]
    exact hb
end
/-- isinstance(e, c), e the error that the suite holds, with a dict of its own -/
def rIsED (K : PySem.W.Frag) (a : Addr) (cls : Value) (d : Option Addr) : List V → Hp → VK → Prop := fun xs H Q => ∃ (D dd : Addr) (fs : List (Str × V)) (c : V) (cv : Value) (b : Bool), cls = .ref D ∧ d = some dd ∧ H dd = some (.xd fs) ∧ ExcC K D ∧ PySem.W.isClsIn K D = true ∧
  xs = [.ref a, c] ∧ (∀ u, RelV c u → u = cv) ∧ PySem.W.kitOne K (.ref D) cv = some b ∧ Q (.bl b) H
theorem call_isED {X : Cx} {a : Addr} {cls : Value} {d : Option Addr} {oe : Obj} {pn : List (Addr × Obj)} (hz : Zc cls d oe) (hf : ∃ vs, oe.data = .fields vs) (K : PySem.W.Frag) (hK : X.K = K := by rfl) : CallR (X.suite a ((a, oe) :: pn)) (.builtin "isinstance") (rIsED K a cls d) := by
  subst hK
  rintro pins s σ H xs us Q I r ⟨D, dd, fs, c, cv, b, rfl, rfl, hdd, EC, ic, rfl, hcv, kit, q⟩
  cases r with
  | cons r1 rr =>
    cases rr with
    | cons r2 rr =>
      cases rr
      cases r1
      obtain rfl := hcv _ r2
      obtain ⟨look, _⟩ := I.pin (a, oe) (List.mem_append_left _ List.mem_cons_self)
      obtain ⟨vs, dat⟩ := hf
      have isD : ObjOk X.prog X.w H s.heap dd (.xd fs) := I.hok dd _ hdd
      obtain ⟨mA, ns, _⟩ := isD
      obtain ⟨od, lookD, _⟩ := lookIn_ns ns
      have J : PySem.W.InstAt s.heap a oe D (some od) := ⟨look, hz.1, by unfold PySem.W.notCls; rw [dat] <;> rfl, by rw [hz.2]; exact lookD⟩
      exact PySem.W.kia_one (PySem.W.kitx_exc (show (PySem.W.clsIn X.K D).isSome = true from ic) EC.hg EC.hk EC.hs EC.ha EC.hn EC.ht EC.hm) I.kIn J kit (fun z => nomatch z) fun tk => ⟨.bl b, H, I.kept (t' := tk) fun _ _ z => z, rfl, q⟩
end Od

/-! data of any kind, as a check may be passed it: known kinds, tuples in tuples -/
namespace Od
open PySem L2 Evl
theorem Kn.asTup {H : Hp} {v : V} {T : String} (k : Kn H v T) (h : isA T "tuple" = true) : ∃ a xs, v = .ref a ∧ H a = some (.tup xs) := by
  cases k with
  | tup h1 => exact ⟨_, _, rfl, h1⟩
  | non => exact absurd h (by decide +kernel)
  | bl b => exact absurd h (by decide +kernel)
  | int i => exact absurd h (by decide +kernel)
  | str x => exact absurd h (by decide +kernel)
  | lst h1 => exact absurd h (by decide +kernel)
theorem Kn.noTup {H : Hp} {v : V} {T : String} (k : Kn H v T) (h : isA T "tuple" = false) : ∀ a xs, v = .ref a → H a ≠ some (.tup xs) := by
  intro a xs e z
  cases k with
  | tup h1 => exact absurd h (by decide +kernel)
  | lst h1 =>
    cases e
    rw [h1] at z
    cases z
  | _ => cases e
/-- known, its tuples of at most m items, told n tuples deep -/
def Deep (m : Nat) : Nat → Hp → V → Prop
  | 0, H, v => ∃ T, Kn H v T
  | n + 1, H, v => (∃ T, Kn H v T) ∧ ∀ a xs, v = .ref a → H a = some (.tup xs) → xs.length ≤ m ∧ ∀ x ∈ xs, Deep m n H x
theorem Deep.kn {m n : Nat} {H : Hp} {v : V} (h : Deep m n H v) : ∃ T, Kn H v T := by
  cases n with
  | zero => exact h
  | succ n => exact h.1
theorem Deep.ex {m : Nat} : ∀ {n : Nat} {H H' : Hp} {v : V}, Ex H H' → Deep m n H v → Deep m n H' v
  | 0, _, _, _, e, ⟨T, k⟩ => ⟨T, k.mono e⟩
  | n + 1, H, H', v, e, ⟨⟨T, k⟩, h⟩ => by
    refine ⟨⟨T, k.mono e⟩, fun a xs ev ha => ?_⟩
    cases k with
    | tup h1 =>
      cases ev
      rw [e _ _ h1] at ha
      cases ha
      obtain ⟨l, q⟩ := h _ _ rfl h1
      exact ⟨l, fun x hx => (q x hx).ex e⟩
    | lst h1 =>
      cases ev
      rw [e _ _ h1] at ha
      cases ha
    | _ => cases ev
theorem Deep.le {m m' : Nat} (lm : m ≤ m') : ∀ {n : Nat} {H : Hp} {v : V}, Deep m n H v → Deep m' n H v
  | 0, _, _, h => h
  | n + 1, _, _, ⟨k, h⟩ => ⟨k, fun a xs ev ha => ⟨Nat.le_trans (h a xs ev ha).1 lm, fun x hx => ((h a xs ev ha).2 x hx).le lm⟩⟩
theorem Deep.down {m : Nat} : ∀ {n : Nat} {H : Hp} {v : V}, Deep m (n + 1) H v → Deep m n H v
  | 0, _, _, h => h.1
  | n + 1, _, _, ⟨k, h⟩ => ⟨k, fun a xs ev ha => ⟨(h a xs ev ha).1, fun x hx => ((h a xs ev ha).2 x hx).down⟩⟩
/-- nothing in it is a tuple -/
theorem Deep.flat {m n : Nat} {H : Hp} {v : V} {T : String} (k : Kn H v T) (h : ∀ a xs, v = .ref a → H a ≠ some (.tup xs)) : Deep m n H v := by
  cases n with
  | zero => exact ⟨T, k⟩
  | succ n => exact ⟨⟨T, k⟩, fun a xs ev ha => absurd ha (h a xs ev)⟩
theorem Deep.non {m n : Nat} {H : Hp} : Deep m n H .non := .flat .non fun _ _ z => by cases z
theorem Deep.bl {m n : Nat} {H : Hp} {b : Bool} : Deep m n H (.bl b) := .flat (.bl b) fun _ _ z => by cases z
theorem Deep.int {m n : Nat} {H : Hp} {i : Int} : Deep m n H (.int i) := .flat (.int i) fun _ _ z => by cases z
theorem Deep.str {m n : Nat} {H : Hp} {x : Str} : Deep m n H (.str x) := .flat (.str x) fun _ _ z => by cases z
theorem Deep.lst {m n : Nat} {H : Hp} {a : Addr} {xs : List V} (h : H a = some (.lst xs)) : Deep m n H (.ref a) := .flat (.lst h) fun _ _ e z => by
  cases e
  rw [h] at z
  cases z
theorem Deep.tup {m n : Nat} {H : Hp} {a : Addr} {xs : List V} (h : H a = some (.tup xs)) (l : xs.length ≤ m) (q : ∀ x ∈ xs, Deep m n H x) : Deep m (n + 1) H (.ref a) :=
  ⟨⟨_, .tup h⟩, fun b ys e hb => by
    cases e
    rw [h] at hb
    cases hb
    exact ⟨l, q⟩⟩
theorem Deep.at {m n : Nat} {H : Hp} {a : Addr} {xs : List V} (d : Deep m (n + 1) H (.ref a)) (h : H a = some (.tup xs)) : xs.length ≤ m ∧ ∀ x ∈ xs, Deep m n H x := d.2 a xs rfl h
theorem cutV_le {xs : List V} {lo hi : Option Int} : (cutV xs lo hi).length ≤ xs.length := by
  unfold cutV
  rw [List.length_take, List.length_drop]
  omega
theorem cut_two {xs : List V} {t lo : Int} (t0 : 0 ≤ t) (h : t ≤ lo) : (cutV xs none (some t)).length + (cutV xs (some lo) none).length ≤ xs.length := by
  unfold cutV
  rw [List.length_take, List.length_drop, List.length_take, List.length_drop]
  obtain ⟨t', rfl⟩ := Int.eq_ofNat_of_zero_le t0
  obtain ⟨lo', rfl⟩ := Int.eq_ofNat_of_zero_le (Int.le_trans t0 h)
  rw [HT.sIx_nat, HT.sIx_nat, HT.sIx_none, HT.sIx_none]
  omega
/-- one of the strange values: a tuple among them has only numbers -/
def Odd (H : Hp) (v : V) : Prop := (∃ T, Kn H v T) ∧ ∀ a xs, v = .ref a → H a = some (.tup xs) → xs.length ≤ 2 ∧ ∀ x ∈ xs, ∃ i, x = .int i
theorem Odd.deep {m n : Nat} {H : Hp} {v : V} (h : Odd H v) (l : 2 ≤ m) : Deep m n H v := by
  obtain ⟨⟨T, k⟩, q⟩ := h
  cases n with
  | zero => exact ⟨T, k⟩
  | succ n =>
    refine ⟨⟨T, k⟩, fun a xs ev ha => ⟨Nat.le_trans (q a xs ev ha).1 l, fun x hx => ?_⟩⟩
    obtain ⟨i, rfl⟩ := (q a xs ev ha).2 x hx
    exact .int
theorem Odd.flat {H : Hp} {v : V} {T : String} (k : Kn H v T) (h : ∀ a xs, v = .ref a → H a ≠ some (.tup xs)) : Odd H v := ⟨⟨T, k⟩, fun a xs ev ha => absurd ha (h a xs ev)⟩
theorem Odd.lst {H : Hp} {a : Addr} {xs : List V} (h : H a = some (.lst xs)) : Odd H (.ref a) := .flat (.lst h) fun _ _ e z => by
  cases e
  rw [h] at z
  cases z
theorem Odd.tup {H : Hp} {a : Addr} {xs : List V} (h : H a = some (.tup xs)) (l : xs.length ≤ 2) (q : ∀ x ∈ xs, ∃ i, x = .int i) : Odd H (.ref a) :=
  ⟨⟨_, .tup h⟩, fun b ys e hb => by
    cases e
    rw [h] at hb
    cases hb
    exact ⟨l, q⟩⟩
theorem Odd.non {H : Hp} : Odd H .non := .flat .non fun _ _ z => by cases z
theorem Odd.bl {H : Hp} {b : Bool} : Odd H (.bl b) := .flat (.bl b) fun _ _ z => by cases z
theorem Odd.int {H : Hp} {i : Int} : Odd H (.int i) := .flat (.int i) fun _ _ z => by cases z
theorem Odd.str {H : Hp} {x : Str} : Odd H (.str x) := .flat (.str x) fun _ _ z => by cases z
theorem Odd.ex {H H' : Hp} {v : V} (e : Ex H H') (h : Odd H v) : Odd H' v := by
  obtain ⟨⟨T, k⟩, q⟩ := h
  refine ⟨⟨T, k.mono e⟩, fun a xs ev ha => ?_⟩
  cases k with
  | tup h1 =>
    cases ev
    rw [e _ _ h1] at ha
    cases ha
    exact q _ _ rfl h1
  | lst h1 =>
    cases ev
    rw [e _ _ h1] at ha
    cases ha
  | _ => cases ev
/-- a strange value, drawn -/
def spOdd (K : PySem.W.Frag) : Sp := fun vs H Q _ => ∃ a, vs = [.ref a] ∧ DeckAt K H a ∧ ∀ v H', Ex H H' → Odd H' v → Q v H'
/-- a tuple bent -/
def spBent (K : PySem.W.Frag) : Sp := fun vs H Q _ => ∃ (a b : Addr) (m n : Nat) (xs : List V), vs = [.ref a, .ref b] ∧ DeckAt K H a ∧ H b = some (.tup xs) ∧ Deep m (n + 1) H (.ref b) ∧ 2 ≤ m ∧ m ≤ 1000 ∧ ∀ v H', Ex H H' → Deep (m + 1) (n + 1) H' v → Q v H'
/-- isinstance of a class: what the program's text says -/
def IsK (K : PySem.W.Frag) (mg : Str → Option Value) (C : Addr) (x : Str) (b : Bool) : Prop := ∃ D, mg x = some (.ref D) ∧ PySem.W.kitOne K (.ref C) (.ref D) = some b
structure IsV (K : PySem.W.Frag) (C : Addr) : Prop where
  ec : ExcC K C
  ic : PySem.W.isClsIn K C = true
  ve : PySem.W.kitOne K (.ref C) (.type "ValueError") = some true
end Od

/-! match on a tuple: sequences whose items are texts, names and _, and _ as the last case -/
namespace Od
open PySem L2 Evl PySem.Spec PyProof.Rows
def isW (w : Str) : V → Bool
  | .str x => x == w
  | _ => false
section
variable {X : Cx}
theorem rc_of {prog : Program} {w : World} {A : Around} {E : Value → Shared → Prop} {s : Shared} {Q : Value → Shared → Prop} {a b : Value} {k : Bool} (h : SeqAt.RcAt A s a b k) (hq : Q (.bool k) s) : wpAny (model prog w) A (compareOp .Eq a b) Q E s := h prog w E Q hq
/-- x == 'w', x of a known kind -/
def rEqW : R2 := fun x y H Q => ∃ T w, Kn H x T ∧ y = .str w ∧ Q (.bl (isW w x)) H
theorem op_eqW (hu : X.A.units < cLine) : OpR X (compareOp .Eq) rEqW := by
  intro pins s σ H x y v u Q I rx ry ⟨T, w, kn, e, q⟩
  subst e
  have z := fun (h : rEq x (.str w) H Q) => op_eq pins s σ H x (.str w) v u Q I rx ry h
  have ns : ∀ {c : V}, (∀ y, c ≠ .str y) → isW w c = decide (c = V.str w) := fun {c} hc => by
    rw [decide_eq_false (hc w)]
    cases c with
    | str y => exact absurd rfl (hc y)
    | _ => rfl
  cases kn with
  | non => exact z ⟨rfl, by rw [← ns (fun _ e => by cases e)]; exact q⟩
  | bl b => exact z ⟨rfl, by rw [← ns (fun _ e => by cases e)]; exact q⟩
  | int i => exact z ⟨rfl, by rw [← ns (fun _ e => by cases e)]; exact q⟩
  | str j =>
    refine z ⟨rfl, ?_⟩
    have e : isW w (.str j) = decide (V.str j = V.str w) := by rw [dec_str]; rfl
    rw [← e]
    exact q
  | tup h =>
    cases rx
    obtain ⟨t, rfl⟩ := ry
    obtain ⟨its, _, isT, _⟩ := I.tuple (SqT.of h)
    exact rc_of (SeqAt.RcAt.tuple_str w t (show s.heap.IsTuple _ its.toArray from isT) hu) ⟨.bl false, H, I, rfl, q⟩
  | lst h =>
    cases rx
    obtain ⟨t, rfl⟩ := ry
    obtain ⟨its, _, isL, _⟩ := I.list (SqL.of h)
    exact rc_of (SeqAt.RcAt.list_str w t isL.isList hu) ⟨.bl false, H, I, rfl, q⟩
/-- what a pattern binds: slots, and the names of the model -/
inductive Bnd (X : Cx) : List (Nat × V) → List (Str × Value) → Prop
  | nil : Bnd X [] []
  | cons {i : Nat} {n : Str} {x : V} {u : Value} {vs : List (Nat × V)} {bs : List (Str × Value)} : X.N[i]? = some n → Loc X.env.scope n → (X.fn n = true ∨ X.env.scope.names.lookup n = some .local) → RelV x u → Bnd X vs bs → Bnd X ((i, x) :: vs) ((n, u) :: bs)
def sets (σ : L2.St) : List (Nat × V) → L2.St
  | [] => σ
  | p :: vs => sets (σ.set p.1 (some p.2)) vs
theorem bind_all {pins : List (Addr × Obj)} (hN : X.N.Nodup) {Q : Unit → Shared → Prop} {E : Value → Shared → Prop} : ∀ {vs : List (Nat × V)} {bs : List (Str × Value)} {s : Shared} {σ : L2.St} {H : Hp}, Bnd X vs bs → Inv X pins σ H s → (∀ s', Inv X pins (sets σ vs) H s' → Q () s') →
    wpAny (model X.prog X.w) X.A (assignInOrder (bs.map fun (n, _) => bindName X.env n) (bs.map (·.2))) Q E s
  | _, _, s, σ, H, .nil, I, q => wpAny_assignInOrder_none (q s I)
  | _, _, s, σ, H, .cons hi hx hf r b, I, q => wpAny_assignInOrder_more (wpAny_bindName (store_ok I hN hi hx r (fun s2 I2 => bind_all hN b I2 q) hf))
/-- items against values: the reading; what is bound, or no match -/
abbrev TPs := List V → Hp → (List (Nat × V) → Prop) → Prop → Prop
def MP (X : Cx) (pins : List (Addr × Obj)) (σ : L2.St) (H : Hp) (yes : List (Nat × V) → Prop) (no : Prop) (r : Option (List (Str × Value))) (s' : Shared) : Prop :=
  Inv X pins σ H s' ∧ match r with
    | none => no
    | some bs => ∃ vs, Bnd X vs bs ∧ yes vs
structure PMs (X : Cx) (ps : List Pattern) (t : TPs) : Prop where
  run : ∀ (pins : List (Addr × Obj)) (s : Shared) (σ : L2.St) (H : Hp) (xs : List V) (us : List Value) (yes : List (Nat × V) → Prop) (no : Prop), Inv X pins σ H s → Vals xs us → t xs H yes no → wpAny (model X.prog X.w) X.A (matchEach ps X.env us) (MP X pins σ H yes no) X.xe s
def mNil : TPs := fun xs H yes no => xs = [] ∧ yes []
theorem pms_nil : PMs X [] mNil := ⟨fun pins s σ H xs us yes no I r ⟨e, q⟩ => wpAny_matchEach_nil ⟨I, [], .nil, q⟩⟩
def mCap (i : Nat) (t : TPs) : TPs := fun xs H yes no => ∃ x ys, xs = x :: ys ∧ t ys H (fun bs => yes ((i, x) :: bs)) no
theorem pms_cap {i : Nat} {n : Str} {pos : Pos} {ps : List Pattern} {t : TPs} (hi : X.N[i]? = some n) (hx : Loc X.env.scope n) (h : PMs X ps t) (hf : X.fn n = true ∨ X.env.scope.names.lookup n = some .local := by first | exact .inl rfl | exact .inr rfl | assumption) : PMs X (.MatchAs none (some n) pos :: ps) (mCap i t) := by
  refine ⟨fun pins s σ H xs us yes no I r ⟨x, ys, e, q⟩ => ?_⟩
  subst e
  cases r with
  | cons r1 rr =>
    refine wpAny_matchEach_cons (wpAny_matchPattern_Capture (thn (h.run pins s σ H ys _ _ no I rr q) fun r' s2 ⟨I2, m⟩ => ?_))
    cases r' with
    | none => exact ⟨I2, m⟩
    | some bs =>
      obtain ⟨vs, b, y⟩ := m
      exact ⟨I2, _, .cons hi hx hf r1 b, y⟩
def mWild (t : TPs) : TPs := fun xs H yes no => ∃ x ys, xs = x :: ys ∧ t ys H yes no
theorem pms_wild {pos : Pos} {ps : List Pattern} {t : TPs} (h : PMs X ps t) : PMs X (.MatchAs none none pos :: ps) (mWild t) := by
  refine ⟨fun pins s σ H xs us yes no I r ⟨x, ys, e, q⟩ => ?_⟩
  subst e
  cases r with
  | cons r1 rr =>
    refine wpAny_matchEach_cons (wpAny_matchPattern_Capture (thn (h.run pins s σ H ys _ _ no I rr q) fun r' s2 ⟨I2, m⟩ => ?_))
    cases r' with
    | none => exact ⟨I2, m⟩
    | some bs => exact ⟨I2, m⟩
def mWord (w : Str) (t : TPs) : TPs := fun xs H yes no => ∃ x ys T, xs = x :: ys ∧ Kn H x T ∧ if isW w x = true then t ys H yes no else no
theorem pms_word {w : Str} {j : Nat} {p pos : Pos} {ps : List Pattern} {t : TPs} (hu : X.A.units + 64 < cLine) (h : PMs X ps t) : PMs X (.MatchValue (.Constant (.str w) j p) pos :: ps) (mWord w t) := by
  refine ⟨fun pins s σ H xs us yes no I r ⟨x, ys, T, e, kn, q⟩ => ?_⟩
  subst e
  cases r with
  | cons r1 rr =>
    refine wpAny_matchEach_cons (wpAny_matchPattern_Value (thn (pe_str.run pins s σ H (fun v H' => v = .str w ∧ H' = H) I ⟨rfl, rfl⟩) fun u s1 ⟨v, H1, I1, rv, ev, eH⟩ => ?_))
    subst ev eH
    refine thn (op_eqW (by omega) pins s1 σ H1 x (.str w) _ _ (fun v H' => v = .bl (isW w x) ∧ H' = H1) I1 r1 rv ⟨T, w, kn, rfl, rfl, rfl⟩) fun c s2 ⟨v, H2, I2, rc, ev, eH⟩ => ?_
    subst ev eH
    cases rc
    refine wpAny_truthy_bool ?_
    cases hw : isW w x with
    | false =>
      rw [hw] at q
      exact ⟨I2, q⟩
    | true =>
      rw [hw] at q
      refine thn (h.run pins s2 σ H2 ys _ _ no I2 rr q) fun r' s3 ⟨I3, m⟩ => ?_
      cases r' with
      | none => exact ⟨I3, m⟩
      | some bs => exact ⟨I3, m⟩
/-- the cases -/
structure PCs (X : Cx) (cs : List MatchCase) (t : V → TS) : Prop where
  run : ∀ (pins : List (Addr × Obj)) (s : Shared) (σ : L2.St) (H : Hp) (v : V) (u : Value) (first : Bool) (D : Ends), Inv X pins σ H s → RelV v u → t v D σ H → wpAny (model X.prog X.w) X.A (matchCases cs X.env u first) (SP X pins D) X.xe s
def cNil : V → TS := fun _ D σ H => D.nx σ H
theorem pcs_nil : PCs X [] cNil := ⟨fun pins s σ H v u first D I r q => wpAny_matchCases_nil ⟨σ, H, I, q⟩⟩
def cElse (tb : TS) : V → TS := fun _ D σ H => tb D σ H
theorem pcs_else {pos : Pos} {body : List Stmt} {rest : List MatchCase} {tb : TS} (hb : PSs X body tb) : PCs X (⟨.MatchAs none none pos, none, body⟩ :: rest) (cElse tb) :=
  ⟨fun pins s σ H v u first D I r q => wpAny_matchCases_cons (wpAny_matchPattern_Capture (wpAny_assignInOrder_none (hb.run pins s σ H D I q)))⟩
def cSeq (K : PySem.W.Frag) (n : Nat) (tp : TPs) (tb : TS) (tr : V → TS) : V → TS := fun v D σ H => ∃ a xs, v = .ref a ∧ SqT K H a xs ∧ if xs.length = n then tp xs H (fun bs => tb D (sets σ bs) H) (tr v D σ H) else tr v D σ H
theorem pcs_seq (K : PySem.W.Frag) {pos : Pos} {ps : List Pattern} {body : List Stmt} {rest : List MatchCase} {tp : TPs} {tb : TS} {tr : V → TS} (hc : X.calm = true) (hN : X.N.Nodup) (hp : PMs X ps tp) (hb : PSs X body tb) (hr : PCs X rest tr)
    (hstar : ps.findIdx? (·.isStar) = none := by rfl) (hwild : (ps.all fun p => p.isWildcard || (p.isStar && p.names.isEmpty)) = false := by rfl) (hK : X.K = K := by rfl) : PCs X (⟨.MatchSequence ps pos, none, body⟩ :: rest) (cSeq K ps.length tp tb tr) := by
  subst hK
  refine ⟨fun pins s σ H v u first D I r ⟨a, xs, e, sq, q⟩ => ?_⟩
  subst e
  have r0 := r
  cases r
  obtain ⟨its, rv, isT, sz⟩ := I.tuple sq
  have len := rv.length
  have fit : ((its.toArray.size : Nat) : Int) < 2 ^ 63 := by
    have e : sizeLine = 16777216 := by decide
    rw [List.size_toArray]
    omega
  refine wpAny_matchCases_cons (wpAny_matchPattern_Sequence (wpAny_collectionFlag (T := "tuple") (b := true) isT.typeIs flag_seq_tuple ?_) hstar hwild)
  refine pyLen_tuple isT fit ?_
  have I1 : Inv X pins σ H { s with toks := s.toks + 1 + 1 } := I.kept (h' := s.heap) (t' := s.toks + 1 + 1) fun _ _ z => z
  by_cases hl : xs.length = ps.length
  · rw [if_pos hl] at q
    have e1 : ((its.toArray.size : Int) != (ps.length : Int)) = false := by
      rw [List.size_toArray]
      simp only [bne_eq_false_iff_eq]
      omega
    rw [e1]
    have e2 : ps.length = its.toArray.size := by rw [List.size_toArray]; omega
    rw [e2]
    refine PySem.wpAny_unpackItems_tuple (s := { s with toks := s.toks + 1 + 1 }) (I.ok.hd hc) (show s.heap.IsTuple a its.toArray from isT) fun h' hx => ?_
    have I2 : Inv X pins σ H { s with heap := h', toks := s.toks + 1 + 1 } := I.kept (t' := s.toks + 1 + 1) fun b o z => hx b o (Nat.ne_of_lt (Heap.lt_size z)) z
    refine thn (hp.run pins _ σ H xs _ _ _ I2 (by simpa using rv) q) fun r' s3 ⟨I3, m⟩ => ?_
    cases r' with
    | none => exact hr.run pins s3 σ H _ _ false D I3 r0 m
    | some bs =>
      obtain ⟨vs, b, y⟩ := m
      exact bind_all hN b I3 fun s4 I4 => hb.run pins s4 _ H D I4 y
  · rw [if_neg hl] at q
    have e1 : ((its.toArray.size : Int) != (ps.length : Int)) = true := by
      rw [List.size_toArray]
      simp only [bne_iff_ne, ne_eq]
      omega
    rw [e1]
    exact hr.run pins _ σ H _ _ false D I1 r0 q
theorem ps_match {e : Expr} {cs : List MatchCase} {pos : Pos} {te : TE} {t : V → TS} (he : PE X e te) (hcs : PCs X cs t) : PS X (.Match e cs pos) (fun D σ H => te σ H fun v H1 => t v D σ H1) :=
  ⟨fun pins s σ H D I h => wpAny_Match (thn (he.run pins s σ H _ I h) fun u s1 ⟨v, H1, I1, r, q⟩ => hcs.run pins s1 σ H1 v u true D I1 r q)⟩
end
theorem lenY {A B : Prop} {n m : Nat} (h : n = m) (q : A) : if n = m then A else B := by
  rw [if_pos h]
  exact q
theorem lenN {A B : Prop} {n m : Nat} (h : n ≠ m) (q : B) : if n = m then A else B := by
  rw [if_neg h]
  exact q
end Od

/-! data that is told whole: short, not deep -/
namespace Od
open PySem L2 Evl
theorem da_kn {H : Hp} {v : V} {d : PyData} (h : Da H v d) : ∃ T, Kn H v T := by
  cases h with
  | non => exact ⟨_, .non⟩
  | bl b => exact ⟨_, .bl b⟩
  | int i => exact ⟨_, .int i⟩
  | str x => exact ⟨_, .str x⟩
  | lst h _ _ => exact ⟨_, .lst h⟩
  | tup h _ _ => exact ⟨_, .tup h⟩
theorem da_item {H : Hp} {x : V} : ∀ {xs : List V} {ds : List PyData}, DaAll H xs ds → x ∈ xs → ∃ d ∈ ds, Da H x d
  | _, _, .cons h k, hx => by
    rcases List.mem_cons.mp hx with rfl | hx
    · exact ⟨_, by simp, h⟩
    · obtain ⟨d, hd, q⟩ := da_item k hx
      exact ⟨d, by simp [hd], q⟩
theorem da_deep : ∀ {n : Nat} {H : Hp} {v : V} {d : PyData}, Da H v d → Deep 1000000 n H v
  | 0, _, _, _, h => da_kn h
  | n + 1, H, v, d, h => by
    refine ⟨da_kn h, fun a xs e ha => ?_⟩
    cases h with
    | tup h1 k l =>
      cases e
      rw [h1] at ha
      cases ha
      refine ⟨by rw [DaAll.length k]; exact l, fun x hx => ?_⟩
      obtain ⟨d', _, q⟩ := da_item k hx
      exact da_deep q
    | lst h1 k l =>
      cases e
      rw [h1] at ha
      cases ha
    | _ => cases e
/-- told, at most B heavy and n deep -/
def DX (B n : Nat) (H : Hp) (v : V) : Prop := ∃ d, Da H v d ∧ Sh B d ∧ d.depth ≤ n ∧ d.canLay0 = true
theorem DX.ex {B n : Nat} {H H' : Hp} {v : V} (e : Ex H H') (h : DX B n H v) : DX B n H' v := by
  obtain ⟨d, h1, h2⟩ := h
  exact ⟨d, h1.mono e, h2⟩
theorem DX.le {B C n m : Nat} {H : Hp} {v : V} (h : DX B n H v) (b : B ≤ C) (l : n ≤ m) : DX C m H v := by
  obtain ⟨d, h1, h2, h3, h4⟩ := h
  exact ⟨d, h1, h2.mono b, Nat.le_trans h3 l, h4⟩
theorem DX.kn {B n : Nat} {H : Hp} {v : V} (h : DX B n H v) : ∃ T, Kn H v T := by
  obtain ⟨d, h1, _⟩ := h
  exact da_kn h1
theorem DX.deep {B n k : Nat} {H : Hp} {v : V} (h : DX B n H v) : Deep 1000000 k H v := by
  obtain ⟨d, h1, _⟩ := h
  exact da_deep h1
theorem dx_all {B n : Nat} {H : Hp} : ∀ {xs : List V}, (∀ x ∈ xs, DX B n H x) → ∃ ds, DaAll H xs ds ∧ ShAll ((B + 1) * xs.length) ds ∧ PyData.depthAll ds ≤ n ∧ PyData.canLayAll0 ds = true
  | [], _ => ⟨[], .nil, by rw [List.length_nil, Nat.mul_zero]; exact .nil, Nat.zero_le _, rfl⟩
  | x :: xs, h => by
    obtain ⟨d, h1, h2, h3, h4⟩ := h x (by simp)
    obtain ⟨ds, k1, k2, k3, k4⟩ := dx_all (xs := xs) fun y hy => h y (by simp [hy])
    have z := ShAll.cons h2 k2
    refine ⟨d :: ds, .cons h1 k1, ⟨z.1, z.2, z.3, Nat.le_trans z.4 ?_⟩, ?_, ?_⟩
    · rw [List.length_cons, Nat.mul_add, Nat.mul_one, Nat.add_comm]
      exact Nat.le_refl _
    · simp only [PyData.depthAll]
      exact Nat.max_le.mpr ⟨h3, k3⟩
    · simp only [PyData.canLayAll0, h4, k4, Bool.and_self]
theorem DX.tup {B n m : Nat} {H : Hp} {a : Addr} {xs : List V} (ha : H a = some (.tup xs)) (l : xs.length ≤ m) (hm : m ≤ 1000000) (h : ∀ x ∈ xs, DX B n H x) : DX ((B + 1) * m) (n + 1) H (.ref a) := by
  obtain ⟨ds, k1, k2, k3, k4⟩ := dx_all h
  refine ⟨.tuple ds, .tup ha k1 (by rw [← DaAll.length k1]; omega), k2.tup.mono (Nat.mul_le_mul_left _ l), ?_, ?_⟩
  · simp only [PyData.depth]
    omega
  · simp only [PyData.canLay0]
    exact k4
theorem DX.lst {B n m : Nat} {H : Hp} {a : Addr} {xs : List V} (ha : H a = some (.lst xs)) (l : xs.length ≤ m) (hm : m ≤ 1000000) (h : ∀ x ∈ xs, DX B n H x) : DX ((B + 1) * m) (n + 1) H (.ref a) := by
  obtain ⟨ds, k1, k2, k3, k4⟩ := dx_all h
  refine ⟨.list ds, .lst ha k1 (by rw [← DaAll.length k1]; omega), k2.lst.mono (Nat.mul_le_mul_left _ l), ?_, ?_⟩
  · simp only [PyData.depth]
    omega
  · simp only [PyData.canLay0]
    exact k4
theorem DX.non {H : Hp} : DX 60 0 H .non := ⟨_, .non, ⟨rfl, rfl, by decide, by decide⟩, by decide, rfl⟩
theorem DX.bl {H : Hp} {b : Bool} : DX 60 0 H (.bl b) := ⟨_, .bl b, by cases b <;> exact ⟨rfl, rfl, by decide, by decide⟩, by simp only [PyData.depth]; decide, rfl⟩
theorem DX.int {H : Hp} {i : Int} (h1 : -1000000 ≤ i) (h2 : i ≤ 1000000) : DX 60 0 H (.int i) := ⟨_, .int i, (sh_int h1 h2).mono (by decide), by simp only [PyData.depth]; decide, rfl⟩
theorem DX.str {H : Hp} {x : Str} (h : (PyData.str x).showable = true) (h1 : (PyData.str x).leavesShort 13 = true) (h2 : (PyData.str x).weight ≤ 60) (h3 : (PyData.str x).canLay0 = true) : DX 60 0 H (.str x) := ⟨_, .str x, ⟨h, rfl, h1, h2⟩, by simp only [PyData.depth]; decide, h3⟩
/-- the items of what is told -/
theorem sh_mem {B : Nat} {d : PyData} : ∀ {ds : List PyData}, ShAll B ds → d ∈ ds → Sh B d
  | e :: ds, h, hd => by
    have e1 := h.1
    have e2 := h.2
    have e3 := h.3
    have e4 := h.4
    simp only [PyData.showableAll, PyData.hasDictAll, PyData.leavesShortAll, PyData.weightAll, Bool.and_eq_true, Bool.or_eq_false_iff] at e1 e2 e3 e4
    rcases List.mem_cons.mp hd with rfl | hd
    · exact ⟨e1.1, e2.1, e3.1, by omega⟩
    · exact sh_mem ⟨e1.2, e2.2, e3.2, by omega⟩ hd
theorem depth_of {d : PyData} : ∀ {ds : List PyData}, d ∈ ds → d.depth ≤ PyData.depthAll ds
  | e :: ds, hd => by
    simp only [PyData.depthAll]
    rcases List.mem_cons.mp hd with rfl | hd
    · exact Nat.le_max_left _ _
    · exact Nat.le_trans (depth_of hd) (Nat.le_max_right _ _)
theorem lay_of {d : PyData} : ∀ {ds : List PyData}, PyData.canLayAll0 ds = true → d ∈ ds → d.canLay0 = true
  | e :: ds, h, hd => by
    simp only [PyData.canLayAll0, Bool.and_eq_true] at h
    rcases List.mem_cons.mp hd with rfl | hd
    · exact h.1
    · exact lay_of h.2 hd
theorem DX.items {B n : Nat} {H : Hp} {a : Addr} {xs : List V} (h : DX B n H (.ref a)) (ha : H a = some (.tup xs)) : xs.length ≤ 1000000 ∧ ∀ x ∈ xs, DX B (n - 1) H x := by
  obtain ⟨d, h1, h2, h3, h4⟩ := h
  cases h1 with
  | tup h1 k l =>
    rw [h1] at ha
    cases ha
    refine ⟨by rw [DaAll.length k]; exact l, fun x hx => ?_⟩
    obtain ⟨d, hd, q⟩ := da_item k hx
    simp only [PyData.canLay0] at h4
    simp only [PyData.depth] at h3
    have e1 := h2.1
    have e2 := h2.2
    have e3 := h2.3
    have e4 := h2.4
    simp only [PyData.showable, PyData.hasDict, PyData.leavesShort, PyData.weight] at e1 e2 e3 e4
    have := depth_of hd
    exact ⟨d, q, sh_mem ⟨e1, e2, e3, e4⟩ hd, by omega, lay_of h4 hd⟩
  | lst h1 k l =>
    rw [h1] at ha
    cases ha
theorem str_sym {x w : Str} : (x == w) = (w == x) := by
  rw [← dec_str, ← dec_str, decide_eq_decide]
  exact ⟨fun e => e.symm, fun e => e.symm⟩
theorem eqv_w {H : Hp} {v : V} {d : PyData} {w : Str} (h : Da H v d) : PyData.eqv d (.str w) = isW w v := by
  cases h with
  | str x => rw [PyData.eqv]; rfl
  | _ => simp only [PyData.eqv] <;> rfl
theorem w_eqv {H : Hp} {v : V} {d : PyData} {w : Str} (h : Da H v d) : PyData.eqv (.str w) d = isW w v := by
  cases h with
  | str x => rw [PyData.eqv, str_sym]; rfl
  | _ => simp only [PyData.eqv] <;> rfl
section
variable {X : Cx}
/-- x in a row of texts -/
def rInW (K : PySem.W.Frag) : R2 := fun x y H Q => ∃ (d : PyData) (a : Addr) (ws : List Str), Da H x d ∧ d.canLay0 = true ∧ y = .ref a ∧ (SqL K H a (ws.map V.str) ∨ SqT K H a (ws.map V.str)) ∧ PyData.canLayAll0 (ws.map PyData.str) = true ∧ Q (.bl (ws.any fun w => isW w x)) H
theorem dp_strs {K : PySem.W.Frag} {H : Hp} : ∀ ws : List Str, DpAll K H (ws.map V.str) (ws.map PyData.str)
  | [] => .nil
  | w :: ws => .cons (.str w) (dp_strs ws)
theorem depth_strs : ∀ ws : List Str, PyData.depthAll (ws.map PyData.str) = 0
  | [] => rfl
  | w :: ws => by
    rw [List.map_cons, PyData.depthAll, depth_strs ws, PyData.depth]
    rfl
theorem any_w {H : Hp} {v : V} {d : PyData} (h : Da H v d) : ∀ ws : List Str, ((ws.map PyData.str).any fun y => PyData.eqv y d) = ws.any fun w => isW w v
  | [] => rfl
  | w :: ws => by rw [List.map_cons, List.any_cons, List.any_cons, any_w h ws, w_eqv h]
theorem op_inW (hu : X.A.units + 64 < cLine) : OpR X (compareOp .In) (rInW X.K) := by
  intro pins s σ H x y v u Q I rx ry ⟨d, a, ws, hd, ld, ey, hy, lw, q⟩
  subst ey
  obtain ⟨bs, r1⟩ := Dp.reads I d x v hd.dp rx
  rcases hy with hy | hy
  · obtain ⟨as, r2⟩ := Dp.reads I (.list (ws.map PyData.str)) _ u (.lst hy (dp_strs ws)) ry
    refine SeqAt.in_list_reads r2 r1 lw ld (by rw [depth_strs, Nat.zero_min]; omega) ⟨.bl _, H, I, rfl, ?_⟩
    rw [any_w hd]
    exact q
  · obtain ⟨as, r2⟩ := Dp.reads I (.tuple (ws.map PyData.str)) _ u (.tup hy (dp_strs ws)) ry
    refine SeqAt.in_tuple_reads r2 r1 lw ld (by rw [depth_strs, Nat.zero_min]; omega) ⟨.bl _, H, I, rfl, ?_⟩
    rw [any_w hd]
    exact q
theorem kinW (K : PySem.W.Frag) (hu : X.A.units + 64 < cLine) (h : X.K = K := by rfl) : OpR X (compareOp .In) (rInW K) := by
  subst h
  exact op_inW hu
theorem keqW (hu : X.A.units + 64 < cLine) : OpR X (compareOp .Eq) rEqW := op_eqW (by omega)
end
/-- a strange value, drawn, told -/
def spOddX (K : PySem.W.Frag) : Sp := fun vs H Q _ => ∃ a, vs = [.ref a] ∧ DeckAt K H a ∧ ∀ v H', Ex H H' → DX 200 1 H' v → Q v H'
/-- a tuple bent, told -/
def spBentX (K : PySem.W.Frag) : Sp := fun vs H Q _ => ∃ (a b : Addr) (m B n : Nat) (xs : List V), vs = [.ref a, .ref b] ∧ DeckAt K H a ∧ H b = some (.tup xs) ∧ xs.length ≤ m ∧ m ≤ 1000 ∧ 200 ≤ B ∧ 1 ≤ n ∧ (∀ x ∈ xs, DX B n H x) ∧ ∀ v H', Ex H H' → DX ((B + 1) * (m + 1)) (n + 1) H' v → Q v H'
end Od

/-! try with several clauses, each with a name -/
namespace Od
open PySem PySem.Spec PyProof.Rows L2
abbrev HdAs := Value × Nat × (Addr → Value → Option Addr → TS)
/-- what the named clauses wish of an exception of the body, one after the other -/
def wManyAs (K : PySem.W.Frag) (Wout : WX) (D : Ends) : List HdAs → WX
  | [] => Wout
  | (c, i, ts) :: r => fun cls d σ H => ∃ b, PySem.W.exmOne K cls c = some b ∧ (b = true → ∀ a, H a = none → ts a cls d { nx := fun σ' H' => D.nx (σ'.set i none) H', rt := D.rt, bk := fun σ' H' => D.bk (σ'.set i none) H', ct := fun σ' H' => D.ct (σ'.set i none) H' } (σ.set i (some (.ref a))) H) ∧
    (b = false → wManyAs K Wout D r cls d σ H)
inductive HdsAs (X : Cx) : List ExceptHandler → List HdAs → Prop
  | nil : HdsAs X [] []
  | cons {x n : Str} {c : Value} {i : Nat} {ts : Addr → Value → Option Addr → TS} {b₀ : Stmt} {suite : List Stmt} {np pos' : Pos} {hds : List ExceptHandler} {l : List HdAs} (hi : X.N[i]? = some n) (hln : X.env.kindOf n = some .local) (hc : Names X x c)
      (hsu : ∀ (a : Addr) (oe : Obj) (cls : Value) (d : Option Addr) (pn : List (Addr × Obj)), Zc cls d oe → (∃ vs, oe.data = .fields vs) → PSs (X.suite a ((a, oe) :: pn)) (b₀ :: suite) (ts a cls d)) (r : HdsAs X hds l) :
      HdsAs X (.ExceptHandler (some (.Name x np)) (some n) (b₀ :: suite) pos' :: hds) ((c, i, ts) :: l)
section
variable {X : Cx} {body : List Stmt} {h₀ : ExceptHandler} {hds : List ExceptHandler} {l : List HdAs} {pos : Pos} {tb : WX → TS} {Wout : WX}
theorem ps_try_manyAs (hs : X.stack = X.env :: X.outer) (hf : X.env.frame = some X.env.locals) (hN : X.N.Nodup) (tk : Takes X Wout)
    (hb : ∀ (W : WX) (pn : List (Addr × Obj)) (xe : Value → Shared → Prop), Takes (X.tr pn xe) W → PassesOwn (model X.prog X.w) X.A X.env xe → PSs (X.tr pn xe) body (tb W))
    (hh : HdsAs X (h₀ :: hds) l) : PS X (.Try body (h₀ :: hds) [] [] pos) (fun D σ H => tb (wManyAs X.K Wout D l) D σ H) := by
  refine ⟨fun pins s σ H D I h => ?_⟩
  have ok := I.ok
  have hfr : X.A.frames = some (X.env :: X.outer) := by rw [ok.frames, hs]
  refine wpAny_Try_except ?_
  refine wpAny_mono ((hb (wManyAs X.K Wout D l) (X.pn ++ pins) (fun e s₁ => wpAny (model X.prog X.w) X.A (noteFrame e X.env) (fun _ s₂ => wpAny (model X.prog X.w) X.A (setFlight e none) (fun _ s₃ =>
    wpAny (model X.prog X.w) X.A (handleBy e X.env (h₀ :: hds)) (SP X pins D) X.xe s₃) X.xe s₂) X.xe s₁) (fun u s' xx => ?_) PassesOwn.looking).run [] s σ H D (I.toTry _) h) (fun f s1 hsp => ?_) (fun e s1 he => he)
  · -- the catch
    obtain ⟨a, B, sI, pins', σ', H', cls, d, rfl, J', nb, up, sky, na, os, ag, w⟩ := xx
    have J : Inv X pins σ' H' sI := J'.ofTry ok
    have sky' : Sky B (X.env :: X.outer) a (Zc cls d) X.env.locals s'.heap := by rw [← hs]; exact sky
    show wpAny (model X.prog X.w) X.A (noteFrame (.ref a) X.env) _ _ _
    refine Sky.land Zc.steady hfr hf sky' fun h3 fl3 up3 => ?_
    have J3 : Inv X pins σ' H' { s' with heap := h3 } := J.landed nb fl3.1 (up.trans up3) os ag
    obtain ⟨oe3, vs3, he3, hz3, hd3⟩ := fl3.there
    have notFr : ∀ {h : Heap} {o : Obj} {vs : Array Value}, h.FunFrames B (X.env :: X.outer) → h.get? a = some o → o.data = .fields vs → a ∉ frs (X.env :: X.outer) := fun {h o vs} ff e dd hm => by
      obtain ⟨_, o', e', hnf⟩ := ff.mem hm
      rw [e] at e'; cases e'
      exact hnf _ dd
    have nfr := notFr fl3.2.2.1 he3 hd3
    have nL : a ≠ X.env.locals := fun z => nfr (List.mem_filterMap.mpr ⟨X.env, List.mem_cons_self, by rw [hf, z]⟩)
    have nF : a ∉ X.fs := fun hm => by
      obtain ⟨e, he, q⟩ := List.mem_filterMap.mp hm
      exact nfr (List.mem_filterMap.mpr ⟨e, List.mem_cons_of_mem _ he, q⟩)
    have S3 := J3.suite he3 hd3 na nL nF
    have go : ∀ {hds' : List ExceptHandler} {l' : List HdAs}, HdsAs X hds' l' → wManyAs X.K Wout D l' cls d σ' H' →
        wpAny (model X.prog X.w) X.A (handleBy (.ref a) X.env hds') (SP X pins D) X.xe { s' with heap := h3 } := by
      intro hds' l' hk
      induction hk with
      | nil =>
        intro w
        refine wpAny_handleBy_nil ?_
        obtain ⟨k1, k2, k3, oe, vs, T, oT, ts', he, hz, hd, h1, hr⟩ := id fl3
        unfold PySem.passOn
        refine wpAny_bind (wpAny_field he hd h1 ?_)
        rw [if_neg (show ¬ ((Value.ref T == Value.none) = true) from by simp)]
        have fin : wpAny (model X.prog X.w) X.A (setFlight (.ref a) X.env.frame) (fun _ s4 => wpAny (model X.prog X.w) X.A (throw (.ref a) : Sem Flow) (SP X pins D) X.xe s4) X.xe { s' with heap := h3 } := by
          rw [hf]
          refine HandSPX.setFlight_upZ fl3 fun h4 hh4 up4 => wpAny_throw (tk _ _ ?_)
          exact ⟨a, B, sI, pins, σ', H', cls, d, rfl, J, nb, (up.trans up3).trans up4, .inr (.inr (by rw [hs]; exact hh4)), na, os, ag, w⟩
        first
          | exact wpAny_bind (wpAny_pure (wpAny_bind fin))
          | exact wpAny_bind fin
      | @cons x n c i ts b₀ suite np pos' hds2 l2 hi hln hc hsu r ih =>
        intro w
        obtain ⟨b, hb1, hyes, hno⟩ := w
        have hloc : Loc X.env.scope n := .inl hln
        refine wpAny_handleBy_cons (codeAny_handlers_test ?_) (by intro q; cases q)
        have LT : PySem.W.Looks (model X.prog X.w) h3 (typeOf (.ref a)) cls := fun A Q E s k q => wpAny_typeOf_ref (k _ _ he3) (by rw [hz3.1]; exact q)
        have LM := PySem.W.exm_one (M := model X.prog X.w) (J3.kIn) LT hb1
        have test : ∀ {Q : Value → Shared → Prop} {E : Value → Shared → Prop}, Q c { s' with heap := h3 } → wpAny (model X.prog X.w) (X.A.mark (some (.ref a))) (eval (.Name x np) X.env) Q E { s' with heap := h3 } := fun {Q E} q => by
          obtain ⟨hg, hdbg, hm | ⟨hm, hv, hnn⟩⟩ := hc
          · exact ld_glob (X := X.suite a ((a, oe3) :: (X.pn ++ pins))) S3 hg hm q hdbg
          · exact ld_blt (X := X.suite a ((a, oe3) :: (X.pn ++ pins))) S3 hg hm hv q hnn hdbg
        refine test (LM.here ?_)
        cases b with
        | true =>
          refine codeAny_handlers_suite_as ?_
          refine HandSPX.lands_againZ fl3 fun h4 fl4 up4 => ?_
          have J4 : Inv X pins σ' H' { s' with heap := h4 } := J.landed nb fl4.1 ((up.trans up3).trans up4) os ag
          obtain ⟨oe4, vs4, he4, hz4, hd4⟩ := fl4.there
          have S4 := J4.suite he4 hd4 na nL nF
          refine store_ok (X := X.suite a ((a, oe4) :: (X.pn ++ pins))) (v := .ref a) S4 hN hi hloc rfl (fun s5 S5 => ?_) (.inr hln)
          refine wpAny_mono ((hsu a oe4 cls d (X.pn ++ pins) hz4 ⟨_, hd4⟩).run [] s5 _ H' _ S5 (hyes rfl a na)) (fun f s6 hsp => ?_) (fun _ _ z => False.elim z)
          have end_ : ∀ {σ6 : L2.St} {H6 : Hp} {Q : Shared → Prop}, Inv (X.suite a ((a, oe4) :: (X.pn ++ pins))) [] σ6 H6 s6 → (∀ s7, Inv X pins (σ6.set i none) H6 s7 → Q s7) →
              wpAny (model X.prog X.w) X.A (do bindName X.env n .none; unbindBehindTheSuite X.env n pos') (fun _ s7 => Q s7) X.xe s6 := fun {σ6 H6 Q} S6 hq => gone_ok (S6.unsuite ok) hN hi hln hq
          cases f with
          | next =>
            obtain ⟨σ6, H6, S6, q6⟩ := hsp
            exact end_ S6 fun s7 J7 => ⟨_, _, J7, q6⟩
          | brk =>
            obtain ⟨σ6, H6, S6, q6⟩ := hsp
            exact end_ S6 fun s7 J7 => ⟨_, _, J7, q6⟩
          | cont =>
            obtain ⟨σ6, H6, S6, q6⟩ := hsp
            exact end_ S6 fun s7 J7 => ⟨_, _, J7, q6⟩
          | ret u =>
            obtain ⟨v6, σ6, H6, S6, r6, q6⟩ := hsp
            exact end_ S6 fun s7 J7 => ⟨_, _, _, J7, r6, q6⟩
        | false =>
          show wpAny _ X.A (handleBy (.ref a) X.env hds2) _ _ _
          exact ih (hno rfl)
    exact go hh w
  · cases f with
    | next =>
      obtain ⟨σ', H', J', q⟩ := hsp
      exact wpAny_execs_nil ⟨σ', H', J'.ofTry ok, q⟩
    | brk =>
      obtain ⟨σ', H', J', q⟩ := hsp
      exact ⟨σ', H', J'.ofTry ok, q⟩
    | cont =>
      obtain ⟨σ', H', J', q⟩ := hsp
      exact ⟨σ', H', J'.ofTry ok, q⟩
    | ret u =>
      obtain ⟨v, σ', H', J', r, q⟩ := hsp
      exact ⟨v, σ', H', J'.ofTry ok, r, q⟩
end
end Od

/-! one class of errors that another one does not catch -/
namespace Od
open PySem L2 Evl PySem.Spec PyProof.Rows
theorem exm_no {K : PySem.W.Frag} {S U : Addr} (h1 : PySem.W.subIn K (.ref U) (.type "BaseException") = some true) (h2 : PySem.W.isClsIn K U = true) (h3 : PySem.W.typeIn K (.ref U) = some (.type "type")) (h4 : PySem.W.subIn K (.ref S) (.ref U) = some false) :
    PySem.W.exmOne K (.ref S) (.ref U) = some false := by
  have c1 : (PySem.W.subIn K (.ref U) (.type "BaseException") == some true) = true := by rw [h1] <;> rfl
  have c2 : ((PySem.W.clsIn K U).isSome && PySem.W.typeIn K (.ref U) == some (.type "type")) = true := by
    rw [show (PySem.W.clsIn K U).isSome = true from h2, h3] <;> rfl
  change (if (PySem.W.subIn K (.ref U) (.type "BaseException") == some true) = true then (if ((PySem.W.clsIn K U).isSome && PySem.W.typeIn K (.ref U) == some (.type "type")) = true then PySem.W.subIn K (.ref S) (.ref U) else none) else none) = _
  rw [if_pos c1, if_pos c2, h4]
end Od

/-! names; data told, by its weight -/
namespace Od
open PySem L2 Evl PySem.Spec PyProof.Rows
theorem DX.deepB {B n k : Nat} {H : Hp} {v : V} (h : DX B n H v) : Deep B k H v := by
  have len : ∀ {ds : List PyData}, ds.length ≤ PyData.weightAll ds := fun {ds} => by
    induction ds with
    | nil => exact Nat.zero_le _
    | cons d ds ih =>
      simp only [PyData.weightAll, List.length_cons]
      omega
  obtain ⟨d, h1, h2, h3, h4⟩ := h
  induction k generalizing v d n with
  | zero => exact da_kn h1
  | succ k ih =>
    refine ⟨da_kn h1, fun a xs e ha => ?_⟩
    cases h1 with
    | tup h1 q l =>
      cases e
      rw [h1] at ha
      cases ha
      have e1 := h2.1
      have e2 := h2.2
      have e3 := h2.3
      have e4 := h2.4
      simp only [PyData.showable, PyData.hasDict, PyData.leavesShort, PyData.weight] at e1 e2 e3 e4
      simp only [PyData.canLay0] at h4
      refine ⟨by rw [DaAll.length q]; exact Nat.le_trans len e4, fun x hx => ?_⟩
      obtain ⟨d', hd', q'⟩ := da_item q hx
      exact ih (n := d'.depth) _ q' (sh_mem ⟨e1, e2, e3, e4⟩ hd') (Nat.le_refl _) (lay_of h4 hd')
    | lst h1 q l =>
      cases e
      rw [h1] at ha
      cases ha
    | _ => cases e
/-! names -/
def letters : List Nat := (Str.ofString "abcdefghijklmnopqrstuvwxyz").cps.toList
def nameS (z : Str) : Bool := (decide (1 ≤ (z.length : Int)) && decide ((z.length : Int) ≤ 8)) && z.cps.toList.all fun c => decide (c ∈ letters)
def nameV : V → Bool
  | .str z => nameS z
  | _ => false
end Od

/-! a drawn film: boxes, whats, layers -/
namespace Od
open PySem L2 Evl
structure Bx where
  l : Int
  t : Int
  w : Int
  h : Int
structure Bx.Ok (b : Bx) : Prop where
  l0 : -3 ≤ b.l
  l1 : b.l ≤ 8
  t0 : -3 ≤ b.t
  t1 : b.t ≤ 8
  w0 : 1 ≤ b.w
  w1 : b.w ≤ 64
  h0 : 1 ≤ b.h
  h1 : b.h ≤ 64
def BxV (H : Hp) (v : V) (b : Bx) : Prop := ∃ a, v = .ref a ∧ H a = some (.tup [.int b.l, .int b.t, .int b.w, .int b.h])
theorem BxV.tk {H H' : Hp} {v : V} {b : Bx} (e : TK H H') (h : BxV H v b) : BxV H' v b := by
  obtain ⟨a, rfl, ha⟩ := h
  exact ⟨a, rfl, e _ _ ha⟩
inductive Wh where
  | invert | shift (n : Int) | paint (o : Int) (m : Str)
def Wh.items : Wh → List V
  | .invert => [.str "invert"] | .shift n => [.str "shift", .int n] | .paint o m => [.str "paint", .int o, .str m]
def Wh.word : Wh → Str
  | .invert => "invert" | .shift _ => "shift" | .paint _ _ => "paint"
/-- it adjusts -/
def Wh.adj : Wh → Bool
  | .paint _ _ => false
  | _ => true
def modes3 : List Str := ["over", "add", "times"]
def Wh.Ok : Wh → Prop
  | .invert => True
  | .shift n => -255 ≤ n ∧ n ≤ 255
  | .paint o m => 0 ≤ o ∧ o ≤ 256 ∧ m ∈ modes3
def WhV (H : Hp) (v : V) (x : Wh) : Prop := ∃ a, v = .ref a ∧ H a = some (.tup x.items)
theorem WhV.tk {H H' : Hp} {v : V} {x : Wh} (e : TK H H') (h : WhV H v x) : WhV H' v x := by
  obtain ⟨a, rfl, ha⟩ := h
  exact ⟨a, rfl, e _ _ ha⟩
theorem Wh.at0 (x : Wh) : atI x.items 0 = some (.str x.word) := by cases x <;> rfl
structure La where
  name : Str
  box : Bx
  ms : List Mv
  wh : Wh
  cs : List Cl
def LaV (H : Hp) (v : V) (l : La) : Prop := ∃ a bv ma wv ca us ws, v = .ref a ∧ H a = some (.tup [.str l.name, bv, .ref ma, wv, .ref ca]) ∧ BxV H bv l.box ∧ H ma = some (.tup us) ∧ MvsV H us l.ms ∧ WhV H wv l.wh ∧ H ca = some (.tup ws) ∧ ClsV H ws l.cs
theorem LaV.tk {H H' : Hp} {v : V} {l : La} (e : TK H H') (h : LaV H v l) : LaV H' v l := by
  obtain ⟨a, bv, ma, wv, ca, us, ws, rfl, h1, h2, h3, h4, h5, h6, h7⟩ := h
  exact ⟨a, bv, ma, wv, ca, us, ws, rfl, e _ _ h1, h2.tk e, e _ _ h3, h4.tk e, h5.tk e, e _ _ h6, h7.tk e⟩
/-- moves as drawn -/
structure MvsOk (ms : List Mv) : Prop where
  asc : Asc ms
  ok : ∀ m ∈ ms, 0 ≤ m.f ∧ m.f ≤ 20 ∧ -5 ≤ m.a ∧ m.a ≤ 5 ∧ -5 ≤ m.d ∧ m.d ≤ 5
  len : ms.length ≤ 3
/-- a clip as drawn -/
structure Cl.OkF (c : Cl) : Prop where
  s0 : 0 ≤ c.s
  n1 : 1 ≤ c.n
  n2 : c.n ≤ 8
  fi0 : 0 ≤ c.fi
  fo0 : 0 ≤ c.fo
  fs : c.fi + c.fo ≤ c.n
  pa : opOk 6 c.pa
structure ClsOkF (ad : Bool) (cs : List Cl) : Prop where
  ap : Apart cs
  ok : ∀ c ∈ cs, c.OkF
  fin : ∀ c ∈ cs, c.fin ≤ 40
  adj : ∀ c ∈ cs, AdjOk ad c
  len : cs.length ≤ 2
structure La.Ok (l : La) : Prop where
  box : l.box.Ok
  ms : MvsOk l.ms
  wh : l.wh.Ok
  cs : ClsOkF l.wh.adj l.cs
theorem Wh.adj_eq (x : Wh) : (!decide (V.str x.word = V.str "paint")) = x.adj := by
  cases x with
  | invert => decide +kernel
  | shift n => show (!decide (V.str "shift" = V.str "paint")) = true; decide +kernel
  | paint o m => show (!decide (V.str "paint" = V.str "paint")) = false; decide +kernel
end Od
namespace Od
open PySem L2 Evl
theorem pickS {ws : List Str} {i : Int} (h0 : 0 ≤ i) (h1 : i < ws.length) : ∃ w, w ∈ ws ∧ atI (ws.map V.str) i = some (.str w) := by
  obtain ⟨m, rfl⟩ := Int.eq_ofNat_of_zero_le h0
  have hm : m < ws.length := by omega
  exact ⟨ws[m], List.getElem_mem hm, atI_nat (by rw [List.getElem?_map, List.getElem?_eq_getElem hm]; rfl)⟩
end Od
namespace Od
open PySem L2 Evl
structure Fi where
  w : Int
  h : Int
  n : Int
  b : Int
  ls : List La
def ghijkl : Str := "ghijkl"
def tails4 : List Str := ["", "b", "zz", "qwerty"]
/-- the name of a drawn layer -/
def NameOk (i : Nat) (n : Str) : Prop := ∃ c t, ghijkl.cps.toList[i]? = some c ∧ t ∈ tails4 ∧ n = ⟨#[c]⟩ ++ t
structure Fi.Ok (x : Fi) : Prop where
  w0 : 1 ≤ x.w
  w1 : x.w ≤ 64
  h0 : 1 ≤ x.h
  h1 : x.h ≤ 64
  wh : x.w * x.h ≤ 81
  n0 : 1 ≤ x.n
  n1 : x.n ≤ 10
  b0 : 0 ≤ x.b
  b1 : x.b ≤ 255
  len : x.ls.length ≤ 5
  ok : ∀ (i : Nat) l, x.ls[i]? = some l → l.Ok ∧ NameOk i l.name
def FiV (H : Hp) (v : V) (x : Fi) : Prop := ∃ a L us, v = .ref a ∧ H a = some (.tup [.int x.w, .int x.h, .int x.n, .int x.b, .ref L]) ∧ H L = some (.lst us) ∧ Paired (LaV H) us x.ls
end Od

/-! objects of own classes: made, their properties read, their methods called -/
namespace Od
open PySem L2 Evl
/-- a property that is read -/
structure Prp (P : Program) (w : World) (K : PySem.W.Frag) (mg : Str → Option Value) (base : Heap) (C : Addr) (x : Str) (k : Nat) (sp : Sp) where
  p : Addr
  f : Addr
  fd : FuncData
  hp : PropOf K C x p f
  ok : FnOk P w K mg base CX0 k f fd ["self"] sp
  b : L2.Binds K fd ["self"] []
/-- a class that is called -/
structure MkO (P : Program) (w : World) (K : PySem.W.Frag) (mg : Str → Option Value) (base : Heap) (CX : CXT) (x : Str) (C : Addr) (k : Nat) (ps : List Str) (sp : Sp) where
  f : Addr
  fd : FuncData
  M : Mk K C f
  ok : FnOk P w K mg base CX k f fd ps sp
  mgC : mg x = some (.ref C)
  b : L2.Binds K fd ps []
/-- a method that is called -/
structure Mth (P : Program) (w : World) (K : PySem.W.Frag) (mg : Str → Option Value) (base : Heap) (CX : CXT) (C : Addr) (x : Str) (k : Nat) (ps : List Str) (sp : Sp) where
  f : Addr
  fd : FuncData
  M : Meth K C x f
  ok : FnOk P w K mg base CX k f fd ps sp
  b : L2.Binds K fd ps []
end Od
namespace Od
open PySem L2 Evl
/-- the slots at a def's start, written out -/
def startL : List Str → List V → L2.St
  | [], _ => []
  | _ :: N, [] => none :: startL N []
  | _ :: N, v :: vs => some v :: startL N vs
theorem startL_nil : ∀ N : List Str, startL N [] = List.replicate N.length none
  | [] => rfl
  | n :: N => by
    show none :: startL N [] = _
    rw [startL_nil N]
    rfl
theorem start_nrm : ∀ {N : List Str} {vs : List V}, vs.length ≤ N.length → L2.start N vs = startL N vs
  | [], [], _ => rfl
  | n :: N, [], _ => by
    unfold L2.start
    rw [startL_nil]
    rfl
  | [], v :: vs, h => absurd h (Nat.not_succ_le_zero _)
  | n :: N, v :: vs, h => by
    have ih := start_nrm (N := N) (vs := vs) (Nat.le_of_succ_le_succ h)
    unfold L2.start at ih ⊢
    show some v :: (vs.map some ++ List.replicate (N.length + 1 - (vs.length + 1)) none) = some v :: startL N vs
    rw [Nat.add_sub_add_right, ih]
end Od

/-! films that are allowed; a film as an object -/
namespace Od
open PySem L2 Evl
/-- a clip that is allowed -/
structure Cl.Vd (c : Cl) : Prop where
  s0 : 0 ≤ c.s
  s1 : c.s ≤ 10000
  n1 : 1 ≤ c.n
  n2 : c.n ≤ 10000
  fi0 : 0 ≤ c.fi
  fo0 : 0 ≤ c.fo
  fs : c.fi + c.fo ≤ c.n
  pa : opOk 12 c.pa
structure ClsVd (ad : Bool) (cs : List Cl) : Prop where
  ap : Apart cs
  ok : ∀ c ∈ cs, c.Vd
  adj : ∀ c ∈ cs, AdjOk ad c
  len : cs.length ≤ 64
structure Bx.Vd (b : Bx) : Prop where
  l0 : -1000 ≤ b.l
  l1 : b.l ≤ 1000
  t0 : -1000 ≤ b.t
  t1 : b.t ≤ 1000
  w0 : 1 ≤ b.w
  w1 : b.w ≤ 64
  h0 : 1 ≤ b.h
  h1 : b.h ≤ 64
structure MvsVd (ms : List Mv) : Prop where
  asc : Asc ms
  ok : ∀ m ∈ ms, 0 ≤ m.f ∧ m.f ≤ 1000 ∧ -1000 ≤ m.a ∧ m.a ≤ 1000 ∧ -1000 ≤ m.d ∧ m.d ≤ 1000
  len : ms.length ≤ 16
structure La.Vd (l : La) : Prop where
  name : nameS l.name = true
  box : l.box.Vd
  ms : MvsVd l.ms
  wh : l.wh.Ok
  cs : ClsVd l.wh.adj l.cs
structure Fi.Vd (x : Fi) : Prop where
  w0 : 1 ≤ x.w
  w1 : x.w ≤ 64
  h0 : 1 ≤ x.h
  h1 : x.h ≤ 64
  n0 : 1 ≤ x.n
  n1 : x.n ≤ 1000
  b0 : 0 ≤ x.b
  b1 : x.b ≤ 255
  len : x.ls.length ≤ 16
  ok : ∀ l ∈ x.ls, l.Vd
  nd : (x.ls.map La.name).Nodup
theorem MvsVd.mok {ms : List Mv} (h : MvsVd ms) : ∀ m ∈ ms, m.Ok := fun m hm => by
  obtain ⟨h1, h2, h3, h4, h5, h6⟩ := h.ok m hm
  exact ⟨h1, by omega, h3, h4, h5, h6⟩
theorem Cl.OkF.vd {c : Cl} (h : c.OkF) (hf : c.fin ≤ 40) : c.Vd := by
  obtain ⟨h1, h2, h3, h4, h5, h6, h7⟩ := h
  unfold Cl.fin at hf
  refine ⟨h1, by omega, h2, by omega, h4, h5, h6, ?_⟩
  cases hp : c.pa with
  | none => trivial
  | some p =>
    rw [hp] at h7
    cases p with
    | solid x => exact h7
    | steps f s z => exact h7
    | pic p =>
      have h7 : p.Ok 6 := h7
      exact ⟨h7.w1, by have := h7.w2; omega, h7.h1, by have := h7.h2; omega, h7.vl, h7.cl, h7.vb, h7.cb⟩
theorem name_ok {i : Nat} {n : Str} (h : NameOk i n) : nameS n = true := by
  obtain ⟨c, t, hc, ht, rfl⟩ := h
  have hm : c ∈ ghijkl.cps.toList := List.mem_of_getElem? hc
  have hg : ghijkl.cps.toList = [103, 104, 105, 106, 107, 108] := by decide +kernel
  rw [hg] at hm
  unfold tails4 at ht
  simp only [List.mem_cons, List.not_mem_nil, or_false] at hm ht
  rcases hm with rfl | rfl | rfl | rfl | rfl | rfl <;> rcases ht with rfl | rfl | rfl | rfl <;> decide +kernel
theorem name_first {i : Nat} {n : Str} (h : NameOk i n) : n.cps.toList[0]? = ghijkl.cps.toList[i]? := by
  obtain ⟨c, t, hc, ht, rfl⟩ := h
  rw [hc]
  have e : (⟨#[c]⟩ ++ t : Str).cps.toList = c :: t.cps.toList := by
    show ((#[c] : Array Nat) ++ t.cps).toList = _
    simp
  rw [e]
  rfl
theorem name_differ {i j : Nat} {n m : Str} (h : NameOk i n) (k : NameOk j m) (e : n = m) : i = j := by
  subst e
  have h1 := name_first h
  rw [name_first k] at h1
  obtain ⟨c, _, hc, _⟩ := h
  obtain ⟨d, _, hd, _⟩ := k
  have hg : ghijkl.cps.toList = [103, 104, 105, 106, 107, 108] := by decide +kernel
  rw [hg] at h1 hc hd
  have li := (List.getElem?_eq_some_iff.mp hc).1
  have lj := (List.getElem?_eq_some_iff.mp hd).1
  have nd : ([103, 104, 105, 106, 107, 108] : List Nat).Nodup := by decide
  exact (List.getElem?_inj li nd).mp h1.symm
theorem La.Ok.vd {l : La} {i : Nat} (h : l.Ok) (hn : NameOk i l.name) : l.Vd := by
  obtain ⟨⟨b1, b2, b3, b4, b5, b6, b7, b8⟩, ⟨m1, m2, m3⟩, w, ⟨c1, c2, c3, c4, c5⟩⟩ := h
  exact ⟨name_ok hn, ⟨by omega, by omega, by omega, by omega, b5, b6, b7, b8⟩, ⟨m1, fun m hm => by have := m2 m hm; omega, by omega⟩, w, ⟨c1, fun c hc => (c2 c hc).vd (c3 c hc), c4, by omega⟩⟩
theorem Fi.Ok.vd {x : Fi} (h : x.Ok) : x.Vd := by
  refine ⟨h.w0, h.w1, h.h0, h.h1, h.n0, by have := h.n1; omega, h.b0, h.b1, by have := h.len; omega, fun l hl => ?_, ?_⟩
  · obtain ⟨i, hi⟩ := List.getElem?_of_mem hl
    obtain ⟨k1, k2⟩ := h.ok i l hi
    exact k1.vd k2
  · rw [List.Nodup, List.pairwise_iff_getElem]
    intro i j hi hj hij e
    rw [List.length_map] at hi hj
    rw [List.getElem_map, List.getElem_map] at e
    have := name_differ (h.ok i _ (List.getElem?_eq_getElem hi)).2 (h.ok j _ (List.getElem?_eq_getElem hj)).2 e
    omega
/-- the fields of a film -/
def filmF (x : Fi) (L : Addr) : List (Str × V) := [("_width", .int x.w), ("_height", .int x.h), ("_frames", .int x.n), ("_background", .int x.b), ("_layers", .ref L)]
def FlV (C : Addr) (H : Hp) (v : V) (x : Fi) : Prop := ∃ a dx L us, v = .ref a ∧ H a = some (.ins C dx (filmF x L)) ∧ H L = some (.lst us) ∧ Paired (LaV H) us x.ls
theorem FlV.ex {C : Addr} {H H' : Hp} {v : V} {x : Fi} (e : Ex H H') (h : FlV C H v x) : FlV C H' v x := by
  obtain ⟨a, dx, L, us, rfl, h1, h2, h3⟩ := h
  exact ⟨a, dx, L, us, rfl, e _ _ h1, e _ _ h2, Paired.mapP h3 fun _ _ => LaV.tk (TK.ex e)⟩
/-- what the walk asks of the class -/
structure FilmT (K : PySem.W.Frag) (C : Addr) : Prop where
  cl : Cls K C
  nW : NoAttr K C "_width"
  nH : NoAttr K C "_height"
  nN : NoAttr K C "_frames"
  nB : NoAttr K C "_background"
  nL : NoAttr K C "_layers"
theorem film_w (x : Fi) (L : Addr) : (filmF x L).lookup ("_width" : Str) = some (.int x.w) := by
  unfold filmF
  simp only [List.lookup, show (("_width" : Str) == "_width") = true by decide +kernel]
theorem film_h (x : Fi) (L : Addr) : (filmF x L).lookup ("_height" : Str) = some (.int x.h) := by
  unfold filmF
  simp only [List.lookup, show (("_height" : Str) == "_width") = false by decide +kernel, show (("_height" : Str) == "_height") = true by decide +kernel]
theorem film_n (x : Fi) (L : Addr) : (filmF x L).lookup ("_frames" : Str) = some (.int x.n) := by
  unfold filmF
  simp only [List.lookup, show (("_frames" : Str) == "_width") = false by decide +kernel, show (("_frames" : Str) == "_height") = false by decide +kernel, show (("_frames" : Str) == "_frames") = true by decide +kernel]
theorem film_b (x : Fi) (L : Addr) : (filmF x L).lookup ("_background" : Str) = some (.int x.b) := by
  unfold filmF
  simp only [List.lookup, show (("_background" : Str) == "_width") = false by decide +kernel, show (("_background" : Str) == "_height") = false by decide +kernel, show (("_background" : Str) == "_frames") = false by decide +kernel, show (("_background" : Str) == "_background") = true by decide +kernel]
theorem film_l (x : Fi) (L : Addr) : (filmF x L).lookup ("_layers" : Str) = some (.ref L) := by
  unfold filmF
  simp only [List.lookup, show (("_layers" : Str) == "_width") = false by decide +kernel, show (("_layers" : Str) == "_height") = false by decide +kernel, show (("_layers" : Str) == "_frames") = false by decide +kernel, show (("_layers" : Str) == "_background") = false by decide +kernel, show (("_layers" : Str) == "_layers") = true by decide +kernel]
theorem film_put (x : Fi) (L : Addr) : putF "_layers" (.ref L) (putF "_background" (.int x.b) (putF "_frames" (.int x.n) (putF "_height" (.int x.h) (putF "_width" (.int x.w) [])))) = filmF x L := by
  have e : ∀ (f : Str) (v : V) (g : Str) (u : V) (r : List (Str × V)), ¬ g = f → putF f v ((g, u) :: r) = (g, u) :: putF f v r := fun f v g u r h => by
    show (if g = f then _ else _) = _
    rw [if_neg h]
  show putF "_layers" (.ref L) (putF "_background" (.int x.b) (putF "_frames" (.int x.n) (putF "_height" (.int x.h) [("_width", .int x.w)]))) = _
  rw [e "_height" _ "_width" _ _ (by decide +kernel)]
  show putF "_layers" (.ref L) (putF "_background" (.int x.b) (putF "_frames" (.int x.n) [("_width", .int x.w), ("_height", .int x.h)])) = _
  rw [e "_frames" _ "_width" _ _ (by decide +kernel), e "_frames" _ "_height" _ _ (by decide +kernel)]
  show putF "_layers" (.ref L) (putF "_background" (.int x.b) [("_width", .int x.w), ("_height", .int x.h), ("_frames", .int x.n)]) = _
  rw [e "_background" _ "_width" _ _ (by decide +kernel), e "_background" _ "_height" _ _ (by decide +kernel), e "_background" _ "_frames" _ _ (by decide +kernel)]
  show putF "_layers" (.ref L) [("_width", .int x.w), ("_height", .int x.h), ("_frames", .int x.n), ("_background", .int x.b)] = _
  rw [e "_layers" _ "_width" _ _ (by decide +kernel), e "_layers" _ "_height" _ _ (by decide +kernel), e "_layers" _ "_frames" _ _ (by decide +kernel), e "_layers" _ "_background" _ _ (by decide +kernel)]
  rfl
end Od

/-! lists walked from the end -/
namespace Od
open PySem L2 Evl
theorem lc_rev {K : PySem.W.Frag} {a : Addr} {xs : List V} {g : TG} {tt : TT} {te : TE} {vs : List Nat} {σ : L2.St} {H1 : Hp} {D : Addr} {Qd : Hp → Prop} (Pv : Nat → Hp → Prop) (h0 : Pv 0 (upd H1 D (.lst []))) (hl : ∀ i H, i ≤ xs.length → Pv i H → SqL K H a xs)
    (hs : ∀ i x H, xs.reverse[i]? = some x → Pv i H → g x (wipe σ vs) H fun σ2 H2 => wipe σ2 vs = wipe σ vs ∧ tt σ2 H2 fun b H3 =>
      if b = true then te σ2 H3 fun y H4 => ∃ acc, H4 D = some (.lst acc) ∧ acc.length < sizeLine ∧ Pv (i + 1) (upd H4 D (.lst (acc ++ [y]))) else Pv (i + 1) H3) (hd : ∀ H, Pv xs.length H → Qd H) :
    ∃ W : Nat → Nat → Hp → Prop, (∃ m, W 0 m (upd H1 D (.lst []))) ∧ ∀ i m H, W i m H →
      ((Itv K a xs.length).stop i H ∧ Qd H) ∨ ((Itv K a xs.length).go i H ∧ ∃ Nx : Hp → Prop, (∀ H', Nx H' → ∃ m', m' < m ∧ W (i + 1) m' H') ∧ ∀ x H', (Itv K a xs.length).yld i H x H' → g x (wipe σ vs) H' fun σ2 H2 => wipe σ2 vs = wipe σ vs ∧ tt σ2 H2 fun b H3 =>
        if b = true then te σ2 H3 fun y H4 => ∃ acc, H4 D = some (.lst acc) ∧ acc.length < sizeLine ∧ Nx (upd H4 D (.lst (acc ++ [y]))) else Nx H3) := by
  refine ⟨fun i m H => m = xs.length - i ∧ i ≤ xs.length ∧ Pv i H, ⟨xs.length, by simp, Nat.zero_le _, h0⟩, ?_⟩
  rintro i m H ⟨rfl, hi, p⟩
  have q := hl i H hi p
  by_cases hlt : i < xs.length
  · have hx : xs[xs.length - 1 - i]? = some xs[xs.length - 1 - i] := List.getElem?_eq_getElem (by omega)
    refine .inr ⟨⟨hlt, xs, _, q, hx⟩, Pv (i + 1), fun H' p' => ⟨xs.length - (i + 1), by omega, rfl, hlt, p'⟩, fun x H' y => ?_⟩
    obtain ⟨e, y⟩ := y
    subst e
    refine hs i x _ ?_ p
    rw [List.getElem?_reverse hlt]
    exact y xs q
  · have e : i = xs.length := by omega
    subst e
    exact .inl ⟨Nat.le_refl _, hd H p⟩
end Od

namespace Od
open PySem L2 Evl
def top (i : Nat) : Stmt := PySem.Challenge.pw_onlythedirt_k45_whole_equal_stacks_show.main.body.getD i (.Pass ⟨0, 0, 0, 0⟩)
structure Txt (K : PySem.W.Frag) (mg : Str → Option Value) : Prop where
  all_ : mg "all" = none
  bool_ : mg "bool" = none
  enumerate_ : mg "enumerate" = none
  int_ : mg "int" = none
  isinstance_ : mg "isinstance" = none
  len_ : mg "len" = none
  list_ : mg "list" = none
  max_ : mg "max" = none
  min_ : mg "min" = none
  range_ : mg "range" = none
  reversed_ : mg "reversed" = none
  str_ : mg "str" = none
  tuple_ : mg "tuple" = none
  CLIPS_MOST_ : ∃ t, mg "CLIPS_MOST" = some (.int 64 t)
  COVER_MOST_ : ∃ t, mg "COVER_MOST" = some (.int 256 t)
  DISTANCE_MOST_ : ∃ t, mg "DISTANCE_MOST" = some (.int 1000 t)
  FRAMES_MOST_ : ∃ t, mg "FRAMES_MOST" = some (.int 1000 t)
  LAYERS_MOST_ : ∃ t, mg "LAYERS_MOST" = some (.int 16 t)
  LENGTH_MOST_ : ∃ t, mg "LENGTH_MOST" = some (.int 10000 t)
  LETTERS_ : ∃ t, mg "LETTERS" = some (.str "abcdefghijklmnopqrstuvwxyz" t)
  LEVEL_MOST_ : ∃ t, mg "LEVEL_MOST" = some (.int 256 t)
  MODES_ : ∃ a, mg "MODES" = some (.ref a) ∧ ∀ H, SqT K H a [.str "over", .str "add", .str "times"]
  MOVES_MOST_ : ∃ t, mg "MOVES_MOST" = some (.int 16 t)
  MOVE_FRAME_MOST_ : ∃ t, mg "MOVE_FRAME_MOST" = some (.int 1000 t)
  NAME_MOST_ : ∃ t, mg "NAME_MOST" = some (.int 8 t)
  PICTURE_SIDE_MOST_ : ∃ t, mg "PICTURE_SIDE_MOST" = some (.int 12 t)
  PLACE_MOST_ : ∃ t, mg "PLACE_MOST" = some (.int 1000 t)
  SIDE_MOST_ : ∃ t, mg "SIDE_MOST" = some (.int 64 t)
  START_MOST_ : ∃ t, mg "START_MOST" = some (.int 10000 t)
  STEP_MOST_ : ∃ t, mg "STEP_MOST" = some (.int 12 t)
  VALUE_MOST_ : ∃ t, mg "VALUE_MOST" = some (.int 255 t)
section
variable {P : Program} {w : World} {K : PySem.W.Frag} {mg : Str → Option Value} {base : Heap}
abbrev s_l_draw : Stmt := top 83
theorem sc_l_draw : FnScope ["script", "k", "below", "cell", "turn", "number"] ["script", "k", "below"] (defScope s_l_draw) := ⟨rfl, rfl, rfl, by decide +kernel, rfl, by decide +kernel, by decide +kernel⟩
def spDrawF (K : PySem.W.Frag) : Sp := fun vs H Q _ => ∃ (a : Addr) (ns : List Int) (k b : Int), vs = [.ref a, .int k, .int b] ∧ SqL K H a (ns.map V.int) ∧ 0 ≤ k ∧ 0 < b ∧ b < 1073741824 ∧ ∀ n, 0 ≤ n → n < b → Q (.int n) H
theorem ok_l_draw {f : Addr} {fd : FuncData} (F : Fun K "_law_draw" "_law_draw" s_l_draw f fd) (T : Txt K mg) : FnOk P w K mg base CX0 1 f fd ["script", "k", "below"] (spDrawF K) := by
  refine F.ok sc_l_draw (fun vs H Q E h => ?_) (fun cdv A outer s H vs Q E hr h => ?_)
  · obtain ⟨a, ns, k, b, rfl, _⟩ := h
    rfl
  · obtain ⟨a, ns, k, b, rfl, hS, k0, b0, b1, q⟩ := h
    refine ⟨_, (pss_cons (ps_if (pt_cmpR op_eq (pe_callB (klen K) (by rfl) T.len_ PySem.boot_len (pa_cons (pv 0) pa_nil)) pe_int (nomark _))
        (pss_one (ps_ret pe_int))
        pss_nil)
      (pss_cons (ps_set (i := 3) sc_l_draw.nd rfl (by first | exact Or.inl rfl | exact Or.inr rfl) (pe_callTy call_int1 (by rfl) T.int_ bt_int (pa_cons (pe_ix (kixL K) (pv 0) (pe_op op_mod (pe_callTy call_int1 (by rfl) T.int_ bt_int (pa_cons (pe_op op_fdiv (pv 1) pe_int) pa_nil)) (pe_callB (klen K) (by rfl) T.len_ PySem.boot_len (pa_cons (pv 0) pa_nil))) (fun _ _ => rfl)) pa_nil)))
      (pss_cons (ps_if (PW.pt (pw_and (pt_cmpR op_ge (pv 3) (pe_op op_pow pe_int pe_int) (nomark _)) (pw_and1 (pt_cmpR op_lt (pe_op op_fdiv (pv 1) pe_int) (pe_callB (klen K) (by rfl) T.len_ PySem.boot_len (pa_cons (pv 0) pa_nil)) (nomark _)))))
        (pss_cons (ps_for PassesOwn.never rfl (pi_range1 (by rfl) T.range_ (pa_cons (pe_op op_mod (pe_callTy call_int1 (by rfl) T.int_ bt_int (pa_cons (pv 1) pa_nil)) pe_int) pa_nil)) (pg_name (i := 4) sc_l_draw.nd rfl (by first | exact Or.inl rfl | exact Or.inr rfl))
          (pss_one (ps_set (i := 3) sc_l_draw.nd rfl (by first | exact Or.inl rfl | exact Or.inr rfl) (pe_op op_fdiv (pv 3) pe_int))))
        (pss_one (ps_ret (pe_op op_mod (pe_op op_mod (pe_callTy call_int1 (by rfl) T.int_ bt_int (pa_cons (pv 3) pa_nil)) pe_int) (pv 2)))))
        pss_nil)
      (pss_cons (ps_set (i := 5) sc_l_draw.nd rfl (by first | exact Or.inl rfl | exact Or.inr rfl) (pe_op op_mod (pe_callTy call_int1 (by rfl) T.int_ bt_int (pa_cons (pe_op op_add (pe_op op_add (pe_op op_mul (pv 3) pe_int) (pe_op op_mul (pv 1) pe_int)) pe_int) pa_nil)) pe_int))
      (pss_cons (ps_set (i := 5) sc_l_draw.nd rfl (by first | exact Or.inl rfl | exact Or.inr rfl) (pe_op op_mod (pe_callTy call_int1 (by rfl) T.int_ bt_int (pa_cons (pe_op op_add (pe_op op_add (pe_op op_mul (pv 5) (pv 5)) (pe_op op_mul pe_int (pv 1))) pe_int) pa_nil)) pe_int))
      (pss_cons (ps_set (i := 5) sc_l_draw.nd rfl (by first | exact Or.inl rfl | exact Or.inr rfl) (pe_op op_mod (pe_callTy call_int1 (by rfl) T.int_ bt_int (pa_cons (pe_op op_add (pe_op op_add (pe_op op_mul (pv 5) (pv 5)) (pe_op op_mul pe_int (pv 1))) (pv 3)) pa_nil)) pe_int))
      (pss_one (ps_ret (pe_op op_mod (pe_op op_fdiv (pv 5) pe_int) (pv 2)))))))))), ?_⟩
    refine ⟨_, rfl, a, _, rfl, .inl hS, rfl, _, rfl, ?_⟩
    refine ite2 (fun _ => q 0 (Int.le_refl 0) b0) (fun e0 => ?_)
    have hn : 0 < ns.length := by
      refine Nat.pos_of_ne_zero fun z => e0 (decide_eq_true ?_)
      rw [List.length_map, z]
      rfl
    have i0 : 0 ≤ k / 4 % (ns.length : Int) := Int.emod_nonneg _ (by omega)
    have i1 : k / 4 % (ns.length : Int) < ns.length := Int.emod_lt_of_pos _ (by omega)
    have hx : ns[(k / 4 % (ns.length : Int)).toNat]? = some ns[(k / 4 % (ns.length : Int)).toNat] := List.getElem?_eq_getElem (by omega)
    generalize ns[(k / 4 % (ns.length : Int)).toNat] = c at hx
    have hat : atI (ns.map V.int) (k / 4 % ((ns.map V.int).length : Int)) = some (.int c) := by
      rw [List.length_map]
      have h4 : (ns.map V.int)[(k / 4 % (ns.length : Int)).toNat]? = some (.int c) := by rw [List.getElem?_map, hx]; rfl
      have := atI_nat h4
      rwa [Int.toNat_of_nonneg i0] at this
    refine ⟨_, rfl, _, rfl, _, _, rfl, rfl, ⟨by decide, by decide⟩, .inl ⟨_, rfl, ?_⟩⟩
    refine ⟨_, rfl, a, _, rfl, .inl hS, _, _, rfl, rfl, (by show (0 : Int) < ((ns.map V.int).length : Int); rw [List.length_map]; omega), ?_⟩
    refine ⟨a, _, _, _, rfl, rfl, hS, hat, .inl ⟨_, rfl, ?_⟩⟩
    refine ⟨_, rfl, _, _, rfl, rfl, ⟨by decide, by decide, by decide⟩, ?_⟩
    refine ⟨_, _, rfl, rfl, _, rfl, ?_⟩
    refine ite2 (fun c1 => ?_) (fun c1 => ?_)
    · refine ⟨_, rfl, _, _, rfl, rfl, ⟨by decide, by decide⟩, _, rfl, a, _, rfl, .inl hS, _, _, rfl, rfl, _, rfl, ?_⟩
      refine ite2 (fun c2 => ?_) (fun c2 => ?_)
      · refine ⟨_, rfl, .inl ⟨_, rfl, _, _, rfl, rfl, (by show (0 : Int) < 4; decide), ?_⟩⟩
        have t0 : 0 ≤ k % 4 := Int.emod_nonneg _ (by decide)
        have t1 : k % 4 < 4 := Int.emod_lt_of_pos _ (by decide)
        refine ⟨_, rfl, by omega, by omega, ?_⟩
        refine for_range (lo := 0) (n := (k % 4).toNat) (fun i σ H' => H = H' ∧ ∃ (c : Int) (x : Option V), σ = [some (.ref a), some (.int k), some (.int b), some (.int c), x, none]) ⟨rfl, _, _, rfl⟩ ?_ ?_
        · rintro i σ H' _ ⟨rfl, c, x, rfl⟩
          exact ⟨_, rfl, _, _, rfl, rfl, ⟨by decide, by decide⟩, rfl, _, _, rfl⟩
        · rintro σ H' ⟨rfl, c, x, rfl⟩
          refine ⟨_, rfl, .inl ⟨_, rfl, _, _, rfl, rfl, (by show (0 : Int) < 1000; decide), ?_⟩⟩
          refine ⟨_, rfl, _, _, rfl, rfl, b0, ?_⟩
          exact q _ (Int.emod_nonneg _ (by omega)) (Int.emod_lt_of_pos _ b0)
      · skip
        refine ⟨_, rfl, _, _, rfl, rfl, .inr ⟨by decide, by decide⟩, ?_⟩
        refine ⟨_, rfl, _, _, rfl, rfl, .inr ⟨by decide, by decide⟩, ?_⟩
        refine ⟨_, _, rfl, rfl, ?_⟩
        refine ⟨_, _, rfl, rfl, .inl ⟨_, rfl, ?_⟩⟩
        refine ⟨_, _, rfl, rfl, (by show (0 : Int) < 2147483647; decide), ?_⟩
        refine ⟨_, rfl, _, rfl, _, _, rfl, rfl, .inl ⟨by omega, by omega⟩, ?_⟩
        refine ⟨_, rfl, _, _, rfl, rfl, .inl ⟨by decide, by decide⟩, ?_⟩
        refine ⟨_, _, rfl, rfl, ?_⟩
        refine ⟨_, _, rfl, rfl, .inl ⟨_, rfl, ?_⟩⟩
        refine ⟨_, _, rfl, rfl, (by show (0 : Int) < 998244353; decide), ?_⟩
        refine ⟨_, rfl, _, rfl, _, _, rfl, rfl, .inl ⟨by omega, by omega⟩, ?_⟩
        refine ⟨_, rfl, _, _, rfl, rfl, .inl ⟨by decide, by decide⟩, ?_⟩
        refine ⟨_, _, rfl, rfl, ?_⟩
        refine ⟨_, rfl, ?_⟩
        refine ⟨_, _, rfl, rfl, .inl ⟨_, rfl, ?_⟩⟩
        refine ⟨_, _, rfl, rfl, (by show (0 : Int) < 2147483629; decide), ?_⟩
        refine ⟨_, rfl, _, _, rfl, rfl, ⟨by decide, by decide⟩, ?_⟩
        refine ⟨_, rfl, _, _, rfl, rfl, b0, ?_⟩
        exact q _ (Int.emod_nonneg _ (by omega)) (Int.emod_lt_of_pos _ b0)
    · skip
      refine ⟨_, rfl, _, _, rfl, rfl, .inr ⟨by decide, by decide⟩, ?_⟩
      refine ⟨_, rfl, _, _, rfl, rfl, .inr ⟨by decide, by decide⟩, ?_⟩
      refine ⟨_, _, rfl, rfl, ?_⟩
      refine ⟨_, _, rfl, rfl, .inl ⟨_, rfl, ?_⟩⟩
      refine ⟨_, _, rfl, rfl, (by show (0 : Int) < 2147483647; decide), ?_⟩
      refine ⟨_, rfl, _, rfl, _, _, rfl, rfl, .inl ⟨by omega, by omega⟩, ?_⟩
      refine ⟨_, rfl, _, _, rfl, rfl, .inl ⟨by decide, by decide⟩, ?_⟩
      refine ⟨_, _, rfl, rfl, ?_⟩
      refine ⟨_, _, rfl, rfl, .inl ⟨_, rfl, ?_⟩⟩
      refine ⟨_, _, rfl, rfl, (by show (0 : Int) < 998244353; decide), ?_⟩
      refine ⟨_, rfl, _, rfl, _, _, rfl, rfl, .inl ⟨by omega, by omega⟩, ?_⟩
      refine ⟨_, rfl, _, _, rfl, rfl, .inl ⟨by decide, by decide⟩, ?_⟩
      refine ⟨_, _, rfl, rfl, ?_⟩
      refine ⟨_, rfl, ?_⟩
      refine ⟨_, _, rfl, rfl, .inl ⟨_, rfl, ?_⟩⟩
      refine ⟨_, _, rfl, rfl, (by show (0 : Int) < 2147483629; decide), ?_⟩
      refine ⟨_, rfl, _, _, rfl, rfl, ⟨by decide, by decide⟩, ?_⟩
      refine ⟨_, rfl, _, _, rfl, rfl, b0, ?_⟩
      exact q _ (Int.emod_nonneg _ (by omega)) (Int.emod_lt_of_pos _ b0)

abbrev s_l_picture : Stmt := top 84
theorem sc_l_picture : FnScope ["script", "k", "width", "height", "step", "first", "holes", "values", "covers", "place", "cover"] ["script", "k"] (defScope s_l_picture) := ⟨rfl, rfl, rfl, by decide +kernel, rfl, by decide +kernel, by decide +kernel⟩
def spPicF (K : PySem.W.Frag) : Sp := fun vs H Q _ => ∃ (a : Addr) (ns : List Int) (k : Int), vs = [.ref a, .int k] ∧ SqL K H a (ns.map V.int) ∧ 0 ≤ k ∧ ∀ v p H', Ex H H' → PcV H' v p → p.Ok 6 → Q v H'
theorem ok_l_picture {f : Addr} {fd : FuncData} (F : Fun K "_law_picture" "_law_picture" s_l_picture f fd) (T : Txt K mg) (D_l_draw : Def P w K mg base CX0 "_law_draw" 1 ["script", "k", "below"] (spDrawF K)) : FnOk P w K mg base CX0 2 f fd ["script", "k"] (spPicF K) := by
  refine F.ok sc_l_picture (fun vs H Q E h => ?_) (fun cdv A outer s H vs Q E hr h => ?_)
  · obtain ⟨a, ns, k, rfl, _⟩ := h
    rfl
  · obtain ⟨a, ns, k, rfl, hS, k0, q⟩ := h
    refine ⟨_, (pss_cons (ps_set (i := 2) sc_l_picture.nd rfl (by first | exact Or.inl rfl | exact Or.inr rfl) (pe_op op_add pe_int (pe_call D_l_draw.ok (hr.mono (by decide)) rfl D_l_draw.mgf D_l_draw.kp D_l_draw.b .nil pass0 (pa_cons (pv 0) (pa_cons (pv 1) (pa_cons pe_int pa_nil))))))
      (pss_cons (ps_set (i := 3) sc_l_picture.nd rfl (by first | exact Or.inl rfl | exact Or.inr rfl) (pe_op op_add pe_int (pe_call D_l_draw.ok (hr.mono (by decide)) rfl D_l_draw.mgf D_l_draw.kp D_l_draw.b .nil pass0 (pa_cons (pv 0) (pa_cons (pe_op op_add (pv 1) pe_int) (pa_cons pe_int pa_nil))))))
      (pss_cons (ps_set (i := 4) sc_l_picture.nd rfl (by first | exact Or.inl rfl | exact Or.inr rfl) (pe_op op_add pe_int (pe_call D_l_draw.ok (hr.mono (by decide)) rfl D_l_draw.mgf D_l_draw.kp D_l_draw.b .nil pass0 (pa_cons (pv 0) (pa_cons (pe_op op_add (pv 1) pe_int) (pa_cons pe_int pa_nil))))))
      (pss_cons (ps_set (i := 5) sc_l_picture.nd rfl (by first | exact Or.inl rfl | exact Or.inr rfl) (pe_call D_l_draw.ok (hr.mono (by decide)) rfl D_l_draw.mgf D_l_draw.kp D_l_draw.b .nil pass0 (pa_cons (pv 0) (pa_cons (pe_op op_add (pv 1) pe_int) (pa_cons pe_int pa_nil)))))
      (pss_cons (ps_set (i := 6) sc_l_picture.nd rfl (by first | exact Or.inl rfl | exact Or.inr rfl) (pe_call D_l_draw.ok (hr.mono (by decide)) rfl D_l_draw.mgf D_l_draw.kp D_l_draw.b .nil pass0 (pa_cons (pv 0) (pa_cons (pe_op op_add (pv 1) pe_int) (pa_cons pe_int pa_nil)))))
      (pss_cons (ps_set (i := 7) sc_l_picture.nd rfl (by first | exact Or.inl rfl | exact Or.inr rfl) (pe_lst pa_nil))
      (pss_cons (ps_set (i := 8) sc_l_picture.nd rfl (by first | exact Or.inl rfl | exact Or.inr rfl) (pe_lst pa_nil))
      (pss_cons (ps_for PassesOwn.never rfl (pi_range1 (by rfl) T.range_ (pa_cons (pe_op op_mul (pv 2) (pv 3)) pa_nil)) (pg_name (i := 9) sc_l_picture.nd rfl (by first | exact Or.inl rfl | exact Or.inr rfl))
        (pss_cons (ps_expr (pe_bm PySem.F.plainAttrs_list PySem.F.slot_list_append PySem.F.type_list_append mt_append (pv 7) (pa_cons (pe_op op_mod (pe_callTy call_int1 (by rfl) T.int_ bt_int (pa_cons (pe_op op_add (pv 5) (pe_op op_mul (pv 9) (pv 4))) pa_nil)) pe_int) pa_nil)))
        (pss_cons (ps_set (i := 10) sc_l_picture.nd rfl (by first | exact Or.inl rfl | exact Or.inr rfl) pe_int)
        (pss_cut (ps_if (PW.pt (pw_and (pt_cmpR op_eq (pv 6) pe_int (nomark _)) (pw_and1 (pt_cmpR op_eq (pe_op op_mod (pe_callTy call_int1 (by rfl) T.int_ bt_int (pa_cons (pv 9) pa_nil)) pe_int) pe_int (nomark _)))))
          (pss_one (ps_set (i := 10) sc_l_picture.nd rfl (by first | exact Or.inl rfl | exact Or.inr rfl) pe_int))
          pss_nil)
        (pss_cut (ps_if (pt_cmpR op_eq (pv 6) pe_int (nomark _))
          (pss_one (ps_set (i := 10) sc_l_picture.nd rfl (by first | exact Or.inl rfl | exact Or.inr rfl) (pe_op op_mod (pe_callTy call_int1 (by rfl) T.int_ bt_int (pa_cons (pe_op op_add (pe_op op_mul (pv 9) pe_int) (pv 5)) pa_nil)) pe_int)))
          pss_nil)
        (pss_one (ps_expr (pe_bm PySem.F.plainAttrs_list PySem.F.slot_list_append PySem.F.type_list_append mt_append (pv 8) (pa_cons (pv 10) pa_nil)))))))))
      (pss_one (ps_ret (pe_tup (pa_cons (pv 2) (pa_cons (pv 3) (pa_cons (pe_callTy (ktuple K) (by rfl) T.tuple_ bt_tuple (pa_cons (pv 7) pa_nil)) (pa_cons (pe_callTy (ktuple K) (by rfl) T.tuple_ bt_tuple (pa_cons (pv 8) pa_nil)) pa_nil))))))))))))))), ?_⟩
    refine ⟨_, rfl, _, rfl, a, ns, k, 6, rfl, hS, k0, by decide, by decide, fun wd w0 w1 => ?_⟩
    refine ⟨_, _, rfl, rfl, ?_⟩
    refine ⟨_, rfl, _, rfl, _, _, rfl, rfl, a, ns, k + 1, 6, rfl, hS, by omega, by decide, by decide, fun hg h0 h1 => ?_⟩
    refine ⟨_, _, rfl, rfl, ?_⟩
    refine ⟨_, rfl, _, rfl, _, _, rfl, rfl, a, ns, k + 2, 255, rfl, hS, by omega, by decide, by decide, fun st st0 st1 => ?_⟩
    refine ⟨_, _, rfl, rfl, ?_⟩
    refine ⟨_, rfl, _, rfl, _, _, rfl, rfl, a, ns, k + 3, 256, rfl, hS, by omega, by decide, by decide, fun fi fi0 fi1 => ?_⟩
    refine ⟨_, rfl, _, rfl, _, _, rfl, rfl, a, ns, k + 4, 4, rfl, hS, by omega, by decide, by decide, fun ho ho0 ho1 => ?_⟩
    refine ⟨Nat.zero_le _, fun D1 hD1 => ?_⟩
    have e1 := Ex.new (o := .lst []) hD1
    have g1 : upd H D1 (.lst []) D1 = some (.lst []) := upd_same
    generalize upd H D1 (.lst []) = H1 at e1 g1 ⊢
    refine ⟨Nat.zero_le _, fun D2 hD2 => ?_⟩
    have e2 := Ex.new (o := .lst []) hD2
    have g2 : upd H1 D2 (.lst []) D2 = some (.lst []) := upd_same
    have ne : D2 ≠ D1 := fun z => by rw [z, g1] at hD2; cases hD2
    have hD2' : H D2 = none := by
      cases z : H D2 with
      | none => rfl
      | some o => rw [e1 _ _ z] at hD2; cases hD2
    generalize upd H1 D2 (.lst []) = H2 at e2 g2 ⊢
    obtain ⟨a1, a2⟩ := area_le (w := 1 + wd) (h := 1 + hg) (m := 6) (by omega) (by omega) (by omega) (by omega)
    have hN : (((1 + wd) * (1 + hg)).toNat : Int) = (1 + wd) * (1 + hg) := by omega
    refine ⟨_, rfl, _, rfl, _, _, rfl, rfl, .inl ⟨by omega, by omega⟩, _, rfl, by omega, by omega, ?_⟩
    refine for_range (lo := 0) (n := ((1 + wd) * (1 + hg)).toNat) (fun i σ H' => Ex H H' ∧ ∃ (vs cs : List Int) (x y : Option V), σ = [some (.ref a), some (.int k), some (.int (1 + wd)), some (.int (1 + hg)), some (.int (1 + st)), some (.int fi), some (.int ho), some (.ref D1), some (.ref D2), x, y] ∧ H' D1 = some (.lst (vs.map V.int)) ∧ H' D2 = some (.lst (cs.map V.int)) ∧ vs.length = i ∧ cs.length = i ∧ (∀ v ∈ vs, 0 ≤ v ∧ v ≤ 255) ∧ ∀ v ∈ cs, 0 ≤ v ∧ v ≤ 256) ⟨e1.trans e2, [], [], _, _, rfl, e2 _ _ g1, g2, rfl, rfl, by simp, by simp⟩ ?_ ?_
    · rintro i σ H' hi ⟨e, vs, cs, x, y, rfl, hV, hC, lv, lc, bv, bc⟩
      refine ⟨_, rfl, .inl ⟨rfl, _, SqL.of hV⟩, _, rfl, _, rfl, _, rfl, _, _, rfl, rfl, .inl ⟨by omega, by omega⟩, _, _, rfl, rfl, .inl ⟨_, rfl, _, _, rfl, rfl, (by show (0 : Int) < 256; decide), ?_⟩⟩
      refine ⟨D1, _, _, rfl, rfl, hV, slineL (by rw [List.length_map]; omega), ?_⟩
      have m0 : 0 ≤ (fi + (0 + (i : Int)) * (1 + st)) % 256 := Int.emod_nonneg _ (by decide)
      have m1 : (fi + (0 + (i : Int)) * (1 + st)) % 256 < 256 := Int.emod_lt_of_pos _ (by decide)
      dsimp only
      generalize (fi + (0 + (i : Int)) * (1 + st)) % 256 = m at m0 m1 ⊢
      have e' : Ex H (upd H' D1 (.lst (vs.map V.int ++ [.int m]))) := e.mut hD1
      have hV' : upd H' D1 (.lst (vs.map V.int ++ [.int m])) D1 = some (.lst ((vs ++ [m]).map V.int)) := by rw [upd_same, List.map_append]; rfl
      have hC' : upd H' D1 (.lst (vs.map V.int ++ [.int m])) D2 = some (.lst (cs.map V.int)) := by rw [upd_ne ne]; exact hC
      generalize upd H' D1 (.lst (vs.map V.int ++ [.int m])) = H3 at e' hV' hC' ⊢
      refine ⟨fun σ H'' => H'' = H3 ∧ ∃ c : Int, σ = [some (.ref a), some (.int k), some (.int (1 + wd)), some (.int (1 + hg)), some (.int (1 + st)), some (.int fi), some (.int ho), some (.ref D1), some (.ref D2), some (.int (0 + (i : Int))), some (.int c)] ∧ 0 ≤ c ∧ c ≤ 256, ?_, ?_⟩
      · refine ⟨_, rfl, rfl, _, rfl, ?_⟩
        refine ite2 (fun _ => ?_) (fun _ => ⟨rfl, 256, rfl, by decide, by decide⟩)
        refine ⟨_, rfl, .inl ⟨_, rfl, _, _, rfl, rfl, (by show (0 : Int) < 3; decide), rfl, _, rfl, ?_⟩⟩
        exact ite2 (fun _ => ⟨rfl, 0, rfl, by decide, by decide⟩) (fun _ => ⟨rfl, 256, rfl, by decide, by decide⟩)
      rintro σ H4 ⟨rfl, c, rfl, c0, c1⟩
      refine ⟨fun σ H'' => H'' = H4 ∧ ∃ c : Int, σ = [some (.ref a), some (.int k), some (.int (1 + wd)), some (.int (1 + hg)), some (.int (1 + st)), some (.int fi), some (.int ho), some (.ref D1), some (.ref D2), some (.int (0 + (i : Int))), some (.int c)] ∧ 0 ≤ c ∧ c ≤ 256, ?_, ?_⟩
      · refine ⟨_, rfl, rfl, _, rfl, ?_⟩
        refine ite2 (fun _ => ?_) (fun _ => ⟨rfl, c, rfl, c0, c1⟩)
        refine ⟨_, rfl, _, _, rfl, rfl, .inr ⟨by decide, by decide⟩, _, rfl, _, _, rfl, rfl, .inl ⟨_, rfl, _, _, rfl, rfl, (by show (0 : Int) < 257; decide), ?_⟩⟩
        refine ⟨rfl, _, rfl, Int.emod_nonneg _ (by decide), ?_⟩
        have := Int.emod_lt_of_pos ((0 + (i : Int)) * 37 + fi) (show (0 : Int) < 257 by decide)
        omega
      rintro σ H5 ⟨rfl, d, rfl, d0, d1⟩
      refine ⟨_, rfl, .inl ⟨rfl, _, SqL.of hC'⟩, _, rfl, D2, _, _, rfl, rfl, hC', slineL (by rw [List.length_map]; omega), ?_⟩
      refine ⟨e'.mut hD2', vs ++ [m], cs ++ [d], _, _, rfl, by rw [upd_ne ne.symm]; exact hV', by rw [upd_same, List.map_append]; rfl, by simp [lv], by simp [lc], fun v hv => ?_, fun v hv => ?_⟩
      · rcases List.mem_append.mp hv with z | z
        · exact bv v z
        · rw [List.mem_singleton.mp z]; omega
      · rcases List.mem_append.mp hv with z | z
        · exact bc v z
        · rw [List.mem_singleton.mp z]; omega
    · rintro σ H' ⟨e, vs, cs, x, y, rfl, hV, hC, lv, lc, bv, bc⟩
      refine ⟨_, rfl, _, rfl, _, rfl, D1, _, rfl, .inl ⟨SqL.of hV, fun p1 hp1 => ?_⟩⟩
      have x1 := Ex.new (o := .tup (vs.map V.int)) hp1
      have y1 : upd H' p1 (.tup (vs.map V.int)) p1 = some (.tup (vs.map V.int)) := upd_same
      generalize upd H' p1 (.tup (vs.map V.int)) = H3 at x1 y1 ⊢
      refine ⟨_, rfl, D2, _, rfl, .inl ⟨SqL.of (x1 _ _ hC), fun p2 hp2 => ?_⟩⟩
      have x2 := Ex.new (o := .tup (cs.map V.int)) hp2
      have y2 : upd H3 p2 (.tup (cs.map V.int)) p2 = some (.tup (cs.map V.int)) := upd_same
      generalize upd H3 p2 (.tup (cs.map V.int)) = H4 at x2 y2 ⊢
      refine ⟨(by show 4 ≤ sizeLine; decide), fun p3 hp3 => ?_⟩
      have x3 := Ex.new (o := .tup [.int (1 + wd), .int (1 + hg), .ref p1, .ref p2]) hp3
      refine q (.ref p3) ⟨1 + wd, 1 + hg, vs, cs⟩ _ (((e.trans x1).trans x2).trans x3) ⟨p3, p1, p2, rfl, upd_same, (x2.trans x3) _ _ y1, x3 _ _ y2⟩ ⟨?_, ?_, ?_, ?_, ?_, ?_, bv, bc⟩ <;> dsimp only <;> omega

abbrev s_l_paint : Stmt := top 85
theorem sc_l_paint : FnScope ["script", "k", "kind"] ["script", "k"] (defScope s_l_paint) := ⟨rfl, rfl, rfl, by decide +kernel, rfl, by decide +kernel, by decide +kernel⟩
def spPaintF (K : PySem.W.Frag) : Sp := fun vs H Q _ => ∃ (a : Addr) (ns : List Int) (k : Int), vs = [.ref a, .int k] ∧ SqL K H a (ns.map V.int) ∧ 0 ≤ k ∧ ∀ v p H', Ex H H' → PaV H' v p → p.Ok 6 → Q v H'
theorem ok_l_paint {f : Addr} {fd : FuncData} (F : Fun K "_law_paint" "_law_paint" s_l_paint f fd) (T : Txt K mg) (D_l_draw : Def P w K mg base CX0 "_law_draw" 1 ["script", "k", "below"] (spDrawF K)) (D_l_picture : Def P w K mg base CX0 "_law_picture" 2 ["script", "k"] (spPicF K)) : FnOk P w K mg base CX0 3 f fd ["script", "k"] (spPaintF K) := by
  refine F.ok sc_l_paint (fun vs H Q E h => ?_) (fun cdv A outer s H vs Q E hr h => ?_)
  · obtain ⟨a, ns, k, rfl, _⟩ := h
    rfl
  · obtain ⟨a, ns, k, rfl, hS, k0, q⟩ := h
    refine ⟨_, (pss_cons (ps_set (i := 2) sc_l_paint.nd rfl (by first | exact Or.inl rfl | exact Or.inr rfl) (pe_call D_l_draw.ok (hr.mono (by decide)) rfl D_l_draw.mgf D_l_draw.kp D_l_draw.b .nil pass0 (pa_cons (pv 0) (pa_cons (pv 1) (pa_cons pe_int pa_nil)))))
      (pss_cons (ps_if (pt_cmpR op_lt (pv 2) pe_int (nomark _))
        (pss_one (ps_ret (pe_tup (pa_cons pe_str (pa_cons (pe_ix (kixL K) (pe_lst (pa_cons pe_int (pa_cons pe_int (pa_cons pe_int (pa_cons pe_int pa_nil))))) (pe_call D_l_draw.ok (hr.mono (by decide)) rfl D_l_draw.mgf D_l_draw.kp D_l_draw.b .nil pass0 (pa_cons (pv 0) (pa_cons (pe_op op_add (pv 1) pe_int) (pa_cons pe_int pa_nil)))) (fun _ _ => rfl)) pa_nil)))))
        pss_nil)
      (pss_cons (ps_if (pt_cmpR op_eq (pv 2) pe_int (nomark _))
        (pss_one (ps_ret (pe_tup (pa_cons pe_str (pa_cons (pe_call D_l_picture.ok (hr.mono (by decide)) rfl D_l_picture.mgf D_l_picture.kp D_l_picture.b .nil pass0 (pa_cons (pv 0) (pa_cons (pe_op op_add (pv 1) pe_int) pa_nil))) pa_nil)))))
        pss_nil)
      (pss_one (ps_ret (pe_tup (pa_cons pe_str (pa_cons (pe_call D_l_draw.ok (hr.mono (by decide)) rfl D_l_draw.mgf D_l_draw.kp D_l_draw.b .nil pass0 (pa_cons (pv 0) (pa_cons (pe_op op_add (pv 1) pe_int) (pa_cons pe_int pa_nil)))) (pa_cons (pe_call D_l_draw.ok (hr.mono (by decide)) rfl D_l_draw.mgf D_l_draw.kp D_l_draw.b .nil pass0 (pa_cons (pv 0) (pa_cons (pe_op op_add (pv 1) pe_int) (pa_cons pe_int pa_nil)))) (pa_cons (pe_op op_add pe_int (pe_call D_l_draw.ok (hr.mono (by decide)) rfl D_l_draw.mgf D_l_draw.kp D_l_draw.b .nil pass0 (pa_cons (pv 0) (pa_cons (pe_op op_add (pv 1) pe_int) (pa_cons pe_int pa_nil))))) pa_nil)))))))))), ?_⟩
    refine ⟨_, rfl, _, rfl, a, ns, k, 4, rfl, hS, k0, by decide, by decide, fun kd kd0 kd1 => ?_⟩
    refine ⟨_, rfl, _, _, rfl, rfl, _, rfl, ?_⟩
    refine ite2 (fun _ => ?_) (fun _ => ?_)
    · refine ⟨(by show 4 ≤ sizeLine; decide), fun l hl => ?_⟩
      have f6 := Ex.new (o := .lst [.int 0, .int 255, .int 9, .int 100]) hl
      have k6 : upd H l (.lst [.int 0, .int 255, .int 9, .int 100]) l = some (.lst ([0, 255, 9, 100].map V.int)) := upd_same
      generalize upd H l (.lst [.int 0, .int 255, .int 9, .int 100]) = H6 at f6 k6 ⊢
      refine ⟨_, rfl, _, rfl, _, _, rfl, rfl, a, ns, k + 1, 4, rfl, ex_l f6 hS, by omega, by decide, by decide, fun j j0 j1 => ?_⟩
      obtain ⟨b, hb, exb⟩ := pickI (ns := [0, 255, 9, 100]) j0 j1
      simp only [List.mem_cons, List.not_mem_nil, or_false] at hb
      refine ⟨l, _, j, _, rfl, rfl, SqL.of k6, exb, ?_⟩
      refine ⟨(by show 2 ≤ sizeLine; decide), fun t ht => ?_⟩
      exact q _ (.solid b) _ (f6.trans (Ex.new ht)) ⟨t, rfl, upd_same⟩ ⟨by omega, by omega⟩
    · refine ⟨_, rfl, rfl, _, rfl, ?_⟩
      refine ite2 (fun _ => ?_) (fun _ => ?_)
      · refine ⟨_, rfl, _, rfl, _, _, rfl, rfl, a, ns, k + 1, rfl, hS, by omega, fun u p H1 e1 hp kp => ?_⟩
        refine ⟨(by show 2 ≤ sizeLine; decide), fun t ht => ?_⟩
        exact q _ (.pic p) _ (e1.trans (Ex.new ht)) ⟨t, u, rfl, upd_same, hp.tk (TK.ex (Ex.new ht))⟩ kp
      · refine ⟨_, rfl, _, rfl, _, _, rfl, rfl, a, ns, k + 1, 256, rfl, hS, by omega, by decide, by decide, fun x x0 x1 => ?_⟩
        refine ⟨_, rfl, _, rfl, _, _, rfl, rfl, a, ns, k + 2, 256, rfl, hS, by omega, by decide, by decide, fun y y0 y1 => ?_⟩
        refine ⟨_, rfl, _, rfl, _, _, rfl, rfl, a, ns, k + 3, 3, rfl, hS, by omega, by decide, by decide, fun z z0 z1 => ?_⟩
        refine ⟨_, _, rfl, rfl, ?_⟩
        refine ⟨(by show 4 ≤ sizeLine; decide), fun t ht => ?_⟩
        exact q _ (.steps x y (1 + z)) _ (Ex.new ht) ⟨t, rfl, upd_same⟩ ⟨x0, by omega, y0, by omega, by omega, by omega⟩

abbrev s_l_clips : Stmt := top 87
theorem sc_l_clips : FnScope ["script", "k", "adjusts", "clips", "start", "j", "at", "length", "fade", "after"] ["script", "k", "adjusts"] (defScope s_l_clips) := ⟨rfl, rfl, rfl, by decide +kernel, rfl, by decide +kernel, by decide +kernel⟩
def spClipsF (K : PySem.W.Frag) : Sp := fun vs H Q _ => ∃ (a : Addr) (ns : List Int) (k : Int) (ad : Bool), vs = [.ref a, .int k, .bl ad] ∧ SqL K H a (ns.map V.int) ∧ 0 ≤ k ∧ ∀ p us cs H', Ex H H' → H' p = some (.tup us) → ClsV H' us cs → ClsOkF ad cs → Q (.ref p) H'
theorem ok_l_clips {f : Addr} {fd : FuncData} (F : Fun K "_law_clips" "_law_clips" s_l_clips f fd) (T : Txt K mg) (D_l_draw : Def P w K mg base CX0 "_law_draw" 1 ["script", "k", "below"] (spDrawF K)) (D_l_paint : Def P w K mg base CX0 "_law_paint" 3 ["script", "k"] (spPaintF K)) : FnOk P w K mg base CX0 4 f fd ["script", "k", "adjusts"] (spClipsF K) := by
  refine F.ok sc_l_clips (fun vs H Q E h => ?_) (fun cdv A outer s H vs Q E hr h => ?_)
  · obtain ⟨a, ns, k, ad, rfl, _⟩ := h
    rfl
  · obtain ⟨a, ns, k, ad, rfl, hS, k0, q⟩ := h
    refine ⟨_, (pss_cons (ps_set (i := 3) sc_l_clips.nd rfl (by first | exact Or.inl rfl | exact Or.inr rfl) (pe_lst pa_nil))
      (pss_cons (ps_set (i := 4) sc_l_clips.nd rfl (by first | exact Or.inl rfl | exact Or.inr rfl) (pe_call D_l_draw.ok (hr.mono (by decide)) rfl D_l_draw.mgf D_l_draw.kp D_l_draw.b .nil pass0 (pa_cons (pv 0) (pa_cons (pv 1) (pa_cons pe_int pa_nil)))))
      (pss_cons (ps_for PassesOwn.never rfl (pi_range1 (by rfl) T.range_ (pa_cons (pe_ix (kixL K) (pe_lst (pa_cons pe_int (pa_cons pe_int (pa_cons pe_int (pa_cons pe_int (pa_cons pe_int (pa_cons pe_int pa_nil))))))) (pe_call D_l_draw.ok (hr.mono (by decide)) rfl D_l_draw.mgf D_l_draw.kp D_l_draw.b .nil pass0 (pa_cons (pv 0) (pa_cons (pe_op op_add (pv 1) pe_int) (pa_cons pe_int pa_nil)))) (fun _ _ => rfl)) pa_nil)) (pg_name (i := 5) sc_l_clips.nd rfl (by first | exact Or.inl rfl | exact Or.inr rfl))
        (pss_cons (ps_set (i := 6) sc_l_clips.nd rfl (by first | exact Or.inl rfl | exact Or.inr rfl) (pe_op op_add (pe_op op_add (pv 1) pe_int) (pe_op op_mul pe_int (pv 5))))
        (pss_cons (ps_set (i := 7) sc_l_clips.nd rfl (by first | exact Or.inl rfl | exact Or.inr rfl) (pe_op op_add pe_int (pe_call D_l_draw.ok (hr.mono (by decide)) rfl D_l_draw.mgf D_l_draw.kp D_l_draw.b .nil pass0 (pa_cons (pv 0) (pa_cons (pv 6) (pa_cons pe_int pa_nil))))))
        (pss_cut (ps_if (pt_val (pv 2))
          (pss_one (ps_expr (pe_bm PySem.F.plainAttrs_list PySem.F.slot_list_append PySem.F.type_list_append mt_append (pv 3) (pa_cons (pe_tup (pa_cons (pv 4) (pa_cons (pv 7) (pa_cons pe_non (pa_cons pe_int (pa_cons pe_int pa_nil)))))) pa_nil))))
          (pss_cons (ps_set (i := 8) sc_l_clips.nd rfl (by first | exact Or.inl rfl | exact Or.inr rfl) pe_int)
          (pss_cons (ps_set (i := 9) sc_l_clips.nd rfl (by first | exact Or.inl rfl | exact Or.inr rfl) pe_int)
          (pss_cut (ps_if (pt_cmpR op_eq (pe_call D_l_draw.ok (hr.mono (by decide)) rfl D_l_draw.mgf D_l_draw.kp D_l_draw.b .nil pass0 (pa_cons (pv 0) (pa_cons (pe_op op_add (pv 6) pe_int) (pa_cons pe_int pa_nil)))) pe_int (nomark _))
            (pss_cons (ps_set (i := 8) sc_l_clips.nd rfl (by first | exact Or.inl rfl | exact Or.inr rfl) (pe_call D_l_draw.ok (hr.mono (by decide)) rfl D_l_draw.mgf D_l_draw.kp D_l_draw.b .nil pass0 (pa_cons (pv 0) (pa_cons (pe_op op_add (pv 6) pe_int) (pa_cons (pe_op op_add (pv 7) pe_int) pa_nil)))))
            (pss_one (ps_set (i := 9) sc_l_clips.nd rfl (by first | exact Or.inl rfl | exact Or.inr rfl) (pe_call D_l_draw.ok (hr.mono (by decide)) rfl D_l_draw.mgf D_l_draw.kp D_l_draw.b .nil pass0 (pa_cons (pv 0) (pa_cons (pe_op op_add (pv 6) pe_int) (pa_cons (pe_op op_add (pe_op op_sub (pv 7) (pv 8)) pe_int) pa_nil)))))))
            pss_nil)
          (pss_one (ps_expr (pe_bm PySem.F.plainAttrs_list PySem.F.slot_list_append PySem.F.type_list_append mt_append (pv 3) (pa_cons (pe_tup (pa_cons (pv 4) (pa_cons (pv 7) (pa_cons (pe_call D_l_paint.ok (hr.mono (by decide)) rfl D_l_paint.mgf D_l_paint.kp D_l_paint.b .nil pass0 (pa_cons (pv 0) (pa_cons (pe_op op_add (pv 6) pe_int) pa_nil))) (pa_cons (pv 8) (pa_cons (pv 9) pa_nil)))))) pa_nil))))))))
        (pss_one (ps_set (i := 4) sc_l_clips.nd rfl (by first | exact Or.inl rfl | exact Or.inr rfl) (pe_op op_add (pe_op op_add (pv 4) (pv 7)) (pe_call D_l_draw.ok (hr.mono (by decide)) rfl D_l_draw.mgf D_l_draw.kp D_l_draw.b .nil pass0 (pa_cons (pv 0) (pa_cons (pe_op op_add (pv 6) pe_int) (pa_cons pe_int pa_nil)))))))))))
      (pss_one (ps_ret (pe_callTy (ktuple K) (by rfl) T.tuple_ bt_tuple (pa_cons (pv 3) pa_nil))))))), ?_⟩
    refine ⟨Nat.zero_le _, fun D hD => ?_⟩
    have e0 := Ex.new (o := .lst []) hD
    have g0 : upd H D (.lst []) D = some (.lst []) := upd_same
    generalize upd H D (.lst []) = H0 at e0 g0 ⊢
    refine ⟨_, rfl, _, rfl, a, ns, k, 3, rfl, ex_l e0 hS, k0, by decide, by decide, fun st st0 st1 => ?_⟩
    refine ⟨(by show 6 ≤ sizeLine; decide), fun l hl => ?_⟩
    have f1 := Ex.new (o := .lst [.int 1, .int 1, .int 1, .int 2, .int 2, .int 0]) hl
    have k1 : upd H0 l (.lst [.int 1, .int 1, .int 1, .int 2, .int 2, .int 0]) l = some (.lst ([1, 1, 1, 2, 2, 0].map V.int)) := upd_same
    generalize upd H0 l (.lst [.int 1, .int 1, .int 1, .int 2, .int 2, .int 0]) = H1 at f1 k1 ⊢
    refine ⟨_, rfl, _, rfl, _, _, rfl, rfl, a, ns, k + 1, 6, rfl, ex_l (e0.trans f1) hS, by omega, by decide, by decide, fun j j0 j1 => ?_⟩
    obtain ⟨b, hb, exb⟩ := pickI (ns := [1, 1, 1, 2, 2, 0]) j0 j1
    simp only [List.mem_cons, List.not_mem_nil, or_false] at hb
    refine ⟨l, _, j, _, rfl, rfl, SqL.of k1, exb, ?_⟩
    refine ⟨_, rfl, by omega, by omega, ?_⟩
    refine for_range (lo := 0) (n := b.toNat) (fun i σ H' => Ex H H' ∧ ∃ (us : List V) (cs : List Cl) (st : Int) (x5 x6 x7 x8 x9 : Option V), σ = [some (.ref a), some (.int k), some (.bl ad), some (.ref D), some (.int st), x5, x6, x7, x8, x9] ∧ H' D = some (.lst us) ∧ ClsV H' us cs ∧ Apart cs ∧ cs.length = i ∧ 0 ≤ st ∧ st ≤ 2 + 10 * (i : Int) ∧ ∀ c ∈ cs, c.OkF ∧ c.fin ≤ st ∧ AdjOk ad c) ⟨e0.trans f1, [], [], st, _, _, _, _, _, rfl, f1 _ _ g0, .nil, .nil, rfl, st0, by omega, by simp⟩ ?_ ?_
    · rintro i σ H' hi ⟨e, us, cs, st, x5, x6, x7, x8, x9, rfl, hU, hC, hA, hn, g0', g1', kM⟩
      have hul := hC.length
      have i0 : (0 : Int) ≤ i := Int.natCast_nonneg i
      have i1 : (i : Int) ≤ 1 := by omega
      refine ⟨_, rfl, _, _, rfl, rfl, _, rfl, _, _, rfl, rfl, .inl ⟨by decide, by decide⟩, _, _, rfl, rfl, ?_⟩
      refine ⟨_, rfl, _, rfl, a, ns, k + 2 + 12 * (0 + (i : Int)), 8, rfl, ex_l e hS, by omega, by decide, by decide, fun L l0 l1 => ?_⟩
      refine ⟨_, _, rfl, rfl, ?_⟩
      refine ⟨fun σ H'' => Ex H H'' ∧ ∃ (us' : List V) (c : Cl) (x8 x9 : Option V), σ = [some (.ref a), some (.int k), some (.bl ad), some (.ref D), some (.int st), some (.int (0 + (i : Int))), some (.int (k + 2 + 12 * (0 + (i : Int)))), some (.int (1 + L)), x8, x9] ∧ H'' D = some (.lst us') ∧ ClsV H'' us' (cs ++ [c]) ∧ c.OkF ∧ c.s = st ∧ c.n = 1 + L ∧ AdjOk ad c, ?_, ?_⟩
      · refine ⟨_, rfl, _, rfl, ?_⟩
        refine ite2 (fun had => ?_) (fun had => ?_)
        · refine ⟨_, rfl, .inl ⟨rfl, _, SqL.of hU⟩, ?_⟩
          refine ⟨_, rfl, _, rfl, ?_⟩
          refine ⟨(by show 5 ≤ sizeLine; decide), fun tp htp => ?_⟩
          have f6 := Ex.new (o := .tup [.int st, .int (1 + L), .non, .int 0, .int 0]) htp
          have g6 : upd H' tp (.tup [.int st, .int (1 + L), .non, .int 0, .int 0]) tp = some (.tup [.int st, .int (1 + L), .non, .int 0, .int 0]) := upd_same
          generalize upd H' tp (.tup [.int st, .int (1 + L), .non, .int 0, .int 0]) = H6 at f6 g6 ⊢
          have hU6 := f6 _ _ hU
          have hC6 := hC.tk (TK.ex f6)
          refine ⟨D, us, _, rfl, rfl, hU6, slineL (by omega), ?_⟩
          have tk : TK H6 (upd H6 D (.lst (us ++ [.ref tp]))) := TK.lst hU6
          have e7 : Ex H (upd H6 D (.lst (us ++ [.ref tp]))) := (e.trans f6).mut hD
          have hC7 : ClsV (upd H6 D (.lst (us ++ [.ref tp]))) (us ++ [.ref tp]) (cs ++ [⟨st, 1 + L, none, 0, 0⟩]) := pr_append (hC6.tk tk) (.cons ⟨tp, .non, rfl, tk _ _ g6, rfl⟩ .nil)
          refine ⟨e7, us ++ [.ref tp], ⟨st, 1 + L, none, 0, 0⟩, _, _, rfl, upd_same, hC7, ⟨g0', by show 1 ≤ 1 + L; omega, by show 1 + L ≤ 8; omega, Int.le_refl 0, Int.le_refl 0, by show (0 : Int) + 0 ≤ 1 + L; omega, trivial⟩, rfl, rfl, ⟨fun _ => ⟨rfl, rfl, rfl⟩, fun h => by rw [h] at had; cases had⟩⟩
        · refine ⟨fun σ H'' => H'' = H' ∧ ∃ x y : Int, σ = [some (.ref a), some (.int k), some (.bl ad), some (.ref D), some (.int st), some (.int (0 + (i : Int))), some (.int (k + 2 + 12 * (0 + (i : Int)))), some (.int (1 + L)), some (.int x), some (.int y)] ∧ 0 ≤ x ∧ 0 ≤ y ∧ x + y ≤ 1 + L, ?_, ?_⟩
          · refine ⟨_, rfl, _, rfl, _, _, rfl, rfl, a, ns, k + 2 + 12 * (0 + (i : Int)) + 1, 3, rfl, ex_l e hS, by omega, by decide, by decide, fun z z0 z1 => ?_⟩
            refine ⟨rfl, _, rfl, ?_⟩
            refine ite2 (fun _ => ?_) (fun _ => ⟨rfl, 0, 0, rfl, Int.le_refl 0, Int.le_refl 0, by omega⟩)
            refine ⟨_, rfl, _, rfl, _, _, rfl, rfl, _, rfl, _, _, rfl, rfl, a, ns, k + 2 + 12 * (0 + (i : Int)) + 2, 1 + L + 1, rfl, ex_l e hS, by omega, by omega, by omega, fun x x0 x1 => ?_⟩
            refine ⟨_, rfl, _, rfl, _, _, rfl, rfl, _, rfl, _, rfl, _, _, rfl, rfl, _, _, rfl, rfl, a, ns, k + 2 + 12 * (0 + (i : Int)) + 3, 1 + L - x + 1, rfl, ex_l e hS, by omega, by omega, by omega, fun y y0 y1 => ?_⟩
            exact ⟨rfl, x, y, rfl, x0, y0, by omega⟩
          rintro σ H5 ⟨rfl, x, y, rfl, x0, y0, xy⟩
          refine ⟨_, rfl, .inl ⟨rfl, _, SqL.of hU⟩, ?_⟩
          refine ⟨_, rfl, _, rfl, _, rfl, _, rfl, _, _, rfl, rfl, a, ns, k + 2 + 12 * (0 + (i : Int)) + 4, rfl, ex_l e hS, by omega, fun u p H5 e5 hp kp => ?_⟩
          have hU5 := e5 _ _ hU
          have hC5 := hC.tk (TK.ex e5)
          have e05 := e.trans e5
          refine ⟨_, rfl, _, rfl, ?_⟩
          refine ⟨(by show 5 ≤ sizeLine; decide), fun tp htp => ?_⟩
          have f6 := Ex.new (o := .tup [.int st, .int (1 + L), u, .int x, .int y]) htp
          have g6 : upd H5 tp (.tup [.int st, .int (1 + L), u, .int x, .int y]) tp = some (.tup [.int st, .int (1 + L), u, .int x, .int y]) := upd_same
          generalize upd H5 tp (.tup [.int st, .int (1 + L), u, .int x, .int y]) = H6 at f6 g6 ⊢
          have hU6 := f6 _ _ hU5
          have hC6 := hC5.tk (TK.ex f6)
          refine ⟨D, us, _, rfl, rfl, hU6, slineL (by omega), ?_⟩
          have tk : TK H6 (upd H6 D (.lst (us ++ [.ref tp]))) := TK.lst hU6
          have e7 : Ex H (upd H6 D (.lst (us ++ [.ref tp]))) := (e05.trans f6).mut hD
          have hC7 : ClsV (upd H6 D (.lst (us ++ [.ref tp]))) (us ++ [.ref tp]) (cs ++ [⟨st, 1 + L, some p, x, y⟩]) := pr_append (hC6.tk tk) (.cons ⟨tp, u, rfl, tk _ _ g6, (hp.tk (TK.ex f6)).tk tk⟩ .nil)
          refine ⟨e7, us ++ [.ref tp], ⟨st, 1 + L, some p, x, y⟩, _, _, rfl, upd_same, hC7, ⟨g0', by show 1 ≤ 1 + L; omega, by show 1 + L ≤ 8; omega, x0, y0, xy, kp⟩, rfl, rfl, ⟨fun h => absurd h had, fun _ => ⟨p, rfl⟩⟩⟩
      rintro σ H8 ⟨e8, us', c, x8, x9, rfl, hU8, hC8, kc, es, en, ac⟩
      refine ⟨_, rfl, _, rfl, _, _, rfl, rfl, ?_⟩
      refine ⟨_, rfl, _, rfl, _, _, rfl, rfl, a, ns, k + 2 + 12 * (0 + (i : Int)) + 11, 3, rfl, ex_l e8 hS, by omega, by decide, by decide, fun r r0 r1 => ?_⟩
      refine ⟨_, _, rfl, rfl, ?_⟩
      refine ⟨e8, us', cs ++ [c], st + (1 + L) + r, _, _, _, _, _, rfl, hU8, hC8, ?_, by rw [List.length_append, hn]; rfl, by omega, by omega, fun z hz => ?_⟩
      · exact List.pairwise_append.mpr ⟨hA, List.pairwise_singleton _ _, fun x hx y hy => by rw [List.mem_singleton.mp hy, es]; exact (kM x hx).2.1⟩
      · rcases List.mem_append.mp hz with h | h
        · have := kM z h
          exact ⟨this.1, by omega, this.2.2⟩
        · rw [List.mem_singleton.mp h]
          exact ⟨kc, by unfold Cl.fin; omega, ac⟩
    · rintro σ H' ⟨e, us, cs, st, x5, x6, x7, x8, x9, rfl, hU, hC, hA, hn, g0', g1', kM⟩
      refine ⟨_, rfl, D, us, rfl, .inl ⟨SqL.of hU, fun tp htp => ?_⟩⟩
      have f9 := Ex.new (o := .tup us) htp
      exact q tp us cs _ (e.trans f9) upd_same (hC.tk (TK.ex f9)) ⟨hA, fun c hc => (kM c hc).1, fun c hc => by have := (kM c hc).2.1; omega, fun c hc => (kM c hc).2.2, by omega⟩

abbrev s_l_what : Stmt := top 88
theorem sc_l_what : FnScope ["script", "k", "kind", "opacity"] ["script", "k"] (defScope s_l_what) := ⟨rfl, rfl, rfl, by decide +kernel, rfl, by decide +kernel, by decide +kernel⟩
def spWhatF (K : PySem.W.Frag) : Sp := fun vs H Q _ => ∃ (a : Addr) (ns : List Int) (k : Int), vs = [.ref a, .int k] ∧ SqL K H a (ns.map V.int) ∧ 0 ≤ k ∧ ∀ v x H', Ex H H' → WhV H' v x → x.Ok → Q v H'
theorem ok_l_what {f : Addr} {fd : FuncData} (F : Fun K "_law_what" "_law_what" s_l_what f fd) (T : Txt K mg) (D_l_draw : Def P w K mg base CX0 "_law_draw" 1 ["script", "k", "below"] (spDrawF K)) : FnOk P w K mg base CX0 2 f fd ["script", "k"] (spWhatF K) := by
  refine F.ok sc_l_what (fun vs H Q E h => ?_) (fun cdv A outer s H vs Q E hr h => ?_)
  · obtain ⟨a, ns, k, rfl, _⟩ := h
    rfl
  · obtain ⟨a, ns, k, rfl, hS, k0, q⟩ := h
    refine ⟨_, (pss_cons (ps_set (i := 2) sc_l_what.nd rfl (by first | exact Or.inl rfl | exact Or.inr rfl) (pe_call D_l_draw.ok (hr.mono (by decide)) rfl D_l_draw.mgf D_l_draw.kp D_l_draw.b .nil pass0 (pa_cons (pv 0) (pa_cons (pv 1) (pa_cons pe_int pa_nil)))))
      (pss_cons (ps_if (pt_cmpR op_eq (pv 2) pe_int (nomark _))
        (pss_one (ps_ret (pe_tup (pa_cons pe_str pa_nil))))
        pss_nil)
      (pss_cons (ps_if (pt_cmpR op_eq (pv 2) pe_int (nomark _))
        (pss_one (ps_ret (pe_tup (pa_cons pe_str (pa_cons (pe_op op_sub (pe_call D_l_draw.ok (hr.mono (by decide)) rfl D_l_draw.mgf D_l_draw.kp D_l_draw.b .nil pass0 (pa_cons (pv 0) (pa_cons (pe_op op_add (pv 1) pe_int) (pa_cons pe_int pa_nil)))) pe_int) pa_nil)))))
        pss_nil)
      (pss_cons (ps_set (i := 3) sc_l_what.nd rfl (by first | exact Or.inl rfl | exact Or.inr rfl) (pe_ix (kixL K) (pe_lst (pa_cons pe_int (pa_cons pe_int (pa_cons pe_int (pa_cons pe_int (pa_cons pe_int (pa_cons pe_int pa_nil))))))) (pe_call D_l_draw.ok (hr.mono (by decide)) rfl D_l_draw.mgf D_l_draw.kp D_l_draw.b .nil pass0 (pa_cons (pv 0) (pa_cons (pe_op op_add (pv 1) pe_int) (pa_cons pe_int pa_nil)))) (fun _ _ => rfl)))
      (pss_one (ps_ret (pe_tup (pa_cons pe_str (pa_cons (pv 3) (pa_cons (pe_ix (kixL K) (pe_lst (pa_cons pe_str (pa_cons pe_str (pa_cons pe_str (pa_cons pe_str (pa_cons pe_str pa_nil)))))) (pe_call D_l_draw.ok (hr.mono (by decide)) rfl D_l_draw.mgf D_l_draw.kp D_l_draw.b .nil pass0 (pa_cons (pv 0) (pa_cons (pe_op op_add (pv 1) pe_int) (pa_cons pe_int pa_nil)))) (fun _ _ => rfl)) pa_nil)))))))))), ?_⟩
    refine ⟨_, rfl, _, rfl, a, ns, k, 8, rfl, hS, k0, by decide, by decide, fun kd kd0 kd1 => ?_⟩
    refine ⟨_, rfl, rfl, _, rfl, ?_⟩
    refine ite2 (fun _ => ?_) (fun _ => ?_)
    · refine ⟨(by show 1 ≤ sizeLine; decide), fun t ht => ?_⟩
      exact q _ .invert _ (Ex.new ht) ⟨t, rfl, upd_same⟩ trivial
    refine ⟨_, rfl, rfl, _, rfl, ?_⟩
    refine ite2 (fun _ => ?_) (fun _ => ?_)
    · refine ⟨_, rfl, _, rfl, _, _, rfl, rfl, a, ns, k + 1, 511, rfl, hS, by omega, by decide, by decide, fun n n0 n1 => ?_⟩
      refine ⟨_, _, rfl, rfl, ?_⟩
      refine ⟨(by show 2 ≤ sizeLine; decide), fun t ht => ?_⟩
      exact q _ (.shift (n - 255)) _ (Ex.new ht) ⟨t, rfl, upd_same⟩ ⟨by omega, by omega⟩
    refine ⟨(by show 6 ≤ sizeLine; decide), fun l hl => ?_⟩
    have f6 := Ex.new (o := .lst [.int 256, .int 256, .int 256, .int 128, .int 3, .int 0]) hl
    have k6 : upd H l (.lst [.int 256, .int 256, .int 256, .int 128, .int 3, .int 0]) l = some (.lst ([256, 256, 256, 128, 3, 0].map V.int)) := upd_same
    generalize upd H l (.lst [.int 256, .int 256, .int 256, .int 128, .int 3, .int 0]) = H6 at f6 k6 ⊢
    refine ⟨_, rfl, _, rfl, _, _, rfl, rfl, a, ns, k + 1, 6, rfl, ex_l f6 hS, by omega, by decide, by decide, fun j j0 j1 => ?_⟩
    obtain ⟨b, hb, exb⟩ := pickI (ns := [256, 256, 256, 128, 3, 0]) j0 j1
    simp only [List.mem_cons, List.not_mem_nil, or_false] at hb
    refine ⟨l, _, j, _, rfl, rfl, SqL.of k6, exb, ?_⟩
    refine ⟨_, rfl, (by show 5 ≤ sizeLine; decide), fun l2 hl2 => ?_⟩
    obtain ⟨ws, hws⟩ : ∃ ws : List Str, ws = [("over" : Str), ("over" : Str), ("over" : Str), ("add" : Str), ("times" : Str)] := ⟨_, rfl⟩
    have e0 : ws.map V.str = [.str "over", .str "over", .str "over", .str "add", .str "times"] := by rw [hws]; rfl
    have f7 := Ex.new (o := .lst (ws.map V.str)) hl2
    have k7 : upd H6 l2 (.lst (ws.map V.str)) l2 = some (.lst (ws.map V.str)) := upd_same
    rw [← e0]
    generalize upd H6 l2 (.lst (ws.map V.str)) = H7 at f7 k7 ⊢
    refine ⟨_, rfl, _, rfl, _, _, rfl, rfl, a, ns, k + 2, 5, rfl, ex_l (f6.trans f7) hS, by omega, by decide, by decide, fun i i0 i1 => ?_⟩
    obtain ⟨m, hm, exm⟩ := pickS (ws := ws) i0 (by rw [hws]; exact i1)
    refine ⟨l2, _, i, _, rfl, rfl, SqL.of k7, exm, ?_⟩
    refine ⟨(by show 3 ≤ sizeLine; decide), fun t ht => ?_⟩
    refine q _ (.paint b m) _ ((f6.trans f7).trans (Ex.new ht)) ⟨t, rfl, upd_same⟩ ⟨by omega, by omega, ?_⟩
    rw [hws] at hm
    unfold modes3
    simp only [List.mem_cons, List.not_mem_nil, or_false] at hm ⊢
    rcases hm with h | h | h | h | h
    · exact .inl h
    · exact .inl h
    · exact .inl h
    · exact .inr (.inl h)
    · exact .inr (.inr h)

abbrev s_l_box : Stmt := top 89
theorem sc_l_box : FnScope ["script", "k", "left", "top"] ["script", "k"] (defScope s_l_box) := ⟨rfl, rfl, rfl, by decide +kernel, rfl, by decide +kernel, by decide +kernel⟩
def spBoxF (K : PySem.W.Frag) : Sp := fun vs H Q _ => ∃ (a : Addr) (ns : List Int) (k : Int), vs = [.ref a, .int k] ∧ SqL K H a (ns.map V.int) ∧ 0 ≤ k ∧ ∀ v b H', Ex H H' → BxV H' v b → b.Ok → Q v H'
theorem ok_l_box {f : Addr} {fd : FuncData} (F : Fun K "_law_box" "_law_box" s_l_box f fd) (T : Txt K mg) (D_l_draw : Def P w K mg base CX0 "_law_draw" 1 ["script", "k", "below"] (spDrawF K)) : FnOk P w K mg base CX0 2 f fd ["script", "k"] (spBoxF K) := by
  refine F.ok sc_l_box (fun vs H Q E h => ?_) (fun cdv A outer s H vs Q E hr h => ?_)
  · obtain ⟨a, ns, k, rfl, _⟩ := h
    rfl
  · obtain ⟨a, ns, k, rfl, hS, k0, q⟩ := h
    refine ⟨_, (pss_cons (ps_set (i := 2) sc_l_box.nd rfl (by first | exact Or.inl rfl | exact Or.inr rfl) (pe_op op_sub (pe_call D_l_draw.ok (hr.mono (by decide)) rfl D_l_draw.mgf D_l_draw.kp D_l_draw.b .nil pass0 (pa_cons (pv 0) (pa_cons (pv 1) (pa_cons pe_int pa_nil)))) pe_int))
      (pss_cons (ps_set (i := 3) sc_l_box.nd rfl (by first | exact Or.inl rfl | exact Or.inr rfl) (pe_op op_sub (pe_call D_l_draw.ok (hr.mono (by decide)) rfl D_l_draw.mgf D_l_draw.kp D_l_draw.b .nil pass0 (pa_cons (pv 0) (pa_cons (pe_op op_add (pv 1) pe_int) (pa_cons pe_int pa_nil)))) pe_int))
      (pss_cons (ps_if (pt_cmpR op_eq (pe_call D_l_draw.ok (hr.mono (by decide)) rfl D_l_draw.mgf D_l_draw.kp D_l_draw.b .nil pass0 (pa_cons (pv 0) (pa_cons (pe_op op_add (pv 1) pe_int) (pa_cons pe_int pa_nil)))) pe_int (nomark _))
        (pss_one (ps_ret (pe_tup (pa_cons (pe_un un_neg pe_int) (pa_cons (pe_un un_neg pe_int) (pa_cons pe_int (pa_cons pe_int pa_nil)))))))
        pss_nil)
      (pss_one (ps_ret (pe_tup (pa_cons (pv 2) (pa_cons (pv 3) (pa_cons (pe_op op_add pe_int (pe_call D_l_draw.ok (hr.mono (by decide)) rfl D_l_draw.mgf D_l_draw.kp D_l_draw.b .nil pass0 (pa_cons (pv 0) (pa_cons (pe_op op_add (pv 1) pe_int) (pa_cons pe_int pa_nil))))) (pa_cons (pe_op op_add pe_int (pe_call D_l_draw.ok (hr.mono (by decide)) rfl D_l_draw.mgf D_l_draw.kp D_l_draw.b .nil pass0 (pa_cons (pv 0) (pa_cons (pe_op op_add (pv 1) pe_int) (pa_cons pe_int pa_nil))))) pa_nil)))))))))), ?_⟩
    refine ⟨_, rfl, _, rfl, a, ns, k, 12, rfl, hS, k0, by decide, by decide, fun x x0 x1 => ?_⟩
    refine ⟨_, _, rfl, rfl, ?_⟩
    refine ⟨_, rfl, _, rfl, _, _, rfl, rfl, a, ns, k + 1, 12, rfl, hS, by omega, by decide, by decide, fun y y0 y1 => ?_⟩
    refine ⟨_, _, rfl, rfl, ?_⟩
    refine ⟨_, rfl, _, rfl, _, _, rfl, rfl, a, ns, k + 2, 9, rfl, hS, by omega, by decide, by decide, fun z z0 z1 => ?_⟩
    refine ⟨rfl, _, rfl, ?_⟩
    refine ite2 (fun _ => ?_) (fun _ => ?_)
    · refine ⟨_, rfl, _, rfl, (by show 4 ≤ sizeLine; decide), fun t ht => ?_⟩
      exact q _ ⟨-2, -2, 64, 64⟩ _ (Ex.new ht) ⟨t, rfl, upd_same⟩ ⟨by decide, by decide, by decide, by decide, by decide, by decide, by decide, by decide⟩
    · refine ⟨_, rfl, _, rfl, ?_⟩
      refine ⟨_, rfl, _, rfl, _, _, rfl, rfl, a, ns, k + 3, 9, rfl, hS, by omega, by decide, by decide, fun u u0 u1 => ?_⟩
      refine ⟨_, _, rfl, rfl, ?_⟩
      refine ⟨_, rfl, _, rfl, _, _, rfl, rfl, a, ns, k + 4, 9, rfl, hS, by omega, by decide, by decide, fun r r0 r1 => ?_⟩
      refine ⟨_, _, rfl, rfl, ?_⟩
      refine ⟨(by show 4 ≤ sizeLine; decide), fun t ht => ?_⟩
      exact q _ ⟨x - 3, y - 3, 1 + u, 1 + r⟩ _ (Ex.new ht) ⟨t, rfl, upd_same⟩ ⟨by show -3 ≤ x - 3; omega, by show x - 3 ≤ 8; omega, by show -3 ≤ y - 3; omega, by show y - 3 ≤ 8; omega, by show 1 ≤ 1 + u; omega, by show 1 + u ≤ 64; omega, by show 1 ≤ 1 + r; omega, by show 1 + r ≤ 64; omega⟩

abbrev s_l_moves : Stmt := top 86
theorem sc_l_moves : FnScope ["script", "k", "points", "frame", "j"] ["script", "k"] (defScope s_l_moves) := ⟨rfl, rfl, rfl, by decide +kernel, rfl, by decide +kernel, by decide +kernel⟩
def spMovesF (K : PySem.W.Frag) : Sp := fun vs H Q _ => ∃ (a : Addr) (ns : List Int) (k : Int), vs = [.ref a, .int k] ∧ SqL K H a (ns.map V.int) ∧ 0 ≤ k ∧ ∀ p us ms H', Ex H H' → H' p = some (.tup us) → MvsV H' us ms → MvsOk ms → Q (.ref p) H'
theorem ok_l_moves {f : Addr} {fd : FuncData} (F : Fun K "_law_moves" "_law_moves" s_l_moves f fd) (T : Txt K mg) (D_l_draw : Def P w K mg base CX0 "_law_draw" 1 ["script", "k", "below"] (spDrawF K)) : FnOk P w K mg base CX0 2 f fd ["script", "k"] (spMovesF K) := by
  refine F.ok sc_l_moves (fun vs H Q E h => ?_) (fun cdv A outer s H vs Q E hr h => ?_)
  · obtain ⟨a, ns, k, rfl, _⟩ := h
    rfl
  · obtain ⟨a, ns, k, rfl, hS, k0, q⟩ := h
    refine ⟨_, (pss_cons (ps_set (i := 2) sc_l_moves.nd rfl (by first | exact Or.inl rfl | exact Or.inr rfl) (pe_lst pa_nil))
      (pss_cons (ps_set (i := 3) sc_l_moves.nd rfl (by first | exact Or.inl rfl | exact Or.inr rfl) (pe_call D_l_draw.ok (hr.mono (by decide)) rfl D_l_draw.mgf D_l_draw.kp D_l_draw.b .nil pass0 (pa_cons (pv 0) (pa_cons (pv 1) (pa_cons pe_int pa_nil)))))
      (pss_cons (ps_for PassesOwn.never rfl (pi_range1 (by rfl) T.range_ (pa_cons (pe_ix (kixL K) (pe_lst (pa_cons pe_int (pa_cons pe_int (pa_cons pe_int (pa_cons pe_int (pa_cons pe_int pa_nil)))))) (pe_call D_l_draw.ok (hr.mono (by decide)) rfl D_l_draw.mgf D_l_draw.kp D_l_draw.b .nil pass0 (pa_cons (pv 0) (pa_cons (pe_op op_add (pv 1) pe_int) (pa_cons pe_int pa_nil)))) (fun _ _ => rfl)) pa_nil)) (pg_name (i := 4) sc_l_moves.nd rfl (by first | exact Or.inl rfl | exact Or.inr rfl))
        (pss_cons (ps_expr (pe_bm PySem.F.plainAttrs_list PySem.F.slot_list_append PySem.F.type_list_append mt_append (pv 2) (pa_cons (pe_tup (pa_cons (pv 3) (pa_cons (pe_op op_sub (pe_call D_l_draw.ok (hr.mono (by decide)) rfl D_l_draw.mgf D_l_draw.kp D_l_draw.b .nil pass0 (pa_cons (pv 0) (pa_cons (pe_op op_add (pe_op op_add (pv 1) pe_int) (pe_op op_mul pe_int (pv 4))) (pa_cons pe_int pa_nil)))) pe_int) (pa_cons (pe_op op_sub (pe_call D_l_draw.ok (hr.mono (by decide)) rfl D_l_draw.mgf D_l_draw.kp D_l_draw.b .nil pass0 (pa_cons (pv 0) (pa_cons (pe_op op_add (pe_op op_add (pv 1) pe_int) (pe_op op_mul pe_int (pv 4))) (pa_cons pe_int pa_nil)))) pe_int) pa_nil)))) pa_nil)))
        (pss_one (ps_set (i := 3) sc_l_moves.nd rfl (by first | exact Or.inl rfl | exact Or.inr rfl) (pe_op op_add (pe_op op_add (pv 3) pe_int) (pe_call D_l_draw.ok (hr.mono (by decide)) rfl D_l_draw.mgf D_l_draw.kp D_l_draw.b .nil pass0 (pa_cons (pv 0) (pa_cons (pe_op op_add (pe_op op_add (pv 1) pe_int) (pe_op op_mul pe_int (pv 4))) (pa_cons pe_int pa_nil)))))))))
      (pss_one (ps_ret (pe_callTy (ktuple K) (by rfl) T.tuple_ bt_tuple (pa_cons (pv 2) pa_nil))))))), ?_⟩
    refine ⟨Nat.zero_le _, fun D hD => ?_⟩
    have e0 := Ex.new (o := .lst []) hD
    have g0 : upd H D (.lst []) D = some (.lst []) := upd_same
    generalize upd H D (.lst []) = H0 at e0 g0 ⊢
    refine ⟨_, rfl, _, rfl, a, ns, k, 3, rfl, ex_l e0 hS, k0, by decide, by decide, fun fr fr0 fr1 => ?_⟩
    refine ⟨(by show 5 ≤ sizeLine; decide), fun l hl => ?_⟩
    have f1 := Ex.new (o := .lst [.int 0, .int 0, .int 1, .int 2, .int 3]) hl
    have k1 : upd H0 l (.lst [.int 0, .int 0, .int 1, .int 2, .int 3]) l = some (.lst ([0, 0, 1, 2, 3].map V.int)) := upd_same
    generalize upd H0 l (.lst [.int 0, .int 0, .int 1, .int 2, .int 3]) = H1 at f1 k1 ⊢
    refine ⟨_, rfl, _, rfl, _, _, rfl, rfl, a, ns, k + 1, 5, rfl, ex_l (e0.trans f1) hS, by omega, by decide, by decide, fun j j0 j1 => ?_⟩
    obtain ⟨b, hb, exb⟩ := pickI (ns := [0, 0, 1, 2, 3]) j0 j1
    simp only [List.mem_cons, List.not_mem_nil, or_false] at hb
    refine ⟨l, _, j, _, rfl, rfl, SqL.of k1, exb, ?_⟩
    refine ⟨_, rfl, by omega, by omega, ?_⟩
    refine for_range (lo := 0) (n := b.toNat) (fun i σ H' => Ex H H' ∧ ∃ (us : List V) (ms : List Mv) (g : Int) (x : Option V), σ = [some (.ref a), some (.int k), some (.ref D), some (.int g), x] ∧ H' D = some (.lst us) ∧ MvsV H' us ms ∧ Asc ms ∧ ms.length = i ∧ 0 ≤ g ∧ g ≤ 2 + 5 * (i : Int) ∧ ∀ m ∈ ms, m.f < g ∧ (0 ≤ m.f ∧ m.f ≤ 20 ∧ -5 ≤ m.a ∧ m.a ≤ 5 ∧ -5 ≤ m.d ∧ m.d ≤ 5)) ⟨e0.trans f1, [], [], fr, _, rfl, f1 _ _ g0, .nil, .nil, rfl, fr0, by omega, by simp⟩ ?_ ?_
    · rintro i σ H' hi ⟨e, us, ms, g, x, rfl, hU, hM, hA, hn, g0', g1', kM⟩
      have hul := hM.length
      have i0 : (0 : Int) ≤ i := Int.natCast_nonneg i
      refine ⟨_, rfl, .inl ⟨rfl, _, SqL.of hU⟩, ?_⟩
      refine ⟨_, rfl, _, rfl, _, rfl, _, _, rfl, rfl, _, rfl, _, _, rfl, rfl, .inl ⟨by decide, by decide⟩, _, _, rfl, rfl, a, ns, k + 2 + 3 * (0 + (i : Int)), 11, rfl, ex_l e hS, by omega, by decide, by decide, fun c c0 c1 => ?_⟩
      refine ⟨_, _, rfl, rfl, ?_⟩
      refine ⟨_, rfl, _, rfl, _, _, rfl, rfl, _, rfl, _, _, rfl, rfl, .inl ⟨by decide, by decide⟩, _, _, rfl, rfl, a, ns, k + 3 + 3 * (0 + (i : Int)), 11, rfl, ex_l e hS, by omega, by decide, by decide, fun w w0 w1 => ?_⟩
      refine ⟨_, _, rfl, rfl, ?_⟩
      refine ⟨(by show 3 ≤ sizeLine; decide), fun p hp => ?_⟩
      have e3 := Ex.new (o := .tup [.int g, .int (c - 5), .int (w - 5)]) hp
      have k3 : upd H' p (.tup [.int g, .int (c - 5), .int (w - 5)]) p = some (.tup [.int g, .int (c - 5), .int (w - 5)]) := upd_same
      generalize upd H' p (.tup [.int g, .int (c - 5), .int (w - 5)]) = H3 at e3 k3 ⊢
      have hU3 := e3 _ _ hU
      have hM3 := hM.tk (TK.ex e3)
      refine ⟨D, us, _, rfl, rfl, hU3, slineL (by omega), ?_⟩
      have tk : TK H3 (upd H3 D (.lst (us ++ [.ref p]))) := TK.lst hU3
      have e4 : Ex H (upd H3 D (.lst (us ++ [.ref p]))) := (e.trans e3).mut hD
      have k4 : upd H3 D (.lst (us ++ [.ref p])) D = some (.lst (us ++ [.ref p])) := upd_same
      have hM4 : MvsV (upd H3 D (.lst (us ++ [.ref p]))) (us ++ [.ref p]) (ms ++ [⟨g, c - 5, w - 5⟩]) := pr_append (hM3.tk tk) (.cons ⟨p, rfl, tk _ _ k3⟩ .nil)
      generalize upd H3 D (.lst (us ++ [.ref p])) = H4 at e4 k4 hM4 ⊢
      refine ⟨_, rfl, _, _, rfl, rfl, ?_⟩
      refine ⟨_, rfl, _, rfl, _, _, rfl, rfl, _, rfl, _, _, rfl, rfl, .inl ⟨by decide, by decide⟩, _, _, rfl, rfl, a, ns, k + 4 + 3 * (0 + (i : Int)), 5, rfl, ex_l e4 hS, by omega, by decide, by decide, fun st st0 st1 => ?_⟩
      refine ⟨_, _, rfl, rfl, ?_⟩
      refine ⟨e4, us ++ [.ref p], ms ++ [⟨g, c - 5, w - 5⟩], g + 1 + st, _, rfl, k4, hM4, ?_, by rw [List.length_append, hn]; rfl, by omega, by omega, fun m hm => ?_⟩
      · exact List.pairwise_append.mpr ⟨hA, List.pairwise_singleton _ _, fun x hx y hy => by rw [List.mem_singleton.mp hy]; exact (kM x hx).1⟩
      · rcases List.mem_append.mp hm with z | z
        · have := kM m z
          exact ⟨by omega, this.2⟩
        · rw [List.mem_singleton.mp z]
          exact ⟨by show g < g + 1 + st; omega, by show 0 ≤ g; omega, by show g ≤ 20; omega, by show -5 ≤ c - 5; omega, by show c - 5 ≤ 5; omega, by show -5 ≤ w - 5; omega, by show w - 5 ≤ 5; omega⟩
    · rintro σ H' ⟨e, us, ms, g, x, rfl, hU, hM, hA, hn, g0', g1', kM⟩
      refine ⟨_, rfl, D, us, rfl, .inl ⟨SqL.of hU, fun tp htp => ?_⟩⟩
      have f9 := Ex.new (o := .tup us) htp
      exact q tp us ms _ (e.trans f9) upd_same (hM.tk (TK.ex f9)) ⟨hA, fun m hm => (kM m hm).2, by omega⟩

abbrev s_l_layer : Stmt := top 90
theorem sc_l_layer : FnScope ["script", "k", "name", "what", "clips"] ["script", "k", "name"] (defScope s_l_layer) := ⟨rfl, rfl, rfl, by decide +kernel, rfl, by decide +kernel, by decide +kernel⟩
def spLayerF (K : PySem.W.Frag) : Sp := fun vs H Q _ => ∃ (a : Addr) (ns : List Int) (k : Int) (n : Str), vs = [.ref a, .int k, .str n] ∧ SqL K H a (ns.map V.int) ∧ 0 ≤ k ∧ ∀ v l H', Ex H H' → LaV H' v l → l.Ok → l.name = n → Q v H'
theorem ok_l_layer {f : Addr} {fd : FuncData} (F : Fun K "_law_layer" "_law_layer" s_l_layer f fd) (T : Txt K mg) (D_l_what : Def P w K mg base CX0 "_law_what" 2 ["script", "k"] (spWhatF K)) (D_l_clips : Def P w K mg base CX0 "_law_clips" 4 ["script", "k", "adjusts"] (spClipsF K))
    (D_l_box : Def P w K mg base CX0 "_law_box" 2 ["script", "k"] (spBoxF K)) (D_l_moves : Def P w K mg base CX0 "_law_moves" 2 ["script", "k"] (spMovesF K)) : FnOk P w K mg base CX0 5 f fd ["script", "k", "name"] (spLayerF K) := by
  refine F.ok sc_l_layer (fun vs H Q E h => ?_) (fun cdv A outer s H vs Q E hr h => ?_)
  · obtain ⟨a, ns, k, n, rfl, _⟩ := h
    rfl
  · obtain ⟨a, ns, k, n, rfl, hS, k0, q⟩ := h
    refine ⟨_, (pss_cons (ps_set (i := 3) sc_l_layer.nd rfl (by first | exact Or.inl rfl | exact Or.inr rfl) (pe_call D_l_what.ok (hr.mono (by decide)) rfl D_l_what.mgf D_l_what.kp D_l_what.b .nil pass0 (pa_cons (pv 0) (pa_cons (pv 1) pa_nil))))
      (pss_cons (ps_set (i := 4) sc_l_layer.nd rfl (by first | exact Or.inl rfl | exact Or.inr rfl) (pe_call D_l_clips.ok (hr.mono (by decide)) rfl D_l_clips.mgf D_l_clips.kp D_l_clips.b .nil pass0 (pa_cons (pv 0) (pa_cons (pe_op op_add (pv 1) pe_int) (pa_cons (pe_cmpR op_ne (pe_ix (kixT K) (pv 3) pe_int (fun _ _ => rfl)) pe_str (nomark _)) pa_nil)))))
      (pss_one (ps_ret (pe_tup (pa_cons (pv 2) (pa_cons (pe_call D_l_box.ok (hr.mono (by decide)) rfl D_l_box.mgf D_l_box.kp D_l_box.b .nil pass0 (pa_cons (pv 0) (pa_cons (pe_op op_add (pv 1) pe_int) pa_nil))) (pa_cons (pe_call D_l_moves.ok (hr.mono (by decide)) rfl D_l_moves.mgf D_l_moves.kp D_l_moves.b .nil pass0 (pa_cons (pv 0) (pa_cons (pe_op op_add (pv 1) pe_int) pa_nil))) (pa_cons (pv 3) (pa_cons (pv 4) pa_nil)))))))))), ?_⟩
    refine ⟨_, rfl, _, rfl, a, ns, k, rfl, hS, k0, fun wv x H1 e1 hx kx => ?_⟩
    obtain ⟨wa, rfl, hwa⟩ := id hx
    refine ⟨_, rfl, _, rfl, _, _, rfl, rfl, _, rfl, wa, _, 0, _, rfl, rfl, SqT.of hwa, x.at0, rfl, ?_⟩
    rw [x.adj_eq]
    refine ⟨a, ns, k + 20, x.adj, rfl, ex_l e1 hS, by omega, fun ca us cs H2 e2 hca hC kC => ?_⟩
    have e12 := e1.trans e2
    refine ⟨_, rfl, _, rfl, _, rfl, _, _, rfl, rfl, a, ns, k + 4, rfl, ex_l e12 hS, by omega, fun bv b H3 e3 hb kb => ?_⟩
    have e13 := e12.trans e3
    refine ⟨_, rfl, _, rfl, _, _, rfl, rfl, a, ns, k + 9, rfl, ex_l e13 hS, by omega, fun ma vs ms H4 e4 hma hM kM => ?_⟩
    refine ⟨_, rfl, _, rfl, ?_⟩
    refine ⟨(by show 5 ≤ sizeLine; decide), fun t ht => ?_⟩
    have f5 := Ex.new (o := .tup [.str n, bv, .ref ma, .ref wa, .ref ca]) ht
    have k5 := TK.ex f5
    have e24 := e3.trans e4
    exact q _ ⟨n, b, ms, x, cs⟩ _ ((e13.trans e4).trans f5) ⟨t, bv, ma, .ref wa, ca, vs, us, rfl, upd_same, (hb.tk (TK.ex e4)).tk k5, f5 _ _ hma, hM.tk k5, hx.tk (TK.ex ((e2.trans e24).trans f5)), (e24.trans f5) _ _ hca, hC.tk (TK.ex (e24.trans f5))⟩ ⟨kb, kM, kx, kC⟩ rfl

abbrev s_l_name : Stmt := top 91
theorem sc_l_name : FnScope ["script", "k", "first"] ["script", "k", "first"] (defScope s_l_name) := ⟨rfl, rfl, rfl, by decide +kernel, rfl, by decide +kernel, by decide +kernel⟩
def spNameF (K : PySem.W.Frag) : Sp := fun vs H Q _ => ∃ (a : Addr) (ns : List Int) (k : Int) (g : Str), vs = [.ref a, .int k, .str g] ∧ SqL K H a (ns.map V.int) ∧ 0 ≤ k ∧ g.length ≤ 10 ∧ ∀ t H', Ex H H' → t ∈ tails4 → Q (.str (g ++ t)) H'
theorem ok_l_name {f : Addr} {fd : FuncData} (F : Fun K "_law_name" "_law_name" s_l_name f fd) (T : Txt K mg) (D_l_draw : Def P w K mg base CX0 "_law_draw" 1 ["script", "k", "below"] (spDrawF K)) : FnOk P w K mg base CX0 2 f fd ["script", "k", "first"] (spNameF K) := by
  refine F.ok sc_l_name (fun vs H Q E h => ?_) (fun cdv A outer s H vs Q E hr h => ?_)
  · obtain ⟨a, ns, k, g, rfl, _⟩ := h
    rfl
  · obtain ⟨a, ns, k, g, rfl, hS, k0, gl, q⟩ := h
    refine ⟨_, (pss_one (ps_ret (pe_op op_add_str (pv 2) (pe_ix (kixL K) (pe_lst (pa_cons pe_str (pa_cons pe_str (pa_cons pe_str (pa_cons pe_str pa_nil))))) (pe_call D_l_draw.ok (hr.mono (by decide)) rfl D_l_draw.mgf D_l_draw.kp D_l_draw.b .nil pass0 (pa_cons (pv 0) (pa_cons (pv 1) (pa_cons pe_int pa_nil)))) (fun _ _ => rfl))))), ?_⟩
    refine ⟨_, rfl, (by show 4 ≤ sizeLine; decide), fun l hl => ?_⟩
    have e0 : tails4.map V.str = [.str "", .str "b", .str "zz", .str "qwerty"] := rfl
    have f7 := Ex.new (o := .lst (tails4.map V.str)) hl
    have k7 : upd H l (.lst (tails4.map V.str)) l = some (.lst (tails4.map V.str)) := upd_same
    rw [← e0]
    generalize upd H l (.lst (tails4.map V.str)) = H7 at f7 k7 ⊢
    refine ⟨_, rfl, _, rfl, a, ns, k, 4, rfl, ex_l f7 hS, k0, by decide, by decide, fun i i0 i1 => ?_⟩
    obtain ⟨m, hm, exm⟩ := pickS (ws := tails4) i0 i1
    refine ⟨l, _, i, _, rfl, rfl, SqL.of k7, exm, ?_⟩
    have ml : m.length ≤ 10 := by
      unfold tails4 at hm
      simp only [List.mem_cons, List.not_mem_nil, or_false] at hm
      rcases hm with h | h | h | h <;> (rw [h]; decide +kernel)
    exact ⟨g, m, rfl, rfl, Nat.le_of_lt (slineL (by omega)), q m _ f7 hm⟩

abbrev s_l_film : Stmt := top 92
theorem sc_l_film : FnScope ["script", "k", "layers", "j", "width", "height"] ["script", "k"] (defScope s_l_film) := ⟨rfl, rfl, rfl, by decide +kernel, rfl, by decide +kernel, by decide +kernel⟩
def spFilmF (K : PySem.W.Frag) : Sp := fun vs H Q _ => ∃ (a : Addr) (ns : List Int) (k : Int), vs = [.ref a, .int k] ∧ SqL K H a (ns.map V.int) ∧ 0 ≤ k ∧ ∀ v x H', Ex H H' → FiV H' v x → x.Ok → Q v H'
theorem ok_l_film {f : Addr} {fd : FuncData} (F : Fun K "_law_film" "_law_film" s_l_film f fd) (T : Txt K mg) (D_l_draw : Def P w K mg base CX0 "_law_draw" 1 ["script", "k", "below"] (spDrawF K)) (D_l_layer : Def P w K mg base CX0 "_law_layer" 5 ["script", "k", "name"] (spLayerF K)) (D_l_name : Def P w K mg base CX0 "_law_name" 2 ["script", "k", "first"] (spNameF K)) : FnOk P w K mg base CX0 6 f fd ["script", "k"] (spFilmF K) := by
  refine F.ok sc_l_film (fun vs H Q E h => ?_) (fun cdv A outer s H vs Q E hr h => ?_)
  · obtain ⟨a, ns, k, rfl, _⟩ := h
    rfl
  · obtain ⟨a, ns, k, rfl, hS, k0, q⟩ := h
    refine ⟨_, (pss_cons (ps_set (i := 2) sc_l_film.nd rfl (by first | exact Or.inl rfl | exact Or.inr rfl) (pe_lst pa_nil))
      (pss_cons (ps_for PassesOwn.never rfl (pi_range1 (by rfl) T.range_ (pa_cons (pe_call D_l_draw.ok (hr.mono (by decide)) rfl D_l_draw.mgf D_l_draw.kp D_l_draw.b .nil pass0 (pa_cons (pv 0) (pa_cons (pv 1) (pa_cons pe_int pa_nil)))) pa_nil)) (pg_name (i := 3) sc_l_film.nd rfl (by first | exact Or.inl rfl | exact Or.inr rfl))
        (pss_one (ps_expr (pe_bm PySem.F.plainAttrs_list PySem.F.slot_list_append PySem.F.type_list_append mt_append (pv 2) (pa_cons (pe_call D_l_layer.ok (hr.mono (by decide)) rfl D_l_layer.mgf D_l_layer.kp D_l_layer.b .nil pass0 (pa_cons (pv 0) (pa_cons (pe_op op_add (pe_op op_add (pv 1) pe_int) (pe_op op_mul pe_int (pv 3))) (pa_cons (pe_call D_l_name.ok (hr.mono (by decide)) rfl D_l_name.mgf D_l_name.kp D_l_name.b .nil pass0 (pa_cons (pv 0) (pa_cons (pe_op op_add (pe_op op_add (pv 1) pe_int) (pv 3)) (pa_cons (pe_ix ix_str pe_str (pv 3) (fun _ _ => rfl)) pa_nil)))) pa_nil)))) pa_nil)))))
      (pss_cons (ps_set (i := 4) sc_l_film.nd rfl (by first | exact Or.inl rfl | exact Or.inr rfl) (pe_op op_add pe_int (pe_call D_l_draw.ok (hr.mono (by decide)) rfl D_l_draw.mgf D_l_draw.kp D_l_draw.b .nil pass0 (pa_cons (pv 0) (pa_cons (pe_op op_add (pv 1) pe_int) (pa_cons pe_int pa_nil))))))
      (pss_cons (ps_set (i := 5) sc_l_film.nd rfl (by first | exact Or.inl rfl | exact Or.inr rfl) (pe_op op_add pe_int (pe_call D_l_draw.ok (hr.mono (by decide)) rfl D_l_draw.mgf D_l_draw.kp D_l_draw.b .nil pass0 (pa_cons (pv 0) (pa_cons (pe_op op_add (pv 1) pe_int) (pa_cons pe_int pa_nil))))))
      (pss_cut (ps_if (pt_cmpR op_eq (pe_call D_l_draw.ok (hr.mono (by decide)) rfl D_l_draw.mgf D_l_draw.kp D_l_draw.b .nil pass0 (pa_cons (pv 0) (pa_cons (pe_op op_add (pv 1) pe_int) (pa_cons pe_int pa_nil)))) pe_int (nomark _))
        (pss_one (ps_asg (pe_ix (kixL K) (pe_lst (pa_cons (pe_tup (pa_cons pe_int (pa_cons pe_int pa_nil))) (pa_cons (pe_tup (pa_cons pe_int (pa_cons pe_int pa_nil))) pa_nil))) (pe_call D_l_draw.ok (hr.mono (by decide)) rfl D_l_draw.mgf D_l_draw.kp D_l_draw.b .nil pass0 (pa_cons (pv 0) (pa_cons (pe_op op_add (pv 1) pe_int) (pa_cons pe_int pa_nil)))) (fun _ _ => rfl)) (kpgT K (n := 2) rfl (pgs_cons (pg_name (i := 4) sc_l_film.nd rfl (by first | exact Or.inl rfl | exact Or.inr rfl)) (pgs_cons (pg_name (i := 5) sc_l_film.nd rfl (by first | exact Or.inl rfl | exact Or.inr rfl)) pgs_nil)))))
        pss_nil)
      (pss_one (ps_ret (pe_tup (pa_cons (pv 4) (pa_cons (pv 5) (pa_cons (pe_op op_add pe_int (pe_call D_l_draw.ok (hr.mono (by decide)) rfl D_l_draw.mgf D_l_draw.kp D_l_draw.b .nil pass0 (pa_cons (pv 0) (pa_cons (pe_op op_add (pv 1) pe_int) (pa_cons pe_int pa_nil))))) (pa_cons (pe_ix (kixL K) (pe_lst (pa_cons pe_int (pa_cons pe_int (pa_cons pe_int pa_nil)))) (pe_call D_l_draw.ok (hr.mono (by decide)) rfl D_l_draw.mgf D_l_draw.kp D_l_draw.b .nil pass0 (pa_cons (pv 0) (pa_cons (pe_op op_add (pv 1) pe_int) (pa_cons pe_int pa_nil)))) (fun _ _ => rfl)) (pa_cons (pv 2) pa_nil))))))))))))), ?_⟩
    refine ⟨Nat.zero_le _, fun D hD => ?_⟩
    have e0 := Ex.new (o := .lst []) hD
    have g0 : upd H D (.lst []) D = some (.lst []) := upd_same
    generalize upd H D (.lst []) = H0 at e0 g0 ⊢
    refine ⟨_, rfl, _, rfl, a, ns, k, 6, rfl, ex_l e0 hS, k0, by decide, by decide, fun n n0 n1 => ?_⟩
    refine ⟨_, rfl, by omega, by omega, ?_⟩
    refine for_range (lo := 0) (n := n.toNat) (fun i σ H' => Ex H H' ∧ ∃ (us : List V) (ls : List La) (x : Option V), σ = [some (.ref a), some (.int k), some (.ref D), x, none, none] ∧ H' D = some (.lst us) ∧ Paired (LaV H') us ls ∧ ls.length = i ∧ ∀ (j : Nat) l, ls[j]? = some l → l.Ok ∧ NameOk j l.name) ⟨e0, [], [], _, rfl, g0, .nil, rfl, fun j l h => by simp at h⟩ ?_ ?_
    · rintro i σ H' hi ⟨e, us, ls, x, rfl, hU, hL, hn, kL⟩
      have hul := hL.length
      have i0 : (0 : Int) ≤ i := Int.natCast_nonneg i
      have hc6 : ghijkl.cps.toList.length = 6 := by decide +kernel
      have hgl : ghijkl.length ≤ sizeLine := by decide +kernel
      have hx : ghijkl.cps.toList[i]? = some ghijkl.cps.toList[i] := List.getElem?_eq_getElem (by omega)
      generalize ghijkl.cps.toList[i] = c at hx
      have hat : atI ghijkl.cps.toList (0 + (i : Int)) = some c := by rw [Int.zero_add]; exact atI_nat hx
      refine ⟨_, rfl, .inl ⟨rfl, _, SqL.of hU⟩, ?_⟩
      refine ⟨_, rfl, _, rfl, _, _, rfl, rfl, _, rfl, _, _, rfl, rfl, .inl ⟨by decide, by decide⟩, _, _, rfl, rfl, ?_⟩
      refine ⟨_, rfl, _, rfl, _, _, rfl, rfl, _, rfl, _, _, rfl, rfl, _, rfl, ghijkl, _, c, rfl, rfl, hgl, hat, ?_⟩
      refine ⟨a, ns, k + 4 + (0 + (i : Int)), ⟨#[c]⟩, rfl, ex_l e hS, by omega, (by show (1 : Nat) ≤ 10; decide), fun t H1 e1 ht => ?_⟩
      refine ⟨a, ns, k + 10 + 50 * (0 + (i : Int)), _, rfl, ex_l (e.trans e1) hS, by omega, fun v l H2 e2 hv kl el => ?_⟩
      have e12 := e1.trans e2
      have hU2 := e12 _ _ hU
      have hL2 := Paired.mapP hL fun _ _ => LaV.tk (TK.ex e12)
      refine ⟨D, us, _, rfl, rfl, hU2, slineL (by omega), ?_⟩
      have tk : TK H2 (upd H2 D (.lst (us ++ [v]))) := TK.lst hU2
      refine ⟨(e.trans e12).mut hD, us ++ [v], ls ++ [l], _, rfl, upd_same, pr_append (Paired.mapP hL2 fun _ _ => LaV.tk tk) (.cons (hv.tk tk) .nil), by rw [List.length_append, hn]; rfl, fun j z hz => ?_⟩
      by_cases cj : j < ls.length
      · rw [List.getElem?_append_left cj] at hz
        exact kL j z hz
      · have hj := (List.getElem?_eq_some_iff.mp hz).1
        rw [List.length_append, List.length_singleton] at hj
        have ej : j = i := by omega
        subst ej
        rw [List.getElem?_append_right (by omega), show j - ls.length = 0 by omega] at hz
        cases hz
        exact ⟨kl, c, t, hx, ht, el⟩
    · rintro σ H' ⟨e, us, ls, x, rfl, hU, hL, hn, kL⟩
      refine ⟨_, rfl, _, rfl, _, _, rfl, rfl, a, ns, k + 1, 9, rfl, ex_l e hS, by omega, by decide, by decide, fun u u0 u1 => ?_⟩
      refine ⟨_, _, rfl, rfl, ?_⟩
      refine ⟨_, rfl, _, rfl, _, _, rfl, rfl, a, ns, k + 2, 9, rfl, ex_l e hS, by omega, by decide, by decide, fun r r0 r1 => ?_⟩
      refine ⟨_, _, rfl, rfl, ?_⟩
      refine ⟨fun σ H'' => Ex H' H'' ∧ ∃ wd hg : Int, σ = [some (.ref a), some (.int k), some (.ref D), x, some (.int wd), some (.int hg)] ∧ 1 ≤ wd ∧ wd ≤ 64 ∧ 1 ≤ hg ∧ hg ≤ 64 ∧ wd * hg ≤ 81, ?_, ?_⟩
      · refine ⟨_, rfl, _, rfl, _, _, rfl, rfl, a, ns, k + 900, 16, rfl, ex_l e hS, by omega, by decide, by decide, fun z z0 z1 => ?_⟩
        refine ⟨rfl, _, rfl, ?_⟩
        refine ite2 (fun _ => ?_) (fun _ => ?_)
        · refine ⟨(by show 2 ≤ sizeLine; decide), fun t1 ht1 => ?_⟩
          have x1 := Ex.new (o := .tup [.int 64, .int 1]) ht1
          have y1 : upd H' t1 (.tup [.int 64, .int 1]) t1 = some (.tup [.int 64, .int 1]) := upd_same
          generalize upd H' t1 (.tup [.int 64, .int 1]) = H3 at x1 y1 ⊢
          refine ⟨(by show 2 ≤ sizeLine; decide), fun t2 ht2 => ?_⟩
          have x2 := Ex.new (o := .tup [.int 1, .int 64]) ht2
          have y2 : upd H3 t2 (.tup [.int 1, .int 64]) t2 = some (.tup [.int 1, .int 64]) := upd_same
          generalize upd H3 t2 (.tup [.int 1, .int 64]) = H4 at x2 y2 ⊢
          refine ⟨(by show 2 ≤ sizeLine; decide), fun l hl => ?_⟩
          have x3 := Ex.new (o := .lst [.ref t1, .ref t2]) hl
          have y3 : upd H4 l (.lst [.ref t1, .ref t2]) l = some (.lst [.ref t1, .ref t2]) := upd_same
          generalize upd H4 l (.lst [.ref t1, .ref t2]) = H5 at x3 y3 ⊢
          have e15 := (x1.trans x2).trans x3
          refine ⟨_, rfl, _, rfl, _, _, rfl, rfl, a, ns, k + 901, 2, rfl, ex_l (e.trans e15) hS, by omega, by decide, by decide, fun m m0 m1 => ?_⟩
          have hm : m = 0 ∨ m = 1 := by omega
          rcases hm with rfl | rfl
          · refine ⟨l, _, 0, .ref t1, rfl, rfl, SqL.of y3, rfl, t1, [.int 64, .int 1], rfl, SqT.of ((x2.trans x3) _ _ y1), rfl, _, _, rfl, _, _, rfl, rfl, ?_⟩
            exact ⟨e15, 64, 1, rfl, by decide, by decide, by decide, by decide, by decide⟩
          · refine ⟨l, _, 1, .ref t2, rfl, rfl, SqL.of y3, rfl, t2, [.int 1, .int 64], rfl, SqT.of (x3 _ _ y2), rfl, _, _, rfl, _, _, rfl, rfl, ?_⟩
            exact ⟨e15, 1, 64, rfl, by decide, by decide, by decide, by decide, by decide⟩
        · refine ⟨Ex.refl _, _, _, rfl, by omega, by omega, by omega, by omega, ?_⟩
          have := Int.mul_le_mul (show 1 + u ≤ 9 by omega) (show 1 + r ≤ 9 by omega) (by omega) (by decide)
          omega
      rintro σ H9 ⟨e9, wd, hg, rfl, w0, w1, h0, h1, wh⟩
      refine ⟨_, rfl, _, rfl, ?_⟩
      have e09 := e.trans e9
      refine ⟨_, rfl, _, rfl, _, _, rfl, rfl, a, ns, k + 9, 10, rfl, ex_l e09 hS, by omega, by decide, by decide, fun n2 n20 n21 => ?_⟩
      refine ⟨_, _, rfl, rfl, ?_⟩
      refine ⟨(by show 3 ≤ sizeLine; decide), fun l hl => ?_⟩
      have f6 := Ex.new (o := .lst [.int 0, .int 255, .int 77]) hl
      have k6 : upd H9 l (.lst [.int 0, .int 255, .int 77]) l = some (.lst ([0, 255, 77].map V.int)) := upd_same
      generalize upd H9 l (.lst [.int 0, .int 255, .int 77]) = H6 at f6 k6 ⊢
      refine ⟨_, rfl, _, rfl, _, _, rfl, rfl, a, ns, k + 3, 3, rfl, ex_l (e09.trans f6) hS, by omega, by decide, by decide, fun j j0 j1 => ?_⟩
      obtain ⟨b, hb, exb⟩ := pickI (ns := [0, 255, 77]) j0 j1
      simp only [List.mem_cons, List.not_mem_nil, or_false] at hb
      refine ⟨l, _, j, _, rfl, rfl, SqL.of k6, exb, ?_⟩
      refine ⟨_, rfl, ?_⟩
      refine ⟨(by show 5 ≤ sizeLine; decide), fun t ht => ?_⟩
      have f7 := Ex.new (o := .tup [.int wd, .int hg, .int (1 + n2), .int b, .ref D]) ht
      have e97 := (e9.trans f6).trans f7
      exact q _ ⟨wd, hg, 1 + n2, b, ls⟩ _ (e.trans e97) ⟨t, D, us, rfl, upd_same, e97 _ _ hU, Paired.mapP hL fun _ _ => LaV.tk (TK.ex e97)⟩ ⟨w0, w1, h0, h1, wh, by show 1 ≤ 1 + n2; omega, by show 1 + n2 ≤ 10; omega, by show 0 ≤ b; omega, by show b ≤ 255; omega, by show ls.length ≤ 5; omega, kL⟩

abbrev s_is_whole : Stmt := top 11
theorem sc_is_whole : FnScope ["value"] ["value"] (defScope s_is_whole) := ⟨rfl, rfl, rfl, by decide +kernel, rfl, by decide +kernel, by decide +kernel⟩
def spWhole : Sp := fun vs H Q _ => ∃ v T, vs = [v] ∧ Kn H v T ∧ Q (.bl (isI v)) H
theorem ok_is_whole {f : Addr} {fd : FuncData} (F : Fun K "is_whole" "is_whole" s_is_whole f fd) (T : Txt K mg) : FnOk P w K mg base CX0 1 f fd ["value"] spWhole := by
  refine F.ok sc_is_whole (fun vs H Q E h => ?_) (fun cdv A outer s H vs Q E hr h => ?_)
  · obtain ⟨v, T, rfl, _⟩ := h
    rfl
  · obtain ⟨v, T', rfl, kn, q⟩ := h
    refine ⟨_, (pss_one (ps_ret (pe_and (pe_callB (kisi K) (by rfl) T.isinstance_ bt_isinstance (pa_cons (pv 0) (pa_cons (pe_bltn (v := .ty "int") (by rfl) T.int_ bt_int rfl) pa_nil))) (pe_one (pe_not (pe_callB (kisi K) (by rfl) T.isinstance_ bt_isinstance (pa_cons (pv 0) (pa_cons (pe_bltn (v := .ty "bool") (by rfl) T.bool_ bt_bool rfl) pa_nil)))))))), ?_⟩
    refine ⟨v, rfl, v, _, _, _, _, rfl, .ty _, kn.ty, kit_ty (kit_int kn), _, rfl, ?_⟩
    refine ite2 (fun e => ?_) (fun e => ?_)
    · refine ⟨v, rfl, v, _, _, _, _, rfl, .ty _, kn.ty, kit_ty (kit_bool kn), _, rfl, ?_⟩
      have z := kn.whole
      rw [e] at z
      rw [← z] at q
      exact q
    · have z := kn.whole
      rw [eq_false_of_ne_true e] at z
      rw [← z] at q
      exact q

abbrev s_is_number : Stmt := top 16
theorem sc_is_number : FnScope ["value", "least", "most"] ["value", "least", "most"] (defScope s_is_number) := ⟨rfl, rfl, rfl, by decide +kernel, rfl, by decide +kernel, by decide +kernel⟩
def numIn (lo hi : Int) : V → Bool
  | .int i => decide (lo ≤ i) && decide (i ≤ hi)
  | _ => false
def spNumber : Sp := fun vs H Q _ => ∃ v lo hi T, vs = [v, .int lo, .int hi] ∧ Kn H v T ∧ Q (.bl (numIn lo hi v)) H
theorem ok_is_number {f : Addr} {fd : FuncData} (F : Fun K "is_number" "is_number" s_is_number f fd) (T : Txt K mg) (D_is_whole : Def P w K mg base CX0 "is_whole" 1 ["value"] spWhole) : FnOk P w K mg base CX0 2 f fd ["value", "least", "most"] spNumber := by
  refine F.ok sc_is_number (fun vs H Q E h => ?_) (fun cdv A outer s H vs Q E hr h => ?_)
  · obtain ⟨v, lo, hi, T, rfl, _⟩ := h
    rfl
  · obtain ⟨v, lo, hi, T', rfl, kn, q⟩ := h
    refine ⟨_, (pss_one (ps_ret (pe_and (pe_call D_is_whole.ok (hr.mono (by decide)) rfl D_is_whole.mgf D_is_whole.kp D_is_whole.b .nil pass0 (pa_cons (pv 0) pa_nil)) (pe_one (pe_chain op_le op_le (pv 1) (pv 0) (pv 2)))))), ?_⟩
    refine ⟨v, rfl, v, _, rfl, kn, _, rfl, ?_⟩
    cases v with
    | int i =>
      refine iteT ?_
      refine ⟨_, rfl, _, rfl, _, _, rfl, rfl, _, rfl, ?_⟩
      have e : numIn lo hi (.int i) = (decide (lo ≤ i) && decide (i ≤ hi)) := rfl
      rw [e] at q
      refine ite2 (fun c => ?_) (fun c => ?_)
      · rw [c, Bool.true_and] at q
        exact ⟨_, rfl, _, _, rfl, rfl, q⟩
      · rw [eq_false_of_ne_true c, Bool.false_and] at q
        exact q
    | _ => exact iteF q

abbrev s_has_form_blends : Stmt := top 24
theorem sc_has_form_blends : FnScope ["what", "opacity", "mode", "n"] ["what"] (defScope s_has_form_blends) := ⟨rfl, rfl, rfl, by decide +kernel, rfl, by decide +kernel, by decide +kernel⟩
def spFormWh : Sp := fun vs H Q _ => ∃ (v : V) (x : Wh), vs = [v] ∧ WhV H v x ∧ x.Ok ∧ Q (.bl true) H
def inM3 (v : V) : Bool := ["over", "add", "times"].any fun w => isW w v
theorem num_in {lo hi i : Int} (h1 : lo ≤ i) (h2 : i ≤ hi) : numIn lo hi (.int i) = true := by
  show (decide (lo ≤ i) && decide (i ≤ hi)) = true
  rw [decide_eq_true h1, decide_eq_true h2]
  rfl
theorem ok_has_form_blends {f : Addr} {fd : FuncData} (F : Fun K "_has_form" "_has_form" s_has_form_blends f fd) (T : Txt K mg) (D_is_number : Def P w K mg base CX0 "is_number" 2 ["value", "least", "most"] spNumber) : FnOk P w K mg base CX0 3 f fd ["what"] spFormWh := by
  refine F.ok sc_has_form_blends (fun vs H Q E h => ?_) (fun cdv A outer s H vs Q E hr h => ?_)
  · obtain ⟨v, x, rfl, _⟩ := h
    rfl
  · obtain ⟨v, x, rfl, ⟨a, rfl, ha⟩, k, q⟩ := h
    refine ⟨_, (pss_cons (ps_if (pt_not (pt_val (pe_callB (kisi K) (by rfl) T.isinstance_ bt_isinstance (pa_cons (pv 0) (pa_cons (pe_bltn (v := .ty "tuple") (by rfl) T.tuple_ bt_tuple rfl) pa_nil)))))
        (pss_one (ps_ret pe_bl))
        pss_nil)
      (pss_one (ps_match (pv 0) (pcs_seq K rfl sc_has_form_blends.nd (pms_word hr.units (pms_cap (i := 1) rfl (by first | exact Or.inl rfl | exact Or.inr rfl) (pms_cap (i := 2) rfl (by first | exact Or.inl rfl | exact Or.inr rfl) pms_nil)))
          (pss_one (ps_ret (pe_and (pe_call D_is_number.ok (hr.mono (by decide)) rfl D_is_number.mgf D_is_number.kp D_is_number.b .nil pass0 (pa_cons (pv 1) (pa_cons pe_int (pa_cons (pe_glob (v := .int 256) rfl T.COVER_MOST_.choose_spec ⟨_, rfl⟩) pa_nil)))) (pe_one (pe_cmpR (kinW K hr.units) (pv 2) (pe_glob (v := .ref T.MODES_.choose) rfl T.MODES_.choose_spec.1 rfl) (by rfl))))))
          (pcs_seq K rfl sc_has_form_blends.nd (pms_word hr.units pms_nil)
          (pss_one (ps_ret pe_bl))
          (pcs_seq K rfl sc_has_form_blends.nd (pms_word hr.units (pms_cap (i := 3) rfl (by first | exact Or.inl rfl | exact Or.inr rfl) pms_nil))
          (pss_one (ps_ret (pe_call D_is_number.ok (hr.mono (by decide)) rfl D_is_number.mgf D_is_number.kp D_is_number.b .nil pass0 (pa_cons (pv 3) (pa_cons (pe_un un_neg (pe_glob (v := .int 255) rfl T.VALUE_MOST_.choose_spec ⟨_, rfl⟩)) (pa_cons (pe_glob (v := .int 255) rfl T.VALUE_MOST_.choose_spec ⟨_, rfl⟩) pa_nil))))))
          (pcs_else (pss_one (ps_ret pe_bl))))))))), ?_⟩
    refine ⟨_, rfl, _, _, _, _, _, rfl, .ty _, (Kn.tup ha).ty, kit_ty (kit_tuple (Kn.tup ha)), _, rfl, ?_⟩
    refine iteF ?_
    refine ⟨_, rfl, a, _, rfl, SqT.of ha, ?_⟩
    cases x with
    | invert =>
      refine lenN (by show 1 ≠ 3; decide) ⟨a, _, rfl, SqT.of ha, lenY rfl ?_⟩
      refine ⟨.str "invert", _, _, rfl, .str _, ?_⟩
      rw [show isW "invert" (.str "invert") = true by decide +kernel]
      exact iteT ⟨rfl, q⟩
    | shift n =>
      refine lenN (by show 2 ≠ 3; decide) ⟨a, _, rfl, SqT.of ha, lenN (by show 2 ≠ 1; decide) ⟨a, _, rfl, SqT.of ha, lenY rfl ?_⟩⟩
      refine ⟨.str "shift", _, _, rfl, .str _, ?_⟩
      rw [show isW "shift" (.str "shift") = true by decide +kernel]
      refine iteT ?_
      refine ⟨_, _, rfl, rfl, ?_⟩
      refine ⟨_, rfl, _, rfl, _, -255, 255, _, rfl, .int n, ?_⟩
      rw [num_in k.1 k.2]
      exact q
    | paint o m =>
      obtain ⟨o0, o1, hm⟩ := k
      have lay : (PyData.str m).canLay0 = true ∧ inM3 (.str m) = true := by
        unfold modes3 at hm
        simp only [List.mem_cons, List.not_mem_nil, or_false] at hm
        rcases hm with rfl | rfl | rfl <;> exact ⟨by decide +kernel, by decide +kernel⟩
      refine lenY rfl ?_
      refine ⟨.str "paint", _, _, rfl, .str _, ?_⟩
      rw [show isW "paint" (.str "paint") = true by decide +kernel]
      refine iteT ?_
      refine ⟨_, _, rfl, _, _, rfl, rfl, ?_⟩
      refine ⟨_, rfl, _, 0, 256, _, rfl, .int o, _, rfl, ?_⟩
      rw [num_in o0 o1]
      refine iteT ?_
      refine ⟨_, rfl, .str m, _, ["over", "add", "times"], .str m, lay.1, rfl, .inr (T.MODES_.choose_spec.2 H), (by decide +kernel), ?_⟩
      show Q (.bl (inM3 (.str m))) H
      rw [lay.2]
      exact q

abbrev s_check_what : Stmt := top 22
theorem sc_check_what : FnScope ["what"] ["what"] (defScope s_check_what) := ⟨rfl, rfl, rfl, by decide +kernel, rfl, by decide +kernel, by decide +kernel⟩
def spWhatV : Sp := fun vs H Q _ => ∃ (v : V) (x : Wh), vs = [v] ∧ WhV H v x ∧ x.Ok ∧ Q .non H
theorem ok_check_what {f : Addr} {fd : FuncData} (F : Fun K "check_what" "check_what" s_check_what f fd) (T : Txt K mg) (D_has_form_blends : Def P w K mg base CX0 "has_form_blends" 3 ["what"] spFormWh) : FnOk P w K mg base CX0 4 f fd ["what"] spWhatV := by
  refine F.ok sc_check_what (fun vs H Q E h => ?_) (fun cdv A outer s H vs Q E hr h => ?_)
  · obtain ⟨v, x, rfl, _⟩ := h
    rfl
  · obtain ⟨v, x, rfl, hx, k, q⟩ := h
    refine ⟨_, (pss_one (ps_if (pt_not (pt_val (pe_call D_has_form_blends.ok (hr.mono (by decide)) rfl D_has_form_blends.mgf D_has_form_blends.kp D_has_form_blends.b .nil pass0 (pa_cons (pv 0) pa_nil))))
        (pss_one ps_never)
        pss_nil)), ?_⟩
    exact ⟨_, rfl, v, x, rfl, hx, k, _, rfl, iteF q⟩

abbrev s_is_distance : Stmt := top 58
theorem sc_is_distance : FnScope ["value"] ["value"] (defScope s_is_distance) := ⟨rfl, rfl, rfl, by decide +kernel, rfl, by decide +kernel, by decide +kernel⟩
def spDistV : Sp := fun vs H Q _ => ∃ i : Int, vs = [.int i] ∧ -1000 ≤ i ∧ i ≤ 1000 ∧ Q (.bl true) H
theorem ok_is_distance {f : Addr} {fd : FuncData} (F : Fun K "_is_distance" "_is_distance" s_is_distance f fd) (T : Txt K mg) (D_is_number : Def P w K mg base CX0 "is_number" 2 ["value", "least", "most"] spNumber) : FnOk P w K mg base CX0 3 f fd ["value"] spDistV := by
  refine F.ok sc_is_distance (fun vs H Q E h => ?_) (fun cdv A outer s H vs Q E hr h => ?_)
  · obtain ⟨i, rfl, _⟩ := h
    rfl
  · obtain ⟨i, rfl, h1, h2, q⟩ := h
    refine ⟨_, (pss_one (ps_ret (pe_call D_is_number.ok (hr.mono (by decide)) rfl D_is_number.mgf D_is_number.kp D_is_number.b .nil pass0 (pa_cons (pv 0) (pa_cons (pe_un un_neg (pe_glob (v := .int 1000) rfl T.DISTANCE_MOST_.choose_spec ⟨_, rfl⟩)) (pa_cons (pe_glob (v := .int 1000) rfl T.DISTANCE_MOST_.choose_spec ⟨_, rfl⟩) pa_nil)))))), ?_⟩
    refine ⟨_, rfl, _, rfl, _, -1000, 1000, _, rfl, .int i, ?_⟩
    rw [num_in h1 h2]
    exact q

abbrev s_is_point : Stmt := top 57
theorem sc_is_point : FnScope ["point", "least", "frame", "across", "down"] ["point", "least"] (defScope s_is_point) := ⟨rfl, rfl, rfl, by decide +kernel, rfl, by decide +kernel, by decide +kernel⟩
def spPtVd : Sp := fun vs H Q _ => ∃ (v : V) (m : Mv) (lo : Int), vs = [v, .int lo] ∧ MvV H v m ∧ lo ≤ m.f ∧ m.f ≤ 1000 ∧ -1000 ≤ m.a ∧ m.a ≤ 1000 ∧ -1000 ≤ m.d ∧ m.d ≤ 1000 ∧ Q (.bl true) H
theorem ok_is_point {f : Addr} {fd : FuncData} (F : Fun K "_is_point" "_is_point" s_is_point f fd) (T : Txt K mg) (D_is_number : Def P w K mg base CX0 "is_number" 2 ["value", "least", "most"] spNumber) (D_is_distance : Def P w K mg base CX0 "_is_distance" 3 ["value"] spDistV) : FnOk P w K mg base CX0 4 f fd ["point", "least"] spPtVd := by
  refine F.ok sc_is_point (fun vs H Q E h => ?_) (fun cdv A outer s H vs Q E hr h => ?_)
  · obtain ⟨v, m, lo, rfl, _⟩ := h
    rfl
  · obtain ⟨v, m, lo, rfl, ⟨a, rfl, ha⟩, f0, f1, a0, a1, d0, d1, q⟩ := h
    refine ⟨_, (pss_cons (ps_if (PW.pt (pw_or (pt_not (pt_val (pe_callB (kisi K) (by rfl) T.isinstance_ bt_isinstance (pa_cons (pv 0) (pa_cons (pe_bltn (v := .ty "tuple") (by rfl) T.tuple_ bt_tuple rfl) pa_nil))))) (pw_or1 (pt_cmpR op_ne (pe_callB (klen K) (by rfl) T.len_ PySem.boot_len (pa_cons (pv 0) pa_nil)) pe_int (nomark _)))))
        (pss_one (ps_ret pe_bl))
        pss_nil)
      (pss_cons (ps_asg (pv 0) (kpgT K (n := 3) rfl (pgs_cons (pg_name (i := 2) sc_is_point.nd rfl (by first | exact Or.inl rfl | exact Or.inr rfl)) (pgs_cons (pg_name (i := 3) sc_is_point.nd rfl (by first | exact Or.inl rfl | exact Or.inr rfl)) (pgs_cons (pg_name (i := 4) sc_is_point.nd rfl (by first | exact Or.inl rfl | exact Or.inr rfl)) pgs_nil)))))
      (pss_one (ps_ret (pe_and (pe_call D_is_number.ok (hr.mono (by decide)) rfl D_is_number.mgf D_is_number.kp D_is_number.b .nil pass0 (pa_cons (pv 2) (pa_cons (pv 1) (pa_cons (pe_glob (v := .int 1000) rfl T.MOVE_FRAME_MOST_.choose_spec ⟨_, rfl⟩) pa_nil)))) (pe_and (pe_call D_is_distance.ok (hr.mono (by decide)) rfl D_is_distance.mgf D_is_distance.kp D_is_distance.b .nil pass0 (pa_cons (pv 3) pa_nil)) (pe_one (pe_call D_is_distance.ok (hr.mono (by decide)) rfl D_is_distance.mgf D_is_distance.kp D_is_distance.b .nil pass0 (pa_cons (pv 4) pa_nil))))))))), ?_⟩
    refine ⟨_, rfl, _, _, _, _, _, rfl, .ty _, (Kn.tup ha).ty, kit_ty (kit_tuple (Kn.tup ha)), _, rfl, ?_⟩
    refine iteF ?_
    refine ⟨_, rfl, a, _, rfl, .inr (SqT.of ha), rfl, _, rfl, ?_⟩
    refine iteF ?_
    refine ⟨_, rfl, a, _, rfl, SqT.of ha, rfl, _, _, rfl, _, _, rfl, _, _, rfl, rfl, ?_⟩
    refine ⟨_, rfl, _, rfl, _, lo, 1000, _, rfl, .int m.f, _, rfl, ?_⟩
    rw [num_in f0 f1]
    refine iteT ?_
    refine ⟨_, rfl, m.a, rfl, a0, a1, _, rfl, iteT ?_⟩
    exact ⟨_, rfl, m.d, rfl, d0, d1, q⟩

abbrev s_check_moves : Stmt := top 55
theorem sc_check_moves : FnScope ["moves", "least", "place", "point"] ["moves"] (defScope s_check_moves) := ⟨rfl, rfl, rfl, by decide +kernel, rfl, by decide +kernel, by decide +kernel⟩
def spMovesV : Sp := fun vs H Q _ => ∃ (a : Addr) (us : List V) (ms : List Mv), vs = [.ref a] ∧ H a = some (.tup us) ∧ MvsV H us ms ∧ MvsVd ms ∧ ∀ H', Ex H H' → Q .non H'
theorem ok_check_moves {f : Addr} {fd : FuncData} (F : Fun K "check_moves" "check_moves" s_check_moves f fd) (T : Txt K mg) (D_is_point : Def P w K mg base CX0 "_is_point" 4 ["point", "least"] spPtVd) : FnOk P w K mg base CX0 5 f fd ["moves"] spMovesV := by
  refine F.ok sc_check_moves (fun vs H Q E h => ?_) (fun cdv A outer s H vs Q E hr h => ?_)
  · obtain ⟨a, us, ms, rfl, _⟩ := h
    rfl
  · obtain ⟨a, us, ms, rfl, ha, hM, k, q⟩ := h
    have lu := hM.length
    have lm := k.len
    refine ⟨_, (pss_cons (ps_if (PW.pt (pw_or (pt_not (pt_val (pe_callB (kisi K) (by rfl) T.isinstance_ bt_isinstance (pa_cons (pv 0) (pa_cons (pe_bltn (v := .ty "tuple") (by rfl) T.tuple_ bt_tuple rfl) pa_nil))))) (pw_or1 (pt_cmpR op_gt (pe_callB (klen K) (by rfl) T.len_ PySem.boot_len (pa_cons (pv 0) pa_nil)) (pe_glob (v := .int 16) rfl T.MOVES_MOST_.choose_spec ⟨_, rfl⟩) (nomark _)))))
        (pss_one ps_never)
        pss_nil)
      (pss_cons (ps_set (i := 1) sc_check_moves.nd rfl (by first | exact Or.inl rfl | exact Or.inr rfl) pe_int)
      (pss_one (ps_for PassesOwn.never rfl (kpiET K (by rfl) T.enumerate_ (pa_cons (pv 0) pa_nil)) (kpgT K (n := 2) rfl (pgs_cons (pg_name (i := 2) sc_check_moves.nd rfl (by first | exact Or.inl rfl | exact Or.inr rfl)) (pgs_cons (pg_name (i := 3) sc_check_moves.nd rfl (by first | exact Or.inl rfl | exact Or.inr rfl)) pgs_nil)))
        (pss_cons (ps_if (pt_not (pt_val (pe_call D_is_point.ok (hr.mono (by decide)) rfl D_is_point.mgf D_is_point.kp D_is_point.b .nil pass0 (pa_cons (pv 3) (pa_cons (pv 1) pa_nil)))))
          (pss_one ps_never)
          pss_nil)
        (pss_one (ps_set (i := 1) sc_check_moves.nd rfl (by first | exact Or.inl rfl | exact Or.inr rfl) (pe_op op_add (pe_ix (kixT K) (pv 3) pe_int (fun _ _ => rfl)) pe_int)))))))), ?_⟩
    refine ⟨_, rfl, _, _, _, _, _, rfl, .ty _, (Kn.tup ha).ty, kit_ty (kit_tuple (Kn.tup ha)), _, rfl, ?_⟩
    refine iteF ?_
    refine ⟨_, rfl, a, us, rfl, .inr (SqT.of ha), _, _, rfl, rfl, _, rfl, ?_⟩
    rw [decide_eq_false (show ¬ (16 : Int) < us.length by omega)]
    refine iteF ?_
    refine ⟨_, rfl, a, us, rfl, SqT.of ha, ?_⟩
    refine for_ET (xs := us) (fun i σ H' => Ex H H' ∧ ∃ (lo : Int) (x y : Option V), σ = [some (.ref a), some (.int lo), x, y] ∧ ∀ m, ms[i]? = some m → lo ≤ m.f) ⟨Ex.refl _, 0, _, _, rfl, fun m hm => (k.ok m (List.mem_of_getElem? hm)).1⟩ (fun i σ H' _ p => SqT.of (p.1 _ _ ha)) ?_ ?_
    · rintro i v σ H1 t hv ⟨e1, lo, x, y, rfl, hlo⟩ ht
      obtain ⟨m, hm, hmv⟩ := pr_get hM hv
      have f1 := Ex.new (o := .tup [.int (i : Nat), v]) ht
      have k1 : upd H1 t (.tup [.int (i : Nat), v]) t = some (.tup [.int (i : Nat), v]) := upd_same
      generalize upd H1 t (.tup [.int (i : Nat), v]) = H2 at f1 k1 ⊢
      have e2 := e1.trans f1
      have hmv := hmv.tk (TK.ex e2)
      obtain ⟨pa, rfl, hpa⟩ := id hmv
      obtain ⟨k1', k2, k3, k4, k5, k6⟩ := k.ok m (List.mem_of_getElem? hm)
      refine ⟨t, _, rfl, SqT.of k1, rfl, _, _, rfl, _, _, rfl, rfl, ?_⟩
      refine ⟨_, rfl, _, rfl, .ref pa, m, lo, rfl, hmv, hlo m hm, k2, k3, k4, k5, k6, _, rfl, ?_⟩
      refine iteF ?_
      refine ⟨_, rfl, pa, _, 0, _, rfl, rfl, SqT.of hpa, rfl, _, _, rfl, rfl, ?_⟩
      refine ⟨e2, m.f + 1, _, _, rfl, fun n hn => ?_⟩
      have := asc_le k.asc hm hn (Nat.lt_succ_self i)
      omega
    · rintro σ H1 ⟨e1, _⟩
      exact q H1 e1

abbrev s_has_form_clips : Stmt := top 48
theorem sc_has_form_clips : FnScope ["clip", "start", "length", "_", "fade_in", "fade_out"] ["clip"] (defScope s_has_form_clips) := ⟨rfl, rfl, rfl, by decide +kernel, rfl, by decide +kernel, by decide +kernel⟩
def spFormCV : Sp := fun vs H Q _ => ∃ (v : V) (c : Cl), vs = [v] ∧ ClV H v c ∧ c.Vd ∧ Q (.bl true) H
theorem ok_has_form_clips {f : Addr} {fd : FuncData} (F : Fun K "_has_form" "_has_form" s_has_form_clips f fd) (T : Txt K mg) (D_is_number : Def P w K mg base CX0 "is_number" 2 ["value", "least", "most"] spNumber) : FnOk P w K mg base CX0 3 f fd ["clip"] spFormCV := by
  refine F.ok sc_has_form_clips (fun vs H Q E h => ?_) (fun cdv A outer s H vs Q E hr h => ?_)
  · obtain ⟨v, c, rfl, _⟩ := h
    rfl
  · obtain ⟨v, c, rfl, ⟨a, u, rfl, ha, hu⟩, k, q⟩ := h
    have := k.fs
    have := k.fi0
    have := k.fo0
    refine ⟨_, (pss_cons (ps_if (PW.pt (pw_or (pt_not (pt_val (pe_callB (kisi K) (by rfl) T.isinstance_ bt_isinstance (pa_cons (pv 0) (pa_cons (pe_bltn (v := .ty "tuple") (by rfl) T.tuple_ bt_tuple rfl) pa_nil))))) (pw_or1 (pt_cmpR op_ne (pe_callB (klen K) (by rfl) T.len_ PySem.boot_len (pa_cons (pv 0) pa_nil)) pe_int (nomark _)))))
        (pss_one (ps_ret pe_bl))
        pss_nil)
      (pss_cons (ps_asg (pv 0) (kpgT K (n := 5) rfl (pgs_cons (pg_name (i := 1) sc_has_form_clips.nd rfl (by first | exact Or.inl rfl | exact Or.inr rfl)) (pgs_cons (pg_name (i := 2) sc_has_form_clips.nd rfl (by first | exact Or.inl rfl | exact Or.inr rfl)) (pgs_cons (pg_name (i := 3) sc_has_form_clips.nd rfl (by first | exact Or.inl rfl | exact Or.inr rfl)) (pgs_cons (pg_name (i := 4) sc_has_form_clips.nd rfl (by first | exact Or.inl rfl | exact Or.inr rfl)) (pgs_cons (pg_name (i := 5) sc_has_form_clips.nd rfl (by first | exact Or.inl rfl | exact Or.inr rfl)) pgs_nil)))))))
      (pss_cons (ps_if (PW.pt (pw_or (pt_not (pt_val (pe_call D_is_number.ok (hr.mono (by decide)) rfl D_is_number.mgf D_is_number.kp D_is_number.b .nil pass0 (pa_cons (pv 1) (pa_cons pe_int (pa_cons (pe_glob (v := .int 10000) rfl T.START_MOST_.choose_spec ⟨_, rfl⟩) pa_nil)))))) (pw_or1 (pt_not (pt_val (pe_call D_is_number.ok (hr.mono (by decide)) rfl D_is_number.mgf D_is_number.kp D_is_number.b .nil pass0 (pa_cons (pv 2) (pa_cons pe_int (pa_cons (pe_glob (v := .int 10000) rfl T.LENGTH_MOST_.choose_spec ⟨_, rfl⟩) pa_nil)))))))))
        (pss_one (ps_ret pe_bl))
        pss_nil)
      (pss_one (ps_ret (pe_and (pe_call D_is_number.ok (hr.mono (by decide)) rfl D_is_number.mgf D_is_number.kp D_is_number.b .nil pass0 (pa_cons (pv 4) (pa_cons pe_int (pa_cons (pv 2) pa_nil)))) (pe_one (pe_call D_is_number.ok (hr.mono (by decide)) rfl D_is_number.mgf D_is_number.kp D_is_number.b .nil pass0 (pa_cons (pv 5) (pa_cons pe_int (pa_cons (pe_op op_sub (pv 2) (pv 4)) pa_nil))))))))))), ?_⟩
    refine ⟨_, rfl, _, _, _, _, _, rfl, .ty _, (Kn.tup ha).ty, kit_ty (kit_tuple (Kn.tup ha)), _, rfl, ?_⟩
    refine iteF ?_
    refine ⟨_, rfl, a, _, rfl, .inr (SqT.of ha), rfl, _, rfl, ?_⟩
    refine iteF ?_
    refine ⟨_, rfl, a, _, rfl, SqT.of ha, rfl, _, _, rfl, _, _, rfl, _, _, rfl, _, _, rfl, _, _, rfl, rfl, ?_⟩
    refine ⟨_, rfl, _, 0, 10000, _, rfl, .int c.s, _, rfl, ?_⟩
    rw [num_in k.s0 k.s1]
    refine iteF ?_
    refine ⟨_, rfl, _, 1, 10000, _, rfl, .int c.n, _, rfl, ?_⟩
    rw [num_in k.n1 k.n2]
    refine iteF ?_
    refine ⟨_, rfl, _, rfl, _, 0, c.n, _, rfl, .int c.fi, _, rfl, ?_⟩
    rw [num_in k.fi0 (by omega)]
    refine iteT ?_
    refine ⟨_, rfl, _, rfl, _, rfl, _, _, rfl, rfl, _, 0, c.n - c.fi, _, rfl, .int c.fo, ?_⟩
    rw [num_in k.fo0 (by omega)]
    exact q

abbrev s_is_bare : Stmt := top 50
theorem sc_is_bare : FnScope ["clip"] ["clip"] (defScope s_is_bare) := ⟨rfl, rfl, rfl, by decide +kernel, rfl, by decide +kernel, by decide +kernel⟩
def spBareV : Sp := fun vs H Q _ => ∃ (v : V) (c : Cl), vs = [v] ∧ ClV H v c ∧ c.pa = none ∧ c.fi = 0 ∧ c.fo = 0 ∧ Q (.bl true) H
theorem ok_is_bare {f : Addr} {fd : FuncData} (F : Fun K "_is_bare" "_is_bare" s_is_bare f fd) (T : Txt K mg) : FnOk P w K mg base CX0 1 f fd ["clip"] spBareV := by
  refine F.ok sc_is_bare (fun vs H Q E h => ?_) (fun cdv A outer s H vs Q E hr h => ?_)
  · obtain ⟨v, c, rfl, _⟩ := h
    rfl
  · obtain ⟨v, c, rfl, ⟨a, u, rfl, ha, hu⟩, k1, k2, k3, q⟩ := h
    rw [k1] at hu
    cases hu
    unfold Cl.items at ha
    rw [k2, k3] at ha
    refine ⟨_, (pss_one (ps_ret (pe_and (pe_cmpR op_isN (pe_ix (kixT K) (pv 0) pe_int (fun _ _ => rfl)) pe_non (nomark _)) (pe_and (pe_cmpR op_eq (pe_ix (kixT K) (pv 0) pe_int (fun _ _ => rfl)) pe_int (nomark _)) (pe_one (pe_cmpR op_eq (pe_ix (kixT K) (pv 0) pe_int (fun _ _ => rfl)) pe_int (nomark _))))))), ?_⟩
    refine ⟨_, rfl, a, _, 2, _, rfl, rfl, SqT.of ha, rfl, rfl, _, rfl, ?_⟩
    refine iteT ?_
    refine ⟨_, rfl, a, _, 3, _, rfl, rfl, SqT.of ha, rfl, rfl, _, rfl, ?_⟩
    refine iteT ?_
    exact ⟨_, rfl, a, _, 4, _, rfl, rfl, SqT.of ha, rfl, rfl, q⟩

abbrev s_are_numbers : Stmt := top 19
theorem sc_are_numbers : FnScope ["items", "many", "most", "item"] ["items", "many", "most"] (defScope s_are_numbers) := ⟨rfl, rfl, rfl, by decide +kernel, rfl, by decide +kernel, by decide +kernel⟩
/-- what is passed: a value of a known kind; the items of a tuple, too -/
def Itm (H : Hp) (v : V) : Prop := (∃ T, Kn H v T) ∧ ∀ a xs, v = .ref a → H a = some (.tup xs) → (∀ x ∈ xs, ∃ T, Kn H x T) ∧ xs.length ≤ 1000
def numsV (H : Hp) (n m : Int) : V → Bool
  | .ref a => match H a with
    | some (.tup xs) => decide ((xs.length : Int) = n) && xs.all (numIn 0 m)
    | _ => false
  | _ => false
theorem numsV_tup {H : Hp} {n m : Int} {a : Addr} {xs : List V} (h : H a = some (.tup xs)) : numsV H n m (.ref a) = (decide ((xs.length : Int) = n) && xs.all (numIn 0 m)) := by
  unfold numsV
  simp only [h]
theorem kn_tup {H : Hp} {v : V} {T : String} (kn : Kn H v T) (c : isA T "tuple" = true) : ∃ a xs, v = .ref a ∧ H a = some (.tup xs) := by
  cases kn with
  | tup h => exact ⟨_, _, rfl, h⟩
  | non => exact absurd c (by decide +kernel)
  | bl b => exact absurd c (by decide +kernel)
  | int i => exact absurd c (by decide +kernel)
  | str x => exact absurd c (by decide +kernel)
  | lst h => exact absurd c (by decide +kernel)
theorem numsV_no {H : Hp} {n m : Int} {v : V} {T : String} (kn : Kn H v T) (c : isA T "tuple" = false) : numsV H n m v = false := by
  cases kn with
  | tup h => exact absurd c (by decide +kernel)
  | non => rfl
  | bl b => rfl
  | int i => rfl
  | str x => rfl
  | lst h =>
    unfold numsV
    simp only [h]
def spNums : Sp := fun vs H Q _ => ∃ v n m, vs = [v, .int n, .int m] ∧ Itm H v ∧ ∀ H', Ex H H' → Q (.bl (numsV H n m v)) H'
theorem ok_are_numbers {f : Addr} {fd : FuncData} (F : Fun K "_are_numbers" "_are_numbers" s_are_numbers f fd) (T : Txt K mg) (D_is_number : Def P w K mg base CX0 "is_number" 2 ["value", "least", "most"] spNumber) : FnOk P w K mg base CX0 3 f fd ["items", "many", "most"] spNums := by
  refine F.ok sc_are_numbers (fun vs H Q E h => ?_) (fun cdv A outer s H vs Q E hr h => ?_)
  · obtain ⟨v, n, m, rfl, _⟩ := h
    rfl
  · obtain ⟨v, n, m, rfl, ⟨⟨T', kn⟩, ki⟩, q⟩ := h
    refine ⟨_, (pss_cons (ps_if (PW.pt (pw_or (pt_not (pt_val (pe_callB (kisi K) (by rfl) T.isinstance_ bt_isinstance (pa_cons (pv 0) (pa_cons (pe_bltn (v := .ty "tuple") (by rfl) T.tuple_ bt_tuple rfl) pa_nil))))) (pw_or1 (pt_cmpR op_ne (pe_callB (klen K) (by rfl) T.len_ PySem.boot_len (pa_cons (pv 0) pa_nil)) (pv 1) (nomark _)))))
        (pss_one (ps_ret pe_bl))
        pss_nil)
      (pss_one (ps_ret (pe_callB (kall K rfl) (by rfl) T.all_ bt_all (pa_cons (pe_lc (own := [("item", 3)]) (tt := tYes) rfl sc_are_numbers.nd (kpiT K (pv 0)) (blkOk_by (N := ["items", "many", "most", "item"]) (sc := defScope s_are_numbers) (by decide +kernel)) (fun _ _ _ _ _ => (pg_name (i := 3) sc_are_numbers.nd rfl (by first | exact Or.inl rfl | exact Or.inr rfl))) (fun _ _ _ _ _ => pts_nil) (fun _ _ _ _ _ => (pe_call D_is_number.ok (hr.mono (by decide)) rfl D_is_number.mgf D_is_number.kp D_is_number.b .nil pass0 (pa_cons (pv 3) (pa_cons pe_int (pa_cons (pv 2) pa_nil)))))) pa_nil))))), ?_⟩
    refine ⟨v, rfl, v, _, _, _, _, rfl, .ty _, kn.ty, kit_ty (kit_tuple kn), _, rfl, ?_⟩
    cases ct : isA T' "tuple" with
    | false =>
      rw [numsV_no kn ct] at q
      refine iteT ?_
      exact iteT (q _ (Ex.refl _))
    | true =>
      obtain ⟨a, xs, rfl, ha⟩ := kn_tup kn ct
      obtain ⟨kx, hxl⟩ := ki a xs rfl ha
      rw [numsV_tup ha] at q
      refine iteF ?_
      refine ⟨_, rfl, a, xs, rfl, .inr (SqT.of ha), _, rfl, rfl, _, rfl, ?_⟩
      by_cases hn : (xs.length : Int) = n
      · have e4 : decide (V.int (xs.length : Int) = V.int n) = true := decide_eq_true (by rw [hn])
        rw [e4]
        rw [decide_eq_true hn, Bool.true_and] at q
        refine iteF ?_
        refine ⟨_, rfl, a, rfl, ⟨xs, SqT.of ha⟩, fun D hD => lc_tup (xs := xs) (fun i H' => Ex H H' ∧ H' D = some (.lst (((xs.take i).map (numIn 0 m)).map V.bl))) ⟨Ex.new hD, upd_same⟩ (fun i H' _ p => SqT.of (p.1 _ _ ha)) ?_ ?_⟩
        · intro i x H' hx p
          refine ⟨rfl, ?_⟩
          refine lcY ?_
          obtain ⟨Tx, kx⟩ := kx x (List.mem_of_getElem? hx)
          refine ⟨x, rfl, _, rfl, x, 0, m, Tx, rfl, kx.mono p.1, ?_⟩
          have hl : (xs.take i).length ≤ 1000 := by rw [List.length_take]; omega
          refine ⟨_, p.2, ?_, p.1.mut hD, ?_⟩
          · rw [List.length_map, List.length_map]
            exact Nat.lt_of_le_of_lt hl (by decide)
          · rw [upd_same, List.take_add_one, hx]
            simp
        · intro H' p
          rw [List.take_length] at p
          refine ⟨D, xs.map (numIn 0 m), rfl, SqL.of p.2, ?_⟩
          have ea : (xs.map (numIn 0 m)).all id = xs.all (numIn 0 m) := by rw [List.all_map]; rfl
          rw [ea]
          exact q _ p.1
      · have e4 : decide (V.int (xs.length : Int) = V.int n) = false := decide_eq_false (fun e => hn (by injection e))
        rw [e4]
        rw [decide_eq_false hn, Bool.false_and] at q
        refine iteT ?_
        exact q _ (Ex.refl _)

abbrev s_check_picture : Stmt := top 17
theorem sc_check_picture : FnScope ["picture", "width", "height", "values", "covers"] ["picture"] (defScope s_check_picture) := ⟨rfl, rfl, rfl, by decide +kernel, rfl, by decide +kernel, by decide +kernel⟩
theorem itm_ints {H : Hp} {a : Addr} {ns : List Int} (h : H a = some (.tup (ns.map V.int))) (hl : ns.length ≤ 1000) : Itm H (.ref a) := by
  refine ⟨⟨_, .tup h⟩, fun b xs e hb => ?_⟩
  cases e
  rw [h] at hb
  cases hb
  refine ⟨fun x hx => ?_, by rw [List.length_map]; exact hl⟩
  obtain ⟨n, _, rfl⟩ := List.mem_map.mp hx
  exact ⟨_, .int n⟩
theorem nums_ints {H : Hp} {a : Addr} {ns : List Int} {n m : Int} (h : H a = some (.tup (ns.map V.int))) (hl : (ns.length : Int) = n) (hb : ∀ v ∈ ns, 0 ≤ v ∧ v ≤ m) : numsV H n m (.ref a) = true := by
  rw [numsV_tup h, List.length_map, decide_eq_true hl, Bool.true_and, List.all_eq_true]
  intro x hx
  obtain ⟨v, hv, rfl⟩ := List.mem_map.mp hx
  show (decide (0 ≤ v) && decide (v ≤ m)) = true
  rw [decide_eq_true (hb v hv).1, decide_eq_true (hb v hv).2]
  rfl
def spCheck (K : PySem.W.Frag) : Sp := fun vs H Q _ => ∃ v p, vs = [v] ∧ PcV H v p ∧ p.Ok 12 ∧ ∀ H', Ex H H' → Q .non H'
theorem ok_check_picture {f : Addr} {fd : FuncData} (F : Fun K "check_picture" "check_picture" s_check_picture f fd) (T : Txt K mg) (D_is_number : Def P w K mg base CX0 "is_number" 2 ["value", "least", "most"] spNumber) (D_are_numbers : Def P w K mg base CX0 "_are_numbers" 3 ["items", "many", "most"] spNums) : FnOk P w K mg base CX0 4 f fd ["picture"] (spCheck K) := by
  refine F.ok sc_check_picture (fun vs H Q E h => ?_) (fun cdv A outer s H vs Q E hr h => ?_)
  · obtain ⟨v, p, rfl, _⟩ := h
    rfl
  · obtain ⟨v, p, rfl, ⟨a, va, ca, rfl, hp, hva, hca⟩, k, q⟩ := h
    refine ⟨_, (pss_cons (ps_if (PW.pt (pw_or (pt_not (pt_val (pe_callB (kisi K) (by rfl) T.isinstance_ bt_isinstance (pa_cons (pv 0) (pa_cons (pe_bltn (v := .ty "tuple") (by rfl) T.tuple_ bt_tuple rfl) pa_nil))))) (pw_or1 (pt_cmpR op_ne (pe_callB (klen K) (by rfl) T.len_ PySem.boot_len (pa_cons (pv 0) pa_nil)) pe_int (nomark _)))))
        (pss_one ps_never)
        pss_nil)
      (pss_cons (ps_asg (pv 0) (kpgT K (n := 4) rfl (pgs_cons (pg_name (i := 1) sc_check_picture.nd rfl (by first | exact Or.inl rfl | exact Or.inr rfl)) (pgs_cons (pg_name (i := 2) sc_check_picture.nd rfl (by first | exact Or.inl rfl | exact Or.inr rfl)) (pgs_cons (pg_name (i := 3) sc_check_picture.nd rfl (by first | exact Or.inl rfl | exact Or.inr rfl)) (pgs_cons (pg_name (i := 4) sc_check_picture.nd rfl (by first | exact Or.inl rfl | exact Or.inr rfl)) pgs_nil))))))
      (pss_cons (ps_if (pt_not (pt_val (pe_call D_is_number.ok (hr.mono (by decide)) rfl D_is_number.mgf D_is_number.kp D_is_number.b .nil pass0 (pa_cons (pv 1) (pa_cons pe_int (pa_cons (pe_glob (v := .int 12) rfl T.PICTURE_SIDE_MOST_.choose_spec ⟨_, rfl⟩) pa_nil))))))
        (pss_one ps_never)
        pss_nil)
      (pss_cons (ps_if (pt_not (pt_val (pe_call D_is_number.ok (hr.mono (by decide)) rfl D_is_number.mgf D_is_number.kp D_is_number.b .nil pass0 (pa_cons (pv 2) (pa_cons pe_int (pa_cons (pe_glob (v := .int 12) rfl T.PICTURE_SIDE_MOST_.choose_spec ⟨_, rfl⟩) pa_nil))))))
        (pss_one ps_never)
        pss_nil)
      (pss_cons (ps_if (pt_not (pt_val (pe_call D_are_numbers.ok (hr.mono (by decide)) rfl D_are_numbers.mgf D_are_numbers.kp D_are_numbers.b .nil pass0 (pa_cons (pv 3) (pa_cons (pe_op op_mul (pv 1) (pv 2)) (pa_cons (pe_glob (v := .int 255) rfl T.VALUE_MOST_.choose_spec ⟨_, rfl⟩) pa_nil))))))
        (pss_one ps_never)
        pss_nil)
      (pss_one (ps_if (pt_not (pt_val (pe_call D_are_numbers.ok (hr.mono (by decide)) rfl D_are_numbers.mgf D_are_numbers.kp D_are_numbers.b .nil pass0 (pa_cons (pv 4) (pa_cons (pe_op op_mul (pv 1) (pv 2)) (pa_cons (pe_glob (v := .int 256) rfl T.COVER_MOST_.choose_spec ⟨_, rfl⟩) pa_nil))))))
        (pss_one ps_never)
        pss_nil))))))), ?_⟩
    have kn := Kn.tup hp
    have := k.area
    have e0 : numIn 1 12 (.int p.w) = true := by
      show (decide (1 ≤ p.w) && decide (p.w ≤ 12)) = true
      rw [decide_eq_true k.w1, decide_eq_true k.w2]
      rfl
    have e1 : numIn 1 12 (.int p.h) = true := by
      show (decide (1 ≤ p.h) && decide (p.h ≤ 12)) = true
      rw [decide_eq_true k.h1, decide_eq_true k.h2]
      rfl
    refine ⟨_, rfl, _, _, _, _, _, rfl, .ty _, kn.ty, kit_ty (kit_tuple kn), _, rfl, ?_⟩
    refine iteF ?_
    refine ⟨_, rfl, a, _, rfl, .inr (SqT.of hp), rfl, _, rfl, ?_⟩
    refine iteF ?_
    refine ⟨_, rfl, a, _, rfl, SqT.of hp, rfl, _, _, rfl, _, _, rfl, _, _, rfl, _, _, rfl, rfl, ?_⟩
    refine ⟨_, rfl, _, _, _, _, rfl, .int _, _, rfl, ?_⟩
    rw [e0]
    refine iteF ?_
    refine ⟨_, rfl, _, _, _, _, rfl, .int _, _, rfl, ?_⟩
    rw [e1]
    refine iteF ?_
    refine ⟨_, rfl, _, rfl, _, rfl, _, _, rfl, rfl, .inl ⟨by have := k.w1; omega, by have := k.w2; omega⟩, _, _, _, rfl, itm_ints hva (by have := k.vl; omega), fun H1 x1 => ⟨_, rfl, ?_⟩⟩
    rw [nums_ints hva k.vl k.vb]
    refine iteF ?_
    refine ⟨_, rfl, _, rfl, _, rfl, _, _, rfl, rfl, .inl ⟨by have := k.w1; omega, by have := k.w2; omega⟩, _, _, _, rfl, itm_ints (x1 _ _ hca) (by have := k.cl; omega), fun H2 x2 => ⟨_, rfl, ?_⟩⟩
    rw [nums_ints (x1 _ _ hca) k.cl k.cb]
    refine iteF ?_
    exact q _ (x1.trans x2)

abbrev s_has_form_paints : Stmt := top 35
theorem sc_has_form_paints : FnScope ["paint", "value", "first", "second", "size", "are_values"] ["paint"] (defScope s_has_form_paints) := ⟨rfl, rfl, rfl, by decide +kernel, rfl, by decide +kernel, by decide +kernel⟩
/-- the items of a paint's tuple, whatever stands there as its picture -/
def formB : List V → Bool
  | [w, x] => if isW "solid" w then numIn 0 255 x else isW "picture" w
  | [w, a, b, c] => if isW "steps" w then (numIn 0 255 a && numIn 0 255 b) && numIn 1 12 c else false
  | _ => false
def formV (H : Hp) : V → Bool
  | .ref a => match H a with
    | some (.tup xs) => formB xs
    | _ => false
  | _ => false
theorem formV_tup {H : Hp} {a : Addr} {xs : List V} (h : H a = some (.tup xs)) : formV H (.ref a) = formB xs := by
  simp only [formV, h]
theorem formV_no {H : Hp} {v : V} {T : String} (k : Kn H v T) (h : isA T "tuple" = false) : formV H v = false := by
  cases k with
  | tup h1 => exact absurd h (by decide +kernel)
  | lst h1 => simp only [formV, h1]
  | _ => rfl
def spFormP (K : PySem.W.Frag) : Sp := fun vs H Q _ => ∃ v m, vs = [v] ∧ Deep m 1 H v ∧ Q (.bl (formV H v)) H
theorem ok_has_form_paints {f : Addr} {fd : FuncData} (F : Fun K "_has_form" "_has_form" s_has_form_paints f fd) (T : Txt K mg) (D_is_number : Def P w K mg base CX0 "is_number" 2 ["value", "least", "most"] spNumber) : FnOk P w K mg base CX0 3 f fd ["paint"] (spFormP K) := by
  refine F.ok sc_has_form_paints (fun vs H Q E h => ?_) (fun cdv A outer s H vs Q E hr h => ?_)
  · obtain ⟨v, m, rfl, _⟩ := h
    rfl
  · obtain ⟨v, m, rfl, dp, q⟩ := h
    obtain ⟨T', kn⟩ := dp.kn
    refine ⟨_, (pss_cons (ps_if (pt_not (pt_val (pe_callB (kisi K) (by rfl) T.isinstance_ bt_isinstance (pa_cons (pv 0) (pa_cons (pe_bltn (v := .ty "tuple") (by rfl) T.tuple_ bt_tuple rfl) pa_nil)))))
        (pss_one (ps_ret pe_bl))
        pss_nil)
      (pss_one (ps_match (pv 0) (pcs_seq K rfl sc_has_form_paints.nd (pms_word hr.units (pms_cap (i := 1) rfl (by first | exact Or.inl rfl | exact Or.inr rfl) pms_nil))
          (pss_one (ps_ret (pe_call D_is_number.ok (hr.mono (by decide)) rfl D_is_number.mgf D_is_number.kp D_is_number.b .nil pass0 (pa_cons (pv 1) (pa_cons pe_int (pa_cons (pe_glob (v := .int 255) rfl T.VALUE_MOST_.choose_spec ⟨_, rfl⟩) pa_nil))))))
          (pcs_seq K rfl sc_has_form_paints.nd (pms_word hr.units (pms_wild pms_nil))
          (pss_one (ps_ret pe_bl))
          (pcs_seq K rfl sc_has_form_paints.nd (pms_word hr.units (pms_cap (i := 2) rfl (by first | exact Or.inl rfl | exact Or.inr rfl) (pms_cap (i := 3) rfl (by first | exact Or.inl rfl | exact Or.inr rfl) (pms_cap (i := 4) rfl (by first | exact Or.inl rfl | exact Or.inr rfl) pms_nil))))
          (pss_cons (ps_set (i := 5) sc_has_form_paints.nd rfl (by first | exact Or.inl rfl | exact Or.inr rfl) (pe_and (pe_call D_is_number.ok (hr.mono (by decide)) rfl D_is_number.mgf D_is_number.kp D_is_number.b .nil pass0 (pa_cons (pv 2) (pa_cons pe_int (pa_cons (pe_glob (v := .int 255) rfl T.VALUE_MOST_.choose_spec ⟨_, rfl⟩) pa_nil)))) (pe_one (pe_call D_is_number.ok (hr.mono (by decide)) rfl D_is_number.mgf D_is_number.kp D_is_number.b .nil pass0 (pa_cons (pv 3) (pa_cons pe_int (pa_cons (pe_glob (v := .int 255) rfl T.VALUE_MOST_.choose_spec ⟨_, rfl⟩) pa_nil)))))))
          (pss_one (ps_ret (pe_and (pv 5) (pe_one (pe_call D_is_number.ok (hr.mono (by decide)) rfl D_is_number.mgf D_is_number.kp D_is_number.b .nil pass0 (pa_cons (pv 4) (pa_cons pe_int (pa_cons (pe_glob (v := .int 12) rfl T.STEP_MOST_.choose_spec ⟨_, rfl⟩) pa_nil)))))))))
          (pcs_else (pss_one (ps_ret pe_bl))))))))), ?_⟩
    refine ⟨v, rfl, v, _, _, _, _, rfl, .ty _, kn.ty, kit_ty (kit_tuple kn), _, rfl, ?_⟩
    cases ct : isA T' "tuple" with
    | false =>
      rw [formV_no kn ct] at q
      exact iteT q
    | true =>
      obtain ⟨a, xs, rfl, ha⟩ := kn.asTup ct
      rw [formV_tup ha] at q
      refine iteF ?_
      have px := (dp.at ha).2
      refine ⟨_, rfl, a, xs, rfl, SqT.of ha, ?_⟩
      match xs, ha, px, q with
      | [w, x], ha, px, q =>
        obtain ⟨T0, k0⟩ := px w (by simp)
        obtain ⟨T1, k1⟩ := px x (by simp)
        refine lenY rfl ?_
        refine ⟨w, _, T0, rfl, k0, ?_⟩
        cases c : isW "solid" w with
        | true =>
          refine iteT ?_
          refine ⟨x, _, rfl, rfl, ?_⟩
          refine ⟨_, rfl, x, 0, 255, T1, rfl, k1, ?_⟩
          simp only [formB, c, if_true] at q
          exact q
        | false =>
          simp only [formB, c] at q
          refine iteF ?_
          refine ⟨a, _, rfl, SqT.of ha, lenY rfl ?_⟩
          refine ⟨w, _, T0, rfl, k0, ?_⟩
          cases c2 : isW "picture" w with
          | true =>
            rw [c2] at q
            refine iteT ?_
            exact ⟨x, _, rfl, rfl, q⟩
          | false =>
            rw [c2] at q
            refine iteF ?_
            exact ⟨a, _, rfl, SqT.of ha, lenN (by show 2 ≠ 4; decide) q⟩
      | [w, x, y, z], ha, px, q =>
        obtain ⟨T0, k0⟩ := px w (by simp)
        obtain ⟨T1, k1⟩ := px x (by simp)
        obtain ⟨T2, k2⟩ := px y (by simp)
        obtain ⟨T3, k3⟩ := px z (by simp)
        refine lenN (by show 4 ≠ 2; decide) ?_
        refine ⟨a, _, rfl, SqT.of ha, lenN (by show 4 ≠ 2; decide) ?_⟩
        refine ⟨a, _, rfl, SqT.of ha, lenY rfl ?_⟩
        refine ⟨w, _, T0, rfl, k0, ?_⟩
        cases c : isW "steps" w with
        | true =>
          simp only [formB, c, if_true] at q
          refine iteT ?_
          refine ⟨x, _, rfl, y, _, rfl, z, _, rfl, rfl, ?_⟩
          refine ⟨_, rfl, x, 0, 255, T1, rfl, k1, _, rfl, ?_⟩
          cases c1 : numIn 0 255 x with
          | false =>
            rw [c1, Bool.false_and, Bool.false_and] at q
            exact iteF ⟨_, rfl, _, rfl, iteF q⟩
          | true =>
            rw [c1, Bool.true_and] at q
            refine iteT ?_
            refine ⟨_, rfl, y, 0, 255, T2, rfl, k2, ?_⟩
            cases c2 : numIn 0 255 y with
            | false =>
              rw [c2, Bool.false_and] at q
              exact ⟨_, rfl, _, rfl, iteF q⟩
            | true =>
              rw [c2, Bool.true_and] at q
              refine ⟨_, rfl, _, rfl, iteT ?_⟩
              exact ⟨_, rfl, z, 1, 12, T3, rfl, k3, q⟩
        | false =>
          simp only [formB, c] at q
          refine iteF ?_
          exact q
      | [], ha, px, q =>
        exact lenN (by simp only [List.length_cons, List.length_nil]; omega) ⟨a, _, rfl, SqT.of ha, lenN (by simp only [List.length_cons, List.length_nil]; omega) ⟨a, _, rfl, SqT.of ha, lenN (by simp only [List.length_cons, List.length_nil]; omega) q⟩⟩
      | [_], ha, px, q =>
        exact lenN (by simp only [List.length_cons, List.length_nil]; omega) ⟨a, _, rfl, SqT.of ha, lenN (by simp only [List.length_cons, List.length_nil]; omega) ⟨a, _, rfl, SqT.of ha, lenN (by simp only [List.length_cons, List.length_nil]; omega) q⟩⟩
      | [_, _, _], ha, px, q =>
        exact lenN (by simp only [List.length_cons, List.length_nil]; omega) ⟨a, _, rfl, SqT.of ha, lenN (by simp only [List.length_cons, List.length_nil]; omega) ⟨a, _, rfl, SqT.of ha, lenN (by simp only [List.length_cons, List.length_nil]; omega) q⟩⟩
      | _ :: _ :: _ :: _ :: _ :: _, ha, px, q =>
        exact lenN (by simp only [List.length_cons, List.length_nil]; omega) ⟨a, _, rfl, SqT.of ha, lenN (by simp only [List.length_cons, List.length_nil]; omega) ⟨a, _, rfl, SqT.of ha, lenN (by simp only [List.length_cons, List.length_nil]; omega) q⟩⟩

abbrev s_check_paint : Stmt := top 32
theorem sc_check_paint : FnScope ["paint"] ["paint"] (defScope s_check_paint) := ⟨rfl, rfl, rfl, by decide +kernel, rfl, by decide +kernel, by decide +kernel⟩
theorem pa_deep {H : Hp} {v : V} {p : Pa} (h : PaV H v p) : Deep 4 1 H v := by
  cases p with
  | solid x =>
    obtain ⟨a, rfl, ha⟩ := h
    refine .tup ha (by show 2 ≤ 4; omega) fun y hy => ?_
    simp only [List.mem_cons, List.not_mem_nil, or_false] at hy
    rcases hy with rfl | rfl
    · exact .str
    · exact .int
  | steps f s z =>
    obtain ⟨a, rfl, ha⟩ := h
    refine .tup ha (by show 4 ≤ 4; omega) fun y hy => ?_
    simp only [List.mem_cons, List.not_mem_nil, or_false] at hy
    rcases hy with rfl | rfl | rfl | rfl
    · exact .str
    · exact .int
    · exact .int
    · exact .int
  | pic p =>
    obtain ⟨a, u, rfl, ha, b, va, ca, rfl, hb, _⟩ := h
    refine .tup ha (by show 2 ≤ 4; omega) fun y hy => ?_
    simp only [List.mem_cons, List.not_mem_nil, or_false] at hy
    rcases hy with rfl | rfl
    · exact .str
    · exact ⟨_, .tup hb⟩
theorem pa_form {H : Hp} {v : V} {p : Pa} {m : Int} (h : PaV H v p) (k : p.Ok m) : formV H v = true := by
  have e : ∀ (lo hi i : Int), numIn lo hi (.int i) = (decide (lo ≤ i) && decide (i ≤ hi)) := fun _ _ _ => rfl
  cases p with
  | solid x =>
    obtain ⟨a, rfl, ha⟩ := h
    rw [formV_tup ha]
    show (if isW "solid" (.str "solid") = true then numIn 0 255 (.int x) else isW "picture" (.str "solid")) = true
    rw [show isW "solid" (.str "solid") = true from by decide +kernel, if_pos rfl, e, decide_eq_true k.1, decide_eq_true k.2]
    rfl
  | steps f s z =>
    obtain ⟨a, rfl, ha⟩ := h
    obtain ⟨k1, k2, k3, k4, k5, k6⟩ := k
    rw [formV_tup ha]
    show (if isW "steps" (.str "steps") = true then (numIn 0 255 (.int f) && numIn 0 255 (.int s)) && numIn 1 12 (.int z) else false) = true
    rw [show isW "steps" (.str "steps") = true from by decide +kernel, if_pos rfl, e, e, e, decide_eq_true k1, decide_eq_true k2, decide_eq_true k3, decide_eq_true k4, decide_eq_true k5, decide_eq_true k6]
    rfl
  | pic p =>
    obtain ⟨a, u, rfl, ha, hu⟩ := h
    rw [formV_tup ha]
    show (if isW "solid" (.str "picture") = true then numIn 0 255 u else isW "picture" (.str "picture")) = true
    rw [show isW "solid" (.str "picture") = false from by decide +kernel, if_neg (by decide), show isW "picture" (.str "picture") = true from by decide +kernel]
def spGoodP : Sp := fun vs H Q _ => ∃ v p, vs = [v] ∧ PaV H v p ∧ p.Ok 12 ∧ ∀ H', Ex H H' → Q .non H'
theorem ok_check_paint {f : Addr} {fd : FuncData} (F : Fun K "check_paint" "check_paint" s_check_paint f fd) (T : Txt K mg) (D_has_form_paints : Def P w K mg base CX0 "has_form_paints" 3 ["paint"] (spFormP K)) (D_check_picture : Def P w K mg base CX0 "check_picture" 4 ["picture"] (spCheck K)) : FnOk P w K mg base CX0 5 f fd ["paint"] spGoodP := by
  refine F.ok sc_check_paint (fun vs H Q E h => ?_) (fun cdv A outer s H vs Q E hr h => ?_)
  · obtain ⟨v, p, rfl, _⟩ := h
    rfl
  · obtain ⟨v, p, rfl, hp, k, q⟩ := h
    refine ⟨_, (pss_cons (ps_if (pt_not (pt_val (pe_call D_has_form_paints.ok (hr.mono (by decide)) rfl D_has_form_paints.mgf D_has_form_paints.kp D_has_form_paints.b .nil pass0 (pa_cons (pv 0) pa_nil))))
        (pss_one ps_never)
        pss_nil)
      (pss_one (ps_if (pt_cmpR op_eq (pe_ix (kixT K) (pv 0) pe_int (fun _ _ => rfl)) pe_str (nomark _))
        (pss_one (ps_expr (pe_call D_check_picture.ok (hr.mono (by decide)) rfl D_check_picture.mgf D_check_picture.kp D_check_picture.b .nil pass0 (pa_cons (pe_ix (kixT K) (pv 0) pe_int (fun _ _ => rfl)) pa_nil))))
        pss_nil))), ?_⟩
    refine ⟨_, rfl, v, 4, rfl, pa_deep hp, _, rfl, ?_⟩
    rw [pa_form hp k]
    refine iteF ?_
    cases p with
    | solid x =>
      obtain ⟨a, rfl, ha⟩ := hp
      refine ⟨_, rfl, a, _, 0, _, rfl, rfl, SqT.of ha, rfl, rfl, _, rfl, ?_⟩
      exact iteW (by decide +kernel) (q _ (Ex.refl _))
    | steps f s z =>
      obtain ⟨a, rfl, ha⟩ := hp
      refine ⟨_, rfl, a, _, 0, _, rfl, rfl, SqT.of ha, rfl, rfl, _, rfl, ?_⟩
      exact iteW (by decide +kernel) (q _ (Ex.refl _))
    | pic p =>
      obtain ⟨a, u, rfl, ha, hu⟩ := hp
      refine ⟨_, rfl, a, _, 0, _, rfl, rfl, SqT.of ha, rfl, rfl, _, rfl, ?_⟩
      refine iteE (by decide +kernel) ?_
      exact ⟨_, rfl, a, _, 1, _, rfl, rfl, SqT.of ha, rfl, u, p, rfl, hu, k, fun H' e => q H' e⟩

abbrev s_end_of : Stmt := top 47
theorem sc_end_of : FnScope ["clip"] ["clip"] (defScope s_end_of) := ⟨rfl, rfl, rfl, by decide +kernel, rfl, by decide +kernel, by decide +kernel⟩
theorem ok_end_of {f : Addr} {fd : FuncData} (F : Fun K "end_of" "end_of" s_end_of f fd) (T : Txt K mg) : FnOk P w K mg base CX0 1 f fd ["clip"] (spEnd K) := by
  refine F.ok sc_end_of (fun vs H Q E h => ?_) (fun cdv A outer s H vs Q E hr h => ?_)
  · obtain ⟨cv, c, rfl, _⟩ := h
    rfl
  · obtain ⟨cv, c, rfl, ⟨a, u, rfl, ha, hu⟩, q⟩ := h
    refine ⟨_, (pss_one (ps_ret (pe_op op_add (pe_ix (kixT K) (pv 0) pe_int (fun _ _ => rfl)) (pe_ix (kixT K) (pv 0) pe_int (fun _ _ => rfl))))), ?_⟩
    exact ⟨_, rfl, a, _, _, _, rfl, rfl, SqT.of ha, rfl, _, rfl, a, _, _, _, rfl, rfl, SqT.of ha, rfl, _, _, rfl, rfl, q⟩

abbrev s_is_name : Stmt := top 31
theorem sc_is_name : FnScope ["value", "letter"] ["value"] (defScope s_is_name) := ⟨rfl, rfl, rfl, by decide +kernel, rfl, by decide +kernel, by decide +kernel⟩
def spIsName : Sp := fun vs H Q _ => ∃ v T, vs = [v] ∧ Kn H v T ∧ (∀ z, v = .str z → z.length ≤ 1000) ∧ ∀ H', Ex H H' → Q (.bl (nameV v)) H'
theorem ok_is_name {f : Addr} {fd : FuncData} (F : Fun K "is_name" "is_name" s_is_name f fd) (T : Txt K mg) : FnOk P w K mg base CX0 1 f fd ["value"] spIsName := by
  refine F.ok sc_is_name (fun vs H Q E h => ?_) (fun cdv A outer s H vs Q E hr h => ?_)
  · obtain ⟨v, T, rfl, _⟩ := h
    rfl
  · obtain ⟨v, T', rfl, kn, hz, q⟩ := h
    refine ⟨_, (pss_cons (ps_if (PW.pt (pw_or (pt_not (pt_val (pe_callB (kisi K) (by rfl) T.isinstance_ bt_isinstance (pa_cons (pv 0) (pa_cons (pe_bltn (v := .ty "str") (by rfl) T.str_ bt_str rfl) pa_nil))))) (pw_or1 (pt_not (pt_chain op_le op_le pe_int (pe_callB call_len_str (by rfl) T.len_ PySem.boot_len (pa_cons (pv 0) pa_nil)) (pe_glob (v := .int 8) rfl T.NAME_MOST_.choose_spec ⟨_, rfl⟩))))))
        (pss_one (ps_ret pe_bl))
        pss_nil)
      (pss_one (ps_ret (pe_callB (kall K rfl) (by rfl) T.all_ bt_all (pa_cons (pe_lc (own := [("letter", 1)]) (tt := tYes) rfl sc_is_name.nd (pi_str (pv 0)) (blkOk_by (N := ["value", "letter"]) (sc := defScope s_is_name) (by decide +kernel)) (fun _ _ _ _ _ => (pg_name (i := 1) sc_is_name.nd rfl (by first | exact Or.inl rfl | exact Or.inr rfl))) (fun _ _ _ _ _ => pts_nil) (fun _ _ _ _ _ => (pe_cmpR op_in_sign (pv 1) (pe_glob (v := .str "abcdefghijklmnopqrstuvwxyz") rfl T.LETTERS_.choose_spec ⟨_, rfl⟩) (by rfl)))) pa_nil))))), ?_⟩
    refine ⟨v, rfl, v, _, _, _, _, rfl, .ty _, kn.ty, kit_ty (kit_str kn), _, rfl, ?_⟩
    cases ct : isA T' "str" with
    | false =>
      have e : nameV v = false := by
        cases kn with
        | str x => exact absurd ct (by decide +kernel)
        | _ => rfl
      rw [e] at q
      exact iteT (iteT (q _ (Ex.refl _)))
    | true =>
      obtain ⟨z, rfl⟩ : ∃ z, v = .str z := by
        cases kn with
        | str x => exact ⟨_, rfl⟩
        | non => exact absurd ct (by decide +kernel)
        | bl b => exact absurd ct (by decide +kernel)
        | int i => exact absurd ct (by decide +kernel)
        | tup h => exact absurd ct (by decide +kernel)
        | lst h => exact absurd ct (by decide +kernel)
      have hz := hz z rfl
      refine iteF ?_
      refine ⟨_, rfl, z, rfl, Nat.le_of_lt (slineL (by omega)), _, _, rfl, rfl, _, rfl, ?_⟩
      have e : nameV (.str z) = ((decide (1 ≤ (z.length : Int)) && decide ((z.length : Int) ≤ 8)) && z.cps.toList.all fun c => decide (c ∈ letters)) := rfl
      rw [e] at q
      cases c1 : decide (1 ≤ (z.length : Int)) with
      | false =>
        rw [c1] at q
        exact iteF ⟨_, rfl, iteT (q _ (Ex.refl _))⟩
      | true =>
        rw [c1, Bool.true_and] at q
        refine iteT ?_
        refine ⟨_, _, rfl, rfl, ?_⟩
        by_cases e8 : (z.length : Int) ≤ 8
        · rw [decide_eq_true e8, Bool.true_and] at q
          refine ⟨_, rfl, iteDn e8 ?_⟩
          refine ⟨_, rfl, z, rfl, fun D hD => ?_⟩
          refine lc_it (walk_str (z := z)) (fun i H' => Ex H H' ∧ H' D = some (.lst (((z.cps.toList.take i).map fun c => decide (c ∈ letters)).map V.bl))) ⟨Ex.new hD, upd_same⟩ (fun _ _ _ _ => trivial) ?_ ?_
          · rintro i x H1 H' hi ⟨e, hA⟩ ⟨rfl, c, hc, rfl⟩
            refine ⟨rfl, ?_⟩
            refine lcY ?_
            refine ⟨_, rfl, c, _, rfl, rfl, ?_⟩
            have hl : (z.cps.toList.take i).length ≤ 8 := by
              have : z.cps.toList.length = z.length := Array.length_toList
              rw [List.length_take]
              omega
            refine ⟨_, hA, slineL (by rw [List.length_map, List.length_map]; omega), e.mut hD, ?_⟩
            have hc' : z.cps.toList[i]? = some c := by rw [Array.getElem?_toList]; exact hc
            rw [upd_same, List.take_add_one, hc']
            rw [List.map_append, List.map_append]
            rfl
          · rintro H' ⟨e, hA⟩
            have len : z.cps.toList.length = z.cps.size := Array.length_toList
            rw [← len, List.take_length] at hA
            refine ⟨D, _, rfl, SqL.of hA, ?_⟩
            rw [List.all_map]
            exact q _ e
        · rw [decide_eq_false e8] at q
          exact ⟨_, rfl, iteNn e8 (q _ (Ex.refl _))⟩

abbrev s_check_clips : Stmt := top 43
theorem sc_check_clips : FnScope ["clips", "adjusts", "free", "place", "clip"] ["clips", "adjusts"] (defScope s_check_clips) := ⟨rfl, rfl, rfl, by decide +kernel, rfl, by decide +kernel, by decide +kernel⟩
def spClipsVd : Sp := fun vs H Q _ => ∃ (a : Addr) (us : List V) (cs : List Cl) (ad : Bool), vs = [.ref a, .bl ad] ∧ H a = some (.tup us) ∧ ClsV H us cs ∧ ClsVd ad cs ∧ ∀ H', Ex H H' → Q .non H'
theorem ok_check_clips {f : Addr} {fd : FuncData} (F : Fun K "check_clips" "check_clips" s_check_clips f fd) (T : Txt K mg) (D_has_form_clips : Def P w K mg base CX0 "has_form_clips" 3 ["clip"] spFormCV) (D_is_bare : Def P w K mg base CX0 "_is_bare" 1 ["clip"] spBareV)
    (D_check_paint : Def P w K mg base CX0 "check_paint" 5 ["paint"] spGoodP) (D_end_of : Def P w K mg base CX0 "end_of" 1 ["clip"] (spEnd K)) : FnOk P w K mg base CX0 6 f fd ["clips", "adjusts"] spClipsVd := by
  refine F.ok sc_check_clips (fun vs H Q E h => ?_) (fun cdv A outer s H vs Q E hr h => ?_)
  · obtain ⟨a, us, cs, ad, rfl, _⟩ := h
    rfl
  · obtain ⟨a, us, cs, ad, rfl, ha, hC, k, q⟩ := h
    have lu := hC.length
    have lc := k.len
    refine ⟨_, (pss_cons (ps_if (PW.pt (pw_or (pt_not (pt_val (pe_callB (kisi K) (by rfl) T.isinstance_ bt_isinstance (pa_cons (pv 0) (pa_cons (pe_bltn (v := .ty "tuple") (by rfl) T.tuple_ bt_tuple rfl) pa_nil))))) (pw_or1 (pt_cmpR op_gt (pe_callB (klen K) (by rfl) T.len_ PySem.boot_len (pa_cons (pv 0) pa_nil)) (pe_glob (v := .int 64) rfl T.CLIPS_MOST_.choose_spec ⟨_, rfl⟩) (nomark _)))))
        (pss_one ps_never)
        pss_nil)
      (pss_cons (ps_set (i := 2) sc_check_clips.nd rfl (by first | exact Or.inl rfl | exact Or.inr rfl) pe_int)
      (pss_one (ps_for PassesOwn.never rfl (kpiET K (by rfl) T.enumerate_ (pa_cons (pv 0) pa_nil)) (kpgT K (n := 2) rfl (pgs_cons (pg_name (i := 3) sc_check_clips.nd rfl (by first | exact Or.inl rfl | exact Or.inr rfl)) (pgs_cons (pg_name (i := 4) sc_check_clips.nd rfl (by first | exact Or.inl rfl | exact Or.inr rfl)) pgs_nil)))
        (pss_cons (ps_if (PW.pt (pw_or (pt_not (pt_val (pe_call D_has_form_clips.ok (hr.mono (by decide)) rfl D_has_form_clips.mgf D_has_form_clips.kp D_has_form_clips.b .nil pass0 (pa_cons (pv 4) pa_nil)))) (pw_or1 (PW.pt (pw_and (pt_val (pv 1)) (pw_and1 (pt_not (pt_val (pe_call D_is_bare.ok (hr.mono (by decide)) rfl D_is_bare.mgf D_is_bare.kp D_is_bare.b .nil pass0 (pa_cons (pv 4) pa_nil))))))))))
          (pss_one ps_never)
          pss_nil)
        (pss_cut (ps_if (pt_not (pt_val (pv 1)))
          (pss_one (ps_expr (pe_call D_check_paint.ok (hr.mono (by decide)) rfl D_check_paint.mgf D_check_paint.kp D_check_paint.b .nil pass0 (pa_cons (pe_ix (kixT K) (pv 4) pe_int (fun _ _ => rfl)) pa_nil))))
          pss_nil)
        (pss_cons (ps_if (pt_cmpR op_lt (pe_ix (kixT K) (pv 4) pe_int (fun _ _ => rfl)) (pv 2) (nomark _))
          (pss_one ps_never)
          pss_nil)
        (pss_one (ps_set (i := 2) sc_check_clips.nd rfl (by first | exact Or.inl rfl | exact Or.inr rfl) (pe_call D_end_of.ok (hr.mono (by decide)) rfl D_end_of.mgf D_end_of.kp D_end_of.b .nil pass0 (pa_cons (pv 4) pa_nil))))))))))), ?_⟩
    refine ⟨_, rfl, _, _, _, _, _, rfl, .ty _, (Kn.tup ha).ty, kit_ty (kit_tuple (Kn.tup ha)), _, rfl, ?_⟩
    refine iteF ?_
    refine ⟨_, rfl, a, us, rfl, .inr (SqT.of ha), _, _, rfl, rfl, _, rfl, ?_⟩
    rw [decide_eq_false (show ¬ (64 : Int) < us.length by omega)]
    refine iteF ?_
    refine ⟨_, rfl, a, us, rfl, SqT.of ha, ?_⟩
    refine for_ET (xs := us) (fun i σ H' => Ex H H' ∧ ∃ (lo : Int) (x y : Option V), σ = [some (.ref a), some (.bl ad), some (.int lo), x, y] ∧ ∀ c, cs[i]? = some c → lo ≤ c.s) ⟨Ex.refl _, 0, _, _, rfl, fun c hc => (k.ok c (List.mem_of_getElem? hc)).s0⟩ (fun i σ H' _ p => SqT.of (p.1 _ _ ha)) ?_ ?_
    · rintro i v σ H1 t hv ⟨e1, lo, x, y, rfl, hlo⟩ ht
      obtain ⟨c, hc, hcv⟩ := pr_get hC hv
      have hcm := List.mem_of_getElem? hc
      have f1 := Ex.new (o := .tup [.int (i : Nat), v]) ht
      have k1 : upd H1 t (.tup [.int (i : Nat), v]) t = some (.tup [.int (i : Nat), v]) := upd_same
      generalize upd H1 t (.tup [.int (i : Nat), v]) = H2 at f1 k1 ⊢
      have e2 := e1.trans f1
      have hcv := hcv.tk (TK.ex e2)
      refine ⟨t, _, rfl, SqT.of k1, rfl, _, _, rfl, _, _, rfl, rfl, ?_⟩
      refine ⟨_, rfl, v, c, rfl, hcv, k.ok c hcm, _, rfl, ?_⟩
      refine iteF ?_
      obtain ⟨ca, u, rfl, hca, hu⟩ := id hcv
      have nxt : ∀ d, cs[i + 1]? = some d → c.fin ≤ d.s := fun d hd => by
        have h1 := List.getElem?_eq_some_iff.mp hc
        have h2 := List.getElem?_eq_some_iff.mp hd
        have := List.pairwise_iff_getElem.mp k.ap i (i + 1) h1.1 h2.1 (Nat.lt_succ_self i)
        rw [h1.2, h2.2] at this
        exact this
      cases ad with
      | true =>
        obtain ⟨b1, b2, b3⟩ := (k.adj c hcm).1 rfl
        refine ⟨_, rfl, _, rfl, iteT ?_⟩
        refine ⟨_, rfl, .ref ca, c, rfl, hcv, b1, b2, b3, _, rfl, ?_⟩
        refine iteF ?_
        refine ⟨fun σ' H' => σ' = [some (.ref a), some (.bl true), some (.int lo), some (.int (i : Nat)), some (.ref ca)] ∧ Ex H2 H', ⟨_, rfl, _, rfl, iteF ⟨rfl, Ex.refl _⟩⟩, ?_⟩
        rintro σ' H3 ⟨rfl, e23⟩
        have hca3 := e23 _ _ hca
        refine ⟨_, rfl, ca, _, 0, _, rfl, rfl, SqT.of hca3, rfl, _, rfl, _, _, rfl, rfl, _, rfl, ?_⟩
        rw [decide_eq_false (show ¬ c.s < lo by have := hlo c hc; omega)]
        refine iteF ?_
        exact ⟨_, rfl, .ref ca, c, rfl, hcv.tk (TK.ex e23), e2.trans e23, c.fin, _, _, rfl, nxt⟩
      | false =>
        obtain ⟨p, hp⟩ := (k.adj c hcm).2 rfl
        have kp := (k.ok c hcm).pa
        rw [hp] at kp
        have hu' := hu
        rw [hp] at hu'
        refine ⟨_, rfl, _, rfl, iteF ?_⟩
        refine ⟨fun σ' H' => σ' = [some (.ref a), some (.bl false), some (.int lo), some (.int (i : Nat)), some (.ref ca)] ∧ Ex H2 H', ⟨_, rfl, _, rfl, iteT ⟨_, rfl, ca, _, 2, _, rfl, rfl, SqT.of hca, rfl, u, p, rfl, hu', kp, fun H' e => ⟨rfl, e⟩⟩⟩, ?_⟩
        rintro σ' H3 ⟨rfl, e23⟩
        have hca3 := e23 _ _ hca
        refine ⟨_, rfl, ca, _, 0, _, rfl, rfl, SqT.of hca3, rfl, _, rfl, _, _, rfl, rfl, _, rfl, ?_⟩
        rw [decide_eq_false (show ¬ c.s < lo by have := hlo c hc; omega)]
        refine iteF ?_
        exact ⟨_, rfl, .ref ca, c, rfl, hcv.tk (TK.ex e23), e2.trans e23, c.fin, _, _, rfl, nxt⟩
    · rintro σ H1 ⟨e1, _⟩
      exact q H1 e1

abbrev s_is_box : Stmt := top 70
theorem sc_is_box : FnScope ["value", "are_places", "item"] ["value"] (defScope s_is_box) := ⟨rfl, rfl, rfl, by decide +kernel, rfl, by decide +kernel, by decide +kernel⟩
def spBoxVd : Sp := fun vs H Q _ => ∃ (v : V) (b : Bx), vs = [v] ∧ BxV H v b ∧ b.Vd ∧ ∀ H', Ex H H' → Q (.bl true) H'
theorem ok_is_box {f : Addr} {fd : FuncData} (F : Fun K "_is_box" "_is_box" s_is_box f fd) (T : Txt K mg) (D_is_number : Def P w K mg base CX0 "is_number" 2 ["value", "least", "most"] spNumber) : FnOk P w K mg base CX0 3 f fd ["value"] spBoxVd := by
  refine F.ok sc_is_box (fun vs H Q E h => ?_) (fun cdv A outer s H vs Q E hr h => ?_)
  · obtain ⟨v, b, rfl, _⟩ := h
    rfl
  · obtain ⟨v, b, rfl, ⟨a, rfl, ha⟩, k, q⟩ := h
    refine ⟨_, (pss_cons (ps_if (PW.pt (pw_or (pt_not (pt_val (pe_callB (kisi K) (by rfl) T.isinstance_ bt_isinstance (pa_cons (pv 0) (pa_cons (pe_bltn (v := .ty "tuple") (by rfl) T.tuple_ bt_tuple rfl) pa_nil))))) (pw_or1 (pt_cmpR op_ne (pe_callB (klen K) (by rfl) T.len_ PySem.boot_len (pa_cons (pv 0) pa_nil)) pe_int (nomark _)))))
        (pss_one (ps_ret pe_bl))
        pss_nil)
      (pss_cons (ps_set (i := 1) sc_is_box.nd rfl (by first | exact Or.inl rfl | exact Or.inr rfl) (pe_callB (kall K rfl) (by rfl) T.all_ bt_all (pa_cons (pe_lc (own := [("item", 2)]) (tt := tYes) rfl sc_is_box.nd (kpiT K (pe_slice (kslA K) (pv 0) po_none (po_some pe_int))) (blkOk_by (N := ["value", "are_places", "item"]) (sc := defScope s_is_box) (by decide +kernel)) (fun _ _ _ _ _ => (pg_name (i := 2) sc_is_box.nd rfl (by first | exact Or.inl rfl | exact Or.inr rfl))) (fun _ _ _ _ _ => pts_nil) (fun _ _ _ _ _ => (pe_call D_is_number.ok (hr.mono (by decide)) rfl D_is_number.mgf D_is_number.kp D_is_number.b .nil pass0 (pa_cons (pv 2) (pa_cons (pe_un un_neg (pe_glob (v := .int 1000) rfl T.PLACE_MOST_.choose_spec ⟨_, rfl⟩)) (pa_cons (pe_glob (v := .int 1000) rfl T.PLACE_MOST_.choose_spec ⟨_, rfl⟩) pa_nil)))))) pa_nil)))
      (pss_one (ps_ret (pe_and (pv 1) (pe_one (pe_callB (kall K rfl) (by rfl) T.all_ bt_all (pa_cons (pe_lc (own := [("item", 2)]) (tt := tYes) rfl sc_is_box.nd (kpiT K (pe_slice (kslA K) (pv 0) (po_some pe_int) po_none)) (blkOk_by (N := ["value", "are_places", "item"]) (sc := defScope s_is_box) (by decide +kernel)) (fun _ _ _ _ _ => (pg_name (i := 2) sc_is_box.nd rfl (by first | exact Or.inl rfl | exact Or.inr rfl))) (fun _ _ _ _ _ => pts_nil) (fun _ _ _ _ _ => (pe_call D_is_number.ok (hr.mono (by decide)) rfl D_is_number.mgf D_is_number.kp D_is_number.b .nil pass0 (pa_cons (pv 2) (pa_cons pe_int (pa_cons (pe_glob (v := .int 64) rfl T.SIDE_MOST_.choose_spec ⟨_, rfl⟩) pa_nil)))))) pa_nil)))))))), ?_⟩
    refine ⟨_, rfl, _, _, _, _, _, rfl, .ty _, (Kn.tup ha).ty, kit_ty (kit_tuple (Kn.tup ha)), _, rfl, ?_⟩
    refine iteF ?_
    refine ⟨_, rfl, a, _, rfl, .inr (SqT.of ha), rfl, _, rfl, ?_⟩
    refine iteF ?_
    refine ⟨_, rfl, _, rfl, ?_⟩
    refine slA ha fun t1 H1 e1 ht1 => ?_
    have ht1 : H1 t1 = some (.tup ([b.l, b.t].map V.int)) := ht1
    refine ⟨t1, rfl, ⟨_, SqT.of ht1⟩, fun D hD => ?_⟩
    refine lc_tup (xs := [b.l, b.t].map V.int) (fun i H' => Ex H1 H' ∧ H' D = some (.lst ((List.replicate i true).map V.bl))) ⟨Ex.new hD, upd_same⟩ (fun i H' _ p => SqT.of (p.1 _ _ ht1)) ?_ ?_
    · rintro i uv H' hu ⟨e, hW⟩
      have hi : i < 2 := (List.getElem?_eq_some_iff.mp hu).1
      rw [List.getElem?_map] at hu
      obtain ⟨z, hz, rfl⟩ := Option.map_eq_some_iff.mp hu
      have bz : -1000 ≤ z ∧ z ≤ 1000 := by
        have := List.mem_of_getElem? hz
        simp only [List.mem_cons, List.not_mem_nil, or_false] at this
        rcases this with rfl | rfl
        · exact ⟨k.l0, k.l1⟩
        · exact ⟨k.t0, k.t1⟩
      refine ⟨rfl, ?_⟩
      refine lcY ?_
      refine ⟨_, rfl, _, rfl, .int z, -1000, 1000, _, rfl, .int z, ?_⟩
      rw [num_in bz.1 bz.2]
      refine ⟨_, hW, slineL (by simp only [List.length_map, List.length_replicate]; omega), e.mut hD, ?_⟩
      rw [upd_same, List.replicate_succ', List.map_append]
      rfl
    rintro H2 ⟨e2, hW⟩
    refine ⟨D, _, rfl, SqL.of hW, ?_⟩
    refine ⟨_, rfl, _, rfl, ?_⟩
    refine iteT ?_
    have e12 := e1.trans e2
    refine ⟨_, rfl, _, rfl, ?_⟩
    refine slA (e12 _ _ ha) fun t3 H3 e3 ht3 => ?_
    have ht3 : H3 t3 = some (.tup ([b.w, b.h].map V.int)) := ht3
    refine ⟨t3, rfl, ⟨_, SqT.of ht3⟩, fun D2 hD2 => ?_⟩
    refine lc_tup (xs := [b.w, b.h].map V.int) (fun i H' => Ex H3 H' ∧ H' D2 = some (.lst ((List.replicate i true).map V.bl))) ⟨Ex.new hD2, upd_same⟩ (fun i H' _ p => SqT.of (p.1 _ _ ht3)) ?_ ?_
    · rintro i uv H' hu ⟨e, hW⟩
      have hi : i < 2 := (List.getElem?_eq_some_iff.mp hu).1
      rw [List.getElem?_map] at hu
      obtain ⟨z, hz, rfl⟩ := Option.map_eq_some_iff.mp hu
      have bz : 1 ≤ z ∧ z ≤ 64 := by
        have := List.mem_of_getElem? hz
        simp only [List.mem_cons, List.not_mem_nil, or_false] at this
        rcases this with rfl | rfl
        · exact ⟨k.w0, k.w1⟩
        · exact ⟨k.h0, k.h1⟩
      refine ⟨rfl, ?_⟩
      refine lcY ?_
      refine ⟨_, rfl, .int z, 1, 64, _, rfl, .int z, ?_⟩
      rw [num_in bz.1 bz.2]
      refine ⟨_, hW, slineL (by simp only [List.length_map, List.length_replicate]; omega), e.mut hD2, ?_⟩
      rw [upd_same, List.replicate_succ', List.map_append]
      rfl
    rintro H4 ⟨e4, hW4⟩
    refine ⟨D2, _, rfl, SqL.of hW4, ?_⟩
    exact q H4 ((e12.trans e3).trans e4)

abbrev s_adjusts : Stmt := top 71
theorem sc_adjusts : FnScope ["what"] ["what"] (defScope s_adjusts) := ⟨rfl, rfl, rfl, by decide +kernel, rfl, by decide +kernel, by decide +kernel⟩
def spAdj (K : PySem.W.Frag) : Sp := fun vs H Q _ => ∃ (v : V) (x : Wh), vs = [v] ∧ WhV H v x ∧ Q (.bl x.adj) H
theorem ok_adjusts {f : Addr} {fd : FuncData} (F : Fun K "_adjusts" "_adjusts" s_adjusts f fd) (T : Txt K mg) : FnOk P w K mg base CX0 1 f fd ["what"] (spAdj K) := by
  refine F.ok sc_adjusts (fun vs H Q E h => ?_) (fun cdv A outer s H vs Q E hr h => ?_)
  · obtain ⟨v, x, rfl, _⟩ := h
    rfl
  · obtain ⟨v, x, rfl, ⟨a, rfl, ha⟩, q⟩ := h
    refine ⟨_, (pss_one (ps_ret (pe_cmpR op_ne (pe_ix (kixT K) (pv 0) pe_int (fun _ _ => rfl)) pe_str (nomark _)))), ?_⟩
    refine ⟨_, rfl, a, _, 0, _, rfl, rfl, SqT.of ha, x.at0, rfl, ?_⟩
    rw [← x.adj_eq] at q
    exact q

abbrev s_check_numbers : Stmt := top 68
theorem sc_check_numbers : FnScope ["width", "height", "frames", "background"] ["width", "height", "frames", "background"] (defScope s_check_numbers) := ⟨rfl, rfl, rfl, by decide +kernel, rfl, by decide +kernel, by decide +kernel⟩
def spNumsVd : Sp := fun vs H Q _ => ∃ (x : Fi), vs = [.int x.w, .int x.h, .int x.n, .int x.b] ∧ x.Vd ∧ Q .non H
theorem ok_check_numbers {f : Addr} {fd : FuncData} (F : Fun K "_check_numbers" "_check_numbers" s_check_numbers f fd) (T : Txt K mg) (D_is_number : Def P w K mg base CX0 "is_number" 2 ["value", "least", "most"] spNumber) : FnOk P w K mg base CX0 3 f fd ["width", "height", "frames", "background"] spNumsVd := by
  refine F.ok sc_check_numbers (fun vs H Q E h => ?_) (fun cdv A outer s H vs Q E hr h => ?_)
  · obtain ⟨x, rfl, _⟩ := h
    rfl
  · obtain ⟨x, rfl, k, q⟩ := h
    refine ⟨_, (pss_cons (ps_if (PW.pt (pw_or (pt_not (pt_val (pe_call D_is_number.ok (hr.mono (by decide)) rfl D_is_number.mgf D_is_number.kp D_is_number.b .nil pass0 (pa_cons (pv 0) (pa_cons pe_int (pa_cons (pe_glob (v := .int 64) rfl T.SIDE_MOST_.choose_spec ⟨_, rfl⟩) pa_nil)))))) (pw_or1 (pt_not (pt_val (pe_call D_is_number.ok (hr.mono (by decide)) rfl D_is_number.mgf D_is_number.kp D_is_number.b .nil pass0 (pa_cons (pv 1) (pa_cons pe_int (pa_cons (pe_glob (v := .int 64) rfl T.SIDE_MOST_.choose_spec ⟨_, rfl⟩) pa_nil)))))))))
        (pss_one ps_never)
        pss_nil)
      (pss_cons (ps_if (pt_not (pt_val (pe_call D_is_number.ok (hr.mono (by decide)) rfl D_is_number.mgf D_is_number.kp D_is_number.b .nil pass0 (pa_cons (pv 2) (pa_cons pe_int (pa_cons (pe_glob (v := .int 1000) rfl T.FRAMES_MOST_.choose_spec ⟨_, rfl⟩) pa_nil))))))
        (pss_one ps_never)
        pss_nil)
      (pss_one (ps_if (pt_not (pt_val (pe_call D_is_number.ok (hr.mono (by decide)) rfl D_is_number.mgf D_is_number.kp D_is_number.b .nil pass0 (pa_cons (pv 3) (pa_cons pe_int (pa_cons (pe_glob (v := .int 255) rfl T.VALUE_MOST_.choose_spec ⟨_, rfl⟩) pa_nil))))))
        (pss_one ps_never)
        pss_nil)))), ?_⟩
    refine ⟨_, rfl, _, 1, 64, _, rfl, .int x.w, _, rfl, ?_⟩
    rw [num_in k.w0 k.w1]
    refine iteF ?_
    refine ⟨_, rfl, _, 1, 64, _, rfl, .int x.h, _, rfl, ?_⟩
    rw [num_in k.h0 k.h1]
    refine iteF ?_
    refine ⟨_, rfl, _, 1, 1000, _, rfl, .int x.n, _, rfl, ?_⟩
    rw [num_in k.n0 k.n1]
    refine iteF ?_
    refine ⟨_, rfl, _, 0, 255, _, rfl, .int x.b, _, rfl, ?_⟩
    rw [num_in k.b0 k.b1]
    exact iteF q

abbrev s_check_layer : Stmt := top 69
theorem sc_check_layer : FnScope ["layer", "place", "name", "box", "moves", "what", "clips"] ["layer", "place"] (defScope s_check_layer) := ⟨rfl, rfl, rfl, by decide +kernel, rfl, by decide +kernel, by decide +kernel⟩
def spLayerVd (K : PySem.W.Frag) : Sp := fun vs H Q _ => ∃ (v : V) (l : La) (i : Int), vs = [v, .int i] ∧ LaV H v l ∧ l.Vd ∧ ∀ H', Ex H H' → Q .non H'
theorem ok_check_layer {f : Addr} {fd : FuncData} (F : Fun K "_check_layer" "_check_layer" s_check_layer f fd) (T : Txt K mg) (D_is_name : Def P w K mg base CX0 "is_name" 1 ["value"] spIsName) (D_is_box : Def P w K mg base CX0 "_is_box" 3 ["value"] spBoxVd) (D_check_moves : Def P w K mg base CX0 "check_moves" 5 ["moves"] spMovesV)
    (D_check_what : Def P w K mg base CX0 "check_what" 4 ["what"] spWhatV) (D_check_clips : Def P w K mg base CX0 "check_clips" 6 ["clips", "adjusts"] spClipsVd) (D_adjusts : Def P w K mg base CX0 "_adjusts" 1 ["what"] (spAdj K)) : FnOk P w K mg base CX0 7 f fd ["layer", "place"] (spLayerVd K) := by
  refine F.ok sc_check_layer (fun vs H Q E h => ?_) (fun cdv A outer s H vs Q E hr h => ?_)
  · obtain ⟨v, l, i, rfl, _⟩ := h
    rfl
  · obtain ⟨v, l, i, rfl, hv, k, q⟩ := h
    obtain ⟨a, bv, ma, wv, ca, us, ws, rfl, ha, hb, hma, hM, hw, hca, hC⟩ := id hv
    have nl : l.name.length ≤ 1000 := by
      have := k.name
      unfold nameS at this
      simp only [Bool.and_eq_true, decide_eq_true_eq] at this
      omega
    refine ⟨_, (pss_cons (ps_if (PW.pt (pw_or (pt_not (pt_val (pe_callB (kisi K) (by rfl) T.isinstance_ bt_isinstance (pa_cons (pv 0) (pa_cons (pe_bltn (v := .ty "tuple") (by rfl) T.tuple_ bt_tuple rfl) pa_nil))))) (pw_or1 (pt_cmpR op_ne (pe_callB (klen K) (by rfl) T.len_ PySem.boot_len (pa_cons (pv 0) pa_nil)) pe_int (nomark _)))))
        (pss_one ps_never)
        pss_nil)
      (pss_cons (ps_asg (pv 0) (kpgT K (n := 5) rfl (pgs_cons (pg_name (i := 2) sc_check_layer.nd rfl (by first | exact Or.inl rfl | exact Or.inr rfl)) (pgs_cons (pg_name (i := 3) sc_check_layer.nd rfl (by first | exact Or.inl rfl | exact Or.inr rfl)) (pgs_cons (pg_name (i := 4) sc_check_layer.nd rfl (by first | exact Or.inl rfl | exact Or.inr rfl)) (pgs_cons (pg_name (i := 5) sc_check_layer.nd rfl (by first | exact Or.inl rfl | exact Or.inr rfl)) (pgs_cons (pg_name (i := 6) sc_check_layer.nd rfl (by first | exact Or.inl rfl | exact Or.inr rfl)) pgs_nil)))))))
      (pss_cons (ps_if (PW.pt (pw_or (pt_not (pt_val (pe_call D_is_name.ok (hr.mono (by decide)) rfl D_is_name.mgf D_is_name.kp D_is_name.b .nil pass0 (pa_cons (pv 2) pa_nil)))) (pw_or1 (pt_not (pt_val (pe_call D_is_box.ok (hr.mono (by decide)) rfl D_is_box.mgf D_is_box.kp D_is_box.b .nil pass0 (pa_cons (pv 3) pa_nil)))))))
        (pss_one ps_never)
        pss_nil)
      (pss_cons (ps_expr (pe_call D_check_moves.ok (hr.mono (by decide)) rfl D_check_moves.mgf D_check_moves.kp D_check_moves.b .nil pass0 (pa_cons (pv 4) pa_nil)))
      (pss_cons (ps_expr (pe_call D_check_what.ok (hr.mono (by decide)) rfl D_check_what.mgf D_check_what.kp D_check_what.b .nil pass0 (pa_cons (pv 5) pa_nil)))
      (pss_one (ps_expr (pe_call D_check_clips.ok (hr.mono (by decide)) rfl D_check_clips.mgf D_check_clips.kp D_check_clips.b .nil pass0 (pa_cons (pv 6) (pa_cons (pe_call D_adjusts.ok (hr.mono (by decide)) rfl D_adjusts.mgf D_adjusts.kp D_adjusts.b .nil pass0 (pa_cons (pv 5) pa_nil)) pa_nil)))))))))), ?_⟩
    refine ⟨_, rfl, _, _, _, _, _, rfl, .ty _, (Kn.tup ha).ty, kit_ty (kit_tuple (Kn.tup ha)), _, rfl, ?_⟩
    refine iteF ?_
    refine ⟨_, rfl, a, _, rfl, .inr (SqT.of ha), rfl, _, rfl, ?_⟩
    refine iteF ?_
    refine ⟨_, rfl, a, _, rfl, SqT.of ha, rfl, _, _, rfl, _, _, rfl, _, _, rfl, _, _, rfl, _, _, rfl, rfl, ?_⟩
    refine ⟨_, rfl, .str l.name, _, rfl, .str _, fun z e => by cases e; exact nl, fun H1 e1 => ⟨_, rfl, ?_⟩⟩
    rw [show nameV (.str l.name) = true from k.name]
    refine iteF ?_
    refine ⟨_, rfl, bv, l.box, rfl, hb.tk (TK.ex e1), k.box, fun H2 e2 => ⟨_, rfl, ?_⟩⟩
    refine iteF ?_
    have e12 := e1.trans e2
    refine ⟨_, rfl, ma, us, l.ms, rfl, e12 _ _ hma, hM.tk (TK.ex e12), k.ms, fun H3 e3 => ?_⟩
    have e13 := e12.trans e3
    refine ⟨_, rfl, wv, l.wh, rfl, hw.tk (TK.ex e13), k.wh, ?_⟩
    refine ⟨_, rfl, _, rfl, wv, l.wh, rfl, hw.tk (TK.ex e13), ?_⟩
    exact ⟨ca, ws, l.cs, l.wh.adj, rfl, e13 _ _ hca, hC.tk (TK.ex e13), k.cs, fun H4 e4 => q H4 (e13.trans e4)⟩

/-- a film is made of allowed parts -/
def spFilmVd (C : Addr) : Sp := fun vs H Q _ => ∃ (s dx : Addr) (x : Fi) (L : Addr) (us : List V), vs = [.ref s, .int x.w, .int x.h, .int x.n, .int x.b, .ref L] ∧ H s = some (.ins C dx []) ∧ H L = some (.lst us) ∧ Paired (LaV H) us x.ls ∧ x.Vd ∧
  ∀ H' dx' L', H L' = none → (∀ b o, H b = some o → b ≠ s → H' b = some o) → H' s = some (.ins C dx' (filmF x L')) → H' L' = some (.lst us) → Q .non H'
def spGetI (C : Addr) (g : Fi → Int) : Sp := fun vs H Q _ => ∃ (v : V) (x : Fi), vs = [v] ∧ FlV C H v x ∧ Q (.int (g x)) H
/-- the layers, in a new list -/
def spGetL (C : Addr) : Sp := fun vs H Q _ => ∃ (v : V) (x : Fi), vs = [v] ∧ FlV C H v x ∧ x.ls.length ≤ 1000 ∧ ∀ p us H', H p = none → Ex H H' → H' p = some (.lst us) → Paired (LaV H') us x.ls → Q (.ref p) H'

abbrev s_Film_width : Stmt := (inClass (top 65) 1)
theorem sc_Film_width : FnScope ["self"] ["self"] (defScope s_Film_width) := ⟨rfl, rfl, rfl, by decide +kernel, rfl, by decide +kernel, by decide +kernel⟩
theorem ok_Film_width {f C : Addr} {fd : FuncData} (F : Fun K "width" "Film.width" s_Film_width f fd) (T : Txt K mg) (OT_Film : FilmT K C) : FnOk P w K mg base CX0 1 f fd ["self"] (spGetI C Fi.w) := by
  refine F.ok sc_Film_width (fun vs H Q E h => ?_) (fun cdv A outer s H vs Q E hr h => ?_)
  · obtain ⟨v, x, rfl, _⟩ := h
    rfl
  · obtain ⟨v, x, rfl, ⟨a, dx, L, us, rfl, ha, hL, hP⟩, q⟩ := h
    refine ⟨_, (pss_one (ps_ret (pe_fld (pv 0) rfl))), ?_⟩
    exact ⟨_, rfl, a, C, dx, _, _, rfl, ha, OT_Film.cl, OT_Film.nW, film_w x L, q⟩

abbrev s_Film_height : Stmt := (inClass (top 65) 2)
theorem sc_Film_height : FnScope ["self"] ["self"] (defScope s_Film_height) := ⟨rfl, rfl, rfl, by decide +kernel, rfl, by decide +kernel, by decide +kernel⟩
theorem ok_Film_height {f C : Addr} {fd : FuncData} (F : Fun K "height" "Film.height" s_Film_height f fd) (T : Txt K mg) (OT_Film : FilmT K C) : FnOk P w K mg base CX0 1 f fd ["self"] (spGetI C Fi.h) := by
  refine F.ok sc_Film_height (fun vs H Q E h => ?_) (fun cdv A outer s H vs Q E hr h => ?_)
  · obtain ⟨v, x, rfl, _⟩ := h
    rfl
  · obtain ⟨v, x, rfl, ⟨a, dx, L, us, rfl, ha, hL, hP⟩, q⟩ := h
    refine ⟨_, (pss_one (ps_ret (pe_fld (pv 0) rfl))), ?_⟩
    exact ⟨_, rfl, a, C, dx, _, _, rfl, ha, OT_Film.cl, OT_Film.nH, film_h x L, q⟩

abbrev s_Film_frames : Stmt := (inClass (top 65) 3)
theorem sc_Film_frames : FnScope ["self"] ["self"] (defScope s_Film_frames) := ⟨rfl, rfl, rfl, by decide +kernel, rfl, by decide +kernel, by decide +kernel⟩
theorem ok_Film_frames {f C : Addr} {fd : FuncData} (F : Fun K "frames" "Film.frames" s_Film_frames f fd) (T : Txt K mg) (OT_Film : FilmT K C) : FnOk P w K mg base CX0 1 f fd ["self"] (spGetI C Fi.n) := by
  refine F.ok sc_Film_frames (fun vs H Q E h => ?_) (fun cdv A outer s H vs Q E hr h => ?_)
  · obtain ⟨v, x, rfl, _⟩ := h
    rfl
  · obtain ⟨v, x, rfl, ⟨a, dx, L, us, rfl, ha, hL, hP⟩, q⟩ := h
    refine ⟨_, (pss_one (ps_ret (pe_fld (pv 0) rfl))), ?_⟩
    exact ⟨_, rfl, a, C, dx, _, _, rfl, ha, OT_Film.cl, OT_Film.nN, film_n x L, q⟩

abbrev s_Film_background : Stmt := (inClass (top 65) 4)
theorem sc_Film_background : FnScope ["self"] ["self"] (defScope s_Film_background) := ⟨rfl, rfl, rfl, by decide +kernel, rfl, by decide +kernel, by decide +kernel⟩
theorem ok_Film_background {f C : Addr} {fd : FuncData} (F : Fun K "background" "Film.background" s_Film_background f fd) (T : Txt K mg) (OT_Film : FilmT K C) : FnOk P w K mg base CX0 1 f fd ["self"] (spGetI C Fi.b) := by
  refine F.ok sc_Film_background (fun vs H Q E h => ?_) (fun cdv A outer s H vs Q E hr h => ?_)
  · obtain ⟨v, x, rfl, _⟩ := h
    rfl
  · obtain ⟨v, x, rfl, ⟨a, dx, L, us, rfl, ha, hL, hP⟩, q⟩ := h
    refine ⟨_, (pss_one (ps_ret (pe_fld (pv 0) rfl))), ?_⟩
    exact ⟨_, rfl, a, C, dx, _, _, rfl, ha, OT_Film.cl, OT_Film.nB, film_b x L, q⟩

abbrev s_Film_layers : Stmt := (inClass (top 65) 5)
theorem sc_Film_layers : FnScope ["self"] ["self"] (defScope s_Film_layers) := ⟨rfl, rfl, rfl, by decide +kernel, rfl, by decide +kernel, by decide +kernel⟩
theorem ok_Film_layers {f C : Addr} {fd : FuncData} (F : Fun K "layers" "Film.layers" s_Film_layers f fd) (T : Txt K mg) (OT_Film : FilmT K C) : FnOk P w K mg base CX0 1 f fd ["self"] (spGetL C) := by
  refine F.ok sc_Film_layers (fun vs H Q E h => ?_) (fun cdv A outer s H vs Q E hr h => ?_)
  · obtain ⟨v, x, rfl, _⟩ := h
    rfl
  · obtain ⟨v, x, rfl, ⟨a, dx, L, us, rfl, ha, hL, hP⟩, ll, q⟩ := h
    refine ⟨_, (pss_one (ps_ret (pe_callTy (klist K) (by rfl) T.list_ bt_list (pa_cons (pe_fld (pv 0) rfl) pa_nil)))), ?_⟩
    refine ⟨_, rfl, a, C, dx, _, _, rfl, ha, OT_Film.cl, OT_Film.nL, film_l x L, ?_⟩
    refine ⟨L, us, rfl, .inl (SqL.of hL), fun p hp => ?_⟩
    have f1 := Ex.new (o := .lst us) hp
    exact q p us _ hp f1 upd_same (Paired.mapP hP fun _ _ => LaV.tk (TK.ex f1))

abbrev s_Film_init : Stmt := (inClass (top 65) 0)
theorem sc_Film_init : FnScope ["self", "width", "height", "frames", "background", "layers", "place", "layer", "other"] ["self", "width", "height", "frames", "background", "layers"] (defScope s_Film_init) := ⟨rfl, rfl, rfl, by decide +kernel, rfl, by decide +kernel, by decide +kernel⟩
theorem flat_strs (ns : List Str) : (ns.map V.str).all flatV = true := by
  rw [List.all_map, List.all_eq_true]
  exact fun _ _ => rfl
theorem in_strs_no {n : Str} {ns : List Str} (h : n ∉ ns) : inV (.str n) (ns.map V.str) = false := by
  unfold inV
  rw [List.any_map, List.any_eq_false]
  intro y hy
  show ¬ (y == n) = true
  rw [beq_iff_eq]
  exact fun e => h (e ▸ hy)
theorem put_le {f : Str} {v : V} : ∀ {fs : List (Str × V)} {n : Nat}, fs.length ≤ n → (putF f v fs).length ≤ n + 1
  | [], n, _ => by show 1 ≤ n + 1; omega
  | (g, u) :: r, n, h => by
    show (if g = f then (g, v) :: r else (g, u) :: putF f v r).length ≤ n + 1
    rw [List.length_cons] at h
    split
    · rw [List.length_cons]
      omega
    · rw [List.length_cons]
      have := put_le (f := f) (v := v) (fs := r) (n := n - 1) (by omega)
      omega
theorem ok_Film_init {f C : Addr} {fd : FuncData} (F : Fun K "__init__" "Film.__init__" s_Film_init f fd) (T : Txt K mg) (OT_Film : FilmT K C) (D_check_numbers : Def P w K mg base CX0 "_check_numbers" 3 ["width", "height", "frames", "background"] spNumsVd)
    (D_check_layer : Def P w K mg base CX0 "_check_layer" 7 ["layer", "place"] (spLayerVd K)) : FnOk P w K mg base CX0 8 f fd ["self", "width", "height", "frames", "background", "layers"] (spFilmVd C) := by
  refine F.ok sc_Film_init (fun vs H Q E h => ?_) (fun cdv A outer s H vs Q E hr h => ?_)
  · obtain ⟨s, dx, x, L, us, rfl, _⟩ := h
    rfl
  · obtain ⟨sa, dx, x, L, us, rfl, hs, hL, hP, k, q⟩ := h
    have lu := hP.length
    have ll := k.len
    refine ⟨_, (pss_cons (ps_expr (pe_call D_check_numbers.ok (hr.mono (by decide)) rfl D_check_numbers.mgf D_check_numbers.kp D_check_numbers.b .nil pass0 (pa_cons (pv 1) (pa_cons (pv 2) (pa_cons (pv 3) (pa_cons (pv 4) pa_nil))))))
      (pss_cons (ps_if (pt_cmpR op_gt (pe_callB (klen K) (by rfl) T.len_ PySem.boot_len (pa_cons (pv 5) pa_nil)) (pe_glob (v := .int 16) rfl T.LAYERS_MOST_.choose_spec ⟨_, rfl⟩) (nomark _))
        (pss_one ps_never)
        pss_nil)
      (pss_cons (ps_for PassesOwn.never rfl (kpiE K (by rfl) T.enumerate_ (pa_cons (pv 5) pa_nil)) (kpgT K (n := 2) rfl (pgs_cons (pg_name (i := 6) sc_Film_init.nd rfl (by first | exact Or.inl rfl | exact Or.inr rfl)) (pgs_cons (pg_name (i := 7) sc_Film_init.nd rfl (by first | exact Or.inl rfl | exact Or.inr rfl)) pgs_nil)))
        (pss_cons (ps_expr (pe_call D_check_layer.ok (hr.mono (by decide)) rfl D_check_layer.mgf D_check_layer.kp D_check_layer.b .nil pass0 (pa_cons (pv 7) (pa_cons (pv 6) pa_nil))))
        (pss_one (ps_if (pt_cmpR (kin K) (pe_ix (kixT K) (pv 7) pe_int (fun _ _ => rfl)) (pe_lc (own := [("other", 8)]) (tt := tYes) rfl sc_Film_init.nd (kpiL K (pe_slice (kslL K) (pv 5) po_none (po_some (pv 6)))) (blkOk_by (N := ["self", "width", "height", "frames", "background", "layers", "place", "layer", "other"]) (sc := defScope s_Film_init) (by decide +kernel)) (fun _ _ _ _ _ => (pg_name (i := 8) sc_Film_init.nd rfl (by first | exact Or.inl rfl | exact Or.inr rfl))) (fun _ _ _ _ _ => pts_nil) (fun _ _ _ _ _ => (pe_ix (kixT K) (pv 8) pe_int (fun _ _ => rfl)))) (by rfl))
          (pss_one ps_never)
          pss_nil))))
      (pss_cons (ps_fld (pv 0) (pv 1) rfl)
      (pss_cons (ps_fld (pv 0) (pv 2) rfl)
      (pss_cons (ps_fld (pv 0) (pv 3) rfl)
      (pss_cons (ps_fld (pv 0) (pv 4) rfl)
      (pss_one (ps_fld (pv 0) (pe_callTy (klist K) (by rfl) T.list_ bt_list (pa_cons (pv 5) pa_nil)) rfl))))))))), ?_⟩
    refine ⟨_, rfl, _, rfl, _, rfl, _, rfl, x, rfl, k, ?_⟩
    refine ⟨_, rfl, L, us, rfl, .inl (SqL.of hL), _, _, rfl, rfl, _, rfl, ?_⟩
    rw [decide_eq_false (show ¬ (16 : Int) < us.length by omega)]
    refine iteF ?_
    refine ⟨_, rfl, L, us, rfl, SqL.of hL, ?_⟩
    refine for_it (walk_enum (xs := us)) (fun i σ H' => Ex H H' ∧ ∃ (x6 x7 : Option V), σ = [some (.ref sa), some (.int x.w), some (.int x.h), some (.int x.n), some (.int x.b), some (.ref L), x6, x7, none]) ⟨Ex.refl _, _, _, rfl⟩ (fun i σ H' _ p => SqL.of (p.1 _ _ hL)) ?_ ?_
    · rintro i v σ H1 H' hi ⟨e1, x6, x7, rfl⟩ ⟨t, xi, u, rfl, ht, rfl, hx, hu⟩
      cases hx
      have hu : us[i]? = some u := hu
      have f1 := Ex.new (o := .tup [.int (i : Nat), u]) ht
      have k1 : upd H1 t (.tup [.int (i : Nat), u]) t = some (.tup [.int (i : Nat), u]) := upd_same
      generalize upd H1 t (.tup [.int (i : Nat), u]) = H2 at f1 k1 ⊢
      have e2 := e1.trans f1
      obtain ⟨l, hl, hlv⟩ := pr_get hP hu
      have hlm := List.mem_of_getElem? hl
      refine ⟨t, _, rfl, SqT.of k1, rfl, _, _, rfl, _, _, rfl, rfl, ?_⟩
      refine ⟨_, rfl, _, rfl, u, l, (i : Nat), rfl, hlv.tk (TK.ex e2), k.ok l hlm, fun H3 e3 => ?_⟩
      have e13 := e2.trans e3
      have hlv3 := hlv.tk (TK.ex e13)
      obtain ⟨la, bv, ma, wv, ca, ms, ws, rfl, hla, _⟩ := id hlv3
      refine ⟨_, rfl, la, _, 0, _, rfl, rfl, SqT.of hla, rfl, ?_⟩
      refine ⟨_, rfl, _, rfl, _, rfl, L, us, rfl, SqL.of (e13 _ _ hL), fun p hp => ?_⟩
      have f4 := Ex.new (o := .lst (cutV us none (some (i : Int)))) hp
      have k4 : upd H3 p (.lst (cutV us none (some (i : Int)))) p = some (.lst (us.take i)) := by rw [upd_same, cutV_take (Nat.le_of_lt hi)]
      generalize upd H3 p (.lst (cutV us none (some (i : Int)))) = H4 at f4 k4 ⊢
      have e14 := e13.trans f4
      refine ⟨p, rfl, ⟨_, SqL.of k4⟩, fun D hD => ?_⟩
      refine lc_list (xs := us.take i) (fun j H' => Ex H4 H' ∧ H' D = some (.lst (((x.ls.take j).map La.name).map V.str))) ⟨Ex.new hD, upd_same⟩ (fun j H' _ p => SqL.of (p.1 _ _ k4)) ?_ ?_
      · rintro j uv H' hj ⟨e, hW⟩
        have hji : j < i := by
          have := (List.getElem?_eq_some_iff.mp hj).1
          rw [List.length_take] at this
          omega
        rw [List.getElem?_take_of_lt hji] at hj
        obtain ⟨z, hz, hzv⟩ := pr_get hP hj
        obtain ⟨za, _, _, _, _, _, _, rfl, hza, _⟩ := hzv.tk (TK.ex (e14.trans e))
        refine ⟨rfl, ?_⟩
        refine lcY ?_
        refine ⟨_, rfl, za, _, 0, _, rfl, rfl, SqT.of hza, rfl, ?_⟩
        refine ⟨_, hW, slineL (by simp only [List.length_map, List.length_take]; omega), e.mut hD, ?_⟩
        rw [upd_same, List.take_add_one, hz, List.map_append, List.map_append]
        rfl
      rintro H5 ⟨e5, hW⟩
      rw [show (us.take i).length = i by rw [List.length_take]; omega] at hW
      refine ⟨D, _, rfl, .inl (SqL.of hW), rfl, flat_strs _, _, rfl, ?_⟩
      have no : l.name ∉ (x.ls.take i).map La.name := fun hm => by
        obtain ⟨z, hz, ez⟩ := List.mem_map.mp hm
        obtain ⟨j, hj⟩ := List.getElem?_of_mem hz
        rw [List.getElem?_take] at hj
        split at hj
        · rename_i hji
          have h1 : (x.ls.map La.name)[j]? = some l.name := by rw [List.getElem?_map, hj]; exact congrArg some ez
          have h2 : (x.ls.map La.name)[i]? = some l.name := by rw [List.getElem?_map, hl]; rfl
          have := (List.getElem?_inj (List.getElem?_eq_some_iff.mp h1).1 k.nd).mp (h1.trans h2.symm)
          omega
        · cases hj
      rw [if_neg Bool.false_ne_true, in_strs_no no]
      refine iteF ?_
      exact ⟨(e14.trans e5), _, _, rfl⟩
    · rintro σ H1 ⟨e1, x6, x7, rfl⟩
      have hs1 := e1 _ _ hs
      have hL1 := e1 _ _ hL
      have ne : L ≠ sa := fun z => by rw [z, hs] at hL; cases hL
      refine ⟨_, rfl, _, rfl, sa, C, dx, [], rfl, hs1, OT_Film.cl, OT_Film.nW, (by show 0 < 1000; decide), ?_⟩
      refine ⟨_, rfl, _, rfl, sa, C, dx, _, rfl, upd_same, OT_Film.cl, OT_Film.nH, (by show 1 < 1000; decide), ?_⟩
      refine ⟨_, rfl, _, rfl, sa, C, dx, _, rfl, upd_same, OT_Film.cl, OT_Film.nN, Nat.lt_of_le_of_lt (put_le (put_le (Nat.zero_le 0))) (by decide), ?_⟩
      refine ⟨_, rfl, _, rfl, sa, C, dx, _, rfl, upd_same, OT_Film.cl, OT_Film.nB, Nat.lt_of_le_of_lt (put_le (put_le (put_le (Nat.zero_le 0)))) (by decide), ?_⟩
      have g1 : ∀ b, b ≠ sa → (upd (upd (upd (upd H1 sa (.ins C dx (putF "_width" (.int x.w) []))) sa (.ins C dx (putF "_height" (.int x.h) (putF "_width" (.int x.w) [])))) sa (.ins C dx (putF "_frames" (.int x.n) (putF "_height" (.int x.h) (putF "_width" (.int x.w) []))))) sa (.ins C dx (putF "_background" (.int x.b) (putF "_frames" (.int x.n) (putF "_height" (.int x.h) (putF "_width" (.int x.w) [])))))) b = H1 b := fun b hb => by
        rw [upd_ne hb, upd_ne hb, upd_ne hb, upd_ne hb]
      have g2 : (upd (upd (upd (upd H1 sa (.ins C dx (putF "_width" (.int x.w) []))) sa (.ins C dx (putF "_height" (.int x.h) (putF "_width" (.int x.w) [])))) sa (.ins C dx (putF "_frames" (.int x.n) (putF "_height" (.int x.h) (putF "_width" (.int x.w) []))))) sa (.ins C dx (putF "_background" (.int x.b) (putF "_frames" (.int x.n) (putF "_height" (.int x.h) (putF "_width" (.int x.w) [])))))) sa = some (.ins C dx (putF "_background" (.int x.b) (putF "_frames" (.int x.n) (putF "_height" (.int x.h) (putF "_width" (.int x.w) []))))) := upd_same
      generalize upd (upd (upd (upd H1 sa (.ins C dx (putF "_width" (.int x.w) []))) sa (.ins C dx (putF "_height" (.int x.h) (putF "_width" (.int x.w) [])))) sa (.ins C dx (putF "_frames" (.int x.n) (putF "_height" (.int x.h) (putF "_width" (.int x.w) []))))) sa (.ins C dx (putF "_background" (.int x.b) (putF "_frames" (.int x.n) (putF "_height" (.int x.h) (putF "_width" (.int x.w) []))))) = G at g1 g2 ⊢
      refine ⟨_, rfl, L, us, rfl, .inl (SqL.of ((g1 L ne).trans hL1)), fun l hl => ?_⟩
      have nl : l ≠ sa := fun z => by rw [z, g2] at hl; cases hl
      refine ⟨_, rfl, sa, C, dx, _, rfl, (by rw [upd_ne (Ne.symm nl)]; exact g2), OT_Film.cl, OT_Film.nL, Nat.lt_of_le_of_lt (put_le (put_le (put_le (put_le (Nat.zero_le 0))))) (by decide), ?_⟩
      rw [film_put]
      refine q _ dx l ?_ (fun b o hb nb => ?_) upd_same (by rw [upd_ne nl, upd_same])
      · exact ex_free e1 ((g1 l nl).symm.trans hl)
      · have nbl : b ≠ l := fun z => by
          have h1 := e1 _ _ hb
          rw [z, (g1 l nl).symm.trans hl] at h1
          cases h1
        rw [upd_ne nb, upd_ne nbl, g1 b nb]
        exact e1 _ _ hb

abbrev s_between : Stmt := top 59
theorem sc_between : FnScope ["first", "second", "frame", "start", "across", "down", "gone", "span"] ["first", "second", "frame"] (defScope s_between) := ⟨rfl, rfl, rfl, by decide +kernel, rfl, by decide +kernel, by decide +kernel⟩
def spBtw (K : PySem.W.Frag) : Sp := fun vs H Q _ => ∃ u v x y f, vs = [u, v, .int f] ∧ MvV H u x ∧ MvV H v y ∧ x.Ok ∧ y.Ok ∧ x.f ≤ f ∧ f < y.f ∧ ∀ r H', Ex H H' → PtV H' r (btw x y f) → Q r H'
theorem ok_between {f : Addr} {fd : FuncData} (F : Fun K "_between" "_between" s_between f fd) (T : Txt K mg) : FnOk P w K mg base CX0 1 f fd ["first", "second", "frame"] (spBtw K) := by
  refine F.ok sc_between (fun vs H Q E h => ?_) (fun cdv A outer s H vs Q E hr h => ?_)
  · obtain ⟨u, v, x, y, f, rfl, _⟩ := h
    rfl
  · obtain ⟨u, v, x, y, f, rfl, ⟨p, rfl, hp⟩, ⟨r, rfl, hr'⟩, kx, ky, h0, h1, q⟩ := h
    have := kx.f0
    have := kx.a0
    have := kx.a1
    have := kx.d0
    have := kx.d1
    have := ky.a0
    have := ky.a1
    have := ky.d0
    have := ky.d1
    have := ky.f1
    refine ⟨_, (pss_cons (ps_asg (pv 0) (kpgT K (n := 3) rfl (pgs_cons (pg_name (i := 3) sc_between.nd rfl (by first | exact Or.inl rfl | exact Or.inr rfl)) (pgs_cons (pg_name (i := 4) sc_between.nd rfl (by first | exact Or.inl rfl | exact Or.inr rfl)) (pgs_cons (pg_name (i := 5) sc_between.nd rfl (by first | exact Or.inl rfl | exact Or.inr rfl)) pgs_nil)))))
      (pss_cons (ps_set (i := 6) sc_between.nd rfl (by first | exact Or.inl rfl | exact Or.inr rfl) (pe_op op_sub (pv 2) (pv 3)))
      (pss_cons (ps_set (i := 7) sc_between.nd rfl (by first | exact Or.inl rfl | exact Or.inr rfl) (pe_op op_sub (pe_ix (kixT K) (pv 1) pe_int (fun _ _ => rfl)) (pv 3)))
      (pss_one (ps_ret (pe_tup (pa_cons (pe_op op_add (pv 4) (pe_op op_fdiv (pe_op op_mul (pe_op op_sub (pe_ix (kixT K) (pv 1) pe_int (fun _ _ => rfl)) (pv 4)) (pv 6)) (pv 7))) (pa_cons (pe_op op_add (pv 5) (pe_op op_fdiv (pe_op op_mul (pe_op op_sub (pe_ix (kixT K) (pv 1) pe_int (fun _ _ => rfl)) (pv 5)) (pv 6)) (pv 7))) pa_nil)))))))), ?_⟩
    refine ⟨_, rfl, p, _, rfl, SqT.of hp, rfl, _, _, rfl, _, _, rfl, _, _, rfl, rfl, ?_⟩
    refine ⟨_, rfl, _, rfl, _, _, rfl, rfl, ?_⟩
    refine ⟨_, rfl, r, _, _, _, rfl, rfl, SqT.of hr', rfl, _, rfl, _, _, rfl, rfl, ?_⟩
    refine ⟨_, rfl, _, rfl, r, _, _, _, rfl, rfl, SqT.of hr', rfl, _, rfl, _, _, rfl, rfl, _, rfl, _, _, rfl, rfl, .inl ⟨by omega, by omega⟩, _, rfl, _, _, rfl, rfl, ⟨by omega, by omega⟩, _, _, rfl, rfl, ?_⟩
    refine ⟨_, rfl, _, rfl, r, _, _, _, rfl, rfl, SqT.of hr', rfl, _, rfl, _, _, rfl, rfl, _, rfl, _, _, rfl, rfl, .inl ⟨by omega, by omega⟩, _, rfl, _, _, rfl, rfl, ⟨by omega, by omega⟩, _, _, rfl, rfl, ?_⟩
    refine ⟨(by show 2 ≤ sizeLine; decide), fun l hl => ?_⟩
    exact q _ _ (Ex.new hl) ⟨l, rfl, upd_same⟩

abbrev s_offset_at : Stmt := top 56
theorem sc_offset_at : FnScope ["moves", "frame", "passed", "coming", "point"] ["moves", "frame"] (defScope s_offset_at) := ⟨rfl, rfl, rfl, by decide +kernel, rfl, by decide +kernel, by decide +kernel⟩
def spOff (K : PySem.W.Frag) : Sp := fun vs H Q _ => ∃ a us ms f, vs = [.ref a, .int f] ∧ H a = some (.tup us) ∧ MvsV H us ms ∧ Asc ms ∧ (∀ m ∈ ms, m.Ok) ∧ ms.length ≤ 100 ∧ ∀ r H', Ex H H' → PtV H' r (off ms f) → Q r H'
theorem ok_offset_at {f : Addr} {fd : FuncData} (F : Fun K "offset_at" "offset_at" s_offset_at f fd) (T : Txt K mg) (D_between : Def P w K mg base CX0 "_between" 1 ["first", "second", "frame"] (spBtw K)) : FnOk P w K mg base CX0 2 f fd ["moves", "frame"] (spOff K) := by
  refine F.ok sc_offset_at (fun vs H Q E h => ?_) (fun cdv A outer s H vs Q E hr h => ?_)
  · obtain ⟨a, us, ms, f, rfl, _⟩ := h
    rfl
  · obtain ⟨a, us, ms, f, rfl, ha, hM, hA, kM, hn, q⟩ := h
    refine ⟨_, (pss_cons (ps_setLc (i := 2)  (own := [("point", 4)]) rfl sc_offset_at.nd rfl rfl (sw_true rfl rfl rfl (by decide +kernel)) (kpiT K (pv 0)) (blkOk_by (N := ["moves", "frame", "passed", "coming", "point"]) (sc := defScope s_offset_at) (by decide +kernel)) (fun _ _ _ _ _ => (pg_name (i := 4) sc_offset_at.nd rfl (by first | exact Or.inl rfl | exact Or.inr rfl))) (fun _ _ _ _ _ => (pts_one (pt_cmpR op_le (pe_ix (kixT K) (pv 4) pe_int (fun _ _ => rfl)) (pv 1) (nomark _)))) (fun _ _ _ _ _ => (pv 4)))
      (pss_cons (ps_set (i := 3) sc_offset_at.nd rfl (by first | exact Or.inl rfl | exact Or.inr rfl) (pe_slice (kslA K) (pv 0) (po_some (pe_callB (klen K) (by rfl) T.len_ PySem.boot_len (pa_cons (pv 2) pa_nil))) po_none))
      (pss_cons (ps_if (PW.pt (pw_and (ktru K (pv 2)) (pw_and1 (ktru K (pv 3)))))
        (pss_one (ps_ret (pe_call D_between.ok (hr.mono (by decide)) rfl D_between.mgf D_between.kp D_between.b .nil pass0 (pa_cons (pe_ix (kixL K) (pv 2) (pe_un un_neg pe_int) (fun _ _ => rfl)) (pa_cons (pe_ix (kixT K) (pv 3) pe_int (fun _ _ => rfl)) (pa_cons (pv 1) pa_nil))))))
        pss_nil)
      (pss_cons (ps_if (ktru K (pv 2))
        (pss_one (ps_ret (pe_slice (kslA K) (pe_ix (kixL K) (pv 2) (pe_un un_neg pe_int) (fun _ _ => rfl)) (po_some pe_int) po_none)))
        pss_nil)
      (pss_cons (ps_if (ktru K (pv 3))
        (pss_one (ps_ret (pe_slice (kslA K) (pe_ix (kixT K) (pv 3) pe_int (fun _ _ => rfl)) (po_some pe_int) po_none)))
        pss_nil)
      (pss_one (ps_ret (pe_tup (pa_cons pe_int (pa_cons pe_int pa_nil)))))))))), ?_⟩
    obtain ⟨n1, n2, n3, n4, n5⟩ := np_split (f := f) hA
    have hul := hM.length
    refine ⟨_, rfl, a, rfl, ⟨us, SqT.of ha⟩, fun D hD => ?_⟩
    refine lc_tup (xs := us) (fun i H' => Ex H H' ∧ ∃ vs, H' D = some (.lst vs) ∧ MvsV H' vs ((ms.take i).filter fun m => decide (m.f ≤ f)) ∧ vs.length ≤ i) ⟨Ex.new hD, [], upd_same, .nil, Nat.le_refl _⟩ (fun i H' _ p => SqT.of (p.1 _ _ ha)) ?_ ?_
    · rintro i v H' hv ⟨e, vs, hV, hP, hl⟩
      obtain ⟨m, hm, p, rfl, hp⟩ := pr_get hM hv
      have hi : i < us.length := (List.getElem?_eq_some_iff.mp hv).1
      refine ⟨rfl, ?_⟩
      refine ⟨_, rfl, p, _, _, _, rfl, rfl, SqT.of (e _ _ hp), rfl, _, rfl, _, _, rfl, rfl, _, rfl, ?_⟩
      have et : (ms.take (i + 1)).filter (fun m => decide (m.f ≤ f)) = (ms.take i).filter (fun m => decide (m.f ≤ f)) ++ if decide (m.f ≤ f) = true then [m] else [] := by
        rw [List.take_add_one, hm, List.filter_append]
        show _ ++ List.filter _ [m] = _
        rw [List.filter_cons]
        rfl
      refine ite2 (fun c => ?_) (fun c => ?_)
      · rw [if_pos c] at et
        have tk : TK H' (upd H' D (.lst (vs ++ [.ref p]))) := TK.lst hV
        refine ⟨_, rfl, vs, hV, slineL (by omega), e.mut hD, vs ++ [.ref p], upd_same, ?_, by rw [List.length_append]; simp; omega⟩
        rw [et]
        exact pr_append (hP.tk tk) (.cons (MvV.tk tk ⟨p, rfl, e _ _ hp⟩) .nil)
      · rw [if_neg c, List.append_nil] at et
        exact ⟨e, vs, hV, by rw [et]; exact hP, by omega⟩
    rintro H1 ⟨e1, vs, hV, hP, hl⟩
    rw [hul, List.take_length, n4] at hP
    have hvl := hP.length
    rw [List.length_take, Nat.min_eq_left n1] at hvl
    -- coming
    refine ⟨_, rfl, _, rfl, D, vs, rfl, .inl (SqL.of hV), _, rfl, ?_⟩
    refine slA (e1 _ _ ha) fun c H2 e2 hc => ?_
    rw [cutV_drop (by omega), hvl] at hc
    have hV2 := e2 _ _ hV
    have hP2 := hP.tk (TK.ex e2)
    have hM2 := hM.tk (TK.ex (e1.trans e2))
    have hC2 : MvsV H2 (us.drop (np ms f)) (ms.drop (np ms f)) := pr_drop _ hM2
    have kA : ∀ m ∈ ms.take (np ms f), m.Ok := fun m hm => kM m (List.mem_of_mem_take hm)
    have kB : ∀ m ∈ ms.drop (np ms f), m.Ok := fun m hm => kM m (List.mem_of_mem_drop hm)
    unfold off at q
    generalize us.drop (np ms f) = cs at hc hC2
    generalize ms.drop (np ms f) = B at n3 hC2 kB q
    generalize ms.take (np ms f) = A at n2 hP2 kA q hP
    have e12 := e1.trans e2
    cases hC2 with
    | nil =>
      rcases nil_or_snoc vs with rfl | ⟨vs', v, rfl⟩
      · cases hP2
        refine ⟨_, rfl, false, .inl ⟨_, SqL.of hV2, rfl⟩, iteF ?_⟩
        refine ⟨_, rfl, false, .inl ⟨_, SqL.of hV2, rfl⟩, iteF ?_⟩
        refine ⟨_, rfl, false, .inr (.inl ⟨_, SqT.of hc, rfl⟩), iteF ?_⟩
        refine ⟨(by show 2 ≤ sizeLine; decide), fun l hl => ?_⟩
        exact q _ _ (e12.trans (Ex.new hl)) ⟨l, rfl, upd_same⟩
      · rcases nil_or_snoc A with rfl | ⟨A', x, rfl⟩
        · have := hP2.length
          simp at this
        obtain ⟨_, xp, rfl, hx⟩ := pr_split hP2
        refine ⟨_, rfl, true, .inl ⟨_, SqL.of hV2, by simp⟩, iteT ?_⟩
        refine ⟨_, rfl, false, .inr (.inl ⟨_, SqT.of hc, rfl⟩), iteF ?_⟩
        refine ⟨_, rfl, true, .inl ⟨_, SqL.of hV2, by simp⟩, iteT ?_⟩
        refine ⟨_, rfl, _, rfl, D, _, _, _, rfl, rfl, SqL.of hV2, atI_last _ _, _, rfl, ?_⟩
        refine slA hx fun r H3 e3 hr3 => ?_
        rw [List.getLast?_concat] at q
        exact q _ _ (e12.trans e3) ⟨r, rfl, hr3⟩
    | cons hy hC3 =>
      obtain ⟨yp, rfl, hy⟩ := hy
      rcases nil_or_snoc vs with rfl | ⟨vs', v, rfl⟩
      · cases hP2
        refine ⟨_, rfl, false, .inl ⟨_, SqL.of hV2, rfl⟩, iteF ?_⟩
        refine ⟨_, rfl, false, .inl ⟨_, SqL.of hV2, rfl⟩, iteF ?_⟩
        refine ⟨_, rfl, true, .inr (.inl ⟨_, SqT.of hc, rfl⟩), iteT ?_⟩
        refine ⟨_, rfl, c, _, _, _, rfl, rfl, SqT.of hc, at_head, _, rfl, ?_⟩
        refine slA hy fun r H3 e3 hr3 => ?_
        exact q _ _ (e12.trans e3) ⟨r, rfl, hr3⟩
      · rcases nil_or_snoc A with rfl | ⟨A', x, rfl⟩
        · have := hP2.length
          simp at this
        obtain ⟨_, xp, rfl, hx⟩ := pr_split hP2
        refine ⟨_, rfl, true, .inl ⟨_, SqL.of hV2, by simp⟩, iteT ?_⟩
        refine ⟨_, rfl, true, .inr (.inl ⟨_, SqT.of hc, rfl⟩), iteT ?_⟩
        refine ⟨_, rfl, _, rfl, D, _, _, _, rfl, rfl, SqL.of hV2, atI_last _ _, _, rfl, c, _, _, _, rfl, rfl, SqT.of hc, at_head, _, rfl, ?_⟩
        refine ⟨_, _, _, _, _, rfl, ⟨xp, rfl, hx⟩, ⟨yp, rfl, hy⟩, kA _ (by simp), kB _ (by simp), n2 _ (by simp), n3 _ (by simp), fun r H3 e3 hr3 => ?_⟩
        rw [List.getLast?_concat] at q
        exact q _ _ (e12.trans e3) hr3

abbrev s_corner_of : Stmt := top 72
theorem sc_corner_of : FnScope ["layer", "frame", "across", "down", "left", "top", "_"] ["layer", "frame"] (defScope s_corner_of) := ⟨rfl, rfl, rfl, by decide +kernel, rfl, by decide +kernel, by decide +kernel⟩
def La.corner (l : La) (f : Int) : Pt := (l.box.l + (off l.ms f).1, l.box.t + (off l.ms f).2)
def spCorner (K : PySem.W.Frag) : Sp := fun vs H Q _ => ∃ (v : V) (l : La) (f : Int), vs = [v, .int f] ∧ LaV H v l ∧ l.Vd ∧ ∀ r H', Ex H H' → PtV H' r (l.corner f) → Q r H'
theorem ok_corner_of {f : Addr} {fd : FuncData} (F : Fun K "_corner_of" "_corner_of" s_corner_of f fd) (T : Txt K mg) (D_offset_at : Def P w K mg base CX0 "offset_at" 2 ["moves", "frame"] (spOff K)) : FnOk P w K mg base CX0 3 f fd ["layer", "frame"] (spCorner K) := by
  refine F.ok sc_corner_of (fun vs H Q E h => ?_) (fun cdv A outer s H vs Q E hr h => ?_)
  · obtain ⟨v, l, fr, rfl, _⟩ := h
    rfl
  · obtain ⟨v, l, fr, rfl, hv, k, q⟩ := h
    obtain ⟨a, bv, ma, wv, ca, us, ws, rfl, ha, hb, hma, hM, hw, hca, hC⟩ := id hv
    refine ⟨_, (pss_cons (ps_asg (pe_call D_offset_at.ok (hr.mono (by decide)) rfl D_offset_at.mgf D_offset_at.kp D_offset_at.b .nil pass0 (pa_cons (pe_ix (kixT K) (pv 0) pe_int (fun _ _ => rfl)) (pa_cons (pv 1) pa_nil))) (kpgT K (n := 2) rfl (pgs_cons (pg_name (i := 2) sc_corner_of.nd rfl (by first | exact Or.inl rfl | exact Or.inr rfl)) (pgs_cons (pg_name (i := 3) sc_corner_of.nd rfl (by first | exact Or.inl rfl | exact Or.inr rfl)) pgs_nil))))
      (pss_cons (ps_asg (pe_ix (kixT K) (pv 0) pe_int (fun _ _ => rfl)) (kpgT K (n := 4) rfl (pgs_cons (pg_name (i := 4) sc_corner_of.nd rfl (by first | exact Or.inl rfl | exact Or.inr rfl)) (pgs_cons (pg_name (i := 5) sc_corner_of.nd rfl (by first | exact Or.inl rfl | exact Or.inr rfl)) (pgs_cons (pg_name (i := 6) sc_corner_of.nd rfl (by first | exact Or.inl rfl | exact Or.inr rfl)) (pgs_cons (pg_name (i := 6) sc_corner_of.nd rfl (by first | exact Or.inl rfl | exact Or.inr rfl)) pgs_nil))))))
      (pss_one (ps_ret (pe_tup (pa_cons (pe_op op_add (pv 4) (pv 2)) (pa_cons (pe_op op_add (pv 5) (pv 3)) pa_nil))))))), ?_⟩
    refine ⟨_, rfl, a, _, 2, _, rfl, rfl, SqT.of ha, rfl, _, rfl, ma, us, l.ms, fr, rfl, hma, hM, k.ms.asc, k.ms.mok, by have := k.ms.len; omega, fun r H1 e1 hr1 => ?_⟩
    obtain ⟨ra, rfl, hra⟩ := id hr1
    refine ⟨ra, _, rfl, SqT.of hra, rfl, _, _, rfl, _, _, rfl, rfl, ?_⟩
    obtain ⟨ba, rfl, hba⟩ := hb.tk (TK.ex e1)
    refine ⟨_, rfl, a, _, 1, _, rfl, rfl, SqT.of (e1 _ _ ha), rfl, ?_⟩
    refine ⟨ba, _, rfl, SqT.of hba, rfl, _, _, rfl, _, _, rfl, _, _, rfl, _, _, rfl, rfl, ?_⟩
    refine ⟨_, rfl, _, rfl, _, _, rfl, rfl, _, rfl, _, rfl, _, _, rfl, rfl, (by show 2 ≤ sizeLine; decide), fun t ht => ?_⟩
    have f1 := Ex.new (o := .tup [.int (l.box.l + (off l.ms fr).1), .int (l.box.t + (off l.ms fr).2)]) ht
    exact q _ _ (e1.trans f1) ⟨t, rfl, upd_same⟩

abbrev s_level_at : Stmt := top 45
theorem sc_level_at : FnScope ["clip", "frame", "start", "length", "_", "fade_in", "fade_out", "before", "behind"] ["clip", "frame"] (defScope s_level_at) := ⟨rfl, rfl, rfl, by decide +kernel, rfl, by decide +kernel, by decide +kernel⟩
/-- numbers of a clip within bounds -/
structure Cl.Num (c : Cl) : Prop where
  s0 : 0 ≤ c.s
  s1 : c.s ≤ 100000
  n1 : 1 ≤ c.n
  n2 : c.n ≤ 100000
  fi0 : 0 ≤ c.fi
  fo0 : 0 ≤ c.fo
  fs : c.fi + c.fo ≤ c.n
theorem Cl.Vd.num {c : Cl} (h : c.Vd) : c.Num := ⟨h.s0, by have := h.s1; omega, h.n1, by have := h.n2; omega, h.fi0, h.fo0, h.fs⟩
def spLevelF (K : PySem.W.Frag) : Sp := fun vs H Q _ => ∃ cv c f, vs = [cv, .int f] ∧ ClV H cv c ∧ c.Num ∧ c.s ≤ f ∧ f < c.fin ∧ Q (.int (c.lev f)) H
theorem ok_level_at {f : Addr} {fd : FuncData} (F : Fun K "level_at" "level_at" s_level_at f fd) (T : Txt K mg) : FnOk P w K mg base CX0 1 f fd ["clip", "frame"] (spLevelF K) := by
  refine F.ok sc_level_at (fun vs H Q E h => ?_) (fun cdv A outer s H vs Q E hr h => ?_)
  · obtain ⟨cv, c, f, rfl, _⟩ := h
    rfl
  · obtain ⟨cv, c, f, rfl, ⟨a, u, rfl, ha, hu⟩, k, f0, f1, q⟩ := h
    have := k.s0
    have := k.s1
    have := k.n1
    have := k.n2
    have := k.fi0
    have := k.fo0
    have := k.fs
    unfold Cl.fin at f1
    refine ⟨_, (pss_cons (ps_asg (pv 0) (kpgT K (n := 5) rfl (pgs_cons (pg_name (i := 2) sc_level_at.nd rfl (by first | exact Or.inl rfl | exact Or.inr rfl)) (pgs_cons (pg_name (i := 3) sc_level_at.nd rfl (by first | exact Or.inl rfl | exact Or.inr rfl)) (pgs_cons (pg_name (i := 4) sc_level_at.nd rfl (by first | exact Or.inl rfl | exact Or.inr rfl)) (pgs_cons (pg_name (i := 5) sc_level_at.nd rfl (by first | exact Or.inl rfl | exact Or.inr rfl)) (pgs_cons (pg_name (i := 6) sc_level_at.nd rfl (by first | exact Or.inl rfl | exact Or.inr rfl)) pgs_nil)))))))
      (pss_cons (ps_set (i := 7) sc_level_at.nd rfl (by first | exact Or.inl rfl | exact Or.inr rfl) (pe_op op_sub (pv 1) (pv 2)))
      (pss_cons (ps_set (i := 8) sc_level_at.nd rfl (by first | exact Or.inl rfl | exact Or.inr rfl) (pe_op op_sub (pe_op op_sub (pv 3) (pv 7)) pe_int))
      (pss_cons (ps_if (pt_cmpR op_lt (pv 7) (pv 5) (nomark _))
        (pss_one (ps_ret (pe_op op_fdiv (pe_op op_mul (pe_glob (v := .int 256) rfl T.LEVEL_MOST_.choose_spec ⟨_, rfl⟩) (pe_op op_add (pv 7) pe_int)) (pe_op op_add (pv 5) pe_int))))
        pss_nil)
      (pss_cons (ps_if (pt_cmpR op_lt (pv 8) (pv 6) (nomark _))
        (pss_one (ps_ret (pe_op op_fdiv (pe_op op_mul (pe_glob (v := .int 256) rfl T.LEVEL_MOST_.choose_spec ⟨_, rfl⟩) (pe_op op_add (pv 8) pe_int)) (pe_op op_add (pv 6) pe_int))))
        pss_nil)
      (pss_one (ps_ret (pe_glob (v := .int 256) rfl T.LEVEL_MOST_.choose_spec ⟨_, rfl⟩)))))))), ?_⟩
    refine ⟨_, rfl, a, _, rfl, SqT.of ha, rfl, _, _, rfl, _, _, rfl, _, _, rfl, _, _, rfl, _, _, rfl, rfl, ?_⟩
    refine ⟨_, rfl, _, rfl, _, _, rfl, rfl, ?_⟩
    refine ⟨_, rfl, _, rfl, _, _, rfl, rfl, _, _, rfl, rfl, ?_⟩
    unfold Cl.lev at q
    refine ⟨_, rfl, _, rfl, _, _, rfl, rfl, _, rfl, ?_⟩
    refine ite2 (fun c1 => ?_) (fun c1 => ?_)
    · rw [if_pos (of_decide_eq_true c1)] at q
      exact ⟨_, rfl, _, _, rfl, rfl, _, _, rfl, rfl, .inl ⟨by decide, by decide⟩, _, rfl, _, _, rfl, rfl, _, _, rfl, rfl, ⟨by omega, by omega⟩, q⟩
    · rw [if_neg (fun z => c1 (decide_eq_true z))] at q
      refine ⟨_, rfl, _, rfl, _, _, rfl, rfl, _, rfl, ?_⟩
      refine ite2 (fun c2 => ?_) (fun c2 => ?_)
      · rw [if_pos (of_decide_eq_true c2)] at q
        exact ⟨_, rfl, _, _, rfl, rfl, _, _, rfl, rfl, .inl ⟨by decide, by decide⟩, _, rfl, _, _, rfl, rfl, _, _, rfl, rfl, ⟨by omega, by omega⟩, q⟩
      · rw [if_neg (fun z => c2 (decide_eq_true z))] at q
        exact q

abbrev s_clip_at : Stmt := top 44
theorem sc_clip_at : FnScope ["clips", "frame", "place", "clip"] ["clips", "frame"] (defScope s_clip_at) := ⟨rfl, rfl, rfl, by decide +kernel, rfl, by decide +kernel, by decide +kernel⟩
theorem ok_clip_at {f : Addr} {fd : FuncData} (F : Fun K "clip_at" "clip_at" s_clip_at f fd) (T : Txt K mg) (D_end_of : Def P w K mg base CX0 "end_of" 1 ["clip"] (spEnd K)) : FnOk P w K mg base CX0 2 f fd ["clips", "frame"] (spClipAt K) := by
  refine F.ok sc_clip_at (fun vs H Q E h => ?_) (fun cdv A outer s H vs Q E hr h => ?_)
  · obtain ⟨a, us, cs, f, rfl, _⟩ := h
    rfl
  · obtain ⟨a, us, cs, f, rfl, hU, hC, q⟩ := h
    refine ⟨_, (pss_cons (ps_for PassesOwn.never rfl (kpiET K (by rfl) T.enumerate_ (pa_cons (pv 0) pa_nil)) (kpgT K (n := 2) rfl (pgs_cons (pg_name (i := 2) sc_clip_at.nd rfl (by first | exact Or.inl rfl | exact Or.inr rfl)) (pgs_cons (pg_name (i := 3) sc_clip_at.nd rfl (by first | exact Or.inl rfl | exact Or.inr rfl)) pgs_nil)))
        (pss_one (ps_if (pt_chain op_le op_lt (pe_ix (kixT K) (pv 3) pe_int (fun _ _ => rfl)) (pv 1) (pe_call D_end_of.ok (hr.mono (by decide)) rfl D_end_of.mgf D_end_of.kp D_end_of.b .nil pass0 (pa_cons (pv 3) pa_nil)))
          (pss_one (ps_ret (pv 2)))
          pss_nil)))
      (pss_one (ps_ret pe_non))), ?_⟩
    have hul := hC.length
    refine ⟨_, rfl, a, us, rfl, SqT.of hU, ?_⟩
    refine for_ET (xs := us) (fun i σ H' => Ex H H' ∧ (∃ x y, σ = [some (.ref a), some (.int f), x, y]) ∧ ∀ j < i, ∀ d, cs[j]? = some d → ¬ d.here f) ⟨Ex.refl _, ⟨_, _, rfl⟩, fun j hj => absurd hj (Nat.not_lt_zero _)⟩ (fun i σ H' _ p => SqT.of (p.1 _ _ hU)) ?_ ?_
    · rintro i v σ H1 t hv ⟨e1, ⟨x, y, rfl⟩, hno⟩ ht
      obtain ⟨c, hc, hcv⟩ := pr_get hC hv
      have f1 := Ex.new (o := .tup [.int (i : Nat), v]) ht
      have k1 : upd H1 t (.tup [.int (i : Nat), v]) t = some (.tup [.int (i : Nat), v]) := upd_same
      generalize upd H1 t (.tup [.int (i : Nat), v]) = H2 at f1 k1 ⊢
      have e2 := e1.trans f1
      have hcv := hcv.tk (TK.ex e2)
      obtain ⟨ca, u, rfl, hca, hu⟩ := id hcv
      refine ⟨t, _, rfl, SqT.of k1, rfl, _, _, rfl, _, _, rfl, rfl, ?_⟩
      refine ⟨_, rfl, ca, _, _, _, rfl, rfl, SqT.of hca, rfl, _, rfl, _, _, rfl, rfl, _, rfl, ?_⟩
      have next : ¬ c.here f → Ex H H2 ∧ (∃ x y, [some (V.ref a), some (.int f), some (.int (i : Nat)), some (.ref ca)] = [some (.ref a), some (.int f), x, y]) ∧ ∀ j < i + 1, ∀ d, cs[j]? = some d → ¬ d.here f := fun no =>
        ⟨e2, ⟨_, _, rfl⟩, fun j hj d hd => by
          by_cases e : j = i
          · subst e
            rw [hc] at hd
            cases hd
            exact no
          · exact hno j (by omega) d hd⟩
      refine ite2 (fun c1 => ?_) (fun c1 => ⟨_, rfl, iteF (next fun z => c1 (decide_eq_true z.1))⟩)
      have c1 := of_decide_eq_true c1
      refine ⟨_, rfl, _, c, rfl, hcv, _, _, rfl, rfl, _, rfl, ?_⟩
      refine ite2 (fun c2 => ?_) (fun c2 => next fun z => c2 (decide_eq_true z.2))
      have c2 := of_decide_eq_true c2
      exact ⟨_, rfl, q (some i) H2 e2 ⟨c, hc, ⟨c1, c2⟩, hno⟩⟩
    · rintro σ H1 ⟨e1, ⟨x, y, rfl⟩, hno⟩
      refine q none H1 e1 fun c hc => ?_
      obtain ⟨j, hj⟩ := List.getElem?_of_mem hc
      exact hno j (by rw [hul]; exact (List.getElem?_eq_some_iff.mp hj).1) c hj

abbrev s_lane : Stmt := top 46
theorem sc_lane : FnScope ["clips", "frame", "place", "clip"] ["clips", "frame"] (defScope s_lane) := ⟨rfl, rfl, rfl, by decide +kernel, rfl, by decide +kernel, by decide +kernel⟩
def spLaneF (K : PySem.W.Frag) : Sp := fun vs H Q _ => ∃ a us cs f, vs = [.ref a, .int f] ∧ H a = some (.tup us) ∧ ClsV H us cs ∧ (∀ c ∈ cs, c.Num) ∧ ∀ o v H', Ex H H' → First cs f o → LnV H' v cs f o → Q v H'
theorem ok_lane {f : Addr} {fd : FuncData} (F : Fun K "lane" "lane" s_lane f fd) (T : Txt K mg) (D_clip_at : Def P w K mg base CX0 "clip_at" 2 ["clips", "frame"] (spClipAt K)) (D_level_at : Def P w K mg base CX0 "level_at" 1 ["clip", "frame"] (spLevelF K)) : FnOk P w K mg base CX0 3 f fd ["clips", "frame"] (spLaneF K) := by
  refine F.ok sc_lane (fun vs H Q E h => ?_) (fun cdv A outer s H vs Q E hr h => ?_)
  · obtain ⟨a, us, cs, f, rfl, _⟩ := h
    rfl
  · obtain ⟨a, us, cs, f, rfl, hU, hC, kC, q⟩ := h
    refine ⟨_, (pss_cons (ps_set (i := 2) sc_lane.nd rfl (by first | exact Or.inl rfl | exact Or.inr rfl) (pe_call D_clip_at.ok (hr.mono (by decide)) rfl D_clip_at.mgf D_clip_at.kp D_clip_at.b .nil pass0 (pa_cons (pv 0) (pa_cons (pv 1) pa_nil))))
      (pss_cons (ps_if (pt_cmpR op_isN (pv 2) pe_non (nomark _))
        (pss_one (ps_ret pe_non))
        pss_nil)
      (pss_cons (ps_set (i := 3) sc_lane.nd rfl (by first | exact Or.inl rfl | exact Or.inr rfl) (pe_ix (kixT K) (pv 0) (pv 2) (fun _ _ => rfl)))
      (pss_one (ps_ret (pe_tup (pa_cons (pe_ix (kixT K) (pv 3) pe_int (fun _ _ => rfl)) (pa_cons (pe_call D_level_at.ok (hr.mono (by decide)) rfl D_level_at.mgf D_level_at.kp D_level_at.b .nil pass0 (pa_cons (pv 3) (pa_cons (pv 1) pa_nil))) pa_nil)))))))), ?_⟩
    refine ⟨_, rfl, _, rfl, a, us, cs, f, rfl, hU, hC, fun o H1 e1 ho => ?_⟩
    refine ⟨_, rfl, rfl, _, rfl, ?_⟩
    cases o with
    | none =>
      refine iteD rfl ?_
      exact q none _ H1 e1 ho rfl
    | some i =>
      refine iteN (fun z => nomatch z) ?_
      obtain ⟨c, hc, hh, _⟩ := id ho
      obtain ⟨v, hv, hcv⟩ := pr_getR hC hc
      have hcv := hcv.tk (TK.ex e1)
      obtain ⟨ca, u, rfl, hca, hu⟩ := id hcv
      refine ⟨_, rfl, _, rfl, a, _, _, _, rfl, rfl, SqT.of (e1 _ _ hU), atI_nat hv, ?_⟩
      refine ⟨_, rfl, ca, _, _, _, rfl, rfl, SqT.of hca, rfl, ?_⟩
      refine ⟨_, rfl, _, rfl, _, c, f, rfl, hcv, kC c (List.mem_of_getElem? hc), hh.1, hh.2, ?_⟩
      refine ⟨(by show 2 ≤ sizeLine; decide), fun t ht => ?_⟩
      have f1 := Ex.new (o := .tup [u, .int (c.lev f)]) ht
      exact q (some i) _ _ (e1.trans f1) ho ⟨c, t, u, hc, rfl, upd_same, hu.tk (TK.ex f1)⟩

abbrev s_is_full_picture : Stmt := top 37
theorem sc_is_full_picture : FnScope ["picture", "width", "height", "across", "down", "_", "covers", "starts", "y", "start", "cover"] ["picture", "width", "height"] (defScope s_is_full_picture) := ⟨rfl, rfl, rfl, by decide +kernel, rfl, by decide +kernel, by decide +kernel⟩
def spFullP (K : PySem.W.Frag) : Sp := fun vs H Q _ => ∃ v p m wd hg, vs = [v, .int wd, .int hg] ∧ PcV H v p ∧ p.Ok m ∧ m ≤ 12 ∧ 1 ≤ wd ∧ wd ≤ 100 ∧ 1 ≤ hg ∧ hg ≤ 100 ∧ ∀ b H', Ex H H' → (b = true ↔ Full (some (.pic p)) wd hg) → Q (.bl b) H'
theorem all_app {bs : List Bool} {b : Bool} : (bs ++ [b]).all id = true ↔ bs.all id = true ∧ b = true := by
  rw [List.all_append]
  cases bs.all id <;> cases b <;> simp
theorem cover_at {p : Pc} {x y : Int} (h : p.In x y) : (opAt (some (.pic p)) x y).2 = p.cs.getD (y * p.w + x).toNat 0 := by
  show (p.at x y).2 = _
  unfold Pc.at
  rw [if_pos h]
theorem ok_is_full_picture {f : Addr} {fd : FuncData} (F : Fun K "_is_full_picture" "_is_full_picture" s_is_full_picture f fd) (T : Txt K mg) : FnOk P w K mg base CX0 1 f fd ["picture", "width", "height"] (spFullP K) := by
  refine F.ok sc_is_full_picture (fun vs H Q E h => ?_) (fun cdv A outer s H vs Q E hr h => ?_)
  · obtain ⟨v, p, m, wd, hg, rfl, _⟩ := h
    rfl
  · obtain ⟨v, p, m, wd, hg, rfl, ⟨a, va, ca, rfl, hp, hva, hca⟩, k, hm, wd1, wd2, hg1, hg2, q⟩ := h
    have w1 := k.w1
    have w2 := k.w2
    have h1 := k.h1
    have h2 := k.h2
    refine ⟨_, (pss_cons (ps_asg (pv 0) (kpgT K (n := 4) rfl (pgs_cons (pg_name (i := 3) sc_is_full_picture.nd rfl (by first | exact Or.inl rfl | exact Or.inr rfl)) (pgs_cons (pg_name (i := 4) sc_is_full_picture.nd rfl (by first | exact Or.inl rfl | exact Or.inr rfl)) (pgs_cons (pg_name (i := 5) sc_is_full_picture.nd rfl (by first | exact Or.inl rfl | exact Or.inr rfl)) (pgs_cons (pg_name (i := 6) sc_is_full_picture.nd rfl (by first | exact Or.inl rfl | exact Or.inr rfl)) pgs_nil))))))
      (pss_cons (ps_if (PW.pt (pw_or (pt_cmpR op_gt (pv 1) (pv 3) (nomark _)) (pw_or1 (pt_cmpR op_gt (pv 2) (pv 4) (nomark _)))))
        (pss_one (ps_ret pe_bl))
        pss_nil)
      (pss_cons (ps_setLc (i := 7)  (own := [("y", 8)]) (tt := tYes) rfl sc_is_full_picture.nd rfl rfl (sw_true rfl rfl rfl (by decide +kernel)) (pi_range1 (by rfl) T.range_ (pa_cons (pv 2) pa_nil)) (blkOk_by (N := ["picture", "width", "height", "across", "down", "_", "covers", "starts", "y", "start", "cover"]) (sc := defScope s_is_full_picture) (by decide +kernel)) (fun _ _ _ _ _ => (pg_name (i := 8) sc_is_full_picture.nd rfl (by first | exact Or.inl rfl | exact Or.inr rfl))) (fun _ _ _ _ _ => pts_nil) (fun _ _ _ _ _ => (pe_op op_mul (pv 8) (pv 3))))
      (pss_one (ps_ret (pe_callB (kall K rfl) (by rfl) T.all_ bt_all (pa_cons (pe_lc2 (own := [("start", 9), ("cover", 10)]) (vs1 := [10]) rfl sc_is_full_picture.nd (kpiL K (pv 7)) (blkOk_by (N := ["picture", "width", "height", "across", "down", "_", "covers", "starts", "y", "start", "cover"]) (sc := defScope s_is_full_picture) (by decide +kernel)) (by decide) (fun _ _ _ _ _ => (pg_name (i := 9) sc_is_full_picture.nd rfl (by first | exact Or.inl rfl | exact Or.inr rfl))) (fun _ _ _ _ _ => pts_nil) (fun _ _ _ _ _ => (kpiT K (pe_slice (kslA K) (pv 6) (po_some (pv 9)) (po_some (pe_op op_add (pv 9) (pv 1)))))) (fun _ _ _ _ _ => (pg_name (i := 10) sc_is_full_picture.nd rfl (by first | exact Or.inl rfl | exact Or.inr rfl))) (fun _ _ _ _ _ => pts_nil) (fun _ _ _ _ _ => (pe_cmpR op_eq (pv 10) (pe_glob (v := .int 256) rfl T.COVER_MOST_.choose_spec ⟨_, rfl⟩) (nomark _)))) pa_nil))))))), ?_⟩
    refine ⟨_, rfl, a, _, rfl, SqT.of hp, rfl, _, _, rfl, _, _, rfl, _, _, rfl, _, _, rfl, rfl, ?_⟩
    have out : ∀ x y : Int, 0 ≤ x → x < wd → 0 ≤ y → y < hg → ¬ p.In x y → Q (.bl false) H := fun x y x0 x1 y0 y1 no => q false H (Ex.refl _) ⟨(fun z => nomatch z), fun z => by
      have e := z.2 x y x0 x1 y0 y1
      have e : (p.at x y).2 = 256 := e
      unfold Pc.at at e
      rw [if_neg no] at e
      exact absurd e (by decide)⟩
    refine ⟨_, rfl, _, rfl, _, _, rfl, rfl, _, rfl, ?_⟩
    refine ite2 (fun c1 => iteT (out (wd - 1) 0 (by omega) (by omega) (by omega) (by omega) fun z => ?_)) (fun c1 => ?_)
    · have := of_decide_eq_true c1
      have := z.2.1
      omega
    have n1 : ¬ wd > p.w := fun z => c1 (decide_eq_true z)
    refine ⟨_, rfl, _, rfl, _, _, rfl, rfl, _, rfl, ?_⟩
    refine ite2 (fun c2 => out 0 (hg - 1) (by omega) (by omega) (by omega) (by omega) fun z => ?_) (fun c2 => ?_)
    · have := of_decide_eq_true c2
      have := z.2.2.2
      omega
    have n2 : ¬ hg > p.h := fun z => c2 (decide_eq_true z)
    -- starts
    refine ⟨_, rfl, _, rfl, by omega, by omega, fun D hD => ?_⟩
    refine lc_range (lo := 0) (n := hg.toNat) (fun i H' => Ex H H' ∧ H' D = some (.lst (((List.range i).map fun (k : Nat) => (k : Int) * p.w).map V.int))) ⟨Ex.new hD, upd_same⟩ ?_ ?_
    · rintro i H' hi ⟨e, hI⟩
      refine ⟨rfl, ?_⟩
      refine lcY ?_
      refine ⟨_, rfl, _, rfl, _, _, rfl, rfl, .inl ⟨by omega, by omega⟩, ?_⟩
      refine ⟨_, hI, slineL (by rw [List.length_map, List.length_map, List.length_range]; omega), e.mut hD, ?_⟩
      rw [upd_same, List.range_succ, List.map_append, List.map_append, Int.zero_add]
      rfl
    rintro H1 ⟨e1, hS⟩
    have hca1 := e1 _ _ hca
    -- all
    refine ⟨_, rfl, D, rfl, ⟨_, SqL.of hS⟩, fun D2 hD2 => ?_⟩
    have hlen : (((List.range hg.toNat).map fun (k : Nat) => (k : Int) * p.w).map V.int).length = hg.toNat := by rw [List.length_map, List.length_map, List.length_range]
    refine turns (walk_list (K := K) (a := D) (xs := ((List.range hg.toNat).map fun (k : Nat) => (k : Int) * p.w).map V.int)) (fun i H' => Ex H1 H' ∧ ∃ bs : List Bool, H' D2 = some (.lst (bs.map V.bl)) ∧ bs.length = i * wd.toNat ∧ (bs.all id = true ↔ ∀ x y : Int, 0 ≤ x → x < wd → 0 ≤ y → y < i → (opAt (some (.pic p)) x y).2 = 256)) ⟨Ex.new hD2, [], upd_same, by simp, by simp; intro x y _ _ a b; omega⟩ (fun i H' _ p => SqL.of (p.1 _ _ hS)) ?_ ?_
    · rintro i x H' H'' hi ⟨e2, bs, hB, hbl, hb⟩ ⟨rfl, hx⟩
      rw [hlen] at hi
      have ex : x = .int ((i : Int) * p.w) := by
        rw [List.getElem?_map, List.getElem?_map, List.getElem?_range hi] at hx
        exact (Option.some.inj hx).symm
      subst ex
      refine ⟨rfl, ?_⟩
      refine lcY ?_
      have l0 : 0 ≤ (i : Int) * p.w := Int.mul_nonneg (by omega) (by omega)
      have l1 : (i : Int) * p.w + wd ≤ p.cs.length := by
        have := k.cl
        have z : (i : Int) * p.w + p.w ≤ p.h * p.w := by
          have : ((i : Int) + 1) * p.w ≤ p.h * p.w := Int.mul_le_mul_of_nonneg_right (by omega) (by omega)
          rwa [Int.add_mul, Int.one_mul] at this
        rw [this, Int.mul_comm p.w p.h]
        omega
      refine ⟨_, rfl, _, rfl, _, rfl, _, rfl, _, rfl, _, _, rfl, rfl, _, rfl, ?_⟩
      refine slA (e2 _ _ hca1) fun c3 H3 e3 hc3 => ?_
      rw [cutV_mid l0 (by omega) (by rw [List.length_map]; exact l1)] at hc3
      have kc := k.cl
      have hl3 : (((p.cs.map V.int).drop ((i : Int) * p.w).toNat).take ((i : Int) * p.w + wd - (i : Int) * p.w).toNat).length = wd.toNat := by
        rw [List.length_take, List.length_drop, List.length_map]
        omega
      refine ⟨c3, rfl, ⟨_, SqT.of hc3⟩, ?_⟩
      refine turns (walk_tup (K := K) (a := c3) (xs := ((p.cs.map V.int).drop ((i : Int) * p.w).toNat).take ((i : Int) * p.w + wd - (i : Int) * p.w).toNat)) (fun j H' => Ex H1 H' ∧ H' c3 = H3 c3 ∧ ∃ bs : List Bool, H' D2 = some (.lst (bs.map V.bl)) ∧ bs.length = i * wd.toNat + j ∧ (bs.all id = true ↔ (∀ x y : Int, 0 ≤ x → x < wd → 0 ≤ y → y < i → (opAt (some (.pic p)) x y).2 = 256) ∧ ∀ x : Int, 0 ≤ x → x < j → (opAt (some (.pic p)) x i).2 = 256)) ⟨e2.trans e3, rfl, bs, e3 _ _ hB, hbl, ?_⟩ (fun j H' _ p => SqT.of (p.2.1.trans hc3)) ?_ ?_
      · rw [hb]
        exact ⟨fun z => ⟨z, fun x a b => by omega⟩, fun z => z.1⟩
      · rintro j x H4 H5 hj ⟨e4, hc4, bs, hB, hbl, hb⟩ ⟨rfl, hx⟩
        rw [hl3] at hj
        have hin : p.In (j : Int) (i : Int) := ⟨by omega, by omega, by omega, by omega⟩
        have hk : ((i : Int) * p.w + j).toNat < p.cs.length := by omega
        have ex : x = .int (opAt (some (.pic p)) j i).2 := by
          rw [cover_at hin, List.getD_eq_getElem?_getD, List.getElem?_eq_getElem hk]
          rw [List.getElem?_take, if_pos (by omega), List.getElem?_drop, List.getElem?_map] at hx
          have e5 : ((i : Int) * p.w).toNat + j = ((i : Int) * p.w + j).toNat := by omega
          rw [e5, List.getElem?_eq_getElem hk] at hx
          exact (Option.some.inj hx).symm
        subst ex
        refine ⟨rfl, ?_⟩
        refine lcY ?_
        refine ⟨_, rfl, rfl, ?_⟩
        have hbl2 : bs.length ≤ 20000 := by
          have : i * wd.toNat ≤ 100 * 100 := Nat.mul_le_mul (by omega) (by omega)
          omega
        refine ⟨_, hB, slineL (by rw [List.length_map]; omega), e4.mut hD2, ?_, bs ++ [decide (V.int (opAt (some (.pic p)) j i).2 = V.int 256)], by rw [upd_same, List.map_append]; rfl, by rw [List.length_append]; simp; omega, ?_⟩
        · rw [upd_ne (ne_of (hc4.trans hc3) hB (by intro z; cases z))]
          exact hc4
        · rw [all_app, hb, and_assoc]
          refine and_congr_right fun _ => ?_
          constructor
          · rintro ⟨z1, z2⟩ x a b
            by_cases ex : x = j
            · rw [ex]
              exact V.int.inj (of_decide_eq_true z2)
            · exact z1 x a (by omega)
          · intro z
            exact ⟨fun x a b => z x a (by omega), decide_eq_true (congrArg V.int (z j (by omega) (by omega)))⟩
      · rintro H4 ⟨e4, hc4, bs, hB, hbl, hb⟩
        rw [hl3] at hbl hb
        refine ⟨e4, bs, hB, by rw [hbl, Nat.add_mul, Nat.one_mul], ?_⟩
        rw [hb]
        constructor
        · rintro ⟨z1, z2⟩ x y a b c d
          by_cases ey : y = i
          · rw [ey]
            exact z2 x a (by omega)
          · exact z1 x y a b c (by omega)
        · intro z
          exact ⟨fun x y a b c d => z x y a b c (by omega), fun x a b => z x i a (by omega) (by omega) (by omega)⟩
    · rintro H2 ⟨e2, bs, hB, hbl, hb⟩
      rw [hlen] at hb
      refine ⟨D2, bs, rfl, SqL.of hB, ?_⟩
      refine q _ _ (e1.trans e2) ?_
      rw [hb]
      exact ⟨fun z => ⟨rfl, fun x y a b c d => z x y a b c (by omega)⟩, fun z x y a b c d => z.2 x y a b c (by omega)⟩

abbrev s_is_full : Stmt := top 34
theorem sc_is_full : FnScope ["paint", "width", "height"] ["paint", "width", "height"] (defScope s_is_full) := ⟨rfl, rfl, rfl, by decide +kernel, rfl, by decide +kernel, by decide +kernel⟩
theorem ok_is_full {f : Addr} {fd : FuncData} (F : Fun K "is_full" "is_full" s_is_full f fd) (T : Txt K mg) (D_is_full_picture : Def P w K mg base CX0 "_is_full_picture" 1 ["picture", "width", "height"] (spFullP K)) : FnOk P w K mg base CX0 2 f fd ["paint", "width", "height"] (spFull K) := by
  refine F.ok sc_is_full (fun vs H Q E h => ?_) (fun cdv A outer s H vs Q E hr h => ?_)
  · obtain ⟨v, o, m, x, y, rfl, _⟩ := h
    rfl
  · obtain ⟨v, o, m, wd, hg, rfl, ho, k, hm, x0, x1, y0, y1, q⟩ := h
    refine ⟨_, (pss_cons (ps_if (pt_cmpR op_isN (pv 0) pe_non (nomark _))
        (pss_one (ps_ret pe_bl))
        pss_nil)
      (pss_cons (ps_if (pt_cmpR op_ne (pe_ix (kixT K) (pv 0) pe_int (fun _ _ => rfl)) pe_str (nomark _))
        (pss_one (ps_ret pe_bl))
        pss_nil)
      (pss_one (ps_ret (pe_call D_is_full_picture.ok (hr.mono (by decide)) rfl D_is_full_picture.mgf D_is_full_picture.kp D_is_full_picture.b .nil pass0 (pa_cons (pe_ix (kixT K) (pv 0) pe_int (fun _ _ => rfl)) (pa_cons (pv 1) (pa_cons (pv 2) pa_nil)))))))), ?_⟩
    refine ⟨_, rfl, rfl, _, rfl, ?_⟩
    cases o with
    | none =>
      cases ho
      refine iteD rfl ?_
      exact q false _ (Ex.refl _) ⟨(fun z => nomatch z), fun z => nomatch z.1⟩
    | some p =>
      obtain ⟨a, xs, rfl, ha⟩ := PaV.mk ho
      refine iteN (fun z => nomatch z) ?_
      cases p with
      | solid c =>
        obtain ⟨a', e, ha⟩ := ho
        cases e
        refine ⟨_, rfl, a, _, _, _, rfl, rfl, SqT.of ha, rfl, rfl, _, rfl, ?_⟩
        refine iteWn (by decide +kernel) ?_
        exact q true _ (Ex.refl _) ⟨fun _ => ⟨rfl, fun _ _ _ _ _ _ => rfl⟩, fun _ => rfl⟩
      | steps f s z =>
        obtain ⟨a', e, ha⟩ := ho
        cases e
        refine ⟨_, rfl, a, _, _, _, rfl, rfl, SqT.of ha, rfl, rfl, _, rfl, ?_⟩
        refine iteWn (by decide +kernel) ?_
        exact q true _ (Ex.refl _) ⟨fun _ => ⟨rfl, fun _ _ _ _ _ _ => rfl⟩, fun _ => rfl⟩
      | pic p =>
        obtain ⟨a', u, e, ha, hu⟩ := ho
        cases e
        refine ⟨_, rfl, a, _, _, _, rfl, rfl, SqT.of ha, rfl, rfl, _, rfl, ?_⟩
        refine iteEn (by decide +kernel) ?_
        exact ⟨_, rfl, a, _, _, _, rfl, rfl, SqT.of ha, rfl, _, rfl, _, rfl, u, p, m, wd, hg, rfl, hu, k, hm, x0, x1, y0, y1, fun b H' e hb => q b H' e hb⟩

abbrev s_extent_of : Stmt := top 66
theorem sc_extent_of : FnScope ["film", "layer", "frame", "x", "y", "_", "width", "height", "left", "top", "right", "bottom"] ["film", "layer", "frame"] (defScope s_extent_of) := ⟨rfl, rfl, rfl, by decide +kernel, rfl, by decide +kernel, by decide +kernel⟩
def box4 (x : Fi) (l : La) (f : Int) : Rc := ⟨if (l.corner f).1 > 0 then (l.corner f).1 else 0, if (l.corner f).2 > 0 then (l.corner f).2 else 0, if (l.corner f).1 + l.box.w < x.w then (l.corner f).1 + l.box.w else x.w, if (l.corner f).2 + l.box.h < x.h then (l.corner f).2 + l.box.h else x.h⟩
/-- what lies on the canvas -/
def Fi.ext (x : Fi) (l : La) (f : Int) : Option Rc :=
  if (box4 x l f).l ≥ (box4 x l f).r ∨ (box4 x l f).t ≥ (box4 x l f).b then none else some (box4 x l f)
def OptRcV (H : Hp) (v : V) : Option Rc → Prop
  | none => v = .non
  | some r => RcV H v r
theorem OptRcV.tk {H H' : Hp} {v : V} {o : Option Rc} (e : TK H H') (h : OptRcV H v o) : OptRcV H' v o := by
  cases o with
  | none => exact h
  | some r =>
    obtain ⟨a, rfl, ha⟩ := h
    exact ⟨a, rfl, e _ _ ha⟩
def spExt (K : PySem.W.Frag) (C : Addr) : Sp := fun vs H Q _ => ∃ (fv v : V) (x : Fi) (l : La) (f : Int), vs = [fv, v, .int f] ∧ FlV C H fv x ∧ LaV H v l ∧ l.Vd ∧ ∀ r H', Ex H H' → OptRcV H' r (x.ext l f) → Q r H'
theorem ok_extent_of {f C : Addr} {fd : FuncData} (F : Fun K "extent_of" "extent_of" s_extent_of f fd) (T : Txt K mg) (OT_Film : FilmT K C) (D_corner_of : Def P w K mg base CX0 "_corner_of" 3 ["layer", "frame"] (spCorner K)) (PF_Film_width : Prp P w K mg base C "width" 1 (spGetI C Fi.w)) (PF_Film_height : Prp P w K mg base C "height" 1 (spGetI C Fi.h)) : FnOk P w K mg base CX0 4 f fd ["film", "layer", "frame"] (spExt K C) := by
  refine F.ok sc_extent_of (fun vs H Q E h => ?_) (fun cdv A outer s H vs Q E hr h => ?_)
  · obtain ⟨fv, v, x, l, fr, rfl, _⟩ := h
    rfl
  · obtain ⟨fv, v, x, l, fr, rfl, hf, hv, k, q⟩ := h
    obtain ⟨a, bv, ma, wv, ca, us, ws, rfl, ha, hb, _⟩ := id hv
    refine ⟨_, (pss_cons (ps_asg (pe_call D_corner_of.ok (hr.mono (by decide)) rfl D_corner_of.mgf D_corner_of.kp D_corner_of.b .nil pass0 (pa_cons (pv 1) (pa_cons (pv 2) pa_nil))) (kpgT K (n := 2) rfl (pgs_cons (pg_name (i := 3) sc_extent_of.nd rfl (by first | exact Or.inl rfl | exact Or.inr rfl)) (pgs_cons (pg_name (i := 4) sc_extent_of.nd rfl (by first | exact Or.inl rfl | exact Or.inr rfl)) pgs_nil))))
      (pss_cons (ps_asg (pe_ix (kixT K) (pv 1) pe_int (fun _ _ => rfl)) (kpgT K (n := 4) rfl (pgs_cons (pg_name (i := 5) sc_extent_of.nd rfl (by first | exact Or.inl rfl | exact Or.inr rfl)) (pgs_cons (pg_name (i := 5) sc_extent_of.nd rfl (by first | exact Or.inl rfl | exact Or.inr rfl)) (pgs_cons (pg_name (i := 6) sc_extent_of.nd rfl (by first | exact Or.inl rfl | exact Or.inr rfl)) (pgs_cons (pg_name (i := 7) sc_extent_of.nd rfl (by first | exact Or.inl rfl | exact Or.inr rfl)) pgs_nil))))))
      (pss_cons (ps_par (i := 8) (j := 9) rfl sc_extent_of.nd rfl rfl (by decide) rfl rfl (pa_cons (pe_callB (call_max2 rfl) (by rfl) T.max_ bt_max (pa_cons pe_int (pa_cons (pv 3) pa_nil))) (pa_cons (pe_callB (call_max2 rfl) (by rfl) T.max_ bt_max (pa_cons pe_int (pa_cons (pv 4) pa_nil))) pa_nil)) (by rfl))
      (pss_cons (ps_par (i := 10) (j := 11) rfl sc_extent_of.nd rfl rfl (by decide) rfl rfl (pa_cons (pe_callB (call_min2 rfl) (by rfl) T.min_ bt_min (pa_cons (pe_prop (pv 0) OT_Film.cl PF_Film_width.hp PF_Film_width.ok (hr.mono (by decide)) PF_Film_width.b .nil pass0 rfl) (pa_cons (pe_op op_add (pv 3) (pv 6)) pa_nil))) (pa_cons (pe_callB (call_min2 rfl) (by rfl) T.min_ bt_min (pa_cons (pe_prop (pv 0) OT_Film.cl PF_Film_height.hp PF_Film_height.ok (hr.mono (by decide)) PF_Film_height.b .nil pass0 rfl) (pa_cons (pe_op op_add (pv 4) (pv 7)) pa_nil))) pa_nil)) (by rfl))
      (pss_cons (ps_if (PW.pt (pw_or (pt_cmpR op_ge (pv 8) (pv 10) (nomark _)) (pw_or1 (pt_cmpR op_ge (pv 9) (pv 11) (nomark _)))))
        (pss_one (ps_ret pe_non))
        pss_nil)
      (pss_one (ps_ret (pe_tup (pa_cons (pv 8) (pa_cons (pv 9) (pa_cons (pv 10) (pa_cons (pv 11) pa_nil)))))))))))), ?_⟩
    rw [start_nrm (Nat.le_of_ble_eq_true rfl)]; dsimp only [startL]
    refine ⟨_, rfl, _, rfl, .ref a, l, fr, rfl, hv, k, fun r H1 e1 hr1 => ?_⟩
    obtain ⟨ra, rfl, hra⟩ := id hr1
    refine ⟨ra, _, rfl, SqT.of hra, rfl, _, _, rfl, _, _, rfl, rfl, ?_⟩
    obtain ⟨ba, rfl, hba⟩ := hb.tk (TK.ex e1)
    have hf1 := hf.ex e1
    obtain ⟨fa, dx, L, ls, rfl, hfa, _⟩ := id hf1
    refine ⟨_, rfl, a, _, 1, _, rfl, rfl, SqT.of (e1 _ _ ha), rfl, ?_⟩
    refine ⟨ba, _, rfl, SqT.of hba, rfl, _, _, rfl, _, _, rfl, _, _, rfl, _, _, rfl, rfl, ?_⟩
    dsimp only [List.set]
    refine ⟨_, rfl, _, _, rfl, _, rfl, _, _, rfl, _, _, rfl, ?_⟩
    dsimp only [List.set]
    refine ⟨_, rfl, fa, dx, _, rfl, hfa, .ref fa, x, rfl, hf1, _, rfl, _, rfl, _, _, rfl, rfl, _, _, rfl, ?_⟩
    refine ⟨_, rfl, fa, dx, _, rfl, hfa, .ref fa, x, rfl, hf1, _, rfl, _, rfl, _, _, rfl, rfl, _, _, rfl, _, _, rfl, ?_⟩
    refine ⟨_, rfl, _, rfl, _, _, rfl, rfl, _, rfl, ?_⟩
    dsimp only [List.set]
    have no : (box4 x l fr).l ≥ (box4 x l fr).r ∨ (box4 x l fr).t ≥ (box4 x l fr).b → Q .non H1 := fun h => q .non H1 e1 (by unfold Fi.ext; rw [if_pos h]; exact rfl)
    refine ite2 (fun c1 => no (.inl (of_decide_eq_true c1))) (fun c1 => ?_)
    refine ⟨_, rfl, _, rfl, _, _, rfl, rfl, _, rfl, ?_⟩
    refine ite2 (fun c2 => no (.inr (of_decide_eq_true c2))) (fun c2 => ?_)
    refine ⟨_, rfl, _, rfl, _, rfl, _, rfl, (by show 4 ≤ sizeLine; decide), fun t ht => ?_⟩
    have f1 := Ex.new (o := .tup [.int (box4 x l fr).l, .int (box4 x l fr).t, .int (box4 x l fr).r, .int (box4 x l fr).b]) ht
    refine q (.ref t) _ (e1.trans f1) ?_
    unfold Fi.ext
    rw [if_neg (show ¬ ((box4 x l fr).l ≥ (box4 x l fr).r ∨ (box4 x l fr).t ≥ (box4 x l fr).b) from fun h => h.elim (fun h => c1 (decide_eq_true h)) fun h => c2 (decide_eq_true h))]
    exact ⟨t, rfl, upd_same⟩

abbrev s_point_in : Stmt := top 18
theorem sc_point_in : FnScope ["picture", "x", "y", "width", "height", "values", "covers", "place"] ["picture", "x", "y"] (defScope s_point_in) := ⟨rfl, rfl, rfl, by decide +kernel, rfl, by decide +kernel, by decide +kernel⟩
theorem ok_point_in {f : Addr} {fd : FuncData} (F : Fun K "point_in" "point_in" s_point_in f fd) (T : Txt K mg) : FnOk P w K mg base CX0 1 f fd ["picture", "x", "y"] (spPoint K) := by
  refine F.ok sc_point_in (fun vs H Q E h => ?_) (fun cdv A outer s H vs Q E hr h => ?_)
  · obtain ⟨v, x, y, p, m, rfl, _⟩ := h
    rfl
  · obtain ⟨v, x, y, p, m, rfl, ⟨a, va, ca, rfl, hp, hva, hca⟩, k, m60, q⟩ := h
    refine ⟨_, (pss_cons (ps_asg (pv 0) (kpgT K (n := 4) rfl (pgs_cons (pg_name (i := 3) sc_point_in.nd rfl (by first | exact Or.inl rfl | exact Or.inr rfl)) (pgs_cons (pg_name (i := 4) sc_point_in.nd rfl (by first | exact Or.inl rfl | exact Or.inr rfl)) (pgs_cons (pg_name (i := 5) sc_point_in.nd rfl (by first | exact Or.inl rfl | exact Or.inr rfl)) (pgs_cons (pg_name (i := 6) sc_point_in.nd rfl (by first | exact Or.inl rfl | exact Or.inr rfl)) pgs_nil))))))
      (pss_cons (ps_if (pt_not (PW.pt (pw_and (pt_chain op_le op_lt pe_int (pv 1) (pv 3)) (pw_and1 (pt_chain op_le op_lt pe_int (pv 2) (pv 4))))))
        (pss_one (ps_ret (pe_tup (pa_cons pe_int (pa_cons pe_int pa_nil)))))
        pss_nil)
      (pss_cons (ps_set (i := 7) sc_point_in.nd rfl (by first | exact Or.inl rfl | exact Or.inr rfl) (pe_op op_add (pe_op op_mul (pv 2) (pv 3)) (pv 1)))
      (pss_one (ps_ret (pe_tup (pa_cons (pe_ix (kixT K) (pv 5) (pv 7) (fun _ _ => rfl)) (pa_cons (pe_ix (kixT K) (pv 6) (pv 7) (fun _ _ => rfl)) pa_nil)))))))), ?_⟩
    refine ⟨_, rfl, a, _, rfl, SqT.of hp, rfl, _, _, rfl, _, _, rfl, _, _, rfl, _, _, rfl, rfl, ?_⟩
    have out : ¬ p.In x y → ∀ l, H l = none → Q (.ref l) (upd H l (.tup [.int 0, .int 0])) := fun no l hl => q (.ref l) _ (Ex.new hl) ⟨l, rfl, by rw [upd_same]; unfold Pc.at; rw [if_neg no]⟩
    refine ⟨_, rfl, _, _, rfl, rfl, _, rfl, ?_⟩
    refine ite2 (fun c1 => ?_) (fun c1 => ?_)
    · refine ⟨_, rfl, _, _, rfl, rfl, _, rfl, ?_⟩
      refine ite2 (fun c2 => ?_) (fun c2 => ?_)
      · refine ⟨_, rfl, _, _, rfl, rfl, _, rfl, ?_⟩
        refine ite2 (fun c3 => ?_) (fun c3 => ?_)
        · refine ⟨_, rfl, _, _, rfl, rfl, _, rfl, ?_⟩
          refine ite2 (fun c4 => ?_) (fun c4 => ?_)
          · refine ⟨(by show 2 ≤ sizeLine; decide), fun l hl => ?_⟩
            refine out (fun z => ?_) l hl
            rw [decide_eq_true z.2.2.2] at c4
            cases c4
          · have c5 : y < p.h := by
              by_cases z : y < p.h
              · exact z
              · rw [decide_eq_false z] at c4
                exact absurd rfl c4
            have hin : p.In x y := ⟨of_decide_eq_true c1, of_decide_eq_true c2, of_decide_eq_true c3, c5⟩
            obtain ⟨b0, b1⟩ := place_lt hin.1 hin.2.1 hin.2.2.1 hin.2.2.2
            refine ⟨_, rfl, _, rfl, _, _, rfl, rfl, .inr ⟨by have := k.w1; omega, by have := k.w2; omega⟩, _, rfl, _, _, rfl, rfl, ?_⟩
            refine ⟨_, rfl, _, rfl, va, _, _, _, rfl, rfl, SqT.of hva, atD b0 (by rw [k.vl]; exact b1), ?_⟩
            refine ⟨_, rfl, _, rfl, ca, _, _, _, rfl, rfl, SqT.of hca, atD b0 (by rw [k.cl]; exact b1), ?_⟩
            refine ⟨(by show 2 ≤ sizeLine; decide), fun l hl => ?_⟩
            exact q (.ref l) _ (Ex.new hl) ⟨l, rfl, by rw [upd_same]; unfold Pc.at; rw [if_pos hin]⟩
        · refine ⟨_, rfl, iteT ⟨(by show 2 ≤ sizeLine; decide), fun l hl => ?_⟩⟩
          exact out (fun z => c3 (decide_eq_true z.2.2.1)) l hl
      · refine iteT ⟨(by show 2 ≤ sizeLine; decide), fun l hl => ?_⟩
        exact out (fun z => c2 (decide_eq_true z.2.1)) l hl
    · refine ⟨_, rfl, iteF (iteT ⟨(by show 2 ≤ sizeLine; decide), fun l hl => ?_⟩)⟩
      exact out (fun z => c1 (decide_eq_true z.1)) l hl

abbrev s_paint_at : Stmt := top 33
theorem sc_paint_at : FnScope ["paint", "x", "y", "_", "first", "second", "size", "is_even"] ["paint", "x", "y"] (defScope s_paint_at) := ⟨rfl, rfl, rfl, by decide +kernel, rfl, by decide +kernel, by decide +kernel⟩
theorem ok_paint_at {f : Addr} {fd : FuncData} (F : Fun K "paint_at" "paint_at" s_paint_at f fd) (T : Txt K mg) (D_point_in : Def P w K mg base CX0 "point_in" 1 ["picture", "x", "y"] (spPoint K)) : FnOk P w K mg base CX0 2 f fd ["paint", "x", "y"] (spAt K) := by
  refine F.ok sc_paint_at (fun vs H Q E h => ?_) (fun cdv A outer s H vs Q E hr h => ?_)
  · obtain ⟨v, o, m, x, y, rfl, _⟩ := h
    rfl
  · obtain ⟨v, o, m, x, y, rfl, ho, k, hm, x0, x1, y0, y1, q⟩ := h
    refine ⟨_, (pss_cons (ps_if (pt_cmpR op_isN (pv 0) pe_non (nomark _))
        (pss_one (ps_ret (pe_tup (pa_cons pe_int (pa_cons (pe_glob (v := .int 256) rfl T.COVER_MOST_.choose_spec ⟨_, rfl⟩) pa_nil)))))
        pss_nil)
      (pss_cons (ps_if (pt_cmpR op_eq (pe_ix (kixT K) (pv 0) pe_int (fun _ _ => rfl)) pe_str (nomark _))
        (pss_one (ps_ret (pe_tup (pa_cons (pe_ix (kixT K) (pv 0) pe_int (fun _ _ => rfl)) (pa_cons (pe_glob (v := .int 256) rfl T.COVER_MOST_.choose_spec ⟨_, rfl⟩) pa_nil)))))
        pss_nil)
      (pss_cons (ps_if (pt_cmpR op_eq (pe_ix (kixT K) (pv 0) pe_int (fun _ _ => rfl)) pe_str (nomark _))
        (pss_one (ps_ret (pe_call D_point_in.ok (hr.mono (by decide)) rfl D_point_in.mgf D_point_in.kp D_point_in.b .nil pass0 (pa_cons (pe_ix (kixT K) (pv 0) pe_int (fun _ _ => rfl)) (pa_cons (pv 1) (pa_cons (pv 2) pa_nil))))))
        pss_nil)
      (pss_cons (ps_asg (pv 0) (kpgT K (n := 4) rfl (pgs_cons (pg_name (i := 3) sc_paint_at.nd rfl (by first | exact Or.inl rfl | exact Or.inr rfl)) (pgs_cons (pg_name (i := 4) sc_paint_at.nd rfl (by first | exact Or.inl rfl | exact Or.inr rfl)) (pgs_cons (pg_name (i := 5) sc_paint_at.nd rfl (by first | exact Or.inl rfl | exact Or.inr rfl)) (pgs_cons (pg_name (i := 6) sc_paint_at.nd rfl (by first | exact Or.inl rfl | exact Or.inr rfl)) pgs_nil))))))
      (pss_cons (ps_set (i := 7) sc_paint_at.nd rfl (by first | exact Or.inl rfl | exact Or.inr rfl) (pe_cmpR op_eq (pe_op op_mod (pe_op op_add (pe_op op_fdiv (pv 1) (pv 6)) (pe_op op_fdiv (pv 2) (pv 6))) pe_int) pe_int (nomark _)))
      (pss_one (ps_ret (pe_tup (pa_cons (pe_ifExp (pt_val (pv 7)) (pv 4) (pv 5)) (pa_cons (pe_glob (v := .int 256) rfl T.COVER_MOST_.choose_spec ⟨_, rfl⟩) pa_nil)))))))))), ?_⟩
    refine ⟨_, rfl, rfl, _, rfl, ?_⟩
    cases o with
    | none =>
      cases ho
      refine iteD rfl ?_
      refine ⟨(by show 2 ≤ sizeLine; decide), fun l hl => ?_⟩
      exact q _ _ (Ex.new hl) ⟨l, rfl, upd_same⟩
    | some p =>
      obtain ⟨a, xs, rfl, ha⟩ := PaV.mk ho
      refine iteN (fun z => nomatch z) ?_
      cases p with
      | solid c =>
        obtain ⟨a', e, ha⟩ := ho
        cases e
        refine ⟨_, rfl, a, _, _, _, rfl, rfl, SqT.of ha, rfl, rfl, _, rfl, ?_⟩
        refine iteE (by decide +kernel) ?_
        refine ⟨_, rfl, a, _, _, _, rfl, rfl, SqT.of ha, rfl, ?_⟩
        refine ⟨(by show 2 ≤ sizeLine; decide), fun l hl => ?_⟩
        exact q _ _ (Ex.new hl) ⟨l, rfl, upd_same⟩
      | pic p =>
        obtain ⟨a', u, e, ha, hu⟩ := ho
        cases e
        refine ⟨_, rfl, a, _, _, _, rfl, rfl, SqT.of ha, rfl, rfl, _, rfl, ?_⟩
        refine iteW (by decide +kernel) ?_
        refine ⟨_, rfl, a, _, _, _, rfl, rfl, SqT.of ha, rfl, rfl, _, rfl, ?_⟩
        refine iteE (by decide +kernel) ?_
        exact ⟨_, rfl, a, _, _, _, rfl, rfl, SqT.of ha, rfl, _, rfl, _, rfl, u, x, y, p, m, rfl, hu, k, hm, fun u H' e hu => q u H' e hu⟩
      | steps f s z =>
        obtain ⟨a', e, ha⟩ := ho
        cases e
        obtain ⟨f0, f1, s0, s1, z0, z1⟩ := k
        refine ⟨_, rfl, a, _, _, _, rfl, rfl, SqT.of ha, rfl, rfl, _, rfl, ?_⟩
        refine iteW (by decide +kernel) ?_
        refine ⟨_, rfl, a, _, _, _, rfl, rfl, SqT.of ha, rfl, rfl, _, rfl, ?_⟩
        refine iteW (by decide +kernel) ?_
        refine ⟨_, rfl, a, _, rfl, SqT.of ha, rfl, _, _, rfl, _, _, rfl, _, _, rfl, _, _, rfl, rfl, ?_⟩
        refine ⟨_, rfl, _, rfl, _, _, rfl, rfl, ⟨by omega, by omega⟩, _, rfl, _, rfl, _, _, rfl, rfl, ⟨by omega, by omega⟩, _, _, rfl, rfl, _, _, rfl, rfl, (by show (0 : Int) < 2; decide), rfl, ?_⟩
        have q' := q
        unfold opAt Pa.at at q
        dsimp only at q
        refine ⟨_, rfl, _, rfl, ?_⟩
        refine ite2 (fun c => ?_) (fun c => ?_)
        · have c := V.int.inj (of_decide_eq_true c)
          rw [if_pos c] at q
          refine ⟨_, rfl, (by show 2 ≤ sizeLine; decide), fun l hl => ?_⟩
          exact q _ _ (Ex.new hl) ⟨l, rfl, upd_same⟩
        · rw [if_neg (fun z => c (decide_eq_true (congrArg V.int z)))] at q
          refine ⟨_, rfl, (by show 2 ≤ sizeLine; decide), fun l hl => ?_⟩
          exact q _ _ (Ex.new hl) ⟨l, rfl, upd_same⟩

abbrev s_target : Stmt := top 26
theorem sc_target : FnScope ["mode", "value", "paint", "word"] ["mode", "value", "paint"] (defScope s_target) := ⟨rfl, rfl, rfl, by decide +kernel, rfl, by decide +kernel, by decide +kernel⟩
def spTarget (K : PySem.W.Frag) : Sp := fun vs H Q _ => ∃ mv m v p, vs = [mv, .int v, .int p] ∧ MdV H mv m ∧ m.Ok ∧ 0 ≤ v ∧ v ≤ 255 ∧ 0 ≤ p ∧ p ≤ 255 ∧ Q (.int (m.to v p)) H
theorem ok_target {f : Addr} {fd : FuncData} (F : Fun K "_target" "_target" s_target f fd) (T : Txt K mg) : FnOk P w K mg base CX0 1 f fd ["mode", "value", "paint"] (spTarget K) := by
  refine F.ok sc_target (fun vs H Q E h => ?_) (fun cdv A outer s H vs Q E hr h => ?_)
  · obtain ⟨mv, m, v, p, rfl, _⟩ := h
    rfl
  · obtain ⟨mv, m, v, p, rfl, ⟨a, rfl, ha⟩, km, v0, v1, p0, p1, q⟩ := h
    refine ⟨_, (pss_cons (ps_set (i := 3) sc_target.nd rfl (by first | exact Or.inl rfl | exact Or.inr rfl) (pe_ix (kixT K) (pv 0) pe_int (fun _ _ => rfl)))
      (pss_cons (ps_if (pt_cmpR op_eq (pv 3) pe_str (nomark _))
        (pss_one (ps_ret (pv 2)))
        pss_nil)
      (pss_cons (ps_if (pt_cmpR op_eq (pv 3) pe_str (nomark _))
        (pss_one (ps_ret (pe_callB (call_min2 rfl) (by rfl) T.min_ bt_min (pa_cons (pe_glob (v := .int 255) rfl T.VALUE_MOST_.choose_spec ⟨_, rfl⟩) (pa_cons (pe_op op_add (pv 1) (pv 2)) pa_nil)))))
        pss_nil)
      (pss_cons (ps_if (pt_cmpR op_eq (pv 3) pe_str (nomark _))
        (pss_one (ps_ret (pe_op op_fdiv (pe_op op_mul (pv 1) (pv 2)) (pe_glob (v := .int 255) rfl T.VALUE_MOST_.choose_spec ⟨_, rfl⟩))))
        pss_nil)
      (pss_cons (ps_if (pt_cmpR op_eq (pv 3) pe_str (nomark _))
        (pss_one (ps_ret (pe_op op_sub (pe_glob (v := .int 255) rfl T.VALUE_MOST_.choose_spec ⟨_, rfl⟩) (pv 1))))
        pss_nil)
      (pss_one (ps_ret (pe_callB (call_max2 rfl) (by rfl) T.max_ bt_max (pa_cons pe_int (pa_cons (pe_callB (call_min2 rfl) (by rfl) T.min_ bt_min (pa_cons (pe_glob (v := .int 255) rfl T.VALUE_MOST_.choose_spec ⟨_, rfl⟩) (pa_cons (pe_op op_add (pv 1) (pe_ix (kixT K) (pv 0) pe_int (fun _ _ => rfl))) pa_nil))) pa_nil)))))))))), ?_⟩
    refine ⟨_, rfl, a, _, _, _, rfl, rfl, SqT.of ha, Md.at0 _, ?_⟩
    refine ⟨_, rfl, rfl, _, rfl, ?_⟩
    cases m with
    | over => exact iteE (by decide +kernel) ⟨_, rfl, q⟩
    | add =>
      refine iteW (by decide +kernel) ?_
      refine ⟨_, rfl, rfl, _, rfl, ?_⟩
      refine iteE (by decide +kernel) ?_
      exact ⟨_, rfl, _, rfl, _, _, rfl, rfl, _, _, rfl, q⟩
    | times =>
      refine iteW (by decide +kernel) ?_
      refine ⟨_, rfl, rfl, _, rfl, ?_⟩
      refine iteW (by decide +kernel) ?_
      refine ⟨_, rfl, rfl, _, rfl, ?_⟩
      refine iteE (by decide +kernel) ?_
      exact ⟨_, rfl, _, rfl, _, _, rfl, rfl, .inl ⟨by omega, by omega⟩, _, _, rfl, rfl, ⟨by decide, by decide⟩, q⟩
    | invert =>
      refine iteW (by decide +kernel) ?_
      refine ⟨_, rfl, rfl, _, rfl, ?_⟩
      refine iteW (by decide +kernel) ?_
      refine ⟨_, rfl, rfl, _, rfl, ?_⟩
      refine iteW (by decide +kernel) ?_
      refine ⟨_, rfl, rfl, _, rfl, ?_⟩
      refine iteE (by decide +kernel) ?_
      exact ⟨_, rfl, _, _, rfl, rfl, q⟩
    | shift n =>
      refine iteW (by show Str.ofString "shift" ≠ _; decide +kernel) ?_
      refine ⟨_, rfl, rfl, _, rfl, ?_⟩
      refine iteW (by show Str.ofString "shift" ≠ _; decide +kernel) ?_
      refine ⟨_, rfl, rfl, _, rfl, ?_⟩
      refine iteW (by show Str.ofString "shift" ≠ _; decide +kernel) ?_
      refine ⟨_, rfl, rfl, _, rfl, ?_⟩
      refine iteW (by show Str.ofString "shift" ≠ _; decide +kernel) ?_
      refine ⟨_, rfl, _, rfl, a, _, _, _, rfl, rfl, SqT.of ha, rfl, _, _, rfl, rfl, _, _, rfl, _, _, rfl, q⟩

abbrev s_blended : Stmt := top 23
theorem sc_blended : FnScope ["mode", "value", "paint", "cover"] ["mode", "value", "paint", "cover"] (defScope s_blended) := ⟨rfl, rfl, rfl, by decide +kernel, rfl, by decide +kernel, by decide +kernel⟩
theorem ok_blended {f : Addr} {fd : FuncData} (F : Fun K "blended" "blended" s_blended f fd) (T : Txt K mg) (D_target : Def P w K mg base CX0 "_target" 1 ["mode", "value", "paint"] (spTarget K)) : FnOk P w K mg base CX0 2 f fd ["mode", "value", "paint", "cover"] (spBlend K Md.mix) := by
  refine F.ok sc_blended (fun vs H Q E h => ?_) (fun cdv A outer s H vs Q E hr h => ?_)
  · obtain ⟨mv, m, v, p, c, rfl, _⟩ := h
    rfl
  · obtain ⟨mv, m, v, p, c, rfl, hm, km, v0, v1, p0, p1, c0, c1, q⟩ := h
    obtain ⟨t0, t1⟩ := m.to_in v0 v1 p0 p1
    refine ⟨_, (pss_one (ps_ret (pe_op op_add (pv 1) (pe_op op_fdiv (pe_op op_mul (pe_op op_sub (pe_call D_target.ok (hr.mono (by decide)) rfl D_target.mgf D_target.kp D_target.b .nil pass0 (pa_cons (pv 0) (pa_cons (pv 1) (pa_cons (pv 2) pa_nil)))) (pv 1)) (pv 3)) (pe_glob (v := .int 256) rfl T.COVER_MOST_.choose_spec ⟨_, rfl⟩))))), ?_⟩
    refine ⟨_, rfl, _, rfl, _, rfl, _, rfl, _, m, v, p, rfl, hm, km, v0, v1, p0, p1, ?_⟩
    exact ⟨_, rfl, _, _, rfl, rfl, _, rfl, _, _, rfl, rfl, .inl ⟨by omega, by omega⟩, _, _, rfl, rfl, ⟨by decide, by decide⟩, _, _, rfl, rfl, q⟩

abbrev s_item_of : Stmt := top 73
theorem sc_item_of : FnScope ["film", "layer", "frame", "_", "box", "what", "clips", "there", "extent", "corner", "opacity", "mode", "paint", "level", "hides"] ["film", "layer", "frame"] (defScope s_item_of) := ⟨rfl, rfl, rfl, by decide +kernel, rfl, by decide +kernel, by decide +kernel⟩
/-- an item of a frame -/
structure It where
  ext : Rc
  at_ : Pt
  pa : Option Pa
  lv : Int
  md : Md
  hides : Bool
def ItV (H : Hp) (v : V) (i : It) : Prop := ∃ a ev cv pv mv, v = .ref a ∧ H a = some (.tup [ev, cv, pv, .int i.lv, mv, .bl i.hides]) ∧ RcV H ev i.ext ∧ PtV H cv i.at_ ∧ OpV H pv i.pa ∧ MdV H mv i.md
theorem ItV.tk {H H' : Hp} {v : V} {i : It} (e : TK H H') (h : ItV H v i) : ItV H' v i := by
  obtain ⟨a, ev, cv, pv, mv, rfl, h1, h2, h3, h4, h5⟩ := h
  exact ⟨a, ev, cv, pv, mv, rfl, e _ _ h1, h2.tk e, h3.tk e, h4.tk e, h5.tk e⟩
def OptItV (H : Hp) (v : V) : Option It → Prop
  | none => v = .non
  | some i => ItV H v i
theorem OptItV.tk {H H' : Hp} {v : V} {o : Option It} (e : TK H H') (h : OptItV H v o) : OptItV H' v o := by
  cases o with
  | none => exact h
  | some i => exact ItV.tk e h
/-- the mode of what a layer does -/
def Wh.md : Wh → Md
  | .invert => .invert | .shift n => .shift n
  | .paint _ m => if m = "over" then .over else if m = "add" then .add else .times
/-- the clip that is there at a frame -/
def La.there (l : La) (f : Int) : Option Cl := l.cs.find? fun c => decide (c.s ≤ f) && decide (f < c.fin)
def La.lev (l : La) (f : Int) (c : Cl) : Int := match l.wh with
  | .paint o _ => o * c.lev f / 256
  | _ => 256
noncomputable def fullB (o : Option Pa) (w h : Int) : Bool := @decide (Full o w h) (Classical.propDecidable _)
theorem fullB_iff {o : Option Pa} {w h : Int} : fullB o w h = true ↔ Full o w h := @decide_eq_true_iff _ (Classical.propDecidable _)
/-- the item of a layer at a frame -/
noncomputable def Fi.item (x : Fi) (l : La) (f : Int) : Option It := match l.there f, x.ext l f with
  | some c, some r => if l.lev f c = 0 then none else some ⟨r, l.corner f, c.pa, l.lev f c, l.wh.md, (decide (l.wh.md = .over) && decide (l.lev f c = 256) && fullB c.pa l.box.w l.box.h)⟩
  | _, _ => none
theorem there_some {l : La} {f : Int} {i : Nat} (h : First l.cs f (some i)) : ∃ c, l.cs[i]? = some c ∧ l.there f = some c ∧ c.here f := by
  obtain ⟨c, hc, hh, hb⟩ := h
  refine ⟨c, hc, ?_, hh⟩
  unfold La.there
  rw [List.find?_eq_some_iff_getElem]
  obtain ⟨hi, e⟩ := List.getElem?_eq_some_iff.mp hc
  refine ⟨by rw [decide_eq_true hh.1, decide_eq_true hh.2]; rfl, i, hi, e, fun j hj => ?_⟩
  have := hb j hj _ (List.getElem?_eq_getElem (by omega))
  by_cases k1 : l.cs[j].s ≤ f
  · have k2 : ¬ f < l.cs[j].fin := fun z => this ⟨k1, z⟩
    rw [decide_eq_true k1, decide_eq_false k2]
    rfl
  · rw [decide_eq_false k1]
    rfl
theorem there_none {l : La} {f : Int} (h : First l.cs f none) : l.there f = none := by
  unfold La.there
  rw [List.find?_eq_none]
  intro c hc z
  rw [Bool.and_eq_true, decide_eq_true_eq, decide_eq_true_eq] at z
  exact h c hc z
theorem Cl.lev_num (c : Cl) (k : c.Num) {f : Int} (h0 : c.s ≤ f) (h1 : f < c.fin) : 0 ≤ c.lev f ∧ c.lev f ≤ 256 := by
  have := k.fi0
  have := k.fo0
  unfold Cl.lev
  unfold Cl.fin at h1
  have aux : ∀ x y : Int, 0 ≤ x → x < y → 0 ≤ 256 * (x + 1) / (y + 1) ∧ 256 * (x + 1) / (y + 1) ≤ 256 := fun x y x0 xy => by
    refine ⟨Int.ediv_nonneg (by omega) (by omega), ?_⟩
    have : 256 * (x + 1) / (y + 1) < 257 := Int.ediv_lt_of_lt_mul (by omega) (by omega)
    omega
  split
  · exact aux _ _ (by omega) (by omega)
  · split
    · exact aux _ _ (by omega) (by omega)
    · omega
theorem md_items {o : Int} {m : Str} (h : m ∈ modes3) : (Wh.paint o m).md.items = [.str m] ∧ ((Wh.paint o m).md = .over ↔ m = "over") := by
  unfold modes3 at h
  simp only [List.mem_cons, List.not_mem_nil, or_false] at h
  have n1 : ¬ ("add" : Str) = "over" := by decide +kernel
  have n2 : ¬ ("times" : Str) = "over" := by decide +kernel
  have n3 : ¬ ("times" : Str) = "add" := by decide +kernel
  rcases h with rfl | rfl | rfl
  · exact ⟨by simp [Wh.md, Md.items, Md.word, Md.rest], by simp [Wh.md]⟩
  · exact ⟨by simp [Wh.md, Md.items, Md.word, Md.rest, n1], by simp [Wh.md, n1]⟩
  · exact ⟨by simp [Wh.md, Md.items, Md.word, Md.rest, n2, n3], by simp [Wh.md, n2, n3]⟩
def spItem (K : PySem.W.Frag) (C : Addr) : Sp := fun vs H Q _ => ∃ (fv v : V) (x : Fi) (l : La) (f : Int), vs = [fv, v, .int f] ∧ FlV C H fv x ∧ LaV H v l ∧ l.Vd ∧ ∀ r H', Ex H H' → OptItV H' r (x.item l f) → Q r H'
theorem ok_item_of {f C : Addr} {fd : FuncData} (F : Fun K "_item_of" "_item_of" s_item_of f fd) (T : Txt K mg) (OT_Film : FilmT K C) (D_lane : Def P w K mg base CX0 "lane" 3 ["clips", "frame"] (spLaneF K)) (D_extent_of : Def P w K mg base CX0 "extent_of" 4 ["film", "layer", "frame"] (spExt K C))
    (D_corner_of : Def P w K mg base CX0 "_corner_of" 3 ["layer", "frame"] (spCorner K)) (D_adjusts : Def P w K mg base CX0 "_adjusts" 1 ["what"] (spAdj K)) (D_is_full : Def P w K mg base CX0 "is_full" 2 ["paint", "width", "height"] (spFull K)) : FnOk P w K mg base CX0 5 f fd ["film", "layer", "frame"] (spItem K C) := by
  refine F.ok sc_item_of (fun vs H Q E h => ?_) (fun cdv A outer s H vs Q E hr h => ?_)
  · obtain ⟨fv, v, x, l, fr, rfl, _⟩ := h
    rfl
  · obtain ⟨fv, v, x, l, fr, rfl, hf, hv, k, q⟩ := h
    obtain ⟨a, bv, ma, wv, ca, us, ws, rfl, ha, hb, hma, hM, hw, hca, hC⟩ := id hv
    refine ⟨_, (pss_cons (ps_asg (pv 1) (kpgT K (n := 5) rfl (pgs_cons (pg_name (i := 3) sc_item_of.nd rfl (by first | exact Or.inl rfl | exact Or.inr rfl)) (pgs_cons (pg_name (i := 4) sc_item_of.nd rfl (by first | exact Or.inl rfl | exact Or.inr rfl)) (pgs_cons (pg_name (i := 3) sc_item_of.nd rfl (by first | exact Or.inl rfl | exact Or.inr rfl)) (pgs_cons (pg_name (i := 5) sc_item_of.nd rfl (by first | exact Or.inl rfl | exact Or.inr rfl)) (pgs_cons (pg_name (i := 6) sc_item_of.nd rfl (by first | exact Or.inl rfl | exact Or.inr rfl)) pgs_nil)))))))
      (pss_cons (ps_set (i := 7) sc_item_of.nd rfl (by first | exact Or.inl rfl | exact Or.inr rfl) (pe_call D_lane.ok (hr.mono (by decide)) rfl D_lane.mgf D_lane.kp D_lane.b .nil pass0 (pa_cons (pv 6) (pa_cons (pv 2) pa_nil))))
      (pss_cons (ps_set (i := 8) sc_item_of.nd rfl (by first | exact Or.inl rfl | exact Or.inr rfl) (pe_call D_extent_of.ok (hr.mono (by decide)) rfl D_extent_of.mgf D_extent_of.kp D_extent_of.b .nil pass0 (pa_cons (pv 0) (pa_cons (pv 1) (pa_cons (pv 2) pa_nil)))))
      (pss_cons (ps_if (PW.pt (pw_or (pt_cmpR op_isN (pv 7) pe_non (nomark _)) (pw_or1 (pt_cmpR op_isN (pv 8) pe_non (nomark _)))))
        (pss_one (ps_ret pe_non))
        pss_nil)
      (pss_cons (ps_set (i := 9) sc_item_of.nd rfl (by first | exact Or.inl rfl | exact Or.inr rfl) (pe_call D_corner_of.ok (hr.mono (by decide)) rfl D_corner_of.mgf D_corner_of.kp D_corner_of.b .nil pass0 (pa_cons (pv 1) (pa_cons (pv 2) pa_nil))))
      (pss_cons (ps_if (pt_val (pe_call D_adjusts.ok (hr.mono (by decide)) rfl D_adjusts.mgf D_adjusts.kp D_adjusts.b .nil pass0 (pa_cons (pv 5) pa_nil)))
        (pss_one (ps_ret (pe_tup (pa_cons (pv 8) (pa_cons (pv 9) (pa_cons pe_non (pa_cons (pe_glob (v := .int 256) rfl T.LEVEL_MOST_.choose_spec ⟨_, rfl⟩) (pa_cons (pv 5) (pa_cons pe_bl pa_nil)))))))))
        pss_nil)
      (pss_cons (ps_asg (pv 5) (kpgT K (n := 3) rfl (pgs_cons (pg_name (i := 3) sc_item_of.nd rfl (by first | exact Or.inl rfl | exact Or.inr rfl)) (pgs_cons (pg_name (i := 10) sc_item_of.nd rfl (by first | exact Or.inl rfl | exact Or.inr rfl)) (pgs_cons (pg_name (i := 11) sc_item_of.nd rfl (by first | exact Or.inl rfl | exact Or.inr rfl)) pgs_nil)))))
      (pss_cons (ps_set (i := 12) sc_item_of.nd rfl (by first | exact Or.inl rfl | exact Or.inr rfl) (pe_ix (kixT K) (pv 7) pe_int (fun _ _ => rfl)))
      (pss_cons (ps_set (i := 13) sc_item_of.nd rfl (by first | exact Or.inl rfl | exact Or.inr rfl) (pe_op op_fdiv (pe_op op_mul (pv 10) (pe_ix (kixT K) (pv 7) pe_int (fun _ _ => rfl))) (pe_glob (v := .int 256) rfl T.LEVEL_MOST_.choose_spec ⟨_, rfl⟩)))
      (pss_cons (ps_if (pt_cmpR op_eq (pv 13) pe_int (nomark _))
        (pss_one (ps_ret pe_non))
        pss_nil)
      (pss_cons (ps_set (i := 14) sc_item_of.nd rfl (by first | exact Or.inl rfl | exact Or.inr rfl) (pe_and (pe_cmpR op_eq (pv 11) pe_str (nomark _)) (pe_and (pe_cmpR op_eq (pv 13) (pe_glob (v := .int 256) rfl T.LEVEL_MOST_.choose_spec ⟨_, rfl⟩) (nomark _)) (pe_one (pe_call D_is_full.ok (hr.mono (by decide)) rfl D_is_full.mgf D_is_full.kp D_is_full.b .nil pass0 (pa_cons (pv 12) (pa_cons (pe_ix (kixT K) (pv 4) pe_int (fun _ _ => rfl)) (pa_cons (pe_ix (kixT K) (pv 4) pe_int (fun _ _ => rfl)) pa_nil))))))))
      (pss_one (ps_ret (pe_tup (pa_cons (pv 8) (pa_cons (pv 9) (pa_cons (pv 12) (pa_cons (pv 13) (pa_cons (pe_tup (pa_cons (pv 11) pa_nil)) (pa_cons (pv 14) pa_nil)))))))))))))))))))), ?_⟩
    rw [start_nrm (Nat.le_of_ble_eq_true rfl)]; dsimp only [startL]
    refine ⟨_, rfl, a, _, rfl, SqT.of ha, rfl, _, _, rfl, _, _, rfl, _, _, rfl, _, _, rfl, _, _, rfl, rfl, ?_⟩
    dsimp only [List.set]
    refine ⟨_, rfl, _, rfl, ca, ws, l.cs, fr, rfl, hca, hC, fun c hc => (k.cs.ok c hc).num, fun o tv H1 e1 ho htv => ?_⟩
    dsimp only [List.set]
    refine ⟨_, rfl, _, rfl, _, rfl, fv, .ref a, x, l, fr, rfl, hf.ex e1, hv.tk (TK.ex e1), k, fun ev H2 e2 hev => ?_⟩
    have e12 := e1.trans e2
    have htv := htv.tk (TK.ex e2)
    dsimp only [List.set]
    refine ⟨_, rfl, rfl, _, rfl, ?_⟩
    cases o with
    | none =>
      cases htv
      refine iteD rfl ?_
      exact q .non H2 e12 (by unfold Fi.item; rw [there_none ho]; exact rfl)
    | some i =>
      obtain ⟨c, hc, hth, hh⟩ := there_some ho
      obtain ⟨c', la, u, hc', rfl, hla, hu⟩ := htv
      rw [hc] at hc'
      cases hc'
      have hcm := List.mem_of_getElem? hc
      refine iteN (fun z => nomatch z) ?_
      refine ⟨_, rfl, rfl, _, rfl, ?_⟩
      cases hx : x.ext l fr with
      | none =>
        rw [hx] at hev
        cases hev
        refine iteD rfl ?_
        exact q .non H2 e12 (by unfold Fi.item; rw [hth, hx]; exact rfl)
      | some r =>
        rw [hx] at hev
        obtain ⟨ra, rfl, hra⟩ := hev
        refine iteN (fun z => nomatch z) ?_
        refine ⟨_, rfl, _, rfl, .ref a, l, fr, rfl, hv.tk (TK.ex e12), k, fun cv H3 e3 hcv => ?_⟩
        have e13 := e12.trans e3
        have hw3 := hw.tk (TK.ex e13)
        dsimp only [List.set]
        refine ⟨_, rfl, wv, l.wh, rfl, hw3, _, rfl, ?_⟩
        have e23 := e3
        obtain ⟨wa, rfl, hwa⟩ := id hw3
        have hra3 := e3 _ _ hra
        have hla3 := e3 _ _ hla
        have hu3 := hu.tk (TK.ex e3)
        have lv := c.lev_num (k.cs.ok c hcm).num hh.1 hh.2
        by_cases adj : l.wh.adj = true
        · rw [adj]
          refine iteT ?_
          refine ⟨_, rfl, _, rfl, _, rfl, (by show 6 ≤ sizeLine; decide), fun t ht => ?_⟩
          have f1 := Ex.new (o := .tup [.ref ra, cv, .non, .int 256, .ref wa, .bl false]) ht
          obtain ⟨pn, _, _⟩ := (k.cs.adj c hcm).1 adj
          refine q (.ref t) _ (e13.trans f1) ?_
          have el : l.lev fr c = 256 := by
            unfold La.lev
            cases h : l.wh with
            | paint o m => rw [h] at adj; cases adj
            | _ => rfl
          have em : l.wh.md ≠ .over := by
            cases h : l.wh with
            | paint o m => rw [h] at adj; cases adj
            | invert => show Md.invert ≠ .over; decide
            | shift n => show Md.shift n ≠ .over; exact fun z => by cases z
          unfold Fi.item
          rw [hth, hx]
          show OptItV _ _ (if l.lev fr c = 0 then none else _)
          rw [el, if_neg (by decide)]
          refine ⟨t, .ref ra, cv, .non, .ref wa, rfl, ?_, ⟨ra, rfl, f1 _ _ hra3⟩, hcv.tk (TK.ex f1), by show OpV _ _ c.pa; rw [pn]; exact rfl, wa, rfl, ?_⟩
          · rw [upd_same]
            congr 3
            rw [decide_eq_false em]
            rfl
          · rw [f1 _ _ hwa]
            cases h : l.wh with
            | paint o m => rw [h] at adj; cases adj
            | _ => rfl
        · have adj := eq_false_of_ne_true adj
          rw [adj]
          refine iteF ?_
          obtain ⟨p, hp⟩ := (k.cs.adj c hcm).2 adj
          cases hwh : l.wh with
          | invert => rw [hwh] at adj; cases adj
          | shift n => rw [hwh] at adj; cases adj
          | paint o m =>
            rw [hwh] at hwa
            have kw := k.wh
            rw [hwh] at kw
            obtain ⟨o0, o1, hm⟩ := kw
            have el : l.lev fr c = o * c.lev fr / 256 := by unfold La.lev; rw [hwh]
            refine ⟨_, rfl, wa, _, rfl, SqT.of hwa, rfl, _, _, rfl, _, _, rfl, _, _, rfl, rfl, ?_⟩
            dsimp only [List.set]
            refine ⟨_, rfl, la, _, 0, _, rfl, rfl, SqT.of hla3, rfl, ?_⟩
            dsimp only [List.set]
            refine ⟨_, rfl, _, rfl, la, _, 1, _, rfl, rfl, SqT.of hla3, rfl, _, _, rfl, rfl, .inl ⟨by omega, by omega⟩, _, _, rfl, rfl, ⟨by decide, by decide⟩, ?_⟩
            change (L2.tSeq _ _) _ _ _
            have el2 : V.int (o * c.lev fr / 256) = .int (l.lev fr c) := by rw [el]
            dsimp only [List.set]
            refine ⟨_, rfl, rfl, _, rfl, ?_⟩
            obtain ⟨mi, mo⟩ := md_items (o := o) hm
            have fin : ∀ (b : Bool) (H4 : Hp), ¬ o * c.lev fr / 256 = 0 → Ex H3 H4 → (b = true ↔ m = "over" ∧ o * c.lev fr / 256 = 256 ∧ Full c.pa l.box.w l.box.h) → ∀ t1, H4 t1 = none → ∀ t, (upd H4 t1 (.tup [.str m])) t = none → Q (.ref t) (upd (upd H4 t1 (.tup [.str m])) t (.tup [.ref ra, cv, u, .int (o * c.lev fr / 256), .ref t1, .bl b])) := fun b H4 c0 e4 hb t1 ht1 t ht => by
              have f1 := Ex.new (o := .tup [.str m]) ht1
              have f2 := Ex.new (o := .tup [.ref ra, cv, u, .int (o * c.lev fr / 256), .ref t1, .bl b]) ht
              have e34 := (e4.trans f1).trans f2
              refine q (.ref t) _ (e13.trans e34) ?_
              unfold Fi.item
              rw [hth, hx]
              show OptItV _ _ (if l.lev fr c = 0 then none else _)
              rw [el, if_neg c0]
              refine ⟨t, .ref ra, cv, u, .ref t1, rfl, ?_, ⟨ra, rfl, e34 _ _ hra3⟩, hcv.tk (TK.ex e34), hu3.tk (TK.ex e34), t1, rfl, ?_⟩
              · rw [upd_same]
                have eb : b = (decide (l.wh.md = .over) && decide (o * c.lev fr / 256 = 256) && fullB c.pa l.box.w l.box.h) := by
                  rw [Bool.eq_iff_iff, Bool.and_eq_true, Bool.and_eq_true, decide_eq_true_iff, decide_eq_true_iff, fullB_iff, hb, hwh, mo, and_assoc]
                rw [eb]
              · rw [f2 _ _ upd_same, hwh, mi]
            by_cases c0 : o * c.lev fr / 256 = 0
            · rw [decide_eq_true (congrArg V.int c0)]
              refine iteT ?_
              exact q .non H3 e13 (by unfold Fi.item; rw [hth, hx]; show OptItV _ _ (if l.lev fr c = 0 then none else _); rw [el, if_pos c0]; exact rfl)
            · rw [decide_eq_false fun z => c0 (V.int.inj z)]
              refine iteF ?_
              refine ⟨_, rfl, rfl, _, rfl, ?_⟩
              by_cases c1 : m = "over"
              · rw [decide_eq_true (congrArg V.str c1)]
                refine iteT ?_
                refine ⟨_, rfl, rfl, _, rfl, ?_⟩
                by_cases c2 : o * c.lev fr / 256 = 256
                · rw [decide_eq_true (congrArg V.int c2)]
                  refine iteT ?_
                  obtain ⟨ba, rfl, hba⟩ := hb.tk (TK.ex e13)
                  refine ⟨_, rfl, _, rfl, ba, _, 2, _, rfl, rfl, SqT.of hba, rfl, _, rfl, ba, _, 3, _, rfl, rfl, SqT.of hba, rfl, ?_⟩
                  refine ⟨u, c.pa, 12, l.box.w, l.box.h, rfl, hu3, (k.cs.ok c hcm).pa, by decide, k.box.w0, by have := k.box.w1; omega, k.box.h0, by have := k.box.h1; omega, fun b H4 e4 hb4 => ?_⟩
                  dsimp only [List.set]
                  refine ⟨_, rfl, _, rfl, _, rfl, _, rfl, _, rfl, (by show 1 ≤ sizeLine; decide), fun t1 ht1 => ⟨_, rfl, (by show 6 ≤ sizeLine; decide), fun t ht => ?_⟩⟩
                  exact fin b H4 c0 e4 ⟨fun z => ⟨c1, c2, hb4.mp z⟩, fun z => hb4.mpr z.2.2⟩ t1 ht1 t ht
                · rw [decide_eq_false fun z => c2 (V.int.inj z)]
                  refine iteF ?_
                  dsimp only [List.set]
                  refine ⟨_, rfl, _, rfl, _, rfl, _, rfl, _, rfl, (by show 1 ≤ sizeLine; decide), fun t1 ht1 => ⟨_, rfl, (by show 6 ≤ sizeLine; decide), fun t ht => ?_⟩⟩
                  exact fin false H3 c0 (Ex.refl _) ⟨fun z => (by cases z), fun z => absurd z.2.1 c2⟩ t1 ht1 t ht
              · rw [decide_eq_false fun z => c1 (V.str.inj z)]
                refine iteF ?_
                dsimp only [List.set]
                refine ⟨_, rfl, _, rfl, _, rfl, _, rfl, _, rfl, (by show 1 ≤ sizeLine; decide), fun t1 ht1 => ⟨_, rfl, (by show 6 ≤ sizeLine; decide), fun t ht => ?_⟩⟩
                exact fin false H3 c0 (Ex.refl _) ⟨fun z => (by cases z), fun z => absurd z.1 c1⟩ t1 ht1 t ht

abbrev s_items_at : Stmt := top 67
theorem sc_items_at : FnScope ["film", "frame", "items", "layer", "item"] ["film", "frame"] (defScope s_items_at) := ⟨rfl, rfl, rfl, by decide +kernel, rfl, by decide +kernel, by decide +kernel⟩
noncomputable def Fi.items (x : Fi) (f : Int) : List It := x.ls.filterMap fun l => x.item l f
def spItems (K : PySem.W.Frag) (C : Addr) : Sp := fun vs H Q _ => ∃ (fv : V) (x : Fi) (f : Int), vs = [fv, .int f] ∧ FlV C H fv x ∧ (∀ l ∈ x.ls, l.Vd) ∧ x.ls.length ≤ 16 ∧ ∀ p us H', H p = none → Ex H H' → H' p = some (.lst us) → Paired (ItV H') us (x.items f) → Q (.ref p) H'
theorem ok_items_at {f C : Addr} {fd : FuncData} (F : Fun K "items_at" "items_at" s_items_at f fd) (T : Txt K mg) (OT_Film : FilmT K C) (PF_Film_layers : Prp P w K mg base C "layers" 1 (spGetL C)) (D_item_of : Def P w K mg base CX0 "_item_of" 5 ["film", "layer", "frame"] (spItem K C)) : FnOk P w K mg base CX0 6 f fd ["film", "frame"] (spItems K C) := by
  refine F.ok sc_items_at (fun vs H Q E h => ?_) (fun cdv A outer s H vs Q E hr h => ?_)
  · obtain ⟨fv, x, fr, rfl, _⟩ := h
    rfl
  · obtain ⟨fv, x, fr, rfl, hf, k, ll, q⟩ := h
    obtain ⟨fa, dx, L, ls, rfl, hfa, _⟩ := id hf
    refine ⟨_, (pss_cons (ps_setLc (i := 2)  (own := [("layer", 3)]) (tt := tYes) rfl sc_items_at.nd rfl rfl (sw_true rfl rfl rfl (by decide +kernel)) (kpiL K (pe_prop (pv 0) OT_Film.cl PF_Film_layers.hp PF_Film_layers.ok (hr.mono (by decide)) PF_Film_layers.b .nil pass0 rfl)) (blkOk_by (N := ["film", "frame", "items", "layer", "item"]) (sc := defScope s_items_at) (by decide +kernel)) (fun _ _ _ _ _ => (pg_name (i := 3) sc_items_at.nd rfl (by first | exact Or.inl rfl | exact Or.inr rfl))) (fun _ _ _ _ _ => pts_nil) (fun _ _ _ _ _ => (pe_call D_item_of.ok (hr.mono (by decide)) rfl D_item_of.mgf D_item_of.kp D_item_of.b .nil pass0 (pa_cons (pv 0) (pa_cons (pv 3) (pa_cons (pv 1) pa_nil))))))
      (pss_one (ps_ret (pe_lc (own := [("item", 4)]) rfl sc_items_at.nd (kpiL K (pv 2)) (blkOk_by (N := ["film", "frame", "items", "layer", "item"]) (sc := defScope s_items_at) (by decide +kernel)) (fun _ _ _ _ _ => (pg_name (i := 4) sc_items_at.nd rfl (by first | exact Or.inl rfl | exact Or.inr rfl))) (fun _ _ _ _ _ => (pts_one (pt_cmpR op_notN (pv 4) pe_non (nomark _)))) (fun _ _ _ _ _ => (pv 4)))))), ?_⟩
    rw [start_nrm (Nat.le_of_ble_eq_true rfl)]; dsimp only [startL]
    refine ⟨_, rfl, fa, dx, _, rfl, hfa, .ref fa, x, rfl, hf, by omega, fun p us H1 hp e1 hpl hP => ?_⟩
    have lu := hP.length
    refine ⟨p, rfl, ⟨us, SqL.of hpl⟩, fun D hD => ?_⟩
    refine lc_list (xs := us) (fun i H' => Ex H1 H' ∧ ∃ ws, H' D = some (.lst ws) ∧ Paired (OptItV H') ws ((x.ls.take i).map fun l => x.item l fr)) ⟨Ex.new hD, [], upd_same, .nil⟩ (fun i H' _ p => SqL.of (p.1 _ _ hpl)) ?_ ?_
    · rintro i uv H2 hu ⟨e2, ws, hW, hI⟩
      obtain ⟨l, hl, hlv⟩ := pr_get hP hu
      have e12 := e1.trans e2
      refine ⟨rfl, ?_⟩
      refine lcY ?_
      refine ⟨_, rfl, _, rfl, _, rfl, .ref fa, uv, x, l, fr, rfl, hf.ex e12, hlv.tk (TK.ex e2), k l (List.mem_of_getElem? hl), fun r H3 e3 hr3 => ?_⟩
      have hW3 := e3 _ _ hW
      have lw := hI.length
      refine ⟨ws, hW3, slineL (by rw [lw, List.length_map, List.length_take]; omega), (e2.trans e3).mut hD, ws ++ [r], upd_same, ?_⟩
      rw [List.take_add_one, hl, List.map_append]
      have tk := TK.lst (o := .lst (ws ++ [r])) hW3
      exact pr_append (Paired.mapP (Paired.mapP hI fun _ _ => OptItV.tk (TK.ex e3)) fun _ _ => OptItV.tk tk) (.cons (hr3.tk tk) .nil)
    · rintro H2 ⟨e2, ws, hW, hI⟩
      rw [lu, List.take_length] at hI
      have lw := hI.length
      rw [List.length_map] at lw
      refine ⟨_, rfl, D, rfl, ⟨ws, SqL.of hW⟩, fun D2 hD2 => ?_⟩
      refine lc_list (xs := ws) (fun i H' => Ex H2 H' ∧ ∃ zs, H' D2 = some (.lst zs) ∧ Paired (ItV H') zs ((x.ls.take i).filterMap fun l => x.item l fr)) ⟨Ex.new hD2, [], upd_same, .nil⟩ (fun i H' _ p => SqL.of (p.1 _ _ hW)) ?_ ?_
      · rintro i uv H3 hu ⟨e3, zs, hZ, hJ⟩
        obtain ⟨o, ho, hov⟩ := pr_get hI hu
        rw [List.getElem?_map] at ho
        obtain ⟨l, hl, rfl⟩ := Option.map_eq_some_iff.mp ho
        have hov := hov.tk (TK.ex e3)
        have lz := hJ.length
        have fl := List.length_filterMap_le (fun l => x.item l fr) (x.ls.take i)
        rw [List.length_take] at fl
        refine ⟨rfl, ?_⟩
        refine ⟨_, rfl, rfl, _, rfl, ?_⟩
        cases hx : x.item l fr with
        | none =>
          rw [hx] at hov
          cases hov
          refine iteF ?_
          refine ⟨e3, zs, hZ, ?_⟩
          rw [List.take_add_one, hl, List.filterMap_append]
          have : (Option.toList (some l)).filterMap (fun l => x.item l fr) = [] := by simp [hx]
          rw [this, List.append_nil]
          exact hJ
        | some it =>
          rw [hx] at hov
          obtain ⟨ia, _, _, _, _, rfl, _⟩ := id hov
          refine iteT ?_
          have tk := TK.lst (o := .lst (zs ++ [.ref ia])) hZ
          refine ⟨_, rfl, zs, hZ, slineL (by omega), e3.mut hD2, zs ++ [.ref ia], upd_same, ?_⟩
          rw [List.take_add_one, hl, List.filterMap_append]
          have : (Option.toList (some l)).filterMap (fun l => x.item l fr) = [it] := by simp [hx]
          rw [this]
          exact pr_append (Paired.mapP hJ fun _ _ => ItV.tk tk) (.cons (ItV.tk tk hov) .nil)
      · rintro H3 ⟨e3, zs, hZ, hJ⟩
        rw [lw, List.take_length] at hJ
        exact q D2 zs H3 (ex_free (e1.trans e2) hD2) ((e1.trans e2).trans e3) hZ hJ

abbrev s_value_at : Stmt := top 81
theorem sc_value_at : FnScope ["background", "items", "x", "y", "value", "left", "top", "right", "bottom", "corner", "paint", "level", "mode", "_", "over", "cover"] ["background", "items", "x", "y"] (defScope s_value_at) := ⟨rfl, rfl, rfl, by decide +kernel, rfl, by decide +kernel, by decide +kernel⟩
/-- what items make of a value -/
def It.here (i : It) (x y : Int) : Prop := i.ext.l ≤ x ∧ x < i.ext.r ∧ i.ext.t ≤ y ∧ y < i.ext.b
instance (i : It) (x y : Int) : Decidable (i.here x y) := inferInstanceAs (Decidable (_ ∧ _ ∧ _ ∧ _))
def It.step (x y : Int) (v : Int) (i : It) : Int := if i.here x y then i.md.mix v (opAt i.pa (x - i.at_.1) (y - i.at_.2)).1 ((opAt i.pa (x - i.at_.1) (y - i.at_.2)).2 * i.lv / 256) else v
def valAt (b : Int) (is : List It) (x y : Int) : Int := is.foldl (It.step x y) b
/-- items whose parts are within bounds -/
structure It.Ok (i : It) : Prop where
  pa : opOk 12 i.pa
  l0 : 0 ≤ i.lv
  l1 : i.lv ≤ 256
  md : i.md.Ok
  x0 : i.at_.1 ≤ i.ext.l
  x1 : i.ext.r ≤ i.at_.1 + 64
  y0 : i.at_.2 ≤ i.ext.t
  y1 : i.ext.b ≤ i.at_.2 + 64
theorem It.step_in {i : It} (k : i.Ok) (x y : Int) {v : Int} (v0 : 0 ≤ v) (v1 : v ≤ 255) : 0 ≤ i.step x y v ∧ i.step x y v ≤ 255 := by
  unfold It.step
  split
  · obtain ⟨a, b, c, d⟩ := opAt_in k.pa (x - i.at_.1) (y - i.at_.2)
    obtain ⟨e, f⟩ := cov_in c d k.l0 k.l1
    exact i.md.mix_in v0 v1 a b e f
  · exact ⟨v0, v1⟩
theorem valAt_in : ∀ {is : List It} {x y b : Int}, (∀ i ∈ is, i.Ok) → 0 ≤ b → b ≤ 255 → 0 ≤ valAt b is x y ∧ valAt b is x y ≤ 255
  | [], _, _, _, _, b0, b1 => ⟨b0, b1⟩
  | i :: is, x, y, b, k, b0, b1 => by
    obtain ⟨s0, s1⟩ := It.step_in (k i (List.mem_cons_self ..)) x y b0 b1
    exact valAt_in (is := is) (fun m hm => k m (List.mem_cons_of_mem _ hm)) s0 s1
def spValue (K : PySem.W.Frag) : Sp := fun vs H Q _ => ∃ (a : Addr) (us : List V) (is : List It) (b x y : Int), vs = [.int b, .ref a, .int x, .int y] ∧ H a = some (.lst us) ∧ Paired (ItV H) us is ∧ (∀ i ∈ is, i.Ok) ∧ 0 ≤ b ∧ b ≤ 255 ∧ ∀ H', Ex H H' → Q (.int (valAt b is x y)) H'
theorem ok_value_at {f : Addr} {fd : FuncData} (F : Fun K "_value_at" "_value_at" s_value_at f fd) (T : Txt K mg) (D_paint_at : Def P w K mg base CX0 "paint_at" 2 ["paint", "x", "y"] (spAt K)) (D_blended : Def P w K mg base CX0 "blended" 2 ["mode", "value", "paint", "cover"] (spBlend K Md.mix)) : FnOk P w K mg base CX0 3 f fd ["background", "items", "x", "y"] (spValue K) := by
  refine F.ok sc_value_at (fun vs H Q E h => ?_) (fun cdv A outer s H vs Q E hr h => ?_)
  · obtain ⟨a, us, is, b, x, y, rfl, _⟩ := h
    rfl
  · obtain ⟨a, us, is, b, x, y, rfl, ha, hI, k, b0, b1, q⟩ := h
    refine ⟨_, (pss_cons (ps_set (i := 4) sc_value_at.nd rfl (by first | exact Or.inl rfl | exact Or.inr rfl) (pv 0))
      (pss_cons (ps_for PassesOwn.never rfl (kpiL K (pv 1)) (kpgT K (n := 6) rfl (pgs_cons (kpgT K (n := 4) rfl (pgs_cons (pg_name (i := 5) sc_value_at.nd rfl (by first | exact Or.inl rfl | exact Or.inr rfl)) (pgs_cons (pg_name (i := 6) sc_value_at.nd rfl (by first | exact Or.inl rfl | exact Or.inr rfl)) (pgs_cons (pg_name (i := 7) sc_value_at.nd rfl (by first | exact Or.inl rfl | exact Or.inr rfl)) (pgs_cons (pg_name (i := 8) sc_value_at.nd rfl (by first | exact Or.inl rfl | exact Or.inr rfl)) pgs_nil))))) (pgs_cons (pg_name (i := 9) sc_value_at.nd rfl (by first | exact Or.inl rfl | exact Or.inr rfl)) (pgs_cons (pg_name (i := 10) sc_value_at.nd rfl (by first | exact Or.inl rfl | exact Or.inr rfl)) (pgs_cons (pg_name (i := 11) sc_value_at.nd rfl (by first | exact Or.inl rfl | exact Or.inr rfl)) (pgs_cons (pg_name (i := 12) sc_value_at.nd rfl (by first | exact Or.inl rfl | exact Or.inr rfl)) (pgs_cons (pg_name (i := 13) sc_value_at.nd rfl (by first | exact Or.inl rfl | exact Or.inr rfl)) pgs_nil)))))))
        (pss_one (ps_if (PW.pt (pw_and (pt_chain op_le op_lt (pv 5) (pv 2) (pv 7)) (pw_and1 (pt_chain op_le op_lt (pv 6) (pv 3) (pv 8)))))
          (pss_cons (ps_asg (pe_call D_paint_at.ok (hr.mono (by decide)) rfl D_paint_at.mgf D_paint_at.kp D_paint_at.b .nil pass0 (pa_cons (pv 10) (pa_cons (pe_op op_sub (pv 2) (pe_ix (kixT K) (pv 9) pe_int (fun _ _ => rfl))) (pa_cons (pe_op op_sub (pv 3) (pe_ix (kixT K) (pv 9) pe_int (fun _ _ => rfl))) pa_nil)))) (kpgT K (n := 2) rfl (pgs_cons (pg_name (i := 14) sc_value_at.nd rfl (by first | exact Or.inl rfl | exact Or.inr rfl)) (pgs_cons (pg_name (i := 15) sc_value_at.nd rfl (by first | exact Or.inl rfl | exact Or.inr rfl)) pgs_nil))))
          (pss_one (ps_set (i := 4) sc_value_at.nd rfl (by first | exact Or.inl rfl | exact Or.inr rfl) (pe_call D_blended.ok (hr.mono (by decide)) rfl D_blended.mgf D_blended.kp D_blended.b .nil pass0 (pa_cons (pv 12) (pa_cons (pv 4) (pa_cons (pv 14) (pa_cons (pe_op op_fdiv (pe_op op_mul (pv 15) (pv 11)) (pe_glob (v := .int 256) rfl T.LEVEL_MOST_.choose_spec ⟨_, rfl⟩)) pa_nil))))))))
          pss_nil)))
      (pss_one (ps_ret (pv 4))))), ?_⟩
    rw [start_nrm (Nat.le_of_ble_eq_true rfl)]; dsimp only [startL]
    refine ⟨_, rfl, ?_⟩
    dsimp only [List.set]
    refine ⟨_, rfl, a, rfl, ⟨_, SqL.of ha⟩, ?_⟩
    have lu := hI.length
    refine for_list (K := K) (a := a) (xs := us) (fun i σ H' => Ex H H' ∧ ∃ (z5 z6 z7 z8 z9 z10 z11 z12 z13 z14 z15 : Option V), σ = [some (.int b), some (.ref a), some (.int x), some (.int y), some (.int (valAt b (is.take i) x y)), z5, z6, z7, z8, z9, z10, z11, z12, z13, z14, z15]) ⟨Ex.refl _, none, none, none, none, none, none, none, none, none, none, none, rfl⟩ (fun i σ H' _ p => SqL.of (p.1 _ _ ha)) ?_ ?_
    · rintro i uv σ H1 hu ⟨e1, z5, z6, z7, z8, z9, z10, z11, z12, z13, z14, z15, rfl⟩
      obtain ⟨it, hit, hiv⟩ := pr_get hI hu
      have hiv := hiv.tk (TK.ex e1)
      have ki := k it (List.mem_of_getElem? hit)
      obtain ⟨ia, ev, cv, pv, mv, rfl, h1, ⟨ea, rfl, hea⟩, hcv, hpv, hmv⟩ := id hiv
      obtain ⟨va, vb⟩ := valAt_in (is := is.take i) (x := x) (y := y) (fun j hj => k j (List.mem_of_mem_take hj)) b0 b1
      have stp : valAt b (is.take (i + 1)) x y = it.step x y (valAt b (is.take i) x y) := by
        unfold valAt
        rw [List.take_add_one, hit, List.foldl_append]
        rfl
      refine ⟨ia, _, rfl, SqT.of h1, rfl, _, _, rfl, ea, _, rfl, SqT.of hea, rfl, _, _, rfl, _, _, rfl, _, _, rfl, _, _, rfl, rfl, _, _, rfl, _, _, rfl, _, _, rfl, _, _, rfl, _, _, rfl, rfl, ?_⟩
      dsimp only [List.set]
      have next : ¬ it.here x y → Ex H H1 ∧ ∃ (w5 w6 w7 w8 w9 w10 w11 w12 w13 w14 w15 : Option V), [some (.int b), some (.ref a), some (.int x), some (.int y), some (.int (valAt b (is.take i) x y)), some (.int it.ext.l), some (.int it.ext.t), some (.int it.ext.r), some (.int it.ext.b), some cv, some pv, some (.int it.lv), some mv, some (.bl it.hides), z14, z15] = [some (.int b), some (.ref a), some (.int x), some (.int y), some (.int (valAt b (is.take (i + 1)) x y)), w5, w6, w7, w8, w9, w10, w11, w12, w13, w14, w15] := fun no => by
        rw [stp, It.step, if_neg no]
        exact ⟨e1, _, _, _, _, _, _, _, _, _, _, _, rfl⟩
      refine ⟨_, rfl, _, rfl, _, _, rfl, rfl, _, rfl, ?_⟩
      refine ite2 (fun c1 => ?_) (fun c1 => ⟨_, rfl, iteF (iteF (next fun z => c1 (decide_eq_true z.1)))⟩)
      have c1 := of_decide_eq_true c1
      refine ⟨_, rfl, _, _, rfl, rfl, _, rfl, ?_⟩
      refine ite2 (fun c2 => ?_) (fun c2 => iteF (next fun z => c2 (decide_eq_true z.2.1)))
      have c2 := of_decide_eq_true c2
      refine ⟨_, rfl, _, rfl, _, _, rfl, rfl, _, rfl, ?_⟩
      refine ite2 (fun c3 => ?_) (fun c3 => ⟨_, rfl, iteF (next fun z => c3 (decide_eq_true z.2.2.1))⟩)
      have c3 := of_decide_eq_true c3
      refine ⟨_, rfl, _, _, rfl, rfl, _, rfl, ?_⟩
      refine ite2 (fun c4 => ?_) (fun c4 => next fun z => c4 (decide_eq_true z.2.2.2))
      have c4 := of_decide_eq_true c4
      have yes : it.here x y := ⟨c1, c2, c3, c4⟩
      obtain ⟨ca, rfl, hca⟩ := hcv
      have kx0 := ki.x0
      have kx1 := ki.x1
      have ky0 := ki.y0
      have ky1 := ki.y1
      refine ⟨_, rfl, _, rfl, _, rfl, ca, _, 0, _, rfl, rfl, SqT.of hca, rfl, _, _, rfl, rfl, _, rfl, _, rfl, ca, _, 1, _, rfl, rfl, SqT.of hca, rfl, _, _, rfl, rfl, ?_⟩
      refine ⟨pv, it.pa, 12, x - it.at_.1, y - it.at_.2, rfl, hpv, ki.pa, by decide, by omega, by omega, by omega, by omega, fun u H2 e2 hu2 => ?_⟩
      obtain ⟨ua, rfl, hua⟩ := hu2
      obtain ⟨p0, p1, q0, q1⟩ := opAt_in ki.pa (x - it.at_.1) (y - it.at_.2)
      have cv1 := cov_in q0 q1 ki.l0 ki.l1
      refine ⟨ua, _, rfl, SqT.of hua, rfl, _, _, rfl, _, _, rfl, rfl, ?_⟩
      dsimp only [List.set]
      refine ⟨_, rfl, _, rfl, _, rfl, _, rfl, _, rfl, _, _, rfl, rfl, .inl ⟨by omega, by omega⟩, _, _, rfl, rfl, ⟨by decide, by decide⟩, ?_⟩
      refine ⟨mv, it.md, _, _, _, rfl, hmv.tk (TK.ex e2), ki.md, va, vb, p0, p1, cv1.1, cv1.2, ?_⟩
      dsimp only [List.set]
      rw [stp, It.step, if_pos yes]
      exact ⟨e1.trans e2, _, _, _, _, _, _, _, _, _, _, _, rfl⟩
    · rintro σ H1 ⟨e1, z5, z6, z7, z8, z9, z10, z11, z12, z13, z14, z15, rfl⟩
      rw [lu, List.take_length]
      exact ⟨_, rfl, q H1 e1⟩

theorem ext_in {x : Fi} {l : La} {f : Int} {r : Rc} (k : l.Vd) (h : x.ext l f = some r) : (l.corner f).1 ≤ r.l ∧ r.r ≤ (l.corner f).1 + 64 ∧ (l.corner f).2 ≤ r.t ∧ r.b ≤ (l.corner f).2 + 64 ∧ 0 ≤ r.l ∧ r.r ≤ x.w ∧ 0 ≤ r.t ∧ r.b ≤ x.h ∧ r.l < r.r ∧ r.t < r.b := by
  unfold Fi.ext at h
  by_cases c : (box4 x l f).l ≥ (box4 x l f).r ∨ (box4 x l f).t ≥ (box4 x l f).b
  · rw [if_pos c] at h
    cases h
  · rw [if_neg c] at h
    cases h
    have := k.box.w1
    have := k.box.h1
    have h1 : (l.corner f).1 ≤ (box4 x l f).l ∧ 0 ≤ (box4 x l f).l := by
      show _ ≤ (if (l.corner f).1 > 0 then (l.corner f).1 else 0) ∧ 0 ≤ (if (l.corner f).1 > 0 then (l.corner f).1 else 0)
      split <;> omega
    have h2 : (l.corner f).2 ≤ (box4 x l f).t ∧ 0 ≤ (box4 x l f).t := by
      show _ ≤ (if (l.corner f).2 > 0 then (l.corner f).2 else 0) ∧ 0 ≤ (if (l.corner f).2 > 0 then (l.corner f).2 else 0)
      split <;> omega
    have h3 : (box4 x l f).r ≤ (l.corner f).1 + l.box.w ∧ (box4 x l f).r ≤ x.w := by
      show (if (l.corner f).1 + l.box.w < x.w then (l.corner f).1 + l.box.w else x.w) ≤ _ ∧ (if (l.corner f).1 + l.box.w < x.w then (l.corner f).1 + l.box.w else x.w) ≤ _
      split <;> omega
    have h4 : (box4 x l f).b ≤ (l.corner f).2 + l.box.h ∧ (box4 x l f).b ≤ x.h := by
      show (if (l.corner f).2 + l.box.h < x.h then (l.corner f).2 + l.box.h else x.h) ≤ _ ∧ (if (l.corner f).2 + l.box.h < x.h then (l.corner f).2 + l.box.h else x.h) ≤ _
      split <;> omega
    omega
theorem wh_md {x : Wh} (k : x.Ok) : x.md.Ok := by
  cases x with
  | invert => trivial
  | shift n => exact k
  | paint o m =>
    obtain ⟨_, _, hm⟩ := k
    show (if m = "over" then Md.over else if m = "add" then Md.add else Md.times).Ok
    split
    · trivial
    · split <;> trivial
theorem item_ok {x : Fi} {l : La} {f : Int} {i : It} (k : l.Vd) (h : x.item l f = some i) : i.Ok ∧ 0 < i.lv ∧ x.ext l f = some i.ext ∧ i.at_ = l.corner f := by
  unfold Fi.item at h
  split at h
  · rename_i c r hc hr
    have hcm : c ∈ l.cs := List.mem_of_find?_eq_some hc
    have hh := List.find?_some hc
    rw [Bool.and_eq_true, decide_eq_true_eq, decide_eq_true_eq] at hh
    split at h
    · cases h
    · rename_i c0
      cases h
      obtain ⟨a, b, c2, d, _⟩ := ext_in k hr
      have lv := c.lev_num (k.cs.ok c hcm).num hh.1 hh.2
      have lb : 0 ≤ l.lev f c ∧ l.lev f c ≤ 256 := by
        unfold La.lev
        cases hw : l.wh with
        | paint o m =>
          have kw := k.wh
          rw [hw] at kw
          obtain ⟨o0, o1, _⟩ := kw
          exact cov_in o0 o1 lv.1 lv.2
        | invert => exact ⟨by show (0 : Int) ≤ 256; decide, Int.le_refl 256⟩
        | shift n => exact ⟨by show (0 : Int) ≤ 256; decide, Int.le_refl 256⟩
      exact ⟨⟨(k.cs.ok c hcm).pa, lb.1, lb.2, wh_md k.wh, a, b, c2, d⟩, by show 0 < l.lev f c; omega, hr, rfl⟩
  · cases h
theorem items_ok {x : Fi} {f : Int} (k : ∀ l ∈ x.ls, l.Vd) : ∀ i ∈ x.items f, i.Ok := fun i hi => by
  obtain ⟨l, hl, h⟩ := List.mem_filterMap.mp hi
  exact (item_ok (k l hl) h).1
/-- the shown value of a point -/
noncomputable def Fi.val (x : Fi) (f px py : Int) : Int := valAt x.b (x.items f) px py

abbrev s_picture_of : Stmt := top 80
theorem sc_picture_of : FnScope ["film", "frame", "items", "y", "x"] ["film", "frame"] (defScope s_picture_of) := ⟨rfl, rfl, rfl, by decide +kernel, rfl, by decide +kernel, by decide +kernel⟩
/-- rows of ints, as lists in a list -/
def RowP (H0 H : Hp) (a : Addr) (u : V) (r : List Int) : Prop := ∃ b, u = .ref b ∧ H0 b = none ∧ b ≠ a ∧ H b = some (.lst (r.map V.int))
/-- they are new since H0 -/
def RowsV (H0 H : Hp) (v : V) (rows : List (List Int)) : Prop := ∃ a us, v = .ref a ∧ H0 a = none ∧ H a = some (.lst us) ∧ Paired (RowP H0 H a) us rows
theorem RowsV.ex {H0 H H' : Hp} {v : V} {rows : List (List Int)} (e : Ex H H') (h : RowsV H0 H v rows) : RowsV H0 H' v rows := by
  obtain ⟨a, us, rfl, h0, h1, h2⟩ := h
  exact ⟨a, us, rfl, h0, e _ _ h1, Paired.mapP h2 fun _ _ ⟨b, eb, n1, n2, hb⟩ => ⟨b, eb, n1, n2, e _ _ hb⟩⟩
noncomputable def Fi.row (x : Fi) (f py : Int) : List Int := (List.range x.w.toNat).map fun (i : Nat) => x.val f i py
noncomputable def Fi.rows (x : Fi) (f : Int) : List (List Int) := (List.range x.h.toNat).map fun (j : Nat) => x.row f j
def spPicOf (K : PySem.W.Frag) (C : Addr) : Sp := fun vs H Q _ => ∃ (fv : V) (x : Fi) (f : Int), vs = [fv, .int f] ∧ FlV C H fv x ∧ x.Vd ∧ ∀ v H', Ex H H' → RowsV H H' v (x.rows f) → Q v H'
theorem ok_picture_of {f C : Addr} {fd : FuncData} (F : Fun K "picture_of" "picture_of" s_picture_of f fd) (T : Txt K mg) (OT_Film : FilmT K C) (D_items_at : Def P w K mg base CX0 "items_at" 6 ["film", "frame"] (spItems K C)) (PF_Film_height : Prp P w K mg base C "height" 1 (spGetI C Fi.h)) (PF_Film_width : Prp P w K mg base C "width" 1 (spGetI C Fi.w))
    (D_value_at : Def P w K mg base CX0 "_value_at" 3 ["background", "items", "x", "y"] (spValue K)) (PF_Film_background : Prp P w K mg base C "background" 1 (spGetI C Fi.b)) : FnOk P w K mg base CX0 7 f fd ["film", "frame"] (spPicOf K C) := by
  refine F.ok sc_picture_of (fun vs H Q E h => ?_) (fun cdv A outer s H vs Q E hr h => ?_)
  · obtain ⟨fv, x, fr, rfl, _⟩ := h
    rfl
  · obtain ⟨fv, x, fr, rfl, hf, k, q⟩ := h
    obtain ⟨fa, dx, L, ls, rfl, hfa, _⟩ := id hf
    refine ⟨_, (pss_cons (ps_set (i := 2) sc_picture_of.nd rfl (by first | exact Or.inl rfl | exact Or.inr rfl) (pe_call D_items_at.ok (hr.mono (by decide)) rfl D_items_at.mgf D_items_at.kp D_items_at.b .nil pass0 (pa_cons (pv 0) (pa_cons (pv 1) pa_nil))))
      (pss_one (ps_ret (pe_lc (own := [("y", 3)]) (tt := tYes) rfl sc_picture_of.nd (pi_range1 (by rfl) T.range_ (pa_cons (pe_prop (pv 0) OT_Film.cl PF_Film_height.hp PF_Film_height.ok (hr.mono (by decide)) PF_Film_height.b .nil pass0 rfl) pa_nil)) (blkOk_by (N := ["film", "frame", "items", "y", "x"]) (sc := defScope s_picture_of) (by decide +kernel)) (fun _ _ _ _ _ => (pg_name (i := 3) sc_picture_of.nd rfl (by first | exact Or.inl rfl | exact Or.inr rfl))) (fun _ _ _ _ _ => pts_nil) (fun _ _ _ _ _ => (pe_lc (own := [("x", 4)]) (tt := tYes) rfl sc_picture_of.nd (pi_range1 (by rfl) T.range_ (pa_cons (pe_prop (pv 0) OT_Film.cl PF_Film_width.hp PF_Film_width.ok (hr.mono (by decide)) PF_Film_width.b .nil pass0 rfl) pa_nil)) (blkOk_by (N := ["film", "frame", "items", "y", "x"]) (sc := { kind := ScopeKind.function, names := [(Str.ofString ".0", NameKind.local), (Str.ofString "y", NameKind.cell), (Str.ofString "range", NameKind.globalImplicit), (Str.ofString "film", NameKind.cell), (Str.ofString "items", NameKind.cell)], isGenerator := false, isCoroutine := false, more := [] }) (by decide +kernel)) (fun _ _ _ _ _ => (pg_name (i := 4) sc_picture_of.nd rfl (by first | exact Or.inl rfl | exact Or.inr rfl))) (fun _ _ _ _ _ => pts_nil) (fun _ _ _ _ _ => (pe_call D_value_at.ok (hr.mono (by decide)) rfl D_value_at.mgf D_value_at.kp D_value_at.b .nil pass0 (pa_cons (pe_prop (pv 0) OT_Film.cl PF_Film_background.hp PF_Film_background.ok (hr.mono (by decide)) PF_Film_background.b .nil pass0 rfl) (pa_cons (pv 2) (pa_cons (pv 4) (pa_cons (pv 3) pa_nil)))))))))))), ?_⟩
    rw [start_nrm (Nat.le_of_ble_eq_true rfl)]; dsimp only [startL]
    refine ⟨_, rfl, _, rfl, .ref fa, x, fr, rfl, hf, k.ok, k.len, fun p us H1 hp e1 hpl hI => ?_⟩
    dsimp only [List.set]
    have hf1 := hf.ex e1
    refine ⟨_, rfl, fa, dx, _, rfl, e1 _ _ hfa, .ref fa, x, rfl, hf1, ?_⟩
    have kh0 := k.h0
    have kh1 := k.h1
    have kw0 := k.w0
    have kw1 := k.w1
    refine ⟨x.h, rfl, by omega, by omega, fun D hD => ?_⟩
    refine lc_range (lo := 0) (n := x.h.toNat) (fun j H' => Ex H1 H' ∧ ∃ ws, H' D = some (.lst ws) ∧ Paired (RowP H H' D) ws ((List.range j).map fun (i : Nat) => x.row fr i)) ⟨Ex.new hD, [], upd_same, .nil⟩ ?_ ?_
    · rintro j H2 hj ⟨e2, ws, hW, hR⟩
      have lw := hR.length
      rw [List.length_map, List.length_range] at lw
      refine ⟨rfl, lcY ?_⟩
      refine ⟨_, rfl, fa, dx, _, rfl, (e1.trans e2) _ _ hfa, .ref fa, x, rfl, hf1.ex e2, x.w, rfl, by omega, by omega, fun D2 hD2 => ?_⟩
      refine lc_range (lo := 0) (n := x.w.toNat) (fun i H' => Ex H2 H' ∧ H' D2 = some (.lst (((List.range i).map fun (i : Nat) => x.val fr i j).map V.int))) ⟨Ex.new hD2, upd_same⟩ ?_ ?_
      · rintro i H3 hi ⟨e3, hV⟩
        have e23 := e2.trans e3
        refine ⟨rfl, lcY ?_⟩
        refine ⟨_, rfl, fa, dx, _, rfl, (e1.trans e23) _ _ hfa, .ref fa, x, rfl, hf1.ex e23, _, rfl, _, rfl, _, rfl, p, us, x.items fr, x.b, 0 + (i : Int), 0 + (j : Int), rfl, e23 _ _ hpl, Paired.mapP hI fun _ _ => ItV.tk (TK.ex e23), items_ok k.ok, k.b0, k.b1, fun H4 e4 => ?_⟩
        refine ⟨_, e4 _ _ hV, slineL (by simp only [List.length_map, List.length_range]; omega), (e3.trans e4).mut hD2, ?_⟩
        rw [upd_same, List.range_succ, List.map_append, List.map_append, Int.zero_add, Int.zero_add]
        rfl
      · rintro H3 ⟨e3, hV⟩
        have hW3 := e3 _ _ hW
        have nd : D2 ≠ D := fun z => by rw [z, hW] at hD2; cases hD2
        refine ⟨ws, hW3, slineL (by omega), (e2.trans e3).mut hD, ws ++ [.ref D2], upd_same, ?_⟩
        have stay : ∀ {u : V} {r : List Int}, RowP H H2 D u r → RowP H (upd H3 D (.lst (ws ++ [.ref D2]))) D u r := fun {u r} h => by
          obtain ⟨b, rfl, n1, n2, hb⟩ := h
          exact ⟨b, rfl, n1, n2, by rw [upd_ne n2]; exact e3 _ _ hb⟩
        rw [List.range_succ, List.map_append]
        refine pr_append (Paired.mapP hR fun _ _ => stay) (.cons ⟨D2, rfl, ex_free (e1.trans e2) hD2, nd, by rw [upd_ne nd]; exact hV⟩ .nil)
    · rintro H2 ⟨e2, ws, hW, hR⟩
      exact q (.ref D) H2 (e1.trans e2) ⟨D, ws, rfl, ex_free e1 hD, hW, hR⟩

abbrev s_l_made : Stmt := top 93
theorem sc_l_made : FnScope ["parts"] ["parts"] (defScope s_l_made) := ⟨rfl, rfl, rfl, by decide +kernel, rfl, by decide +kernel, by decide +kernel⟩
def spMade (K : PySem.W.Frag) (C : Addr) : Sp := fun vs H Q _ => ∃ (v : V) (x : Fi), vs = [v] ∧ FiV H v x ∧ x.Vd ∧ ∀ u H', Ex H H' → FlV C H' u x → Q u H'
theorem ok_l_made {f C : Addr} {fd : FuncData} (F : Fun K "_law_made" "_law_made" s_l_made f fd) (T : Txt K mg) (MK_Film : MkO P w K mg base CX0 "Film" C 8 ["self", "width", "height", "frames", "background", "layers"] (spFilmVd C)) : FnOk P w K mg base CX0 10 f fd ["parts"] (spMade K C) := by
  refine F.ok sc_l_made (fun vs H Q E h => ?_) (fun cdv A outer s H vs Q E hr h => ?_)
  · obtain ⟨v, x, rfl, _⟩ := h
    rfl
  · obtain ⟨v, x, rfl, ⟨a, L, us, rfl, ha, hL, hP⟩, k, q⟩ := h
    refine ⟨_, (pss_one (ps_ret (pe_make MK_Film.M MK_Film.ok (hr.mono (by decide)) rfl MK_Film.mgC MK_Film.b .nil pass0 (pa_cons (pe_ix (kixT K) (pv 0) pe_int (fun _ _ => rfl)) (pa_cons (pe_ix (kixT K) (pv 0) pe_int (fun _ _ => rfl)) (pa_cons (pe_ix (kixT K) (pv 0) pe_int (fun _ _ => rfl)) (pa_cons (pe_ix (kixT K) (pv 0) pe_int (fun _ _ => rfl)) (pa_cons (pe_callTy (klist K) (by rfl) T.list_ bt_list (pa_cons (pe_ix (kixT K) (pv 0) pe_int (fun _ _ => rfl)) pa_nil)) pa_nil)))))))), ?_⟩
    rw [start_nrm (Nat.le_of_ble_eq_true rfl)]; dsimp only [startL]
    refine ⟨_, rfl, a, _, 0, _, rfl, rfl, SqT.of ha, rfl, _, rfl, a, _, 1, _, rfl, rfl, SqT.of ha, rfl, _, rfl, a, _, 2, _, rfl, rfl, SqT.of ha, rfl, _, rfl, a, _, 3, _, rfl, rfl, SqT.of ha, rfl, _, rfl, a, _, 4, _, rfl, rfl, SqT.of ha, rfl, L, us, rfl, .inl (SqL.of hL), fun l hl => ?_⟩
    have f1 := Ex.new (o := .lst us) hl
    have k1 : upd H l (.lst us) l = some (.lst us) := upd_same
    generalize upd H l (.lst us) = H1 at f1 k1 ⊢
    intro s dx hs hdx ne
    have e2 : Ex H1 (upd (upd H1 dx (.own s)) s (.ins C dx [])) := (Ex.new hdx).trans (Ex.new (by rw [upd_ne (Ne.symm ne)]; exact hs))
    have ks : upd (upd H1 dx (.own s)) s (.ins C dx []) s = some (.ins C dx []) := upd_same
    generalize upd (upd H1 dx (.own s)) s (.ins C dx []) = H2 at e2 ks ⊢
    refine ⟨s, dx, x, l, us, rfl, ks, e2 _ _ k1, Paired.mapP hP fun _ _ => LaV.tk (TK.ex (f1.trans e2)), k, fun H3 dx' L' hL' keep hs3 hL3 => ⟨rfl, ?_⟩⟩
    have e3 : Ex H H3 := fun b o hb => by
      have h2 := (f1.trans e2) _ _ hb
      refine keep b o h2 fun z => ?_
      subst z
      have := f1 _ _ hb
      rw [hs] at this
      cases this
    refine q (.ref s) H3 e3 ⟨s, dx', L', us, rfl, hs3, hL3, Paired.mapP hP fun _ _ => LaV.tk (TK.ex e3)⟩

/-! layers as data -/
def bxD (b : Bx) : PyData := .tuple [.int b.l, .int b.t, .int b.w, .int b.h]
def whD : Wh → PyData
  | .invert => .tuple [.str "invert"] | .shift n => .tuple [.str "shift", .int n] | .paint o m => .tuple [.str "paint", .int o, .str m]
def laD (l : La) : PyData := .tuple [.str l.name, bxD l.box, .tuple (l.ms.map mvD), whD l.wh, clsD l.cs]
theorem LaV.dp {K : PySem.W.Frag} {H : Hp} {v : V} {l : La} (h : LaV H v l) : Dp K H v (laD l) := by
  obtain ⟨a, bv, ma, wv, ca, us, ws, rfl, h1, ⟨ba, rfl, hb⟩, h3, h4, ⟨wa, rfl, hw⟩, h6, h7⟩ := h
  refine .tup (SqT.of h1) (.cons (.str _) (.cons (.tup (SqT.of hb) (dp_ints [l.box.l, l.box.t, l.box.w, l.box.h])) (.cons (.tup (SqT.of h3) (dp_all (fun _ _ z => MvV.dp z) h4)) (.cons ?_ (.cons (.tup (SqT.of h6) (dp_all (fun _ _ z => ClV.dp z) h7)) .nil)))))
  cases hx : l.wh with
  | invert => rw [hx] at hw; exact .tup (SqT.of hw) (.cons (.str _) .nil)
  | shift n => rw [hx] at hw; exact .tup (SqT.of hw) (.cons (.str _) (.cons (.int _) .nil))
  | paint o m => rw [hx] at hw; exact .tup (SqT.of hw) (.cons (.str _) (.cons (.int _) (.cons (.str _) .nil)))
theorem cl_lay (c : Cl) : (clD c).canLay0 = true := by simp only [clD, PyData.canLay0, PyData.canLayAll0, op_lay, Bool.and_true]
theorem cl_depth (c : Cl) : (clD c).depth ≤ 4 := by
  have := op_depth c.pa
  simp only [clD, PyData.depth, PyData.depthAll]
  omega
theorem canLay_mem {α : Type} {f : α → PyData} : ∀ xs : List α, (∀ x ∈ xs, (f x).canLay0 = true) → PyData.canLayAll0 (xs.map f) = true
  | [], _ => by simp [PyData.canLayAll0]
  | x :: xs, h => by
    rw [List.map_cons, PyData.canLayAll0, h x (List.mem_cons_self ..), canLay_mem xs fun y hy => h y (List.mem_cons_of_mem _ hy)]
    rfl
theorem strOk_name {z : Str} (h : nameS z = true) : PyData.strOk z = true := by
  unfold nameS at h
  rw [Bool.and_eq_true] at h
  have h2 := List.all_eq_true.mp h.2
  show z.cps.all _ = true
  rw [← Array.all_toList, List.all_eq_true]
  intro c hc
  have hm := of_decide_eq_true (h2 c hc)
  have hl : (letters.all fun c => decide (c < 1114112)) = true := by decide +kernel
  exact List.all_eq_true.mp hl c hm
theorem wh_lay {x : Wh} (k : x.Ok) : (whD x).canLay0 = true := by
  cases x with
  | invert => simp only [whD, PyData.canLay0, PyData.canLayAll0, Bool.and_true]; decide +kernel
  | shift n => simp only [whD, PyData.canLay0, PyData.canLayAll0, Bool.and_true]; decide +kernel
  | paint o m =>
    obtain ⟨_, _, hm⟩ := k
    unfold modes3 at hm
    simp only [List.mem_cons, List.not_mem_nil, or_false] at hm
    simp only [whD, PyData.canLay0, PyData.canLayAll0, Bool.and_true, Bool.true_and]
    rcases hm with rfl | rfl | rfl <;> decide +kernel
theorem la_lay {l : La} (k : l.Vd) : (laD l).canLay0 = true := by
  have h1 : PyData.canLayAll0 (l.ms.map mvD) = true := canLay_map (fun m => by simp [mvD, PyData.canLay0, PyData.canLayAll0]) _
  have h2 : PyData.canLayAll0 (l.cs.map clD) = true := canLay_map cl_lay _
  have h3 := wh_lay k.wh
  have h4 := strOk_name k.name
  simp only [laD, bxD, clsD, PyData.canLay0, PyData.canLayAll0, h1, h2, h3, h4, Bool.and_true]
theorem la_depth (l : La) : (laD l).depth ≤ 6 := by
  have h1 : PyData.depthAll (l.ms.map mvD) ≤ 1 := depth_map (fun m => by simp [mvD, PyData.depth, PyData.depthAll]) _
  have h2 : PyData.depthAll (l.cs.map clD) ≤ 4 := depth_map cl_depth _
  have h3 : (whD l.wh).depth ≤ 1 := by cases l.wh <;> simp [whD, PyData.depth, PyData.depthAll]
  simp only [laD, bxD, clsD, PyData.depth, PyData.depthAll]
  omega
/-- all parts of a film, layers in a list -/
def fiD (x : Fi) : PyData := .tuple [.int x.w, .int x.h, .int x.n, .int x.b, .list (x.ls.map laD)]
theorem fi_lay {x : Fi} (k : x.Vd) : (fiD x).canLay0 = true := by
  have h : PyData.canLayAll0 (x.ls.map laD) = true := canLay_mem _ fun l hl => la_lay (k.ok l hl)
  simp only [fiD, PyData.canLay0, PyData.canLayAll0, h, Bool.and_true]
theorem fi_depth (x : Fi) : (fiD x).depth ≤ 8 := by
  have h : PyData.depthAll (x.ls.map laD) ≤ 6 := depth_map la_depth _
  simp only [fiD, PyData.depth, PyData.depthAll]
  omega
theorem fi_shaped {x : Fi} (k : x.Vd) : SeqAt.shaped (fiD x) = true := shaped_of (fi_lay k) (Nat.le_trans (fi_depth x) (by decide))
theorem FiV.dp {K : PySem.W.Frag} {H : Hp} {v : V} {x : Fi} (h : FiV H v x) : Dp K H v (fiD x) := by
  obtain ⟨a, L, us, rfl, ha, hL, hP⟩ := h
  exact .tup (SqT.of ha) (.cons (.int _) (.cons (.int _) (.cons (.int _) (.cons (.int _) (.cons (.lst (SqL.of hL) (dp_all (fun _ _ z => LaV.dp z) hP)) .nil)))))

/-- rows of ints as data -/
def rowsD (rs : List (List Int)) : PyData := .list (rs.map fun r => .list (r.map PyData.int))
theorem eqs_rows : Eqs (List (List Int)) rowsD 2 := eqs_int.lst.lst
theorem RowsV.dp {K : PySem.W.Frag} {H0 H : Hp} {v : V} {rs : List (List Int)} (h : RowsV H0 H v rs) : Dp K H v (rowsD rs) := by
  obtain ⟨a, us, rfl, _, ha, hR⟩ := h
  exact .lst (SqL.of ha) (dp_all (fun _ _ ⟨b, eb, _, _, hb⟩ => by subst eb; exact .lst (SqL.of hb) (dp_ints _)) hR)

abbrev s_entry_of : Stmt := top 77
theorem sc_entry_of : FnScope ["item", "_", "corner", "paint", "level", "mode"] ["item"] (defScope s_entry_of) := ⟨rfl, rfl, rfl, by decide +kernel, rfl, by decide +kernel, by decide +kernel⟩
/-- an entry of a stack -/
structure En where
  pa : Option Pa
  at_ : Option Pt
  lv : Int
  md : Md
def OptPtV (H : Hp) (v : V) : Option Pt → Prop
  | none => v = .non
  | some p => PtV H v p
theorem OptPtV.tk {H H' : Hp} {v : V} {o : Option Pt} (e : TK H H') (h : OptPtV H v o) : OptPtV H' v o := by
  cases o with
  | none => exact h
  | some r => exact PtV.tk e h
def EnV (H : Hp) (v : V) (e : En) : Prop := ∃ a pav cv mv, v = .ref a ∧ H a = some (.tup [pav, cv, .int e.lv, mv]) ∧ OpV H pav e.pa ∧ OptPtV H cv e.at_ ∧ MdV H mv e.md
theorem EnV.tk {H H' : Hp} {v : V} {i : En} (e : TK H H') (h : EnV H v i) : EnV H' v i := by
  obtain ⟨a, pav, cv, mv, rfl, h1, h2, h3, h4⟩ := h
  exact ⟨a, pav, cv, mv, rfl, e _ _ h1, h2.tk e, h3.tk e, h4.tk e⟩
def solidO : Option Pa → Bool
  | none => true
  | some (.solid _) => true
  | _ => false
def enOf (pa : Option Pa) (c : Pt) (lv : Int) (md : Md) : En := ⟨pa, if solidO pa = true then none else some c, lv, md⟩
def It.en (i : It) : En := enOf i.pa i.at_ i.lv i.md
def spEntry (K : PySem.W.Frag) : Sp := fun vs H Q _ => ∃ (v : V) (i : It), vs = [v] ∧ ItV H v i ∧ ∀ u H', Ex H H' → EnV H' u i.en → Q u H'
theorem ok_entry_of {f : Addr} {fd : FuncData} (F : Fun K "_entry_of" "_entry_of" s_entry_of f fd) (T : Txt K mg) : FnOk P w K mg base CX0 1 f fd ["item"] (spEntry K) := by
  refine F.ok sc_entry_of (fun vs H Q E h => ?_) (fun cdv A outer s H vs Q E hr h => ?_)
  · obtain ⟨v, i, rfl, _⟩ := h
    rfl
  · obtain ⟨v, i, rfl, hi, q⟩ := h
    obtain ⟨a, ev, cv, pav, mv, rfl, ha, hev, hcv, hpv, hmv⟩ := id hi
    refine ⟨_, (pss_cons (ps_asg (pv 0) (kpgT K (n := 6) rfl (pgs_cons (pg_name (i := 1) sc_entry_of.nd rfl (by first | exact Or.inl rfl | exact Or.inr rfl)) (pgs_cons (pg_name (i := 2) sc_entry_of.nd rfl (by first | exact Or.inl rfl | exact Or.inr rfl)) (pgs_cons (pg_name (i := 3) sc_entry_of.nd rfl (by first | exact Or.inl rfl | exact Or.inr rfl)) (pgs_cons (pg_name (i := 4) sc_entry_of.nd rfl (by first | exact Or.inl rfl | exact Or.inr rfl)) (pgs_cons (pg_name (i := 5) sc_entry_of.nd rfl (by first | exact Or.inl rfl | exact Or.inr rfl)) (pgs_cons (pg_name (i := 1) sc_entry_of.nd rfl (by first | exact Or.inl rfl | exact Or.inr rfl)) pgs_nil))))))))
      (pss_cons (ps_if (PW.pt (pw_or (pt_cmpR op_isN (pv 3) pe_non (nomark _)) (pw_or1 (pt_cmpR op_eq (pe_ix (kixT K) (pv 3) pe_int (fun _ _ => rfl)) pe_str (nomark _)))))
        (pss_one (ps_ret (pe_tup (pa_cons (pv 3) (pa_cons pe_non (pa_cons (pv 4) (pa_cons (pv 5) pa_nil)))))))
        pss_nil)
      (pss_one (ps_ret (pe_tup (pa_cons (pv 3) (pa_cons (pv 2) (pa_cons (pv 4) (pa_cons (pv 5) pa_nil))))))))), ?_⟩
    rw [start_nrm (Nat.le_of_ble_eq_true rfl)]; dsimp only [startL]
    refine ⟨_, rfl, a, _, rfl, SqT.of ha, rfl, _, _, rfl, _, _, rfl, _, _, rfl, _, _, rfl, _, _, rfl, _, _, rfl, rfl, ?_⟩
    dsimp only [List.set]
    have yes : solidO i.pa = true → ∀ t, H t = none → Q (.ref t) (upd H t (.tup [pav, .non, .int i.lv, mv])) := fun e t ht => by
      refine q _ _ (Ex.new ht) ⟨t, pav, .non, mv, rfl, upd_same, hpv.tk (TK.ex (Ex.new ht)), ?_, hmv.tk (TK.ex (Ex.new ht))⟩
      show OptPtV _ _ (if solidO i.pa = true then none else some i.at_)
      rw [if_pos e]
      rfl
    have no : solidO i.pa = false → ∀ t, H t = none → Q (.ref t) (upd H t (.tup [pav, cv, .int i.lv, mv])) := fun e t ht => by
      refine q _ _ (Ex.new ht) ⟨t, pav, cv, mv, rfl, upd_same, hpv.tk (TK.ex (Ex.new ht)), ?_, hmv.tk (TK.ex (Ex.new ht))⟩
      show OptPtV _ _ (if solidO i.pa = true then none else some i.at_)
      rw [e, if_neg Bool.false_ne_true]
      exact PtV.tk (TK.ex (Ex.new ht)) hcv
    refine ⟨_, rfl, rfl, _, rfl, ?_⟩
    cases hp : i.pa with
    | none =>
      rw [hp] at hpv yes
      cases hpv
      refine iteD rfl ?_
      refine iteT ?_
      exact ⟨_, rfl, _, rfl, _, rfl, (by show 4 ≤ sizeLine; decide), fun t ht => yes rfl t ht⟩
    | some p =>
      rw [hp] at hpv yes no
      have hpv : PaV H pav p := hpv
      cases p with
      | solid z =>
        obtain ⟨b, rfl, hb⟩ := hpv
        refine iteN (fun z => nomatch z) ?_
        refine ⟨_, rfl, b, _, 0, _, rfl, rfl, SqT.of hb, rfl, rfl, _, rfl, ?_⟩
        refine iteE (by decide +kernel) ?_
        exact ⟨_, rfl, _, rfl, _, rfl, (by show 4 ≤ sizeLine; decide), fun t ht => yes rfl t ht⟩
      | steps z1 z2 z =>
        obtain ⟨b, rfl, hb⟩ := hpv
        refine iteN (fun z => nomatch z) ?_
        refine ⟨_, rfl, b, _, 0, _, rfl, rfl, SqT.of hb, rfl, rfl, _, rfl, ?_⟩
        refine iteW (by decide +kernel) ?_
        exact ⟨_, rfl, _, rfl, _, rfl, _, rfl, (by show 4 ≤ sizeLine; decide), fun t ht => no rfl t ht⟩
      | pic p =>
        obtain ⟨b, u, rfl, hb, hu⟩ := hpv
        refine iteN (fun z => nomatch z) ?_
        refine ⟨_, rfl, b, _, 0, _, rfl, rfl, SqT.of hb, rfl, rfl, _, rfl, ?_⟩
        refine iteW (by decide +kernel) ?_
        exact ⟨_, rfl, _, rfl, _, rfl, _, rfl, (by show 4 ≤ sizeLine; decide), fun t ht => no rfl t ht⟩

abbrev s_sheets_of : Stmt := top 76
theorem sc_sheets_of : FnScope ["film", "frame", "sheets", "item"] ["film", "frame"] (defScope s_sheets_of) := ⟨rfl, rfl, rfl, by decide +kernel, rfl, by decide +kernel, by decide +kernel⟩
theorem pr_reverse {α β : Type} {G : α → β → Prop} : ∀ {l₁ : List α} {l₂ : List β}, Paired G l₁ l₂ → Paired G l₁.reverse l₂.reverse
  | _, _, .nil => .nil
  | _, _, .cons r t => by
    rw [List.reverse_cons, List.reverse_cons]
    exact pr_append (pr_reverse t) (.cons r .nil)
/-- a sheet: where, what, and whether it hides -/
structure Sht where
  ext : Rc
  en : En ⊕ Int
  hides : Bool
def SeV (H : Hp) (v : V) : En ⊕ Int → Prop
  | .inl e => EnV H v e
  | .inr b => v = .int b
theorem SeV.tk {H H' : Hp} {v : V} {o : En ⊕ Int} (e : TK H H') (h : SeV H v o) : SeV H' v o := by
  cases o with
  | inl x => exact EnV.tk e h
  | inr b => exact h
def ShtV (H : Hp) (v : V) (s : Sht) : Prop := ∃ a ev sv, v = .ref a ∧ H a = some (.tup [ev, sv, .bl s.hides]) ∧ RcV H ev s.ext ∧ SeV H sv s.en
theorem ShtV.tk {H H' : Hp} {v : V} {s : Sht} (e : TK H H') (h : ShtV H v s) : ShtV H' v s := by
  obtain ⟨a, ev, sv, rfl, h1, h2, h3⟩ := h
  exact ⟨a, ev, sv, rfl, e _ _ h1, h2.tk e, h3.tk e⟩
def It.sh (i : It) : Sht := ⟨i.ext, .inl i.en, i.hides⟩
noncomputable def Fi.sheets (x : Fi) (f : Int) : List Sht := (x.items f).reverse.map It.sh ++ [⟨⟨0, 0, x.w, x.h⟩, .inr x.b, true⟩]
def spSheets (K : PySem.W.Frag) (C : Addr) : Sp := fun vs H Q _ => ∃ (fv : V) (x : Fi) (f : Int), vs = [fv, .int f] ∧ FlV C H fv x ∧ (∀ l ∈ x.ls, l.Vd) ∧ x.ls.length ≤ 16 ∧ ∀ p us H', H p = none → Ex H H' → H' p = some (.lst us) → Paired (ShtV H') us (x.sheets f) → Q (.ref p) H'
theorem ok_sheets_of {f C : Addr} {fd : FuncData} (F : Fun K "_sheets_of" "_sheets_of" s_sheets_of f fd) (T : Txt K mg) (OT_Film : FilmT K C) (D_items_at : Def P w K mg base CX0 "items_at" 6 ["film", "frame"] (spItems K C)) (D_entry_of : Def P w K mg base CX0 "_entry_of" 1 ["item"] (spEntry K))
    (PF_Film_background : Prp P w K mg base C "background" 1 (spGetI C Fi.b)) (PF_Film_height : Prp P w K mg base C "height" 1 (spGetI C Fi.h)) (PF_Film_width : Prp P w K mg base C "width" 1 (spGetI C Fi.w)) : FnOk P w K mg base CX0 7 f fd ["film", "frame"] (spSheets K C) := by
  refine F.ok sc_sheets_of (fun vs H Q E h => ?_) (fun cdv A outer s H vs Q E hr h => ?_)
  · obtain ⟨fv, x, fr, rfl, _⟩ := h
    rfl
  · obtain ⟨fv, x, fr, rfl, hf, k, ll, q⟩ := h
    obtain ⟨fa, dx, L, ls, rfl, hfa, _⟩ := id hf
    refine ⟨_, (pss_cons (ps_setLc (i := 2)  (own := [("item", 3)]) (tt := tYes) rfl sc_sheets_of.nd rfl rfl (sw_true rfl rfl rfl (by decide +kernel)) (pi_reversed (by rfl) T.reversed_ (pa_cons (pe_call D_items_at.ok (hr.mono (by decide)) rfl D_items_at.mgf D_items_at.kp D_items_at.b .nil pass0 (pa_cons (pv 0) (pa_cons (pv 1) pa_nil))) pa_nil)) (blkOk_by (N := ["film", "frame", "sheets", "item"]) (sc := defScope s_sheets_of) (by decide +kernel)) (fun _ _ _ _ _ => (pg_name (i := 3) sc_sheets_of.nd rfl (by first | exact Or.inl rfl | exact Or.inr rfl))) (fun _ _ _ _ _ => pts_nil) (fun _ _ _ _ _ => (pe_tup (pa_cons (pe_ix (kixT K) (pv 3) pe_int (fun _ _ => rfl)) (pa_cons (pe_call D_entry_of.ok (hr.mono (by decide)) rfl D_entry_of.mgf D_entry_of.kp D_entry_of.b .nil pass0 (pa_cons (pv 3) pa_nil)) (pa_cons (pe_ix (kixT K) (pv 3) pe_int (fun _ _ => rfl)) pa_nil))))))
      (pss_one (ps_ret (pe_op op_cat (pv 2) (pe_lst (pa_cons (pe_tup (pa_cons (pe_tup (pa_cons pe_int (pa_cons pe_int (pa_cons (pe_prop (pv 0) OT_Film.cl PF_Film_width.hp PF_Film_width.ok (hr.mono (by decide)) PF_Film_width.b .nil pass0 rfl) (pa_cons (pe_prop (pv 0) OT_Film.cl PF_Film_height.hp PF_Film_height.ok (hr.mono (by decide)) PF_Film_height.b .nil pass0 rfl) pa_nil))))) (pa_cons (pe_prop (pv 0) OT_Film.cl PF_Film_background.hp PF_Film_background.ok (hr.mono (by decide)) PF_Film_background.b .nil pass0 rfl) (pa_cons pe_bl pa_nil)))) pa_nil)))))), ?_⟩
    rw [start_nrm (Nat.le_of_ble_eq_true rfl)]; dsimp only [startL]
    refine ⟨_, rfl, _, rfl, .ref fa, x, fr, rfl, hf, k, ll, fun p us H1 hp e1 hpl hI => ?_⟩
    have lu := hI.length
    have li : (x.items fr).length ≤ 16 := Nat.le_trans (List.length_filterMap_le _ _) ll
    refine ⟨p, us, rfl, SqL.of hpl, fun D hD => ?_⟩
    refine lc_rev (xs := us) (fun i H' => Ex H1 H' ∧ ∃ ws, H' D = some (.lst ws) ∧ Paired (ShtV H') ws ((((x.items fr).reverse).take i).map It.sh)) ⟨Ex.new hD, [], upd_same, .nil⟩ (fun i H' _ p => SqL.of (p.1 _ _ hpl)) ?_ ?_
    · rintro i uv H2 hu ⟨e2, ws, hW, hJ⟩
      obtain ⟨it, hit, hiv⟩ := pr_get (pr_reverse hI) hu
      have hiv := hiv.tk (TK.ex e2)
      have lw := hJ.length
      rw [List.length_map, List.length_take, List.length_reverse] at lw
      obtain ⟨ia, ev, cv, pav, mv, rfl, h1, hev, _⟩ := id hiv
      refine ⟨rfl, ?_⟩
      refine lcY ?_
      refine ⟨_, rfl, ia, _, 0, _, rfl, rfl, SqT.of h1, rfl, ?_⟩
      refine ⟨_, rfl, .ref ia, it, rfl, hiv, fun u H3 e3 hu3 => ?_⟩
      have h13 := e3 _ _ h1
      refine ⟨_, rfl, ia, _, 5, _, rfl, rfl, SqT.of h13, rfl, (by show 3 ≤ sizeLine; decide), fun t ht => ?_⟩
      have f4 := Ex.new (o := .tup [ev, u, .bl it.hides]) ht
      have g4 : upd H3 t (.tup [ev, u, .bl it.hides]) t = some (.tup [ev, u, .bl it.hides]) := upd_same
      generalize upd H3 t (.tup [ev, u, .bl it.hides]) = H4 at f4 g4 ⊢
      have e34 := e3.trans f4
      have hW4 := e34 _ _ hW
      refine ⟨ws, hW4, slineL (by omega), (e2.trans e34).mut hD, ws ++ [.ref t], upd_same, ?_⟩
      rw [List.take_add_one, hit, List.map_append]
      have tk := TK.lst (o := .lst (ws ++ [.ref t])) hW4
      exact pr_append (Paired.mapP (Paired.mapP hJ fun _ _ => ShtV.tk (TK.ex e34)) fun _ _ => ShtV.tk tk) (.cons (ShtV.tk tk ⟨t, ev, u, rfl, g4, hev.tk (TK.ex e34), hu3.tk (TK.ex f4)⟩) .nil)
    · rintro H2 ⟨e2, ws, hW, hJ⟩
      have e12 := e1.trans e2
      have hf2 := hf.ex e12
      have hfa2 := e12 _ _ hfa
      rw [lu, ← List.length_reverse, List.take_length] at hJ
      have lw := hJ.length
      rw [List.length_map, List.length_reverse] at lw
      refine ⟨_, rfl, ?_⟩
      refine ⟨_, rfl, fa, dx, _, rfl, hfa2, .ref fa, x, rfl, hf2, ?_⟩
      refine ⟨_, rfl, fa, dx, _, rfl, hfa2, .ref fa, x, rfl, hf2, ?_⟩
      refine ⟨(by show 4 ≤ sizeLine; decide), fun t ht => ?_⟩
      have f3 := Ex.new (o := .tup [.int 0, .int 0, .int x.w, .int x.h]) ht
      have g3 : upd H2 t (.tup [.int 0, .int 0, .int x.w, .int x.h]) t = some (.tup [.int 0, .int 0, .int x.w, .int x.h]) := upd_same
      generalize upd H2 t (.tup [.int 0, .int 0, .int x.w, .int x.h]) = H3 at f3 g3 ⊢
      refine ⟨_, rfl, fa, dx, _, rfl, f3 _ _ hfa2, .ref fa, x, rfl, hf2.ex f3, ?_⟩
      refine ⟨(by show 3 ≤ sizeLine; decide), fun t2 ht2 => ?_⟩
      have f4 := Ex.new (o := .tup [.ref t, .int x.b, .bl true]) ht2
      have g4 : upd H3 t2 (.tup [.ref t, .int x.b, .bl true]) t2 = some (.tup [.ref t, .int x.b, .bl true]) := upd_same
      generalize upd H3 t2 (.tup [.ref t, .int x.b, .bl true]) = H4 at f4 g4 ⊢
      refine ⟨(by show 1 ≤ sizeLine; decide), fun l hl => ?_⟩
      have f5 := Ex.new (o := .lst [.ref t2]) hl
      have g5 : upd H4 l (.lst [.ref t2]) l = some (.lst [.ref t2]) := upd_same
      generalize upd H4 l (.lst [.ref t2]) = H5 at f5 g5 ⊢
      have e25 := (f3.trans f4).trans f5
      refine ⟨D, l, ws, [.ref t2], rfl, rfl, e25 _ _ hW, g5, Nat.le_of_lt (slineL (by rw [List.length_singleton]; omega)), fun r hr => ?_⟩
      have f6 := Ex.new (o := .lst (ws ++ [.ref t2])) hr
      have e26 := e25.trans f6
      refine q r _ _ (ex_free (e12.trans e25) hr) (e12.trans e26) upd_same (pr_append (Paired.mapP hJ fun _ _ => ShtV.tk (TK.ex e26)) (.cons ⟨t2, .ref t, .int x.b, rfl, (f5.trans f6) _ _ g4, ⟨t, rfl, ((f4.trans f5).trans f6) _ _ g3⟩, rfl⟩ .nil))

abbrev s_stack_of : Stmt := top 78
theorem sc_stack_of : FnScope ["sheets", "x", "y", "stack", "left", "top", "right", "bottom", "entry", "hides"] ["sheets", "x", "y"] (defScope s_stack_of) := ⟨rfl, rfl, rfl, by decide +kernel, rfl, by decide +kernel, by decide +kernel⟩
def Sht.here (s : Sht) (x y : Int) : Prop := s.ext.l ≤ x ∧ x < s.ext.r ∧ s.ext.t ≤ y ∧ y < s.ext.b
instance (s : Sht) (x y : Int) : Decidable (s.here x y) := inferInstanceAs (Decidable (_ ∧ _ ∧ _ ∧ _))
/-- the stack of a point -/
def stackS (x y : Int) : List Sht → List (En ⊕ Int)
  | [] => []
  | s :: r => if s.here x y then (if s.hides = true then [s.en] else s.en :: stackS x y r) else stackS x y r
def spStackOf (K : PySem.W.Frag) : Sp := fun vs H Q _ => ∃ (a : Addr) (us : List V) (ss : List Sht) (x y : Int), vs = [.ref a, .int x, .int y] ∧ H a = some (.lst us) ∧ Paired (ShtV H) us ss ∧ ss.length ≤ 1000 ∧ ∀ p vs H', H p = none → Ex H H' → H' p = some (.lst vs) → Paired (SeV H') vs (stackS x y ss) → Q (.ref p) H'
theorem ok_stack_of {f : Addr} {fd : FuncData} (F : Fun K "_stack_of" "_stack_of" s_stack_of f fd) (T : Txt K mg) : FnOk P w K mg base CX0 1 f fd ["sheets", "x", "y"] (spStackOf K) := by
  refine F.ok sc_stack_of (fun vs H Q E h => ?_) (fun cdv A outer s H vs Q E hr h => ?_)
  · obtain ⟨a, us, ss, x, y, rfl, _⟩ := h
    rfl
  · obtain ⟨a, us, ss, x, y, rfl, ha, hS, ll, q⟩ := h
    have lu := hS.length
    refine ⟨_, (pss_cons (ps_set (i := 3) sc_stack_of.nd rfl (by first | exact Or.inl rfl | exact Or.inr rfl) (pe_lst pa_nil))
      (pss_cons (ps_for PassesOwn.never rfl (kpiL K (pv 0)) (kpgT K (n := 3) rfl (pgs_cons (kpgT K (n := 4) rfl (pgs_cons (pg_name (i := 4) sc_stack_of.nd rfl (by first | exact Or.inl rfl | exact Or.inr rfl)) (pgs_cons (pg_name (i := 5) sc_stack_of.nd rfl (by first | exact Or.inl rfl | exact Or.inr rfl)) (pgs_cons (pg_name (i := 6) sc_stack_of.nd rfl (by first | exact Or.inl rfl | exact Or.inr rfl)) (pgs_cons (pg_name (i := 7) sc_stack_of.nd rfl (by first | exact Or.inl rfl | exact Or.inr rfl)) pgs_nil))))) (pgs_cons (pg_name (i := 8) sc_stack_of.nd rfl (by first | exact Or.inl rfl | exact Or.inr rfl)) (pgs_cons (pg_name (i := 9) sc_stack_of.nd rfl (by first | exact Or.inl rfl | exact Or.inr rfl)) pgs_nil))))
        (pss_one (ps_if (PW.pt (pw_and (pt_chain op_le op_lt (pv 4) (pv 1) (pv 6)) (pw_and1 (pt_chain op_le op_lt (pv 5) (pv 2) (pv 7)))))
          (pss_cons (ps_expr (pe_bm PySem.F.plainAttrs_list PySem.F.slot_list_append PySem.F.type_list_append mt_append (pv 3) (pa_cons (pv 8) pa_nil)))
          (pss_one (ps_if (pt_val (pv 9))
            (pss_one (ps_ret (pv 3)))
            pss_nil)))
          pss_nil)))
      (pss_one (ps_ret (pv 3))))), ?_⟩
    rw [start_nrm (Nat.le_of_ble_eq_true rfl)]; dsimp only [startL]
    refine ⟨(by show 0 ≤ sizeLine; decide), fun D hD => ?_⟩
    dsimp only [List.set]
    have e0 := Ex.new (o := .lst []) hD
    have g0 : upd H D (.lst []) D = some (.lst []) := upd_same
    generalize upd H D (.lst []) = H0 at e0 g0 ⊢
    refine ⟨_, rfl, a, rfl, ⟨_, SqL.of (e0 _ _ ha)⟩, ?_⟩
    refine for_list (K := K) (a := a) (xs := us) (fun i σ H' => Ex H H' ∧ (∃ (z4 z5 z6 z7 z8 z9 : Option V), σ = [some (.ref a), some (.int x), some (.int y), some (.ref D), z4, z5, z6, z7, z8, z9]) ∧ ∃ ws acc, H' D = some (.lst ws) ∧ Paired (SeV H') ws acc ∧ acc.length ≤ i ∧ acc ++ stackS x y (ss.drop i) = stackS x y ss) ⟨e0, ⟨_, _, _, _, _, _, rfl⟩, [], [], g0, .nil, Nat.le_refl _, rfl⟩ (fun i σ H' _ p => SqL.of (p.1 _ _ ha)) ?_ ?_
    · rintro i uv σ H1 hu ⟨e1, ⟨z4, z5, z6, z7, z8, z9, rfl⟩, ws, acc, hW, hA, la, stk⟩
      obtain ⟨sh, hsh, hsv⟩ := pr_get hS hu
      have lti := (List.getElem?_eq_some_iff.mp hsh).1
      have dr : ss.drop i = sh :: ss.drop (i + 1) := by
        have := List.drop_eq_getElem_cons lti
        rw [(List.getElem?_eq_some_iff.mp hsh).2] at this
        exact this
      rw [dr] at stk
      have hsv := hsv.tk (TK.ex e1)
      obtain ⟨sa, ev, nv, rfl, h1, ⟨ea, rfl, hea⟩, hnv⟩ := id hsv
      refine ⟨sa, _, rfl, SqT.of h1, rfl, _, _, rfl, ea, _, rfl, SqT.of hea, rfl, _, _, rfl, _, _, rfl, _, _, rfl, _, _, rfl, rfl, _, _, rfl, _, _, rfl, rfl, ?_⟩
      dsimp only [List.set]
      have next : ¬ sh.here x y → Ex H H1 ∧ (∃ (w4 w5 w6 w7 w8 w9 : Option V), [some (.ref a), some (.int x), some (.int y), some (.ref D), some (.int sh.ext.l), some (.int sh.ext.t), some (.int sh.ext.r), some (.int sh.ext.b), some nv, some (.bl sh.hides)] = [some (.ref a), some (.int x), some (.int y), some (.ref D), w4, w5, w6, w7, w8, w9]) ∧ ∃ ws acc, H1 D = some (.lst ws) ∧ Paired (SeV H1) ws acc ∧ acc.length ≤ i + 1 ∧ acc ++ stackS x y (ss.drop (i + 1)) = stackS x y ss := fun no => by
        refine ⟨e1, ⟨_, _, _, _, _, _, rfl⟩, ws, acc, hW, hA, by omega, ?_⟩
        rw [← stk, stackS, if_neg no]
      refine ⟨_, rfl, _, rfl, _, _, rfl, rfl, _, rfl, ?_⟩
      refine ite2 (fun c1 => ?_) (fun c1 => ⟨_, rfl, iteF (iteF (next fun z => c1 (decide_eq_true z.1)))⟩)
      have c1 := of_decide_eq_true c1
      refine ⟨_, rfl, _, _, rfl, rfl, _, rfl, ?_⟩
      refine ite2 (fun c2 => ?_) (fun c2 => iteF (next fun z => c2 (decide_eq_true z.2.1)))
      have c2 := of_decide_eq_true c2
      refine ⟨_, rfl, _, rfl, _, _, rfl, rfl, _, rfl, ?_⟩
      refine ite2 (fun c3 => ?_) (fun c3 => ⟨_, rfl, iteF (next fun z => c3 (decide_eq_true z.2.2.1))⟩)
      have c3 := of_decide_eq_true c3
      refine ⟨_, rfl, _, _, rfl, rfl, _, rfl, ?_⟩
      refine ite2 (fun c4 => ?_) (fun c4 => next fun z => c4 (decide_eq_true z.2.2.2))
      have c4 := of_decide_eq_true c4
      have yes : sh.here x y := ⟨c1, c2, c3, c4⟩
      rw [stackS, if_pos yes] at stk
      have lw := hA.length
      refine ⟨_, rfl, .inl ⟨rfl, _, SqL.of hW⟩, ?_⟩
      refine ⟨_, rfl, D, ws, nv, rfl, rfl, hW, slineL (by omega), ?_⟩
      have tk := TK.lst (o := .lst (ws ++ [nv])) hW
      have eD : Ex H (upd H1 D (.lst (ws ++ [nv]))) := e1.mut hD
      have gD : upd H1 D (.lst (ws ++ [nv])) D = some (.lst (ws ++ [nv])) := upd_same
      generalize upd H1 D (.lst (ws ++ [nv])) = H2 at tk eD gD ⊢
      have hA2 : Paired (SeV H2) (ws ++ [nv]) (acc ++ [sh.en]) := pr_append (Paired.mapP hA fun _ _ => SeV.tk tk) (.cons (hnv.tk tk) .nil)
      cases hh : sh.hides with
      | true =>
        rw [hh, if_pos rfl] at stk
        refine ⟨_, rfl, _, rfl, iteT ?_⟩
        refine ⟨_, rfl, ?_⟩
        rw [stk] at hA2
        exact q D _ H2 hD eD gD hA2
      | false =>
        rw [hh, if_neg Bool.false_ne_true] at stk
        refine ⟨_, rfl, _, rfl, iteF ?_⟩
        refine ⟨eD, ⟨_, _, _, _, _, _, rfl⟩, ws ++ [nv], acc ++ [sh.en], gD, hA2, by rw [List.length_append, List.length_singleton]; omega, ?_⟩
        rw [List.append_assoc]
        exact stk
    · rintro σ H1 ⟨e1, ⟨z4, z5, z6, z7, z8, z9, rfl⟩, ws, acc, hW, hA, la, stk⟩
      rw [lu, List.drop_length, stackS, List.append_nil] at stk
      rw [stk] at hA
      exact ⟨_, rfl, q D ws H1 hD e1 hW hA⟩

abbrev s_stack_at : Stmt := top 75
theorem sc_stack_at : FnScope ["film", "frame", "x", "y"] ["film", "frame", "x", "y"] (defScope s_stack_at) := ⟨rfl, rfl, rfl, by decide +kernel, rfl, by decide +kernel, by decide +kernel⟩
noncomputable def Fi.stack (x : Fi) (f px py : Int) : List (En ⊕ Int) := stackS px py (x.sheets f)
def spStackAt (K : PySem.W.Frag) (C : Addr) : Sp := fun vs H Q _ => ∃ (fv : V) (x : Fi) (f px py : Int), vs = [fv, .int f, .int px, .int py] ∧ FlV C H fv x ∧ x.Vd ∧ ∀ p us H', H p = none → Ex H H' → H' p = some (.lst us) → Paired (SeV H') us (x.stack f px py) → Q (.ref p) H'
theorem ok_stack_at {f C : Addr} {fd : FuncData} (F : Fun K "stack_at" "stack_at" s_stack_at f fd) (T : Txt K mg) (D_stack_of : Def P w K mg base CX0 "_stack_of" 1 ["sheets", "x", "y"] (spStackOf K)) (D_sheets_of : Def P w K mg base CX0 "_sheets_of" 7 ["film", "frame"] (spSheets K C)) : FnOk P w K mg base CX0 8 f fd ["film", "frame", "x", "y"] (spStackAt K C) := by
  refine F.ok sc_stack_at (fun vs H Q E h => ?_) (fun cdv A outer s H vs Q E hr h => ?_)
  · obtain ⟨fv, x, fr, px, py, rfl, _⟩ := h
    rfl
  · obtain ⟨fv, x, fr, px, py, rfl, hf, k, q⟩ := h
    refine ⟨_, (pss_one (ps_ret (pe_call D_stack_of.ok (hr.mono (by decide)) rfl D_stack_of.mgf D_stack_of.kp D_stack_of.b .nil pass0 (pa_cons (pe_call D_sheets_of.ok (hr.mono (by decide)) rfl D_sheets_of.mgf D_sheets_of.kp D_sheets_of.b .nil pass0 (pa_cons (pv 0) (pa_cons (pv 1) pa_nil))) (pa_cons (pv 2) (pa_cons (pv 3) pa_nil)))))), ?_⟩
    rw [start_nrm (Nat.le_of_ble_eq_true rfl)]; dsimp only [startL]
    refine ⟨_, rfl, _, rfl, fv, x, fr, rfl, hf, k.ok, k.len, fun p us H1 hp e1 hpl hS => ?_⟩
    have ll : (x.sheets fr).length ≤ 1000 := by
      have := k.len
      have : (x.items fr).length ≤ x.ls.length := List.length_filterMap_le _ _
      unfold Fi.sheets
      rw [List.length_append, List.length_map, List.length_reverse, List.length_singleton]
      omega
    refine ⟨_, rfl, _, rfl, p, us, x.sheets fr, px, py, rfl, hpl, hS, ll, fun p2 vs H2 hp2 e2 hv hV => ?_⟩
    exact q p2 vs H2 (ex_free e1 hp2) (e1.trans e2) hv hV

theorem md_lay (m : Md) : m.D.canLay0 = true := by
  cases m with
  | shift n => simp only [Md.D, PyData.canLay0, PyData.canLayAll0, Bool.and_true]; decide +kernel
  | _ => simp only [Md.D, Md.word, PyData.canLay0, PyData.canLayAll0, Bool.and_true]; decide +kernel
theorem md_depth (m : Md) : m.D.depth ≤ 1 := by cases m <;> simp [Md.D, PyData.depth, PyData.depthAll]
theorem md_shaped (m : Md) : SeqAt.shaped m.D = true := shaped_of (md_lay m) (Nat.le_trans (md_depth m) (by decide))
theorem md_eqv_over (m : Md) : PyData.eqv m.D (Md.over).D = decide (m = .over) := by
  cases m with
  | over => rw [eqv_self (md_lay _)]; rfl
  | shift n => simp [Md.D, PyData.eqv, PyData.eqvAll]
  | _ =>
    simp only [Md.D, PyData.eqv, PyData.eqvAll, Bool.and_true, Md.word]
    decide +kernel

/-! items and stacks as data; the two ways to work a stack out -/
def optPtD : Option Pt → PyData
  | none => .none
  | some p => ptD p
theorem OptPtV.dp {K : PySem.W.Frag} {H : Hp} {v : V} {o : Option Pt} (h : OptPtV H v o) : Dp K H v (optPtD o) := by
  cases o with
  | none => cases h; exact .non
  | some p => exact PtV.dp h
def itD (i : It) : PyData := .tuple [rcD i.ext, ptD i.at_, opD i.pa, .int i.lv, i.md.D, .bool i.hides]
theorem ItV.dp {K : PySem.W.Frag} {H : Hp} {v : V} {i : It} (h : ItV H v i) : Dp K H v (itD i) := by
  obtain ⟨a, ev, cv, pav, mv, rfl, h1, h2, h3, h4, h5⟩ := h
  exact .tup (SqT.of h1) (.cons h2.dp (.cons h3.dp (.cons h4.dp (.cons (.int _) (.cons h5.dp (.cons (.bl _) .nil))))))
theorem it_lay (i : It) : (itD i).canLay0 = true := by
  simp only [itD, rcD, ptD, intD, List.map, PyData.canLay0, PyData.canLayAll0, op_lay, md_lay, Bool.and_true]
theorem it_depth (i : It) : (itD i).depth ≤ 4 := by
  have h1 := op_depth i.pa
  have h2 := md_depth i.md
  simp only [itD, rcD, ptD, intD, List.map, PyData.depth, PyData.depthAll]
  omega
def itsD (is : List It) : PyData := .list (is.map itD)
theorem its_lay (is : List It) : (itsD is).canLay0 = true := by
  simp only [itsD, PyData.canLay0]
  exact canLay_map it_lay _
theorem its_shaped (is : List It) : SeqAt.shaped (itsD is) = true := shaped_of (its_lay is) (by
  have h : PyData.depthAll (is.map itD) ≤ 4 := depth_map it_depth _
  simp only [itsD, PyData.depth]
  omega)
def optRcD : Option Rc → PyData
  | none => .none
  | some r => rcD r
theorem OptRcV.dp {K : PySem.W.Frag} {H : Hp} {v : V} {o : Option Rc} (h : OptRcV H v o) : Dp K H v (optRcD o) := by
  cases o with
  | none => cases h; exact .non
  | some p => exact RcV.dp h
theorem optRc_lay (o : Option Rc) : (optRcD o).canLay0 = true := by
  cases o with
  | none => rfl
  | some r => exact eqs_rc.2.1 r
theorem optRc_shaped (o : Option Rc) : SeqAt.shaped (optRcD o) = true := shaped_of (optRc_lay o) (by
  cases o with
  | none => decide
  | some r => exact Nat.le_trans (eqs_rc.2.2 r) (by decide))
def enD (e : En) : PyData := .tuple [opD e.pa, optPtD e.at_, .int e.lv, e.md.D]
def seD : En ⊕ Int → PyData
  | .inl e => enD e
  | .inr b => .int b
theorem SeV.dp {K : PySem.W.Frag} {H : Hp} {v : V} {s : En ⊕ Int} (h : SeV H v s) : Dp K H v (seD s) := by
  cases s with
  | inl e =>
    obtain ⟨a, pav, cv, mv, rfl, h1, h2, h3, h4⟩ := h
    exact .tup (SqT.of h1) (.cons h2.dp (.cons h3.dp (.cons (.int _) (.cons h4.dp .nil))))
  | inr b => cases h; exact .int _
theorem optPt_lay (o : Option Pt) : (optPtD o).canLay0 = true := by
  cases o with
  | none => rfl
  | some r => exact eqs_pt.2.1 r
theorem optPt_depth (o : Option Pt) : (optPtD o).depth ≤ 1 := by
  cases o with
  | none => decide
  | some r => exact eqs_pt.2.2 r
theorem se_lay (s : En ⊕ Int) : (seD s).canLay0 = true := by
  cases s with
  | inl e => simp only [seD, enD, PyData.canLay0, PyData.canLayAll0, op_lay, optPt_lay, md_lay, Bool.and_true]
  | inr b => simp [seD, PyData.canLay0]
theorem se_depth (s : En ⊕ Int) : (seD s).depth ≤ 4 := by
  cases s with
  | inl e =>
    have h1 := op_depth e.pa
    have h2 := md_depth e.md
    have h3 := optPt_depth e.at_
    simp only [seD, enD, PyData.depth, PyData.depthAll]
    omega
  | inr b => simp [seD, PyData.depth]
def stkD (s : List (En ⊕ Int)) : PyData := .list (s.map seD)
theorem stk_lay (s : List (En ⊕ Int)) : (stkD s).canLay0 = true := by
  simp only [stkD, PyData.canLay0]
  exact canLay_map se_lay _
theorem stk_shaped (s : List (En ⊕ Int)) : SeqAt.shaped (stkD s) = true := shaped_of (stk_lay s) (by
  have h : PyData.depthAll (s.map seD) ≤ 4 := depth_map se_depth _
  simp only [stkD, PyData.depth]
  omega)
theorem stk_dp {K : PySem.W.Frag} {H : Hp} {p : Addr} {us : List V} {s : List (En ⊕ Int)} (hp : H p = some (.lst us)) (h : Paired (SeV H) us s) : Dp K H (.ref p) (stkD s) := .lst (SqL.of hp) (dp_all (fun _ _ z => SeV.dp z) h)

abbrev s_l_what_like : Stmt := top 94
theorem sc_l_what_like : FnScope ["script", "k", "what"] ["script", "k", "what"] (defScope s_l_what_like) := ⟨rfl, rfl, rfl, by decide +kernel, rfl, by decide +kernel, by decide +kernel⟩
def spWhatLike (K : PySem.W.Frag) : Sp := fun vs H Q _ => ∃ (a : Addr) (ns : List Int) (k : Int) (v : V) (x : Wh), vs = [.ref a, .int k, v] ∧ SqL K H a (ns.map V.int) ∧ 0 ≤ k ∧ WhV H v x ∧ ∀ v y H', Ex H H' → WhV H' v y → y.Ok → y.adj = x.adj → Q v H'
theorem ok_l_what_like {f : Addr} {fd : FuncData} (F : Fun K "_law_what_like" "_law_what_like" s_l_what_like f fd) (T : Txt K mg) (D_l_draw : Def P w K mg base CX0 "_law_draw" 1 ["script", "k", "below"] (spDrawF K)) : FnOk P w K mg base CX0 2 f fd ["script", "k", "what"] (spWhatLike K) := by
  refine F.ok sc_l_what_like (fun vs H Q E h => ?_) (fun cdv A outer s H vs Q E hr h => ?_)
  · obtain ⟨a, ns, k, v, x, rfl, _⟩ := h
    rfl
  · obtain ⟨a, ns, k, v, x, rfl, hS, k0, hx, q⟩ := h
    obtain ⟨wa, rfl, hwa⟩ := id hx
    refine ⟨_, (pss_cons (ps_if (pt_cmpR op_eq (pe_ix (kixT K) (pv 2) pe_int (fun _ _ => rfl)) pe_str (nomark _))
        (pss_one (ps_ret (pe_tup (pa_cons pe_str (pa_cons (pe_ix (kixL K) (pe_lst (pa_cons pe_int (pa_cons pe_int (pa_cons pe_int (pa_cons pe_int pa_nil))))) (pe_call D_l_draw.ok (hr.mono (by decide)) rfl D_l_draw.mgf D_l_draw.kp D_l_draw.b .nil pass0 (pa_cons (pv 0) (pa_cons (pv 1) (pa_cons pe_int pa_nil)))) (fun _ _ => rfl)) (pa_cons (pe_ix (kixL K) (pe_lst (pa_cons pe_str (pa_cons pe_str (pa_cons pe_str pa_nil)))) (pe_call D_l_draw.ok (hr.mono (by decide)) rfl D_l_draw.mgf D_l_draw.kp D_l_draw.b .nil pass0 (pa_cons (pv 0) (pa_cons (pe_op op_add (pv 1) pe_int) (pa_cons pe_int pa_nil)))) (fun _ _ => rfl)) pa_nil))))))
        pss_nil)
      (pss_one (ps_ret (pe_ix (kixL K) (pe_lst (pa_cons (pe_tup (pa_cons pe_str pa_nil)) (pa_cons (pe_tup (pa_cons pe_str (pa_cons pe_int pa_nil))) (pa_cons (pe_tup (pa_cons pe_str (pa_cons (pe_un un_neg pe_int) pa_nil))) pa_nil)))) (pe_call D_l_draw.ok (hr.mono (by decide)) rfl D_l_draw.mgf D_l_draw.kp D_l_draw.b .nil pass0 (pa_cons (pv 0) (pa_cons (pv 1) (pa_cons pe_int pa_nil)))) (fun _ _ => rfl))))), ?_⟩
    rw [start_nrm (Nat.le_of_ble_eq_true rfl)]; dsimp only [startL]
    refine ⟨_, rfl, wa, _, 0, _, rfl, rfl, SqT.of hwa, x.at0, rfl, _, rfl, ?_⟩
    have adjs : x.adj = true → x.word ≠ "paint" := fun h => by
      cases x with
      | paint o m => cases h
      | invert => show Str.ofString "invert" ≠ _; decide +kernel
      | shift n => show Str.ofString "shift" ≠ _; decide +kernel
    cases ha : x.adj with
    | false =>
      have hw : x.word = "paint" := by cases x with
        | paint o m => rfl
        | invert => cases ha
        | shift n => cases ha
      refine iteE hw ?_
      refine ⟨(by show 4 ≤ sizeLine; decide), fun l hl => ?_⟩
      have f1 := Ex.new (o := .lst [.int 256, .int 256, .int 200, .int 0]) hl
      have g1 : upd H l (.lst [.int 256, .int 256, .int 200, .int 0]) l = some (.lst ([256, 256, 200, 0].map V.int)) := upd_same
      generalize upd H l (.lst [.int 256, .int 256, .int 200, .int 0]) = H1 at f1 g1 ⊢
      refine ⟨_, rfl, _, rfl, a, ns, k, 4, rfl, ex_l f1 hS, by omega, by decide, by decide, fun n n0 n1 => ?_⟩
      obtain ⟨o, ho, eo⟩ := pickI (ns := [256, 256, 200, 0]) n0 n1
      simp only [List.mem_cons, List.not_mem_nil, or_false] at ho
      refine ⟨l, _, n, _, rfl, rfl, SqL.of g1, eo, ?_⟩
      refine ⟨(by show 3 ≤ sizeLine; decide), fun l2 hl2 => ?_⟩
      have f2 := Ex.new (o := .lst [.str "over", .str "add", .str "times"]) hl2
      have g2 : upd H1 l2 (.lst [.str "over", .str "add", .str "times"]) l2 = some (.lst (modes3.map V.str)) := upd_same
      generalize upd H1 l2 (.lst [.str "over", .str "add", .str "times"]) = H2 at f2 g2 ⊢
      have f12 := f1.trans f2
      refine ⟨_, rfl, _, rfl, _, _, rfl, rfl, a, ns, k + 1, 3, rfl, ex_l f12 hS, by omega, by decide, by decide, fun m m0 m1 => ?_⟩
      obtain ⟨z, hz, ez⟩ := pickS (ws := modes3) m0 m1
      refine ⟨l2, _, m, _, rfl, rfl, SqL.of g2, ez, ?_⟩
      refine ⟨(by show 3 ≤ sizeLine; decide), fun t ht => ?_⟩
      have f3 := Ex.new (o := .tup [.str "paint", .int o, .str z]) ht
      exact q _ (.paint o z) _ (f12.trans f3) ⟨t, rfl, upd_same⟩ ⟨by omega, by omega, hz⟩ (by rw [ha]; rfl)
    | true =>
      refine iteW (adjs ha) ?_
      refine ⟨(by show 1 ≤ sizeLine; decide), fun t1 ht1 => ?_⟩
      have f1 := Ex.new (o := .tup [.str "invert"]) ht1
      have g1 : upd H t1 (.tup [.str "invert"]) t1 = some (.tup [.str "invert"]) := upd_same
      generalize upd H t1 (.tup [.str "invert"]) = H1 at f1 g1 ⊢
      refine ⟨(by show 2 ≤ sizeLine; decide), fun t2 ht2 => ?_⟩
      have f2 := Ex.new (o := .tup [.str "shift", .int 7]) ht2
      have g2 : upd H1 t2 (.tup [.str "shift", .int 7]) t2 = some (.tup [.str "shift", .int 7]) := upd_same
      generalize upd H1 t2 (.tup [.str "shift", .int 7]) = H2 at f2 g2 ⊢
      refine ⟨_, rfl, ?_⟩
      refine ⟨(by show 2 ≤ sizeLine; decide), fun t3 ht3 => ?_⟩
      have f3 := Ex.new (o := .tup [.str "shift", .int (-200)]) ht3
      have g3 : upd H2 t3 (.tup [.str "shift", .int (-200)]) t3 = some (.tup [.str "shift", .int (-200)]) := upd_same
      generalize upd H2 t3 (.tup [.str "shift", .int (-200)]) = H3 at f3 g3 ⊢
      refine ⟨(by show 3 ≤ sizeLine; decide), fun l hl => ?_⟩
      have f4 := Ex.new (o := .lst [.ref t1, .ref t2, .ref t3]) hl
      have g4 : upd H3 l (.lst [.ref t1, .ref t2, .ref t3]) l = some (.lst [.ref t1, .ref t2, .ref t3]) := upd_same
      generalize upd H3 l (.lst [.ref t1, .ref t2, .ref t3]) = H4 at f4 g4 ⊢
      have e4 := ((f1.trans f2).trans f3).trans f4
      refine ⟨_, rfl, _, rfl, a, ns, k, 3, rfl, ex_l e4 hS, by omega, by decide, by decide, fun n n0 n1 => ?_⟩
      have hn : n = 0 ∨ n = 1 ∨ n = 2 := by omega
      rcases hn with rfl | rfl | rfl
      · refine ⟨l, _, 0, .ref t1, rfl, rfl, SqL.of g4, rfl, ?_⟩
        exact q _ .invert _ e4 ⟨t1, rfl, ((f2.trans f3).trans f4) _ _ g1⟩ trivial (by rw [ha]; rfl)
      · refine ⟨l, _, 1, .ref t2, rfl, rfl, SqL.of g4, rfl, ?_⟩
        exact q _ (.shift 7) _ e4 ⟨t2, rfl, (f3.trans f4) _ _ g2⟩ ⟨by decide, by decide⟩ (by rw [ha]; rfl)
      · refine ⟨l, _, 2, .ref t3, rfl, rfl, SqL.of g4, rfl, ?_⟩
        exact q _ (.shift (-200)) _ e4 ⟨t3, rfl, f4 _ _ g3⟩ ⟨by decide, by decide⟩ (by rw [ha]; rfl)

abbrev s_l_layer_like : Stmt := top 95
theorem sc_l_layer_like : FnScope ["script", "k", "layer", "name", "box", "moves", "what", "clips", "kind"] ["script", "k", "layer"] (defScope s_l_layer_like) := ⟨rfl, rfl, rfl, by decide +kernel, rfl, by decide +kernel, by decide +kernel⟩
def hdS (z : Str) : Option Nat := z.cps.toList.head?
theorem sIx1 {n : Nat} (h : 1 ≤ n) : HT.sIx n 0 (some 1) = 1 := by
  rw [show (1 : Int) = ((1 : Nat) : Int) from rfl, HT.sIx_nat]
  omega
theorem name_head {z w : Str} {c : Nat} (h : nameS z = true) (hc : c ∈ letters) (hw : w.cps.toList = [c]) : nameS (w ++ cutS z (some 1) none) = true ∧ hdS (w ++ cutS z (some 1) none) = some c := by
  have hl : (w ++ cutS z (some 1) none : Str).cps.toList = c :: (cutS z (some 1) none).cps.toList := by
    show (w.cps ++ (cutS z (some 1) none).cps).toList = _
    rw [Array.toList_append, hw]
    rfl
  unfold nameS at h
  rw [Bool.and_eq_true, Bool.and_eq_true, decide_eq_true_eq, decide_eq_true_eq] at h
  obtain ⟨⟨z1, z2⟩, z3⟩ := h
  have hcut : (cutS z (some 1) none).cps.toList = z.cps.toList.drop 1 := by
    unfold cutS
    have lz : z.cps.toList.length = z.length := Array.length_toList
    rw [sIx1 (by omega), HT.sIx_none]
    show (List.take (z.length - 1) (List.drop 1 z.cps.toList)) = _
    rw [List.take_of_length_le (by rw [List.length_drop, lz]; omega)]
  refine ⟨?_, by unfold hdS; rw [hl]; rfl⟩
  have ln : (w ++ cutS z (some 1) none : Str).length = z.length := by
    show (w ++ cutS z (some 1) none : Str).cps.size = _
    have lz : z.cps.toList.length = z.length := Array.length_toList
    rw [← Array.length_toList, hl, List.length_cons, hcut, List.length_drop, lz]
    omega
  unfold nameS
  rw [ln, hl, hcut, Bool.and_eq_true, Bool.and_eq_true, decide_eq_true_eq, decide_eq_true_eq]
  refine ⟨⟨z1, z2⟩, ?_⟩
  rw [List.all_cons, Bool.and_eq_true]
  refine ⟨decide_eq_true hc, List.all_eq_true.mpr fun x hx => List.all_eq_true.mp z3 x (List.mem_of_mem_drop hx)⟩
/-- a layer that is allowed, its box near the origin -/
structure La.Dr (B : Int) (l : La) : Prop where
  vd : l.Vd
  l0 : -B ≤ l.box.l
  l1 : l.box.l ≤ B
  t0 : -B ≤ l.box.t
  t1 : l.box.t ≤ B
theorem La.Dr.le {B B' : Int} {l : La} (h : l.Dr B) (hb : B ≤ B') : l.Dr B' := by
  obtain ⟨a, b, c, d, e⟩ := h
  exact ⟨a, by omega, by omega, by omega, by omega⟩
def PartsV (H : Hp) (n bv mv wv cv : V) (l : La) : Prop := n = .str l.name ∧ BxV H bv l.box ∧ (∃ ma us, mv = .ref ma ∧ H ma = some (.tup us) ∧ MvsV H us l.ms) ∧ WhV H wv l.wh ∧ ∃ ca ws, cv = .ref ca ∧ H ca = some (.tup ws) ∧ ClsV H ws l.cs
theorem PartsV.tk {H H' : Hp} {n bv mv wv cv : V} {l : La} (e : TK H H') (h : PartsV H n bv mv wv cv l) : PartsV H' n bv mv wv cv l := by
  obtain ⟨h0, h1, ⟨ma, us, rfl, h2, h3⟩, h4, ca, ws, rfl, h5, h6⟩ := h
  exact ⟨h0, h1.tk e, ⟨ma, us, rfl, e _ _ h2, h3.tk e⟩, h4.tk e, ca, ws, rfl, e _ _ h5, h6.tk e⟩
def NameL (k : Int) (l l' : La) : Prop := l'.name = l.name ∨ hdS l'.name = some (if k > 450 then 111 else 109)
def spLayerLike (K : PySem.W.Frag) : Sp := fun vs H Q _ => ∃ (a : Addr) (ns : List Int) (k : Int) (v : V) (l : La) (B : Int), vs = [.ref a, .int k, v] ∧ SqL K H a (ns.map V.int) ∧ 0 ≤ k ∧ LaV H v l ∧ l.Dr B ∧ 8 ≤ B ∧ B ≤ 900 ∧ ∀ v l' H', Ex H H' → LaV H' v l' → l'.Dr (B + 2) → NameL k l l' → Q v H'
theorem ok_l_layer_like {f : Addr} {fd : FuncData} (F : Fun K "_law_layer_like" "_law_layer_like" s_l_layer_like f fd) (T : Txt K mg) (D_l_draw : Def P w K mg base CX0 "_law_draw" 1 ["script", "k", "below"] (spDrawF K)) (D_l_what_like : Def P w K mg base CX0 "_law_what_like" 2 ["script", "k", "what"] (spWhatLike K))
    (D_l_moves : Def P w K mg base CX0 "_law_moves" 2 ["script", "k"] (spMovesF K)) (D_l_clips : Def P w K mg base CX0 "_law_clips" 4 ["script", "k", "adjusts"] (spClipsF K)) (D_l_box : Def P w K mg base CX0 "_law_box" 2 ["script", "k"] (spBoxF K)) : FnOk P w K mg base CX0 5 f fd ["script", "k", "layer"] (spLayerLike K) := by
  refine F.ok sc_l_layer_like (fun vs H Q E h => ?_) (fun cdv A outer s H vs Q E hr h => ?_)
  · obtain ⟨a, ns, k, v, l, B, rfl, _⟩ := h
    rfl
  · obtain ⟨a, ns, k, v, l, B, rfl, hS, k0, hv, dr, B0, B1, q⟩ := h
    obtain ⟨la, bv, ma, wv, ca, us, ws, rfl, hla, hb, hma, hM, hw, hca, hC⟩ := id hv
    refine ⟨_, (pss_cons (ps_asg (pv 2) (kpgT K (n := 5) rfl (pgs_cons (pg_name (i := 3) sc_l_layer_like.nd rfl (by first | exact Or.inl rfl | exact Or.inr rfl)) (pgs_cons (pg_name (i := 4) sc_l_layer_like.nd rfl (by first | exact Or.inl rfl | exact Or.inr rfl)) (pgs_cons (pg_name (i := 5) sc_l_layer_like.nd rfl (by first | exact Or.inl rfl | exact Or.inr rfl)) (pgs_cons (pg_name (i := 6) sc_l_layer_like.nd rfl (by first | exact Or.inl rfl | exact Or.inr rfl)) (pgs_cons (pg_name (i := 7) sc_l_layer_like.nd rfl (by first | exact Or.inl rfl | exact Or.inr rfl)) pgs_nil)))))))
      (pss_cons (ps_set (i := 8) sc_l_layer_like.nd rfl (by first | exact Or.inl rfl | exact Or.inr rfl) (pe_call D_l_draw.ok (hr.mono (by decide)) rfl D_l_draw.mgf D_l_draw.kp D_l_draw.b .nil pass0 (pa_cons (pv 0) (pa_cons (pv 1) (pa_cons pe_int pa_nil)))))
      (pss_cut (ps_if (pt_cmpR op_eq (pv 8) pe_int (nomark _))
        (pss_one (ps_set (i := 3) sc_l_layer_like.nd rfl (by first | exact Or.inl rfl | exact Or.inr rfl) (pe_op op_add_str (pe_ix (kixL K) (pe_lst (pa_cons pe_str (pa_cons pe_str pa_nil))) (pe_callTy call_int1 (by rfl) T.int_ bt_int (pa_cons (pe_cmpR op_gt (pv 1) pe_int (nomark _)) pa_nil)) (fun _ _ => rfl)) (pe_slice sl_str (pv 3) (po_some pe_int) po_none))))
        pss_nil)
      (pss_cut (ps_if (pt_cmpR op_eq (pv 8) pe_int (nomark _))
        (pss_one (ps_set (i := 4) sc_l_layer_like.nd rfl (by first | exact Or.inl rfl | exact Or.inr rfl) (pe_tup (pa_cons (pe_op op_sub (pe_op op_add (pe_ix (kixT K) (pv 4) pe_int (fun _ _ => rfl)) (pe_call D_l_draw.ok (hr.mono (by decide)) rfl D_l_draw.mgf D_l_draw.kp D_l_draw.b .nil pass0 (pa_cons (pv 0) (pa_cons (pe_op op_add (pv 1) pe_int) (pa_cons pe_int pa_nil))))) pe_int) (pa_cons (pe_op op_sub (pe_op op_add (pe_ix (kixT K) (pv 4) pe_int (fun _ _ => rfl)) (pe_call D_l_draw.ok (hr.mono (by decide)) rfl D_l_draw.mgf D_l_draw.kp D_l_draw.b .nil pass0 (pa_cons (pv 0) (pa_cons (pe_op op_add (pv 1) pe_int) (pa_cons pe_int pa_nil))))) pe_int) (pa_cons (pe_ix (kixT K) (pv 4) pe_int (fun _ _ => rfl)) (pa_cons (pe_ix (kixT K) (pv 4) pe_int (fun _ _ => rfl)) pa_nil)))))))
        pss_nil)
      (pss_cut (ps_if (pt_cmpR op_eq (pv 8) pe_int (nomark _))
        (pss_one (ps_set (i := 6) sc_l_layer_like.nd rfl (by first | exact Or.inl rfl | exact Or.inr rfl) (pe_call D_l_what_like.ok (hr.mono (by decide)) rfl D_l_what_like.mgf D_l_what_like.kp D_l_what_like.b .nil pass0 (pa_cons (pv 0) (pa_cons (pe_op op_add (pv 1) pe_int) (pa_cons (pv 6) pa_nil))))))
        pss_nil)
      (pss_cut (ps_if (pt_cmpR op_eq (pv 8) pe_int (nomark _))
        (pss_one (ps_set (i := 5) sc_l_layer_like.nd rfl (by first | exact Or.inl rfl | exact Or.inr rfl) (pe_call D_l_moves.ok (hr.mono (by decide)) rfl D_l_moves.mgf D_l_moves.kp D_l_moves.b .nil pass0 (pa_cons (pv 0) (pa_cons (pe_op op_add (pv 1) pe_int) pa_nil)))))
        pss_nil)
      (pss_cut (ps_if (pt_cmpR op_eq (pv 8) pe_int (nomark _))
        (pss_one (ps_set (i := 7) sc_l_layer_like.nd rfl (by first | exact Or.inl rfl | exact Or.inr rfl) (pe_call D_l_clips.ok (hr.mono (by decide)) rfl D_l_clips.mgf D_l_clips.kp D_l_clips.b .nil pass0 (pa_cons (pv 0) (pa_cons (pe_op op_add (pv 1) pe_int) (pa_cons (pe_cmpR op_ne (pe_ix (kixT K) (pv 6) pe_int (fun _ _ => rfl)) pe_str (nomark _)) pa_nil))))))
        pss_nil)
      (pss_cut (ps_if (pt_cmpR op_eq (pv 8) pe_int (nomark _))
        (pss_one (ps_set (i := 4) sc_l_layer_like.nd rfl (by first | exact Or.inl rfl | exact Or.inr rfl) (pe_call D_l_box.ok (hr.mono (by decide)) rfl D_l_box.mgf D_l_box.kp D_l_box.b .nil pass0 (pa_cons (pv 0) (pa_cons (pe_op op_add (pv 1) pe_int) pa_nil)))))
        pss_nil)
      (pss_one (ps_ret (pe_tup (pa_cons (pv 3) (pa_cons (pv 4) (pa_cons (pv 5) (pa_cons (pv 6) (pa_cons (pv 7) pa_nil)))))))))))))))), ?_⟩
    rw [start_nrm (Nat.le_of_ble_eq_true rfl)]; dsimp only [startL]
    refine ⟨_, rfl, la, _, rfl, SqT.of hla, rfl, _, _, rfl, _, _, rfl, _, _, rfl, _, _, rfl, _, _, rfl, rfl, ?_⟩
    dsimp only [List.set]
    refine ⟨_, rfl, _, rfl, a, ns, k, 6, rfl, hS, k0, by decide, by decide, fun kd kd0 kd1 => ?_⟩
    dsimp only [List.set]
    have St : ∃ St : Int → L2.St → Hp → Prop, St = fun (C : Int) σ H' => Ex H H' ∧ ∃ n bv mv wv cv l', σ = [some (.ref a), some (.int k), some (.ref la), some n, some bv, some mv, some wv, some cv, some (.int kd)] ∧ PartsV H' n bv mv wv cv l' ∧ l'.Dr C ∧ NameL k l l' := ⟨_, rfl⟩
    obtain ⟨St, hSt⟩ := St
    -- a name
    refine ⟨St B, ?_, ?_⟩
    · rw [hSt]
      refine ⟨_, rfl, rfl, _, rfl, ?_⟩
      refine ite2 (fun _ => ?_) (fun _ => ⟨Ex.refl _, _, _, _, _, _, l, rfl, ⟨rfl, hb, ⟨ma, us, rfl, hma, hM⟩, hw, ca, ws, rfl, hca, hC⟩, dr, .inl rfl⟩)
      refine ⟨(by show 2 ≤ sizeLine; decide), fun t ht => ?_⟩
      have f1 := Ex.new (o := .lst [.str "m", .str "o"]) ht
      have g1 : upd H t (.lst [.str "m", .str "o"]) t = some (.lst [.str "m", .str "o"]) := upd_same
      generalize upd H t (.lst [.str "m", .str "o"]) = H1 at f1 g1 ⊢
      have nz := dr.vd.name
      have fin : ∀ (w : Str) (c : Nat), w.cps.toList = [c] → c ∈ letters → c = (if k > 450 then 111 else 109) → ∀ z, z = w ++ cutS l.name (some 1) none → (Ex H H1 ∧ ∃ n bv' mv wv' cv l', [some (.ref a), some (.int k), some (.ref la), some (.str z), some bv, some (.ref ma), some wv, some (.ref ca), some (.int kd)] = [some (.ref a), some (.int k), some (.ref la), some n, some bv', some mv, some wv', some cv, some (.int kd)] ∧ PartsV H1 n bv' mv wv' cv l' ∧ l'.Dr B ∧ NameL k l l') := fun w c hw1 hc ec z ez => by
        obtain ⟨n1, n2⟩ := name_head nz hc hw1
        rw [← ez] at n1 n2
        obtain ⟨⟨_, d2, d3, d4, d5⟩, dl0, dl1, dt0, dt1⟩ := dr
        refine ⟨f1, _, _, _, _, _, ⟨z, l.box, l.ms, l.wh, l.cs⟩, rfl, PartsV.tk (TK.ex f1) ⟨rfl, hb, ⟨ma, us, rfl, hma, hM⟩, hw, ca, ws, rfl, hca, hC⟩, ⟨⟨n1, d2, d3, d4, d5⟩, dl0, dl1, dt0, dt1⟩, .inr ?_⟩
        rw [← ec]
        exact n2
      have nz8 : l.name.length ≤ 8 := by
        unfold nameS at nz
        rw [Bool.and_eq_true, Bool.and_eq_true, decide_eq_true_eq, decide_eq_true_eq] at nz
        have := nz.1.2
        omega
      have cl := cutS_length l.name (some 1) none
      by_cases hk : k > 450
      · refine ⟨_, rfl, _, _, rfl, rfl, .inr ⟨_, rfl, t, _, 1, .str "o", rfl, by rw [decide_eq_true hk]; rfl, SqL.of g1, rfl, ?_⟩⟩
        refine ⟨_, rfl, _, rfl, _, rfl, Nat.le_of_lt (slineL (by omega)), _, _, rfl, rfl, ?_, ?_⟩
        · have : ("o" : Str).length = 1 := by decide +kernel
          rw [this]
          exact Nat.le_of_lt (slineL (by omega))
        exact fin "o" 111 (by decide +kernel) (by decide +kernel) (by rw [if_pos hk]) _ rfl
      · refine ⟨_, rfl, _, _, rfl, rfl, .inr ⟨_, rfl, t, _, 0, .str "m", rfl, by rw [decide_eq_false hk]; rfl, SqL.of g1, rfl, ?_⟩⟩
        refine ⟨_, rfl, _, rfl, _, rfl, Nat.le_of_lt (slineL (by omega)), _, _, rfl, rfl, ?_, ?_⟩
        · have : ("m" : Str).length = 1 := by decide +kernel
          rw [this]
          exact Nat.le_of_lt (slineL (by omega))
        exact fin "m" 109 (by decide +kernel) (by decide +kernel) (by rw [if_neg hk]) _ rfl
    -- a box moved
    rintro σ H1 hs
    rw [hSt] at hs
    obtain ⟨e1, n, bv, mv, wv, cv, l1, rfl, pw, d1, nm⟩ := hs
    refine ⟨St (B + 2), ?_, ?_⟩
    · rw [hSt]
      refine ⟨_, rfl, rfl, _, rfl, ?_⟩
      refine ite2 (fun _ => ?_) (fun _ => ⟨e1, n, bv, mv, wv, cv, l1, rfl, pw, d1.le (by omega), nm⟩)
      obtain ⟨hn, ⟨ba, rfl, hba⟩, hM, hw, hC⟩ := id pw
      refine ⟨_, rfl, ba, _, 0, _, rfl, rfl, SqT.of hba, rfl, _, rfl, _, rfl, _, _, rfl, rfl, a, ns, k + 1, 5, rfl, ex_l e1 hS, by omega, by decide, by decide, fun m m0 m1 => ?_⟩
      refine ⟨_, _, rfl, rfl, _, _, rfl, rfl, ?_⟩
      refine ⟨_, rfl, ba, _, 1, _, rfl, rfl, SqT.of hba, rfl, _, rfl, _, rfl, _, _, rfl, rfl, a, ns, k + 2, 3, rfl, ex_l e1 hS, by omega, by decide, by decide, fun r r0 r1 => ?_⟩
      refine ⟨_, _, rfl, rfl, _, _, rfl, rfl, ?_⟩
      refine ⟨_, rfl, ba, _, 2, _, rfl, rfl, SqT.of hba, rfl, _, rfl, ba, _, 3, _, rfl, rfl, SqT.of hba, rfl, (by show 4 ≤ sizeLine; decide), fun t ht => ?_⟩
      have f2 := Ex.new (o := .tup [.int (l1.box.l + m - 2), .int (l1.box.t + r - 1), .int l1.box.w, .int l1.box.h]) ht
      obtain ⟨⟨v1, v2, v3, v4, v5⟩, dl0, dl1, dt0, dt1⟩ := d1
      obtain ⟨b1, b2, b3, b4, b5, b6, b7, b8⟩ := v2
      obtain ⟨_, _, hM2, hw2, hC2⟩ := pw.tk (TK.ex f2)
      refine ⟨e1.trans f2, n, .ref t, mv, wv, cv, ⟨l1.name, ⟨l1.box.l + m - 2, l1.box.t + r - 1, l1.box.w, l1.box.h⟩, l1.ms, l1.wh, l1.cs⟩, rfl, ⟨hn, ⟨t, rfl, upd_same⟩, hM2, hw2, hC2⟩, ⟨⟨v1, ⟨?_, ?_, ?_, ?_, b5, b6, b7, b8⟩, v3, v4, v5⟩, ?_, ?_, ?_, ?_⟩, nm⟩
      · show -1000 ≤ l1.box.l + m - 2; omega
      · show l1.box.l + m - 2 ≤ 1000; omega
      · show -1000 ≤ l1.box.t + r - 1; omega
      · show l1.box.t + r - 1 ≤ 1000; omega
      · show -(B + 2) ≤ l1.box.l + m - 2; omega
      · show l1.box.l + m - 2 ≤ B + 2; omega
      · show -(B + 2) ≤ l1.box.t + r - 1; omega
      · show l1.box.t + r - 1 ≤ B + 2; omega
    clear e1 pw d1 nm
    -- what it does
    rintro σ H1 hs
    rw [hSt] at hs
    obtain ⟨e1, n, bv, mv, wv, cv, l1, rfl, pw, d1, nm⟩ := hs
    refine ⟨St (B + 2), ?_, ?_⟩
    · rw [hSt]
      refine ⟨_, rfl, rfl, _, rfl, ?_⟩
      refine ite2 (fun _ => ?_) (fun _ => ⟨e1, n, bv, mv, wv, cv, l1, rfl, pw, d1, nm⟩)
      obtain ⟨hn, hb, hM, hw, hC⟩ := id pw
      refine ⟨_, rfl, _, rfl, _, _, rfl, rfl, _, rfl, a, ns, k + 1, wv, l1.wh, rfl, ex_l e1 hS, by omega, hw, fun v y H2 e2 hv ho ha => ?_⟩
      obtain ⟨_, hb2, hM2, _, hC2⟩ := pw.tk (TK.ex e2)
      obtain ⟨⟨v1, v2, v3, v4, v5⟩, dl0, dl1, dt0, dt1⟩ := d1
      exact ⟨e1.trans e2, n, bv, mv, v, cv, ⟨l1.name, l1.box, l1.ms, y, l1.cs⟩, rfl, ⟨hn, hb2, hM2, hv, hC2⟩, ⟨⟨v1, v2, v3, ho, by show ClsVd y.adj l1.cs; rw [ha]; exact v5⟩, dl0, dl1, dt0, dt1⟩, nm⟩
    clear e1 pw d1 nm
    -- moves
    rintro σ H1 hs
    rw [hSt] at hs
    obtain ⟨e1, n, bv, mv, wv, cv, l1, rfl, pw, d1, nm⟩ := hs
    refine ⟨St (B + 2), ?_, ?_⟩
    · rw [hSt]
      refine ⟨_, rfl, rfl, _, rfl, ?_⟩
      refine ite2 (fun _ => ?_) (fun _ => ⟨e1, n, bv, mv, wv, cv, l1, rfl, pw, d1, nm⟩)
      obtain ⟨hn, hb, hM, hw, hC⟩ := id pw
      refine ⟨_, rfl, _, rfl, _, _, rfl, rfl, a, ns, k + 1, rfl, ex_l e1 hS, by omega, fun p us ms H2 e2 hp hMs mo => ?_⟩
      obtain ⟨_, hb2, _, hw2, hC2⟩ := pw.tk (TK.ex e2)
      obtain ⟨⟨v1, v2, v3, v4, v5⟩, dl0, dl1, dt0, dt1⟩ := d1
      obtain ⟨m1, m2, m3⟩ := mo
      exact ⟨e1.trans e2, n, bv, .ref p, wv, cv, ⟨l1.name, l1.box, ms, l1.wh, l1.cs⟩, rfl, ⟨hn, hb2, ⟨p, us, rfl, hp, hMs⟩, hw2, hC2⟩, ⟨⟨v1, v2, ⟨m1, fun m hm => by have := m2 m hm; omega, by show ms.length ≤ 16; omega⟩, v4, v5⟩, dl0, dl1, dt0, dt1⟩, nm⟩
    clear e1 pw d1 nm
    -- clips
    rintro σ H1 hs
    rw [hSt] at hs
    obtain ⟨e1, n, bv, mv, wv, cv, l1, rfl, pw, d1, nm⟩ := hs
    refine ⟨St (B + 2), ?_, ?_⟩
    · rw [hSt]
      refine ⟨_, rfl, rfl, _, rfl, ?_⟩
      refine ite2 (fun _ => ?_) (fun _ => ⟨e1, n, bv, mv, wv, cv, l1, rfl, pw, d1, nm⟩)
      obtain ⟨hn, hb, hM, ⟨wa, rfl, hwa⟩, hC⟩ := id pw
      refine ⟨_, rfl, _, rfl, _, _, rfl, rfl, _, rfl, wa, _, 0, _, rfl, rfl, SqT.of hwa, l1.wh.at0, rfl, a, ns, k + 1, l1.wh.adj, by rw [Wh.adj_eq]; rfl, ex_l e1 hS, by omega, fun p us cs H2 e2 hp hCs co => ?_⟩
      obtain ⟨_, hb2, hM2, hw2, _⟩ := pw.tk (TK.ex e2)
      obtain ⟨⟨v1, v2, v3, v4, v5⟩, dl0, dl1, dt0, dt1⟩ := d1
      obtain ⟨c1, c2, c3, c4, c5⟩ := co
      exact ⟨e1.trans e2, n, bv, mv, .ref wa, .ref p, ⟨l1.name, l1.box, l1.ms, l1.wh, cs⟩, rfl, ⟨hn, hb2, hM2, hw2, ⟨p, us, rfl, hp, hCs⟩⟩, ⟨⟨v1, v2, v3, v4, ⟨c1, fun c hc => (c2 c hc).vd (c3 c hc), c4, by show cs.length ≤ 64; omega⟩⟩, dl0, dl1, dt0, dt1⟩, nm⟩
    clear e1 pw d1 nm
    -- a box
    rintro σ H1 hs
    rw [hSt] at hs
    obtain ⟨e1, n, bv, mv, wv, cv, l1, rfl, pw, d1, nm⟩ := hs
    refine ⟨St (B + 2), ?_, ?_⟩
    · rw [hSt]
      refine ⟨_, rfl, rfl, _, rfl, ?_⟩
      refine ite2 (fun _ => ?_) (fun _ => ⟨e1, n, bv, mv, wv, cv, l1, rfl, pw, d1, nm⟩)
      obtain ⟨hn, hb, hM, hw, hC⟩ := id pw
      refine ⟨_, rfl, _, rfl, _, _, rfl, rfl, a, ns, k + 1, rfl, ex_l e1 hS, by omega, fun v b H2 e2 hbv bo => ?_⟩
      obtain ⟨_, _, hM2, hw2, hC2⟩ := pw.tk (TK.ex e2)
      obtain ⟨⟨v1, v2, v3, v4, v5⟩, dl0, dl1, dt0, dt1⟩ := d1
      obtain ⟨b1, b2, b3, b4, b5, b6, b7, b8⟩ := bo
      refine ⟨e1.trans e2, n, v, mv, wv, cv, ⟨l1.name, b, l1.ms, l1.wh, l1.cs⟩, rfl, ⟨hn, hbv, hM2, hw2, hC2⟩, ⟨⟨v1, ⟨by show -1000 ≤ b.l; omega, by show b.l ≤ 1000; omega, by show -1000 ≤ b.t; omega, by show b.t ≤ 1000; omega, b5, b6, b7, b8⟩, v3, v4, v5⟩, by show -(B + 2) ≤ b.l; omega, by show b.l ≤ B + 2; omega, by show -(B + 2) ≤ b.t; omega, by show b.t ≤ B + 2; omega⟩, nm⟩
    clear e1 pw d1 nm
    rintro σ H1 hs
    rw [hSt] at hs
    obtain ⟨e1, n, bv, mv, wv, cv, l1, rfl, ⟨rfl, hb, ⟨ma, us, rfl, hma, hM⟩, hw, ca, ws, rfl, hca, hC⟩, d1, nm⟩ := hs
    refine ⟨_, rfl, _, rfl, _, rfl, _, rfl, _, rfl, (by show 5 ≤ sizeLine; decide), fun t ht => ?_⟩
    have f2 := Ex.new (o := .tup [.str l1.name, bv, .ref ma, wv, .ref ca]) ht
    have tk := TK.ex f2
    exact q (.ref t) l1 _ (e1.trans f2) ⟨t, bv, ma, wv, ca, us, ws, rfl, upd_same, hb.tk tk, f2 _ _ hma, hM.tk tk, hw.tk tk, f2 _ _ hca, hC.tk tk⟩ d1 nm

abbrev s_l_changed : Stmt := top 96
theorem sc_l_changed : FnScope ["script", "k", "parts", "layers", "background", "kind", "at"] ["script", "k", "parts"] (defScope s_l_changed) := ⟨rfl, rfl, rfl, by decide +kernel, rfl, by decide +kernel, by decide +kernel⟩
theorem pr_eraseN {α β : Type} {G : α → β → Prop} : ∀ {l₁ : List α} {l₂ : List β} (n : Nat), Paired G l₁ l₂ → Paired G (l₁.eraseIdx n) (l₂.eraseIdx n)
  | _, _, _, .nil => .nil
  | _, _, 0, .cons r t => t
  | _, _, n + 1, .cons r t => .cons r (pr_eraseN n t)
theorem pr_setN {α β : Type} {G : α → β → Prop} : ∀ {l₁ : List α} {l₂ : List β} (n : Nat) {x : α} {y : β}, Paired G l₁ l₂ → G x y → Paired G (l₁.set n x) (l₂.set n y)
  | _, _, _, _, _, .nil, _ => .nil
  | _, _, 0, _, _, .cons r t, h => .cons h t
  | _, _, n + 1, _, _, .cons r t, h => .cons r (pr_setN n t h)
theorem nd_set {α : Type} : ∀ {xs : List α} {j : Nat} {c : α}, xs.Nodup → c ∉ xs → (xs.set j c).Nodup
  | [], _, _, _, _ => List.nodup_nil
  | x :: xs, 0, c, h, n => List.nodup_cons.mpr ⟨fun z => n (List.mem_cons_of_mem _ z), (List.nodup_cons.mp h).2⟩
  | x :: xs, j + 1, c, h, n => by
    obtain ⟨h1, h2⟩ := List.nodup_cons.mp h
    refine List.nodup_cons.mpr ⟨fun z => ?_, nd_set h2 fun z => n (List.mem_cons_of_mem _ z)⟩
    rcases List.mem_or_eq_of_mem_set z with z | z
    · exact h1 z
    · exact n (z ▸ List.mem_cons_self ..)
theorem nd_of_map {α β : Type} (f : α → β) : ∀ {l : List α}, (l.map f).Nodup → l.Nodup
  | [], _ => List.nodup_nil
  | x :: l, h => by
    rw [List.map_cons, List.nodup_cons] at h
    exact List.nodup_cons.mpr ⟨fun z => h.1 (List.mem_map_of_mem z), nd_of_map f h.2⟩
def La.hd (l : La) : Option Nat := hdS l.name
/-- layers near the origin, told apart by the first letters of their names -/
structure LsDr (B : Int) (N : Nat) (ls : List La) : Prop where
  ok : ∀ l ∈ ls, l.Dr B
  nd : (ls.map La.hd).Nodup
  len : ls.length ≤ N
theorem LsDr.names {B : Int} {N : Nat} {ls : List La} (h : LsDr B N ls) : (ls.map La.name).Nodup := by
  have e : ls.map La.hd = (ls.map La.name).map hdS := by rw [List.map_map]; rfl
  have := h.nd
  rw [e] at this
  exact nd_of_map _ this
theorem La.Ok.vdn {l : La} (h : l.Ok) (hn : nameS l.name = true) : l.Vd := by
  obtain ⟨⟨b1, b2, b3, b4, b5, b6, b7, b8⟩, ⟨m1, m2, m3⟩, w, ⟨c1, c2, c3, c4, c5⟩⟩ := h
  exact ⟨hn, ⟨by omega, by omega, by omega, by omega, b5, b6, b7, b8⟩, ⟨m1, fun m hm => by have := m2 m hm; omega, by omega⟩, w, ⟨c1, fun c hc => (c2 c hc).vd (c3 c hc), c4, by omega⟩⟩
theorem La.Ok.dr {l : La} {B : Int} (h : l.Ok) (hn : nameS l.name = true) (hB : 8 ≤ B) : l.Dr B := by
  obtain ⟨b1, b2, b3, b4, _⟩ := h.box
  exact ⟨h.vdn hn, by omega, by omega, by omega, by omega⟩
theorem set_same' {α : Type} : ∀ {xs : List α} {j : Nat} {a : α}, xs[j]? = some a → xs.set j a = xs
  | [], _, _, h => rfl
  | x :: xs, 0, a, h => by
    simp at h
    rw [h]
    rfl
  | x :: xs, j + 1, a, h => by
    simp at h
    show x :: xs.set j a = _
    rw [set_same' (by simpa using h)]
theorem LsDr.insert {B : Int} {N : Nat} {ls : List La} (h : LsDr B N ls) {l : La} (hl : l.Dr (B + 2)) (n : l.hd ∉ ls.map La.hd) (i : Nat) : LsDr (B + 2) (N + 1) (ls.take i ++ [l] ++ ls.drop i) ∧ ∀ c ∈ (ls.take i ++ [l] ++ ls.drop i).map La.hd, c ∈ ls.map La.hd ∨ c = l.hd := by
  have p : (ls.take i ++ [l] ++ ls.drop i).Perm (l :: ls) := by
    rw [List.append_assoc]
    have z := List.perm_middle (l₁ := ls.take i) (l₂ := ls.drop i) (a := l)
    rw [List.take_append_drop] at z
    exact z
  refine ⟨⟨fun x hx => ?_, (p.map La.hd).nodup_iff.mpr (List.nodup_cons.mpr ⟨n, h.nd⟩), ?_⟩, fun c hc => ?_⟩
  · rcases List.mem_cons.mp (p.mem_iff.mp hx) with rfl | hx
    · exact hl
    · exact (h.ok x hx).le (by omega)
  · rw [p.length_eq, List.length_cons]
    have := h.len
    omega
  · rcases List.mem_cons.mp ((p.map La.hd).mem_iff.mp hc) with e | hc
    · exact .inr e
    · exact .inl hc
theorem LsDr.sub {B : Int} {N : Nat} {ls ms : List La} (h : LsDr B N ls) (s : ms.Sublist ls) : LsDr (B + 2) (N + 1) ms ∧ ∀ c ∈ ms.map La.hd, c ∈ ls.map La.hd :=
  ⟨⟨fun x hx => (h.ok x (s.subset hx)).le (by omega), List.Nodup.sublist (s.map La.hd) h.nd, by have := s.length_le; have := h.len; omega⟩, fun c hc => (s.map La.hd).subset hc⟩
theorem LsDr.perm {B : Int} {N : Nat} {ls ms : List La} (h : LsDr B N ls) (p : ms.Perm ls) : LsDr (B + 2) (N + 1) ms ∧ ∀ c ∈ ms.map La.hd, c ∈ ls.map La.hd :=
  ⟨⟨fun x hx => (h.ok x (p.mem_iff.mp hx)).le (by omega), (p.map La.hd).nodup_iff.mpr h.nd, by have := p.length_eq; have := h.len; omega⟩, fun c hc => (p.map La.hd).mem_iff.mp hc⟩
theorem LsDr.set {B : Int} {N : Nat} {ls : List La} (h : LsDr B N ls) {j : Nat} {l l' : La} (hj : ls[j]? = some l) (hl : l'.Dr (B + 2)) (n : l'.hd = l.hd ∨ l'.hd ∉ ls.map La.hd) : LsDr (B + 2) (N + 1) (ls.set j l') ∧ ∀ c ∈ (ls.set j l').map La.hd, c ∈ ls.map La.hd ∨ c = l'.hd := by
  have hjm : (ls.map La.hd)[j]? = some l.hd := by rw [List.getElem?_map, hj]; rfl
  refine ⟨⟨fun x hx => ?_, ?_, by rw [List.length_set]; have := h.len; omega⟩, fun c hc => ?_⟩
  · rcases List.mem_or_eq_of_mem_set hx with hx | rfl
    · exact (h.ok x hx).le (by omega)
    · exact hl
  · rw [List.map_set]
    rcases n with e | n
    · rw [e, set_same' hjm]
      exact h.nd
    · exact nd_set h.nd n
  · rw [List.map_set] at hc
    rcases List.mem_or_eq_of_mem_set hc with hc | e
    · exact .inl hc
    · exact .inr e
/-- a film as drawn and changed -/
structure Fi.Dr (B : Int) (N : Nat) (x : Fi) : Prop where
  w0 : 1 ≤ x.w
  w1 : x.w ≤ 64
  h0 : 1 ≤ x.h
  h1 : x.h ≤ 64
  n0 : 1 ≤ x.n
  n1 : x.n ≤ 10
  b0 : 0 ≤ x.b
  b1 : x.b ≤ 255
  ls : LsDr B N x.ls
theorem Fi.Dr.vd {B : Int} {N : Nat} {x : Fi} (h : x.Dr B N) (hN : N ≤ 16) : x.Vd :=
  ⟨h.w0, h.w1, h.h0, h.h1, h.n0, by have := h.n1; omega, h.b0, h.b1, Nat.le_trans h.ls.len hN, fun l hl => (h.ls.ok l hl).vd, h.ls.names⟩
def ck (k : Int) : Option Nat := some (if k > 450 then 111 else 109)
def spChanged (K : PySem.W.Frag) : Sp := fun vs H Q _ => ∃ (a : Addr) (ns : List Int) (k : Int) (v : V) (x : Fi) (B : Int) (N : Nat), vs = [.ref a, .int k, v] ∧ SqL K H a (ns.map V.int) ∧ 0 ≤ k ∧ FiV H v x ∧ x.Dr B N ∧ 8 ≤ B ∧ B ≤ 900 ∧ N ≤ 15 ∧ some 110 ∉ x.ls.map La.hd ∧ ck (k + 4) ∉ x.ls.map La.hd ∧
  ∀ v x' H', Ex H H' → FiV H' v x' → x'.Dr (B + 2) (N + 1) → x'.w = x.w → x'.h = x.h → x'.n = x.n → (∀ c ∈ x'.ls.map La.hd, c ∈ x.ls.map La.hd ∨ c = some 110 ∨ c = ck (k + 4)) → Q v H'
theorem ok_l_changed {f : Addr} {fd : FuncData} (F : Fun K "_law_changed" "_law_changed" s_l_changed f fd) (T : Txt K mg) (D_l_draw : Def P w K mg base CX0 "_law_draw" 1 ["script", "k", "below"] (spDrawF K)) (D_l_layer : Def P w K mg base CX0 "_law_layer" 5 ["script", "k", "name"] (spLayerF K))
    (D_l_layer_like : Def P w K mg base CX0 "_law_layer_like" 5 ["script", "k", "layer"] (spLayerLike K)) : FnOk P w K mg base CX0 6 f fd ["script", "k", "parts"] (spChanged K) := by
  refine F.ok sc_l_changed (fun vs H Q E h => ?_) (fun cdv A outer s H vs Q E hr h => ?_)
  · obtain ⟨a, ns, k, v, x, B, N, rfl, _⟩ := h
    rfl
  · obtain ⟨a, ns, k, v, x, B, N, rfl, hS, k0, ⟨pa, L, us, rfl, hpa, hL, hP⟩, dr, B0, B1, N1, n110, nck, q⟩ := h
    have lu := hP.length
    have lN := dr.ls.len
    refine ⟨_, (pss_cons (ps_set (i := 3) sc_l_changed.nd rfl (by first | exact Or.inl rfl | exact Or.inr rfl) (pe_callTy (klist K) (by rfl) T.list_ bt_list (pa_cons (pe_ix (kixT K) (pv 2) pe_int (fun _ _ => rfl)) pa_nil)))
      (pss_cons (ps_set (i := 4) sc_l_changed.nd rfl (by first | exact Or.inl rfl | exact Or.inr rfl) (pe_ix (kixT K) (pv 2) pe_int (fun _ _ => rfl)))
      (pss_cons (ps_set (i := 5) sc_l_changed.nd rfl (by first | exact Or.inl rfl | exact Or.inr rfl) (pe_call D_l_draw.ok (hr.mono (by decide)) rfl D_l_draw.mgf D_l_draw.kp D_l_draw.b .nil pass0 (pa_cons (pv 0) (pa_cons (pv 1) (pa_cons pe_int pa_nil)))))
      (pss_cons (ps_set (i := 6) sc_l_changed.nd rfl (by first | exact Or.inl rfl | exact Or.inr rfl) (pe_call D_l_draw.ok (hr.mono (by decide)) rfl D_l_draw.mgf D_l_draw.kp D_l_draw.b .nil pass0 (pa_cons (pv 0) (pa_cons (pe_op op_add (pv 1) pe_int) (pa_cons (pe_callB (call_max2 rfl) (by rfl) T.max_ bt_max (pa_cons pe_int (pa_cons (pe_callB (klen K) (by rfl) T.len_ PySem.boot_len (pa_cons (pv 3) pa_nil)) pa_nil))) pa_nil)))))
      (pss_cut (ps_if (PW.pt (pw_or (pt_cmpR op_eq (pv 5) pe_int (nomark _)) (pw_or1 (pt_cmpR op_eq (pe_callB (klen K) (by rfl) T.len_ PySem.boot_len (pa_cons (pv 3) pa_nil)) pe_int (nomark _)))))
        (pss_one (ps_expr (pe_bm PySem.F.plainAttrs_list PySem.F.slot_list_insert PySem.F.type_list_insert mt_insert (pv 3) (pa_cons (pe_call D_l_draw.ok (hr.mono (by decide)) rfl D_l_draw.mgf D_l_draw.kp D_l_draw.b .nil pass0 (pa_cons (pv 0) (pa_cons (pe_op op_add (pv 1) pe_int) (pa_cons (pe_op op_add (pe_callB (klen K) (by rfl) T.len_ PySem.boot_len (pa_cons (pv 3) pa_nil)) pe_int) pa_nil)))) (pa_cons (pe_call D_l_layer.ok (hr.mono (by decide)) rfl D_l_layer.mgf D_l_layer.kp D_l_layer.b .nil pass0 (pa_cons (pv 0) (pa_cons (pe_op op_add (pv 1) pe_int) (pa_cons pe_str pa_nil)))) pa_nil)))))
        (pss_one (ps_if (pt_cmpR op_eq (pv 5) pe_int (nomark _))
          (pss_one (ps_expr (pe_bm PySem.F.plainAttrs_list PySem.F.slot_list_pop PySem.F.type_list_pop mt_popAt (pv 3) (pa_cons (pv 6) pa_nil))))
          (pss_one (ps_if (pt_cmpR op_eq (pv 5) pe_int (nomark _))
            (pss_one (ps_set (i := 3) sc_l_changed.nd rfl (by first | exact Or.inl rfl | exact Or.inr rfl) (pe_op op_cat (pe_slice (kslL K) (pv 3) (po_some (pv 6)) po_none) (pe_slice (kslL K) (pv 3) po_none (po_some (pv 6))))))
            (pss_one (ps_if (pt_cmpR op_eq (pv 5) pe_int (nomark _))
              (pss_one (ps_set (i := 4) sc_l_changed.nd rfl (by first | exact Or.inl rfl | exact Or.inr rfl) (pe_ix (kixL K) (pe_lst (pa_cons pe_int (pa_cons pe_int (pa_cons pe_int pa_nil)))) (pe_call D_l_draw.ok (hr.mono (by decide)) rfl D_l_draw.mgf D_l_draw.kp D_l_draw.b .nil pass0 (pa_cons (pv 0) (pa_cons (pe_op op_add (pv 1) pe_int) (pa_cons pe_int pa_nil)))) (fun _ _ => rfl))))
              (pss_one (ps_asg (pe_call D_l_layer_like.ok (hr.mono (by decide)) rfl D_l_layer_like.mgf D_l_layer_like.kp D_l_layer_like.b .nil pass0 (pa_cons (pv 0) (pa_cons (pe_op op_add (pv 1) pe_int) (pa_cons (pe_ix (kixL K) (pv 3) (pv 6) (fun _ _ => rfl)) pa_nil)))) (pg_sub (pv 3) (pv 6) set_list))))))))))
      (pss_one (ps_ret (pe_tup (pa_cons (pe_ix (kixT K) (pv 2) pe_int (fun _ _ => rfl)) (pa_cons (pe_ix (kixT K) (pv 2) pe_int (fun _ _ => rfl)) (pa_cons (pe_ix (kixT K) (pv 2) pe_int (fun _ _ => rfl)) (pa_cons (pv 4) (pa_cons (pv 3) pa_nil))))))))))))), ?_⟩
    rw [start_nrm (Nat.le_of_ble_eq_true rfl)]; dsimp only [startL]
    refine ⟨_, rfl, pa, _, 4, _, rfl, rfl, SqT.of hpa, rfl, L, us, rfl, .inl (SqL.of hL), fun D hD => ?_⟩
    have e1 := Ex.new (o := .lst us) hD
    have g1 : upd H D (.lst us) D = some (.lst us) := upd_same
    generalize upd H D (.lst us) = H1 at e1 g1 ⊢
    dsimp only [List.set]
    have hpa1 := e1 _ _ hpa
    refine ⟨_, rfl, pa, _, 3, _, rfl, rfl, SqT.of hpa1, rfl, ?_⟩
    dsimp only [List.set]
    refine ⟨_, rfl, _, rfl, a, ns, k, 9, rfl, ex_l e1 hS, k0, by decide, by decide, fun kd kd0 kd1 => ?_⟩
    dsimp only [List.set]
    refine ⟨_, rfl, _, rfl, _, _, rfl, rfl, _, rfl, D, us, rfl, .inl (SqL.of g1), _, _, rfl, a, ns, k + 1, (if (us.length : Int) > 1 then (us.length : Int) else 1), rfl, ex_l e1 hS, by omega, by split <;> omega, by split <;> omega, fun at_ at0 at1 => ?_⟩
    dsimp only [List.set]
    have hP1 := Paired.mapP hP fun _ _ => LaV.tk (TK.ex e1)
    refine ⟨fun σ H' => Ex H H' ∧ ∃ (D' : Addr) (bg : Int) (us' : List V) (ls' : List La), σ = [some (.ref a), some (.int k), some (.ref pa), some (.ref D'), some (.int bg), some (.int kd), some (.int at_)] ∧ 0 ≤ bg ∧ bg ≤ 255 ∧ H' D' = some (.lst us') ∧ Paired (LaV H') us' ls' ∧ LsDr (B + 2) (N + 1) ls' ∧ ∀ c ∈ ls'.map La.hd, c ∈ x.ls.map La.hd ∨ c = some 110 ∨ c = ck (k + 4), ?_, ?_⟩
    · refine ⟨_, rfl, rfl, _, rfl, ?_⟩
      refine ite2 (fun _ => ?_) (fun _ => ?_)
      · refine iteT ?_
        refine ⟨_, rfl, .inl ⟨rfl, _, SqL.of g1⟩, ?_⟩
        refine ⟨_, rfl, _, rfl, _, _, rfl, rfl, _, rfl, D, us, rfl, .inl (SqL.of g1), _, _, rfl, rfl, a, ns, k + 2, (us.length : Int) + 1, rfl, ex_l e1 hS, by omega, by omega, by omega, fun m m0 m1 => ?_⟩
        refine ⟨_, rfl, _, rfl, _, _, rfl, rfl, a, ns, k + 4, "n", rfl, ex_l e1 hS, by omega, fun v l H2 e2 hv lo ln => ?_⟩
        refine ⟨D, us, m, v, rfl, rfl, e2 _ _ g1, slineL (by omega), m0, by omega, ?_⟩
        have P2 := Paired.mapP hP1 fun _ _ => LaV.tk (TK.ex e2)
        have tk := TK.lst (o := .lst (us.take m.toNat ++ [v] ++ us.drop m.toNat)) (e2 _ _ g1)
        have hh : l.hd = some 110 := by unfold La.hd; rw [ln]; decide +kernel
        obtain ⟨i1, i2⟩ := dr.ls.insert (lo.dr (by rw [ln]; decide +kernel) (by omega)) (by rw [hh]; exact n110) m.toNat
        refine ⟨(e1.trans e2).mut hD, D, x.b, _, _, rfl, dr.b0, dr.b1, upd_same, Paired.mapP (pr_append (pr_append (pr_take m.toNat P2) (.cons hv .nil)) (pr_drop m.toNat P2)) fun _ _ => LaV.tk tk, i1, fun c hc => (i2 c hc).elim .inl fun e => .inr (.inl (e.trans hh))⟩
      refine ⟨_, rfl, D, us, rfl, .inl (SqL.of g1), rfl, _, rfl, ?_⟩
      refine ite2 (fun _ => ?_) (fun c2 => ?_)
      · refine ⟨_, rfl, .inl ⟨rfl, _, SqL.of g1⟩, ?_⟩
        refine ⟨_, rfl, _, rfl, _, _, rfl, rfl, _, rfl, D, us, rfl, .inl (SqL.of g1), _, _, rfl, rfl, a, ns, k + 2, (us.length : Int) + 1, rfl, ex_l e1 hS, by omega, by omega, by omega, fun m m0 m1 => ?_⟩
        refine ⟨_, rfl, _, rfl, _, _, rfl, rfl, a, ns, k + 4, "n", rfl, ex_l e1 hS, by omega, fun v l H2 e2 hv lo ln => ?_⟩
        refine ⟨D, us, m, v, rfl, rfl, e2 _ _ g1, slineL (by omega), m0, by omega, ?_⟩
        have P2 := Paired.mapP hP1 fun _ _ => LaV.tk (TK.ex e2)
        have tk := TK.lst (o := .lst (us.take m.toNat ++ [v] ++ us.drop m.toNat)) (e2 _ _ g1)
        have hh : l.hd = some 110 := by unfold La.hd; rw [ln]; decide +kernel
        obtain ⟨i1, i2⟩ := dr.ls.insert (lo.dr (by rw [ln]; decide +kernel) (by omega)) (by rw [hh]; exact n110) m.toNat
        refine ⟨(e1.trans e2).mut hD, D, x.b, _, _, rfl, dr.b0, dr.b1, upd_same, Paired.mapP (pr_append (pr_append (pr_take m.toNat P2) (.cons hv .nil)) (pr_drop m.toNat P2)) fun _ _ => LaV.tk tk, i1, fun c hc => (i2 c hc).elim .inl fun e => .inr (.inl (e.trans hh))⟩
      have c2 : ¬ us.length = 0 := fun z => c2 (decide_eq_true (by rw [z]; rfl))
      have hat : at_ < us.length := by
        split at at1 <;> omega
      obtain ⟨j, rfl⟩ := Int.eq_ofNat_of_zero_le at0
      have hj : j < us.length := by omega
      have huj : us[j]? = some us[j] := List.getElem?_eq_getElem hj
      generalize us[j] = uv at huj
      obtain ⟨lj, hlj, hljv⟩ := pr_get hP1 huj
      refine ⟨_, rfl, rfl, _, rfl, ?_⟩
      refine ite2 (fun _ => ?_) (fun _ => ?_)
      · refine ⟨_, rfl, .inl ⟨rfl, _, SqL.of g1⟩, ?_⟩
        refine ⟨_, rfl, D, us, (j : Int), j, uv, rfl, rfl, g1, by omega, by omega, PySem.seqIndex_of (by omega) (by omega), huj, ?_⟩
        have tk := TK.lst (o := .lst (us.eraseIdx j)) g1
        obtain ⟨i1, i2⟩ := dr.ls.sub (List.eraseIdx_sublist x.ls j)
        exact ⟨e1.mut hD, D, x.b, _, _, rfl, dr.b0, dr.b1, upd_same, Paired.mapP (pr_eraseN j hP1) fun _ _ => LaV.tk tk, i1, fun c hc => .inl (i2 c hc)⟩
      refine ⟨_, rfl, rfl, _, rfl, ?_⟩
      refine ite2 (fun _ => ?_) (fun _ => ?_)
      · refine ⟨_, rfl, _, rfl, _, rfl, D, us, rfl, SqL.of g1, fun p hp => ?_⟩
        have f2 := Ex.new (o := .lst (cutV us (some (j : Int)) none)) hp
        have g2 : upd H1 p (.lst (cutV us (some (j : Int)) none)) p = some (.lst (cutV us (some (j : Int)) none)) := upd_same
        generalize upd H1 p (.lst (cutV us (some (j : Int)) none)) = H2 at f2 g2 ⊢
        refine ⟨_, rfl, _, rfl, _, rfl, D, us, rfl, SqL.of (f2 _ _ g1), fun p2 hp2 => ?_⟩
        have f3 := Ex.new (o := .lst (cutV us none (some (j : Int)))) hp2
        have g3 : upd H2 p2 (.lst (cutV us none (some (j : Int)))) p2 = some (.lst (cutV us none (some (j : Int)))) := upd_same
        generalize upd H2 p2 (.lst (cutV us none (some (j : Int)))) = H3 at f3 g3 ⊢
        have g23 := f3 _ _ g2
        rw [cutV_take (by omega)] at g3
        rw [cutV_drop (by omega)] at g23
        refine ⟨p, p2, _, _, rfl, rfl, g23, g3, Nat.le_of_lt (slineL (by rw [List.length_drop, List.length_take]; omega)), fun r hr => ?_⟩
        have f4 := Ex.new (o := .lst (us.drop j ++ us.take j)) hr
        have f14 := (f2.trans f3).trans f4
        have P4 := Paired.mapP hP1 fun _ _ => LaV.tk (TK.ex f14)
        obtain ⟨i1, i2⟩ := dr.ls.perm (ms := x.ls.drop j ++ x.ls.take j) (List.perm_append_comm.trans (List.Perm.of_eq (List.take_append_drop j x.ls)))
        exact ⟨e1.trans f14, r, x.b, _, _, rfl, dr.b0, dr.b1, upd_same, pr_append (pr_drop j P4) (pr_take j P4), i1, fun c hc => .inl (i2 c hc)⟩
      refine ⟨_, rfl, rfl, _, rfl, ?_⟩
      refine ite2 (fun _ => ?_) (fun _ => ?_)
      · refine ⟨(by show 3 ≤ sizeLine; decide), fun l hl => ?_⟩
        have f2 := Ex.new (o := .lst [.int 0, .int 255, .int 78]) hl
        have g2 : upd H1 l (.lst [.int 0, .int 255, .int 78]) l = some (.lst ([0, 255, 78].map V.int)) := upd_same
        generalize upd H1 l (.lst [.int 0, .int 255, .int 78]) = H2 at f2 g2 ⊢
        refine ⟨_, rfl, _, rfl, _, _, rfl, rfl, a, ns, k + 2, 3, rfl, ex_l (e1.trans f2) hS, by omega, by decide, by decide, fun m m0 m1 => ?_⟩
        obtain ⟨b, hb, exb⟩ := pickI (ns := [0, 255, 78]) m0 m1
        simp only [List.mem_cons, List.not_mem_nil, or_false] at hb
        refine ⟨l, _, m, _, rfl, rfl, SqL.of g2, exb, ?_⟩
        obtain ⟨i1, i2⟩ := dr.ls.sub (List.Sublist.refl x.ls)
        exact ⟨e1.trans f2, D, b, us, x.ls, rfl, by omega, by omega, f2 _ _ g1, Paired.mapP hP1 fun _ _ => LaV.tk (TK.ex f2), i1, fun c hc => .inl (i2 c hc)⟩
      refine ⟨_, rfl, _, rfl, _, _, rfl, rfl, _, rfl, _, rfl, D, us, (j : Int), uv, rfl, rfl, SqL.of g1, atI_nat huj, ?_⟩
      refine ⟨a, ns, k + 4, uv, lj, B, rfl, ex_l e1 hS, by omega, hljv, dr.ls.ok lj (List.mem_of_getElem? hlj), B0, B1, fun v l' H2 e2 hv dl nl => ?_⟩
      have hn : l'.hd = lj.hd ∨ l'.hd = ck (k + 4) := nl.elim (fun e => .inl (by unfold La.hd; rw [e])) .inr
      obtain ⟨i1, i2⟩ := dr.ls.set hlj dl (hn.imp_right fun e => by rw [e]; exact nck)
      have P2 := Paired.mapP hP1 fun _ _ => LaV.tk (TK.ex e2)
      refine ⟨_, rfl, _, rfl, D, us, (j : Int), j, rfl, rfl, e2 _ _ g1, by unfold ixN; rw [if_pos (by omega), if_pos (by omega)]; rfl, ?_⟩
      have tk := TK.lst (o := .lst (us.set j v)) (e2 _ _ g1)
      refine ⟨(e1.trans e2).mut hD, D, x.b, _, _, rfl, dr.b0, dr.b1, upd_same, Paired.mapP (pr_setN j P2 hv) fun _ _ => LaV.tk tk, i1, fun c hc => ?_⟩
      rcases i2 c hc with z | z
      · exact .inl z
      · rcases hn with e | e
        · refine .inl ?_
          rw [z, e]
          exact List.mem_map_of_mem (List.mem_of_getElem? hlj)
        · exact .inr (.inr (z.trans e))
    · rintro σ H2 ⟨e2, D', bg, us', ls', rfl, bg0, bg1, hD', hP', dr', hh⟩
      have hpa2 := e2 _ _ hpa
      refine ⟨_, rfl, pa, _, 0, _, rfl, rfl, SqT.of hpa2, rfl, _, rfl, pa, _, 1, _, rfl, rfl, SqT.of hpa2, rfl, _, rfl, pa, _, 2, _, rfl, rfl, SqT.of hpa2, rfl, _, rfl, _, rfl, (by show 5 ≤ sizeLine; decide), fun t ht => ?_⟩
      have f3 := Ex.new (o := .tup [.int x.w, .int x.h, .int x.n, .int bg, .ref D']) ht
      exact q (.ref t) ⟨x.w, x.h, x.n, bg, ls'⟩ _ (e2.trans f3) ⟨t, D', us', rfl, upd_same, f3 _ _ hD', Paired.mapP hP' fun _ _ => LaV.tk (TK.ex f3)⟩ ⟨dr.w0, dr.w1, dr.h0, dr.h1, dr.n0, dr.n1, bg0, bg1, dr'⟩ rfl rfl rfl hh

/-! equal data, equal stacks -/
theorem eqvAll_inj {α : Type} {f : α → PyData} (h : ∀ x y, PyData.eqv (f x) (f y) = true → x = y) : ∀ {xs ys : List α}, PyData.eqvAll (xs.map f) (ys.map f) = true → xs = ys
  | [], [], _ => rfl
  | [], y :: ys, e => by simp [PyData.eqvAll] at e
  | x :: xs, [], e => by simp [PyData.eqvAll] at e
  | x :: xs, y :: ys, e => by
    rw [List.map_cons, List.map_cons, PyData.eqvAll, Bool.and_eq_true] at e
    rw [h x y e.1, eqvAll_inj h e.2]
theorem int_inj (x y : Int) (h : PyData.eqv (.int x) (.int y) = true) : x = y := by
  rw [eqs_int.1] at h
  exact of_decide_eq_true h
theorem pc_inj {p q : Pc} (h : PyData.eqv (pcD p) (pcD q) = true) : p = q := by
  unfold pcD at h
  simp only [PyData.eqv, PyData.eqvAll, Bool.and_true, Bool.and_eq_true] at h
  obtain ⟨h1, h2, h3, h4⟩ := h
  cases p
  cases q
  congr
  · simpa using h1
  · simpa using h2
  · exact eqvAll_inj int_inj h3
  · exact eqvAll_inj int_inj h4
theorem pa_inj {p q : Pa} (h : PyData.eqv p.D q.D = true) : p = q := by
  cases p with
  | solid x =>
    cases q with
    | solid y =>
      simp only [Pa.D, PyData.eqv, PyData.eqvAll, Bool.and_true, Bool.and_eq_true] at h
      have := h.2
      rw [show x = y by simpa using this]
    | steps a b c => simp [Pa.D, PyData.eqv, PyData.eqvAll] at h
    | pic p => simp [Pa.D, PyData.eqv, PyData.eqvAll, pcD] at h
  | steps a b c =>
    cases q with
    | solid y => simp [Pa.D, PyData.eqv, PyData.eqvAll] at h
    | steps a' b' c' =>
      simp only [Pa.D, PyData.eqv, PyData.eqvAll, Bool.and_true, Bool.and_eq_true] at h
      obtain ⟨_, h1, h2, h3⟩ := h
      rw [show a = a' by simpa using h1, show b = b' by simpa using h2, show c = c' by simpa using h3]
    | pic p => simp [Pa.D, PyData.eqv, PyData.eqvAll] at h
  | pic p =>
    cases q with
    | solid y => simp [Pa.D, PyData.eqv, PyData.eqvAll, pcD] at h
    | steps a b c => simp [Pa.D, PyData.eqv, PyData.eqvAll] at h
    | pic r =>
      simp only [Pa.D, PyData.eqv, PyData.eqvAll, Bool.and_true, Bool.and_eq_true] at h
      have h2 : PyData.eqv (pcD p) (pcD r) = true := by
        unfold pcD
        simp only [PyData.eqv, PyData.eqvAll, Bool.and_true, Bool.and_eq_true]
        simpa [pcD, PyData.eqv, PyData.eqvAll] using h.2
      rw [pc_inj h2]
theorem op_inj {p q : Option Pa} (h : PyData.eqv (opD p) (opD q) = true) : p = q := by
  cases p with
  | none =>
    cases q with
    | none => rfl
    | some q => cases q <;> simp [opD, Pa.D, PyData.eqv] at h
  | some p =>
    cases q with
    | none => cases p <;> simp [opD, Pa.D, PyData.eqv] at h
    | some q => rw [pa_inj h]
theorem md_inj {m n : Md} (h : PyData.eqv m.D n.D = true) : m = n := by
  cases m <;> cases n <;> first
    | rfl
    | exact absurd h (by decide +kernel)
    | (simp [Md.D, PyData.eqv, PyData.eqvAll] at h; done)
    | (simp only [Md.D, PyData.eqv, PyData.eqvAll, Bool.and_true, Bool.and_eq_true] at h
       have := h.2
       congr
       simpa using this)
theorem optPt_inj {p q : Option Pt} (h : PyData.eqv (optPtD p) (optPtD q) = true) : p = q := by
  cases p with
  | none =>
    cases q with
    | none => rfl
    | some q => simp [optPtD, ptD, intD, PyData.eqv] at h
  | some p =>
    cases q with
    | none => simp [optPtD, ptD, intD, PyData.eqv] at h
    | some q =>
      have h : PyData.eqv (ptD p) (ptD q) = true := h
      rw [eqs_pt.1] at h
      rw [of_decide_eq_true h]
theorem se_inj (s t : En ⊕ Int) (h : PyData.eqv (seD s) (seD t) = true) : s = t := by
  cases s with
  | inl e =>
    cases t with
    | inl f =>
      have h : PyData.eqv (enD e) (enD f) = true := h
      unfold enD at h
      rw [PyData.eqv, PyData.eqvAll, PyData.eqvAll, PyData.eqvAll, PyData.eqvAll, PyData.eqvAll] at h
      simp only [Bool.and_true, Bool.and_eq_true] at h
      obtain ⟨h1, h2, h3, h4⟩ := h
      have g1 := op_inj h1
      have g2 := optPt_inj h2
      have g3 := int_inj _ _ h3
      have g4 := md_inj h4
      cases e
      cases f
      simp only at g1 g2 g3 g4
      rw [g1, g2, g3, g4]
    | inr b => simp [seD, enD, PyData.eqv] at h
  | inr b =>
    cases t with
    | inl f => simp [seD, enD, PyData.eqv] at h
    | inr c => rw [int_inj b c h]
theorem stk_inj {s t : List (En ⊕ Int)} (h : PyData.eqv (stkD s) (stkD t) = true) : s = t := by
  unfold stkD at h
  rw [PyData.eqv] at h
  exact eqvAll_inj se_inj h
/-! the value of a stack -/
def En.step (px py : Int) (e : En) (v : Int) : Int := e.md.mix v (opAt e.pa (px - (e.at_.getD (0, 0)).1) (py - (e.at_.getD (0, 0)).2)).1 ((opAt e.pa (px - (e.at_.getD (0, 0)).1) (py - (e.at_.getD (0, 0)).2)).2 * e.lv / 256)
def evalS (px py : Int) : List (En ⊕ Int) → Int
  | [] => 0
  | .inr b :: _ => b
  | .inl e :: r => e.step px py (evalS px py r)
theorem en_step (i : It) (px py v : Int) : i.en.step px py v = i.md.mix v (opAt i.pa (px - i.at_.1) (py - i.at_.2)).1 ((opAt i.pa (px - i.at_.1) (py - i.at_.2)).2 * i.lv / 256) := by
  have key : opAt i.en.pa (px - (i.en.at_.getD (0, 0)).1) (py - (i.en.at_.getD (0, 0)).2) = opAt i.pa (px - i.at_.1) (py - i.at_.2) := by
    show opAt i.pa (px - ((if solidO i.pa = true then none else some i.at_ : Option Pt).getD (0, 0)).1) (py - ((if solidO i.pa = true then none else some i.at_ : Option Pt).getD (0, 0)).2) = _
    cases hp : i.pa with
    | none => rfl
    | some p =>
      cases p with
      | solid z => rfl
      | steps a b c => rfl
      | pic p => rfl
  unfold En.step
  rw [key]
  rfl
/-- at a point of it: an item that hides is full there -/
def It.Hid (px py : Int) (i : It) : Prop := i.hides = true → i.here px py → i.md = .over ∧ i.lv = 256 ∧ (opAt i.pa (px - i.at_.1) (py - i.at_.2)).2 = 256
theorem mix_full (v p : Int) : Md.over.mix v p 256 = p := by
  show v + (p - v) * 256 / 256 = p
  rw [Int.mul_ediv_cancel _ (by decide)]
  omega
theorem eval_items {b cw ch px py : Int} (x0 : 0 ≤ px) (x1 : px < cw) (y0 : 0 ≤ py) (y1 : py < ch) : ∀ is : List It, (∀ i ∈ is, i.Hid px py) → evalS px py (stackS px py (is.map It.sh ++ [⟨⟨0, 0, cw, ch⟩, .inr b, true⟩])) = is.foldr (fun i v => It.step px py v i) b
  | [], _ => by
    show evalS px py (if _ then _ else _) = b
    rw [if_pos (show Sht.here ⟨⟨0, 0, cw, ch⟩, .inr b, true⟩ px py from ⟨x0, x1, y0, y1⟩), if_pos rfl]
    rfl
  | i :: is, k => by
    have ih := eval_items (b := b) x0 x1 y0 y1 is fun j hj => k j (List.mem_cons_of_mem _ hj)
    rw [List.map_cons, List.cons_append, stackS, List.foldr_cons]
    by_cases hh : i.here px py
    · rw [if_pos (show Sht.here i.sh px py from hh)]
      show evalS px py (if i.hides = true then [.inl i.en] else .inl i.en :: _) = (if i.here px py then _ else _)
      rw [if_pos hh]
      by_cases hd : i.hides = true
      · rw [if_pos hd]
        show i.en.step px py 0 = _
        obtain ⟨h1, h2, h3⟩ := k i (List.mem_cons_self ..) hd hh
        rw [en_step, h1, h2, h3]
        show Md.over.mix 0 _ 256 = Md.over.mix _ _ 256
        rw [mix_full, mix_full]
      · rw [if_neg hd]
        show i.en.step px py (evalS px py _) = _
        rw [en_step, ih]
    · rw [if_neg (show ¬ Sht.here i.sh px py from hh)]
      show evalS px py _ = (if i.here px py then _ else _)
      rw [if_neg hh, ih]
theorem item_hid {x : Fi} {l : La} {f px py : Int} {i : It} (k : l.Vd) (h : x.item l f = some i) : i.Hid px py := fun hd hh => by
  obtain ⟨_, _, he, hc⟩ := item_ok k h
  unfold Fi.item at h
  split at h
  · rename_i c r hcl hr
    split at h
    · cases h
    · cases h
      have hd : (decide (l.wh.md = .over) && decide (l.lev f c = 256) && fullB c.pa l.box.w l.box.h) = true := hd
      rw [Bool.and_eq_true, Bool.and_eq_true, decide_eq_true_eq, decide_eq_true_eq] at hd
      obtain ⟨⟨h1, h2⟩, h3⟩ := hd
      refine ⟨h1, h2, ?_⟩
      have hr' : r = box4 x l f := by
        unfold Fi.ext at hr
        split at hr
        · cases hr
        · exact (Option.some.inj hr).symm
      obtain ⟨a1, a2, a3, a4⟩ := hh
      have a1 : r.l ≤ px := a1
      have a2 : px < r.r := a2
      have a3 : r.t ≤ py := a3
      have a4 : py < r.b := a4
      rw [hr'] at a1 a2 a3 a4
      have b1 : (l.corner f).1 ≤ px := by
        have : (if (l.corner f).1 > 0 then (l.corner f).1 else 0) ≤ px := a1
        split at this <;> omega
      have b2 : px < (l.corner f).1 + l.box.w := by
        have : px < (if (l.corner f).1 + l.box.w < x.w then (l.corner f).1 + l.box.w else x.w) := a2
        split at this <;> omega
      have b3 : (l.corner f).2 ≤ py := by
        have : (if (l.corner f).2 > 0 then (l.corner f).2 else 0) ≤ py := a3
        split at this <;> omega
      have b4 : py < (l.corner f).2 + l.box.h := by
        have : py < (if (l.corner f).2 + l.box.h < x.h then (l.corner f).2 + l.box.h else x.h) := a4
        split at this <;> omega
      exact (fullB_iff.mp h3).2 _ _ (by show 0 ≤ px - (l.corner f).1; omega) (by show px - (l.corner f).1 < _; omega) (by show 0 ≤ py - (l.corner f).2; omega) (by show py - (l.corner f).2 < _; omega)
  · cases h
theorem val_stack {x : Fi} (k : x.Vd) {f px py : Int} (x0 : 0 ≤ px) (x1 : px < x.w) (y0 : 0 ≤ py) (y1 : py < x.h) : x.val f px py = evalS px py (x.stack f px py) := by
  unfold Fi.stack Fi.sheets
  rw [eval_items x0 x1 y0 y1 _ fun i hi => by
    obtain ⟨l, hl, h⟩ := List.mem_filterMap.mp (List.mem_reverse.mp hi)
    exact item_hid (k.ok l hl) h]
  rw [List.foldr_reverse]
  rfl
/-- other names of the layers -/
def Fi.ren (x : Fi) : Fi := ⟨x.w, x.h, x.n, x.b, x.ls.map fun l => ⟨"z" ++ l.name, l.box, l.ms, l.wh, l.cs⟩⟩
theorem ren_items (x : Fi) (f : Int) : x.ren.items f = x.items f := by
  show (x.ls.map _).filterMap _ = _
  rw [List.filterMap_map]
  rfl
theorem ren_stack (x : Fi) (f px py : Int) : x.ren.stack f px py = x.stack f px py := by
  unfold Fi.stack Fi.sheets
  rw [ren_items]
  rfl
theorem ren_rows (x : Fi) (f : Int) : x.ren.rows f = x.rows f := by
  unfold Fi.rows Fi.row Fi.val
  rw [ren_items]
  rfl
theorem z_cps (n : Str) : ("z" ++ n : Str).cps.toList = 122 :: n.cps.toList := by
  show (("z" : Str).cps ++ n.cps).toList = _
  rw [Array.toList_append]
  rfl
theorem z_inj {a b : Str} (h : ("z" ++ a : Str) = "z" ++ b) : a = b := by
  have e := congrArg (fun s : Str => s.cps.toList) h
  simp only [z_cps] at e
  have e2 := List.cons.inj e
  cases a
  cases b
  congr
  exact Array.toList_inj.mp e2.2
theorem zname_ok {i : Nat} {n : Str} (h : NameOk i n) : nameS ("z" ++ n) = true := by
  obtain ⟨c, t, hc, ht, rfl⟩ := h
  have hm : c ∈ ghijkl.cps.toList := List.mem_of_getElem? hc
  have hg : ghijkl.cps.toList = [103, 104, 105, 106, 107, 108] := by decide +kernel
  rw [hg] at hm
  unfold tails4 at ht
  simp only [List.mem_cons, List.not_mem_nil, or_false] at hm ht
  rcases hm with rfl | rfl | rfl | rfl | rfl | rfl <;> rcases ht with rfl | rfl | rfl | rfl <;> decide +kernel
theorem ren_vd {x : Fi} (h : x.Ok) : x.ren.Vd := by
  have k := h.vd
  refine ⟨k.w0, k.w1, k.h0, k.h1, k.n0, k.n1, k.b0, k.b1, by show (x.ls.map _).length ≤ 16; rw [List.length_map]; exact k.len, fun l hl => ?_, ?_⟩
  · obtain ⟨l0, h0, rfl⟩ := List.mem_map.mp hl
    obtain ⟨i, hi⟩ := List.getElem?_of_mem h0
    obtain ⟨a, b, c, d, e⟩ := k.ok l0 h0
    exact ⟨zname_ok (h.ok i l0 hi).2, b, c, d, e⟩
  · show ((x.ls.map _).map La.name).Nodup
    rw [List.map_map]
    have e : (La.name ∘ fun l : La => (⟨"z" ++ l.name, l.box, l.ms, l.wh, l.cs⟩ : La)) = (fun n : Str => "z" ++ n) ∘ La.name := rfl
    rw [e, ← List.map_map]
    have nd := k.nd
    rw [List.Nodup, List.pairwise_map]
    exact List.Pairwise.imp (fun hne z => hne (z_inj z)) nd
theorem ok_dr {x : Fi} (h : x.Ok) : x.Dr 8 5 := by
  refine ⟨h.w0, h.w1, h.h0, h.h1, h.n0, h.n1, h.b0, h.b1, ⟨fun l hl => ?_, ?_, h.len⟩⟩
  · obtain ⟨i, hi⟩ := List.getElem?_of_mem hl
    obtain ⟨k1, k2⟩ := h.ok i l hi
    exact k1.dr (name_ok k2) (by decide)
  · rw [List.Nodup, List.pairwise_iff_getElem]
    intro i j hi hj hij e
    rw [List.length_map] at hi hj
    rw [List.getElem_map, List.getElem_map] at e
    have n1 := (h.ok i _ (List.getElem?_eq_getElem hi)).2
    have n2 := (h.ok j _ (List.getElem?_eq_getElem hj)).2
    have f1 := name_first n1
    have f2 := name_first n2
    unfold La.hd hdS at e
    rw [List.head?_eq_getElem?, List.head?_eq_getElem?, f1, f2] at e
    have hg : ghijkl.cps.toList = [103, 104, 105, 106, 107, 108] := by decide +kernel
    obtain ⟨c, _, hc, _⟩ := n1
    have li := (List.getElem?_eq_some_iff.mp hc).1
    rw [hg] at e li
    have := (List.getElem?_inj li (by decide)).mp e
    omega
theorem ok_heads {x : Fi} (h : x.Ok) {c : Nat} (hc : 108 < c) : some c ∉ x.ls.map La.hd := fun z => by
  obtain ⟨l, hl, e⟩ := List.mem_map.mp z
  obtain ⟨i, hi⟩ := List.getElem?_of_mem hl
  have f1 := name_first (h.ok i l hi).2
  unfold La.hd hdS at e
  rw [List.head?_eq_getElem?, f1] at e
  have hm := List.mem_of_getElem? e
  have hg : ghijkl.cps.toList = [103, 104, 105, 106, 107, 108] := by decide +kernel
  rw [hg] at hm
  simp only [List.mem_cons, List.not_mem_nil, or_false] at hm
  omega

abbrev s_law : Stmt := top 97
theorem sc_law : FnScope ["script", "parts", "other", "first", "second", "frame", "one", "two", "y", "x", "renamed", "third", "layer"] ["script"] (defScope s_law) := ⟨rfl, rfl, rfl, by decide +kernel, rfl, by decide +kernel, by decide +kernel⟩
def spLaw (K : PySem.W.Frag) : Sp := fun vs H Q _ => ∃ (a : Addr) (ns : List Int), vs = [.ref a] ∧ SqL K H a (ns.map V.int) ∧ ns.length ≤ 63 ∧ ∀ H', Q (.bl true) H'
theorem ok_law {f C : Addr} {fd : FuncData} (F : Fun K "law" "law" s_law f fd) (T : Txt K mg) (D_l_film : Def P w K mg base CX0 "_law_film" 6 ["script", "k"] (spFilmF K)) (D_l_changed : Def P w K mg base CX0 "_law_changed" 6 ["script", "k", "parts"] (spChanged K))
    (D_l_draw : Def P w K mg base CX0 "_law_draw" 1 ["script", "k", "below"] (spDrawF K)) (D_l_made : Def P w K mg base CX0 "_law_made" 10 ["parts"] (spMade K C)) (D_picture_of : Def P w K mg base CX0 "picture_of" 7 ["film", "frame"] (spPicOf K C))
    (D_stack_at : Def P w K mg base CX0 "stack_at" 8 ["film", "frame", "x", "y"] (spStackAt K C)) (MK_Film : MkO P w K mg base CX0 "Film" C 8 ["self", "width", "height", "frames", "background", "layers"] (spFilmVd C)) : FnOk P w K mg base CX0 11 f fd ["script"] (spLaw K) := by
  refine F.ok sc_law (fun vs H Q E h => ?_) (fun cdv A outer s H vs Q E hr h => ?_)
  · obtain ⟨a, ns, rfl, _⟩ := h
    rfl
  obtain ⟨a, ns, rfl, hS, hl, q⟩ := h
  refine ⟨_, (pss_cons (ps_set (i := 1) sc_law.nd rfl (by first | exact Or.inl rfl | exact Or.inr rfl) (pe_call D_l_film.ok (hr.mono (by decide)) rfl D_l_film.mgf D_l_film.kp D_l_film.b .nil pass0 (pa_cons (pv 0) (pa_cons pe_int pa_nil))))
      (pss_cons (ps_set (i := 2) sc_law.nd rfl (by first | exact Or.inl rfl | exact Or.inr rfl) (pe_call D_l_changed.ok (hr.mono (by decide)) rfl D_l_changed.mgf D_l_changed.kp D_l_changed.b .nil pass0 (pa_cons (pv 0) (pa_cons pe_int (pa_cons (pv 1) pa_nil)))))
      (pss_cut (ps_if (pt_cmpR op_eq (pe_call D_l_draw.ok (hr.mono (by decide)) rfl D_l_draw.mgf D_l_draw.kp D_l_draw.b .nil pass0 (pa_cons (pv 0) (pa_cons pe_int (pa_cons pe_int pa_nil)))) pe_int (nomark _))
        (pss_one (ps_set (i := 2) sc_law.nd rfl (by first | exact Or.inl rfl | exact Or.inr rfl) (pe_call D_l_changed.ok (hr.mono (by decide)) rfl D_l_changed.mgf D_l_changed.kp D_l_changed.b .nil pass0 (pa_cons (pv 0) (pa_cons pe_int (pa_cons (pv 1) pa_nil))))))
        pss_nil)
      (pss_cons (ps_set (i := 3) sc_law.nd rfl (by first | exact Or.inl rfl | exact Or.inr rfl) (pe_call D_l_made.ok (hr.mono (by decide)) rfl D_l_made.mgf D_l_made.kp D_l_made.b .nil pass0 (pa_cons (pv 1) pa_nil)))
      (pss_cons (ps_set (i := 4) sc_law.nd rfl (by first | exact Or.inl rfl | exact Or.inr rfl) (pe_call D_l_made.ok (hr.mono (by decide)) rfl D_l_made.mgf D_l_made.kp D_l_made.b .nil pass0 (pa_cons (pv 2) pa_nil)))
      (pss_cons (ps_set (i := 5) sc_law.nd rfl (by first | exact Or.inl rfl | exact Or.inr rfl) (pe_call D_l_draw.ok (hr.mono (by decide)) rfl D_l_draw.mgf D_l_draw.kp D_l_draw.b .nil pass0 (pa_cons (pv 0) (pa_cons pe_int (pa_cons (pe_ix (kixT K) (pv 1) pe_int (fun _ _ => rfl)) pa_nil)))))
      (pss_cons (ps_set (i := 6) sc_law.nd rfl (by first | exact Or.inl rfl | exact Or.inr rfl) (pe_call D_picture_of.ok (hr.mono (by decide)) rfl D_picture_of.mgf D_picture_of.kp D_picture_of.b .nil pass0 (pa_cons (pv 3) (pa_cons (pv 5) pa_nil))))
      (pss_cons (ps_set (i := 7) sc_law.nd rfl (by first | exact Or.inl rfl | exact Or.inr rfl) (pe_call D_picture_of.ok (hr.mono (by decide)) rfl D_picture_of.mgf D_picture_of.kp D_picture_of.b .nil pass0 (pa_cons (pv 4) (pa_cons (pv 5) pa_nil))))
      (pss_cons (ps_for PassesOwn.never rfl (pi_range1 (by rfl) T.range_ (pa_cons (pe_ix (kixT K) (pv 1) pe_int (fun _ _ => rfl)) pa_nil)) (pg_name (i := 8) sc_law.nd rfl (by first | exact Or.inl rfl | exact Or.inr rfl))
        (pss_one (ps_for PassesOwn.never rfl (pi_range1 (by rfl) T.range_ (pa_cons (pe_ix (kixT K) (pv 1) pe_int (fun _ _ => rfl)) pa_nil)) (pg_name (i := 9) sc_law.nd rfl (by first | exact Or.inl rfl | exact Or.inr rfl))
          (pss_one (ps_if (PW.pt (pw_and (pt_cmpR (keqD K hr.units) (pe_call D_stack_at.ok (hr.mono (by decide)) rfl D_stack_at.mgf D_stack_at.kp D_stack_at.b .nil pass0 (pa_cons (pv 3) (pa_cons (pv 5) (pa_cons (pv 9) (pa_cons (pv 8) pa_nil))))) (pe_call D_stack_at.ok (hr.mono (by decide)) rfl D_stack_at.mgf D_stack_at.kp D_stack_at.b .nil pass0 (pa_cons (pv 4) (pa_cons (pv 5) (pa_cons (pv 9) (pa_cons (pv 8) pa_nil))))) (nomark _)) (pw_and1 (pt_cmpR op_ne (pe_ix (kixL K) (pe_ix (kixL K) (pv 6) (pv 8) (fun _ _ => rfl)) (pv 9) (fun _ _ => rfl)) (pe_ix (kixL K) (pe_ix (kixL K) (pv 7) (pv 8) (fun _ _ => rfl)) (pv 9) (fun _ _ => rfl)) (nomark _)))))
            (pss_one (ps_ret pe_bl))
            pss_nil)))))
      (pss_cons (ps_setLc (i := 10)  (own := [("layer", 12)]) (tt := tYes) rfl sc_law.nd rfl rfl (sw_true rfl rfl rfl (by decide +kernel)) (kpiL K (pe_ix (kixT K) (pv 1) pe_int (fun _ _ => rfl))) (blkOk_by (N := ["script", "parts", "other", "first", "second", "frame", "one", "two", "y", "x", "renamed", "third", "layer"]) (sc := defScope s_law) (by decide +kernel)) (fun _ _ _ _ _ => (pg_name (i := 12) sc_law.nd rfl (by first | exact Or.inl rfl | exact Or.inr rfl))) (fun _ _ _ _ _ => pts_nil) (fun _ _ _ _ _ => (pe_tup (pa_cons (pe_op op_add_str pe_str (pe_ix (kixT K) (pv 12) pe_int (fun _ _ => rfl))) (pa_cons (pe_ix (kixT K) (pv 12) pe_int (fun _ _ => rfl)) (pa_cons (pe_ix (kixT K) (pv 12) pe_int (fun _ _ => rfl)) (pa_cons (pe_ix (kixT K) (pv 12) pe_int (fun _ _ => rfl)) (pa_cons (pe_ix (kixT K) (pv 12) pe_int (fun _ _ => rfl)) pa_nil))))))))
      (pss_cons (ps_set (i := 11) sc_law.nd rfl (by first | exact Or.inl rfl | exact Or.inr rfl) (pe_make MK_Film.M MK_Film.ok (hr.mono (by decide)) rfl MK_Film.mgC MK_Film.b .nil pass0 (pa_cons (pe_ix (kixT K) (pv 1) pe_int (fun _ _ => rfl)) (pa_cons (pe_ix (kixT K) (pv 1) pe_int (fun _ _ => rfl)) (pa_cons (pe_ix (kixT K) (pv 1) pe_int (fun _ _ => rfl)) (pa_cons (pe_ix (kixT K) (pv 1) pe_int (fun _ _ => rfl)) (pa_cons (pv 10) pa_nil)))))))
      (pss_cons (ps_set (i := 9) sc_law.nd rfl (by first | exact Or.inl rfl | exact Or.inr rfl) (pe_call D_l_draw.ok (hr.mono (by decide)) rfl D_l_draw.mgf D_l_draw.kp D_l_draw.b .nil pass0 (pa_cons (pv 0) (pa_cons pe_int (pa_cons (pe_ix (kixT K) (pv 1) pe_int (fun _ _ => rfl)) pa_nil)))))
      (pss_cons (ps_set (i := 8) sc_law.nd rfl (by first | exact Or.inl rfl | exact Or.inr rfl) (pe_call D_l_draw.ok (hr.mono (by decide)) rfl D_l_draw.mgf D_l_draw.kp D_l_draw.b .nil pass0 (pa_cons (pv 0) (pa_cons pe_int (pa_cons (pe_ix (kixT K) (pv 1) pe_int (fun _ _ => rfl)) pa_nil)))))
      (pss_one (ps_ret (pe_and (pe_cmpR (keqD K hr.units) (pe_call D_stack_at.ok (hr.mono (by decide)) rfl D_stack_at.mgf D_stack_at.kp D_stack_at.b .nil pass0 (pa_cons (pv 11) (pa_cons (pv 5) (pa_cons (pv 9) (pa_cons (pv 8) pa_nil))))) (pe_call D_stack_at.ok (hr.mono (by decide)) rfl D_stack_at.mgf D_stack_at.kp D_stack_at.b .nil pass0 (pa_cons (pv 3) (pa_cons (pv 5) (pa_cons (pv 9) (pa_cons (pv 8) pa_nil))))) (nomark _)) (pe_one (pe_cmpR (keqD K hr.units) (pe_call D_picture_of.ok (hr.mono (by decide)) rfl D_picture_of.mgf D_picture_of.kp D_picture_of.b .nil pass0 (pa_cons (pv 11) (pa_cons (pv 5) pa_nil))) (pv 6) (nomark _))))))))))))))))))), ?_⟩
  rw [start_nrm (Nat.le_of_ble_eq_true rfl)]; dsimp only [startL]
  refine ⟨_, rfl, a, ns, 0, rfl, hS, Int.le_refl 0, fun v x H1 e1 hv ok => ?_⟩
  dsimp only [List.set]
  have k := ok.vd
  have dr := ok_dr ok
  obtain ⟨pa, L, us, rfl, hpa, hL, hP⟩ := id hv
  have n0 := ok.n0
  have n1 := ok.n1
  have w0 := ok.w0
  have w1 := ok.w1
  have h0 := ok.h0
  have h1 := ok.h1
  have lL := ok.len
  have hvE : ∀ {H'}, Ex H1 H' → FiV H' (.ref pa) x := fun e => ⟨pa, L, us, rfl, e _ _ hpa, e _ _ hL, Paired.mapP hP fun _ _ => LaV.tk (TK.ex e)⟩
  have hck : ∀ k, ck k ∉ x.ls.map La.hd := fun k => by
    unfold ck
    split
    · exact ok_heads ok (by decide)
    · exact ok_heads ok (by decide)
  refine ⟨_, rfl, _, rfl, a, ns, 410, .ref pa, x, 8, 5, rfl, ex_l e1 hS, by decide, hv, dr, by decide, by decide, by decide, ok_heads ok (by decide), hck _, fun ov o H2 e2 hov odr ow oh on _ => ?_⟩
  dsimp only [List.set]
  have e12 := e1.trans e2
  refine ⟨fun σ H' => Ex H1 H' ∧ ∃ (ov : V) (o : Fi), σ = [some (.ref a), some (.ref pa), some ov, none, none, none, none, none, none, none, none, none, none] ∧ FiV H' ov o ∧ o.Dr 10 6 ∧ o.w = x.w ∧ o.h = x.h, ?_, ?_⟩
  · refine ⟨_, rfl, a, ns, 402, 2, rfl, ex_l e12 hS, by decide, by decide, by decide, fun z z0 z1 => ?_⟩
    refine ⟨rfl, _, rfl, ?_⟩
    refine ite2 (fun _ => ?_) (fun _ => ⟨e2, ov, o, rfl, hov, odr, ow, oh⟩)
    refine ⟨_, rfl, _, rfl, a, ns, 480, .ref pa, x, 8, 5, rfl, ex_l e12 hS, by decide, hvE e2, dr, by decide, by decide, by decide, ok_heads ok (by decide), hck _, fun ov o H3 e3 hov odr ow oh on _ => ?_⟩
    exact ⟨e2.trans e3, ov, o, rfl, hov, odr, ow, oh⟩
  clear hov odr ow oh on e12 e2
  rintro σ H3 ⟨e3, ov, o, rfl, hov, odr, ow, oh⟩
  have ok2 : o.Vd := odr.vd (by decide)
  refine ⟨_, rfl, .ref pa, x, rfl, hvE e3, k, fun u1 H4 e4 hf1 => ?_⟩
  dsimp only [List.set]
  have hov4 : FiV H4 ov o := by
    obtain ⟨b, M, ws, rfl, hb, hM, hQ⟩ := hov
    exact ⟨b, M, ws, rfl, e4 _ _ hb, e4 _ _ hM, Paired.mapP hQ fun _ _ => LaV.tk (TK.ex e4)⟩
  refine ⟨_, rfl, ov, o, rfl, hov4, ok2, fun u2 H5 e5 hf2 => ?_⟩
  dsimp only [List.set]
  have e15 := (e3.trans e4).trans e5
  refine ⟨_, rfl, _, rfl, pa, _, 2, _, rfl, rfl, SqT.of (e15 _ _ hpa), rfl, ?_⟩
  refine ⟨a, ns, 400, x.n, rfl, ex_l (e1.trans e15) hS, by decide, by omega, by omega, fun fr f0 f1 => ?_⟩
  dsimp only [List.set]
  have hf1 := hf1.ex e5
  refine ⟨_, rfl, _, rfl, u1, x, fr, rfl, hf1, k, fun r1 H6 e6 hR1 => ?_⟩
  dsimp only [List.set]
  refine ⟨_, rfl, _, rfl, u2, o, fr, rfl, hf2.ex e6, ok2, fun r2 H7 e7 hR2 => ?_⟩
  dsimp only [List.set]
  have e67 := e6.trans e7
  have hR1 := hR1.ex e7
  obtain ⟨ra, ws1, rfl, _, hra, hRR1⟩ := id hR1
  obtain ⟨rb, ws2, rfl, _, hrb, hRR2⟩ := id hR2
  have hpa7 := (e15.trans e67) _ _ hpa
  refine ⟨_, rfl, pa, _, 1, _, rfl, rfl, SqT.of hpa7, rfl, x.h, rfl, by omega, by omega, ?_⟩
  refine for_range (lo := 0) (n := x.h.toNat) (fun j σ H' => Ex H7 H' ∧ ∃ (y8 y9 : Option V), σ = [some (.ref a), some (.ref pa), some ov, some u1, some u2, some (.int fr), some (.ref ra), some (.ref rb), y8, y9, none, none, none]) ⟨Ex.refl _, _, _, rfl⟩ ?_ ?_
  · rintro j σ H8 hj ⟨e8, y8, y9, rfl⟩
    dsimp only [List.set]
    refine ⟨_, rfl, pa, _, 0, _, rfl, rfl, SqT.of (e8 _ _ hpa7), rfl, x.w, rfl, by omega, by omega, ?_⟩
    refine for_range (lo := 0) (n := x.w.toNat) (fun i σ H' => Ex H7 H' ∧ ∃ (y9 : Option V), σ = [some (.ref a), some (.ref pa), some ov, some u1, some u2, some (.int fr), some (.ref ra), some (.ref rb), some (.int (0 + (j : Int))), y9, none, none, none]) ⟨e8, _, rfl⟩ ?_ ?_
    · rintro i σ H9 hi ⟨e9, y9, rfl⟩
      dsimp only [List.set]
      have nx : ∀ H', Ex H9 H' → Ex H7 H' ∧ ∃ (y9 : Option V), [some (.ref a), some (.ref pa), some ov, some u1, some u2, some (.int fr), some (.ref ra), some (.ref rb), some (.int (0 + (j : Int))), some (.int (0 + (i : Int))), none, none, none] = [some (.ref a), some (.ref pa), some ov, some u1, some u2, some (.int fr), some (.ref ra), some (.ref rb), some (.int (0 + (j : Int))), y9, none, none, none] := fun H' e => ⟨e9.trans e, _, rfl⟩
      have e59 := e67.trans e9
      refine ⟨_, rfl, _, rfl, _, rfl, _, rfl, u1, x, fr, 0 + (i : Int), 0 + (j : Int), rfl, hf1.ex e59, k, fun p1 s1 H10 hp1 e10 hpl1 hs1 => ?_⟩
      refine ⟨_, rfl, _, rfl, _, rfl, _, rfl, u2, o, fr, 0 + (i : Int), 0 + (j : Int), rfl, (hf2.ex e59).ex e10, ok2, fun p2 s2 H11 hp2 e11 hpl2 hs2 => ?_⟩
      refine ⟨_, _, stk_dp (e11 _ _ hpl1) (Paired.mapP hs1 fun _ _ => SeV.tk (TK.ex e11)), stk_dp hpl2 hs2, stk_shaped _, stk_shaped _, _, rfl, ?_⟩
      have e911 := e10.trans e11
      refine ite2 (fun heq => ?_) (fun _ => iteF (nx _ e911))
      have hss := stk_inj heq
      have hvv : x.val fr i j = o.val fr i j := by
        rw [Int.zero_add, Int.zero_add] at hss
        rw [val_stack k (by omega) (by omega) (by omega) (by omega), val_stack ok2 (by omega) (by omega) (by omega) (by omega), hss]
      have r1 : (x.rows fr)[j]? = some (x.row fr j) := by
        unfold Fi.rows
        rw [List.getElem?_map, List.getElem?_range (by omega)]
        rfl
      have r2 : (o.rows fr)[j]? = some (o.row fr j) := by
        unfold Fi.rows
        rw [List.getElem?_map, List.getElem?_range (by omega)]
        rfl
      have c1 : ((x.row fr j).map V.int)[i]? = some (.int (x.val fr i j)) := by
        unfold Fi.row
        rw [List.getElem?_map, List.getElem?_map, List.getElem?_range (by omega)]
        rfl
      have c2 : ((o.row fr j).map V.int)[i]? = some (.int (o.val fr i j)) := by
        unfold Fi.row
        rw [List.getElem?_map, List.getElem?_map, List.getElem?_range (by omega)]
        rfl
      obtain ⟨v1, hv1, b1, rfl, _, _, hb1⟩ := pr_getR hRR1 r1
      obtain ⟨v2, hv2, b2, rfl, _, _, hb2⟩ := pr_getR hRR2 r2
      have e711 := e9.trans e911
      have z1 : atI ws1 (0 + (j : Int)) = some (.ref b1) := by rw [Int.zero_add]; exact atI_nat hv1
      have z2 : atI ws2 (0 + (j : Int)) = some (.ref b2) := by rw [Int.zero_add]; exact atI_nat hv2
      have z3 : atI ((x.row fr j).map V.int) (0 + (i : Int)) = some (.int (x.val fr i j)) := by rw [Int.zero_add]; exact atI_nat c1
      have z4 : atI ((o.row fr j).map V.int) (0 + (i : Int)) = some (.int (o.val fr i j)) := by rw [Int.zero_add]; exact atI_nat c2
      refine ⟨_, rfl, _, rfl, ra, _, _, _, rfl, rfl, SqL.of (e711 _ _ hra), z1, _, rfl, b1, _, _, _, rfl, rfl, SqL.of (e711 _ _ hb1), z3, ?_⟩
      refine ⟨_, rfl, _, rfl, rb, _, _, _, rfl, rfl, SqL.of (e711 _ _ hrb), z2, _, rfl, b2, _, _, _, rfl, rfl, SqL.of (e711 _ _ hb2), z4, ?_⟩
      refine ⟨rfl, _, rfl, ?_⟩
      rw [hvv]
      refine iteDn rfl ?_
      exact nx _ e911
    · rintro σ H9 ⟨e9, y9, rfl⟩
      exact ⟨e9, _, _, rfl⟩
  rintro σ H8 ⟨e8, y8, y9, rfl⟩
  have e18 := (e15.trans e67).trans e8
  have hpa8 := e8 _ _ hpa7
  have hL8 := e18 _ _ hL
  have hP8 := Paired.mapP hP fun _ _ => LaV.tk (TK.ex e18)
  have lu := hP.length
  refine ⟨_, rfl, pa, _, 4, _, rfl, rfl, SqT.of hpa8, rfl, L, rfl, ⟨us, SqL.of hL8⟩, fun D hD => ?_⟩
  refine lc_list (xs := us) (fun i H' => Ex H8 H' ∧ ∃ ws, H' D = some (.lst ws) ∧ Paired (LaV H') ws ((x.ls.take i).map fun l => (⟨"z" ++ l.name, l.box, l.ms, l.wh, l.cs⟩ : La))) ⟨Ex.new hD, [], upd_same, .nil⟩ (fun i H' _ p => SqL.of (p.1 _ _ hL8)) ?_ ?_
  · rintro i uv H9 hu ⟨e9, ws, hW, hJ⟩
    obtain ⟨l, hlx, hlv⟩ := pr_get hP8 hu
    have hlv9 := hlv.tk (TK.ex e9)
    obtain ⟨la, bv, ma, wv, ca, ms, cs, rfl, hla, hb, hma, hM, hw, hca, hC⟩ := id hlv9
    have nz8 : l.name.length ≤ 8 := by
      have nz := (k.ok l (List.mem_of_getElem? hlx)).name
      unfold nameS at nz
      rw [Bool.and_eq_true, Bool.and_eq_true, decide_eq_true_eq, decide_eq_true_eq] at nz
      have := nz.1.2
      omega
    have lw := hJ.length
    rw [List.length_map, List.length_take] at lw
    refine ⟨rfl, ?_⟩
    refine lcY ?_
    refine ⟨_, rfl, la, _, 0, _, rfl, rfl, SqT.of hla, rfl, _, _, rfl, rfl, ?_, ?_⟩
    · have : ("z" : Str).length = 1 := by decide +kernel
      rw [this]
      exact Nat.le_of_lt (slineL (by omega))
    refine ⟨_, rfl, la, _, 1, _, rfl, rfl, SqT.of hla, rfl, _, rfl, la, _, 2, _, rfl, rfl, SqT.of hla, rfl, _, rfl, la, _, 3, _, rfl, rfl, SqT.of hla, rfl, _, rfl, la, _, 4, _, rfl, rfl, SqT.of hla, rfl, (by show 5 ≤ sizeLine; decide), fun t ht => ?_⟩
    have f2 := Ex.new (o := .tup [.str ("z" ++ l.name), bv, .ref ma, wv, .ref ca]) ht
    have g2 : upd H9 t (.tup [.str ("z" ++ l.name), bv, .ref ma, wv, .ref ca]) t = some (.tup [.str ("z" ++ l.name), bv, .ref ma, wv, .ref ca]) := upd_same
    generalize upd H9 t (.tup [.str ("z" ++ l.name), bv, .ref ma, wv, .ref ca]) = H10 at f2 g2 ⊢
    have hW10 := f2 _ _ hW
    refine ⟨ws, hW10, slineL (by omega), (e9.trans f2).mut hD, ws ++ [.ref t], upd_same, ?_⟩
    rw [List.take_add_one, hlx, List.map_append]
    have tk := TK.lst (o := .lst (ws ++ [.ref t])) hW10
    have tf := TK.ex f2
    have hnew : LaV H10 (.ref t) ⟨"z" ++ l.name, l.box, l.ms, l.wh, l.cs⟩ := ⟨t, bv, ma, wv, ca, ms, cs, rfl, g2, hb.tk tf, f2 _ _ hma, hM.tk tf, hw.tk tf, f2 _ _ hca, hC.tk tf⟩
    exact pr_append (Paired.mapP (Paired.mapP hJ fun _ _ => LaV.tk tf) fun _ _ => LaV.tk tk) (.cons (hnew.tk tk) .nil)
  · rintro H9 ⟨e9, ws, hW, hJ⟩
    rw [lu, List.take_length] at hJ
    dsimp only [List.set]
    have hpa9 := e9 _ _ hpa8
    refine ⟨_, rfl, pa, _, 0, _, rfl, rfl, SqT.of hpa9, rfl, _, rfl, pa, _, 1, _, rfl, rfl, SqT.of hpa9, rfl, _, rfl, pa, _, 2, _, rfl, rfl, SqT.of hpa9, rfl, _, rfl, pa, _, 3, _, rfl, rfl, SqT.of hpa9, rfl, _, rfl, ?_⟩
    intro s dx hs hdx ne
    have e2 : Ex H9 (upd (upd H9 dx (.own s)) s (.ins C dx [])) := (Ex.new hdx).trans (Ex.new (by rw [upd_ne (Ne.symm ne)]; exact hs))
    have ks : upd (upd H9 dx (.own s)) s (.ins C dx []) s = some (.ins C dx []) := upd_same
    generalize upd (upd H9 dx (.own s)) s (.ins C dx []) = H10 at e2 ks ⊢
    have rv := ren_vd ok
    have hJ9 : Paired (LaV H9) ws x.ren.ls := hJ
    refine ⟨s, dx, x.ren, D, ws, rfl, ks, e2 _ _ hW, Paired.mapP hJ9 fun _ _ => LaV.tk (TK.ex e2), rv, fun H11 dx' L' hL' keep hs3 hL3 => ⟨rfl, ?_⟩⟩
    have e3 : Ex H9 H11 := fun b o hb => by
      have h2 := e2 _ _ hb
      refine keep b o h2 fun z => ?_
      subst z
      rw [hs] at hb
      cases hb
    have hf3 : FlV C H11 (.ref s) x.ren := ⟨s, dx', L', ws, rfl, hs3, hL3, Paired.mapP hJ9 fun _ _ => LaV.tk (TK.ex e3)⟩
    dsimp only [List.set]
    have hpa11 := e3 _ _ hpa9
    have e811 := e9.trans e3
    have eS := (e1.trans e18).trans e811
    refine ⟨_, rfl, _, rfl, pa, _, 0, _, rfl, rfl, SqT.of hpa11, rfl, a, ns, 403, x.w, rfl, ex_l eS hS, by decide, by omega, by omega, fun px px0 px1 => ?_⟩
    dsimp only [List.set]
    refine ⟨_, rfl, _, rfl, pa, _, 1, _, rfl, rfl, SqT.of hpa11, rfl, a, ns, 404, x.h, rfl, ex_l eS hS, by decide, by omega, by omega, fun py py0 py1 => ?_⟩
    dsimp only [List.set]
    have e511 := (e67.trans e8).trans e811
    refine ⟨_, rfl, _, rfl, _, rfl, _, rfl, .ref s, x.ren, fr, px, py, rfl, hf3, rv, fun p1 s1 H12 hp1 e12 hpl1 hs1 => ?_⟩
    refine ⟨_, rfl, _, rfl, _, rfl, _, rfl, u1, x, fr, px, py, rfl, (hf1.ex e511).ex e12, k, fun p2 s2 H13 hp2 e13 hpl2 hs2 => ?_⟩
    rw [ren_stack] at hs1
    refine ⟨_, _, stk_dp (e13 _ _ hpl1) (Paired.mapP hs1 fun _ _ => SeV.tk (TK.ex e13)), stk_dp hpl2 hs2, stk_shaped _, stk_shaped _, ?_⟩
    rw [eqv_self (stk_lay _)]
    refine ⟨_, rfl, ?_⟩
    refine iteT ?_
    refine ⟨_, rfl, _, rfl, .ref s, x.ren, fr, rfl, (hf3.ex e12).ex e13, rv, fun r3 H14 e14 hR3 => ?_⟩
    rw [ren_rows] at hR3
    have sh : SeqAt.shaped (rowsD (x.rows fr)) = true := eqs_rows.shaped (by decide) _
    refine ⟨_, rfl, _, _, hR3.dp, (hR1.ex ((e8.trans e811).trans ((e12.trans e13).trans e14))).dp, sh, sh, ?_⟩
    rw [eqv_self (eqs_rows.2.1 _)]
    exact q _
end
theorem all_mk {l : PySem.W.OpenLaw} {w : World} {K : PySem.W.Frag} {h : Heap} {mg : Str → Option Value} {fa f0 f1 f2 f3 f4 f5 f6 f7 f8 f9 f10 f11 f12 f13 f14 f15 f16 f17 f18 f19 f20 f21 f22 f23 f24 f25 f26 f27 f28 f29 f30 f31 f32 f33 f34 f35 f36 f37 f38 f39 f40 f41 f42 f43 f44 f45 f46 f47 f48 f49 f50 f51 f52 f53 f54 f55 f56 f57 f58 f59 f60 f61 : Addr} (X : K.In h) (G : h.Ns mainGlobals mg) (hfa : mg "law" = some (.ref fa))
    {od0 an0 od1 an1 od2 an2 od3 an3 od4 an4 od5 an5 od6 an6 od7 an7 od8 an8 od9 an9 od10 an10 od11 an11 od12 an12 od13 an13 od14 an14 od15 an15 od16 an16 od17 an17 od18 an18 od19 an19 od20 an20 od21 an21 od22 an22 od23 an23 od24 an24 od25 an25 od26 an26 od27 an27 od28 an28 od29 an29 od30 an30 od31 an31 od32 an32 od33 an33 od34 an34 od35 an35 od36 an36 od37 an37 od38 an38 od39 an39 od40 an40 od41 an41 od42 an42 od43 an43 od44 an44 od45 an45 od46 an46 od47 an47 od48 an48 od49 an49 od50 an50 od51 an51 od52 an52 od53 an53 od54 an54 od55 an55 od56 an56 od57 an57 od58 an58 od59 an59 od60 an60 od61 an61 : Option Addr} {sl0 sl1 sl2 sl3 sl4 sl5 sl6 sl7 sl8 sl9 sl10 sl11 sl12 sl13 sl14 sl15 sl16 sl17 sl18 sl19 sl20 sl21 sl22 sl23 sl24 sl25 sl26 sl27 sl28 sl29 sl30 sl31 sl32 sl33 sl34 sl35 sl36 sl37 sl38 sl39 sl40 sl41 sl42 sl43 sl44 sl45 sl46 sl47 sl48 sl49 sl50 sl51 sl52 sl53 sl54 sl55 sl56 sl57 sl58 sl59 sl60 sl61 : Array (Option Value)} {oc0 kV0 dc0 pm0 cd0 ct0 oc1 kV1 dc1 pm1 cd1 ct1 oc2 kV2 dc2 pm2 cd2 ct2 oc3 kV3 dc3 pm3 cd3 ct3 oc4 kV4 dc4 pm4 cd4 ct4 oc5 kV5 dc5 pm5 cd5 ct5 oc6 kV6 dc6 pm6 cd6 ct6 oc7 kV7 dc7 pm7 cd7 ct7 oc8 kV8 dc8 pm8 cd8 ct8 oc9 kV9 dc9 pm9 cd9 ct9 oc10 kV10 dc10 pm10 cd10 ct10 oc11 kV11 dc11 pm11 cd11 ct11 oc12 kV12 dc12 pm12 cd12 ct12 oc13 kV13 dc13 pm13 cd13 ct13 oc14 kV14 dc14 pm14 cd14 ct14 oc15 kV15 dc15 pm15 cd15 ct15 oc16 kV16 dc16 pm16 cd16 ct16 oc17 kV17 dc17 pm17 cd17 ct17 oc18 kV18 dc18 pm18 cd18 ct18 oc19 kV19 dc19 pm19 cd19 ct19 oc20 kV20 dc20 pm20 cd20 ct20 oc21 kV21 dc21 pm21 cd21 ct21 oc22 kV22 dc22 pm22 cd22 ct22 oc23 kV23 dc23 pm23 cd23 ct23 oc24 kV24 dc24 pm24 cd24 ct24 oc25 kV25 dc25 pm25 cd25 ct25 oc26 kV26 dc26 pm26 cd26 ct26 oc27 kV27 dc27 pm27 cd27 ct27 oc28 kV28 dc28 pm28 cd28 ct28 oc29 kV29 dc29 pm29 cd29 ct29 oc30 kV30 dc30 pm30 cd30 ct30 oc31 kV31 dc31 pm31 cd31 ct31 oc32 kV32 dc32 pm32 cd32 ct32 oc33 kV33 dc33 pm33 cd33 ct33 oc34 kV34 dc34 pm34 cd34 ct34 oc35 kV35 dc35 pm35 cd35 ct35 oc36 kV36 dc36 pm36 cd36 ct36 oc37 kV37 dc37 pm37 cd37 ct37 oc38 kV38 dc38 pm38 cd38 ct38 oc39 kV39 dc39 pm39 cd39 ct39 oc40 kV40 dc40 pm40 cd40 ct40 oc41 kV41 dc41 pm41 cd41 ct41 oc42 kV42 dc42 pm42 cd42 ct42 oc43 kV43 dc43 pm43 cd43 ct43 oc44 kV44 dc44 pm44 cd44 ct44 oc45 kV45 dc45 pm45 cd45 ct45 oc46 kV46 dc46 pm46 cd46 ct46 oc47 kV47 dc47 pm47 cd47 ct47 oc48 kV48 dc48 pm48 cd48 ct48 oc49 kV49 dc49 pm49 cd49 ct49 oc50 kV50 dc50 pm50 cd50 ct50 oc51 kV51 dc51 pm51 cd51 ct51 oc52 kV52 dc52 pm52 cd52 ct52 oc53 kV53 dc53 pm53 cd53 ct53 oc54 kV54 dc54 pm54 cd54 ct54 oc55 kV55 dc55 pm55 cd55 ct55 oc56 kV56 dc56 pm56 cd56 ct56 oc57 kV57 dc57 pm57 cd57 ct57 oc58 kV58 dc58 pm58 cd58 ct58 oc59 kV59 dc59 pm59 cd59 ct59 oc60 kV60 dc60 pm60 cd60 ct60 oc61 kV61 dc61 pm61 cd61 ct61 : Value}
    {cO_Film : Addr} (aO_Film : PySem.W.nsIn K mainGlobals "Film" = some (some (.ref cO_Film))) (pg_Film : PySem.W.plainGet K cO_Film Str.empty = true) (hd_Film : PySem.W.hasDictIn K cO_Film = true) (po_Film : PySem.W.plainOver K cO_Film = true) (sa_Film : PySem.W.findIn K (.ref cO_Film) "__setattr__" = some (some (.builtin "object.__setattr__"))) (mk_Film : PySem.W.makesIn K cO_Film = true) (kc_Film : PySem.W.keepIn K (.ref cO_Film) = true) (n0_Film : PySem.W.findIn K (.ref cO_Film) "_width" = some none) (n1_Film : PySem.W.findIn K (.ref cO_Film) "_height" = some none) (n2_Film : PySem.W.findIn K (.ref cO_Film) "_frames" = some none) (n3_Film : PySem.W.findIn K (.ref cO_Film) "_background" = some none) (n4_Film : PySem.W.findIn K (.ref cO_Film) "_layers" = some none)
    (a0 : PySem.W.nsIn K mainGlobals "_law_draw" = some (some (.ref f0))) (l0 : K.lookup f0 = some ⟨oc0, od0, .func (PySem.W.fnOf "_law_draw" "_law_draw" (defArgs s_l_draw) (defBody s_l_draw) (defScope s_l_draw) .none kV0 dc0 pm0 an0 cd0 ct0), sl0⟩) (c0 : PySem.W.codeIn K cd0 "_law_draw" = true) (k0 : PySem.W.keepIn K (.ref f0) = true)
    (a1 : PySem.W.nsIn K mainGlobals "_law_picture" = some (some (.ref f1))) (l1 : K.lookup f1 = some ⟨oc1, od1, .func (PySem.W.fnOf "_law_picture" "_law_picture" (defArgs s_l_picture) (defBody s_l_picture) (defScope s_l_picture) .none kV1 dc1 pm1 an1 cd1 ct1), sl1⟩) (c1 : PySem.W.codeIn K cd1 "_law_picture" = true) (k1 : PySem.W.keepIn K (.ref f1) = true)
    (a2 : PySem.W.nsIn K mainGlobals "_law_paint" = some (some (.ref f2))) (l2 : K.lookup f2 = some ⟨oc2, od2, .func (PySem.W.fnOf "_law_paint" "_law_paint" (defArgs s_l_paint) (defBody s_l_paint) (defScope s_l_paint) .none kV2 dc2 pm2 an2 cd2 ct2), sl2⟩) (c2 : PySem.W.codeIn K cd2 "_law_paint" = true) (k2 : PySem.W.keepIn K (.ref f2) = true)
    (a3 : PySem.W.nsIn K mainGlobals "_law_clips" = some (some (.ref f3))) (l3 : K.lookup f3 = some ⟨oc3, od3, .func (PySem.W.fnOf "_law_clips" "_law_clips" (defArgs s_l_clips) (defBody s_l_clips) (defScope s_l_clips) .none kV3 dc3 pm3 an3 cd3 ct3), sl3⟩) (c3 : PySem.W.codeIn K cd3 "_law_clips" = true) (k3 : PySem.W.keepIn K (.ref f3) = true)
    (a4 : PySem.W.nsIn K mainGlobals "_law_what" = some (some (.ref f4))) (l4 : K.lookup f4 = some ⟨oc4, od4, .func (PySem.W.fnOf "_law_what" "_law_what" (defArgs s_l_what) (defBody s_l_what) (defScope s_l_what) .none kV4 dc4 pm4 an4 cd4 ct4), sl4⟩) (c4 : PySem.W.codeIn K cd4 "_law_what" = true) (k4 : PySem.W.keepIn K (.ref f4) = true)
    (a5 : PySem.W.nsIn K mainGlobals "_law_box" = some (some (.ref f5))) (l5 : K.lookup f5 = some ⟨oc5, od5, .func (PySem.W.fnOf "_law_box" "_law_box" (defArgs s_l_box) (defBody s_l_box) (defScope s_l_box) .none kV5 dc5 pm5 an5 cd5 ct5), sl5⟩) (c5 : PySem.W.codeIn K cd5 "_law_box" = true) (k5 : PySem.W.keepIn K (.ref f5) = true)
    (a6 : PySem.W.nsIn K mainGlobals "_law_moves" = some (some (.ref f6))) (l6 : K.lookup f6 = some ⟨oc6, od6, .func (PySem.W.fnOf "_law_moves" "_law_moves" (defArgs s_l_moves) (defBody s_l_moves) (defScope s_l_moves) .none kV6 dc6 pm6 an6 cd6 ct6), sl6⟩) (c6 : PySem.W.codeIn K cd6 "_law_moves" = true) (k6 : PySem.W.keepIn K (.ref f6) = true)
    (a7 : PySem.W.nsIn K mainGlobals "_law_layer" = some (some (.ref f7))) (l7 : K.lookup f7 = some ⟨oc7, od7, .func (PySem.W.fnOf "_law_layer" "_law_layer" (defArgs s_l_layer) (defBody s_l_layer) (defScope s_l_layer) .none kV7 dc7 pm7 an7 cd7 ct7), sl7⟩) (c7 : PySem.W.codeIn K cd7 "_law_layer" = true) (k7 : PySem.W.keepIn K (.ref f7) = true)
    (a8 : PySem.W.nsIn K mainGlobals "_law_name" = some (some (.ref f8))) (l8 : K.lookup f8 = some ⟨oc8, od8, .func (PySem.W.fnOf "_law_name" "_law_name" (defArgs s_l_name) (defBody s_l_name) (defScope s_l_name) .none kV8 dc8 pm8 an8 cd8 ct8), sl8⟩) (c8 : PySem.W.codeIn K cd8 "_law_name" = true) (k8 : PySem.W.keepIn K (.ref f8) = true)
    (a9 : PySem.W.nsIn K mainGlobals "_law_film" = some (some (.ref f9))) (l9 : K.lookup f9 = some ⟨oc9, od9, .func (PySem.W.fnOf "_law_film" "_law_film" (defArgs s_l_film) (defBody s_l_film) (defScope s_l_film) .none kV9 dc9 pm9 an9 cd9 ct9), sl9⟩) (c9 : PySem.W.codeIn K cd9 "_law_film" = true) (k9 : PySem.W.keepIn K (.ref f9) = true)
    (a10 : PySem.W.nsIn K mainGlobals "is_whole" = some (some (.ref f10))) (l10 : K.lookup f10 = some ⟨oc10, od10, .func (PySem.W.fnOf "is_whole" "is_whole" (defArgs s_is_whole) (defBody s_is_whole) (defScope s_is_whole) .none kV10 dc10 pm10 an10 cd10 ct10), sl10⟩) (c10 : PySem.W.codeIn K cd10 "is_whole" = true) (k10 : PySem.W.keepIn K (.ref f10) = true)
    (a11 : PySem.W.nsIn K mainGlobals "is_number" = some (some (.ref f11))) (l11 : K.lookup f11 = some ⟨oc11, od11, .func (PySem.W.fnOf "is_number" "is_number" (defArgs s_is_number) (defBody s_is_number) (defScope s_is_number) .none kV11 dc11 pm11 an11 cd11 ct11), sl11⟩) (c11 : PySem.W.codeIn K cd11 "is_number" = true) (k11 : PySem.W.keepIn K (.ref f11) = true)
    (a12 : PySem.W.nsIn K mainGlobals "has_form_blends" = some (some (.ref f12))) (l12 : K.lookup f12 = some ⟨oc12, od12, .func (PySem.W.fnOf "_has_form" "_has_form" (defArgs s_has_form_blends) (defBody s_has_form_blends) (defScope s_has_form_blends) .none kV12 dc12 pm12 an12 cd12 ct12), sl12⟩) (c12 : PySem.W.codeIn K cd12 "_has_form" = true) (k12 : PySem.W.keepIn K (.ref f12) = true)
    (a13 : PySem.W.nsIn K mainGlobals "check_what" = some (some (.ref f13))) (l13 : K.lookup f13 = some ⟨oc13, od13, .func (PySem.W.fnOf "check_what" "check_what" (defArgs s_check_what) (defBody s_check_what) (defScope s_check_what) .none kV13 dc13 pm13 an13 cd13 ct13), sl13⟩) (c13 : PySem.W.codeIn K cd13 "check_what" = true) (k13 : PySem.W.keepIn K (.ref f13) = true)
    (a14 : PySem.W.nsIn K mainGlobals "_is_distance" = some (some (.ref f14))) (l14 : K.lookup f14 = some ⟨oc14, od14, .func (PySem.W.fnOf "_is_distance" "_is_distance" (defArgs s_is_distance) (defBody s_is_distance) (defScope s_is_distance) .none kV14 dc14 pm14 an14 cd14 ct14), sl14⟩) (c14 : PySem.W.codeIn K cd14 "_is_distance" = true) (k14 : PySem.W.keepIn K (.ref f14) = true)
    (a15 : PySem.W.nsIn K mainGlobals "_is_point" = some (some (.ref f15))) (l15 : K.lookup f15 = some ⟨oc15, od15, .func (PySem.W.fnOf "_is_point" "_is_point" (defArgs s_is_point) (defBody s_is_point) (defScope s_is_point) .none kV15 dc15 pm15 an15 cd15 ct15), sl15⟩) (c15 : PySem.W.codeIn K cd15 "_is_point" = true) (k15 : PySem.W.keepIn K (.ref f15) = true)
    (a16 : PySem.W.nsIn K mainGlobals "check_moves" = some (some (.ref f16))) (l16 : K.lookup f16 = some ⟨oc16, od16, .func (PySem.W.fnOf "check_moves" "check_moves" (defArgs s_check_moves) (defBody s_check_moves) (defScope s_check_moves) .none kV16 dc16 pm16 an16 cd16 ct16), sl16⟩) (c16 : PySem.W.codeIn K cd16 "check_moves" = true) (k16 : PySem.W.keepIn K (.ref f16) = true)
    (a17 : PySem.W.nsIn K mainGlobals "has_form_clips" = some (some (.ref f17))) (l17 : K.lookup f17 = some ⟨oc17, od17, .func (PySem.W.fnOf "_has_form" "_has_form" (defArgs s_has_form_clips) (defBody s_has_form_clips) (defScope s_has_form_clips) .none kV17 dc17 pm17 an17 cd17 ct17), sl17⟩) (c17 : PySem.W.codeIn K cd17 "_has_form" = true) (k17 : PySem.W.keepIn K (.ref f17) = true)
    (a18 : PySem.W.nsIn K mainGlobals "_is_bare" = some (some (.ref f18))) (l18 : K.lookup f18 = some ⟨oc18, od18, .func (PySem.W.fnOf "_is_bare" "_is_bare" (defArgs s_is_bare) (defBody s_is_bare) (defScope s_is_bare) .none kV18 dc18 pm18 an18 cd18 ct18), sl18⟩) (c18 : PySem.W.codeIn K cd18 "_is_bare" = true) (k18 : PySem.W.keepIn K (.ref f18) = true)
    (a19 : PySem.W.nsIn K mainGlobals "_are_numbers" = some (some (.ref f19))) (l19 : K.lookup f19 = some ⟨oc19, od19, .func (PySem.W.fnOf "_are_numbers" "_are_numbers" (defArgs s_are_numbers) (defBody s_are_numbers) (defScope s_are_numbers) .none kV19 dc19 pm19 an19 cd19 ct19), sl19⟩) (c19 : PySem.W.codeIn K cd19 "_are_numbers" = true) (k19 : PySem.W.keepIn K (.ref f19) = true)
    (a20 : PySem.W.nsIn K mainGlobals "check_picture" = some (some (.ref f20))) (l20 : K.lookup f20 = some ⟨oc20, od20, .func (PySem.W.fnOf "check_picture" "check_picture" (defArgs s_check_picture) (defBody s_check_picture) (defScope s_check_picture) .none kV20 dc20 pm20 an20 cd20 ct20), sl20⟩) (c20 : PySem.W.codeIn K cd20 "check_picture" = true) (k20 : PySem.W.keepIn K (.ref f20) = true)
    (a21 : PySem.W.nsIn K mainGlobals "has_form_paints" = some (some (.ref f21))) (l21 : K.lookup f21 = some ⟨oc21, od21, .func (PySem.W.fnOf "_has_form" "_has_form" (defArgs s_has_form_paints) (defBody s_has_form_paints) (defScope s_has_form_paints) .none kV21 dc21 pm21 an21 cd21 ct21), sl21⟩) (c21 : PySem.W.codeIn K cd21 "_has_form" = true) (k21 : PySem.W.keepIn K (.ref f21) = true)
    (a22 : PySem.W.nsIn K mainGlobals "check_paint" = some (some (.ref f22))) (l22 : K.lookup f22 = some ⟨oc22, od22, .func (PySem.W.fnOf "check_paint" "check_paint" (defArgs s_check_paint) (defBody s_check_paint) (defScope s_check_paint) .none kV22 dc22 pm22 an22 cd22 ct22), sl22⟩) (c22 : PySem.W.codeIn K cd22 "check_paint" = true) (k22 : PySem.W.keepIn K (.ref f22) = true)
    (a23 : PySem.W.nsIn K mainGlobals "end_of" = some (some (.ref f23))) (l23 : K.lookup f23 = some ⟨oc23, od23, .func (PySem.W.fnOf "end_of" "end_of" (defArgs s_end_of) (defBody s_end_of) (defScope s_end_of) .none kV23 dc23 pm23 an23 cd23 ct23), sl23⟩) (c23 : PySem.W.codeIn K cd23 "end_of" = true) (k23 : PySem.W.keepIn K (.ref f23) = true)
    (a24 : PySem.W.nsIn K mainGlobals "is_name" = some (some (.ref f24))) (l24 : K.lookup f24 = some ⟨oc24, od24, .func (PySem.W.fnOf "is_name" "is_name" (defArgs s_is_name) (defBody s_is_name) (defScope s_is_name) .none kV24 dc24 pm24 an24 cd24 ct24), sl24⟩) (c24 : PySem.W.codeIn K cd24 "is_name" = true) (k24 : PySem.W.keepIn K (.ref f24) = true)
    (a25 : PySem.W.nsIn K mainGlobals "check_clips" = some (some (.ref f25))) (l25 : K.lookup f25 = some ⟨oc25, od25, .func (PySem.W.fnOf "check_clips" "check_clips" (defArgs s_check_clips) (defBody s_check_clips) (defScope s_check_clips) .none kV25 dc25 pm25 an25 cd25 ct25), sl25⟩) (c25 : PySem.W.codeIn K cd25 "check_clips" = true) (k25 : PySem.W.keepIn K (.ref f25) = true)
    (a26 : PySem.W.nsIn K mainGlobals "_is_box" = some (some (.ref f26))) (l26 : K.lookup f26 = some ⟨oc26, od26, .func (PySem.W.fnOf "_is_box" "_is_box" (defArgs s_is_box) (defBody s_is_box) (defScope s_is_box) .none kV26 dc26 pm26 an26 cd26 ct26), sl26⟩) (c26 : PySem.W.codeIn K cd26 "_is_box" = true) (k26 : PySem.W.keepIn K (.ref f26) = true)
    (a27 : PySem.W.nsIn K mainGlobals "_adjusts" = some (some (.ref f27))) (l27 : K.lookup f27 = some ⟨oc27, od27, .func (PySem.W.fnOf "_adjusts" "_adjusts" (defArgs s_adjusts) (defBody s_adjusts) (defScope s_adjusts) .none kV27 dc27 pm27 an27 cd27 ct27), sl27⟩) (c27 : PySem.W.codeIn K cd27 "_adjusts" = true) (k27 : PySem.W.keepIn K (.ref f27) = true)
    (a28 : PySem.W.nsIn K mainGlobals "_check_numbers" = some (some (.ref f28))) (l28 : K.lookup f28 = some ⟨oc28, od28, .func (PySem.W.fnOf "_check_numbers" "_check_numbers" (defArgs s_check_numbers) (defBody s_check_numbers) (defScope s_check_numbers) .none kV28 dc28 pm28 an28 cd28 ct28), sl28⟩) (c28 : PySem.W.codeIn K cd28 "_check_numbers" = true) (k28 : PySem.W.keepIn K (.ref f28) = true)
    (a29 : PySem.W.nsIn K mainGlobals "_check_layer" = some (some (.ref f29))) (l29 : K.lookup f29 = some ⟨oc29, od29, .func (PySem.W.fnOf "_check_layer" "_check_layer" (defArgs s_check_layer) (defBody s_check_layer) (defScope s_check_layer) .none kV29 dc29 pm29 an29 cd29 ct29), sl29⟩) (c29 : PySem.W.codeIn K cd29 "_check_layer" = true) (k29 : PySem.W.keepIn K (.ref f29) = true)
    {p30 : Addr} {rs30 : List Value} (a30 : PySem.W.findIn K (.ref cO_Film) "width" = some (some (.ref p30))) (g30 : PySem.W.specialIn K (.ref p30) "__get__" = some (some (.builtin "property.__get__"))) (t30 : PySem.W.takesIn K (.ref p30) = some true) (r30 : PySem.W.recIn K p30 "property" = some (.ref f30 :: rs30)) (l30 : K.lookup f30 = some ⟨oc30, od30, .func (PySem.W.fnOf "width" "Film.width" (defArgs s_Film_width) (defBody s_Film_width) (defScope s_Film_width) .none kV30 dc30 pm30 an30 cd30 ct30), sl30⟩) (c30 : PySem.W.codeIn K cd30 "Film.width" = true) (k30 : PySem.W.keepIn K (.ref f30) = true)
    {p31 : Addr} {rs31 : List Value} (a31 : PySem.W.findIn K (.ref cO_Film) "height" = some (some (.ref p31))) (g31 : PySem.W.specialIn K (.ref p31) "__get__" = some (some (.builtin "property.__get__"))) (t31 : PySem.W.takesIn K (.ref p31) = some true) (r31 : PySem.W.recIn K p31 "property" = some (.ref f31 :: rs31)) (l31 : K.lookup f31 = some ⟨oc31, od31, .func (PySem.W.fnOf "height" "Film.height" (defArgs s_Film_height) (defBody s_Film_height) (defScope s_Film_height) .none kV31 dc31 pm31 an31 cd31 ct31), sl31⟩) (c31 : PySem.W.codeIn K cd31 "Film.height" = true) (k31 : PySem.W.keepIn K (.ref f31) = true)
    {p32 : Addr} {rs32 : List Value} (a32 : PySem.W.findIn K (.ref cO_Film) "frames" = some (some (.ref p32))) (g32 : PySem.W.specialIn K (.ref p32) "__get__" = some (some (.builtin "property.__get__"))) (t32 : PySem.W.takesIn K (.ref p32) = some true) (r32 : PySem.W.recIn K p32 "property" = some (.ref f32 :: rs32)) (l32 : K.lookup f32 = some ⟨oc32, od32, .func (PySem.W.fnOf "frames" "Film.frames" (defArgs s_Film_frames) (defBody s_Film_frames) (defScope s_Film_frames) .none kV32 dc32 pm32 an32 cd32 ct32), sl32⟩) (c32 : PySem.W.codeIn K cd32 "Film.frames" = true) (k32 : PySem.W.keepIn K (.ref f32) = true)
    {p33 : Addr} {rs33 : List Value} (a33 : PySem.W.findIn K (.ref cO_Film) "background" = some (some (.ref p33))) (g33 : PySem.W.specialIn K (.ref p33) "__get__" = some (some (.builtin "property.__get__"))) (t33 : PySem.W.takesIn K (.ref p33) = some true) (r33 : PySem.W.recIn K p33 "property" = some (.ref f33 :: rs33)) (l33 : K.lookup f33 = some ⟨oc33, od33, .func (PySem.W.fnOf "background" "Film.background" (defArgs s_Film_background) (defBody s_Film_background) (defScope s_Film_background) .none kV33 dc33 pm33 an33 cd33 ct33), sl33⟩) (c33 : PySem.W.codeIn K cd33 "Film.background" = true) (k33 : PySem.W.keepIn K (.ref f33) = true)
    {p34 : Addr} {rs34 : List Value} (a34 : PySem.W.findIn K (.ref cO_Film) "layers" = some (some (.ref p34))) (g34 : PySem.W.specialIn K (.ref p34) "__get__" = some (some (.builtin "property.__get__"))) (t34 : PySem.W.takesIn K (.ref p34) = some true) (r34 : PySem.W.recIn K p34 "property" = some (.ref f34 :: rs34)) (l34 : K.lookup f34 = some ⟨oc34, od34, .func (PySem.W.fnOf "layers" "Film.layers" (defArgs s_Film_layers) (defBody s_Film_layers) (defScope s_Film_layers) .none kV34 dc34 pm34 an34 cd34 ct34), sl34⟩) (c34 : PySem.W.codeIn K cd34 "Film.layers" = true) (k34 : PySem.W.keepIn K (.ref f34) = true)
    (a35 : PySem.W.findIn K (.ref cO_Film) "__init__" = some (some (.ref f35))) (i35 : PySem.W.isFn K (.ref f35) = true) (l35 : K.lookup f35 = some ⟨oc35, od35, .func (PySem.W.fnOf "__init__" "Film.__init__" (defArgs s_Film_init) (defBody s_Film_init) (defScope s_Film_init) .none kV35 dc35 pm35 an35 cd35 ct35), sl35⟩) (c35 : PySem.W.codeIn K cd35 "Film.__init__" = true) (k35 : PySem.W.keepIn K (.ref f35) = true)
    (a36 : PySem.W.nsIn K mainGlobals "_between" = some (some (.ref f36))) (l36 : K.lookup f36 = some ⟨oc36, od36, .func (PySem.W.fnOf "_between" "_between" (defArgs s_between) (defBody s_between) (defScope s_between) .none kV36 dc36 pm36 an36 cd36 ct36), sl36⟩) (c36 : PySem.W.codeIn K cd36 "_between" = true) (k36 : PySem.W.keepIn K (.ref f36) = true)
    (a37 : PySem.W.nsIn K mainGlobals "offset_at" = some (some (.ref f37))) (l37 : K.lookup f37 = some ⟨oc37, od37, .func (PySem.W.fnOf "offset_at" "offset_at" (defArgs s_offset_at) (defBody s_offset_at) (defScope s_offset_at) .none kV37 dc37 pm37 an37 cd37 ct37), sl37⟩) (c37 : PySem.W.codeIn K cd37 "offset_at" = true) (k37 : PySem.W.keepIn K (.ref f37) = true)
    (a38 : PySem.W.nsIn K mainGlobals "_corner_of" = some (some (.ref f38))) (l38 : K.lookup f38 = some ⟨oc38, od38, .func (PySem.W.fnOf "_corner_of" "_corner_of" (defArgs s_corner_of) (defBody s_corner_of) (defScope s_corner_of) .none kV38 dc38 pm38 an38 cd38 ct38), sl38⟩) (c38 : PySem.W.codeIn K cd38 "_corner_of" = true) (k38 : PySem.W.keepIn K (.ref f38) = true)
    (a39 : PySem.W.nsIn K mainGlobals "level_at" = some (some (.ref f39))) (l39 : K.lookup f39 = some ⟨oc39, od39, .func (PySem.W.fnOf "level_at" "level_at" (defArgs s_level_at) (defBody s_level_at) (defScope s_level_at) .none kV39 dc39 pm39 an39 cd39 ct39), sl39⟩) (c39 : PySem.W.codeIn K cd39 "level_at" = true) (k39 : PySem.W.keepIn K (.ref f39) = true)
    (a40 : PySem.W.nsIn K mainGlobals "clip_at" = some (some (.ref f40))) (l40 : K.lookup f40 = some ⟨oc40, od40, .func (PySem.W.fnOf "clip_at" "clip_at" (defArgs s_clip_at) (defBody s_clip_at) (defScope s_clip_at) .none kV40 dc40 pm40 an40 cd40 ct40), sl40⟩) (c40 : PySem.W.codeIn K cd40 "clip_at" = true) (k40 : PySem.W.keepIn K (.ref f40) = true)
    (a41 : PySem.W.nsIn K mainGlobals "lane" = some (some (.ref f41))) (l41 : K.lookup f41 = some ⟨oc41, od41, .func (PySem.W.fnOf "lane" "lane" (defArgs s_lane) (defBody s_lane) (defScope s_lane) .none kV41 dc41 pm41 an41 cd41 ct41), sl41⟩) (c41 : PySem.W.codeIn K cd41 "lane" = true) (k41 : PySem.W.keepIn K (.ref f41) = true)
    (a42 : PySem.W.nsIn K mainGlobals "_is_full_picture" = some (some (.ref f42))) (l42 : K.lookup f42 = some ⟨oc42, od42, .func (PySem.W.fnOf "_is_full_picture" "_is_full_picture" (defArgs s_is_full_picture) (defBody s_is_full_picture) (defScope s_is_full_picture) .none kV42 dc42 pm42 an42 cd42 ct42), sl42⟩) (c42 : PySem.W.codeIn K cd42 "_is_full_picture" = true) (k42 : PySem.W.keepIn K (.ref f42) = true)
    (a43 : PySem.W.nsIn K mainGlobals "is_full" = some (some (.ref f43))) (l43 : K.lookup f43 = some ⟨oc43, od43, .func (PySem.W.fnOf "is_full" "is_full" (defArgs s_is_full) (defBody s_is_full) (defScope s_is_full) .none kV43 dc43 pm43 an43 cd43 ct43), sl43⟩) (c43 : PySem.W.codeIn K cd43 "is_full" = true) (k43 : PySem.W.keepIn K (.ref f43) = true)
    (a44 : PySem.W.nsIn K mainGlobals "extent_of" = some (some (.ref f44))) (l44 : K.lookup f44 = some ⟨oc44, od44, .func (PySem.W.fnOf "extent_of" "extent_of" (defArgs s_extent_of) (defBody s_extent_of) (defScope s_extent_of) .none kV44 dc44 pm44 an44 cd44 ct44), sl44⟩) (c44 : PySem.W.codeIn K cd44 "extent_of" = true) (k44 : PySem.W.keepIn K (.ref f44) = true)
    (a45 : PySem.W.nsIn K mainGlobals "point_in" = some (some (.ref f45))) (l45 : K.lookup f45 = some ⟨oc45, od45, .func (PySem.W.fnOf "point_in" "point_in" (defArgs s_point_in) (defBody s_point_in) (defScope s_point_in) .none kV45 dc45 pm45 an45 cd45 ct45), sl45⟩) (c45 : PySem.W.codeIn K cd45 "point_in" = true) (k45 : PySem.W.keepIn K (.ref f45) = true)
    (a46 : PySem.W.nsIn K mainGlobals "paint_at" = some (some (.ref f46))) (l46 : K.lookup f46 = some ⟨oc46, od46, .func (PySem.W.fnOf "paint_at" "paint_at" (defArgs s_paint_at) (defBody s_paint_at) (defScope s_paint_at) .none kV46 dc46 pm46 an46 cd46 ct46), sl46⟩) (c46 : PySem.W.codeIn K cd46 "paint_at" = true) (k46 : PySem.W.keepIn K (.ref f46) = true)
    (a47 : PySem.W.nsIn K mainGlobals "_target" = some (some (.ref f47))) (l47 : K.lookup f47 = some ⟨oc47, od47, .func (PySem.W.fnOf "_target" "_target" (defArgs s_target) (defBody s_target) (defScope s_target) .none kV47 dc47 pm47 an47 cd47 ct47), sl47⟩) (c47 : PySem.W.codeIn K cd47 "_target" = true) (k47 : PySem.W.keepIn K (.ref f47) = true)
    (a48 : PySem.W.nsIn K mainGlobals "blended" = some (some (.ref f48))) (l48 : K.lookup f48 = some ⟨oc48, od48, .func (PySem.W.fnOf "blended" "blended" (defArgs s_blended) (defBody s_blended) (defScope s_blended) .none kV48 dc48 pm48 an48 cd48 ct48), sl48⟩) (c48 : PySem.W.codeIn K cd48 "blended" = true) (k48 : PySem.W.keepIn K (.ref f48) = true)
    (a49 : PySem.W.nsIn K mainGlobals "_item_of" = some (some (.ref f49))) (l49 : K.lookup f49 = some ⟨oc49, od49, .func (PySem.W.fnOf "_item_of" "_item_of" (defArgs s_item_of) (defBody s_item_of) (defScope s_item_of) .none kV49 dc49 pm49 an49 cd49 ct49), sl49⟩) (c49 : PySem.W.codeIn K cd49 "_item_of" = true) (k49 : PySem.W.keepIn K (.ref f49) = true)
    (a50 : PySem.W.nsIn K mainGlobals "items_at" = some (some (.ref f50))) (l50 : K.lookup f50 = some ⟨oc50, od50, .func (PySem.W.fnOf "items_at" "items_at" (defArgs s_items_at) (defBody s_items_at) (defScope s_items_at) .none kV50 dc50 pm50 an50 cd50 ct50), sl50⟩) (c50 : PySem.W.codeIn K cd50 "items_at" = true) (k50 : PySem.W.keepIn K (.ref f50) = true)
    (a51 : PySem.W.nsIn K mainGlobals "_value_at" = some (some (.ref f51))) (l51 : K.lookup f51 = some ⟨oc51, od51, .func (PySem.W.fnOf "_value_at" "_value_at" (defArgs s_value_at) (defBody s_value_at) (defScope s_value_at) .none kV51 dc51 pm51 an51 cd51 ct51), sl51⟩) (c51 : PySem.W.codeIn K cd51 "_value_at" = true) (k51 : PySem.W.keepIn K (.ref f51) = true)
    (a52 : PySem.W.nsIn K mainGlobals "picture_of" = some (some (.ref f52))) (l52 : K.lookup f52 = some ⟨oc52, od52, .func (PySem.W.fnOf "picture_of" "picture_of" (defArgs s_picture_of) (defBody s_picture_of) (defScope s_picture_of) .none kV52 dc52 pm52 an52 cd52 ct52), sl52⟩) (c52 : PySem.W.codeIn K cd52 "picture_of" = true) (k52 : PySem.W.keepIn K (.ref f52) = true)
    (a53 : PySem.W.nsIn K mainGlobals "_law_made" = some (some (.ref f53))) (l53 : K.lookup f53 = some ⟨oc53, od53, .func (PySem.W.fnOf "_law_made" "_law_made" (defArgs s_l_made) (defBody s_l_made) (defScope s_l_made) .none kV53 dc53 pm53 an53 cd53 ct53), sl53⟩) (c53 : PySem.W.codeIn K cd53 "_law_made" = true) (k53 : PySem.W.keepIn K (.ref f53) = true)
    (a54 : PySem.W.nsIn K mainGlobals "_entry_of" = some (some (.ref f54))) (l54 : K.lookup f54 = some ⟨oc54, od54, .func (PySem.W.fnOf "_entry_of" "_entry_of" (defArgs s_entry_of) (defBody s_entry_of) (defScope s_entry_of) .none kV54 dc54 pm54 an54 cd54 ct54), sl54⟩) (c54 : PySem.W.codeIn K cd54 "_entry_of" = true) (k54 : PySem.W.keepIn K (.ref f54) = true)
    (a55 : PySem.W.nsIn K mainGlobals "_sheets_of" = some (some (.ref f55))) (l55 : K.lookup f55 = some ⟨oc55, od55, .func (PySem.W.fnOf "_sheets_of" "_sheets_of" (defArgs s_sheets_of) (defBody s_sheets_of) (defScope s_sheets_of) .none kV55 dc55 pm55 an55 cd55 ct55), sl55⟩) (c55 : PySem.W.codeIn K cd55 "_sheets_of" = true) (k55 : PySem.W.keepIn K (.ref f55) = true)
    (a56 : PySem.W.nsIn K mainGlobals "_stack_of" = some (some (.ref f56))) (l56 : K.lookup f56 = some ⟨oc56, od56, .func (PySem.W.fnOf "_stack_of" "_stack_of" (defArgs s_stack_of) (defBody s_stack_of) (defScope s_stack_of) .none kV56 dc56 pm56 an56 cd56 ct56), sl56⟩) (c56 : PySem.W.codeIn K cd56 "_stack_of" = true) (k56 : PySem.W.keepIn K (.ref f56) = true)
    (a57 : PySem.W.nsIn K mainGlobals "stack_at" = some (some (.ref f57))) (l57 : K.lookup f57 = some ⟨oc57, od57, .func (PySem.W.fnOf "stack_at" "stack_at" (defArgs s_stack_at) (defBody s_stack_at) (defScope s_stack_at) .none kV57 dc57 pm57 an57 cd57 ct57), sl57⟩) (c57 : PySem.W.codeIn K cd57 "stack_at" = true) (k57 : PySem.W.keepIn K (.ref f57) = true)
    (a58 : PySem.W.nsIn K mainGlobals "_law_what_like" = some (some (.ref f58))) (l58 : K.lookup f58 = some ⟨oc58, od58, .func (PySem.W.fnOf "_law_what_like" "_law_what_like" (defArgs s_l_what_like) (defBody s_l_what_like) (defScope s_l_what_like) .none kV58 dc58 pm58 an58 cd58 ct58), sl58⟩) (c58 : PySem.W.codeIn K cd58 "_law_what_like" = true) (k58 : PySem.W.keepIn K (.ref f58) = true)
    (a59 : PySem.W.nsIn K mainGlobals "_law_layer_like" = some (some (.ref f59))) (l59 : K.lookup f59 = some ⟨oc59, od59, .func (PySem.W.fnOf "_law_layer_like" "_law_layer_like" (defArgs s_l_layer_like) (defBody s_l_layer_like) (defScope s_l_layer_like) .none kV59 dc59 pm59 an59 cd59 ct59), sl59⟩) (c59 : PySem.W.codeIn K cd59 "_law_layer_like" = true) (k59 : PySem.W.keepIn K (.ref f59) = true)
    (a60 : PySem.W.nsIn K mainGlobals "_law_changed" = some (some (.ref f60))) (l60 : K.lookup f60 = some ⟨oc60, od60, .func (PySem.W.fnOf "_law_changed" "_law_changed" (defArgs s_l_changed) (defBody s_l_changed) (defScope s_l_changed) .none kV60 dc60 pm60 an60 cd60 ct60), sl60⟩) (c60 : PySem.W.codeIn K cd60 "_law_changed" = true) (k60 : PySem.W.keepIn K (.ref f60) = true)
    (a61 : PySem.W.nsIn K mainGlobals "law" = some (some (.ref f61))) (l61 : K.lookup f61 = some ⟨oc61, od61, .func (PySem.W.fnOf "law" "law" (defArgs s_law) (defBody s_law) (defScope s_law) .none kV61 dc61 pm61 an61 cd61 ct61), sl61⟩) (c61 : PySem.W.codeIn K cd61 "law" = true) (k61 : PySem.W.keepIn K (.ref f61) = true)
    (z_all : PySem.W.nsIn K mainGlobals "all" = some none)
    (z_bool : PySem.W.nsIn K mainGlobals "bool" = some none)
    (z_enumerate : PySem.W.nsIn K mainGlobals "enumerate" = some none)
    (z_int : PySem.W.nsIn K mainGlobals "int" = some none)
    (z_isinstance : PySem.W.nsIn K mainGlobals "isinstance" = some none)
    (z_len : PySem.W.nsIn K mainGlobals "len" = some none)
    (z_list : PySem.W.nsIn K mainGlobals "list" = some none)
    (z_max : PySem.W.nsIn K mainGlobals "max" = some none)
    (z_min : PySem.W.nsIn K mainGlobals "min" = some none)
    (z_range : PySem.W.nsIn K mainGlobals "range" = some none)
    (z_reversed : PySem.W.nsIn K mainGlobals "reversed" = some none)
    (z_str : PySem.W.nsIn K mainGlobals "str" = some none)
    (z_tuple : PySem.W.nsIn K mainGlobals "tuple" = some none)
    {t_CLIPS_MOST : Tok} (z_CLIPS_MOST : PySem.W.nsIn K mainGlobals "CLIPS_MOST" = some (some (.int 64 t_CLIPS_MOST)))
    {t_COVER_MOST : Tok} (z_COVER_MOST : PySem.W.nsIn K mainGlobals "COVER_MOST" = some (some (.int 256 t_COVER_MOST)))
    {t_DISTANCE_MOST : Tok} (z_DISTANCE_MOST : PySem.W.nsIn K mainGlobals "DISTANCE_MOST" = some (some (.int 1000 t_DISTANCE_MOST)))
    {t_FRAMES_MOST : Tok} (z_FRAMES_MOST : PySem.W.nsIn K mainGlobals "FRAMES_MOST" = some (some (.int 1000 t_FRAMES_MOST)))
    {t_LAYERS_MOST : Tok} (z_LAYERS_MOST : PySem.W.nsIn K mainGlobals "LAYERS_MOST" = some (some (.int 16 t_LAYERS_MOST)))
    {t_LENGTH_MOST : Tok} (z_LENGTH_MOST : PySem.W.nsIn K mainGlobals "LENGTH_MOST" = some (some (.int 10000 t_LENGTH_MOST)))
    {t_LETTERS : Tok} (z_LETTERS : PySem.W.nsIn K mainGlobals "LETTERS" = some (some (.str "abcdefghijklmnopqrstuvwxyz" t_LETTERS)))
    {t_LEVEL_MOST : Tok} (z_LEVEL_MOST : PySem.W.nsIn K mainGlobals "LEVEL_MOST" = some (some (.int 256 t_LEVEL_MOST)))
    {xt_MODES_0 xt_MODES_1 xt_MODES_2 : Tok} {x_MODES : Addr} {xd_MODES : Option Addr} {xn_MODES : Nat} {xs_MODES : Array (Option Value)} (z_MODES : PySem.W.nsIn K mainGlobals "MODES" = some (some (.ref x_MODES))) (y_MODES : K.lookup x_MODES = some ⟨.type "tuple", xd_MODES, .seq #[.str "over" xt_MODES_0, .str "add" xt_MODES_1, .str "times" xt_MODES_2] xn_MODES, xs_MODES⟩)
    {t_MOVES_MOST : Tok} (z_MOVES_MOST : PySem.W.nsIn K mainGlobals "MOVES_MOST" = some (some (.int 16 t_MOVES_MOST)))
    {t_MOVE_FRAME_MOST : Tok} (z_MOVE_FRAME_MOST : PySem.W.nsIn K mainGlobals "MOVE_FRAME_MOST" = some (some (.int 1000 t_MOVE_FRAME_MOST)))
    {t_NAME_MOST : Tok} (z_NAME_MOST : PySem.W.nsIn K mainGlobals "NAME_MOST" = some (some (.int 8 t_NAME_MOST)))
    {t_PICTURE_SIDE_MOST : Tok} (z_PICTURE_SIDE_MOST : PySem.W.nsIn K mainGlobals "PICTURE_SIDE_MOST" = some (some (.int 12 t_PICTURE_SIDE_MOST)))
    {t_PLACE_MOST : Tok} (z_PLACE_MOST : PySem.W.nsIn K mainGlobals "PLACE_MOST" = some (some (.int 1000 t_PLACE_MOST)))
    {t_SIDE_MOST : Tok} (z_SIDE_MOST : PySem.W.nsIn K mainGlobals "SIDE_MOST" = some (some (.int 64 t_SIDE_MOST)))
    {t_START_MOST : Tok} (z_START_MOST : PySem.W.nsIn K mainGlobals "START_MOST" = some (some (.int 10000 t_START_MOST)))
    {t_STEP_MOST : Tok} (z_STEP_MOST : PySem.W.nsIn K mainGlobals "STEP_MOST" = some (some (.int 12 t_STEP_MOST)))
    {t_VALUE_MOST : Tok} (z_VALUE_MOST : PySem.W.nsIn K mainGlobals "VALUE_MOST" = some (some (.int 255 t_VALUE_MOST)))
    : ∃ fd : FuncData, (∀ (s : Shared) (v : Value), BindsTo s fd ⟨[v], []⟩ [("script", v)]) ∧ ∀ base : Heap, K.In base → base.Ns mainGlobals mg → FnOk l.prog w K mg base CX0 11 fa fd ["script"] (spLaw K) := by
  have e := hfa.symm.trans (PySem.W.mg_of X G a61)
  cases e
  have T : Txt K mg := ⟨PySem.W.mg_none_of X G z_all, PySem.W.mg_none_of X G z_bool, PySem.W.mg_none_of X G z_enumerate, PySem.W.mg_none_of X G z_int, PySem.W.mg_none_of X G z_isinstance, PySem.W.mg_none_of X G z_len, PySem.W.mg_none_of X G z_list, PySem.W.mg_none_of X G z_max, PySem.W.mg_none_of X G z_min, PySem.W.mg_none_of X G z_range, PySem.W.mg_none_of X G z_reversed, PySem.W.mg_none_of X G z_str, PySem.W.mg_none_of X G z_tuple, ⟨_, PySem.W.mg_of X G z_CLIPS_MOST⟩, ⟨_, PySem.W.mg_of X G z_COVER_MOST⟩, ⟨_, PySem.W.mg_of X G z_DISTANCE_MOST⟩, ⟨_, PySem.W.mg_of X G z_FRAMES_MOST⟩, ⟨_, PySem.W.mg_of X G z_LAYERS_MOST⟩, ⟨_, PySem.W.mg_of X G z_LENGTH_MOST⟩, ⟨_, PySem.W.mg_of X G z_LETTERS⟩, ⟨_, PySem.W.mg_of X G z_LEVEL_MOST⟩, ⟨_, PySem.W.mg_of X G z_MODES, fun H => .inr ⟨_, _, _, y_MODES, rfl, rfl, by show 3 ≤ sizeLine; decide, by repeat (first | exact .nil | refine .cons rfl ?_ | refine .cons ⟨_, rfl⟩ ?_)⟩⟩, ⟨_, PySem.W.mg_of X G z_MOVES_MOST⟩, ⟨_, PySem.W.mg_of X G z_MOVE_FRAME_MOST⟩, ⟨_, PySem.W.mg_of X G z_NAME_MOST⟩, ⟨_, PySem.W.mg_of X G z_PICTURE_SIDE_MOST⟩, ⟨_, PySem.W.mg_of X G z_PLACE_MOST⟩, ⟨_, PySem.W.mg_of X G z_SIDE_MOST⟩, ⟨_, PySem.W.mg_of X G z_START_MOST⟩, ⟨_, PySem.W.mg_of X G z_STEP_MOST⟩, ⟨_, PySem.W.mg_of X G z_VALUE_MOST⟩⟩
  refine ⟨PySem.W.fnOf "law" "law" (defArgs s_law) (defBody s_law) (defScope s_law) .none kV61 dc61 pm61 an61 cd61 ct61, fun s v => .of_eq rfl, fun base _ _ => ?_⟩
  have OT_Film : FilmT K cO_Film := ⟨⟨pg_Film, hd_Film, po_Film, sa_Film⟩, n0_Film, n1_Film, n2_Film, n3_Film, n4_Film⟩
  have F0 := fun_mk (st := s_l_draw) l0 c0 k0
  have D_l_draw : Def l.prog w K mg base CX0 "_law_draw" 1 ["script", "k", "below"] (spDrawF K) := ⟨f0, _, ok_l_draw F0 T, PySem.W.mg_of X G a0, k0, F0.binds (ps := ["script", "k", "below"]) fun _ _ _ _ _ _ us hl => match us, hl with | [_, _, _], _ => rfl⟩
  have F1 := fun_mk (st := s_l_picture) l1 c1 k1
  have D_l_picture : Def l.prog w K mg base CX0 "_law_picture" 2 ["script", "k"] (spPicF K) := ⟨f1, _, ok_l_picture F1 T D_l_draw, PySem.W.mg_of X G a1, k1, F1.binds (ps := ["script", "k"]) fun _ _ _ _ _ _ us hl => match us, hl with | [_, _], _ => rfl⟩
  have F2 := fun_mk (st := s_l_paint) l2 c2 k2
  have D_l_paint : Def l.prog w K mg base CX0 "_law_paint" 3 ["script", "k"] (spPaintF K) := ⟨f2, _, ok_l_paint F2 T D_l_draw D_l_picture, PySem.W.mg_of X G a2, k2, F2.binds (ps := ["script", "k"]) fun _ _ _ _ _ _ us hl => match us, hl with | [_, _], _ => rfl⟩
  have F3 := fun_mk (st := s_l_clips) l3 c3 k3
  have D_l_clips : Def l.prog w K mg base CX0 "_law_clips" 4 ["script", "k", "adjusts"] (spClipsF K) := ⟨f3, _, ok_l_clips F3 T D_l_draw D_l_paint, PySem.W.mg_of X G a3, k3, F3.binds (ps := ["script", "k", "adjusts"]) fun _ _ _ _ _ _ us hl => match us, hl with | [_, _, _], _ => rfl⟩
  have F4 := fun_mk (st := s_l_what) l4 c4 k4
  have D_l_what : Def l.prog w K mg base CX0 "_law_what" 2 ["script", "k"] (spWhatF K) := ⟨f4, _, ok_l_what F4 T D_l_draw, PySem.W.mg_of X G a4, k4, F4.binds (ps := ["script", "k"]) fun _ _ _ _ _ _ us hl => match us, hl with | [_, _], _ => rfl⟩
  have F5 := fun_mk (st := s_l_box) l5 c5 k5
  have D_l_box : Def l.prog w K mg base CX0 "_law_box" 2 ["script", "k"] (spBoxF K) := ⟨f5, _, ok_l_box F5 T D_l_draw, PySem.W.mg_of X G a5, k5, F5.binds (ps := ["script", "k"]) fun _ _ _ _ _ _ us hl => match us, hl with | [_, _], _ => rfl⟩
  have F6 := fun_mk (st := s_l_moves) l6 c6 k6
  have D_l_moves : Def l.prog w K mg base CX0 "_law_moves" 2 ["script", "k"] (spMovesF K) := ⟨f6, _, ok_l_moves F6 T D_l_draw, PySem.W.mg_of X G a6, k6, F6.binds (ps := ["script", "k"]) fun _ _ _ _ _ _ us hl => match us, hl with | [_, _], _ => rfl⟩
  have F7 := fun_mk (st := s_l_layer) l7 c7 k7
  have D_l_layer : Def l.prog w K mg base CX0 "_law_layer" 5 ["script", "k", "name"] (spLayerF K) := ⟨f7, _, ok_l_layer F7 T D_l_what D_l_clips D_l_box D_l_moves, PySem.W.mg_of X G a7, k7, F7.binds (ps := ["script", "k", "name"]) fun _ _ _ _ _ _ us hl => match us, hl with | [_, _, _], _ => rfl⟩
  have F8 := fun_mk (st := s_l_name) l8 c8 k8
  have D_l_name : Def l.prog w K mg base CX0 "_law_name" 2 ["script", "k", "first"] (spNameF K) := ⟨f8, _, ok_l_name F8 T D_l_draw, PySem.W.mg_of X G a8, k8, F8.binds (ps := ["script", "k", "first"]) fun _ _ _ _ _ _ us hl => match us, hl with | [_, _, _], _ => rfl⟩
  have F9 := fun_mk (st := s_l_film) l9 c9 k9
  have D_l_film : Def l.prog w K mg base CX0 "_law_film" 6 ["script", "k"] (spFilmF K) := ⟨f9, _, ok_l_film F9 T D_l_draw D_l_layer D_l_name, PySem.W.mg_of X G a9, k9, F9.binds (ps := ["script", "k"]) fun _ _ _ _ _ _ us hl => match us, hl with | [_, _], _ => rfl⟩
  have F10 := fun_mk (st := s_is_whole) l10 c10 k10
  have D_is_whole : Def l.prog w K mg base CX0 "is_whole" 1 ["value"] (spWhole) := ⟨f10, _, ok_is_whole F10 T, PySem.W.mg_of X G a10, k10, F10.binds (ps := ["value"]) fun _ _ _ _ _ _ us hl => match us, hl with | [_], _ => rfl⟩
  have F11 := fun_mk (st := s_is_number) l11 c11 k11
  have D_is_number : Def l.prog w K mg base CX0 "is_number" 2 ["value", "least", "most"] (spNumber) := ⟨f11, _, ok_is_number F11 T D_is_whole, PySem.W.mg_of X G a11, k11, F11.binds (ps := ["value", "least", "most"]) fun _ _ _ _ _ _ us hl => match us, hl with | [_, _, _], _ => rfl⟩
  have F12 := fun_mk (st := s_has_form_blends) l12 c12 k12
  have D_has_form_blends : Def l.prog w K mg base CX0 "has_form_blends" 3 ["what"] (spFormWh) := ⟨f12, _, ok_has_form_blends F12 T D_is_number, PySem.W.mg_of X G a12, k12, F12.binds (ps := ["what"]) fun _ _ _ _ _ _ us hl => match us, hl with | [_], _ => rfl⟩
  have F13 := fun_mk (st := s_check_what) l13 c13 k13
  have D_check_what : Def l.prog w K mg base CX0 "check_what" 4 ["what"] (spWhatV) := ⟨f13, _, ok_check_what F13 T D_has_form_blends, PySem.W.mg_of X G a13, k13, F13.binds (ps := ["what"]) fun _ _ _ _ _ _ us hl => match us, hl with | [_], _ => rfl⟩
  have F14 := fun_mk (st := s_is_distance) l14 c14 k14
  have D_is_distance : Def l.prog w K mg base CX0 "_is_distance" 3 ["value"] (spDistV) := ⟨f14, _, ok_is_distance F14 T D_is_number, PySem.W.mg_of X G a14, k14, F14.binds (ps := ["value"]) fun _ _ _ _ _ _ us hl => match us, hl with | [_], _ => rfl⟩
  have F15 := fun_mk (st := s_is_point) l15 c15 k15
  have D_is_point : Def l.prog w K mg base CX0 "_is_point" 4 ["point", "least"] (spPtVd) := ⟨f15, _, ok_is_point F15 T D_is_number D_is_distance, PySem.W.mg_of X G a15, k15, F15.binds (ps := ["point", "least"]) fun _ _ _ _ _ _ us hl => match us, hl with | [_, _], _ => rfl⟩
  have F16 := fun_mk (st := s_check_moves) l16 c16 k16
  have D_check_moves : Def l.prog w K mg base CX0 "check_moves" 5 ["moves"] (spMovesV) := ⟨f16, _, ok_check_moves F16 T D_is_point, PySem.W.mg_of X G a16, k16, F16.binds (ps := ["moves"]) fun _ _ _ _ _ _ us hl => match us, hl with | [_], _ => rfl⟩
  have F17 := fun_mk (st := s_has_form_clips) l17 c17 k17
  have D_has_form_clips : Def l.prog w K mg base CX0 "has_form_clips" 3 ["clip"] (spFormCV) := ⟨f17, _, ok_has_form_clips F17 T D_is_number, PySem.W.mg_of X G a17, k17, F17.binds (ps := ["clip"]) fun _ _ _ _ _ _ us hl => match us, hl with | [_], _ => rfl⟩
  have F18 := fun_mk (st := s_is_bare) l18 c18 k18
  have D_is_bare : Def l.prog w K mg base CX0 "_is_bare" 1 ["clip"] (spBareV) := ⟨f18, _, ok_is_bare F18 T, PySem.W.mg_of X G a18, k18, F18.binds (ps := ["clip"]) fun _ _ _ _ _ _ us hl => match us, hl with | [_], _ => rfl⟩
  have F19 := fun_mk (st := s_are_numbers) l19 c19 k19
  have D_are_numbers : Def l.prog w K mg base CX0 "_are_numbers" 3 ["items", "many", "most"] (spNums) := ⟨f19, _, ok_are_numbers F19 T D_is_number, PySem.W.mg_of X G a19, k19, F19.binds (ps := ["items", "many", "most"]) fun _ _ _ _ _ _ us hl => match us, hl with | [_, _, _], _ => rfl⟩
  have F20 := fun_mk (st := s_check_picture) l20 c20 k20
  have D_check_picture : Def l.prog w K mg base CX0 "check_picture" 4 ["picture"] (spCheck K) := ⟨f20, _, ok_check_picture F20 T D_is_number D_are_numbers, PySem.W.mg_of X G a20, k20, F20.binds (ps := ["picture"]) fun _ _ _ _ _ _ us hl => match us, hl with | [_], _ => rfl⟩
  have F21 := fun_mk (st := s_has_form_paints) l21 c21 k21
  have D_has_form_paints : Def l.prog w K mg base CX0 "has_form_paints" 3 ["paint"] (spFormP K) := ⟨f21, _, ok_has_form_paints F21 T D_is_number, PySem.W.mg_of X G a21, k21, F21.binds (ps := ["paint"]) fun _ _ _ _ _ _ us hl => match us, hl with | [_], _ => rfl⟩
  have F22 := fun_mk (st := s_check_paint) l22 c22 k22
  have D_check_paint : Def l.prog w K mg base CX0 "check_paint" 5 ["paint"] (spGoodP) := ⟨f22, _, ok_check_paint F22 T D_has_form_paints D_check_picture, PySem.W.mg_of X G a22, k22, F22.binds (ps := ["paint"]) fun _ _ _ _ _ _ us hl => match us, hl with | [_], _ => rfl⟩
  have F23 := fun_mk (st := s_end_of) l23 c23 k23
  have D_end_of : Def l.prog w K mg base CX0 "end_of" 1 ["clip"] (spEnd K) := ⟨f23, _, ok_end_of F23 T, PySem.W.mg_of X G a23, k23, F23.binds (ps := ["clip"]) fun _ _ _ _ _ _ us hl => match us, hl with | [_], _ => rfl⟩
  have F24 := fun_mk (st := s_is_name) l24 c24 k24
  have D_is_name : Def l.prog w K mg base CX0 "is_name" 1 ["value"] (spIsName) := ⟨f24, _, ok_is_name F24 T, PySem.W.mg_of X G a24, k24, F24.binds (ps := ["value"]) fun _ _ _ _ _ _ us hl => match us, hl with | [_], _ => rfl⟩
  have F25 := fun_mk (st := s_check_clips) l25 c25 k25
  have D_check_clips : Def l.prog w K mg base CX0 "check_clips" 6 ["clips", "adjusts"] (spClipsVd) := ⟨f25, _, ok_check_clips F25 T D_has_form_clips D_is_bare D_check_paint D_end_of, PySem.W.mg_of X G a25, k25, F25.binds (ps := ["clips", "adjusts"]) fun _ _ _ _ _ _ us hl => match us, hl with | [_, _], _ => rfl⟩
  have F26 := fun_mk (st := s_is_box) l26 c26 k26
  have D_is_box : Def l.prog w K mg base CX0 "_is_box" 3 ["value"] (spBoxVd) := ⟨f26, _, ok_is_box F26 T D_is_number, PySem.W.mg_of X G a26, k26, F26.binds (ps := ["value"]) fun _ _ _ _ _ _ us hl => match us, hl with | [_], _ => rfl⟩
  have F27 := fun_mk (st := s_adjusts) l27 c27 k27
  have D_adjusts : Def l.prog w K mg base CX0 "_adjusts" 1 ["what"] (spAdj K) := ⟨f27, _, ok_adjusts F27 T, PySem.W.mg_of X G a27, k27, F27.binds (ps := ["what"]) fun _ _ _ _ _ _ us hl => match us, hl with | [_], _ => rfl⟩
  have F28 := fun_mk (st := s_check_numbers) l28 c28 k28
  have D_check_numbers : Def l.prog w K mg base CX0 "_check_numbers" 3 ["width", "height", "frames", "background"] (spNumsVd) := ⟨f28, _, ok_check_numbers F28 T D_is_number, PySem.W.mg_of X G a28, k28, F28.binds (ps := ["width", "height", "frames", "background"]) fun _ _ _ _ _ _ us hl => match us, hl with | [_, _, _, _], _ => rfl⟩
  have F29 := fun_mk (st := s_check_layer) l29 c29 k29
  have D_check_layer : Def l.prog w K mg base CX0 "_check_layer" 7 ["layer", "place"] (spLayerVd K) := ⟨f29, _, ok_check_layer F29 T D_is_name D_is_box D_check_moves D_check_what D_check_clips D_adjusts, PySem.W.mg_of X G a29, k29, F29.binds (ps := ["layer", "place"]) fun _ _ _ _ _ _ us hl => match us, hl with | [_, _], _ => rfl⟩
  have F30 := fun_mk (st := s_Film_width) l30 c30 k30
  have PF_Film_width : Prp l.prog w K mg base cO_Film "width" 1 (spGetI cO_Film Fi.w) := ⟨p30, f30, _, ⟨a30, g30, t30, ⟨_, r30⟩⟩, ok_Film_width F30 T OT_Film, F30.binds (ps := ["self"]) fun _ _ _ _ _ _ us hl => match us, hl with | [_], _ => rfl⟩
  have F31 := fun_mk (st := s_Film_height) l31 c31 k31
  have PF_Film_height : Prp l.prog w K mg base cO_Film "height" 1 (spGetI cO_Film Fi.h) := ⟨p31, f31, _, ⟨a31, g31, t31, ⟨_, r31⟩⟩, ok_Film_height F31 T OT_Film, F31.binds (ps := ["self"]) fun _ _ _ _ _ _ us hl => match us, hl with | [_], _ => rfl⟩
  have F32 := fun_mk (st := s_Film_frames) l32 c32 k32
  have PF_Film_frames : Prp l.prog w K mg base cO_Film "frames" 1 (spGetI cO_Film Fi.n) := ⟨p32, f32, _, ⟨a32, g32, t32, ⟨_, r32⟩⟩, ok_Film_frames F32 T OT_Film, F32.binds (ps := ["self"]) fun _ _ _ _ _ _ us hl => match us, hl with | [_], _ => rfl⟩
  have F33 := fun_mk (st := s_Film_background) l33 c33 k33
  have PF_Film_background : Prp l.prog w K mg base cO_Film "background" 1 (spGetI cO_Film Fi.b) := ⟨p33, f33, _, ⟨a33, g33, t33, ⟨_, r33⟩⟩, ok_Film_background F33 T OT_Film, F33.binds (ps := ["self"]) fun _ _ _ _ _ _ us hl => match us, hl with | [_], _ => rfl⟩
  have F34 := fun_mk (st := s_Film_layers) l34 c34 k34
  have PF_Film_layers : Prp l.prog w K mg base cO_Film "layers" 1 (spGetL cO_Film) := ⟨p34, f34, _, ⟨a34, g34, t34, ⟨_, r34⟩⟩, ok_Film_layers F34 T OT_Film, F34.binds (ps := ["self"]) fun _ _ _ _ _ _ us hl => match us, hl with | [_], _ => rfl⟩
  have F35 := fun_mk (st := s_Film_init) l35 c35 k35
  have MK_Film : MkO l.prog w K mg base CX0 "Film" cO_Film 8 ["self", "width", "height", "frames", "background", "layers"] (spFilmVd cO_Film) := ⟨f35, _, ⟨mk_Film, a35, i35, kc_Film⟩, ok_Film_init F35 T OT_Film D_check_numbers D_check_layer, PySem.W.mg_of X G aO_Film, F35.binds (ps := ["self", "width", "height", "frames", "background", "layers"]) fun _ _ _ _ _ _ us hl => match us, hl with | [_, _, _, _, _, _], _ => rfl⟩
  have F36 := fun_mk (st := s_between) l36 c36 k36
  have D_between : Def l.prog w K mg base CX0 "_between" 1 ["first", "second", "frame"] (spBtw K) := ⟨f36, _, ok_between F36 T, PySem.W.mg_of X G a36, k36, F36.binds (ps := ["first", "second", "frame"]) fun _ _ _ _ _ _ us hl => match us, hl with | [_, _, _], _ => rfl⟩
  have F37 := fun_mk (st := s_offset_at) l37 c37 k37
  have D_offset_at : Def l.prog w K mg base CX0 "offset_at" 2 ["moves", "frame"] (spOff K) := ⟨f37, _, ok_offset_at F37 T D_between, PySem.W.mg_of X G a37, k37, F37.binds (ps := ["moves", "frame"]) fun _ _ _ _ _ _ us hl => match us, hl with | [_, _], _ => rfl⟩
  have F38 := fun_mk (st := s_corner_of) l38 c38 k38
  have D_corner_of : Def l.prog w K mg base CX0 "_corner_of" 3 ["layer", "frame"] (spCorner K) := ⟨f38, _, ok_corner_of F38 T D_offset_at, PySem.W.mg_of X G a38, k38, F38.binds (ps := ["layer", "frame"]) fun _ _ _ _ _ _ us hl => match us, hl with | [_, _], _ => rfl⟩
  have F39 := fun_mk (st := s_level_at) l39 c39 k39
  have D_level_at : Def l.prog w K mg base CX0 "level_at" 1 ["clip", "frame"] (spLevelF K) := ⟨f39, _, ok_level_at F39 T, PySem.W.mg_of X G a39, k39, F39.binds (ps := ["clip", "frame"]) fun _ _ _ _ _ _ us hl => match us, hl with | [_, _], _ => rfl⟩
  have F40 := fun_mk (st := s_clip_at) l40 c40 k40
  have D_clip_at : Def l.prog w K mg base CX0 "clip_at" 2 ["clips", "frame"] (spClipAt K) := ⟨f40, _, ok_clip_at F40 T D_end_of, PySem.W.mg_of X G a40, k40, F40.binds (ps := ["clips", "frame"]) fun _ _ _ _ _ _ us hl => match us, hl with | [_, _], _ => rfl⟩
  have F41 := fun_mk (st := s_lane) l41 c41 k41
  have D_lane : Def l.prog w K mg base CX0 "lane" 3 ["clips", "frame"] (spLaneF K) := ⟨f41, _, ok_lane F41 T D_clip_at D_level_at, PySem.W.mg_of X G a41, k41, F41.binds (ps := ["clips", "frame"]) fun _ _ _ _ _ _ us hl => match us, hl with | [_, _], _ => rfl⟩
  have F42 := fun_mk (st := s_is_full_picture) l42 c42 k42
  have D_is_full_picture : Def l.prog w K mg base CX0 "_is_full_picture" 1 ["picture", "width", "height"] (spFullP K) := ⟨f42, _, ok_is_full_picture F42 T, PySem.W.mg_of X G a42, k42, F42.binds (ps := ["picture", "width", "height"]) fun _ _ _ _ _ _ us hl => match us, hl with | [_, _, _], _ => rfl⟩
  have F43 := fun_mk (st := s_is_full) l43 c43 k43
  have D_is_full : Def l.prog w K mg base CX0 "is_full" 2 ["paint", "width", "height"] (spFull K) := ⟨f43, _, ok_is_full F43 T D_is_full_picture, PySem.W.mg_of X G a43, k43, F43.binds (ps := ["paint", "width", "height"]) fun _ _ _ _ _ _ us hl => match us, hl with | [_, _, _], _ => rfl⟩
  have F44 := fun_mk (st := s_extent_of) l44 c44 k44
  have D_extent_of : Def l.prog w K mg base CX0 "extent_of" 4 ["film", "layer", "frame"] (spExt K cO_Film) := ⟨f44, _, ok_extent_of F44 T OT_Film D_corner_of PF_Film_width PF_Film_height, PySem.W.mg_of X G a44, k44, F44.binds (ps := ["film", "layer", "frame"]) fun _ _ _ _ _ _ us hl => match us, hl with | [_, _, _], _ => rfl⟩
  have F45 := fun_mk (st := s_point_in) l45 c45 k45
  have D_point_in : Def l.prog w K mg base CX0 "point_in" 1 ["picture", "x", "y"] (spPoint K) := ⟨f45, _, ok_point_in F45 T, PySem.W.mg_of X G a45, k45, F45.binds (ps := ["picture", "x", "y"]) fun _ _ _ _ _ _ us hl => match us, hl with | [_, _, _], _ => rfl⟩
  have F46 := fun_mk (st := s_paint_at) l46 c46 k46
  have D_paint_at : Def l.prog w K mg base CX0 "paint_at" 2 ["paint", "x", "y"] (spAt K) := ⟨f46, _, ok_paint_at F46 T D_point_in, PySem.W.mg_of X G a46, k46, F46.binds (ps := ["paint", "x", "y"]) fun _ _ _ _ _ _ us hl => match us, hl with | [_, _, _], _ => rfl⟩
  have F47 := fun_mk (st := s_target) l47 c47 k47
  have D_target : Def l.prog w K mg base CX0 "_target" 1 ["mode", "value", "paint"] (spTarget K) := ⟨f47, _, ok_target F47 T, PySem.W.mg_of X G a47, k47, F47.binds (ps := ["mode", "value", "paint"]) fun _ _ _ _ _ _ us hl => match us, hl with | [_, _, _], _ => rfl⟩
  have F48 := fun_mk (st := s_blended) l48 c48 k48
  have D_blended : Def l.prog w K mg base CX0 "blended" 2 ["mode", "value", "paint", "cover"] (spBlend K Md.mix) := ⟨f48, _, ok_blended F48 T D_target, PySem.W.mg_of X G a48, k48, F48.binds (ps := ["mode", "value", "paint", "cover"]) fun _ _ _ _ _ _ us hl => match us, hl with | [_, _, _, _], _ => rfl⟩
  have F49 := fun_mk (st := s_item_of) l49 c49 k49
  have D_item_of : Def l.prog w K mg base CX0 "_item_of" 5 ["film", "layer", "frame"] (spItem K cO_Film) := ⟨f49, _, ok_item_of F49 T OT_Film D_lane D_extent_of D_corner_of D_adjusts D_is_full, PySem.W.mg_of X G a49, k49, F49.binds (ps := ["film", "layer", "frame"]) fun _ _ _ _ _ _ us hl => match us, hl with | [_, _, _], _ => rfl⟩
  have F50 := fun_mk (st := s_items_at) l50 c50 k50
  have D_items_at : Def l.prog w K mg base CX0 "items_at" 6 ["film", "frame"] (spItems K cO_Film) := ⟨f50, _, ok_items_at F50 T OT_Film PF_Film_layers D_item_of, PySem.W.mg_of X G a50, k50, F50.binds (ps := ["film", "frame"]) fun _ _ _ _ _ _ us hl => match us, hl with | [_, _], _ => rfl⟩
  have F51 := fun_mk (st := s_value_at) l51 c51 k51
  have D_value_at : Def l.prog w K mg base CX0 "_value_at" 3 ["background", "items", "x", "y"] (spValue K) := ⟨f51, _, ok_value_at F51 T D_paint_at D_blended, PySem.W.mg_of X G a51, k51, F51.binds (ps := ["background", "items", "x", "y"]) fun _ _ _ _ _ _ us hl => match us, hl with | [_, _, _, _], _ => rfl⟩
  have F52 := fun_mk (st := s_picture_of) l52 c52 k52
  have D_picture_of : Def l.prog w K mg base CX0 "picture_of" 7 ["film", "frame"] (spPicOf K cO_Film) := ⟨f52, _, ok_picture_of F52 T OT_Film D_items_at PF_Film_height PF_Film_width D_value_at PF_Film_background, PySem.W.mg_of X G a52, k52, F52.binds (ps := ["film", "frame"]) fun _ _ _ _ _ _ us hl => match us, hl with | [_, _], _ => rfl⟩
  have F53 := fun_mk (st := s_l_made) l53 c53 k53
  have D_l_made : Def l.prog w K mg base CX0 "_law_made" 10 ["parts"] (spMade K cO_Film) := ⟨f53, _, ok_l_made F53 T MK_Film, PySem.W.mg_of X G a53, k53, F53.binds (ps := ["parts"]) fun _ _ _ _ _ _ us hl => match us, hl with | [_], _ => rfl⟩
  have F54 := fun_mk (st := s_entry_of) l54 c54 k54
  have D_entry_of : Def l.prog w K mg base CX0 "_entry_of" 1 ["item"] (spEntry K) := ⟨f54, _, ok_entry_of F54 T, PySem.W.mg_of X G a54, k54, F54.binds (ps := ["item"]) fun _ _ _ _ _ _ us hl => match us, hl with | [_], _ => rfl⟩
  have F55 := fun_mk (st := s_sheets_of) l55 c55 k55
  have D_sheets_of : Def l.prog w K mg base CX0 "_sheets_of" 7 ["film", "frame"] (spSheets K cO_Film) := ⟨f55, _, ok_sheets_of F55 T OT_Film D_items_at D_entry_of PF_Film_background PF_Film_height PF_Film_width, PySem.W.mg_of X G a55, k55, F55.binds (ps := ["film", "frame"]) fun _ _ _ _ _ _ us hl => match us, hl with | [_, _], _ => rfl⟩
  have F56 := fun_mk (st := s_stack_of) l56 c56 k56
  have D_stack_of : Def l.prog w K mg base CX0 "_stack_of" 1 ["sheets", "x", "y"] (spStackOf K) := ⟨f56, _, ok_stack_of F56 T, PySem.W.mg_of X G a56, k56, F56.binds (ps := ["sheets", "x", "y"]) fun _ _ _ _ _ _ us hl => match us, hl with | [_, _, _], _ => rfl⟩
  have F57 := fun_mk (st := s_stack_at) l57 c57 k57
  have D_stack_at : Def l.prog w K mg base CX0 "stack_at" 8 ["film", "frame", "x", "y"] (spStackAt K cO_Film) := ⟨f57, _, ok_stack_at F57 T D_stack_of D_sheets_of, PySem.W.mg_of X G a57, k57, F57.binds (ps := ["film", "frame", "x", "y"]) fun _ _ _ _ _ _ us hl => match us, hl with | [_, _, _, _], _ => rfl⟩
  have F58 := fun_mk (st := s_l_what_like) l58 c58 k58
  have D_l_what_like : Def l.prog w K mg base CX0 "_law_what_like" 2 ["script", "k", "what"] (spWhatLike K) := ⟨f58, _, ok_l_what_like F58 T D_l_draw, PySem.W.mg_of X G a58, k58, F58.binds (ps := ["script", "k", "what"]) fun _ _ _ _ _ _ us hl => match us, hl with | [_, _, _], _ => rfl⟩
  have F59 := fun_mk (st := s_l_layer_like) l59 c59 k59
  have D_l_layer_like : Def l.prog w K mg base CX0 "_law_layer_like" 5 ["script", "k", "layer"] (spLayerLike K) := ⟨f59, _, ok_l_layer_like F59 T D_l_draw D_l_what_like D_l_moves D_l_clips D_l_box, PySem.W.mg_of X G a59, k59, F59.binds (ps := ["script", "k", "layer"]) fun _ _ _ _ _ _ us hl => match us, hl with | [_, _, _], _ => rfl⟩
  have F60 := fun_mk (st := s_l_changed) l60 c60 k60
  have D_l_changed : Def l.prog w K mg base CX0 "_law_changed" 6 ["script", "k", "parts"] (spChanged K) := ⟨f60, _, ok_l_changed F60 T D_l_draw D_l_layer D_l_layer_like, PySem.W.mg_of X G a60, k60, F60.binds (ps := ["script", "k", "parts"]) fun _ _ _ _ _ _ us hl => match us, hl with | [_, _, _], _ => rfl⟩
  exact ok_law (fun_mk (st := s_law) l61 c61 k61) T D_l_film D_l_changed D_l_draw D_l_made D_picture_of D_stack_at MK_Film
theorem walk {l : PySem.W.OpenLaw} {q : Program} {loose : List Str} {XP : (Str → Option Value) → Heap → Prop} {YP : World → Heap → Prop} {d : DefRec} {K : Params → PySem.W.Frag} (hn : l.most = some 63) (hdf : d.params.defaults = [])
    (hY : ∀ (w : World) (h : Heap), YP w h → (K w.params).In h)
    (F : ∀ (w : World) (mg : Str → Option Value) (fa : Addr) (h : Heap), (K w.params).In h → h.Ns mainGlobals mg → mg d.name = some (.ref fa) →
      ∃ fd : FuncData, (∀ (s : Shared) (u : Value), BindsTo s fd ⟨[u], []⟩ [("script", u)]) ∧ ∀ base : Heap, (K w.params).In base → base.Ns mainGlobals mg → FnOk l.prog w (K w.params) mg base CX0 11 fa fd ["script"] (spLaw (K w.params))) :
    PySem.W.WalkO q loose XP YP l.row.toRowW d [] (fun f vs => PySem.call f vs) :=
  L2.walk_of (n := 63) (k := 11) (x := "script") (CX := fun _ => CX0) (sp := fun w => spLaw (K w.params)) hn (by decide) hdf ⟨rfl, by decide, by decide⟩ hY F (fun _ _ a ns hl _ hS => ⟨a, ns, rfl, hS, hl, fun _ => rfl⟩) fun _ _ _ _ _ z => z
end Od
open PySem PySem.W PyProof.Rows in
set_option maxRecDepth 100000 in
set_option maxHeartbeats 0 in
theorem PySem.Challenge.cw_onlythedirt_k45_whole_equal_stacks_show_holds : PySem.Challenge.rw_onlythedirt_k45_whole_equal_stacks_show.Holds := by
  w_on; o_law; k_head; (case hw => w_witness2)
  k_fill
  refine Od.walk (l := PySem.Challenge.rw_onlythedirt_k45_whole_equal_stacks_show) rfl rfl (fun w h Y => PySem.W.kIn_of Y) ?F
  case F =>
    intro w mg fa h KX G hmg
    refine' Od.all_mk KX G hmg ?aO_Film ?pg_Film ?hd_Film ?po_Film ?sa_Film ?mk_Film ?kc_Film ?n0_Film ?n1_Film ?n2_Film ?n3_Film ?n4_Film ?a0 ?l0 ?c0 ?k0 ?a1 ?l1 ?c1 ?k1 ?a2 ?l2 ?c2 ?k2 ?a3 ?l3 ?c3 ?k3 ?a4 ?l4 ?c4 ?k4 ?a5 ?l5 ?c5 ?k5 ?a6 ?l6 ?c6 ?k6 ?a7 ?l7 ?c7 ?k7 ?a8 ?l8 ?c8 ?k8 ?a9 ?l9 ?c9 ?k9 ?a10 ?l10 ?c10 ?k10 ?a11 ?l11 ?c11 ?k11 ?a12 ?l12 ?c12 ?k12 ?a13 ?l13 ?c13 ?k13 ?a14 ?l14 ?c14 ?k14 ?a15 ?l15 ?c15 ?k15 ?a16 ?l16 ?c16 ?k16 ?a17 ?l17 ?c17 ?k17 ?a18 ?l18 ?c18 ?k18 ?a19 ?l19 ?c19 ?k19 ?a20 ?l20 ?c20 ?k20 ?a21 ?l21 ?c21 ?k21 ?a22 ?l22 ?c22 ?k22 ?a23 ?l23 ?c23 ?k23 ?a24 ?l24 ?c24 ?k24 ?a25 ?l25 ?c25 ?k25 ?a26 ?l26 ?c26 ?k26 ?a27 ?l27 ?c27 ?k27 ?a28 ?l28 ?c28 ?k28 ?a29 ?l29 ?c29 ?k29 ?a30 ?g30 ?t30 ?r30 ?l30 ?c30 ?k30 ?a31 ?g31 ?t31 ?r31 ?l31 ?c31 ?k31 ?a32 ?g32 ?t32 ?r32 ?l32 ?c32 ?k32 ?a33 ?g33 ?t33 ?r33 ?l33 ?c33 ?k33 ?a34 ?g34 ?t34 ?r34 ?l34 ?c34 ?k34 ?a35 ?i35 ?l35 ?c35 ?k35 ?a36 ?l36 ?c36 ?k36 ?a37 ?l37 ?c37 ?k37 ?a38 ?l38 ?c38 ?k38 ?a39 ?l39 ?c39 ?k39 ?a40 ?l40 ?c40 ?k40 ?a41 ?l41 ?c41 ?k41 ?a42 ?l42 ?c42 ?k42 ?a43 ?l43 ?c43 ?k43 ?a44 ?l44 ?c44 ?k44 ?a45 ?l45 ?c45 ?k45 ?a46 ?l46 ?c46 ?k46 ?a47 ?l47 ?c47 ?k47 ?a48 ?l48 ?c48 ?k48 ?a49 ?l49 ?c49 ?k49 ?a50 ?l50 ?c50 ?k50 ?a51 ?l51 ?c51 ?k51 ?a52 ?l52 ?c52 ?k52 ?a53 ?l53 ?c53 ?k53 ?a54 ?l54 ?c54 ?k54 ?a55 ?l55 ?c55 ?k55 ?a56 ?l56 ?c56 ?k56 ?a57 ?l57 ?c57 ?k57 ?a58 ?l58 ?c58 ?k58 ?a59 ?l59 ?c59 ?k59 ?a60 ?l60 ?c60 ?k60 ?a61 ?l61 ?c61 ?k61 ?z_all ?z_bool ?z_enumerate ?z_int ?z_isinstance ?z_len ?z_list ?z_max ?z_min ?z_range ?z_reversed ?z_str ?z_tuple ?z_CLIPS_MOST ?z_COVER_MOST ?z_DISTANCE_MOST ?z_FRAMES_MOST ?z_LAYERS_MOST ?z_LENGTH_MOST ?z_LETTERS ?z_LEVEL_MOST ?z_MODES ?y_MODES ?z_MOVES_MOST ?z_MOVE_FRAME_MOST ?z_NAME_MOST ?z_PICTURE_SIDE_MOST ?z_PLACE_MOST ?z_SIDE_MOST ?z_START_MOST ?z_STEP_MOST ?z_VALUE_MOST
    (case aO_Film => k_is)
    (case pg_Film => k_is)
    (case hd_Film => k_is)
    (case po_Film => k_is)
    (case sa_Film => k_is)
    (case mk_Film => k_is)
    (case kc_Film => k_is)
    (case n0_Film => k_is)
    (case n1_Film => k_is)
    (case n2_Film => k_is)
    (case n3_Film => k_is)
    (case n4_Film => k_is)
    (case a0 => k_is)
    (case l0 => k_is)
    (case c0 => k_is)
    (case k0 => k_is)
    (case a1 => k_is)
    (case l1 => k_is)
    (case c1 => k_is)
    (case k1 => k_is)
    (case a2 => k_is)
    (case l2 => k_is)
    (case c2 => k_is)
    (case k2 => k_is)
    (case a3 => k_is)
    (case l3 => k_is)
    (case c3 => k_is)
    (case k3 => k_is)
    (case a4 => k_is)
    (case l4 => k_is)
    (case c4 => k_is)
    (case k4 => k_is)
    (case a5 => k_is)
    (case l5 => k_is)
    (case c5 => k_is)
    (case k5 => k_is)
    (case a6 => k_is)
    (case l6 => k_is)
    (case c6 => k_is)
    (case k6 => k_is)
    (case a7 => k_is)
    (case l7 => k_is)
    (case c7 => k_is)
    (case k7 => k_is)
    (case a8 => k_is)
    (case l8 => k_is)
    (case c8 => k_is)
    (case k8 => k_is)
    (case a9 => k_is)
    (case l9 => k_is)
    (case c9 => k_is)
    (case k9 => k_is)
    (case a10 => k_is)
    (case l10 => k_is)
    (case c10 => k_is)
    (case k10 => k_is)
    (case a11 => k_is)
    (case l11 => k_is)
    (case c11 => k_is)
    (case k11 => k_is)
    (case a12 => k_is)
    (case l12 => k_is)
    (case c12 => k_is)
    (case k12 => k_is)
    (case a13 => k_is)
    (case l13 => k_is)
    (case c13 => k_is)
    (case k13 => k_is)
    (case a14 => k_is)
    (case l14 => k_is)
    (case c14 => k_is)
    (case k14 => k_is)
    (case a15 => k_is)
    (case l15 => k_is)
    (case c15 => k_is)
    (case k15 => k_is)
    (case a16 => k_is)
    (case l16 => k_is)
    (case c16 => k_is)
    (case k16 => k_is)
    (case a17 => k_is)
    (case l17 => k_is)
    (case c17 => k_is)
    (case k17 => k_is)
    (case a18 => k_is)
    (case l18 => k_is)
    (case c18 => k_is)
    (case k18 => k_is)
    (case a19 => k_is)
    (case l19 => k_is)
    (case c19 => k_is)
    (case k19 => k_is)
    (case a20 => k_is)
    (case l20 => k_is)
    (case c20 => k_is)
    (case k20 => k_is)
    (case a21 => k_is)
    (case l21 => k_is)
    (case c21 => k_is)
    (case k21 => k_is)
    (case a22 => k_is)
    (case l22 => k_is)
    (case c22 => k_is)
    (case k22 => k_is)
    (case a23 => k_is)
    (case l23 => k_is)
    (case c23 => k_is)
    (case k23 => k_is)
    (case a24 => k_is)
    (case l24 => k_is)
    (case c24 => k_is)
    (case k24 => k_is)
    (case a25 => k_is)
    (case l25 => k_is)
    (case c25 => k_is)
    (case k25 => k_is)
    (case a26 => k_is)
    (case l26 => k_is)
    (case c26 => k_is)
    (case k26 => k_is)
    (case a27 => k_is)
    (case l27 => k_is)
    (case c27 => k_is)
    (case k27 => k_is)
    (case a28 => k_is)
    (case l28 => k_is)
    (case c28 => k_is)
    (case k28 => k_is)
    (case a29 => k_is)
    (case l29 => k_is)
    (case c29 => k_is)
    (case k29 => k_is)
    (case a30 => k_is)
    (case g30 => k_is)
    (case t30 => k_is)
    (case r30 => k_is)
    (case l30 => k_is)
    (case c30 => k_is)
    (case k30 => k_is)
    (case a31 => k_is)
    (case g31 => k_is)
    (case t31 => k_is)
    (case r31 => k_is)
    (case l31 => k_is)
    (case c31 => k_is)
    (case k31 => k_is)
    (case a32 => k_is)
    (case g32 => k_is)
    (case t32 => k_is)
    (case r32 => k_is)
    (case l32 => k_is)
    (case c32 => k_is)
    (case k32 => k_is)
    (case a33 => k_is)
    (case g33 => k_is)
    (case t33 => k_is)
    (case r33 => k_is)
    (case l33 => k_is)
    (case c33 => k_is)
    (case k33 => k_is)
    (case a34 => k_is)
    (case g34 => k_is)
    (case t34 => k_is)
    (case r34 => k_is)
    (case l34 => k_is)
    (case c34 => k_is)
    (case k34 => k_is)
    (case a35 => k_is)
    (case i35 => k_is)
    (case l35 => k_is)
    (case c35 => k_is)
    (case k35 => k_is)
    (case a36 => k_is)
    (case l36 => k_is)
    (case c36 => k_is)
    (case k36 => k_is)
    (case a37 => k_is)
    (case l37 => k_is)
    (case c37 => k_is)
    (case k37 => k_is)
    (case a38 => k_is)
    (case l38 => k_is)
    (case c38 => k_is)
    (case k38 => k_is)
    (case a39 => k_is)
    (case l39 => k_is)
    (case c39 => k_is)
    (case k39 => k_is)
    (case a40 => k_is)
    (case l40 => k_is)
    (case c40 => k_is)
    (case k40 => k_is)
    (case a41 => k_is)
    (case l41 => k_is)
    (case c41 => k_is)
    (case k41 => k_is)
    (case a42 => k_is)
    (case l42 => k_is)
    (case c42 => k_is)
    (case k42 => k_is)
    (case a43 => k_is)
    (case l43 => k_is)
    (case c43 => k_is)
    (case k43 => k_is)
    (case a44 => k_is)
    (case l44 => k_is)
    (case c44 => k_is)
    (case k44 => k_is)
    (case a45 => k_is)
    (case l45 => k_is)
    (case c45 => k_is)
    (case k45 => k_is)
    (case a46 => k_is)
    (case l46 => k_is)
    (case c46 => k_is)
    (case k46 => k_is)
    (case a47 => k_is)
    (case l47 => k_is)
    (case c47 => k_is)
    (case k47 => k_is)
    (case a48 => k_is)
    (case l48 => k_is)
    (case c48 => k_is)
    (case k48 => k_is)
    (case a49 => k_is)
    (case l49 => k_is)
    (case c49 => k_is)
    (case k49 => k_is)
    (case a50 => k_is)
    (case l50 => k_is)
    (case c50 => k_is)
    (case k50 => k_is)
    (case a51 => k_is)
    (case l51 => k_is)
    (case c51 => k_is)
    (case k51 => k_is)
    (case a52 => k_is)
    (case l52 => k_is)
    (case c52 => k_is)
    (case k52 => k_is)
    (case a53 => k_is)
    (case l53 => k_is)
    (case c53 => k_is)
    (case k53 => k_is)
    (case a54 => k_is)
    (case l54 => k_is)
    (case c54 => k_is)
    (case k54 => k_is)
    (case a55 => k_is)
    (case l55 => k_is)
    (case c55 => k_is)
    (case k55 => k_is)
    (case a56 => k_is)
    (case l56 => k_is)
    (case c56 => k_is)
    (case k56 => k_is)
    (case a57 => k_is)
    (case l57 => k_is)
    (case c57 => k_is)
    (case k57 => k_is)
    (case a58 => k_is)
    (case l58 => k_is)
    (case c58 => k_is)
    (case k58 => k_is)
    (case a59 => k_is)
    (case l59 => k_is)
    (case c59 => k_is)
    (case k59 => k_is)
    (case a60 => k_is)
    (case l60 => k_is)
    (case c60 => k_is)
    (case k60 => k_is)
    (case a61 => k_is)
    (case l61 => k_is)
    (case c61 => k_is)
    (case k61 => k_is)
    (case z_all => k_is)
    (case z_bool => k_is)
    (case z_enumerate => k_is)
    (case z_int => k_is)
    (case z_isinstance => k_is)
    (case z_len => k_is)
    (case z_list => k_is)
    (case z_max => k_is)
    (case z_min => k_is)
    (case z_range => k_is)
    (case z_reversed => k_is)
    (case z_str => k_is)
    (case z_tuple => k_is)
    (case z_CLIPS_MOST => k_is)
    (case z_COVER_MOST => k_is)
    (case z_DISTANCE_MOST => k_is)
    (case z_FRAMES_MOST => k_is)
    (case z_LAYERS_MOST => k_is)
    (case z_LENGTH_MOST => k_is)
    (case z_LETTERS => k_is)
    (case z_LEVEL_MOST => k_is)
    (case z_MODES => k_is)
    (case y_MODES => k_is)
    (case z_MOVES_MOST => k_is)
    (case z_MOVE_FRAME_MOST => k_is)
    (case z_NAME_MOST => k_is)
    (case z_PICTURE_SIDE_MOST => k_is)
    (case z_PLACE_MOST => k_is)
    (case z_SIDE_MOST => k_is)
    (case z_START_MOST => k_is)
    (case z_STEP_MOST => k_is)
    (case z_VALUE_MOST => k_is)
