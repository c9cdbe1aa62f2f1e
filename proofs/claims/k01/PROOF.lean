import PyProof.Rows.All
import Wide.All
import OpenK.AllK
import Wide.FinOn
import HandS.ForMost
import HandS.Evl
import HandS.IsInst
import HandS.TupAny
import HandS.SortInts
import HandS.Conv
import HandS.TupLen
import HandS.TupMul
import HandS.Steps
import PySem.Challenge.RW_onlythedirt_k01_rectangles
set_option Elab.async false
set_option linter.all false
set_option maxRecDepth 100000
set_option maxHeartbeats 4000000
namespace Od
open PySem L2 Evl

/-! ### an object under another description -/
/-- the same objects, the one at a told otherwise -/
structure Swp (P : Program) (w : World) (H' H'' : Hp) (a : Addr) (o u : HO) : Prop where
  at1 : H' a = some o
  eq : H'' = upd H' a u
  nt : ∀ xs, o ≠ .tup xs
  nf : ∀ x y, o ≠ .frz x y
  nb : ∀ ps, o ≠ .tbl ps
  nw : ∀ x, o ≠ .own x
  to : ∀ h, HOk P w H' h → ObjOk P w H'' h a u
theorem Swp.ne {P : Program} {w : World} {H' H'' : Hp} {a b : Addr} {o u x : HO} (S : Swp P w H' H'' a o u) (h : H' b = some x) (d : o ≠ x) : b ≠ a := by
  intro e
  rw [e, S.at1] at h
  exact d (Option.some.inj h)
theorem Swp.hok {P : Program} {w : World} {H' H'' : Hp} {a : Addr} {o u : HO} {h : Heap} (S : Swp P w H' H'' a o u) (k : HOk P w H' h) : HOk P w H'' h := by
  intro b x e
  by_cases hb : b = a
  · subst hb
    have e2 := e
    rw [S.eq, upd_same] at e2
    cases e2
    exact S.to h k
  · have e1 : H' b = some x := by
      rw [S.eq, upd_ne hb] at e
      exact e
    refine (k b x e1).stay (fun c v _ q => q) (fun c q => ?_) (fun c xs q => ?_)
    · rw [S.eq, upd_ne (S.ne q (S.nw _))]
      exact q
    · rw [S.eq, upd_ne (S.ne q (S.nt _))]
      exact q
theorem Swp.unR {P : Program} {w : World} {H H' H'' : Hp} {a : Addr} {o u : HO} {h h' : Heap} {fs ex : List Addr} (S : Swp P w H' H'' a o u) (k : Un fs ex H H' h h') : Un fs ex H H'' h h' := by
  refine ⟨k.keep, k.slot, fun b x q n hx => ?_, k.there, fun b xs q => ?_, fun b x y q => ?_, fun b ps q => ?_⟩
  · have e := k.free b x q n hx
    rw [S.eq, upd_ne ?_]
    · exact e
    · intro z
      rw [z, S.at1] at e
      cases e
  · have e := k.tups b xs q
    rw [S.eq, upd_ne (S.ne e (S.nt _))]
    exact e
  · have e := k.frzs b x y q
    rw [S.eq, upd_ne (S.ne e (S.nf _ _))]
    exact e
  · obtain ⟨m, e⟩ := k.tbls b ps q
    refine ⟨m, ?_⟩
    rw [S.eq, upd_ne (S.ne e (S.nb _))]
    exact e
theorem Swp.unL {P : Program} {w : World} {H H1 H2 : Hp} {a : Addr} {o u : HO} {h h' : Heap} {fs ex : List Addr} (S : Swp P w H H1 a o u) (k : Un fs ex H1 H2 h h') : Un fs ex H H2 h h' := by
  have z : ∀ b, H b = none → H1 b = none := fun b n => by
    rw [S.eq, upd_ne ?_]
    · exact n
    · intro z
      rw [z, S.at1] at n
      cases n
  refine ⟨fun b x q n => k.keep b x q (z b n), fun b x q n => k.slot b x q (z b n), fun b x q n => k.free b x q (z b n), k.there, fun b xs q => k.tups b xs ?_, fun b x y q => k.frzs b x y ?_, fun b ps q => k.tbls b ps ?_⟩
  · rw [S.eq, upd_ne (S.ne q (S.nt _))]
    exact q
  · rw [S.eq, upd_ne (S.ne q (S.nf _ _))]
    exact q
  · rw [S.eq, upd_ne (S.ne q (S.nb _))]
    exact q
theorem Swp.env {P : Program} {w : World} {K : PySem.W.Frag} {mg : Str → Option Value} {base : Heap} {A : Around} {outer : List Env} {s : Shared} {H H1 : Hp} {a : Addr} {o u : HO}
    (S : Swp P w H H1 a o u) (e : Env0 P w K mg base A outer s H) : Env0 P w K mg base A outer s H1 := by
  have z : ∀ b, H b = none → H1 b = none := fun b n => by
    rw [S.eq, upd_ne ?_]
    · exact n
    · intro z
      rw [z, S.at1] at n
      cases n
  exact ⟨e.frames, e.mod, fun b x q => ⟨(e.bs b x q).1, z b (e.bs b x q).2⟩, e.bsz, e.funs, fun b hb => z b (e.frf b hb), S.hok e.hok, e.bare⟩

/-- behind a call the object at a is told otherwise -/
theorem CE.swp {P : Program} {w : World} {outer : List Env} {H : Hp} {s s' : Shared} {Q : VK} {u : Value}
    (h : CE outer P w H s (fun v H' => ∃ H'' a o x, Swp P w H' H'' a o x ∧ Q v H'') u s') : CE outer P w H s Q u s' := by
  obtain ⟨v, H', h1, h2, h3, h4, h5, H'', a, o, x, S, q⟩ := h
  exact ⟨v, H'', h1, h2, S.unR h3, S.hok h4, h5, q⟩
/-- a def's promise, its answer's object told otherwise -/
theorem FnOk.out {P : Program} {w : World} {K : PySem.W.Frag} {mg : Str → Option Value} {base : Heap} {k : Nat} {f : Addr} {fd : FuncData} {ps : List Str} {sp sp' : Sp} (F : FnOk P w K mg base CX0 k f fd ps sp)
    (hl : ∀ vs H Q E, sp' vs H Q E → vs.length = ps.length)
    (h : ∀ vs H Q E, sp' vs H Q E → sp vs H (fun v H' => ∃ H'' a o x, Swp P w H' H'' a o x ∧ Q v H'') E) : FnOk P w K mg base CX0 k f fd ps sp' := by
  refine ⟨hl, fun A outer s H args us vs Q E hr he hb hv hs => ?_⟩
  refine codeAny_mono (F.run A outer s H args us vs _ E hr he hb hv (h _ _ _ _ hs)) ?_
  intro r s' q
  match r, q with
  | .ok (.ret u), q => exact CE.swp q
  | .error e, q => exact q
end Od

namespace Od
open PySem L2 Evl

/-! ### the law's deck: a list whose state is not told -/
def deckV (n k seed : Int) (l : Addr) (c : Int) : List V := [.int n, .int k, .int seed, .ref l, .int c]
def IsDeck (l : Addr) (xs : List V) : Prop := ∃ n k seed c, xs = deckV n k seed l c ∧ 0 ≤ n ∧ 0 ≤ k ∧ 0 ≤ seed ∧ seed < 2147483647
def deckO (a l : Addr) : HO := .ext fun h => ∃ xs, IsDeck l xs ∧ ∃ (its : List Value) (n : Nat), Vals xs its ∧ h.get? a = some { cls := .type "list", data := .seq its.toArray n }
def DeckAt (K : PySem.W.Frag) (H : Hp) (a : Addr) : Prop := ∃ (l : Addr) (ns : List Int), H a = some (deckO a l) ∧ H l = some (.lst (ns.map V.int))
theorem DeckAt.mono {K : PySem.W.Frag} {H H' : Hp} {a : Addr} (e : Ex H H') (h : DeckAt K H a) : DeckAt K H' a := by
  obtain ⟨l, ns, h1, h2⟩ := h
  exact ⟨l, ns, e _ _ h1, e _ _ h2⟩
theorem isDeck_len {l : Addr} {xs : List V} (h : IsDeck l xs) : xs.length ≤ sizeLine := by
  obtain ⟨n, k, seed, c, rfl, _⟩ := h
  show 5 ≤ sizeLine
  decide
theorem deck_ok {P : Program} {w : World} {H : Hp} {h : Heap} {a l : Addr} {xs : List V} (d : IsDeck l xs) (k : ∃ (its : List Value) (n : Nat), Vals xs its ∧ h.get? a = some { cls := .type "list", data := .seq its.toArray n }) :
    ObjOk P w H h a (deckO a l) := by
  obtain ⟨its, n, r, e⟩ := k
  refine ⟨⟨xs, d, its, n, r, e⟩, ⟨_, e⟩, fun h1 h2 p q => ?_⟩
  obtain ⟨ys, d1, its1, n1, r1, e1⟩ := p
  exact ⟨ys, d1, its1, n1, r1, q _ e1⟩
/-- an open deck is closed -/
theorem swp_close {P : Program} {w : World} {H : Hp} {a l : Addr} {xs : List V} (h : H a = some (.lst xs)) (d : IsDeck l xs) : Swp P w H (upd H a (deckO a l)) a (.lst xs) (deckO a l) := by
  refine ⟨h, rfl, fun _ e => (nomatch e), fun _ _ e => (nomatch e), fun _ e => (nomatch e), fun _ e => (nomatch e), fun hp k => ?_⟩
  obtain ⟨_, its, n, r, e⟩ := k a _ h
  exact deck_ok d ⟨its, n, r, e⟩
/-- a closed deck is opened -/
theorem swp_open {P : Program} {w : World} {H : Hp} {h : Heap} {a l : Addr} (ha : H a = some (deckO a l)) (k : HOk P w H h) :
    ∃ xs, IsDeck l xs ∧ HOk P w (upd H a (.lst xs)) h := by
  obtain ⟨⟨xs, d, its, n, r, e⟩, _, _⟩ := k a _ ha
  refine ⟨xs, d, fun b x q => ?_⟩
  by_cases hb : b = a
  · subst hb
    rw [upd_same] at q
    cases q
    exact ⟨isDeck_len d, its, n, r, e⟩
  · rw [upd_ne hb] at q
    refine (k b x q).stay (fun c v _ q => q) (fun c q => ?_) (fun c xs q => ?_)
    · rw [upd_ne ?_]
      · exact q
      · intro z
        rw [z, ha] at q
        cases q
    · rw [upd_ne ?_]
      · exact q
      · intro z
        rw [z, ha] at q
        cases q
theorem un_open {H H2 : Hp} {a l : Addr} {xs : List V} {h h' : Heap} {fs ex : List Addr} (ha : H a = some (deckO a l)) (k : Un fs ex (upd H a (.lst xs)) H2 h h') : Un fs ex H H2 h h' := by
  have z : ∀ b, H b = none → upd H a (.lst xs) b = none := fun b n => by
    rw [upd_ne ?_]
    · exact n
    · intro z
      rw [z, ha] at n
      cases n
  refine ⟨fun b x q n => k.keep b x q (z b n), fun b x q n => k.slot b x q (z b n), fun b x q n => k.free b x q (z b n), k.there, fun b xs q => k.tups b xs ?_, fun b x y q => k.frzs b x y ?_, fun b ps q => k.tbls b ps ?_⟩
  · rw [upd_ne (ne_of q ha (fun e => nomatch e))]
    exact q
  · rw [upd_ne (ne_of q ha (fun e => nomatch e))]
    exact q
  · rw [upd_ne (ne_of q ha (fun e => nomatch e))]
    exact q
theorem env_open {P : Program} {w : World} {K : PySem.W.Frag} {mg : Str → Option Value} {base : Heap} {A : Around} {outer : List Env} {s : Shared} {H : Hp} {a l : Addr} {xs : List V} (ha : H a = some (deckO a l))
    (e : Env0 P w K mg base A outer s H) (hok : HOk P w (upd H a (.lst xs)) s.heap) : Env0 P w K mg base A outer s (upd H a (.lst xs)) := by
  have z : ∀ b, H b = none → upd H a (.lst xs) b = none := fun b n => by
    rw [upd_ne ?_]
    · exact n
    · intro z
      rw [z, ha] at n
      cases n
  exact ⟨e.frames, e.mod, fun b x q => ⟨(e.bs b x q).1, z b (e.bs b x q).2⟩, e.bsz, e.funs, fun b hb => z b (e.frf b hb), hok, e.bare⟩

/-- how a def that changes the open deck is told: n with 0 ≤ n < b -/
def spDrawO : Sp := fun vs H Q _ => ∃ (a : Addr) (b : Int) (l : Addr) (ns : List Int) (xs : List V), vs = [.ref a, .int b] ∧ H a = some (.lst xs) ∧ IsDeck l xs ∧ H l = some (.lst (ns.map V.int)) ∧ l ≠ a ∧ 0 < b ∧ b < 1073741824 ∧
  ∀ n ys, 0 ≤ n → n < b → IsDeck l ys → Q (.int n) (upd H a (.lst ys))
/-- .. the closed one -/
def spDraw (K : PySem.W.Frag) : Sp := fun vs H Q _ => ∃ a b, vs = [.ref a, .int b] ∧ DeckAt K H a ∧ 0 < b ∧ b < 1073741824 ∧ ∀ n, 0 ≤ n → n < b → Q (.int n) H
theorem upd_back {H : Hp} {a : Addr} {o u : HO} (h : H a = some o) : upd (upd H a u) a o = H := by
  funext b
  unfold upd
  by_cases e : b = a
  · simp [e, h]
  · simp [e]
theorem draw_closed {P : Program} {w : World} {K : PySem.W.Frag} {mg : Str → Option Value} {base : Heap} {k : Nat} {f : Addr} {fd : FuncData} {ps : List Str} (F : FnOk P w K mg base CX0 k f fd ps spDrawO) (hp : ps.length = 2) :
    FnOk P w K mg base CX0 k f fd ps (spDraw K) := by
  refine ⟨fun vs H Q E h => ?_, fun A outer s H args us vs Q E hr he hb hv hs => ?_⟩
  · obtain ⟨a, b, rfl, _⟩ := h
    exact hp.symm
  · obtain ⟨a, b, rfl, ⟨l, ns, h1, h2⟩, b0, b1, q⟩ := hs
    obtain ⟨xs, d, hok⟩ := swp_open h1 he.hok
    have hla : l ≠ a := ne_of h2 h1 (fun e => nomatch e)
    refine codeAny_mono (F.run A outer s (upd H a (.lst xs)) args us _ (fun v H' => ∃ ys, H' = upd H a (.lst ys) ∧ IsDeck l ys ∧ Q v H) E hr (env_open h1 he hok) hb hv ?_) ?_
    · refine ⟨a, b, l, ns, xs, rfl, upd_same, d, by rw [upd_ne hla]; exact h2, hla, b0, b1, fun n ys n0 n1 d2 => ⟨ys, ?_, d2, q n n0 n1⟩⟩
      rw [upd_upd]
    · intro r s' q2
      match r, q2 with
      | .ok (.ret u), q2 =>
        obtain ⟨v, H', c1, c2, c3, c4, c5, ys, rfl, d2, q3⟩ := q2
        have S := swp_close (P := P) (w := w) (H := upd H a (.lst ys)) (a := a) (l := l) upd_same d2
        have e := upd_back (u := .lst ys) h1
        rw [e] at S
        exact ⟨v, H, c1, c2, un_open h1 (S.unR c3), S.hok c4, c5, q3⟩
      | .error e, q2 => exact q2
/-- the def that makes the deck: open, closed -/
def spDeckO (K : PySem.W.Frag) : Sp := fun vs H Q _ => ∃ (a : Addr) (ns : List Int), vs = [.ref a] ∧ SqL K H a (ns.map V.int) ∧ ns.length ≤ 63 ∧ ∀ p l ys H', H p = none → Ex H H' → H' p = some (.lst ys) → IsDeck l ys → l ≠ p → H' l = some (.lst (ns.map V.int)) → Q (.ref p) H'
def spDeck (K : PySem.W.Frag) : Sp := fun vs H Q _ => ∃ (a : Addr) (ns : List Int), vs = [.ref a] ∧ SqL K H a (ns.map V.int) ∧ ns.length ≤ 63 ∧ ∀ p H', Ex H H' → DeckAt K H' p → Q (.ref p) H'
theorem deck_closed {P : Program} {w : World} {K : PySem.W.Frag} {mg : Str → Option Value} {base : Heap} {k : Nat} {f : Addr} {fd : FuncData} {ps : List Str} (F : FnOk P w K mg base CX0 k f fd ps (spDeckO K)) (hp : ps.length = 1) :
    FnOk P w K mg base CX0 k f fd ps (spDeck K) := by
  refine FnOk.out F (fun vs H Q E h => ?_) fun vs H Q E h => ?_
  · obtain ⟨a, ns, rfl, _⟩ := h
    exact hp.symm
  · obtain ⟨a, ns, rfl, h1, h2, q⟩ := h
    refine ⟨a, ns, rfl, h1, h2, fun p l ys H' hp e hy d hl h3 => ⟨upd H' p (deckO p l), p, .lst ys, deckO p l, swp_close hy d, q p _ ?_ ⟨l, ns, upd_same, by rw [upd_ne hl]; exact h3⟩⟩⟩
    exact Ex.mut e hp
end Od

namespace Od
open PySem L2 Evl

/-! ### what kind a value is -/
inductive Kn (H : Hp) : V → String → Prop
  | non : Kn H .non "NoneType"
  | bl (b : Bool) : Kn H (.bl b) "bool"
  | int (i : Int) : Kn H (.int i) "int"
  | str (x : Str) : Kn H (.str x) "str"
  | tup {a : Addr} {xs : List V} (h : H a = some (.tup xs)) : Kn H (.ref a) "tuple"
  | lst {a : Addr} {xs : List V} (h : H a = some (.lst xs)) : Kn H (.ref a) "list"
theorem Kn.mono {H H' : Hp} {v : V} {T : String} (e : Ex H H') (k : Kn H v T) : Kn H' v T := by
  cases k with
  | non => exact .non
  | bl b => exact .bl b
  | int i => exact .int i
  | str x => exact .str x
  | tup h => exact .tup (e _ _ h)
  | lst h => exact .lst (e _ _ h)
theorem Kn.ty {K : PySem.W.Frag} {H : Hp} {v : V} {T : String} (k : Kn H v T) : TyX K H v (.type T) := by
  cases k with
  | non => exact .base .non
  | bl b => exact .base (.bl b)
  | int i => exact .base (.int i)
  | str x => exact .base (.str x)
  | tup h => exact .base (.tup h)
  | lst h => exact .base (.lst h)
/-- isinstance of such a value -/
def isA (T n : String) : Bool := T == n || (T == "bool" && n == "int")
theorem kit_int {H : Hp} {v : V} {T : String} (k : Kn H v T) : kitB T "int" = some (isA T "int") := by
  cases k <;> decide +kernel
theorem kit_bool {H : Hp} {v : V} {T : String} (k : Kn H v T) : kitB T "bool" = some (isA T "bool") := by
  cases k <;> decide +kernel
theorem kit_tuple {H : Hp} {v : V} {T : String} (k : Kn H v T) : kitB T "tuple" = some (isA T "tuple") := by
  cases k <;> decide +kernel
theorem kit_list {H : Hp} {v : V} {T : String} (k : Kn H v T) : kitB T "list" = some (isA T "list") := by
  cases k <;> decide +kernel
theorem kit_str {H : Hp} {v : V} {T : String} (k : Kn H v T) : kitB T "str" = some (isA T "str") := by
  cases k <;> decide +kernel
theorem isi {K : PySem.W.Frag} {H : Hp} {v : V} {T n : String} {b : Bool} {Q : VK} (k : Kn H v T) (h : kitB T n = some b) (q : Q (.bl b) H) : rIsi K [v, .ty n] H Q :=
  ⟨v, _, _, _, b, rfl, .ty n, k.ty, kit_ty h, q⟩
def isI : V → Bool
  | .int _ => true
  | _ => false
theorem Kn.whole {H : Hp} {v : V} {T : String} (k : Kn H v T) : (isA T "int" && !isA T "bool") = isI v := by
  have h1 : (isA "NoneType" "int" && !isA "NoneType" "bool") = false := by decide +kernel
  have h2 : (isA "bool" "int" && !isA "bool" "bool") = false := by decide +kernel
  have h3 : (isA "int" "int" && !isA "int" "bool") = true := by decide +kernel
  have h4 : (isA "str" "int" && !isA "str" "bool") = false := by decide +kernel
  have h5 : (isA "tuple" "int" && !isA "tuple" "bool") = false := by decide +kernel
  have h6 : (isA "list" "int" && !isA "list" "bool") = false := by decide +kernel
  cases k with
  | non => exact h1
  | bl b => exact h2
  | int i => exact h3
  | str x => exact h4
  | tup h => exact h5
  | lst h => exact h6

/-- a comprehension's turn without a test -/
theorem lcY {σ : L2.St} {H : Hp} {A B : Hp → Prop} (h : A H) : tYes σ H (fun b H3 => if b = true then A H3 else B H3) := by
  show if true = true then A H else B H
  exact iteT h
/-- a def that is called: where it stands, what it promises -/
structure Def (P : Program) (w : World) (K : PySem.W.Frag) (mg : Str → Option Value) (base : Heap) (CX : CXT) (x : Str) (k : Nat) (ps : List Str) (sp : Sp) where
  f : Addr
  fd : FuncData
  ok : FnOk P w K mg base CX k f fd ps sp
  mgf : mg x = some (.ref f)
  kp : PySem.W.keepIn K (.ref f) = true
  b : L2.Binds K fd ps []
end Od

namespace Od
open PySem L2 Evl

theorem bt_isinstance : bootBuiltins "isinstance" = some (.builtin "isinstance") := by decide +kernel
theorem bt_len : bootBuiltins "len" = some (.builtin "len") := by decide +kernel
theorem bt_abs : bootBuiltins "abs" = some (.builtin "abs") := by decide +kernel
theorem bt_all : bootBuiltins "all" = some (.builtin "all") := by decide +kernel
theorem bt_any : bootBuiltins "any" = some (.builtin "any") := by decide +kernel
theorem bt_sorted : bootBuiltins "sorted" = some (.builtin "sorted") := by decide +kernel
theorem bt_min : bootBuiltins "min" = some (.builtin "min") := by decide +kernel
theorem bt_max : bootBuiltins "max" = some (.builtin "max") := by decide +kernel
theorem bt_sum : bootBuiltins "sum" = some (.builtin "sum") := by decide +kernel
theorem bt_repr : bootBuiltins "repr" = some (.builtin "repr") := by decide +kernel
theorem bt_int : bootBuiltins "int" = some (.type "int") := by decide +kernel
theorem bt_bool : bootBuiltins "bool" = some (.type "bool") := by decide +kernel
theorem bt_tuple : bootBuiltins "tuple" = some (.type "tuple") := by decide +kernel
theorem bt_list : bootBuiltins "list" = some (.type "list") := by decide +kernel
theorem bt_str : bootBuiltins "str" = some (.type "str") := by decide +kernel
theorem bt_range : bootBuiltins "range" = some (.type "range") := by decide +kernel
theorem bt_enumerate : bootBuiltins "enumerate" = some (.type "enumerate") := by decide +kernel
theorem bt_zip : bootBuiltins "zip" = some (.type "zip") := by decide +kernel
theorem bt_ValueError : bootBuiltins "ValueError" = some (.type "ValueError") := by decide +kernel
theorem pickV {xs : List V} {i : Int} (h0 : 0 ≤ i) (h1 : i < xs.length) : ∃ v, v ∈ xs ∧ atI xs i = some v := by
  obtain ⟨m, rfl⟩ := Int.eq_ofNat_of_zero_le h0
  have hm : m < xs.length := by omega
  exact ⟨xs[m], List.getElem_mem hm, atI_nat (List.getElem?_eq_getElem hm)⟩
theorem pickI {ns : List Int} {i : Int} (h0 : 0 ≤ i) (h1 : i < ns.length) : ∃ w, w ∈ ns ∧ atI (ns.map V.int) i = some (.int w) := by
  obtain ⟨m, rfl⟩ := Int.eq_ofNat_of_zero_le h0
  have hm : m < ns.length := by omega
  exact ⟨ns[m], List.getElem_mem hm, atI_nat (by rw [List.getElem?_map, List.getElem?_eq_getElem hm]; rfl)⟩
theorem ex_free {H H' : Hp} {p : Addr} (e : Ex H H') (h : H' p = none) : H p = none := fresh_back e h
/-- a rectangle of ints stands at p -/
def RectAt (H : Hp) (p : Addr) (l t r b : Int) : Prop := H p = some (.tup [.int l, .int t, .int r, .int b])
theorem cutV_whole {xs : List V} {lo hi : Option Int} (h : HT.sIx xs.length 0 lo = 0 ∧ HT.sIx xs.length xs.length hi = xs.length) : cutV xs lo hi = xs := by
  unfold cutV
  rw [h.1, h.2]
  simp
structure RSlS (K : PySem.W.Frag) (x : V) (lo hi : Option Int) (H : Hp) (Q : VK) : Prop where
  h : rSlA K x lo hi H Q
structure RCatS (K : PySem.W.Frag) (x y : V) (H : Hp) (Q : VK) : Prop where
  h : rCatA K x y H Q
theorem slA {K : PySem.W.Frag} {H : Hp} {a : Addr} {xs : List V} {lo hi : Option Int} {Q : VK} (h : H a = some (.tup xs)) (q : ∀ p H', Ex H H' → H' p = some (.tup (cutV xs lo hi)) → Q (.ref p) H') : RSlS K (.ref a) lo hi H Q := by
  refine .mk ?_
  refine ⟨a, xs, rfl, SqT.of h, fun hw => ?_, fun _ p hp => q p _ (Ex.new hp) upd_same⟩
  refine q a H (Ex.refl _) ?_
  rw [cutV_whole hw]
  exact h
theorem catA {K : PySem.W.Frag} {H : Hp} {a b : Addr} {xs ys : List V} {Q : VK} (h : H a = some (.tup xs)) (h' : H b = some (.tup ys)) (hl : xs.length + ys.length ≤ sizeLine) (q : ∀ p H', Ex H H' → H' p = some (.tup (xs ++ ys)) → Q (.ref p) H') : RCatS K (.ref a) (.ref b) H Q := by
  refine .mk ?_
  refine ⟨a, b, xs, ys, rfl, rfl, SqT.of h, SqT.of h', hl, fun e => ?_, fun _ e => ?_, fun _ _ p hp => q p _ (Ex.new hp) upd_same⟩
  · refine q b H (Ex.refl _) ?_
    rw [e]
    exact h'
  · refine q a H (Ex.refl _) ?_
    rw [e, List.append_nil]
    exact h
theorem mem_cutV {xs : List V} {lo hi : Option Int} {x : V} (h : x ∈ cutV xs lo hi) : x ∈ xs := List.mem_of_mem_drop (List.mem_of_mem_take h)
end Od

namespace Od
open PySem L2 Evl
/-! ### the rules with the written part told -/
section
variable {X : Cx} (K : PySem.W.Frag)
theorem kisi (h : X.K = K := by rfl) : CallR X (.builtin "isinstance") (rIsi K) := by
  subst h
  exact call_isi
theorem kixL (h : X.K = K := by rfl) : IxR X (rIxL K) := by
  subst h
  exact ix_list
theorem kixT (h : X.K = K := by rfl) : IxR X (rIxT K) := by
  subst h
  exact ix_tup
theorem kixS (h : X.K = K := by rfl) : IxR X (rIx K) := by
  subst h
  exact ix_seq
theorem kslL (h : X.K = K := by rfl) : SlR X (rSlL K) := by
  subst h
  exact sl_list
theorem kslA (h : X.K = K := by rfl) : SlR X (RSlS K) := by
  subst h
  exact fun pins s σ H x v vl vu lo hi sl Q I r hs pl pu q => sl_tupA pins s σ H x v vl vu lo hi sl Q I r hs pl pu q.h
theorem kcatA (h : X.K = K := by rfl) : OpR X (binaryOp .Add) (RCatS K) := by
  subst h
  exact fun pins s σ H x y v u Q I rx ry q => op_catA pins s σ H x y v u Q I rx ry q.h
theorem krepT (h : X.K = K := by rfl) : OpR X (binaryOp .Mult) (rRepT K) := by
  subst h
  exact op_repT
theorem keqD (hu : X.A.units + 64 < cLine) (h : X.K = K := by rfl) : OpR X (compareOp .Eq) (rEqD K) := by
  subst h
  exact op_eqD hu
theorem kneD (hu : X.A.units + 64 < cLine) (h : X.K = K := by rfl) : OpR X (compareOp .NotEq) (rNeD K) := by
  subst h
  exact op_neD hu
theorem kin (h : X.K = K := by rfl) : OpR X (compareOp .In) (rIn K false) := by
  subst h
  exact op_in_seq
theorem knotin (h : X.K = K := by rfl) : OpR X (compareOp .NotIn) (rIn K true) := by
  subst h
  exact op_notIn_seq
theorem klen (h : X.K = K := by rfl) : CallR X (.builtin "len") (rLenS K) := by
  subst h
  exact call_len_seq
theorem klist (h : X.K = K := by rfl) : CallR X (.type "list") (rListS K) := by
  subst h
  exact call_list_of
def rTupS (K : PySem.W.Frag) : List V → Hp → VK → Prop := fun xs H Q => ∃ p ys, xs = [.ref p] ∧ ((SqL K H p ys ∧ ∀ l, H l = none → Q (.ref l) (upd H l (.tup ys))) ∨ (SqT K H p ys ∧ Q (.ref p) H))
theorem ktuple (h : X.K = K := by rfl) : CallR X (.type "tuple") (rTupS K) := by
  subst h
  exact call_tuple_of
theorem ksum (hc : X.calm = true) (h : X.K = K := by rfl) : CallR X (.builtin "sum") (rSum K) := by
  subst h
  exact cr_sum hc
theorem kmax (hc : X.calm = true) (h : X.K = K := by rfl) : CallR X (.builtin "max") (rMax K) := by
  subst h
  exact cr_max hc
theorem kmin (hc : X.calm = true) (h : X.K = K := by rfl) : CallR X (.builtin "min") (rMin K) := by
  subst h
  exact cr_min hc
theorem kall (hc : X.calm = true) (h : X.K = K := by rfl) : CallR X (.builtin "all") (rAll K) := by
  subst h
  exact cr_all hc
theorem kany (hc : X.calm = true) (h : X.K = K := by rfl) : CallR X (.builtin "any") (rAny K) := by
  subst h
  exact cr_any hc
theorem ksorted (h : X.K = K := by rfl) : CallR X (.builtin "sorted") (rSortedI K) := by
  subst h
  exact cr_sortedI
variable {tg : Expr}
theorem kpiL {l : Expr} {tl : TE} (hl : PE X l tl) (h : X.K = K := by rfl) : PI X tg l (iList K tl) := by
  subst h
  exact pi_list hl
theorem kpiT {l : Expr} {tl : TE} (hl : PE X l tl) (h : X.K = K := by rfl) : PI X tg l (iTup K tl) := by
  subst h
  exact pi_tup hl
theorem kpgT {es : List Expr} {k : Nat} {t : TGs} {n : Nat} {pos : Pos} (hc : X.calm = true) (hh : PGs X es t) (hn : (assignEach es X.env).length = n := by rfl) (hst : (assignEach es X.env).findIdx? (·.1) = none := by rfl) (h : X.K = K := by rfl) : PG X (.Tuple es k pos) (gTup K n t) := by
  subst h
  exact pg_tup hc hh hn hst
theorem ktru {a : Expr} {ta : TE} (ha : PE X a ta) (he : ∀ whole, isTrue a X.env whole = (do let v ← whole; standAt a.pos; holding [v] (truthy v)) := by intro _; rfl) (h : X.K = K := by rfl) : PT X a (L2.tTru K ta) := by
  subst h
  exact pt_truth ha he
end
end Od

namespace Od
open PySem L2 Evl
def top (i : Nat) : Stmt := PySem.Challenge.pw_onlythedirt_k01_rectangles.main.body.getD i (.Pass ⟨0, 0, 0, 0⟩)
structure Txt (K : PySem.W.Frag) (mg : Str → Option Value) : Prop where
  abs_ : mg "abs" = none
  all_ : mg "all" = none
  bool_ : mg "bool" = none
  int_ : mg "int" = none
  isinstance_ : mg "isinstance" = none
  len_ : mg "len" = none
  list_ : mg "list" = none
  tuple_ : mg "tuple" = none
section
variable {P : Program} {w : World} {K : PySem.W.Frag} {mg : Str → Option Value} {base : Heap}
abbrev s_is_whole : Stmt := top 1
theorem sc_is_whole : FnScope ["value"] ["value"] (defScope s_is_whole) := ⟨rfl, rfl, rfl, by decide +kernel, rfl, by decide +kernel, by decide +kernel⟩
def spWhole : Sp := fun vs H Q _ => ∃ v T, vs = [v] ∧ Kn H v T ∧ Q (.bl (isI v)) H
theorem ok_is_whole {f : Addr} {fd : FuncData} (F : Fun K "is_whole" "is_whole" s_is_whole f fd) (T : Txt K mg) : FnOk P w K mg base CX0 1 f fd ["value"] spWhole := by
  refine F.ok sc_is_whole (fun vs H Q E h => ?_) (fun cdv A outer s H vs Q E hr h => ?_)
  · obtain ⟨v, T, rfl, _⟩ := h
    rfl
  · obtain ⟨v, T', rfl, kn, q⟩ := h
    refine ⟨_, (pss_one (ps_ret (pe_and (pe_callB (kisi K) (by rfl) T.isinstance_ bt_isinstance (pa_cons (pv 0) (pa_cons (pe_bltn (v := .ty "int") (by rfl) T.int_ bt_int rfl) pa_nil))) (pe_one (pe_not (pe_callB (kisi K) (by rfl) T.isinstance_ bt_isinstance (pa_cons (pv 0) (pa_cons (pe_bltn (v := .ty "bool") (by rfl) T.bool_ bt_bool rfl) pa_nil)))))))), ?_⟩
    refine ⟨v, rfl, v, _, _, _, _, rfl, .ty _, kn.ty, kit_ty (kit_int kn), _, rfl, ?_⟩
    refine ite2 (fun e => ?_) (fun e => ?_)
    · refine ⟨v, rfl, v, _, _, _, _, rfl, .ty _, kn.ty, kit_ty (kit_bool kn), _, rfl, ?_⟩
      have z := kn.whole
      rw [e] at z
      rw [← z] at q
      exact q
    · have z := kn.whole
      rw [eq_false_of_ne_true e] at z
      rw [← z] at q
      exact q

abbrev s_is_rectangle : Stmt := top 3
theorem sc_is_rectangle : FnScope ["value", "left", "top", "right", "bottom", "item"] ["value"] (defScope s_is_rectangle) := ⟨rfl, rfl, rfl, by decide +kernel, rfl, by decide +kernel, by decide +kernel⟩
/-- the answer of is_rectangle -/
def rectL : List V → Bool
  | [.int l, .int t, .int r, .int b] => decide (l < r) && decide (t < b)
  | _ => false
def rectV (H : Hp) : V → Bool
  | .ref a => match H a with
    | some (.tup xs) => rectL xs
    | _ => false
  | _ => false
theorem rectV_tup {H : Hp} {a : Addr} {xs : List V} (h : H a = some (.tup xs)) : rectV H (.ref a) = rectL xs := by
  simp only [rectV, h]
theorem rectL_len {xs : List V} (h : xs.length ≠ 4) : rectL xs = false := by
  unfold rectL
  split
  · exact absurd rfl h
  · rfl
theorem rectL_int {xs : List V} (h : xs.all isI = false) : rectL xs = false := by
  unfold rectL
  split
  · simp [isI] at h
  · rfl
theorem Kn.notup {H : Hp} {v : V} {T : String} (k : Kn H v T) (h : isA T "tuple" = false) : rectV H v = false := by
  cases k with
  | tup h1 => exact absurd h (by decide +kernel)
  | lst h1 =>
    simp only [rectV, h1]
  | _ => rfl
theorem Kn.istup {H : Hp} {v : V} {T : String} (k : Kn H v T) (h : isA T "tuple" = true) : ∃ a xs, v = .ref a ∧ H a = some (.tup xs) := by
  cases k with
  | tup h1 => exact ⟨_, _, rfl, h1⟩
  | non => exact absurd h (by decide +kernel)
  | bl b => exact absurd h (by decide +kernel)
  | int i => exact absurd h (by decide +kernel)
  | str x => exact absurd h (by decide +kernel)
  | lst h1 => exact absurd h (by decide +kernel)
theorem all_isI : ∀ {xs : List V}, xs.all isI = true → ∃ ns : List Int, xs = ns.map V.int
  | [], _ => ⟨[], rfl⟩
  | x :: xs, h => by
    rw [List.all_cons, Bool.and_eq_true] at h
    obtain ⟨ns, e⟩ := all_isI h.2
    cases x with
    | int i => exact ⟨i :: ns, by rw [e]; rfl⟩
    | _ => simp [isI] at h
theorem four {α : Type} {xs : List α} (h : xs.length = 4) : ∃ a b c d, xs = [a, b, c, d] := by
  match xs, h with
  | [a, b, c, d], _ => exact ⟨a, b, c, d, rfl⟩
/-- what is passed: a value of a known kind; the items of a tuple, too -/
def Item (H : Hp) (v : V) : Prop := (∃ T, Kn H v T) ∧ ∀ a xs, v = .ref a → H a = some (.tup xs) → ∀ x ∈ xs, ∃ T, Kn H x T
def spRect : Sp := fun vs H Q _ => ∃ v, vs = [v] ∧ Item H v ∧ ∀ H', Ex H H' → Q (.bl (rectV H v)) H'
theorem ok_is_rectangle {f : Addr} {fd : FuncData} (F : Fun K "is_rectangle" "is_rectangle" s_is_rectangle f fd) (T : Txt K mg) (D_is_whole : Def P w K mg base CX0 "is_whole" 1 ["value"] spWhole) : FnOk P w K mg base CX0 2 f fd ["value"] spRect := by
  refine F.ok sc_is_rectangle (fun vs H Q E h => ?_) (fun cdv A outer s H vs Q E hr h => ?_)
  · obtain ⟨v, rfl, _⟩ := h
    rfl
  · obtain ⟨v, rfl, ⟨⟨T', kn⟩, ki⟩, q⟩ := h
    refine ⟨_, (pss_cons (ps_if (PW.pt (pw_or (pt_not (pt_val (pe_callB (kisi K) (by rfl) T.isinstance_ bt_isinstance (pa_cons (pv 0) (pa_cons (pe_bltn (v := .ty "tuple") (by rfl) T.tuple_ bt_tuple rfl) pa_nil))))) (pw_or1 (pt_cmpR op_ne (pe_callB (klen K) (by rfl) T.len_ PySem.boot_len (pa_cons (pv 0) pa_nil)) pe_int (nomark _)))))
        (pss_one (ps_ret pe_bl))
        pss_nil)
      (pss_cons (ps_if (pt_not (pt_val (pe_callB (kall K rfl) (by rfl) T.all_ bt_all (pa_cons (pe_lc (own := [("item", 5)]) (tt := tYes) rfl sc_is_rectangle.nd (kpiT K (pv 0)) (blkOk_by (N := ["value", "left", "top", "right", "bottom", "item"]) (sc := defScope s_is_rectangle) (by decide +kernel)) (fun _ _ _ _ _ => (pg_name (i := 5) sc_is_rectangle.nd rfl (by first | exact Or.inl rfl | exact Or.inr rfl))) (fun _ _ _ _ _ => pts_nil) (fun _ _ _ _ _ => (pe_call D_is_whole.ok (hr.mono (by decide)) rfl D_is_whole.mgf D_is_whole.kp D_is_whole.b .nil pass0 (pa_cons (pv 5) pa_nil)))) pa_nil))))
        (pss_one (ps_ret pe_bl))
        pss_nil)
      (pss_cons (ps_asg (pv 0) (kpgT K (n := 4) rfl (pgs_cons (pg_name (i := 1) sc_is_rectangle.nd rfl (by first | exact Or.inl rfl | exact Or.inr rfl)) (pgs_cons (pg_name (i := 2) sc_is_rectangle.nd rfl (by first | exact Or.inl rfl | exact Or.inr rfl)) (pgs_cons (pg_name (i := 3) sc_is_rectangle.nd rfl (by first | exact Or.inl rfl | exact Or.inr rfl)) (pgs_cons (pg_name (i := 4) sc_is_rectangle.nd rfl (by first | exact Or.inl rfl | exact Or.inr rfl)) pgs_nil))))))
      (pss_one (ps_ret (pe_and (pe_cmpR op_lt (pv 1) (pv 3) (nomark _)) (pe_one (pe_cmpR op_lt (pv 2) (pv 4) (nomark _))))))))), ?_⟩
    refine ⟨v, rfl, v, _, _, _, _, rfl, .ty _, kn.ty, kit_ty (kit_tuple kn), _, rfl, ?_⟩
    cases ct : isA T' "tuple" with
    | false =>
      rw [kn.notup ct] at q
      refine iteT ?_
      exact iteT (q _ (Ex.refl _))
    | true =>
      obtain ⟨a, xs, rfl, ha⟩ := kn.istup ct
      rw [rectV_tup ha] at q
      refine iteF ?_
      refine ⟨_, rfl, a, xs, rfl, .inr (SqT.of ha), rfl, _, rfl, ?_⟩
      by_cases h4 : xs.length = 4
      · have e4 : decide (V.int (xs.length : Int) = V.int 4) = true := decide_eq_true (by rw [h4]; rfl)
        rw [e4]
        refine iteF ?_
        refine ⟨_, rfl, a, rfl, ⟨xs, SqT.of ha⟩, fun D hD => lc_tup (xs := xs) (fun i H' => Ex H H' ∧ H' D = some (.lst (((xs.take i).map isI).map V.bl))) ⟨Ex.new hD, upd_same⟩ (fun i H' _ p => SqT.of (p.1 _ _ ha)) ?_ ?_⟩
        · intro i x H' hx p
          refine ⟨rfl, ?_⟩
          refine lcY ?_
          obtain ⟨Tx, kx⟩ := ki a xs rfl ha x (List.mem_of_getElem? hx)
          refine ⟨x, rfl, x, Tx, rfl, kx.mono p.1, ?_⟩
          have hl : (xs.take i).length ≤ 4 := by rw [List.length_take]; omega
          refine ⟨_, p.2, ?_, p.1.mut hD, ?_⟩
          · rw [List.length_map, List.length_map]
            exact Nat.lt_of_le_of_lt hl (by decide)
          · rw [upd_same, List.take_add_one, hx]
            simp
        · intro H' p
          rw [List.take_length] at p
          refine ⟨D, xs.map isI, rfl, SqL.of p.2, _, rfl, ?_⟩
          have ea : (xs.map isI).all id = xs.all isI := by rw [List.all_map]; rfl
          rw [ea]
          cases hall : xs.all isI with
          | false =>
            rw [rectL_int hall] at q
            refine iteT ?_
            exact q _ p.1
          | true =>
            refine iteF ?_
            obtain ⟨ns, rfl⟩ := all_isI hall
            rw [List.length_map] at h4
            obtain ⟨l, t, r, b, rfl⟩ := four h4
            refine ⟨_, rfl, a, _, rfl, SqT.of (p.1 _ _ ha), rfl, _, _, rfl, _, _, rfl, _, _, rfl, _, _, rfl, rfl, ?_⟩
            refine ⟨_, rfl, _, rfl, _, _, rfl, rfl, _, rfl, ?_⟩
            refine ite2 (fun e => ?_) (fun e => ?_)
            · refine ⟨_, rfl, _, rfl, _, _, rfl, rfl, ?_⟩
              have q2 := q _ p.1
              have e2 : rectL (List.map V.int [l, t, r, b]) = decide (t < b) := by
                show (decide (l < r) && decide (t < b)) = decide (t < b)
                rw [e, Bool.true_and]
              rw [e2] at q2
              exact q2
            · have q2 := q _ p.1
              have e2 : rectL (List.map V.int [l, t, r, b]) = false := by
                show (decide (l < r) && decide (t < b)) = false
                rw [eq_false_of_ne_true e, Bool.false_and]
              rw [e2] at q2
              exact q2
      · have e4 : decide (V.int (xs.length : Int) = V.int 4) = false := decide_eq_false (fun e => h4 (by injection e with e; omega))
        rw [e4]
        rw [rectL_len h4] at q
        refine iteT ?_
        exact q _ (Ex.refl _)

abbrev s_l_deck : Stmt := top 5
theorem sc_l_deck : FnScope ["script", "seed", "cell"] ["script"] (defScope s_l_deck) := ⟨rfl, rfl, rfl, by decide +kernel, rfl, by decide +kernel, by decide +kernel⟩
theorem ok_l_deck {f : Addr} {fd : FuncData} (F : Fun K "_law_deck" "_law_deck" s_l_deck f fd) (T : Txt K mg) : FnOk P w K mg base CX0 1 f fd ["script"] (spDeck K) := by
  refine deck_closed ?_ rfl
  refine F.ok sc_l_deck (fun vs H Q E h => ?_) (fun cdv A outer s H vs Q E hr h => ?_)
  · obtain ⟨a, ns, rfl, _⟩ := h
    rfl
  · obtain ⟨a, ns, rfl, hS, hl, q⟩ := h
    refine ⟨_, (pss_cons (ps_set (i := 1) sc_l_deck.nd rfl (by first | exact Or.inl rfl | exact Or.inr rfl) pe_int)
      (pss_cons (ps_for PassesOwn.never rfl (kpiL K (pv 0)) (pg_name (i := 2) sc_l_deck.nd rfl (by first | exact Or.inl rfl | exact Or.inr rfl))
        (pss_one (ps_set (i := 1) sc_l_deck.nd rfl (by first | exact Or.inl rfl | exact Or.inr rfl) (pe_op op_mod (pe_callTy call_int1 (by rfl) T.int_ bt_int (pa_cons (pe_op op_add (pe_op op_mul (pv 1) pe_int) (pv 2)) pa_nil)) pe_int))))
      (pss_one (ps_ret (pe_lst (pa_cons pe_int (pa_cons pe_int (pa_cons (pv 1) (pa_cons (pe_callTy (klist K) (by rfl) T.list_ bt_list (pa_cons (pv 0) pa_nil)) (pa_cons pe_int pa_nil)))))))))), ?_⟩
    refine ⟨_, rfl, a, rfl, ⟨_, hS⟩, for_list (K := K) (a := a) (xs := ns.map V.int) (fun i σ H' => H' = H ∧ ∃ (z : Int) (c : Option V), σ = [some (.ref a), some (.int z), c] ∧ 0 ≤ z ∧ z < 2147483647)
      ⟨rfl, 7, none, rfl, by decide, by decide⟩ (fun i σ H' _ p => by rw [p.1]; exact hS) ?_ ?_⟩
    · rintro i x σ H' hx ⟨rfl, z, c, rfl, z0, z1⟩
      rw [List.getElem?_map] at hx
      cases e : ns[i]? with
      | none =>
        rw [e] at hx
        cases hx
      | some u =>
        rw [e] at hx
        cases hx
        refine ⟨_, rfl, _, _, rfl, rfl, .inl ⟨by omega, by omega⟩, _, rfl, _, _, rfl, rfl, .inl ⟨_, rfl, ?_⟩⟩
        refine ⟨_, _, rfl, rfl, (by show (0 : Int) < 2147483647; decide), ?_⟩
        refine ⟨rfl, _, _, rfl, ?_, ?_⟩
        · exact Int.emod_nonneg _ (by decide)
        · exact Int.emod_lt_of_pos _ (by decide)
    · rintro σ H' ⟨rfl, z, c, rfl, z0, z1⟩
      refine ⟨_, rfl, _, rfl, a, _, rfl, .inl hS, fun l hl' => ?_⟩
      refine ⟨(by show 5 ≤ sizeLine; decide), fun p hp => ?_⟩
      have hpl : l ≠ p := fun e => by
        rw [← e, upd_same] at hp
        cases hp
      have e1 : Ex H' (upd H' l (.lst (ns.map V.int))) := Ex.new hl'
      refine q p l _ _ (fresh_back e1 hp) (e1.trans (Ex.new hp)) upd_same ⟨0, 0, z, 0, rfl, by decide, by decide, z0, z1⟩ hpl ?_
      rw [upd_ne hpl, upd_same]

abbrev s_l_draw : Stmt := top 6
theorem sc_l_draw : FnScope ["deck", "bound", "number", "value"] ["deck", "bound"] (defScope s_l_draw) := ⟨rfl, rfl, rfl, by decide +kernel, rfl, by decide +kernel, by decide +kernel⟩
theorem ok_l_draw {f : Addr} {fd : FuncData} (F : Fun K "_law_draw" "_law_draw" s_l_draw f fd) (T : Txt K mg) : FnOk P w K mg base CX0 1 f fd ["deck", "bound"] (spDraw K) := by
  refine draw_closed ?_ rfl
  refine F.ok sc_l_draw (fun vs H Q E h => ?_) (fun cdv A outer s H vs Q E hr h => ?_)
  · obtain ⟨a, b, l, ns, xs, rfl, _⟩ := h
    rfl
  · obtain ⟨a, b, l, ns, xs, rfl, ha, ⟨n, k, z, c, rfl, n0, k0, z0, z1⟩, hL, hla, b0, b1, q⟩ := h
    have hH : upd H a (.lst (deckV n k z l c)) = H := by
      have e := upd_back (u := .lst (deckV n k z l c)) ha
      rw [upd_upd] at e
      exact e
    have hL2 : ∀ o, upd H a o l = some (.lst (ns.map V.int)) := fun o => by rw [upd_ne hla]; exact hL
    refine ⟨_, (pss_cut (ps_if (PW.pt (pw_and (pt_cmpR op_eq (pe_ix (kixL K) (pv 0) pe_int (fun _ _ => rfl)) pe_int (nomark _)) (pw_and1 (pt_cmpR op_lt (pe_ix (kixL K) (pv 0) pe_int (fun _ _ => rfl)) (pe_callB (klen K) (by rfl) T.len_ PySem.boot_len (pa_cons (pe_ix (kixL K) (pv 0) pe_int (fun _ _ => rfl)) pa_nil)) (nomark _)))))
        (pss_cons (ps_asg (pe_callB call_abs (by rfl) T.abs_ bt_abs (pa_cons (pe_ix (kixL K) (pe_ix (kixL K) (pv 0) pe_int (fun _ _ => rfl)) (pe_ix (kixL K) (pv 0) pe_int (fun _ _ => rfl)) (fun _ _ => rfl)) pa_nil)) (pg_sub (pv 0) pe_int set_list))
        (pss_one (ps_asg (pe_op op_add (pe_ix (kixL K) (pv 0) pe_int (fun _ _ => rfl)) pe_int) (pg_sub (pv 0) pe_int set_list))))
        (pss_one (ps_if (pt_cmpR op_eq (pe_ix (kixL K) (pv 0) pe_int (fun _ _ => rfl)) pe_int (nomark _))
          (pss_cons (ps_asg (pe_op op_add (pe_ix (kixL K) (pv 0) pe_int (fun _ _ => rfl)) pe_int) (pg_sub (pv 0) pe_int set_list))
          (pss_cons (ps_set (i := 2) sc_l_draw.nd rfl (by first | exact Or.inl rfl | exact Or.inr rfl) (pe_op op_mod (pe_callTy call_int1 (by rfl) T.int_ bt_int (pa_cons (pe_op op_add (pe_op op_add (pe_op op_mul (pe_ix (kixL K) (pv 0) pe_int (fun _ _ => rfl)) pe_int) (pe_op op_mul (pe_ix (kixL K) (pv 0) pe_int (fun _ _ => rfl)) pe_int)) pe_int) pa_nil)) pe_int))
          (pss_cons (ps_set (i := 2) sc_l_draw.nd rfl (by first | exact Or.inl rfl | exact Or.inr rfl) (pe_op op_mod (pe_callTy call_int1 (by rfl) T.int_ bt_int (pa_cons (pe_op op_add (pe_op op_add (pe_op op_mul (pv 2) (pv 2)) (pe_op op_mul pe_int (pe_ix (kixL K) (pv 0) pe_int (fun _ _ => rfl)))) pe_int) pa_nil)) pe_int))
          (pss_cons (ps_set (i := 2) sc_l_draw.nd rfl (by first | exact Or.inl rfl | exact Or.inr rfl) (pe_op op_mod (pe_callTy call_int1 (by rfl) T.int_ bt_int (pa_cons (pe_op op_add (pe_op op_add (pe_op op_mul (pv 2) (pv 2)) (pe_op op_mul pe_int (pe_ix (kixL K) (pv 0) pe_int (fun _ _ => rfl)))) (pe_ix (kixL K) (pv 0) pe_int (fun _ _ => rfl))) pa_nil)) pe_int))
          (pss_one (ps_asg (pe_op op_fdiv (pv 2) pe_int) (pg_sub (pv 0) pe_int set_list)))))))
          pss_nil)))
      (pss_cons (ps_set (i := 3) sc_l_draw.nd rfl (by first | exact Or.inl rfl | exact Or.inr rfl) (pe_op op_mod (pe_callTy call_int1 (by rfl) T.int_ bt_int (pa_cons (pe_ix (kixL K) (pv 0) pe_int (fun _ _ => rfl)) pa_nil)) (pv 1)))
      (pss_cons (ps_asg (pe_op op_fdiv (pe_ix (kixL K) (pv 0) pe_int (fun _ _ => rfl)) (pv 1)) (pg_sub (pv 0) pe_int set_list))
      (pss_one (ps_ret (pv 3)))))), ?_⟩
    refine ⟨fun σ H' => ∃ n k c u, σ = [some (.ref a), some (.int b), u, none] ∧ H' = upd H a (.lst (deckV n k z l c)) ∧ 0 ≤ n ∧ 0 ≤ k, ?_, ?_⟩
    · rw [← hH]
      -- if deck[0] == 0 and deck[1] < len(deck[3])
      refine ⟨_, rfl, a, _, _, _, rfl, rfl, SqL.of upd_same, rfl, rfl, _, rfl, ?_⟩
      refine ite2 (fun e0 => ?_) (fun e0 => ?_)
      · refine ⟨_, rfl, a, _, _, _, rfl, rfl, SqL.of upd_same, rfl, ?_⟩
        refine ⟨_, rfl, a, _, _, _, rfl, rfl, SqL.of upd_same, rfl, ?_⟩
        refine ⟨l, _, rfl, .inl (SqL.of (hL2 _)), _, _, rfl, rfl, _, rfl, ?_⟩
        refine ite2 (fun e1 => ?_) (fun e1 => ?_)
        · -- deck[0] = abs(deck[3][deck[1]]); deck[1] = deck[1] + 1
          have hk : k < (ns.length : Int) := by
            have e2 := of_decide_eq_true e1
            rw [List.length_map] at e2
            exact e2
          obtain ⟨m, rfl⟩ := Int.eq_ofNat_of_zero_le k0
          have hm : m < ns.length := by omega
          refine ⟨_, rfl, a, _, _, _, rfl, rfl, SqL.of upd_same, rfl, ?_⟩
          refine ⟨_, rfl, a, _, _, _, rfl, rfl, SqL.of upd_same, rfl, ?_⟩
          refine ⟨l, _, _, .int ns[m], rfl, rfl, SqL.of (hL2 _), atI_nat (by rw [List.getElem?_map, List.getElem?_eq_getElem hm]; rfl), ?_⟩
          refine ⟨_, rfl, ?_⟩
          refine ⟨_, rfl, a, _, 0, 0, rfl, rfl, upd_same, rfl, ?_⟩
          refine ⟨_, rfl, a, _, _, _, rfl, rfl, SqL.of upd_same, rfl, ?_⟩
          refine ⟨_, _, rfl, rfl, ?_⟩
          refine ⟨_, rfl, a, _, 1, 1, rfl, rfl, upd_same, rfl, ?_⟩
          refine ⟨(if ns[m] < 0 then -ns[m] else ns[m]), (m : Int) + 1, c, none, rfl, ?_, ?_, ?_⟩
          · simp only [upd_upd]
            rfl
          · split <;> omega
          · omega
        · -- elif deck[0] == 0
          refine ⟨_, rfl, a, _, _, _, rfl, rfl, SqL.of upd_same, rfl, rfl, _, rfl, ?_⟩
          refine ite2 (fun e2 => ?_) (fun e2 => ?_)
          · refine ⟨_, rfl, a, _, _, _, rfl, rfl, SqL.of upd_same, rfl, ?_⟩
            refine ⟨_, _, rfl, rfl, ?_⟩
            refine ⟨_, rfl, a, _, 4, 4, rfl, rfl, upd_same, rfl, ?_⟩
            rw [upd_upd]
            -- number = ..
            refine ⟨_, rfl, a, _, _, _, rfl, rfl, SqL.of upd_same, rfl, ?_⟩
            refine ⟨_, _, rfl, rfl, .inr ⟨by decide, by decide⟩, ?_⟩
            refine ⟨_, rfl, a, _, _, _, rfl, rfl, SqL.of upd_same, rfl, ?_⟩
            refine ⟨_, _, rfl, rfl, .inr ⟨by decide, by decide⟩, ?_⟩
            refine ⟨_, _, rfl, rfl, ?_⟩
            refine ⟨_, _, rfl, rfl, .inl ⟨_, rfl, ?_⟩⟩
            refine ⟨_, _, rfl, rfl, (by show (0 : Int) < 2147483647; decide), ?_⟩
            refine ⟨_, rfl, _, rfl, ?_⟩
            refine ⟨_, _, rfl, rfl, .inl ⟨by omega, by omega⟩, ?_⟩
            refine ⟨_, rfl, a, _, _, _, rfl, rfl, SqL.of upd_same, rfl, ?_⟩
            refine ⟨_, _, rfl, rfl, .inl ⟨by decide, by decide⟩, ?_⟩
            refine ⟨_, _, rfl, rfl, ?_⟩
            refine ⟨_, _, rfl, rfl, .inl ⟨_, rfl, ?_⟩⟩
            refine ⟨_, _, rfl, rfl, (by show (0 : Int) < 998244353; decide), ?_⟩
            refine ⟨_, rfl, _, rfl, ?_⟩
            refine ⟨_, _, rfl, rfl, .inl ⟨by omega, by omega⟩, ?_⟩
            refine ⟨_, rfl, a, _, _, _, rfl, rfl, SqL.of upd_same, rfl, ?_⟩
            refine ⟨_, _, rfl, rfl, .inl ⟨by decide, by decide⟩, ?_⟩
            refine ⟨_, _, rfl, rfl, ?_⟩
            refine ⟨_, rfl, a, _, _, _, rfl, rfl, SqL.of upd_same, rfl, ?_⟩
            refine ⟨_, _, rfl, rfl, .inl ⟨_, rfl, ?_⟩⟩
            refine ⟨_, _, rfl, rfl, (by show (0 : Int) < 2147483629; decide), ?_⟩
            refine ⟨_, rfl, _, _, rfl, rfl, ⟨by decide, by decide⟩, ?_⟩
            refine ⟨_, rfl, a, _, 0, 0, rfl, rfl, upd_same, rfl, ?_⟩
            let n1 : Int := (z * 48271 + (c + 1) * 69621 + 12345) % 2147483647
            let n2 : Int := (n1 * n1 + 16807 * (c + 1) + 7) % 998244353
            refine ⟨(n2 * n2 + 48271 * (c + 1) + z) % 2147483629 / 13, k, c + 1, _, rfl, ?_, ?_, k0⟩
            · simp only [upd_upd]
              rfl
            · exact Int.ediv_nonneg (Int.emod_nonneg _ (by decide)) (by decide)
          · exact ⟨n, k, c, none, rfl, upd_upd.symm, n0, k0⟩
      · refine ⟨_, rfl, a, _, _, _, rfl, rfl, SqL.of upd_same, rfl, rfl, _, rfl, ?_⟩
        rw [eq_false_of_ne_true e0]
        refine iteF ?_
        exact ⟨n, k, c, none, rfl, upd_upd.symm, n0, k0⟩
    · rintro σ H' ⟨n, k, c, u, rfl, rfl, n0, k0⟩
      refine ⟨_, rfl, a, _, _, _, rfl, rfl, SqL.of upd_same, rfl, .inl ⟨_, rfl, ?_⟩⟩
      refine ⟨_, rfl, _, _, rfl, rfl, b0, ?_⟩
      refine ⟨_, rfl, a, _, _, _, rfl, rfl, SqL.of upd_same, rfl, ?_⟩
      refine ⟨_, rfl, _, _, rfl, rfl, ⟨b0, b1⟩, ?_⟩
      refine ⟨_, rfl, a, _, 0, 0, rfl, rfl, upd_same, rfl, ?_⟩
      refine ⟨_, rfl, ?_⟩
      rw [upd_upd]
      exact q (n % b) _ (Int.emod_nonneg _ (by omega)) (Int.emod_lt_of_pos _ b0) ⟨n / b, k, z, c, rfl, Int.ediv_nonneg n0 (by omega), k0, z0, z1⟩

abbrev s_l_rectangle : Stmt := top 7
theorem sc_l_rectangle : FnScope ["deck", "size", "left", "top", "wide", "high"] ["deck", "size"] (defScope s_l_rectangle) := ⟨rfl, rfl, rfl, by decide +kernel, rfl, by decide +kernel, by decide +kernel⟩
def spRectangle (K : PySem.W.Frag) : Sp := fun vs H Q _ => ∃ a size, vs = [.ref a, .int size] ∧ DeckAt K H a ∧ 0 < size ∧ size ≤ 1000 ∧
  ∀ p l t r b H', H p = none → Ex H H' → RectAt H' p l t r b → l < r → t < b → -3 ≤ l → -3 ≤ t → r ≤ 2 * size + 3 → b ≤ 2 * size + 3 → Q (.ref p) H'
theorem ok_l_rectangle {f : Addr} {fd : FuncData} (F : Fun K "_law_rectangle" "_law_rectangle" s_l_rectangle f fd) (T : Txt K mg) (D_l_draw : Def P w K mg base CX0 "_law_draw" 1 ["deck", "bound"] (spDraw K)) : FnOk P w K mg base CX0 2 f fd ["deck", "size"] (spRectangle K) := by
  refine F.ok sc_l_rectangle (fun vs H Q E h => ?_) (fun cdv A outer s H vs Q E hr h => ?_)
  · obtain ⟨a, size, rfl, _⟩ := h
    rfl
  · obtain ⟨a, size, rfl, hd, s0, s1, q⟩ := h
    refine ⟨_, (pss_cons (ps_set (i := 2) sc_l_rectangle.nd rfl (by first | exact Or.inl rfl | exact Or.inr rfl) (pe_op op_sub (pe_call D_l_draw.ok (hr.mono (by decide)) rfl D_l_draw.mgf D_l_draw.kp D_l_draw.b .nil pass0 (pa_cons (pv 0) (pa_cons (pv 1) pa_nil))) pe_int))
      (pss_cons (ps_set (i := 3) sc_l_rectangle.nd rfl (by first | exact Or.inl rfl | exact Or.inr rfl) (pe_op op_sub (pe_call D_l_draw.ok (hr.mono (by decide)) rfl D_l_draw.mgf D_l_draw.kp D_l_draw.b .nil pass0 (pa_cons (pv 0) (pa_cons (pv 1) pa_nil))) pe_int))
      (pss_cons (ps_set (i := 4) sc_l_rectangle.nd rfl (by first | exact Or.inl rfl | exact Or.inr rfl) (pe_op op_add pe_int (pe_ix (kixL K) (pe_lst (pa_cons (pe_call D_l_draw.ok (hr.mono (by decide)) rfl D_l_draw.mgf D_l_draw.kp D_l_draw.b .nil pass0 (pa_cons (pv 0) (pa_cons pe_int pa_nil))) (pa_cons (pe_call D_l_draw.ok (hr.mono (by decide)) rfl D_l_draw.mgf D_l_draw.kp D_l_draw.b .nil pass0 (pa_cons (pv 0) (pa_cons (pv 1) pa_nil))) pa_nil))) (pe_call D_l_draw.ok (hr.mono (by decide)) rfl D_l_draw.mgf D_l_draw.kp D_l_draw.b .nil pass0 (pa_cons (pv 0) (pa_cons pe_int pa_nil))) (fun _ _ => rfl))))
      (pss_cons (ps_set (i := 5) sc_l_rectangle.nd rfl (by first | exact Or.inl rfl | exact Or.inr rfl) (pe_op op_add pe_int (pe_ix (kixL K) (pe_lst (pa_cons (pe_call D_l_draw.ok (hr.mono (by decide)) rfl D_l_draw.mgf D_l_draw.kp D_l_draw.b .nil pass0 (pa_cons (pv 0) (pa_cons pe_int pa_nil))) (pa_cons (pe_call D_l_draw.ok (hr.mono (by decide)) rfl D_l_draw.mgf D_l_draw.kp D_l_draw.b .nil pass0 (pa_cons (pv 0) (pa_cons (pv 1) pa_nil))) pa_nil))) (pe_call D_l_draw.ok (hr.mono (by decide)) rfl D_l_draw.mgf D_l_draw.kp D_l_draw.b .nil pass0 (pa_cons (pv 0) (pa_cons pe_int pa_nil))) (fun _ _ => rfl))))
      (pss_one (ps_ret (pe_tup (pa_cons (pv 2) (pa_cons (pv 3) (pa_cons (pe_op op_add (pv 2) (pv 4)) (pa_cons (pe_op op_add (pv 3) (pv 5)) pa_nil))))))))))), ?_⟩
    refine ⟨_, rfl, _, rfl, a, size, rfl, hd, s0, by omega, fun l l0 l1 => ?_⟩
    refine ⟨_, _, rfl, rfl, ?_⟩
    refine ⟨_, rfl, _, rfl, a, size, rfl, hd, s0, by omega, fun t t0 t1 => ?_⟩
    refine ⟨_, _, rfl, rfl, ?_⟩
    refine ⟨_, rfl, a, 3, rfl, hd, by decide, by decide, fun x1 x10 x11 => ?_⟩
    refine ⟨_, rfl, _, rfl, a, size, rfl, hd, s0, by omega, fun x2 x20 x21 => ?_⟩
    refine ⟨(by show 2 ≤ sizeLine; decide), fun p hp => ?_⟩
    have e1 : Ex H (upd H p (.lst [.int x1, .int x2])) := Ex.new hp
    refine ⟨_, rfl, a, 2, rfl, hd.mono e1, by decide, by decide, fun i i0 i1 => ?_⟩
    obtain ⟨w1, hw1, ew1⟩ := pickI (ns := [x1, x2]) i0 i1
    refine ⟨p, _, i, _, rfl, rfl, SqL.of upd_same, ew1, _, _, rfl, rfl, ?_⟩
    have w10 : 0 ≤ w1 := by
      rcases List.mem_cons.mp hw1 with rfl | h
      · exact x10
      · rw [List.mem_singleton.mp h]
        exact x20
    have w11 : w1 < size + 3 := by
      rcases List.mem_cons.mp hw1 with rfl | h
      · omega
      · rw [List.mem_singleton.mp h]
        omega
    generalize hH1 : upd H p (.lst [.int x1, .int x2]) = H1 at *
    have hd1 := hd.mono e1
    refine ⟨_, rfl, a, 3, rfl, hd1, by decide, by decide, fun y1 y10 y11 => ?_⟩
    refine ⟨_, rfl, _, rfl, a, size, rfl, hd1, s0, by omega, fun y2 y20 y21 => ?_⟩
    refine ⟨(by show 2 ≤ sizeLine; decide), fun p2 hp2 => ?_⟩
    have e2 : Ex H1 (upd H1 p2 (.lst [.int y1, .int y2])) := Ex.new hp2
    refine ⟨_, rfl, a, 2, rfl, hd1.mono e2, by decide, by decide, fun j j0 j1 => ?_⟩
    obtain ⟨w2, hw2, ew2⟩ := pickI (ns := [y1, y2]) j0 j1
    refine ⟨p2, _, j, _, rfl, rfl, SqL.of upd_same, ew2, _, _, rfl, rfl, ?_⟩
    have w20 : 0 ≤ w2 := by
      rcases List.mem_cons.mp hw2 with rfl | h
      · exact y10
      · rw [List.mem_singleton.mp h]
        exact y20
    have w21 : w2 < size + 3 := by
      rcases List.mem_cons.mp hw2 with rfl | h
      · omega
      · rw [List.mem_singleton.mp h]
        omega
    generalize hH2 : upd H1 p2 (.lst [.int y1, .int y2]) = H2 at *
    refine ⟨_, rfl, _, rfl, _, rfl, _, rfl, _, _, rfl, rfl, _, rfl, _, rfl, _, _, rfl, rfl, (by show 4 ≤ sizeLine; decide), fun p3 hp3 => ?_⟩
    have e3 := e1.trans e2
    refine q p3 (l - 3) (t - 3) (l - 3 + (1 + w1)) (t - 3 + (1 + w2)) _ (ex_free e3 hp3) (e3.trans (Ex.new hp3)) upd_same ?_ ?_ ?_ ?_ ?_ ?_ <;> omega

abbrev s_l_due : Stmt := top 9
theorem sc_l_due : FnScope ["value", "edge"] ["value"] (defScope s_l_due) := ⟨rfl, rfl, rfl, by decide +kernel, rfl, by decide +kernel, by decide +kernel⟩
theorem ok_l_due {f : Addr} {fd : FuncData} (F : Fun K "_law_due" "_law_due" s_l_due f fd) (T : Txt K mg) : FnOk P w K mg base CX0 1 f fd ["value"] spRect := by
  refine F.ok sc_l_due (fun vs H Q E h => ?_) (fun cdv A outer s H vs Q E hr h => ?_)
  · obtain ⟨v, rfl, _⟩ := h
    rfl
  · obtain ⟨v, rfl, ⟨⟨T', kn⟩, ki⟩, q⟩ := h
    refine ⟨_, (pss_cons (ps_if (PW.pt (pw_or (pt_not (pt_val (pe_callB (kisi K) (by rfl) T.isinstance_ bt_isinstance (pa_cons (pv 0) (pa_cons (pe_bltn (v := .ty "tuple") (by rfl) T.tuple_ bt_tuple rfl) pa_nil))))) (pw_or1 (pt_cmpR op_ne (pe_callB (klen K) (by rfl) T.len_ PySem.boot_len (pa_cons (pv 0) pa_nil)) pe_int (nomark _)))))
        (pss_one (ps_ret pe_bl))
        pss_nil)
      (pss_cons (ps_if (pt_cmpR op_gt (pe_callB (klen K) (by rfl) T.len_ PySem.boot_len (pa_cons (pe_lc (own := [("edge", 1)]) rfl sc_l_due.nd (kpiT K (pv 0)) (blkOk_by (N := ["value", "edge"]) (sc := defScope s_l_due) (by decide +kernel)) (fun _ _ _ _ _ => (pg_name (i := 1) sc_l_due.nd rfl (by first | exact Or.inl rfl | exact Or.inr rfl))) (fun _ _ _ _ _ => (pts_one (PW.pt (pw_or (pt_not (pt_val (pe_callB (kisi K) (by rfl) T.isinstance_ bt_isinstance (pa_cons (pv 1) (pa_cons (pe_bltn (v := .ty "int") (by rfl) T.int_ bt_int rfl) pa_nil))))) (pw_or1 (pt_val (pe_callB (kisi K) (by rfl) T.isinstance_ bt_isinstance (pa_cons (pv 1) (pa_cons (pe_bltn (v := .ty "bool") (by rfl) T.bool_ bt_bool rfl) pa_nil))))))))) (fun _ _ _ _ _ => (pv 1))) pa_nil)) pe_int (nomark _))
        (pss_one (ps_ret pe_bl))
        pss_nil)
      (pss_one (ps_ret (pe_and (pe_cmpR op_lt (pe_ix (kixT K) (pv 0) pe_int (fun _ _ => rfl)) (pe_ix (kixT K) (pv 0) pe_int (fun _ _ => rfl)) (nomark _)) (pe_one (pe_cmpR op_lt (pe_ix (kixT K) (pv 0) pe_int (fun _ _ => rfl)) (pe_ix (kixT K) (pv 0) pe_int (fun _ _ => rfl)) (nomark _)))))))), ?_⟩
    refine ⟨v, rfl, v, _, _, _, _, rfl, .ty _, kn.ty, kit_ty (kit_tuple kn), _, rfl, ?_⟩
    cases ct : isA T' "tuple" with
    | false =>
      rw [kn.notup ct] at q
      refine iteT ?_
      exact iteT (q _ (Ex.refl _))
    | true =>
      obtain ⟨a, xs, rfl, ha⟩ := kn.istup ct
      rw [rectV_tup ha] at q
      refine iteF ?_
      refine ⟨_, rfl, a, xs, rfl, .inr (SqT.of ha), rfl, _, rfl, ?_⟩
      by_cases h4 : xs.length = 4
      · have e4 : decide (V.int (xs.length : Int) = V.int 4) = true := decide_eq_true (by rw [h4]; rfl)
        rw [e4]
        refine iteF ?_
        refine ⟨_, rfl, a, rfl, ⟨xs, SqT.of ha⟩, fun D hD => lc_tup (xs := xs) (fun i H' => Ex H H' ∧ H' D = some (.lst ((xs.take i).filter fun x => !isI x))) ⟨Ex.new hD, upd_same⟩ (fun i H' _ p => SqT.of (p.1 _ _ ha)) ?_ ?_⟩
        · intro i x H' hx p
          obtain ⟨Tx, kx⟩ := ki a xs rfl ha x (List.mem_of_getElem? hx)
          have kx := kx.mono p.1
          have hl : ((xs.take i).filter fun x => !isI x).length ≤ 4 := Nat.le_trans (List.length_filter_le _ _) (by rw [List.length_take]; omega)
          have fin : ∀ b, b = isI x → (if (!b) = true then ∃ acc, H' D = some (.lst acc) ∧ acc.length < sizeLine ∧ (Ex H (upd H' D (.lst (acc ++ [x]))) ∧ upd H' D (.lst (acc ++ [x])) D = some (.lst ((xs.take (i + 1)).filter fun x => !isI x)))
              else (Ex H H' ∧ H' D = some (.lst ((xs.take (i + 1)).filter fun x => !isI x)))) := by
            intro b hb
            rw [List.take_add_one, hx, List.filter_append]
            cases b with
            | true =>
              refine iteF ⟨p.1, ?_⟩
              rw [p.2]
              simp [← hb]
            | false =>
              refine iteT ⟨_, p.2, Nat.lt_of_le_of_lt hl (by decide), p.1.mut hD, ?_⟩
              rw [upd_same]
              simp [← hb]
          refine ⟨rfl, ?_⟩
          refine ⟨x, rfl, x, _, _, _, _, rfl, .ty _, kx.ty, kit_ty (kit_int kx), _, rfl, ?_⟩
          have hw := kx.whole
          cases ci : isA Tx "int" with
          | false =>
            rw [ci, Bool.false_and] at hw
            refine iteT ?_
            have f := fin false hw
            rw [Bool.not_false, if_pos rfl] at f
            refine iteT ?_
            exact ⟨x, rfl, f⟩
          | true =>
            rw [ci, Bool.true_and] at hw
            refine iteF ?_
            refine ⟨x, rfl, x, _, _, _, _, rfl, .ty _, kx.ty, kit_ty (kit_bool kx), _, rfl, ?_⟩
            cases cb : isA Tx "bool" with
            | true =>
              rw [cb] at hw
              have f := fin false hw
              rw [Bool.not_false, if_pos rfl] at f
              refine iteT ?_
              exact ⟨x, rfl, f⟩
            | false =>
              rw [cb] at hw
              have f := fin true hw
              rw [Bool.not_true, if_neg Bool.false_ne_true] at f
              exact iteF f
        · intro H' p
          rw [List.take_length] at p
          refine ⟨D, _, rfl, .inl (SqL.of p.2), _, _, rfl, rfl, _, rfl, ?_⟩
          cases hall : xs.all isI with
          | false =>
            rw [rectL_int hall] at q
            have hz : decide ((0 : Int) < ((xs.filter fun x => !isI x).length : Int)) = true := by
              refine decide_eq_true ?_
              have hne : (xs.filter fun x => !isI x) ≠ [] := by
                intro e
                rw [List.filter_eq_nil_iff] at e
                have : xs.all isI = true := List.all_eq_true.mpr fun y hy => by
                  have := e y hy
                  simpa using this
                rw [hall] at this
                cases this
              have := List.length_pos_iff.mpr hne
              omega
            rw [hz]
            exact iteT (q _ p.1)
          | true =>
            have hz : (xs.filter fun x => !isI x) = [] := by
              rw [List.filter_eq_nil_iff]
              intro y hy
              have := List.all_eq_true.mp hall y hy
              simp [this]
            rw [hz]
            refine iteF ?_
            obtain ⟨ns, rfl⟩ := all_isI hall
            rw [List.length_map] at h4
            obtain ⟨l, t, r, b, rfl⟩ := four h4
            have ha' := p.1 _ _ ha
            refine ⟨_, rfl, a, _, _, _, rfl, rfl, SqT.of ha', rfl, ?_⟩
            refine ⟨_, rfl, a, _, _, _, rfl, rfl, SqT.of ha', rfl, ?_⟩
            refine ⟨_, _, rfl, rfl, _, rfl, ?_⟩
            refine ite2 (fun e => ?_) (fun e => ?_)
            · refine ⟨_, rfl, a, _, _, _, rfl, rfl, SqT.of ha', rfl, ?_⟩
              refine ⟨_, rfl, a, _, _, _, rfl, rfl, SqT.of ha', rfl, ?_⟩
              refine ⟨_, _, rfl, rfl, ?_⟩
              have q2 := q _ p.1
              have e2 : rectL (List.map V.int [l, t, r, b]) = decide (t < b) := by
                show (decide (l < r) && decide (t < b)) = decide (t < b)
                rw [e, Bool.true_and]
              rw [e2] at q2
              exact q2
            · have q2 := q _ p.1
              have e2 : rectL (List.map V.int [l, t, r, b]) = false := by
                show (decide (l < r) && decide (t < b)) = false
                rw [eq_false_of_ne_true e, Bool.false_and]
              rw [e2] at q2
              exact q2
      · have e4 : decide (V.int (xs.length : Int) = V.int 4) = false := decide_eq_false (fun e => h4 (by injection e with e; omega))
        rw [e4]
        rw [rectL_len h4] at q
        refine iteT ?_
        exact q _ (Ex.refl _)

abbrev s_law : Stmt := top 10
theorem sc_law : FnScope ["script", "deck", "far", "value", "kind", "place", "told", "edge"] ["script"] (defScope s_law) := ⟨rfl, rfl, rfl, by decide +kernel, rfl, by decide +kernel, by decide +kernel⟩
theorem Item.tup {H : Hp} {a : Addr} {xs : List V} (h : H a = some (.tup xs)) (k : ∀ x ∈ xs, ∃ T, Kn H x T) : Item H (.ref a) := by
  refine ⟨⟨_, .tup h⟩, fun b ys e h2 => ?_⟩
  cases e
  rw [h] at h2
  cases h2
  exact k
theorem Item.lst {H : Hp} {a : Addr} {xs : List V} (h : H a = some (.lst xs)) : Item H (.ref a) := by
  refine ⟨⟨_, .lst h⟩, fun b ys e h2 => ?_⟩
  cases e
  rw [h] at h2
  cases h2
theorem Item.flat {H : Hp} {v : V} {T : String} (h : Kn H v T) (n : ∀ a, v ≠ .ref a) : Item H v := ⟨⟨_, h⟩, fun b _ e _ => absurd e (n b)⟩
theorem Item.mono {H H' : Hp} {v : V} (e : Ex H H') (h : Item H v) : Item H' v := by
  obtain ⟨⟨T, k⟩, q⟩ := h
  cases k with
  | tup h1 =>
    refine .tup (e _ _ h1) fun x hx => ?_
    obtain ⟨T, k⟩ := q _ _ rfl h1 x hx
    exact ⟨T, k.mono e⟩
  | lst h1 => exact .lst (e _ _ h1)
  | non => exact .flat .non (fun _ z => nomatch z)
  | bl b => exact .flat (.bl b) (fun _ z => nomatch z)
  | int b => exact .flat (.int b) (fun _ z => nomatch z)
  | str b => exact .flat (.str b) (fun _ z => nomatch z)
theorem rectV_mono {H H' : Hp} {v : V} (e : Ex H H') (h : Item H v) : rectV H' v = rectV H v := by
  obtain ⟨⟨T, k⟩, q⟩ := h
  cases k with
  | tup h1 => rw [rectV_tup h1, rectV_tup (e _ _ h1)]
  | lst h1 => simp only [rectV, h1, e _ _ h1]
  | _ => rfl
theorem sz100 {n : Nat} (h : n ≤ 100) : n ≤ sizeLine := Nat.le_trans h (by decide)
theorem kn_cut {H : Hp} {ns : List Int} {lo hi : Option Int} {x : V} (h : x ∈ cutV (ns.map V.int) lo hi) : ∃ T, Kn H x T := by
  obtain ⟨n, _, rfl⟩ := List.mem_map.mp (mem_cutV h)
  exact ⟨_, .int n⟩
theorem kn_ints {H : Hp} {ns : List Int} {x : V} (h : x ∈ ns.map V.int) : ∃ T, Kn H x T := by
  obtain ⟨n, _, rfl⟩ := List.mem_map.mp h
  exact ⟨_, .int n⟩
def spLaw (K : PySem.W.Frag) : Sp := fun vs H Q _ => ∃ (a : Addr) (ns : List Int), vs = [.ref a] ∧ SqL K H a (ns.map V.int) ∧ ns.length ≤ 63 ∧ ∀ H', Q (.bl true) H'
theorem ok_law {f : Addr} {fd : FuncData} (F : Fun K "law" "law" s_law f fd) (T : Txt K mg) (D_l_deck : Def P w K mg base CX0 "_law_deck" 1 ["script"] (spDeck K)) (D_l_draw : Def P w K mg base CX0 "_law_draw" 1 ["deck", "bound"] (spDraw K))
    (D_l_rectangle : Def P w K mg base CX0 "_law_rectangle" 2 ["deck", "size"] (spRectangle K)) (D_is_rectangle : Def P w K mg base CX0 "is_rectangle" 2 ["value"] spRect) (D_l_due : Def P w K mg base CX0 "_law_due" 1 ["value"] spRect) :
    FnOk P w K mg base CX0 3 f fd ["script"] (spLaw K) := by
  refine F.ok sc_law (fun vs H Q E h => ?_) (fun cdv A outer s H vs Q E hr h => ?_)
  · obtain ⟨a, ns, rfl, _⟩ := h
    rfl
  · obtain ⟨a, ns, rfl, hS, hl, q⟩ := h
    refine ⟨_, (pss_cons (ps_set (i := 1) sc_law.nd rfl (by first | exact Or.inl rfl | exact Or.inr rfl) (pe_call D_l_deck.ok (hr.mono (by decide)) rfl D_l_deck.mgf D_l_deck.kp D_l_deck.b .nil pass0 (pa_cons (pv 0) pa_nil)))
      (pss_cons (ps_set (i := 2) sc_law.nd rfl (by first | exact Or.inl rfl | exact Or.inr rfl) (pe_ix (kixL K) (pe_lst (pa_cons pe_int (pa_cons pe_int (pa_cons (pe_op op_sub (pe_call D_l_draw.ok (hr.mono (by decide)) rfl D_l_draw.mgf D_l_draw.kp D_l_draw.b .nil pass0 (pa_cons (pv 1) (pa_cons pe_int pa_nil))) pe_int) (pa_cons (pe_op op_pow pe_int pe_int) pa_nil))))) (pe_call D_l_draw.ok (hr.mono (by decide)) rfl D_l_draw.mgf D_l_draw.kp D_l_draw.b .nil pass0 (pa_cons (pv 1) (pa_cons pe_int pa_nil))) (fun _ _ => rfl)))
      (pss_cons (ps_set (i := 3) sc_law.nd rfl (by first | exact Or.inl rfl | exact Or.inr rfl) (pe_callTy (ktuple K) (by rfl) T.tuple_ bt_tuple (pa_cons (pe_lc (own := [("edge", 7)]) (tt := tYes) rfl sc_law.nd (kpiT K (pe_call D_l_rectangle.ok (hr.mono (by decide)) rfl D_l_rectangle.mgf D_l_rectangle.kp D_l_rectangle.b .nil pass0 (pa_cons (pv 1) (pa_cons pe_int pa_nil)))) (blkOk_by (N := ["script", "deck", "far", "value", "kind", "place", "told", "edge"]) (sc := defScope s_law) (by decide +kernel)) (fun _ _ _ _ _ => (pg_name (i := 7) sc_law.nd rfl (by first | exact Or.inl rfl | exact Or.inr rfl))) (fun _ _ _ _ _ => pts_nil) (fun _ _ _ _ _ => (pe_op op_add (pv 7) (pv 2)))) pa_nil)))
      (pss_cons (ps_set (i := 4) sc_law.nd rfl (by first | exact Or.inl rfl | exact Or.inr rfl) (pe_call D_l_draw.ok (hr.mono (by decide)) rfl D_l_draw.mgf D_l_draw.kp D_l_draw.b .nil pass0 (pa_cons (pv 1) (pa_cons pe_int pa_nil))))
      (pss_cons (ps_set (i := 5) sc_law.nd rfl (by first | exact Or.inl rfl | exact Or.inr rfl) (pe_call D_l_draw.ok (hr.mono (by decide)) rfl D_l_draw.mgf D_l_draw.kp D_l_draw.b .nil pass0 (pa_cons (pv 1) (pa_cons pe_int pa_nil))))
      (pss_cut (ps_if (pt_cmpR op_eq (pv 4) pe_int (nomark _))
        (pss_one (ps_set (i := 3) sc_law.nd rfl (by first | exact Or.inl rfl | exact Or.inr rfl) (pe_op (kcatA K) (pe_op (kcatA K) (pe_slice (kslA K) (pv 3) po_none (po_some (pv 5))) (pe_tup (pa_cons (pe_ix (kixL K) (pe_lst (pa_cons pe_bl (pa_cons pe_bl (pa_cons pe_non (pa_cons pe_str (pa_cons (pe_tup (pa_cons pe_int pa_nil)) pa_nil)))))) (pe_call D_l_draw.ok (hr.mono (by decide)) rfl D_l_draw.mgf D_l_draw.kp D_l_draw.b .nil pass0 (pa_cons (pv 1) (pa_cons pe_int pa_nil))) (fun _ _ => rfl)) pa_nil))) (pe_slice (kslA K) (pv 3) (po_some (pe_op op_add (pv 5) pe_int)) po_none))))
        pss_nil)
      (pss_cut (ps_if (pt_cmpR op_eq (pv 4) pe_int (nomark _))
        (pss_one (ps_set (i := 3) sc_law.nd rfl (by first | exact Or.inl rfl | exact Or.inr rfl) (pe_op (kcatA K) (pe_op (kcatA K) (pe_slice (kslA K) (pv 3) po_none (po_some (pv 5))) (pe_tup (pa_cons (pe_op op_sub (pe_op op_add (pe_ix (kixT K) (pv 3) (pe_call D_l_draw.ok (hr.mono (by decide)) rfl D_l_draw.mgf D_l_draw.kp D_l_draw.b .nil pass0 (pa_cons (pv 1) (pa_cons pe_int pa_nil))) (fun _ _ => rfl)) (pe_call D_l_draw.ok (hr.mono (by decide)) rfl D_l_draw.mgf D_l_draw.kp D_l_draw.b .nil pass0 (pa_cons (pv 1) (pa_cons pe_int pa_nil)))) pe_int) pa_nil))) (pe_slice (kslA K) (pv 3) (po_some (pe_op op_add (pv 5) pe_int)) po_none))))
        pss_nil)
      (pss_cut (ps_if (pt_cmpR op_eq (pv 4) pe_int (nomark _))
        (pss_one (ps_set (i := 3) sc_law.nd rfl (by first | exact Or.inl rfl | exact Or.inr rfl) (pe_ix (kixL K) (pe_lst (pa_cons (pe_slice (kslA K) (pv 3) po_none (po_some pe_int)) (pa_cons (pe_op (kcatA K) (pv 3) (pe_tup (pa_cons pe_int pa_nil))) (pa_cons (pe_tup pa_nil) (pa_cons (pe_callTy (klist K) (by rfl) T.list_ bt_list (pa_cons (pv 3) pa_nil)) (pa_cons pe_non (pa_cons pe_int (pa_cons pe_str pa_nil)))))))) (pe_call D_l_draw.ok (hr.mono (by decide)) rfl D_l_draw.mgf D_l_draw.kp D_l_draw.b .nil pass0 (pa_cons (pv 1) (pa_cons pe_int pa_nil))) (fun _ _ => rfl))))
        pss_nil)
      (pss_cut (ps_if (pt_cmpR op_eq (pv 4) pe_int (nomark _))
        (pss_one (ps_set (i := 3) sc_law.nd rfl (by first | exact Or.inl rfl | exact Or.inr rfl) (pe_tup (pa_cons (pe_ix (kixT K) (pv 3) pe_int (fun _ _ => rfl)) (pa_cons (pe_ix (kixT K) (pv 3) pe_int (fun _ _ => rfl)) (pa_cons (pe_ix (kixT K) (pv 3) pe_int (fun _ _ => rfl)) (pa_cons (pe_ix (kixT K) (pv 3) pe_int (fun _ _ => rfl)) pa_nil)))))))
        pss_nil)
      (pss_cut (ps_if (pt_cmpR op_eq (pv 4) pe_int (nomark _))
        (pss_one (ps_set (i := 3) sc_law.nd rfl (by first | exact Or.inl rfl | exact Or.inr rfl) (pe_tup (pa_cons (pe_ix (kixT K) (pv 3) pe_int (fun _ _ => rfl)) (pa_cons (pe_ix (kixT K) (pv 3) pe_int (fun _ _ => rfl)) (pa_cons (pe_ix (kixT K) (pv 3) pe_int (fun _ _ => rfl)) (pa_cons (pe_ix (kixT K) (pv 3) pe_int (fun _ _ => rfl)) pa_nil)))))))
        pss_nil)
      (pss_cons (ps_set (i := 6) sc_law.nd rfl (by first | exact Or.inl rfl | exact Or.inr rfl) (pe_call D_is_rectangle.ok (hr.mono (by decide)) rfl D_is_rectangle.mgf D_is_rectangle.kp D_is_rectangle.b .nil pass0 (pa_cons (pv 3) pa_nil)))
      (pss_one (ps_ret (pe_and (pe_callB (kisi K) (by rfl) T.isinstance_ bt_isinstance (pa_cons (pv 6) (pa_cons (pe_bltn (v := .ty "bool") (by rfl) T.bool_ bt_bool rfl) pa_nil))) (pe_one (pe_cmpR op_eq (pv 6) (pe_call D_l_due.ok (hr.mono (by decide)) rfl D_l_due.mgf D_l_due.kp D_l_due.b .nil pass0 (pa_cons (pv 3) pa_nil)) (nomark _))))))))))))))))), ?_⟩
    refine ⟨_, rfl, a, ns, rfl, hS, hl, fun d H1 e1 hd => ?_⟩
    refine ⟨_, rfl, d, 1000, rfl, hd, by decide, by decide, fun x0 x00 x01 => ?_⟩
    refine ⟨_, _, rfl, rfl, _, _, rfl, rfl, ⟨by decide, by decide, by decide⟩, ?_⟩
    refine ⟨(by show 4 ≤ sizeLine; decide), fun p hp => ?_⟩
    refine ⟨_, rfl, d, 4, rfl, hd.mono (Ex.new hp), by decide, by decide, fun i i0 i1 => ?_⟩
    obtain ⟨far, _, efar⟩ := pickI (ns := [0, 0, x0 - 500, 10 ^ 20]) i0 i1
    refine ⟨p, _, i, _, rfl, rfl, SqL.of upd_same, efar, ?_⟩
    have hd2 := hd.mono (Ex.new (o := .lst [.int 0, .int 0, .int (x0 - 500), .int (10 ^ 20)]) hp)
    refine ⟨_, rfl, d, 20, rfl, hd2, by decide, by decide, fun p3 l t r b H3 hp3 e3 hr3 _ _ _ _ _ _ => ?_⟩
    have hd3 := hd2.mono e3
    refine ⟨_, rfl, ⟨_, SqT.of hr3⟩, fun D hD => lc_tup (xs := [l, t, r, b].map V.int) (fun i H' => Ex H3 H' ∧ H' D = some (.lst ((([l, t, r, b].map (· + far)).map V.int).take i))) ⟨Ex.new hD, upd_same⟩ (fun i H' _ p => SqT.of (p.1 _ _ hr3)) ?_ ?_⟩
    · intro i x H' hx p
      rw [List.getElem?_map] at hx
      cases e : [l, t, r, b][i]? with
      | none =>
        rw [e] at hx
        cases hx
      | some u =>
        rw [e] at hx
        cases hx
        have hi : i < 4 := (List.getElem?_eq_some_iff.mp e).1
        refine ⟨rfl, ?_⟩
        refine lcY ?_
        refine ⟨_, rfl, _, rfl, _, _, rfl, rfl, _, p.2, ?_, p.1.mut hD, ?_⟩
        · rw [List.length_take]
          exact Nat.lt_of_le_of_lt (Nat.min_le_left _ _) (Nat.lt_of_lt_of_le hi (by decide))
        · rw [upd_same, List.take_add_one, List.getElem?_map, List.getElem?_map, e]
          rfl
    · intro H4 p
      rw [List.take_of_length_le (by simp)] at p
      refine ⟨D, _, rfl, .inl ⟨SqL.of p.2, fun v hv => ?_⟩⟩
      generalize hF : [l, t, r, b].map (· + far) = four at p
      have hlen : four.length = 4 := by rw [← hF]; rfl
      have hd5 := (hd3.mono p.1).mono (Ex.new (o := .tup (four.map V.int)) hv)
      have hT : upd H4 v (.tup (four.map V.int)) v = some (.tup (four.map V.int)) := upd_same
      generalize upd H4 v (.tup (four.map V.int)) = H5 at hd5 hT
      refine ⟨_, rfl, d, 7, rfl, hd5, by decide, by decide, fun kind kd0 kd1 => ?_⟩
      refine ⟨_, rfl, d, 4, rfl, hd5, by decide, by decide, fun place pl0 pl1 => ?_⟩
      have kcut : ∀ lo hi, (cutV (four.map V.int) lo hi).length ≤ 4 := fun lo hi => by
        have := cutV_length (four.map V.int) lo hi
        rw [List.length_map, hlen] at this
        exact this
      have four4 : ∃ w1 w2 w3 w4, four = [w1, w2, w3, w4] := Od.four hlen
      let M : Int → L2.St → Hp → Prop := fun j σ' H' => ∃ u, σ' = [some (.ref a), some (.ref d), some (.int far), some u, some (.int kind), some (.int place), none, none] ∧ Ex H5 H' ∧ Item H' u ∧ (j < kind → u = .ref v)
      -- if kind == 1
      refine ⟨M 1, ?_, ?_⟩
      · refine ⟨_, rfl, rfl, _, rfl, ?_⟩
        refine ite2 (fun e => ?_) (fun e => ?_)
        · refine ⟨_, rfl, _, rfl, _, rfl, ?_⟩
          refine slA hT fun p1 G1 f1 h1 => ?_
          refine ⟨(by show 1 ≤ sizeLine; decide), fun p2 hp2 => ?_⟩
          have f2 := f1.trans (Ex.new (o := .tup [.int 1]) hp2)
          have h2 : upd G1 p2 (.tup [.int 1]) p2 = some (.tup [.int 1]) := upd_same
          have h1 := (Ex.new (o := .tup [.int 1]) hp2) _ _ h1
          refine ⟨(by show 5 ≤ sizeLine; decide), fun p4 hp4 => ?_⟩
          generalize hG2 : upd G1 p2 (.tup [.int 1]) = G2
          have hp4 : G2 p4 = none := by rw [← hG2]; exact hp4
          rw [hG2] at f2 h2 h1
          have f3 := Ex.new (o := .lst [.bl true, .bl false, .non, .str "1", .ref p2]) hp4
          refine ⟨_, rfl, d, 5, rfl, hd5.mono (f2.trans f3), by decide, by decide, fun j j0 j1 => ?_⟩
          obtain ⟨wv, hwv, ewv⟩ := pickV (xs := [.bl true, .bl false, .non, .str "1", .ref p2]) j0 j1
          refine ⟨p4, _, j, _, rfl, rfl, SqL.of upd_same, ewv, ?_⟩
          have h2 := f3 _ _ h2
          have h1 := f3 _ _ h1
          have f2 := f2.trans f3
          generalize upd G2 p4 (.lst [.bl true, .bl false, .non, .str "1", .ref p2]) = G3 at h1 h2 f2
          have kw : ∃ T, Kn G3 wv T := by
            simp only [List.mem_cons, List.not_mem_nil, or_false] at hwv
            rcases hwv with rfl | rfl | rfl | rfl | rfl
            · exact ⟨_, .bl _⟩
            · exact ⟨_, .bl _⟩
            · exact ⟨_, .non⟩
            · exact ⟨_, .str _⟩
            · exact ⟨_, .tup h2⟩
          refine ⟨(by show 1 ≤ sizeLine; decide), fun p5 hp5 => ?_⟩
          have f4 := Ex.new (o := .tup [wv]) hp5
          refine catA (f4 _ _ h1) upd_same (sz100 (by have := kcut none (some place); simp only [List.length_singleton]; omega)) fun p6 G6 f6 h6 => ?_
          refine ⟨_, rfl, _, rfl, _, _, rfl, rfl, _, rfl, ?_⟩
          have f5 := (f2.trans f4).trans f6
          refine slA (f5 _ _ hT) fun p7 G7 f7 h7 => ?_
          refine catA (f7 _ _ h6) h7 (sz100 (by have := kcut none (some place); have := kcut (some (place + 1)) none; simp only [List.length_append, List.length_singleton]; omega)) fun p8 G8 f8 h8 => ?_
          refine ⟨_, rfl, (f5.trans f7).trans f8, .tup h8 fun x hx => ?_, fun z => ?_⟩
          · rcases List.mem_append.mp hx with hx | hx
            · rcases List.mem_append.mp hx with hx | hx
              · exact kn_cut hx
              · obtain ⟨T, k⟩ := kw
                rw [List.mem_singleton.mp hx]
                exact ⟨T, ((k.mono f4).mono f6).mono (f7.trans f8)⟩
            · exact kn_cut hx
          · have e2 := of_decide_eq_true e
            injection e2 with e2
            omega
        · exact ⟨_, rfl, Ex.refl _, .tup hT fun x hx => kn_ints hx, fun _ => rfl⟩
      rintro σ H' ⟨u, rfl, f0, hi, hu⟩
      -- if kind == 2
      refine ⟨M 2, ?_, ?_⟩
      · refine ⟨_, rfl, rfl, _, rfl, ?_⟩
        refine ite2 (fun e => ?_) (fun e => ?_)
        · have ek : kind = 2 := by
            have e2 := of_decide_eq_true e
            injection e2
          obtain rfl := hu (by omega)
          have hT' := f0 _ _ hT
          refine ⟨_, rfl, _, rfl, _, rfl, ?_⟩
          refine slA hT' fun p1 G1 f1 h1 => ?_
          have g1 := f0.trans f1
          refine ⟨_, rfl, _, rfl, d, 4, rfl, hd5.mono g1, by decide, by decide, fun j j0 j1 => ?_⟩
          obtain ⟨wv, _, ewv⟩ := pickI (ns := four) j0 (by omega)
          refine ⟨v, _, j, _, rfl, rfl, SqT.of (g1 _ _ hT), ewv, ?_⟩
          refine ⟨_, rfl, d, 3, rfl, hd5.mono g1, by decide, by decide, fun k3 _ _ => ?_⟩
          refine ⟨_, _, rfl, rfl, _, _, rfl, rfl, ?_⟩
          refine ⟨(by show 1 ≤ sizeLine; decide), fun p5 hp5 => ?_⟩
          have f4 := Ex.new (o := .tup [.int (wv + k3 - 1)]) hp5
          refine catA (f4 _ _ h1) upd_same (sz100 (by have := kcut none (some place); simp only [List.length_singleton]; omega)) fun p6 G6 f6 h6 => ?_
          refine ⟨_, rfl, _, rfl, _, _, rfl, rfl, _, rfl, ?_⟩
          have f5 := (g1.trans f4).trans f6
          refine slA (f5 _ _ hT) fun p7 G7 f7 h7 => ?_
          refine catA (f7 _ _ h6) h7 (sz100 (by have := kcut none (some place); have := kcut (some (place + 1)) none; simp only [List.length_append, List.length_singleton]; omega)) fun p8 G8 f8 h8 => ?_
          refine ⟨_, rfl, (f5.trans f7).trans f8, .tup h8 fun x hx => ?_, fun z => ?_⟩
          · rcases List.mem_append.mp hx with hx | hx
            · rcases List.mem_append.mp hx with hx | hx
              · exact kn_cut hx
              · rw [List.mem_singleton.mp hx]
                exact ⟨_, .int _⟩
            · exact kn_cut hx
          · omega
        · exact ⟨_, rfl, f0, hi, fun z => hu (by omega)⟩
      clear f0 hi hu
      rintro σ H' ⟨u, rfl, f0, hi, hu⟩
      -- if kind == 3
      refine ⟨M 3, ?_, ?_⟩
      · refine ⟨_, rfl, rfl, _, rfl, ?_⟩
        refine ite2 (fun e => ?_) (fun e => ?_)
        · have ek : kind = 3 := by
            have e2 := of_decide_eq_true e
            injection e2
          obtain rfl := hu (by omega)
          have hT' := f0 _ _ hT
          refine ⟨_, rfl, _, rfl, ?_⟩
          refine slA hT' fun p1 G1 f1 h1 => ?_
          refine ⟨_, rfl, (by show 1 ≤ sizeLine; decide), fun p2 hp2 => ?_⟩
          have f2 := Ex.new (o := .tup [.int 50]) hp2
          refine catA ((f1.trans f2) _ _ hT') upd_same (sz100 (by simp only [List.length_map, List.length_singleton]; omega)) fun p3 G3 f3 h3 => ?_
          refine ⟨(by show 0 ≤ sizeLine; decide), fun p4 hp4 => ?_⟩
          have f4 := Ex.new (o := .tup []) hp4
          have g4 := ((f1.trans f2).trans f3).trans f4
          refine ⟨_, rfl, v, _, rfl, .inr (SqT.of (g4 _ _ hT')), fun p5 hp5 => ?_⟩
          have f5 := Ex.new (o := .lst (four.map V.int)) hp5
          have h1 := (((f2.trans f3).trans f4).trans f5) _ _ h1
          have h3 := (f4.trans f5) _ _ h3
          have h4 := f5 _ _ (show upd G3 p4 (.tup []) p4 = some (.tup []) from upd_same)
          have h5 : upd (upd G3 p4 (.tup [])) p5 (.lst (four.map V.int)) p5 = some (.lst (four.map V.int)) := upd_same
          have g5 := (f0.trans g4).trans f5
          refine ⟨(by show 7 ≤ sizeLine; decide), fun p6 hp6 => ?_⟩
          generalize hG5 : upd (upd G3 p4 (.tup [])) p5 (.lst (four.map V.int)) = G5
          rw [hG5] at h1 h3 h4 h5 g5
          have hp6 : G5 p6 = none := by rw [← hG5]; exact hp6
          have f6 := Ex.new (o := .lst [.ref p1, .ref p3, .ref p4, .ref p5, .non, .int 7, .str "abcd"]) hp6
          refine ⟨_, rfl, d, 7, rfl, hd5.mono (g5.trans f6), by decide, by decide, fun j j0 j1 => ?_⟩
          obtain ⟨wv, hwv, ewv⟩ := pickV (xs := [.ref p1, .ref p3, .ref p4, .ref p5, .non, .int 7, .str "abcd"]) j0 j1
          refine ⟨p6, _, j, _, rfl, rfl, SqL.of upd_same, ewv, ?_⟩
          refine ⟨_, rfl, g5.trans f6, Item.mono f6 ?_, fun z => by omega⟩
          simp only [List.mem_cons, List.not_mem_nil, or_false] at hwv
          rcases hwv with rfl | rfl | rfl | rfl | rfl | rfl | rfl
          · exact .tup h1 fun x hx => kn_cut hx
          · refine .tup h3 fun x hx => ?_
            rcases List.mem_append.mp hx with hx | hx
            · exact kn_ints hx
            · rw [List.mem_singleton.mp hx]
              exact ⟨_, .int _⟩
          · exact .tup h4 fun x hx => absurd hx (by simp)
          · exact .lst h5
          · exact .flat .non (fun _ z => nomatch z)
          · exact .flat (.int _) (fun _ z => nomatch z)
          · exact .flat (.str _) (fun _ z => nomatch z)
        · exact ⟨_, rfl, f0, hi, fun z => hu (by omega)⟩
      clear f0 hi hu
      rintro σ H' ⟨u, rfl, f0, hi, hu⟩
      obtain ⟨w1, w2, w3, w4, rfl⟩ := four4
      -- if kind == 4
      refine ⟨M 4, ?_, ?_⟩
      · refine ⟨_, rfl, rfl, _, rfl, ?_⟩
        refine ite2 (fun e => ?_) (fun e => ?_)
        · have ek : kind = 4 := by
            have e2 := of_decide_eq_true e
            injection e2
          obtain rfl := hu (by omega)
          have hT' := f0 _ _ hT
          refine ⟨_, rfl, v, _, _, _, rfl, rfl, SqT.of hT', rfl, ?_⟩
          refine ⟨_, rfl, v, _, _, _, rfl, rfl, SqT.of hT', rfl, ?_⟩
          refine ⟨_, rfl, v, _, _, _, rfl, rfl, SqT.of hT', rfl, ?_⟩
          refine ⟨_, rfl, v, _, _, _, rfl, rfl, SqT.of hT', rfl, ?_⟩
          refine ⟨(by show 4 ≤ sizeLine; decide), fun p2 hp2 => ?_⟩
          exact ⟨_, rfl, f0.trans (Ex.new hp2), .tup (xs := [w3, w2, w1, w4].map V.int) upd_same fun x hx => kn_ints hx, fun z => by omega⟩
        · exact ⟨_, rfl, f0, hi, fun z => hu (by omega)⟩
      clear f0 hi hu
      rintro σ H' ⟨u, rfl, f0, hi, hu⟩
      -- if kind == 5
      refine ⟨M 5, ?_, ?_⟩
      · refine ⟨_, rfl, rfl, _, rfl, ?_⟩
        refine ite2 (fun e => ?_) (fun e => ?_)
        · have ek : kind = 5 := by
            have e2 := of_decide_eq_true e
            injection e2
          obtain rfl := hu (by omega)
          have hT' := f0 _ _ hT
          refine ⟨_, rfl, v, _, _, _, rfl, rfl, SqT.of hT', rfl, ?_⟩
          refine ⟨_, rfl, v, _, _, _, rfl, rfl, SqT.of hT', rfl, ?_⟩
          refine ⟨_, rfl, v, _, _, _, rfl, rfl, SqT.of hT', rfl, ?_⟩
          refine ⟨_, rfl, v, _, _, _, rfl, rfl, SqT.of hT', rfl, ?_⟩
          refine ⟨(by show 4 ≤ sizeLine; decide), fun p2 hp2 => ?_⟩
          exact ⟨_, rfl, f0.trans (Ex.new hp2), .tup (xs := [w1, w4, w3, w2].map V.int) upd_same fun x hx => kn_ints hx, fun z => by omega⟩
        · exact ⟨_, rfl, f0, hi, fun z => hu (by omega)⟩
      clear f0 hi hu
      rintro σ H' ⟨u, rfl, f0, hi, hu⟩
      refine ⟨_, rfl, u, rfl, hi, fun G1 f1 => ?_⟩
      refine ⟨_, rfl, _, _, .type "bool", _, true, rfl, .ty _, .base (.bl _), kit_ty (by decide +kernel), _, rfl, ?_⟩
      refine iteT ?_
      refine ⟨_, rfl, _, rfl, u, rfl, hi.mono f1, fun G2 f2 => ?_⟩
      refine ⟨rfl, ?_⟩
      rw [rectV_mono f1 hi]
      rw [decide_eq_true rfl]
      exact q _
end
theorem all_mk {l : PySem.W.OpenLaw} {w : World} {K : PySem.W.Frag} {h : Heap} {mg : Str → Option Value} {fa f0 f1 f2 f3 f4 f5 f6 : Addr} (X : K.In h) (G : h.Ns mainGlobals mg) (hfa : mg "law" = some (.ref fa))
    {od0 an0 od1 an1 od2 an2 od3 an3 od4 an4 od5 an5 od6 an6 : Option Addr} {sl0 sl1 sl2 sl3 sl4 sl5 sl6 : Array (Option Value)} {oc0 kV0 dc0 pm0 cd0 ct0 oc1 kV1 dc1 pm1 cd1 ct1 oc2 kV2 dc2 pm2 cd2 ct2 oc3 kV3 dc3 pm3 cd3 ct3 oc4 kV4 dc4 pm4 cd4 ct4 oc5 kV5 dc5 pm5 cd5 ct5 oc6 kV6 dc6 pm6 cd6 ct6 : Value}
    (a0 : PySem.W.nsIn K mainGlobals "is_whole" = some (some (.ref f0))) (l0 : K.lookup f0 = some ⟨oc0, od0, .func (PySem.W.fnOf "is_whole" "is_whole" (defArgs s_is_whole) (defBody s_is_whole) (defScope s_is_whole) .none kV0 dc0 pm0 an0 cd0 ct0), sl0⟩) (c0 : PySem.W.codeIn K cd0 "is_whole" = true) (k0 : PySem.W.keepIn K (.ref f0) = true)
    (a1 : PySem.W.nsIn K mainGlobals "is_rectangle" = some (some (.ref f1))) (l1 : K.lookup f1 = some ⟨oc1, od1, .func (PySem.W.fnOf "is_rectangle" "is_rectangle" (defArgs s_is_rectangle) (defBody s_is_rectangle) (defScope s_is_rectangle) .none kV1 dc1 pm1 an1 cd1 ct1), sl1⟩) (c1 : PySem.W.codeIn K cd1 "is_rectangle" = true) (k1 : PySem.W.keepIn K (.ref f1) = true)
    (a2 : PySem.W.nsIn K mainGlobals "_law_deck" = some (some (.ref f2))) (l2 : K.lookup f2 = some ⟨oc2, od2, .func (PySem.W.fnOf "_law_deck" "_law_deck" (defArgs s_l_deck) (defBody s_l_deck) (defScope s_l_deck) .none kV2 dc2 pm2 an2 cd2 ct2), sl2⟩) (c2 : PySem.W.codeIn K cd2 "_law_deck" = true) (k2 : PySem.W.keepIn K (.ref f2) = true)
    (a3 : PySem.W.nsIn K mainGlobals "_law_draw" = some (some (.ref f3))) (l3 : K.lookup f3 = some ⟨oc3, od3, .func (PySem.W.fnOf "_law_draw" "_law_draw" (defArgs s_l_draw) (defBody s_l_draw) (defScope s_l_draw) .none kV3 dc3 pm3 an3 cd3 ct3), sl3⟩) (c3 : PySem.W.codeIn K cd3 "_law_draw" = true) (k3 : PySem.W.keepIn K (.ref f3) = true)
    (a4 : PySem.W.nsIn K mainGlobals "_law_rectangle" = some (some (.ref f4))) (l4 : K.lookup f4 = some ⟨oc4, od4, .func (PySem.W.fnOf "_law_rectangle" "_law_rectangle" (defArgs s_l_rectangle) (defBody s_l_rectangle) (defScope s_l_rectangle) .none kV4 dc4 pm4 an4 cd4 ct4), sl4⟩) (c4 : PySem.W.codeIn K cd4 "_law_rectangle" = true) (k4 : PySem.W.keepIn K (.ref f4) = true)
    (a5 : PySem.W.nsIn K mainGlobals "_law_due" = some (some (.ref f5))) (l5 : K.lookup f5 = some ⟨oc5, od5, .func (PySem.W.fnOf "_law_due" "_law_due" (defArgs s_l_due) (defBody s_l_due) (defScope s_l_due) .none kV5 dc5 pm5 an5 cd5 ct5), sl5⟩) (c5 : PySem.W.codeIn K cd5 "_law_due" = true) (k5 : PySem.W.keepIn K (.ref f5) = true)
    (a6 : PySem.W.nsIn K mainGlobals "law" = some (some (.ref f6))) (l6 : K.lookup f6 = some ⟨oc6, od6, .func (PySem.W.fnOf "law" "law" (defArgs s_law) (defBody s_law) (defScope s_law) .none kV6 dc6 pm6 an6 cd6 ct6), sl6⟩) (c6 : PySem.W.codeIn K cd6 "law" = true) (k6 : PySem.W.keepIn K (.ref f6) = true)
    (z_abs : PySem.W.nsIn K mainGlobals "abs" = some none)
    (z_all : PySem.W.nsIn K mainGlobals "all" = some none)
    (z_bool : PySem.W.nsIn K mainGlobals "bool" = some none)
    (z_int : PySem.W.nsIn K mainGlobals "int" = some none)
    (z_isinstance : PySem.W.nsIn K mainGlobals "isinstance" = some none)
    (z_len : PySem.W.nsIn K mainGlobals "len" = some none)
    (z_list : PySem.W.nsIn K mainGlobals "list" = some none)
    (z_tuple : PySem.W.nsIn K mainGlobals "tuple" = some none)
    : ∃ fd : FuncData, (∀ (s : Shared) (v : Value), BindsTo s fd ⟨[v], []⟩ [("script", v)]) ∧ ∀ base : Heap, K.In base → base.Ns mainGlobals mg → FnOk l.prog w K mg base CX0 3 fa fd ["script"] (spLaw K) := by
  have e := hfa.symm.trans (PySem.W.mg_of X G a6)
  cases e
  have T : Txt K mg := ⟨PySem.W.mg_none_of X G z_abs, PySem.W.mg_none_of X G z_all, PySem.W.mg_none_of X G z_bool, PySem.W.mg_none_of X G z_int, PySem.W.mg_none_of X G z_isinstance, PySem.W.mg_none_of X G z_len, PySem.W.mg_none_of X G z_list, PySem.W.mg_none_of X G z_tuple⟩
  refine ⟨PySem.W.fnOf "law" "law" (defArgs s_law) (defBody s_law) (defScope s_law) .none kV6 dc6 pm6 an6 cd6 ct6, fun s v => .of_eq rfl, fun base _ _ => ?_⟩
  have F0 := fun_mk (st := s_is_whole) l0 c0 k0
  have D_is_whole : Def l.prog w K mg base CX0 "is_whole" 1 ["value"] (spWhole) := ⟨f0, _, ok_is_whole F0 T, PySem.W.mg_of X G a0, k0, F0.binds (ps := ["value"]) fun _ _ _ _ _ _ us hl => match us, hl with | [_], _ => rfl⟩
  have F1 := fun_mk (st := s_is_rectangle) l1 c1 k1
  have D_is_rectangle : Def l.prog w K mg base CX0 "is_rectangle" 2 ["value"] (spRect) := ⟨f1, _, ok_is_rectangle F1 T D_is_whole, PySem.W.mg_of X G a1, k1, F1.binds (ps := ["value"]) fun _ _ _ _ _ _ us hl => match us, hl with | [_], _ => rfl⟩
  have F2 := fun_mk (st := s_l_deck) l2 c2 k2
  have D_l_deck : Def l.prog w K mg base CX0 "_law_deck" 1 ["script"] (spDeck K) := ⟨f2, _, ok_l_deck F2 T, PySem.W.mg_of X G a2, k2, F2.binds (ps := ["script"]) fun _ _ _ _ _ _ us hl => match us, hl with | [_], _ => rfl⟩
  have F3 := fun_mk (st := s_l_draw) l3 c3 k3
  have D_l_draw : Def l.prog w K mg base CX0 "_law_draw" 1 ["deck", "bound"] (spDraw K) := ⟨f3, _, ok_l_draw F3 T, PySem.W.mg_of X G a3, k3, F3.binds (ps := ["deck", "bound"]) fun _ _ _ _ _ _ us hl => match us, hl with | [_, _], _ => rfl⟩
  have F4 := fun_mk (st := s_l_rectangle) l4 c4 k4
  have D_l_rectangle : Def l.prog w K mg base CX0 "_law_rectangle" 2 ["deck", "size"] (spRectangle K) := ⟨f4, _, ok_l_rectangle F4 T D_l_draw, PySem.W.mg_of X G a4, k4, F4.binds (ps := ["deck", "size"]) fun _ _ _ _ _ _ us hl => match us, hl with | [_, _], _ => rfl⟩
  have F5 := fun_mk (st := s_l_due) l5 c5 k5
  have D_l_due : Def l.prog w K mg base CX0 "_law_due" 1 ["value"] (spRect) := ⟨f5, _, ok_l_due F5 T, PySem.W.mg_of X G a5, k5, F5.binds (ps := ["value"]) fun _ _ _ _ _ _ us hl => match us, hl with | [_], _ => rfl⟩
  exact ok_law (fun_mk (st := s_law) l6 c6 k6) T D_l_deck D_l_draw D_l_rectangle D_is_rectangle D_l_due
theorem walk {l : PySem.W.OpenLaw} {q : Program} {loose : List Str} {XP : (Str → Option Value) → Heap → Prop} {YP : World → Heap → Prop} {d : DefRec} {K : Params → PySem.W.Frag} (hn : l.most = some 63) (hdf : d.params.defaults = [])
    (hY : ∀ (w : World) (h : Heap), YP w h → (K w.params).In h)
    (F : ∀ (w : World) (mg : Str → Option Value) (fa : Addr) (h : Heap), (K w.params).In h → h.Ns mainGlobals mg → mg d.name = some (.ref fa) →
      ∃ fd : FuncData, (∀ (s : Shared) (u : Value), BindsTo s fd ⟨[u], []⟩ [("script", u)]) ∧ ∀ base : Heap, (K w.params).In base → base.Ns mainGlobals mg → FnOk l.prog w (K w.params) mg base CX0 3 fa fd ["script"] (spLaw (K w.params))) :
    PySem.W.WalkO q loose XP YP l.row.toRowW d [] (fun f vs => PySem.call f vs) :=
  L2.walk_of (n := 63) (k := 3) (x := "script") (CX := fun _ => CX0) (sp := fun w => spLaw (K w.params)) hn (by decide) hdf ⟨rfl, by decide, by decide⟩ hY F (fun _ _ a ns hl _ hS => ⟨a, ns, rfl, hS, hl, fun _ => rfl⟩) fun _ _ _ _ _ z => z
end Od
open PySem PySem.W PyProof.Rows in
set_option maxRecDepth 100000 in
set_option maxHeartbeats 0 in
theorem PySem.Challenge.cw_onlythedirt_k01_rectangles_holds : PySem.Challenge.rw_onlythedirt_k01_rectangles.Holds := by
  w_on; o_law; k_head; (case hw => w_witness2)
  k_fill
  refine Od.walk (l := PySem.Challenge.rw_onlythedirt_k01_rectangles) rfl rfl (fun w h Y => PySem.W.kIn_of Y) ?F
  case F =>
    intro w mg fa h KX G hmg
    refine' Od.all_mk KX G hmg ?a0 ?l0 ?c0 ?k0 ?a1 ?l1 ?c1 ?k1 ?a2 ?l2 ?c2 ?k2 ?a3 ?l3 ?c3 ?k3 ?a4 ?l4 ?c4 ?k4 ?a5 ?l5 ?c5 ?k5 ?a6 ?l6 ?c6 ?k6 ?z_abs ?z_all ?z_bool ?z_int ?z_isinstance ?z_len ?z_list ?z_tuple
    (case a0 => k_is)
    (case l0 => k_is)
    (case c0 => k_is)
    (case k0 => k_is)
    (case a1 => k_is)
    (case l1 => k_is)
    (case c1 => k_is)
    (case k1 => k_is)
    (case a2 => k_is)
    (case l2 => k_is)
    (case c2 => k_is)
    (case k2 => k_is)
    (case a3 => k_is)
    (case l3 => k_is)
    (case c3 => k_is)
    (case k3 => k_is)
    (case a4 => k_is)
    (case l4 => k_is)
    (case c4 => k_is)
    (case k4 => k_is)
    (case a5 => k_is)
    (case l5 => k_is)
    (case c5 => k_is)
    (case k5 => k_is)
    (case a6 => k_is)
    (case l6 => k_is)
    (case c6 => k_is)
    (case k6 => k_is)
    (case z_abs => k_is)
    (case z_all => k_is)
    (case z_bool => k_is)
    (case z_int => k_is)
    (case z_isinstance => k_is)
    (case z_len => k_is)
    (case z_list => k_is)
    (case z_tuple => k_is)
