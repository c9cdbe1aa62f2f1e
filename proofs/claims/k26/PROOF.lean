import PyProof.Rows.All
import Wide.All
import OpenK.AllK
import Wide.FinOn
import HandS.ForMost
import HandS.Evl
import HandS.IsInst
import HandS.TupAny
import HandS.SortInts
import HandS.Conv
import HandS.TupLen
import HandS.TupMul
import HandS.Steps
import PyProof.ReprRoads
import PyProof.Rows.RegFStrParts
import HandS.Walk
import HandS.Iter
import PySem.Challenge.RW_onlythedirt_k26_whole_what_hides
set_option Elab.async false
set_option linter.all false
set_option maxRecDepth 100000
set_option maxHeartbeats 4000000
namespace Od
open PySem L2 Evl

/-! ### an object under another description -/
/-- the same objects, the one at a told otherwise -/
structure Swp (P : Program) (w : World) (H' H'' : Hp) (a : Addr) (o u : HO) : Prop where
  at1 : H' a = some o
  eq : H'' = upd H' a u
  nt : ∀ xs, o ≠ .tup xs
  nf : ∀ x y, o ≠ .frz x y
  nb : ∀ ps, o ≠ .tbl ps
  nw : ∀ x, o ≠ .own x
  to : ∀ h, HOk P w H' h → ObjOk P w H'' h a u
theorem Swp.ne {P : Program} {w : World} {H' H'' : Hp} {a b : Addr} {o u x : HO} (S : Swp P w H' H'' a o u) (h : H' b = some x) (d : o ≠ x) : b ≠ a := by
  intro e
  rw [e, S.at1] at h
  exact d (Option.some.inj h)
theorem Swp.hok {P : Program} {w : World} {H' H'' : Hp} {a : Addr} {o u : HO} {h : Heap} (S : Swp P w H' H'' a o u) (k : HOk P w H' h) : HOk P w H'' h := by
  intro b x e
  by_cases hb : b = a
  · subst hb
    have e2 := e
    rw [S.eq, upd_same] at e2
    cases e2
    exact S.to h k
  · have e1 : H' b = some x := by
      rw [S.eq, upd_ne hb] at e
      exact e
    refine (k b x e1).stay (fun c v _ q => q) (fun c q => ?_) (fun c xs q => ?_)
    · rw [S.eq, upd_ne (S.ne q (S.nw _))]
      exact q
    · rw [S.eq, upd_ne (S.ne q (S.nt _))]
      exact q
theorem Swp.unR {P : Program} {w : World} {H H' H'' : Hp} {a : Addr} {o u : HO} {h h' : Heap} {fs ex : List Addr} (S : Swp P w H' H'' a o u) (k : Un fs ex H H' h h') : Un fs ex H H'' h h' := by
  refine ⟨k.keep, k.slot, fun b x q n hx => ?_, k.there, fun b xs q => ?_, fun b x y q => ?_, fun b ps q => ?_⟩
  · have e := k.free b x q n hx
    rw [S.eq, upd_ne ?_]
    · exact e
    · intro z
      rw [z, S.at1] at e
      cases e
  · have e := k.tups b xs q
    rw [S.eq, upd_ne (S.ne e (S.nt _))]
    exact e
  · have e := k.frzs b x y q
    rw [S.eq, upd_ne (S.ne e (S.nf _ _))]
    exact e
  · obtain ⟨m, e⟩ := k.tbls b ps q
    refine ⟨m, ?_⟩
    rw [S.eq, upd_ne (S.ne e (S.nb _))]
    exact e
theorem Swp.unL {P : Program} {w : World} {H H1 H2 : Hp} {a : Addr} {o u : HO} {h h' : Heap} {fs ex : List Addr} (S : Swp P w H H1 a o u) (k : Un fs ex H1 H2 h h') : Un fs ex H H2 h h' := by
  have z : ∀ b, H b = none → H1 b = none := fun b n => by
    rw [S.eq, upd_ne ?_]
    · exact n
    · intro z
      rw [z, S.at1] at n
      cases n
  refine ⟨fun b x q n => k.keep b x q (z b n), fun b x q n => k.slot b x q (z b n), fun b x q n => k.free b x q (z b n), k.there, fun b xs q => k.tups b xs ?_, fun b x y q => k.frzs b x y ?_, fun b ps q => k.tbls b ps ?_⟩
  · rw [S.eq, upd_ne (S.ne q (S.nt _))]
    exact q
  · rw [S.eq, upd_ne (S.ne q (S.nf _ _))]
    exact q
  · rw [S.eq, upd_ne (S.ne q (S.nb _))]
    exact q
theorem Swp.env {P : Program} {w : World} {K : PySem.W.Frag} {mg : Str → Option Value} {base : Heap} {A : Around} {outer : List Env} {s : Shared} {H H1 : Hp} {a : Addr} {o u : HO}
    (S : Swp P w H H1 a o u) (e : Env0 P w K mg base A outer s H) : Env0 P w K mg base A outer s H1 := by
  have z : ∀ b, H b = none → H1 b = none := fun b n => by
    rw [S.eq, upd_ne ?_]
    · exact n
    · intro z
      rw [z, S.at1] at n
      cases n
  exact ⟨e.frames, e.mod, fun b x q => ⟨(e.bs b x q).1, z b (e.bs b x q).2⟩, e.bsz, e.funs, fun b hb => z b (e.frf b hb), S.hok e.hok, e.bare⟩

/-- behind a call the object at a is told otherwise -/
theorem CE.swp {P : Program} {w : World} {outer : List Env} {H : Hp} {s s' : Shared} {Q : VK} {u : Value}
    (h : CE outer P w H s (fun v H' => ∃ H'' a o x, Swp P w H' H'' a o x ∧ Q v H'') u s') : CE outer P w H s Q u s' := by
  obtain ⟨v, H', h1, h2, h3, h4, h5, H'', a, o, x, S, q⟩ := h
  exact ⟨v, H'', h1, h2, S.unR h3, S.hok h4, h5, q⟩
/-- a def's promise, its answer's object told otherwise -/
theorem FnOk.out {P : Program} {w : World} {K : PySem.W.Frag} {mg : Str → Option Value} {base : Heap} {k : Nat} {f : Addr} {fd : FuncData} {ps : List Str} {sp sp' : Sp} (F : FnOk P w K mg base CX0 k f fd ps sp)
    (hl : ∀ vs H Q E, sp' vs H Q E → vs.length = ps.length)
    (h : ∀ vs H Q E, sp' vs H Q E → sp vs H (fun v H' => ∃ H'' a o x, Swp P w H' H'' a o x ∧ Q v H'') E) : FnOk P w K mg base CX0 k f fd ps sp' := by
  refine ⟨hl, fun A outer s H args us vs Q E hr he hb hv hs => ?_⟩
  refine codeAny_mono (F.run A outer s H args us vs _ E hr he hb hv (h _ _ _ _ hs)) ?_
  intro r s' q
  match r, q with
  | .ok (.ret u), q => exact CE.swp q
  | .error e, q => exact q
end Od

namespace Od
open PySem L2 Evl

/-! ### the law's deck: a list whose state is not told -/
def deckV (n k seed : Int) (l : Addr) (c : Int) : List V := [.int n, .int k, .int seed, .ref l, .int c]
def IsDeck (l : Addr) (xs : List V) : Prop := ∃ n k seed c, xs = deckV n k seed l c ∧ 0 ≤ n ∧ 0 ≤ k ∧ 0 ≤ seed ∧ seed < 2147483647
def deckO (a l : Addr) : HO := .ext fun h => ∃ xs, IsDeck l xs ∧ ∃ (its : List Value) (n : Nat), Vals xs its ∧ h.get? a = some { cls := .type "list", data := .seq its.toArray n }
def DeckAt (K : PySem.W.Frag) (H : Hp) (a : Addr) : Prop := ∃ (l : Addr) (ns : List Int), H a = some (deckO a l) ∧ H l = some (.lst (ns.map V.int))
theorem DeckAt.mono {K : PySem.W.Frag} {H H' : Hp} {a : Addr} (e : Ex H H') (h : DeckAt K H a) : DeckAt K H' a := by
  obtain ⟨l, ns, h1, h2⟩ := h
  exact ⟨l, ns, e _ _ h1, e _ _ h2⟩
theorem isDeck_len {l : Addr} {xs : List V} (h : IsDeck l xs) : xs.length ≤ sizeLine := by
  obtain ⟨n, k, seed, c, rfl, _⟩ := h
  show 5 ≤ sizeLine
  decide
theorem deck_ok {P : Program} {w : World} {H : Hp} {h : Heap} {a l : Addr} {xs : List V} (d : IsDeck l xs) (k : ∃ (its : List Value) (n : Nat), Vals xs its ∧ h.get? a = some { cls := .type "list", data := .seq its.toArray n }) :
    ObjOk P w H h a (deckO a l) := by
  obtain ⟨its, n, r, e⟩ := k
  refine ⟨⟨xs, d, its, n, r, e⟩, ⟨_, e⟩, fun h1 h2 p q => ?_⟩
  obtain ⟨ys, d1, its1, n1, r1, e1⟩ := p
  exact ⟨ys, d1, its1, n1, r1, q _ e1⟩
/-- an open deck is closed -/
theorem swp_close {P : Program} {w : World} {H : Hp} {a l : Addr} {xs : List V} (h : H a = some (.lst xs)) (d : IsDeck l xs) : Swp P w H (upd H a (deckO a l)) a (.lst xs) (deckO a l) := by
  refine ⟨h, rfl, fun _ e => (nomatch e), fun _ _ e => (nomatch e), fun _ e => (nomatch e), fun _ e => (nomatch e), fun hp k => ?_⟩
  obtain ⟨_, its, n, r, e⟩ := k a _ h
  exact deck_ok d ⟨its, n, r, e⟩
/-- a closed deck is opened -/
theorem swp_open {P : Program} {w : World} {H : Hp} {h : Heap} {a l : Addr} (ha : H a = some (deckO a l)) (k : HOk P w H h) :
    ∃ xs, IsDeck l xs ∧ HOk P w (upd H a (.lst xs)) h := by
  obtain ⟨⟨xs, d, its, n, r, e⟩, _, _⟩ := k a _ ha
  refine ⟨xs, d, fun b x q => ?_⟩
  by_cases hb : b = a
  · subst hb
    rw [upd_same] at q
    cases q
    exact ⟨isDeck_len d, its, n, r, e⟩
  · rw [upd_ne hb] at q
    refine (k b x q).stay (fun c v _ q => q) (fun c q => ?_) (fun c xs q => ?_)
    · rw [upd_ne ?_]
      · exact q
      · intro z
        rw [z, ha] at q
        cases q
    · rw [upd_ne ?_]
      · exact q
      · intro z
        rw [z, ha] at q
        cases q
theorem un_open {H H2 : Hp} {a l : Addr} {xs : List V} {h h' : Heap} {fs ex : List Addr} (ha : H a = some (deckO a l)) (k : Un fs ex (upd H a (.lst xs)) H2 h h') : Un fs ex H H2 h h' := by
  have z : ∀ b, H b = none → upd H a (.lst xs) b = none := fun b n => by
    rw [upd_ne ?_]
    · exact n
    · intro z
      rw [z, ha] at n
      cases n
  refine ⟨fun b x q n => k.keep b x q (z b n), fun b x q n => k.slot b x q (z b n), fun b x q n => k.free b x q (z b n), k.there, fun b xs q => k.tups b xs ?_, fun b x y q => k.frzs b x y ?_, fun b ps q => k.tbls b ps ?_⟩
  · rw [upd_ne (ne_of q ha (fun e => nomatch e))]
    exact q
  · rw [upd_ne (ne_of q ha (fun e => nomatch e))]
    exact q
  · rw [upd_ne (ne_of q ha (fun e => nomatch e))]
    exact q
theorem env_open {P : Program} {w : World} {K : PySem.W.Frag} {mg : Str → Option Value} {base : Heap} {A : Around} {outer : List Env} {s : Shared} {H : Hp} {a l : Addr} {xs : List V} (ha : H a = some (deckO a l))
    (e : Env0 P w K mg base A outer s H) (hok : HOk P w (upd H a (.lst xs)) s.heap) : Env0 P w K mg base A outer s (upd H a (.lst xs)) := by
  have z : ∀ b, H b = none → upd H a (.lst xs) b = none := fun b n => by
    rw [upd_ne ?_]
    · exact n
    · intro z
      rw [z, ha] at n
      cases n
  exact ⟨e.frames, e.mod, fun b x q => ⟨(e.bs b x q).1, z b (e.bs b x q).2⟩, e.bsz, e.funs, fun b hb => z b (e.frf b hb), hok, e.bare⟩

/-- how a def that changes the open deck is told: n with 0 ≤ n < b -/
def spDrawO : Sp := fun vs H Q _ => ∃ (a : Addr) (b : Int) (l : Addr) (ns : List Int) (xs : List V), vs = [.ref a, .int b] ∧ H a = some (.lst xs) ∧ IsDeck l xs ∧ H l = some (.lst (ns.map V.int)) ∧ l ≠ a ∧ 0 < b ∧ b < 1073741824 ∧
  ∀ n ys, 0 ≤ n → n < b → IsDeck l ys → Q (.int n) (upd H a (.lst ys))
/-- .. the closed one -/
def spDraw (K : PySem.W.Frag) : Sp := fun vs H Q _ => ∃ a b, vs = [.ref a, .int b] ∧ DeckAt K H a ∧ 0 < b ∧ b < 1073741824 ∧ ∀ n, 0 ≤ n → n < b → Q (.int n) H
theorem upd_back {H : Hp} {a : Addr} {o u : HO} (h : H a = some o) : upd (upd H a u) a o = H := by
  funext b
  unfold upd
  by_cases e : b = a
  · simp [e, h]
  · simp [e]
theorem draw_closed {P : Program} {w : World} {K : PySem.W.Frag} {mg : Str → Option Value} {base : Heap} {k : Nat} {f : Addr} {fd : FuncData} {ps : List Str} (F : FnOk P w K mg base CX0 k f fd ps spDrawO) (hp : ps.length = 2) :
    FnOk P w K mg base CX0 k f fd ps (spDraw K) := by
  refine ⟨fun vs H Q E h => ?_, fun A outer s H args us vs Q E hr he hb hv hs => ?_⟩
  · obtain ⟨a, b, rfl, _⟩ := h
    exact hp.symm
  · obtain ⟨a, b, rfl, ⟨l, ns, h1, h2⟩, b0, b1, q⟩ := hs
    obtain ⟨xs, d, hok⟩ := swp_open h1 he.hok
    have hla : l ≠ a := ne_of h2 h1 (fun e => nomatch e)
    refine codeAny_mono (F.run A outer s (upd H a (.lst xs)) args us _ (fun v H' => ∃ ys, H' = upd H a (.lst ys) ∧ IsDeck l ys ∧ Q v H) E hr (env_open h1 he hok) hb hv ?_) ?_
    · refine ⟨a, b, l, ns, xs, rfl, upd_same, d, by rw [upd_ne hla]; exact h2, hla, b0, b1, fun n ys n0 n1 d2 => ⟨ys, ?_, d2, q n n0 n1⟩⟩
      rw [upd_upd]
    · intro r s' q2
      match r, q2 with
      | .ok (.ret u), q2 =>
        obtain ⟨v, H', c1, c2, c3, c4, c5, ys, rfl, d2, q3⟩ := q2
        have S := swp_close (P := P) (w := w) (H := upd H a (.lst ys)) (a := a) (l := l) upd_same d2
        have e := upd_back (u := .lst ys) h1
        rw [e] at S
        exact ⟨v, H, c1, c2, un_open h1 (S.unR c3), S.hok c4, c5, q3⟩
      | .error e, q2 => exact q2
/-- the def that makes the deck: open, closed -/
def spDeckO (K : PySem.W.Frag) : Sp := fun vs H Q _ => ∃ (a : Addr) (ns : List Int), vs = [.ref a] ∧ SqL K H a (ns.map V.int) ∧ ns.length ≤ 63 ∧ ∀ p l ys H', H p = none → Ex H H' → H' p = some (.lst ys) → IsDeck l ys → l ≠ p → H' l = some (.lst (ns.map V.int)) → Q (.ref p) H'
def spDeck (K : PySem.W.Frag) : Sp := fun vs H Q _ => ∃ (a : Addr) (ns : List Int), vs = [.ref a] ∧ SqL K H a (ns.map V.int) ∧ ns.length ≤ 63 ∧ ∀ p H', Ex H H' → DeckAt K H' p → Q (.ref p) H'
theorem deck_closed {P : Program} {w : World} {K : PySem.W.Frag} {mg : Str → Option Value} {base : Heap} {k : Nat} {f : Addr} {fd : FuncData} {ps : List Str} (F : FnOk P w K mg base CX0 k f fd ps (spDeckO K)) (hp : ps.length = 1) :
    FnOk P w K mg base CX0 k f fd ps (spDeck K) := by
  refine FnOk.out F (fun vs H Q E h => ?_) fun vs H Q E h => ?_
  · obtain ⟨a, ns, rfl, _⟩ := h
    exact hp.symm
  · obtain ⟨a, ns, rfl, h1, h2, q⟩ := h
    refine ⟨a, ns, rfl, h1, h2, fun p l ys H' hp e hy d hl h3 => ⟨upd H' p (deckO p l), p, .lst ys, deckO p l, swp_close hy d, q p _ ?_ ⟨l, ns, upd_same, by rw [upd_ne hl]; exact h3⟩⟩⟩
    exact Ex.mut e hp
end Od

namespace Od
open PySem L2 Evl

/-! ### what kind a value is -/
inductive Kn (H : Hp) : V → String → Prop
  | non : Kn H .non "NoneType"
  | bl (b : Bool) : Kn H (.bl b) "bool"
  | int (i : Int) : Kn H (.int i) "int"
  | str (x : Str) : Kn H (.str x) "str"
  | tup {a : Addr} {xs : List V} (h : H a = some (.tup xs)) : Kn H (.ref a) "tuple"
  | lst {a : Addr} {xs : List V} (h : H a = some (.lst xs)) : Kn H (.ref a) "list"
theorem Kn.mono {H H' : Hp} {v : V} {T : String} (e : Ex H H') (k : Kn H v T) : Kn H' v T := by
  cases k with
  | non => exact .non
  | bl b => exact .bl b
  | int i => exact .int i
  | str x => exact .str x
  | tup h => exact .tup (e _ _ h)
  | lst h => exact .lst (e _ _ h)
theorem Kn.ty {K : PySem.W.Frag} {H : Hp} {v : V} {T : String} (k : Kn H v T) : TyX K H v (.type T) := by
  cases k with
  | non => exact .base .non
  | bl b => exact .base (.bl b)
  | int i => exact .base (.int i)
  | str x => exact .base (.str x)
  | tup h => exact .base (.tup h)
  | lst h => exact .base (.lst h)
/-- isinstance of such a value -/
def isA (T n : String) : Bool := T == n || (T == "bool" && n == "int")
theorem kit_int {H : Hp} {v : V} {T : String} (k : Kn H v T) : kitB T "int" = some (isA T "int") := by
  cases k <;> decide +kernel
theorem kit_bool {H : Hp} {v : V} {T : String} (k : Kn H v T) : kitB T "bool" = some (isA T "bool") := by
  cases k <;> decide +kernel
theorem kit_tuple {H : Hp} {v : V} {T : String} (k : Kn H v T) : kitB T "tuple" = some (isA T "tuple") := by
  cases k <;> decide +kernel
theorem kit_list {H : Hp} {v : V} {T : String} (k : Kn H v T) : kitB T "list" = some (isA T "list") := by
  cases k <;> decide +kernel
theorem kit_str {H : Hp} {v : V} {T : String} (k : Kn H v T) : kitB T "str" = some (isA T "str") := by
  cases k <;> decide +kernel
theorem isi {K : PySem.W.Frag} {H : Hp} {v : V} {T n : String} {b : Bool} {Q : VK} (k : Kn H v T) (h : kitB T n = some b) (q : Q (.bl b) H) : rIsi K [v, .ty n] H Q :=
  ⟨v, _, _, _, b, rfl, .ty n, k.ty, kit_ty h, q⟩
def isI : V → Bool
  | .int _ => true
  | _ => false
theorem Kn.whole {H : Hp} {v : V} {T : String} (k : Kn H v T) : (isA T "int" && !isA T "bool") = isI v := by
  have h1 : (isA "NoneType" "int" && !isA "NoneType" "bool") = false := by decide +kernel
  have h2 : (isA "bool" "int" && !isA "bool" "bool") = false := by decide +kernel
  have h3 : (isA "int" "int" && !isA "int" "bool") = true := by decide +kernel
  have h4 : (isA "str" "int" && !isA "str" "bool") = false := by decide +kernel
  have h5 : (isA "tuple" "int" && !isA "tuple" "bool") = false := by decide +kernel
  have h6 : (isA "list" "int" && !isA "list" "bool") = false := by decide +kernel
  cases k with
  | non => exact h1
  | bl b => exact h2
  | int i => exact h3
  | str x => exact h4
  | tup h => exact h5
  | lst h => exact h6

/-- a comprehension's turn without a test -/
theorem lcY {σ : L2.St} {H : Hp} {A B : Hp → Prop} (h : A H) : tYes σ H (fun b H3 => if b = true then A H3 else B H3) := by
  show if true = true then A H else B H
  exact iteT h
/-- a def that is called: where it stands, what it promises -/
structure Def (P : Program) (w : World) (K : PySem.W.Frag) (mg : Str → Option Value) (base : Heap) (CX : CXT) (x : Str) (k : Nat) (ps : List Str) (sp : Sp) where
  f : Addr
  fd : FuncData
  ok : FnOk P w K mg base CX k f fd ps sp
  mgf : mg x = some (.ref f)
  kp : PySem.W.keepIn K (.ref f) = true
  b : L2.Binds K fd ps []
end Od

namespace Od
open PySem L2 Evl

theorem bt_isinstance : bootBuiltins "isinstance" = some (.builtin "isinstance") := by decide +kernel
theorem bt_len : bootBuiltins "len" = some (.builtin "len") := by decide +kernel
theorem bt_abs : bootBuiltins "abs" = some (.builtin "abs") := by decide +kernel
theorem bt_all : bootBuiltins "all" = some (.builtin "all") := by decide +kernel
theorem bt_any : bootBuiltins "any" = some (.builtin "any") := by decide +kernel
theorem bt_sorted : bootBuiltins "sorted" = some (.builtin "sorted") := by decide +kernel
theorem bt_min : bootBuiltins "min" = some (.builtin "min") := by decide +kernel
theorem bt_max : bootBuiltins "max" = some (.builtin "max") := by decide +kernel
theorem bt_sum : bootBuiltins "sum" = some (.builtin "sum") := by decide +kernel
theorem bt_repr : bootBuiltins "repr" = some (.builtin "repr") := by decide +kernel
theorem bt_int : bootBuiltins "int" = some (.type "int") := by decide +kernel
theorem bt_bool : bootBuiltins "bool" = some (.type "bool") := by decide +kernel
theorem bt_tuple : bootBuiltins "tuple" = some (.type "tuple") := by decide +kernel
theorem bt_list : bootBuiltins "list" = some (.type "list") := by decide +kernel
theorem bt_str : bootBuiltins "str" = some (.type "str") := by decide +kernel
theorem bt_range : bootBuiltins "range" = some (.type "range") := by decide +kernel
theorem bt_enumerate : bootBuiltins "enumerate" = some (.type "enumerate") := by decide +kernel
theorem bt_zip : bootBuiltins "zip" = some (.type "zip") := by decide +kernel
theorem bt_ValueError : bootBuiltins "ValueError" = some (.type "ValueError") := by decide +kernel
theorem pickV {xs : List V} {i : Int} (h0 : 0 ≤ i) (h1 : i < xs.length) : ∃ v, v ∈ xs ∧ atI xs i = some v := by
  obtain ⟨m, rfl⟩ := Int.eq_ofNat_of_zero_le h0
  have hm : m < xs.length := by omega
  exact ⟨xs[m], List.getElem_mem hm, atI_nat (List.getElem?_eq_getElem hm)⟩
theorem pickI {ns : List Int} {i : Int} (h0 : 0 ≤ i) (h1 : i < ns.length) : ∃ w, w ∈ ns ∧ atI (ns.map V.int) i = some (.int w) := by
  obtain ⟨m, rfl⟩ := Int.eq_ofNat_of_zero_le h0
  have hm : m < ns.length := by omega
  exact ⟨ns[m], List.getElem_mem hm, atI_nat (by rw [List.getElem?_map, List.getElem?_eq_getElem hm]; rfl)⟩
theorem ex_free {H H' : Hp} {p : Addr} (e : Ex H H') (h : H' p = none) : H p = none := fresh_back e h
/-- a rectangle of ints stands at p -/
def RectAt (H : Hp) (p : Addr) (l t r b : Int) : Prop := H p = some (.tup [.int l, .int t, .int r, .int b])
theorem cutV_whole {xs : List V} {lo hi : Option Int} (h : HT.sIx xs.length 0 lo = 0 ∧ HT.sIx xs.length xs.length hi = xs.length) : cutV xs lo hi = xs := by
  unfold cutV
  rw [h.1, h.2]
  simp
structure RSlS (K : PySem.W.Frag) (x : V) (lo hi : Option Int) (H : Hp) (Q : VK) : Prop where
  h : rSlA K x lo hi H Q
structure RCatS (K : PySem.W.Frag) (x y : V) (H : Hp) (Q : VK) : Prop where
  h : rCatA K x y H Q
theorem slA {K : PySem.W.Frag} {H : Hp} {a : Addr} {xs : List V} {lo hi : Option Int} {Q : VK} (h : H a = some (.tup xs)) (q : ∀ p H', Ex H H' → H' p = some (.tup (cutV xs lo hi)) → Q (.ref p) H') : RSlS K (.ref a) lo hi H Q := by
  refine .mk ?_
  refine ⟨a, xs, rfl, SqT.of h, fun hw => ?_, fun _ p hp => q p _ (Ex.new hp) upd_same⟩
  refine q a H (Ex.refl _) ?_
  rw [cutV_whole hw]
  exact h
theorem catA {K : PySem.W.Frag} {H : Hp} {a b : Addr} {xs ys : List V} {Q : VK} (h : H a = some (.tup xs)) (h' : H b = some (.tup ys)) (hl : xs.length + ys.length ≤ sizeLine) (q : ∀ p H', Ex H H' → H' p = some (.tup (xs ++ ys)) → Q (.ref p) H') : RCatS K (.ref a) (.ref b) H Q := by
  refine .mk ?_
  refine ⟨a, b, xs, ys, rfl, rfl, SqT.of h, SqT.of h', hl, fun e => ?_, fun _ e => ?_, fun _ _ p hp => q p _ (Ex.new hp) upd_same⟩
  · refine q b H (Ex.refl _) ?_
    rw [e]
    exact h'
  · refine q a H (Ex.refl _) ?_
    rw [e, List.append_nil]
    exact h
theorem mem_cutV {xs : List V} {lo hi : Option Int} {x : V} (h : x ∈ cutV xs lo hi) : x ∈ xs := List.mem_of_mem_drop (List.mem_of_mem_take h)
end Od

namespace Od
open PySem L2 Evl
/-! ### the rules with the written part told -/
section
variable {X : Cx} (K : PySem.W.Frag)
theorem kisi (h : X.K = K := by rfl) : CallR X (.builtin "isinstance") (rIsi K) := by
  subst h
  exact call_isi
theorem kixL (h : X.K = K := by rfl) : IxR X (rIxL K) := by
  subst h
  exact ix_list
theorem kixT (h : X.K = K := by rfl) : IxR X (rIxT K) := by
  subst h
  exact ix_tup
theorem kixS (h : X.K = K := by rfl) : IxR X (rIx K) := by
  subst h
  exact ix_seq
theorem kslL (h : X.K = K := by rfl) : SlR X (rSlL K) := by
  subst h
  exact sl_list
theorem kslA (h : X.K = K := by rfl) : SlR X (RSlS K) := by
  subst h
  exact fun pins s σ H x v vl vu lo hi sl Q I r hs pl pu q => sl_tupA pins s σ H x v vl vu lo hi sl Q I r hs pl pu q.h
theorem kcatA (h : X.K = K := by rfl) : OpR X (binaryOp .Add) (RCatS K) := by
  subst h
  exact fun pins s σ H x y v u Q I rx ry q => op_catA pins s σ H x y v u Q I rx ry q.h
theorem krepT (h : X.K = K := by rfl) : OpR X (binaryOp .Mult) (rRepT K) := by
  subst h
  exact op_repT
theorem keqD (hu : X.A.units + 64 < cLine) (h : X.K = K := by rfl) : OpR X (compareOp .Eq) (rEqD K) := by
  subst h
  exact op_eqD hu
theorem kneD (hu : X.A.units + 64 < cLine) (h : X.K = K := by rfl) : OpR X (compareOp .NotEq) (rNeD K) := by
  subst h
  exact op_neD hu
theorem kin (h : X.K = K := by rfl) : OpR X (compareOp .In) (rIn K false) := by
  subst h
  exact op_in_seq
theorem knotin (h : X.K = K := by rfl) : OpR X (compareOp .NotIn) (rIn K true) := by
  subst h
  exact op_notIn_seq
theorem klen (h : X.K = K := by rfl) : CallR X (.builtin "len") (rLenS K) := by
  subst h
  exact call_len_seq
theorem klist (h : X.K = K := by rfl) : CallR X (.type "list") (rListS K) := by
  subst h
  exact call_list_of
def rTupS (K : PySem.W.Frag) : List V → Hp → VK → Prop := fun xs H Q => ∃ p ys, xs = [.ref p] ∧ ((SqL K H p ys ∧ ∀ l, H l = none → Q (.ref l) (upd H l (.tup ys))) ∨ (SqT K H p ys ∧ Q (.ref p) H))
theorem ktuple (h : X.K = K := by rfl) : CallR X (.type "tuple") (rTupS K) := by
  subst h
  exact call_tuple_of
theorem ksum (hc : X.calm = true) (h : X.K = K := by rfl) : CallR X (.builtin "sum") (rSum K) := by
  subst h
  exact cr_sum hc
theorem kmax (hc : X.calm = true) (h : X.K = K := by rfl) : CallR X (.builtin "max") (rMax K) := by
  subst h
  exact cr_max hc
theorem kmin (hc : X.calm = true) (h : X.K = K := by rfl) : CallR X (.builtin "min") (rMin K) := by
  subst h
  exact cr_min hc
theorem kall (hc : X.calm = true) (h : X.K = K := by rfl) : CallR X (.builtin "all") (rAll K) := by
  subst h
  exact cr_all hc
theorem kany (hc : X.calm = true) (h : X.K = K := by rfl) : CallR X (.builtin "any") (rAny K) := by
  subst h
  exact cr_any hc
theorem ksorted (h : X.K = K := by rfl) : CallR X (.builtin "sorted") (rSortedI K) := by
  subst h
  exact cr_sortedI
variable {tg : Expr}
theorem kpiL {l : Expr} {tl : TE} (hl : PE X l tl) (h : X.K = K := by rfl) : PI X tg l (iList K tl) := by
  subst h
  exact pi_list hl
theorem kpiT {l : Expr} {tl : TE} (hl : PE X l tl) (h : X.K = K := by rfl) : PI X tg l (iTup K tl) := by
  subst h
  exact pi_tup hl
theorem kpgT {es : List Expr} {k : Nat} {t : TGs} {n : Nat} {pos : Pos} (hc : X.calm = true) (hh : PGs X es t) (hn : (assignEach es X.env).length = n := by rfl) (hst : (assignEach es X.env).findIdx? (·.1) = none := by rfl) (h : X.K = K := by rfl) : PG X (.Tuple es k pos) (gTup K n t) := by
  subst h
  exact pg_tup hc hh hn hst
theorem ktru {a : Expr} {ta : TE} (ha : PE X a ta) (he : ∀ whole, isTrue a X.env whole = (do let v ← whole; standAt a.pos; holding [v] (truthy v)) := by intro _; rfl) (h : X.K = K := by rfl) : PT X a (L2.tTru K ta) := by
  subst h
  exact pt_truth ha he
end
end Od

namespace Od
open PySem L2 Evl

/-! ### tuples stay -/
def TK (H H' : Hp) : Prop := ∀ a xs, H a = some (.tup xs) → H' a = some (.tup xs)
theorem TK.refl (H : Hp) : TK H H := fun _ _ h => h
theorem TK.trans {H H1 H2 : Hp} (a : TK H H1) (b : TK H1 H2) : TK H H2 := fun x o h => b x o (a x o h)
theorem TK.ex {H H' : Hp} (e : Ex H H') : TK H H' := fun a xs h => e a _ h
theorem TK.lst {H : Hp} {p : Addr} {xs : List V} {o : HO} (h : H p = some (.lst xs)) : TK H (upd H p o) := fun a ys h' => by
  rw [upd_ne]
  · exact h'
  · intro e
    rw [e, h] at h'
    cases h'
theorem TK.dT {H : Hp} {p : Addr} {xs : List (List Key × V)} {o : HO} (h : H p = some (.dT xs)) : TK H (upd H p o) := fun a ys h' => by
  rw [upd_ne]
  · exact h'
  · intro e
    rw [e, h] at h'
    cases h'
theorem TK.dK {H : Hp} {p : Addr} {xs : List (Key × V)} {o : HO} (h : H p = some (.dK xs)) : TK H (upd H p o) := fun a ys h' => by
  rw [upd_ne]
  · exact h'
  · intro e
    rw [e, h] at h'
    cases h'
theorem TK.fresh {H : Hp} {p : Addr} {o : HO} (h : H p = none) : TK H (upd H p o) := TK.ex (Ex.new h)

/-! ### lists of pairs, of rectangles -/
abbrev Pt := Int × Int
structure Rc where
  l : Int
  t : Int
  r : Int
  b : Int
  deriving DecidableEq
def PtV (H : Hp) (v : V) (q : Pt) : Prop := ∃ p, v = .ref p ∧ H p = some (.tup [.int q.1, .int q.2])
def RcV (H : Hp) (v : V) (q : Rc) : Prop := ∃ p, v = .ref p ∧ H p = some (.tup [.int q.l, .int q.t, .int q.r, .int q.b])
theorem PtV.tk {H H' : Hp} {v : V} {q : Pt} (e : TK H H') (h : PtV H v q) : PtV H' v q := by
  obtain ⟨p, rfl, h⟩ := h
  exact ⟨p, rfl, e _ _ h⟩
theorem RcV.tk {H H' : Hp} {v : V} {q : Rc} (e : TK H H') (h : RcV H v q) : RcV H' v q := by
  obtain ⟨p, rfl, h⟩ := h
  exact ⟨p, rfl, e _ _ h⟩
abbrev RcsV (H : Hp) : List V → List Rc → Prop := Paired (RcV H)
abbrev PtsV (H : Hp) : List V → List Pt → Prop := Paired (PtV H)
theorem RcsV.tk {H H' : Hp} {vs : List V} {qs : List Rc} (e : TK H H') (h : RcsV H vs qs) : RcsV H' vs qs := Paired.mapP h fun _ _ => RcV.tk e
theorem PtsV.tk {H H' : Hp} {vs : List V} {qs : List Pt} (e : TK H H') (h : PtsV H vs qs) : PtsV H' vs qs := Paired.mapP h fun _ _ => PtV.tk e
theorem pr_get {α β : Type} {G : α → β → Prop} : ∀ {l₁ : List α} {l₂ : List β}, Paired G l₁ l₂ → ∀ {i : Nat} {a : α}, l₁[i]? = some a → ∃ b, l₂[i]? = some b ∧ G a b
  | _, _, .nil, i, a, h => by simp at h
  | _, _, .cons r t, 0, a, h => by
    simp at h
    subst h
    exact ⟨_, rfl, r⟩
  | _, _, .cons r t, i + 1, a, h => by
    obtain ⟨b, h1, h2⟩ := pr_get t (i := i) (a := a) (by simpa using h)
    exact ⟨b, by simpa using h1, h2⟩
theorem pr_getR {α β : Type} {G : α → β → Prop} : ∀ {l₁ : List α} {l₂ : List β}, Paired G l₁ l₂ → ∀ {i : Nat} {b : β}, l₂[i]? = some b → ∃ a, l₁[i]? = some a ∧ G a b
  | _, _, .nil, i, a, h => by simp at h
  | _, _, .cons r t, 0, a, h => by
    simp at h
    subst h
    exact ⟨_, rfl, r⟩
  | _, _, .cons r t, i + 1, a, h => by
    obtain ⟨b, h1, h2⟩ := pr_getR t (i := i) (b := a) (by simpa using h)
    exact ⟨b, by simpa using h1, h2⟩
theorem pr_append {α β : Type} {G : α → β → Prop} : ∀ {l₁ k₁ : List α} {l₂ k₂ : List β}, Paired G l₁ l₂ → Paired G k₁ k₂ → Paired G (l₁ ++ k₁) (l₂ ++ k₂)
  | _, _, _, _, .nil, h => h
  | _, _, _, _, .cons r t, h => .cons r (pr_append t h)
/-- an item of a list of rectangles at an index that lies in it -/
theorem pickR {H : Hp} {vs : List V} {qs : List Rc} (h : RcsV H vs qs) {i : Int} (h0 : 0 ≤ i) (h1 : i < vs.length) : ∃ p q, q ∈ qs ∧ atI vs i = some (.ref p) ∧ H p = some (.tup [.int q.l, .int q.t, .int q.r, .int q.b]) := by
  obtain ⟨m, rfl⟩ := Int.eq_ofNat_of_zero_le h0
  have hm : m < vs.length := by omega
  obtain ⟨q, hq, p, e, hp⟩ := pr_get h (List.getElem?_eq_getElem hm)
  exact ⟨p, q, List.mem_of_getElem? hq, by rw [← e]; exact atI_nat (List.getElem?_eq_getElem hm), hp⟩
/-- the bounds of drawn rectangles -/
def Small (m : Int) (q : Rc) : Prop := q.l < q.r ∧ q.t < q.b ∧ q.r - q.l ≤ 50 ∧ q.b - q.t ≤ 50 ∧ -m ≤ q.l ∧ q.r ≤ m ∧ -m ≤ q.t ∧ q.b ≤ m
theorem Small.mono {m n : Int} {q : Rc} (h : Small m q) (e : m ≤ n) : Small n q := by
  obtain ⟨a, b, c, d, e1, e2, e3, e4⟩ := h
  refine ⟨a, b, c, d, ?_, ?_, ?_, ?_⟩ <;> omega
theorem sline {n : Nat} (h : n ≤ 1000000) : n ≤ sizeLine := Nat.le_trans h (by decide)
theorem slineL {n : Nat} (h : n < 1000000) : n < sizeLine := Nat.lt_of_lt_of_le h (by decide)
end Od

namespace Od
open PySem L2 Evl

/-! ### a dict of points -/
def ptK (q : Pt) : List Key := [.inl q.1, .inl q.2]
def mkd (pts : List Pt) : List (List Key × V) := pts.map fun q => (ptK q, V.bl true)
theorem ptK_inj {a b : Pt} (h : ptK a = ptK b) : a = b := by
  unfold ptK at h
  injection h with h1 h2
  injection h2 with h2 _
  injection h1 with h1
  injection h2 with h2
  exact Prod.ext h1 h2
theorem ptK_dec (a b : Pt) : decide (ptK a = ptK b) = decide (a = b) := by
  by_cases e : a = b
  · rw [e, decide_eq_true rfl, decide_eq_true rfl]
  · rw [decide_eq_false e, decide_eq_false fun z => e (ptK_inj z)]
theorem mkd_any (pts : List Pt) (q : Pt) : ((mkd pts).any fun kv => decide (kv.1 = ptK q)) = decide (q ∈ pts) := by
  unfold mkd
  rw [List.any_map]
  induction pts with
  | nil => simp
  | cons p r ih =>
    rw [List.any_cons, ih]
    show (decide (ptK p = ptK q) || decide (q ∈ r)) = decide (q ∈ p :: r)
    rw [ptK_dec]
    by_cases h1 : p = q
    · simp [h1]
    · by_cases h2 : q ∈ r
      · simp [h2]
      · have : ¬ q = p := fun e => h1 e.symm
        simp [h1, h2, this]
theorem mkd_put (pts : List Pt) (q : Pt) : putK (mkd pts) (ptK q) (V.bl true) = mkd (if q ∈ pts then pts else pts ++ [q]) := by
  unfold putK
  rw [mkd_any]
  by_cases h : q ∈ pts
  · rw [if_pos h, decide_eq_true h, if_pos rfl]
    unfold mkd
    rw [List.map_map]
    refine List.map_congr_left fun p _ => ?_
    show (if ptK p = ptK q then (ptK p, V.bl true) else (ptK p, V.bl true)) = (ptK p, V.bl true)
    split <;> rfl
  · rw [if_neg h, decide_eq_false h, if_neg Bool.false_ne_true]
    unfold mkd
    rw [List.map_append]
    rfl
theorem mkd_val (pts : List Pt) (q : Pt) : (valV (mkd pts) (ptK q)).isSome = decide (q ∈ pts) := by
  rw [← valV_any, mkd_any]
def addP (pts : List Pt) (q : Pt) : List Pt := if q ∈ pts then pts else pts ++ [q]
theorem mem_addP {pts : List Pt} {q p : Pt} : p ∈ addP pts q ↔ p ∈ pts ∨ p = q := by
  unfold addP
  split
  · rename_i h
    constructor
    · exact .inl
    · rintro (h1 | rfl)
      · exact h1
      · exact h
  · simp
theorem nodup_addP {pts : List Pt} {q : Pt} (h : pts.Nodup) : (addP pts q).Nodup := by
  unfold addP
  split
  · exact h
  · rename_i hn
    rw [List.nodup_append]
    refine ⟨h, by simp, fun a ha b hb => ?_⟩
    rw [List.mem_singleton.mp hb]
    intro e
    rw [e] at ha
    exact hn ha
theorem len_addP (pts : List Pt) (q : Pt) : (addP pts q).length ≤ pts.length + 1 := by
  unfold addP
  split
  · omega
  · simp
theorem mkd_len (pts : List Pt) : (mkd pts).length = pts.length := by
  unfold mkd
  rw [List.length_map]
def inRc (q : Rc) (x y : Int) : Prop := q.l ≤ x ∧ x < q.r ∧ q.t ≤ y ∧ y < q.b
theorem mem_take_succ {α : Type} {l : List α} {i : Nat} {a x : α} (h : l[i]? = some a) : x ∈ l.take (i + 1) ↔ x ∈ l.take i ∨ x = a := by
  rw [List.take_add_one, h]
  simp
end Od

namespace Od

/-! ### runs -/
def RunsFrom : Int → List Pt → Prop
  | _, [] => True
  | b, q :: t => b < q.1 ∧ q.1 < q.2 ∧ RunsFrom q.2 t
def inRuns (rs : List Pt) (x : Int) : Prop := ∃ q ∈ rs, q.1 ≤ x ∧ x < q.2
theorem RunsFrom.mono {b c : Int} {rs : List Pt} (h : RunsFrom b rs) (e : c ≤ b) : RunsFrom c rs := by
  cases rs with
  | nil => trivial
  | cons q t => exact ⟨by have := h.1; omega, h.2.1, h.2.2⟩
theorem RunsFrom.lt {b : Int} : ∀ {rs : List Pt} {b : Int} {x : Int}, RunsFrom b rs → inRuns rs x → b < x
  | [], _, _, _, ⟨_, h, _⟩ => by simp at h
  | q :: t, b, x, h, ⟨p, hp, h1, h2⟩ => by
    rcases List.mem_cons.mp hp with rfl | hp
    · have := h.1
      omega
    · have := RunsFrom.lt (b := b) h.2.2 ⟨p, hp, h1, h2⟩
      have := h.1
      have := h.2.1
      omega
theorem inRuns_cons {q : Pt} {t : List Pt} {x : Int} : inRuns (q :: t) x ↔ (q.1 ≤ x ∧ x < q.2) ∨ inRuns t x := by
  constructor
  · rintro ⟨p, hp, h⟩
    rcases List.mem_cons.mp hp with rfl | hp
    · exact .inl h
    · exact .inr ⟨p, hp, h⟩
  · rintro (h | ⟨p, hp, h⟩)
    · exact ⟨q, by simp, h⟩
    · exact ⟨p, by simp [hp], h⟩
theorem inRuns_nil {x : Int} : ¬ inRuns [] x := fun ⟨_, h, _⟩ => by simp at h
theorem RunsFrom.some {b : Int} {q : Pt} {t : List Pt} (h : RunsFrom b (q :: t)) : inRuns (q :: t) q.1 := inRuns_cons.mpr (.inl ⟨by omega, h.2.1⟩)
theorem runs_uniq : ∀ {rs ss : List Pt} {b c : Int}, RunsFrom b rs → RunsFrom c ss → (∀ x, inRuns rs x ↔ inRuns ss x) → rs = ss
  | [], [], _, _, _, _, _ => rfl
  | [], q :: t, _, _, _, h, e => absurd ((e q.1).mpr h.some) inRuns_nil
  | q :: t, [], _, _, h, _, e => absurd ((e q.1).mp h.some) inRuns_nil
  | q :: t, p :: u, b, c, h, k, e => by
    have e1 : q.1 = p.1 := by
      have h1 := (e q.1).mp h.some
      have k1 := (e p.1).mpr k.some
      have h2 : p.1 ≤ q.1 := by
        rcases inRuns_cons.mp h1 with z | z
        · omega
        · have := RunsFrom.lt (b := b) k.2.2 z
          have := k.2.1
          omega
      have k2 : q.1 ≤ p.1 := by
        rcases inRuns_cons.mp k1 with z | z
        · omega
        · have := RunsFrom.lt (b := b) h.2.2 z
          have := h.2.1
          omega
      omega
    have hq := h.2.1
    have kp := k.2.1
    have e2 : q.2 = p.2 := by
      rcases Int.lt_trichotomy q.2 p.2 with z | z | z
      · exfalso
        have h1 : inRuns (p :: u) q.2 := inRuns_cons.mpr (.inl ⟨by omega, z⟩)
        rcases inRuns_cons.mp ((e q.2).mpr h1) with y | y
        · omega
        · have := RunsFrom.lt (b := b) h.2.2 y
          omega
      · exact z
      · exfalso
        have h1 : inRuns (q :: t) p.2 := inRuns_cons.mpr (.inl ⟨by omega, z⟩)
        rcases inRuns_cons.mp ((e p.2).mp h1) with y | y
        · omega
        · have := RunsFrom.lt (b := b) k.2.2 y
          omega
    have eq : q = p := Prod.ext e1 e2
    subst eq
    have et : t = u := runs_uniq h.2.2 k.2.2 fun x => by
      constructor
      · intro z
        have := RunsFrom.lt (b := b) h.2.2 z
        rcases inRuns_cons.mp ((e x).mp (inRuns_cons.mpr (.inr z))) with y | y
        · omega
        · exact y
      · intro z
        have := RunsFrom.lt (b := b) k.2.2 z
        rcases inRuns_cons.mp ((e x).mpr (inRuns_cons.mpr (.inr z))) with y | y
        · omega
        · exact y
    rw [et]
def RunsOk (rs : List Pt) : Prop := ∃ b, RunsFrom b rs

/-! ### bands -/
structure Bd where
  t : Int
  b : Int
  rs : List Pt
  deriving DecidableEq
def BandsFrom : Int → List Pt → List Bd → Prop
  | _, _, [] => True
  | y, prev, d :: t => y ≤ d.t ∧ (y = d.t → prev ≠ d.rs) ∧ d.t < d.b ∧ d.rs ≠ [] ∧ RunsOk d.rs ∧ BandsFrom d.b d.rs t
def inBands (bs : List Bd) (x y : Int) : Prop := ∃ d ∈ bs, d.t ≤ y ∧ y < d.b ∧ inRuns d.rs x
theorem inBands_nil {x y : Int} : ¬ inBands [] x y := fun ⟨_, h, _⟩ => by simp at h
theorem inBands_cons {d : Bd} {t : List Bd} {x y : Int} : inBands (d :: t) x y ↔ (d.t ≤ y ∧ y < d.b ∧ inRuns d.rs x) ∨ inBands t x y := by
  constructor
  · rintro ⟨p, hp, h⟩
    rcases List.mem_cons.mp hp with rfl | hp
    · exact .inl h
    · exact .inr ⟨p, hp, h⟩
  · rintro (h | ⟨p, hp, h⟩)
    · exact ⟨d, by simp, h⟩
    · exact ⟨p, by simp [hp], h⟩
theorem BandsFrom.le : ∀ {bs : List Bd} {y : Int} {p : List Pt} {x y' : Int}, BandsFrom y p bs → inBands bs x y' → y ≤ y'
  | [], _, _, _, _, _, h => absurd h inBands_nil
  | d :: t, y, p, x, y', h, k => by
    rcases inBands_cons.mp k with z | z
    · have := h.1
      omega
    · have := BandsFrom.le h.2.2.2.2.2 z
      have := h.1
      have := h.2.2.1
      omega
theorem BandsFrom.mono {bs : List Bd} {y y' : Int} (h : BandsFrom y [] bs) (e : y' ≤ y) : BandsFrom y' [] bs := by
  cases bs with
  | nil => trivial
  | cons d t => exact ⟨by have := h.1; omega, fun _ => fun z => h.2.2.2.1 z.symm, h.2.2⟩
/-- the rows of the first band, the rows behind it -/
theorem BandsFrom.row {d : Bd} {t : List Bd} {y : Int} {p : List Pt} (h : BandsFrom y p (d :: t)) {x y' : Int} (h1 : d.t ≤ y') (h2 : y' < d.b) : inBands (d :: t) x y' ↔ inRuns d.rs x := by
  rw [inBands_cons]
  constructor
  · rintro (z | z)
    · exact z.2.2
    · have := BandsFrom.le h.2.2.2.2.2 z
      omega
  · exact fun z => .inl ⟨h1, h2, z⟩
theorem BandsFrom.behind {d : Bd} {t : List Bd} {x y' : Int} (h2 : d.b ≤ y') : inBands (d :: t) x y' ↔ inBands t x y' := by
  rw [inBands_cons]
  constructor
  · rintro (z | z)
    · omega
    · exact z
  · exact .inr
theorem runs_some {rs : List Pt} (h : RunsOk rs) (n : rs ≠ []) : ∃ x, inRuns rs x := by
  obtain ⟨b, h⟩ := h
  cases rs with
  | nil => exact absurd rfl n
  | cons q t => exact ⟨_, h.some⟩
theorem runsOk_uniq {rs ss : List Pt} (h : RunsOk rs) (k : RunsOk ss) (e : ∀ x, inRuns rs x ↔ inRuns ss x) : rs = ss := by
  obtain ⟨b, h⟩ := h
  obtain ⟨c, k⟩ := k
  exact runs_uniq h k e
/-- a band can't end where another description of the same set goes on -/
theorem no_end {d c : Bd} {t u : List Bd} {y : Int} {p : List Pt} (h : BandsFrom y p (d :: t)) (k : BandsFrom y p (c :: u)) (e : ∀ x y', inBands (d :: t) x y' ↔ inBands (c :: u) x y') (et : d.t = c.t) (er : d.rs = c.rs) (hl : d.b < c.b) : False := by
  have hdb := h.2.2.1
  have row : ∀ x, inBands t x d.b ↔ inRuns c.rs x := fun x => by
    rw [← BandsFrom.behind (d := d) (t := t) (Int.le_refl _), e, k.row (by omega) hl]
  obtain ⟨x0, hx0⟩ := runs_some k.2.2.2.2.1 k.2.2.2.1
  cases t with
  | nil => exact inBands_nil ((row x0).mpr hx0)
  | cons d2 t2 =>
    have h2 := h.2.2.2.2.2
    have hle := h2.1
    by_cases z : d.b = d2.t
    · have er2 : d2.rs = c.rs := runsOk_uniq h2.2.2.2.2.1 k.2.2.2.2.1 fun x => by
        rw [← row x, h2.row (by omega) (by have := h2.2.2.1; omega)]
      exact h2.2.1 z (er.trans er2.symm)
    · have m := (row x0).mpr hx0
      have h3 : BandsFrom d2.t [] (d2 :: t2) := ⟨by omega, fun _ w => h2.2.2.2.1 w.symm, h2.2.2⟩
      have := BandsFrom.le h3 m
      omega
theorem bands_uniq : ∀ {bs cs : List Bd} {y : Int} {p : List Pt}, BandsFrom y p bs → BandsFrom y p cs → (∀ x y', inBands bs x y' ↔ inBands cs x y') → bs = cs
  | [], [], _, _, _, _, _ => rfl
  | [], c :: u, _, _, _, k, e => by
    obtain ⟨x0, hx0⟩ := runs_some k.2.2.2.2.1 k.2.2.2.1
    exact absurd ((e x0 c.t).mpr ((k.row (by omega) k.2.2.1).mpr hx0)) inBands_nil
  | d :: t, [], _, _, h, _, e => by
    obtain ⟨x0, hx0⟩ := runs_some h.2.2.2.2.1 h.2.2.2.1
    exact absurd ((e x0 d.t).mp ((h.row (by omega) h.2.2.1).mpr hx0)) inBands_nil
  | d :: t, c :: u, y, p, h, k, e => by
    have first : ∀ {d c : Bd} {t u : List Bd}, BandsFrom y p (d :: t) → BandsFrom y p (c :: u) → (∀ x y', inBands (d :: t) x y' ↔ inBands (c :: u) x y') → c.t ≤ d.t := by
      intro d c t u h k e
      obtain ⟨x0, hx0⟩ := runs_some h.2.2.2.2.1 h.2.2.2.1
      have m := (e x0 d.t).mp ((h.row (by omega) h.2.2.1).mpr hx0)
      have k2 : BandsFrom c.t [] (c :: u) := ⟨by omega, fun _ w => k.2.2.2.1 w.symm, k.2.2⟩
      exact BandsFrom.le k2 m
    have et : d.t = c.t := by
      have := first h k e
      have := first k h fun x y => (e x y).symm
      omega
    have er : d.rs = c.rs := runsOk_uniq h.2.2.2.2.1 k.2.2.2.2.1 fun x => by
      rw [← h.row (x := x) (y' := d.t) (by omega) h.2.2.1, e, k.row (by omega) (by have := k.2.2.1; omega)]
    have eb : d.b = c.b := by
      rcases Int.lt_trichotomy d.b c.b with z | z | z
      · exact (no_end h k e et er z).elim
      · exact z
      · exact (no_end k h (fun x y => (e x y).symm) et.symm er.symm z).elim
    have ed : d = c := by
      cases d
      cases c
      simp only at et er eb
      rw [et, er, eb]
    subst ed
    rw [bands_uniq h.2.2.2.2.2 k.2.2.2.2.2 fun x y' => ?_]
    by_cases z : d.b ≤ y'
    · rw [← BandsFrom.behind (d := d) (t := t) z, e, BandsFrom.behind z]
    · constructor
      · intro m
        have := BandsFrom.le h.2.2.2.2.2 m
        omega
      · intro m
        have := BandsFrom.le k.2.2.2.2.2 m
        omega

/-! ### the written form -/
def bandRc (d : Bd) : List Rc := d.rs.map fun q => ⟨q.1, d.t, q.2, d.b⟩
def formOf (bs : List Bd) : List Rc := bs.flatMap bandRc
def IsForm (S : Int → Int → Prop) (f : List Rc) : Prop := ∃ y bs, BandsFrom y [] bs ∧ (∀ x y', inBands bs x y' ↔ S x y') ∧ f = formOf bs
theorem form_uniq {S S' : Int → Int → Prop} {f g : List Rc} (h : IsForm S f) (k : IsForm S' g) (e : ∀ x y, S x y ↔ S' x y) : f = g := by
  obtain ⟨y, bs, h1, h2, rfl⟩ := h
  obtain ⟨z, cs, k1, k2, rfl⟩ := k
  rw [bands_uniq (h1.mono (Int.min_le_left y z)) (k1.mono (Int.min_le_right y z)) fun x y' => by rw [h2, k2, e]]
theorem mem_form {bs : List Bd} {x y : Int} : inBands bs x y ↔ ∃ q ∈ formOf bs, inRc q x y := by
  constructor
  · rintro ⟨d, hd, h1, h2, q, hq, h3, h4⟩
    exact ⟨⟨q.1, d.t, q.2, d.b⟩, List.mem_flatMap.mpr ⟨d, hd, List.mem_map.mpr ⟨q, hq, rfl⟩⟩, h3, h4, h1, h2⟩
  · rintro ⟨r, hr, h1, h2, h3, h4⟩
    obtain ⟨d, hd, hr⟩ := List.mem_flatMap.mp hr
    obtain ⟨q, hq, rfl⟩ := List.mem_map.mp hr
    exact ⟨d, hd, h3, h4, q, hq, h1, h2⟩
theorem IsForm.mem {S : Int → Int → Prop} {f : List Rc} (h : IsForm S f) (x y : Int) : S x y ↔ ∃ q ∈ f, inRc q x y := by
  obtain ⟨_, bs, _, h2, rfl⟩ := h
  rw [← h2, mem_form]
end Od

namespace Od
open PySem L2 Evl

/-! ### data: ints in tuples, in lists -/
def intD (ns : List Int) : PyData := .tuple (ns.map PyData.int)
def Eqs (α : Type) [DecidableEq α] (f : α → PyData) (d : Nat) : Prop := (∀ x y, PyData.eqv (f x) (f y) = decide (x = y)) ∧ (∀ x, (f x).canLay0 = true) ∧ ∀ x, (f x).depth ≤ d
theorem eqvAll_map {α : Type} [DecidableEq α] {f : α → PyData} (h : ∀ x y, PyData.eqv (f x) (f y) = decide (x = y)) : ∀ xs ys : List α, PyData.eqvAll (xs.map f) (ys.map f) = decide (xs = ys)
  | [], [] => by simp [PyData.eqvAll]
  | [], y :: ys => by simp [PyData.eqvAll]
  | x :: xs, [] => by simp [PyData.eqvAll]
  | x :: xs, y :: ys => by
    rw [List.map_cons, List.map_cons, PyData.eqvAll, h, eqvAll_map h xs ys]
    by_cases e : x = y <;> by_cases e2 : xs = ys <;> simp [e, e2]
theorem canLay_map {α : Type} {f : α → PyData} (h : ∀ x, (f x).canLay0 = true) : ∀ xs : List α, PyData.canLayAll0 (xs.map f) = true
  | [] => by simp [PyData.canLayAll0]
  | x :: xs => by
    rw [List.map_cons, PyData.canLayAll0, h, canLay_map h xs]
    rfl
theorem depth_map {α : Type} {f : α → PyData} {d : Nat} (h : ∀ x, (f x).depth ≤ d) : ∀ xs : List α, PyData.depthAll (xs.map f) ≤ d
  | [] => by simp [PyData.depthAll]
  | x :: xs => by
    rw [List.map_cons, PyData.depthAll]
    exact Nat.max_le.mpr ⟨h x, depth_map h xs⟩
theorem eqs_int : Eqs Int PyData.int 0 := ⟨fun x y => by rw [PyData.eqv]; by_cases e : x = y <;> simp [e], fun x => by simp [PyData.canLay0], fun x => by simp [PyData.depth]⟩
theorem Eqs.lst {α : Type} [DecidableEq α] {f : α → PyData} {d : Nat} (h : Eqs α f d) : Eqs (List α) (fun xs => .list (xs.map f)) (d + 1) :=
  ⟨fun x y => by rw [PyData.eqv, eqvAll_map h.1], fun x => by simp only [PyData.canLay0]; exact canLay_map h.2.1 x, fun x => by simp only [PyData.depth]; have := depth_map h.2.2 x; omega⟩
theorem Eqs.tup {α : Type} [DecidableEq α] {f : α → PyData} {d : Nat} (h : Eqs α f d) : Eqs (List α) (fun xs => .tuple (xs.map f)) (d + 1) :=
  ⟨fun x y => by rw [PyData.eqv, eqvAll_map h.1], fun x => by simp only [PyData.canLay0]; exact canLay_map h.2.1 x, fun x => by simp only [PyData.depth]; have := depth_map h.2.2 x; omega⟩
theorem Eqs.via {α β : Type} [DecidableEq α] [DecidableEq β] {f : α → PyData} {d : Nat} (h : Eqs α f d) (g : β → α) (inj : ∀ x y, g x = g y → x = y) : Eqs β (fun x => f (g x)) d :=
  ⟨fun x y => by
    rw [h.1]
    by_cases e : x = y
    · rw [e, decide_eq_true rfl, decide_eq_true rfl]
    · rw [decide_eq_false e, decide_eq_false fun z => e (inj _ _ z)], fun x => h.2.1 _, fun x => h.2.2 _⟩
theorem Eqs.shaped {α : Type} [DecidableEq α] {f : α → PyData} {d : Nat} (h : Eqs α f d) (hd : d ≤ 64) (x : α) : SeqAt.shaped (f x) = true := by
  unfold SeqAt.shaped
  rw [h.2.1 x, decide_eq_true (Nat.le_trans (h.2.2 x) hd)]
  rfl
def ptD (q : Pt) : PyData := intD [q.1, q.2]
def rcD (q : Rc) : PyData := intD [q.l, q.t, q.r, q.b]
theorem eqs_pt : Eqs Pt ptD 1 := eqs_int.tup.via (fun q : Pt => [q.1, q.2]) fun x y e => by
  injection e with e1 e2
  injection e2 with e2 _
  exact Prod.ext e1 e2
theorem eqs_rc : Eqs Rc rcD 1 := eqs_int.tup.via (fun q : Rc => [q.l, q.t, q.r, q.b]) fun x y e => by
  injection e with e1 e
  injection e with e2 e
  injection e with e3 e
  injection e with e4 _
  cases x
  cases y
  simp only at e1 e2 e3 e4
  rw [e1, e2, e3, e4]
def ptsD (qs : List Pt) : PyData := .list (qs.map ptD)
def rcsD (qs : List Rc) : PyData := .list (qs.map rcD)
theorem eqs_pts : Eqs (List Pt) ptsD 2 := eqs_pt.lst
theorem eqs_rcs : Eqs (List Rc) rcsD 2 := eqs_rc.lst
theorem dp_ints {K : PySem.W.Frag} {H : Hp} : ∀ ns : List Int, DpAll K H (ns.map V.int) (ns.map PyData.int)
  | [] => .nil
  | n :: ns => .cons (.int n) (dp_ints ns)
theorem dp_tup {K : PySem.W.Frag} {H : Hp} {a : Addr} {ns : List Int} (h : H a = some (.tup (ns.map V.int))) : Dp K H (.ref a) (intD ns) := .tup (SqT.of h) (dp_ints ns)
theorem PtV.dp {K : PySem.W.Frag} {H : Hp} {v : V} {q : Pt} (h : PtV H v q) : Dp K H v (ptD q) := by
  obtain ⟨p, rfl, h⟩ := h
  exact dp_tup (ns := [q.1, q.2]) h
theorem RcV.dp {K : PySem.W.Frag} {H : Hp} {v : V} {q : Rc} (h : RcV H v q) : Dp K H v (rcD q) := by
  obtain ⟨p, rfl, h⟩ := h
  exact dp_tup (ns := [q.l, q.t, q.r, q.b]) h
theorem dp_all {α : Type} {K : PySem.W.Frag} {H : Hp} {G : V → α → Prop} {f : α → PyData} (h : ∀ v x, G v x → Dp K H v (f x)) : ∀ {vs : List V} {xs : List α}, Paired G vs xs → DpAll K H vs (xs.map f)
  | _, _, .nil => .nil
  | _, _, .cons r t => .cons (h _ _ r) (dp_all h t)
theorem dp_pts {K : PySem.W.Frag} {H : Hp} {a : Addr} {us : List V} {qs : List Pt} (h : SqL K H a us) (r : PtsV H us qs) : Dp K H (.ref a) (ptsD qs) := .lst h (dp_all (fun _ _ z => PtV.dp z) r)
theorem dp_rcs {K : PySem.W.Frag} {H : Hp} {a : Addr} {us : List V} {qs : List Rc} (h : SqL K H a us) (r : RcsV H us qs) : Dp K H (.ref a) (rcsD qs) := .lst h (dp_all (fun _ _ z => RcV.dp z) r)

/-! ### walking a dict with tuple keys -/
theorem ex_unlock {H H' : Hp} {d : Addr} {od : Obj} {u : HO} (h : H d = some u) (e : Ex (upd H d (.frz od u)) H') : Ex H (upd H' d u) := fun b o hb => by
  by_cases z : b = d
  · rw [z] at hb ⊢
    rw [h] at hb
    rw [upd_same]
    exact hb
  · rw [upd_ne z]
    exact e b o (by rw [upd_ne z]; exact hb)
theorem lc_keysT {d : Addr} {o : Obj} {kvs : List (List Key × V)} {g : TG} {tt : TT} {te : TE} {vs : List Nat} {σ : L2.St} {H1 : Hp} {D : Addr} {Qd : Hp → Prop} (Pv : Nat → Hp → Prop) (h0 : Pv 0 (upd H1 D (.lst []))) (hl : ∀ i H, i ≤ kvs.length → Pv i H → H d = some (.frz o (.dT kvs)))
    (hs : ∀ i k v q H, kvs[i]? = some (k, v) → H q = some (.tup (k.map kV)) → Pv i H → g (.ref q) (wipe σ vs) H fun σ2 H2 => wipe σ2 vs = wipe σ vs ∧ tt σ2 H2 fun b H3 =>
      if b = true then te σ2 H3 fun y H4 => ∃ acc, H4 D = some (.lst acc) ∧ acc.length < sizeLine ∧ Pv (i + 1) (upd H4 D (.lst (acc ++ [y]))) else Pv (i + 1) H3) (hd : ∀ H, Pv kvs.length H → Qd H) :
    ∃ Wk : Nat → Nat → Hp → Prop, (∃ n, Wk 0 n (upd H1 D (.lst []))) ∧ ∀ i n G, Wk i n G →
      ((Itkt d o kvs).stop i G ∧ Qd G) ∨ ((Itkt d o kvs).go i G ∧ ∃ Go : Hp → Prop, (∀ G', Go G' → ∃ n', n' < n ∧ Wk (i + 1) n' G') ∧ ∀ x G', (Itkt d o kvs).yld i G x G' → g x (wipe σ vs) G' fun σ2 G2 => wipe σ2 vs = wipe σ vs ∧ tt σ2 G2 fun b G3 =>
        if b = true then te σ2 G3 fun y G4 => ∃ made, G4 D = some (.lst made) ∧ made.length < sizeLine ∧ Go (upd G4 D (.lst (made ++ [y]))) else Go G3) := by
  refine ⟨fun i m H => m = kvs.length - i ∧ i ≤ kvs.length ∧ Pv i H, ⟨kvs.length, by simp, Nat.zero_le _, h0⟩, ?_⟩
  rintro i m H ⟨rfl, hi, p⟩
  have q := hl i H hi p
  by_cases hlt : i < kvs.length
  · refine .inr ⟨⟨q, hlt⟩, Pv (i + 1), fun H' p' => ⟨kvs.length - (i + 1), by omega, rfl, hlt, p'⟩, fun x H' y => ?_⟩
    obtain ⟨e, k, v, qa, e1, e2, e3⟩ := y
    subst e e2
    exact hs i k v qa _ e1 e3 p
  · have e : i = kvs.length := by omega
    subst e
    exact .inl ⟨⟨q, Nat.le_refl _⟩, hd H p⟩
theorem for_keysT {d : Addr} {o : Obj} {kvs : List (List Key × V)} {g : TG} {tb : TS} {D : Ends} {σ : L2.St} {H : Hp} (Pv : Nat → L2.St → Hp → Prop) (h0 : Pv 0 σ H) (hl : ∀ i σ H, i ≤ kvs.length → Pv i σ H → H d = some (.frz o (.dT kvs)))
    (hs : ∀ i k v q σ H, kvs[i]? = some (k, v) → H q = some (.tup (k.map kV)) → Pv i σ H → g (.ref q) σ H fun σ2 H2 => tb { D with nx := Pv (i + 1), ct := Pv (i + 1), bk := D.nx } σ2 H2) (hd : ∀ σ H, Pv kvs.length σ H → D.nx σ H) :
    ∃ Wk : Nat → Nat → L2.St → Hp → Prop, (∃ n, Wk 0 n σ H) ∧ ∀ i n τ G, Wk i n τ G →
      ((Itkt d o kvs).stop i G ∧ D.nx τ G) ∨ ((Itkt d o kvs).go i G ∧ ∃ Go : L2.St → Hp → Prop, (∀ τ' G', Go τ' G' → ∃ n', n' < n ∧ Wk (i + 1) n' τ' G') ∧ ∀ x G', (Itkt d o kvs).yld i G x G' → g x τ G' fun τ2 G2 => tb { D with nx := Go, ct := Go, bk := D.nx } τ2 G2) := by
  refine ⟨fun i m σ H => m = kvs.length - i ∧ i ≤ kvs.length ∧ Pv i σ H, ⟨kvs.length, by simp, Nat.zero_le _, h0⟩, ?_⟩
  rintro i m σ H ⟨rfl, hi, p⟩
  have q := hl i σ H hi p
  by_cases hlt : i < kvs.length
  · refine .inr ⟨⟨q, hlt⟩, Pv (i + 1), fun σ' H' p' => ⟨kvs.length - (i + 1), by omega, rfl, hlt, p'⟩, fun x H' y => ?_⟩
    obtain ⟨e, k, v, qa, e1, e2, e3⟩ := y
    subst e e2
    exact hs i k v qa σ _ e1 e3 p
  · have e : i = kvs.length := by omega
    subst e
    exact .inl ⟨⟨q, Nat.le_refl _⟩, hd σ H p⟩
theorem mkd_get {pts : List Pt} {i : Nat} {k : List Key} {v : V} (h : (mkd pts)[i]? = some (k, v)) : ∃ q, pts[i]? = some q ∧ k = ptK q := by
  unfold mkd at h
  rw [List.getElem?_map] at h
  cases e : pts[i]? with
  | none =>
    rw [e] at h
    cases h
  | some q =>
    rw [e] at h
    cases h
    exact ⟨q, rfl, rfl⟩

/-! ### runs from the ascending ints of a row -/
theorem runs_snoc : ∀ {rs : List Pt} {b x : Int}, RunsFrom b rs → (∀ q ∈ rs, q.2 < x) → b < x → RunsFrom b (rs ++ [(x, x + 1)])
  | [], b, x, _, _, h => ⟨h, by show x < x + 1; omega, trivial⟩
  | q :: t, b, x, h, k, _ => ⟨h.1, h.2.1, runs_snoc h.2.2 (fun p hp => k p (by simp [hp])) (k q (by simp))⟩
theorem runs_ext : ∀ {rs : List Pt} {b l r r' : Int}, RunsFrom b (rs ++ [(l, r)]) → r ≤ r' → RunsFrom b (rs ++ [(l, r')])
  | [], b, l, r, r', h, k => ⟨h.1, by have h2 : l < r := h.2.1; show l < r'; omega, trivial⟩
  | q :: t, b, l, r, r', h, k => ⟨h.1, h.2.1, runs_ext h.2.2 k⟩
theorem RunsOk.nil : RunsOk [] := ⟨0, trivial⟩
theorem runsOk_snoc {rs : List Pt} {x : Int} (h : RunsOk rs) (k : ∀ q ∈ rs, q.2 < x) : RunsOk (rs ++ [(x, x + 1)]) := by
  obtain ⟨b, h⟩ := h
  cases rs with
  | nil => exact ⟨x - 1, by omega, by show x < x + 1; omega, trivial⟩
  | cons q t =>
    refine ⟨b, runs_snoc h k ?_⟩
    have h1 : b < q.1 := h.1
    have h2 : q.1 < q.2 := h.2.1
    have h3 := k q (by simp)
    omega
theorem inRuns_app {rs ss : List Pt} {x : Int} : inRuns (rs ++ ss) x ↔ inRuns rs x ∨ inRuns ss x := by
  unfold inRuns
  constructor
  · rintro ⟨q, hq, h⟩
    rcases List.mem_append.mp hq with z | z
    · exact .inl ⟨q, z, h⟩
    · exact .inr ⟨q, z, h⟩
  · rintro (⟨q, hq, h⟩ | ⟨q, hq, h⟩)
    · exact ⟨q, List.mem_append.mpr (.inl hq), h⟩
    · exact ⟨q, List.mem_append.mpr (.inr hq), h⟩
theorem inRuns_one {l r x : Int} : inRuns [(l, r)] x ↔ l ≤ x ∧ x < r := by
  rw [inRuns_cons]
  constructor
  · rintro (h | h)
    · exact h
    · exact absurd h inRuns_nil
  · exact .inl
theorem RunsFrom.wide : ∀ {rs : List Pt} {b : Int}, RunsFrom b rs → ∀ q ∈ rs, q.1 < q.2
  | [], _, _, q, h => by simp at h
  | p :: t, b, h, q, hq => by
    rcases List.mem_cons.mp hq with rfl | hq
    · exact h.2.1
    · exact RunsFrom.wide h.2.2 q hq
/-- what a row's runs say of the ends -/
theorem ends_le {rs : List Pt} {pre : List Int} {x : Int} (h : RunsOk rs) (m : ∀ z, inRuns rs z ↔ z ∈ pre) (k : ∀ z ∈ pre, z < x) : ∀ q ∈ rs, q.2 ≤ x := by
  intro q hq
  obtain ⟨b, h⟩ := h
  have w := h.wide q hq
  have := k (q.2 - 1) ((m _).mp ⟨q, hq, by omega, by omega⟩)
  omega
end Od

namespace Od
open PySem L2 Evl

/-! ### a dict whose keys are ints -/
def mki (ys : List Int) : List (Key × V) := ys.map fun y => (Sum.inl y, V.bl true)
theorem mki_any (ys : List Int) (y : Int) : ((mki ys).any fun kv => decide (kv.1 = Sum.inl y)) = decide (y ∈ ys) := by
  unfold mki
  rw [List.any_map]
  induction ys with
  | nil => simp
  | cons p r ih =>
    rw [List.any_cons, ih]
    show (decide ((Sum.inl p : Key) = Sum.inl y) || decide (y ∈ r)) = decide (y ∈ p :: r)
    by_cases h1 : p = y
    · simp [h1]
    · have h3 : ¬ (Sum.inl p : Key) = Sum.inl y := fun e => h1 (Sum.inl.inj e)
      have : ¬ y = p := fun e => h1 e.symm
      simp [h1, this]
def addI (ys : List Int) (y : Int) : List Int := if y ∈ ys then ys else ys ++ [y]
theorem mki_put (ys : List Int) (y : Int) : putK (mki ys) (Sum.inl y) (V.bl true) = mki (addI ys y) := by
  unfold putK addI
  rw [mki_any]
  by_cases h : y ∈ ys
  · rw [if_pos h, decide_eq_true h, if_pos rfl]
    unfold mki
    rw [List.map_map]
    refine List.map_congr_left fun p _ => ?_
    show (if (Sum.inl p : Key) = Sum.inl y then ((Sum.inl p : Key), V.bl true) else (Sum.inl p, V.bl true)) = (Sum.inl p, V.bl true)
    split <;> rfl
  · rw [if_neg h, decide_eq_false h, if_neg Bool.false_ne_true]
    unfold mki
    rw [List.map_append]
    rfl
theorem mem_addI {ys : List Int} {y z : Int} : z ∈ addI ys y ↔ z ∈ ys ∨ z = y := by
  unfold addI
  split
  · rename_i h
    constructor
    · exact .inl
    · rintro (h1 | rfl)
      · exact h1
      · exact h
  · simp
theorem nodup_addI {ys : List Int} {y : Int} (h : ys.Nodup) : (addI ys y).Nodup := by
  unfold addI
  split
  · exact h
  · rename_i hn
    rw [List.nodup_append]
    refine ⟨h, by simp, fun a ha b hb => ?_⟩
    rw [List.mem_singleton.mp hb]
    intro e
    rw [e] at ha
    exact hn ha
theorem len_addI (ys : List Int) (y : Int) : (addI ys y).length ≤ ys.length + 1 := by
  unfold addI
  split
  · omega
  · simp
theorem mki_len (ys : List Int) : (mki ys).length = ys.length := by
  unfold mki
  rw [List.length_map]
theorem mki_keys (ys : List Int) : (mki ys).map (fun kv => kV kv.1) = ys.map V.int := by
  unfold mki
  rw [List.map_map]
  rfl

/-! ### how many runs there are -/
theorem sum_zero {α : Type} (f : α → Nat) : ∀ l : List α, (∀ x ∈ l, f x = 0) → (l.map f).sum = 0
  | [], _ => rfl
  | x :: l, h => by
    rw [List.map_cons, List.sum_cons, h x (by simp), sum_zero f l fun y hy => h y (by simp [hy])]
theorem ones_le : ∀ {ys : List Int} (a : Int), ys.Nodup → (ys.map fun y => if a == y then 1 else 0).sum ≤ 1
  | [], _, _ => by simp
  | y :: ys, a, h => by
    rw [List.map_cons, List.sum_cons]
    rw [List.nodup_cons] at h
    by_cases e : a = y
    · have z : (ys.map fun y => if a == y then 1 else 0).sum = 0 := by
        refine sum_zero _ _ fun w hw => ?_
        have : ¬ a = w := fun e2 => h.1 (by rw [← e, e2]; exact hw)
        simp [this]
      rw [z]
      simp [e]
    · have := ones_le a h.2
      simp [e]
      simpa using this
theorem sum_add {α : Type} (f g : α → Nat) : ∀ l : List α, (l.map fun x => f x + g x).sum = (l.map f).sum + (l.map g).sum
  | [] => rfl
  | x :: l => by
    rw [List.map_cons, List.map_cons, List.map_cons, List.sum_cons, List.sum_cons, List.sum_cons, sum_add f g l]
    omega
theorem sum_rows {ys : List Int} (h : ys.Nodup) : ∀ pts : List Pt, (ys.map fun y => (pts.filter fun z => z.2 == y).length).sum ≤ pts.length
  | [] => by
    rw [sum_zero (fun y => (List.filter (fun z : Pt => z.snd == y) []).length) ys fun w _ => rfl]
    simp
  | p :: ps => by
    have ih := sum_rows h ps
    have o := ones_le p.2 h
    have e : (ys.map fun y => ((p :: ps).filter fun z => z.2 == y).length) = ys.map fun y => (if p.2 == y then 1 else 0) + (ps.filter fun z => z.2 == y).length := by
      refine List.map_congr_left fun y _ => ?_
      rw [List.filter_cons]
      split <;> simp <;> omega
    rw [e, sum_add, List.length_cons]
    omega
theorem sum_take {ys : List Int} (f : Int → Nat) : ∀ (i : Nat), ((ys.take i).map f).sum ≤ (ys.map f).sum := fun i => by
  have := List.take_append_drop i ys
  have e : ys.map f = (ys.take i).map f ++ (ys.drop i).map f := by rw [← List.map_append, this]
  rw [e, List.sum_append]
  omega

/-! ### bands, one row more -/
def BandsOk (bs : List Bd) : Prop := ∃ y, BandsFrom y [] bs
theorem bands_snoc : ∀ {bs : List Bd} {y0 : Int} {p : List Pt} {y : Int} {rs : List Pt}, BandsFrom y0 p bs → (∀ d, bs.getLast? = some d → d.b ≤ y ∧ (d.b = y → d.rs ≠ rs)) → (bs = [] → y0 ≤ y ∧ (y0 = y → p ≠ rs)) → rs ≠ [] → RunsOk rs →
    BandsFrom y0 p (bs ++ [⟨y, y + 1, rs⟩])
  | [], y0, p, y, rs, _, _, h3, h4, h5 => ⟨(h3 rfl).1, (h3 rfl).2, by show y < y + 1; omega, h4, h5, trivial⟩
  | [d], y0, p, y, rs, h, h2, _, h4, h5 => by
    have k := h2 d rfl
    exact ⟨h.1, h.2.1, h.2.2.1, h.2.2.2.1, h.2.2.2.2.1, k.1, k.2, by show y < y + 1; omega, h4, h5, trivial⟩
  | d :: d2 :: t, y0, p, y, rs, h, h2, _, h4, h5 => by
    have ih := bands_snoc (bs := d2 :: t) (y := y) (rs := rs) h.2.2.2.2.2 (fun e he => h2 e (by rw [List.getLast?_cons_cons]; exact he)) (fun e => by cases e) h4 h5
    exact ⟨h.1, h.2.1, h.2.2.1, h.2.2.2.1, h.2.2.2.2.1, ih⟩
theorem bands_ext : ∀ {bs : List Bd} {y0 : Int} {p : List Pt} {d : Bd} {b : Int}, BandsFrom y0 p (bs ++ [d]) → d.b ≤ b → BandsFrom y0 p (bs ++ [⟨d.t, b, d.rs⟩])
  | [], y0, p, d, b, h, k => ⟨h.1, h.2.1, by have := h.2.2.1; show d.t < b; omega, h.2.2.2.1, h.2.2.2.2.1, trivial⟩
  | c :: t, y0, p, d, b, h, k => ⟨h.1, h.2.1, h.2.2.1, h.2.2.2.1, h.2.2.2.2.1, bands_ext h.2.2.2.2.2 k⟩
theorem BandsFrom.each : ∀ {bs : List Bd} {y0 : Int} {p : List Pt}, BandsFrom y0 p bs → ∀ d ∈ bs, d.t < d.b ∧ d.rs ≠ [] ∧ RunsOk d.rs
  | [], _, _, _, d, h => by simp at h
  | c :: t, y0, p, h, d, hd => by
    rcases List.mem_cons.mp hd with rfl | hd
    · exact ⟨h.2.2.1, h.2.2.2.1, h.2.2.2.2.1⟩
    · exact BandsFrom.each h.2.2.2.2.2 d hd
theorem inBands_app {bs cs : List Bd} {x y : Int} : inBands (bs ++ cs) x y ↔ inBands bs x y ∨ inBands cs x y := by
  unfold inBands
  constructor
  · rintro ⟨q, hq, h⟩
    rcases List.mem_append.mp hq with z | z
    · exact .inl ⟨q, z, h⟩
    · exact .inr ⟨q, z, h⟩
  · rintro (⟨q, hq, h⟩ | ⟨q, hq, h⟩)
    · exact ⟨q, List.mem_append.mpr (.inl hq), h⟩
    · exact ⟨q, List.mem_append.mpr (.inr hq), h⟩
theorem inBands_one {d : Bd} {x y : Int} : inBands [d] x y ↔ d.t ≤ y ∧ y < d.b ∧ inRuns d.rs x := by
  rw [inBands_cons]
  constructor
  · rintro (h | h)
    · exact h
    · exact absurd h inBands_nil
  · exact .inl
theorem formOf_app (bs cs : List Bd) : formOf (bs ++ cs) = formOf bs ++ formOf cs := by
  unfold formOf
  rw [List.flatMap_append]
theorem formOf_one (d : Bd) : formOf [d] = bandRc d := by
  unfold formOf
  simp
theorem bandRc_len (d : Bd) : (bandRc d).length = d.rs.length := by
  unfold bandRc
  rw [List.length_map]

/-! ### bands in the heap; pb: the list that holds them -/
def BdV (pb : Addr) (H : Hp) (v : V) (d : Bd) : Prop := ∃ q r us, v = .ref q ∧ q ≠ pb ∧ r ≠ pb ∧ H q = some (.tup [.int d.t, .int d.b, .ref r]) ∧ H r = some (.lst us) ∧ PtsV H us d.rs
def Xb (pb : Addr) (H H' : Hp) : Prop := ∀ a o, a ≠ pb → H a = some o → H' a = some o
theorem BdV.to {pb : Addr} {H H' : Hp} {v : V} {d : Bd} (k : TK H H') (x : Xb pb H H') (h : BdV pb H v d) : BdV pb H' v d := by
  obtain ⟨q, r, us, rfl, nq, nr, h1, h2, h3⟩ := h
  exact ⟨q, r, us, rfl, nq, nr, x _ _ nq h1, x _ _ nr h2, h3.tk k⟩
theorem Xb.ex {pb : Addr} {H H' : Hp} (e : Ex H H') : Xb pb H H' := fun a o _ h => e a o h
theorem Xb.upd {pb : Addr} {H : Hp} {o : HO} : Xb pb H (upd H pb o) := fun a u n h => by rw [upd_ne n]; exact h
theorem Xb.trans {pb : Addr} {H H1 H2 : Hp} (a : Xb pb H H1) (b : Xb pb H1 H2) : Xb pb H H2 := fun x o n h => b x o n (a x o n h)
theorem pr_split {α β : Type} {G : α → β → Prop} : ∀ {l₁ : List α} {l₂ : List β} {a : α} {b : β}, Paired G (l₁ ++ [a]) (l₂ ++ [b]) → Paired G l₁ l₂ ∧ G a b
  | [], [], _, _, .cons h .nil => ⟨.nil, h⟩
  | [], [_], _, _, .cons _ t => nomatch t
  | [], _ :: _ :: _, _, _, .cons _ t => nomatch t
  | [_], [], _, _, .cons _ t => nomatch t
  | _ :: _ :: _, [], _, _, .cons _ t => nomatch t
  | c :: t, c2 :: t2, _, _, .cons h1 h2 => by
    have ih := pr_split (l₁ := t) (l₂ := t2) h2
    exact ⟨.cons h1 ih.1, ih.2⟩
theorem ixN_last (n : Nat) : ixN (n + 1) (-1) = some n := by
  unfold ixN
  rw [if_neg (by decide), if_pos (by omega)]
  congr 1
  omega
/-! ### points told as a dict's keys or as a list's items -/
def SrcAt (K : PySem.W.Frag) (H : Hp) (d : Addr) (pts : List Pt) : Prop := H d = some (.dT (mkd pts)) ∨ ∃ us, SqL K H d us ∧ PtsV H us pts
theorem SrcAt.mono {K : PySem.W.Frag} {H H' : Hp} {d : Addr} {pts : List Pt} (e : Ex H H') (h : SrcAt K H d pts) : SrcAt K H' d pts := by
  rcases h with h | ⟨us, h1, h2⟩
  · exact .inl (e _ _ h)
  · exact .inr ⟨us, ex_l e h1, h2.tk (TK.ex e)⟩
end Od

namespace Od
open PySem L2 Evl

/-! ### data that the heap bears -/
mutual
inductive Da (H : Hp) : V → PyData → Prop
  | non : Da H .non .none
  | bl (b : Bool) : Da H (.bl b) (.bool b)
  | int (i : Int) : Da H (.int i) (.int i)
  | str (x : Str) : Da H (.str x) (.str x)
  | lst {a : Addr} {xs : List V} {ds : List PyData} : H a = some (.lst xs) → DaAll H xs ds → ds.length ≤ 1000000 → Da H (.ref a) (.list ds)
  | tup {a : Addr} {xs : List V} {ds : List PyData} : H a = some (.tup xs) → DaAll H xs ds → ds.length ≤ 1000000 → Da H (.ref a) (.tuple ds)
inductive DaAll (H : Hp) : List V → List PyData → Prop
  | nil : DaAll H [] []
  | cons {v : V} {vs : List V} {d : PyData} {ds : List PyData} : Da H v d → DaAll H vs ds → DaAll H (v :: vs) (d :: ds)
end
mutual
theorem Da.mono {H H' : Hp} (e : Ex H H') : ∀ {v : V} {d : PyData}, Da H v d → Da H' v d
  | _, _, .non => .non
  | _, _, .bl b => .bl b
  | _, _, .int i => .int i
  | _, _, .str x => .str x
  | _, _, .lst h k l => .lst (e _ _ h) (DaAll.mono e k) l
  | _, _, .tup h k l => .tup (e _ _ h) (DaAll.mono e k) l
theorem DaAll.mono {H H' : Hp} (e : Ex H H') : ∀ {vs : List V} {ds : List PyData}, DaAll H vs ds → DaAll H' vs ds
  | _, _, .nil => .nil
  | _, _, .cons h k => .cons (Da.mono e h) (DaAll.mono e k)
end
mutual
theorem Da.dp {K : PySem.W.Frag} {H : Hp} : ∀ {v : V} {d : PyData}, Da H v d → Dp K H v d
  | _, _, .non => .non
  | _, _, .bl b => .bl b
  | _, _, .int i => .int i
  | _, _, .str x => .str x
  | _, _, .lst h k _ => .lst (SqL.of h) (DaAll.dp k)
  | _, _, .tup h k _ => .tup (SqT.of h) (DaAll.dp k)
theorem DaAll.dp {K : PySem.W.Frag} {H : Hp} : ∀ {vs : List V} {ds : List PyData}, DaAll H vs ds → DpAll K H vs ds
  | _, _, .nil => .nil
  | _, _, .cons h k => .cons (Da.dp h) (DaAll.dp k)
end
theorem DaAll.length {H : Hp} : ∀ {vs : List V} {ds : List PyData}, DaAll H vs ds → vs.length = ds.length
  | _, _, .nil => rfl
  | _, _, .cons _ k => by rw [List.length_cons, List.length_cons, DaAll.length k]
theorem DaAll.get {H : Hp} : ∀ {vs : List V} {ds : List PyData} {i : Nat} {d : PyData}, DaAll H vs ds → ds[i]? = some d → ∃ v, vs[i]? = some v ∧ Da H v d
  | _, _, _, _, .nil, e => by simp at e
  | _, _, 0, d, .cons h k, e => by
    simp at e
    subst e
    exact ⟨_, rfl, h⟩
  | _, _, i + 1, d, .cons h k, e => by
    obtain ⟨v, h1, h2⟩ := DaAll.get (i := i) (d := d) k (by simpa using e)
    exact ⟨v, by simpa using h1, h2⟩
theorem da_ints {H : Hp} : ∀ ns : List Int, DaAll H (ns.map V.int) (ns.map PyData.int)
  | [] => .nil
  | n :: ns => .cons (.int n) (da_ints ns)
theorem PtV.da {H : Hp} {v : V} {q : Pt} (h : PtV H v q) : Da H v (ptD q) := by
  obtain ⟨p, rfl, h⟩ := h
  exact .tup h (da_ints [q.1, q.2]) (by simp)
theorem RcV.da {H : Hp} {v : V} {q : Rc} (h : RcV H v q) : Da H v (rcD q) := by
  obtain ⟨p, rfl, h⟩ := h
  exact .tup h (da_ints [q.l, q.t, q.r, q.b]) (by simp)
theorem da_all {α : Type} {H : Hp} {G : V → α → Prop} {f : α → PyData} (h : ∀ v x, G v x → Da H v (f x)) : ∀ {vs : List V} {xs : List α}, Paired G vs xs → DaAll H vs (xs.map f)
  | _, _, .nil => .nil
  | _, _, .cons r t => .cons (h _ _ r) (da_all h t)
theorem da_pts {H : Hp} {a : Addr} {us : List V} {qs : List Pt} (h : H a = some (.lst us)) (r : PtsV H us qs) (hl : qs.length ≤ 1000000) : Da H (.ref a) (ptsD qs) := .lst h (da_all (fun _ _ z => PtV.da z) r) (by rw [List.length_map]; exact hl)
theorem da_rcs {H : Hp} {a : Addr} {us : List V} {qs : List Rc} (h : H a = some (.lst us)) (r : RcsV H us qs) (hl : qs.length ≤ 1000000) : Da H (.ref a) (rcsD qs) := .lst h (da_all (fun _ _ z => RcV.da z) r) (by rw [List.length_map]; exact hl)
theorem depth_mem {d : PyData} : ∀ {ds : List PyData} {i : Nat}, ds[i]? = some d → d.depth ≤ PyData.depthAll ds
  | [], i, h => by simp at h
  | x :: xs, 0, h => by
    simp at h
    subst h
    rw [PyData.depthAll]
    exact Nat.le_max_left _ _
  | x :: xs, i + 1, h => by
    have := depth_mem (d := d) (ds := xs) (i := i) (by simpa using h)
    rw [PyData.depthAll]
    exact Nat.le_trans this (Nat.le_max_right _ _)
theorem lay_mem {d : PyData} : ∀ {ds : List PyData} {i : Nat}, PyData.canLayAll0 ds = true → ds[i]? = some d → d.canLay0 = true
  | [], i, _, h => by simp at h
  | x :: xs, 0, k, h => by
    simp at h
    subst h
    rw [PyData.canLayAll0, Bool.and_eq_true] at k
    exact k.1
  | x :: xs, i + 1, k, h => by
    rw [PyData.canLayAll0, Bool.and_eq_true] at k
    exact lay_mem (d := d) (ds := xs) (i := i) k.2 (by simpa using h)
theorem eqv_self {d : PyData} (h : d.canLay0 = true) : PyData.eqv d d = true := PySem.SeqAt.eqv_refl d h
theorem Da.kinds {H : Hp} {v w : V} {d : PyData} (hv : Da H v d) (hw : Da H w d) : (∃ t, Kn H v t ∧ Kn H w t ∧ isA t "tuple" = false ∧ isA t "list" = false) ∨
    ∃ ds av aw xs ys T, v = .ref av ∧ w = .ref aw ∧ DaAll H xs ds ∧ DaAll H ys ds ∧ ds.length ≤ 1000000 ∧ Kn H v T ∧ Kn H w T ∧ (T = "list" ∧ H av = some (.lst xs) ∧ H aw = some (.lst ys) ∧ d = .list ds ∨ T = "tuple" ∧ H av = some (.tup xs) ∧ H aw = some (.tup ys) ∧ d = .tuple ds) := by
  cases hv with
  | non => cases hw; exact .inl ⟨_, .non, .non, by decide +kernel, by decide +kernel⟩
  | bl b => cases hw; exact .inl ⟨_, .bl b, .bl b, by decide +kernel, by decide +kernel⟩
  | int b => cases hw; exact .inl ⟨_, .int b, .int b, by decide +kernel, by decide +kernel⟩
  | str b => cases hw; exact .inl ⟨_, .str b, .str b, by decide +kernel, by decide +kernel⟩
  | lst h k l =>
    cases hw with
    | lst h' k' l' => exact .inr ⟨_, _, _, _, _, _, rfl, rfl, k, k', l, .lst h, .lst h', .inl ⟨rfl, h, h', rfl⟩⟩
  | tup h k l =>
    cases hw with
    | tup h' k' l' => exact .inr ⟨_, _, _, _, _, _, rfl, rfl, k, k', l, .tup h, .tup h', .inr ⟨rfl, h, h', rfl⟩⟩
end Od

namespace Od
open PySem L2 Evl

/-! ### a set moved -/
def mvP (dx : Int) (q : Pt) : Pt := (q.1 + dx, q.2 + dx)
def mvB (dx dy : Int) (d : Bd) : Bd := ⟨d.t + dy, d.b + dy, d.rs.map (mvP dx)⟩
def mvR (dx dy : Int) (q : Rc) : Rc := ⟨q.l + dx, q.t + dy, q.r + dx, q.b + dy⟩
theorem mvP_inj {dx : Int} {a b : Pt} (h : mvP dx a = mvP dx b) : a = b := by
  unfold mvP at h
  injection h with h1 h2
  exact Prod.ext (by omega) (by omega)
theorem map_mvP_inj {dx : Int} : ∀ {rs ss : List Pt}, rs.map (mvP dx) = ss.map (mvP dx) → rs = ss
  | [], [], _ => rfl
  | [], _ :: _, h => by simp at h
  | _ :: _, [], h => by simp at h
  | a :: rs, b :: ss, h => by
    rw [List.map_cons, List.map_cons] at h
    injection h with h1 h2
    rw [mvP_inj h1, map_mvP_inj h2]
theorem runs_mv {dx : Int} : ∀ {rs : List Pt} {b : Int}, RunsFrom b rs → RunsFrom (b + dx) (rs.map (mvP dx))
  | [], _, _ => trivial
  | q :: t, b, h => ⟨by have := h.1; show b + dx < q.1 + dx; omega, by have := h.2.1; show q.1 + dx < q.2 + dx; omega, runs_mv h.2.2⟩
theorem inRuns_mv {dx : Int} {rs : List Pt} {x : Int} : inRuns (rs.map (mvP dx)) x ↔ inRuns rs (x - dx) := by
  constructor
  · rintro ⟨q, hq, h1, h2⟩
    obtain ⟨p, hp, rfl⟩ := List.mem_map.mp hq
    exact ⟨p, hp, by unfold mvP at h1; dsimp only at h1; omega, by unfold mvP at h2; dsimp only at h2; omega⟩
  · rintro ⟨p, hp, h1, h2⟩
    exact ⟨mvP dx p, List.mem_map.mpr ⟨p, hp, rfl⟩, by unfold mvP; dsimp only; omega, by unfold mvP; dsimp only; omega⟩
theorem bands_mv {dx dy : Int} : ∀ {bs : List Bd} {y : Int} {p : List Pt}, BandsFrom y p bs → BandsFrom (y + dy) (p.map (mvP dx)) (bs.map (mvB dx dy))
  | [], _, _, _ => trivial
  | d :: t, y, p, h => by
    refine ⟨by have := h.1; show y + dy ≤ d.t + dy; omega, fun e z => h.2.1 ?_ (map_mvP_inj z), by have := h.2.2.1; show d.t + dy < d.b + dy; omega, fun z => h.2.2.2.1 (List.map_eq_nil_iff.mp z), ?_, bands_mv h.2.2.2.2.2⟩
    · have e : y + dy = d.t + dy := e
      omega
    · obtain ⟨b, hb⟩ := h.2.2.2.2.1
      exact ⟨_, runs_mv hb⟩
theorem inBands_mv {dx dy : Int} {bs : List Bd} {x y : Int} : inBands (bs.map (mvB dx dy)) x y ↔ inBands bs (x - dx) (y - dy) := by
  constructor
  · rintro ⟨d, hd, h1, h2, h3⟩
    obtain ⟨c, hc, rfl⟩ := List.mem_map.mp hd
    have h1 : c.t + dy ≤ y := h1
    have h2 : y < c.b + dy := h2
    exact ⟨c, hc, by omega, by omega, inRuns_mv.mp h3⟩
  · rintro ⟨c, hc, h1, h2, h3⟩
    exact ⟨mvB dx dy c, List.mem_map.mpr ⟨c, hc, rfl⟩, by show c.t + dy ≤ y; omega, by show y < c.b + dy; omega, inRuns_mv.mpr h3⟩
theorem formOf_mv {dx dy : Int} : ∀ bs : List Bd, formOf (bs.map (mvB dx dy)) = (formOf bs).map (mvR dx dy)
  | [] => rfl
  | d :: t => by
    have ih := formOf_mv (dx := dx) (dy := dy) t
    unfold formOf at ih ⊢
    rw [List.map_cons, List.flatMap_cons, List.flatMap_cons, List.map_append, ih]
    congr 1
    unfold bandRc mvB
    dsimp only
    rw [List.map_map, List.map_map]
    rfl
theorem IsForm.mv {S : Int → Int → Prop} {f : List Rc} (dx dy : Int) (h : IsForm S f) : IsForm (fun x y => S (x - dx) (y - dy)) (f.map (mvR dx dy)) := by
  obtain ⟨y, bs, h1, h2, rfl⟩ := h
  exact ⟨y + dy, bs.map (mvB dx dy), bands_mv h1, fun x y' => by rw [inBands_mv, h2], (formOf_mv bs).symm⟩
theorem mv_back {dx dy : Int} (f : List Rc) : (f.map (mvR dx dy)).map (mvR (-dx) (-dy)) = f := by
  rw [List.map_map]
  have e : (mvR (-dx) (-dy) ∘ mvR dx dy) = id := by
    funext q
    cases q
    unfold mvR
    simp only [Function.comp, id]
    congr 1 <;> omega
  rw [e, List.map_id]
end Od

namespace Od
open PySem L2 Evl PySem.Spec PyProof.Rows

/-! ### defs that are run where no repr is under way -/
def Gd (A : Around) : Prop := A.guards = some []
theorem Gd.deeper {A : Around} (g : Gd A) (env : Env) : Gd (A.deeper env) := g
structure FnG (P : Program) (w : World) (K : PySem.W.Frag) (mg : Str → Option Value) (base : Heap) (CX : CXT) (k : Nat) (f : Addr) (fd : FuncData) (ps : List Str) (sp : Sp) : Prop where
  len : ∀ vs H Q E, sp vs H Q E → vs.length = ps.length
  run : ∀ (A : Around) (outer : List Env) (s : Shared) (H : Hp) (args : Args) (us : List Value) (vs : List V) (Q : VK) (E : XK), Gd A → Room k A → Env0 P w K mg base A outer s H →
    BindsTo s fd args (ps.zip us) → Vals vs us → sp vs H Q E → codeAny (model P w) A (.call (.ref f) args) (CR CX outer P w H s Q E) s
section
variable {CX : CXT} {P : Program} {w : World} {K : PySem.W.Frag} {mg : Str → Option Value} {base : Heap} {k : Nat} {f : Addr} {fd : FuncData} {N ps : List Str} {sp : Sp}
theorem FnG.of (F : FnOk P w K mg base CX k f fd ps sp) : FnG P w K mg base CX k f fd ps sp := ⟨F.len, fun A o s H a us vs Q E _ => F.run A o s H a us vs Q E⟩
/-- a body's walk, where no repr is under way -/
theorem Fun.okG {x qual : Str} {st : Stmt} (F : Fun K x qual st f fd) (S : FnScope N ps (defScope st)) (len : ∀ vs H Q E, sp vs H Q E → vs.length = ps.length)
    (hb : ∀ (cdv : Value) (A : Around) (outer : List Env) (s : Shared) (H : Hp) (vs : List V) (Q : VK) (E : XK), Gd (A.deeper (envOfC qual (defScope st) s.heap.objs.size f cdv)) → Room k (A.deeper (envOfC qual (defScope st) s.heap.objs.size f cdv)) → sp vs H Q E →
      ∃ t, PSs (cxOf CX0 P w K mg base N qual (defScope st) f cdv A outer s H E).nox (defBody st) t ∧ t { nx := fun _ H' => Q .non H', rt := Q } (L2.start N vs) H) : FnG P w K mg base CX0 (k + 1) f fd ps sp := by
  obtain ⟨oc, od, kV, doc, pm, an, cdv, ct, osl, rfl, lk, hcd⟩ := F.ex
  refine ⟨len, fun A o s H args us vs Q E gd rm env bnd rel prom => ?_⟩
  have eqlen := len vs H Q E prom
  have kin : K.In s.heap := env.mod.kin.keeps fun b ob e => (env.bs b ob e).1
  have nol : s.heap.NoLimit := env.mod.nolimit.keeps fun b ob e => (env.bs b ob e).1
  have places : ∀ y ∈ ps.zip us, (defScope st).names.lookup y.1 = some .local ∨ ((defScope st).names.lookup y.1 = some .cell ∧ ((cellsFrom (s.heap.objs.size + 1) (defScope st).names []).lookup y.1).isSome = true) := by
    rintro ⟨n, v⟩ hy
    rcases S.par n (List.of_mem_zip hy).1 with z | z
    · exact Or.inl z
    · exact Or.inr ⟨z, PySem.W.cellsFrom_some _ _ _ (Or.inl z)⟩
  refine codeAny_call_function rm.depth (kin _ _ lk) rfl S.co S.gen rfl (PySem.W.codeRec_of kin hcd) (bnd _ _ _ _ ?_)
  refine wpAny_newFunctionEnv_cells S.kind places fun e2 he2 s1 inC => ?_
  subst he2
  refine ⟨nol.keeps inC.toInCall.keep, codeAny_func ?_⟩
  obtain ⟨t, walk, read⟩ := hb cdv A o s H vs Q E (gd.deeper _) (rm.deeper _) prom
  have inv := inv_start (E := E) (CX := CX0) S rm.hd env eqlen rel inC
  refine wpAny_mono (walk.nox.run [] s1 _ H _ inv read) (fun fl s' done => ?_) (fun e s' done => done)
  have give : ∀ {σ' : L2.St} {H' : Hp} {v : V} {u : Value}, Inv (cxOf CX0 P w K mg base N qual (defScope st) f cdv A o s H E) [] σ' H' s' → RelV v u → Q v H' → CE o P w H s Q u s' := by
    intro σ' H' v u J rv qq
    exact ⟨v, H', J.os, J.bare, J.base, J.hok, rv, qq⟩
  match fl, done with
  | .ret u, ⟨v, σ', H', J, rv, qq⟩ => exact give J rv qq
  | .next, ⟨σ', H', J, qq⟩ => exact give (v := V.non) (u := Value.none) J rfl qq
  | .brk, ⟨_, _, _, z⟩ => exact z.elim
  | .cont, ⟨_, _, _, z⟩ => exact z.elim
end
section
variable {X : Cx} {CX : CXT} {k : Nat} {f : Addr} {fd : FuncData} {ps : List Str} {sp : Sp} {dvs : List V} {ds : List Value} {E : XK} {x : Str} {p pos : Pos} {e : Expr} {es : List Expr} {t : TA}
theorem run_g {pins : List (Addr × Obj)} {σ : L2.St} {H : Hp} {s : Shared} {Q : VK} {us : List Value} {vs : List V} (F : FnG X.prog X.w X.K X.mg X.base CX k f fd ps sp) (gd : Gd X.A) (rm : Room k X.A) (hb : L2.Binds X.K fd ps ds) (hd : Vals dvs ds) (hx : Passes CX X E) (I : Inv X pins σ H s) (r : Vals vs us)
    (h : sp (vs ++ dvs) H Q E) : wpAny (model X.prog X.w) X.A (call (.ref f) us) (EP X pins σ Q) X.xe s := by
  have both : Vals (vs ++ dvs) (us ++ ds) := Vals.append r hd
  have hlen : (us ++ ds).length = ps.length := both.length.symm.trans (F.len _ _ _ _ h)
  refine wpAny_call (codeAny_mono (F.run X.A X.stack s H ⟨us, []⟩ (us ++ ds) (vs ++ dvs) Q E gd rm I.env0 (hb s us I.kIn hlen) both h) ?_)
  intro res s' out
  match res, out with
  | .error e, out => exact hx pins σ H s e s' I out
  | .ok (.ret u), out => exact I.after out
theorem pe_callG (F : FnG X.prog X.w X.K X.mg X.base CX k f fd ps sp) (gd : Gd X.A) (rm : Room k X.A) (hg : Gl X x) (hm : X.mg x = some (.ref f)) (hk : PySem.W.keepIn X.K (.ref f) = true) (hb : L2.Binds X.K fd ps ds) (hd : Vals dvs ds) (hx : Passes CX X E) (ha : PA X (e :: es) t)
    (hdb : (x == ("__debug__" : Str)) = false := by decide) (he : starEach (e :: es) X.env = (false, eval e X.env) :: starEach es X.env := by rfl) (hpl : (backTo pos (starEach es X.env)).any (·.1) = false := by rfl) : PE X (.Call (.Name x p) (e :: es) [] pos) (tCall sp dvs E t) := by
  constructor
  intro pins s σ H Q I h
  refine wpAny_Call_Name_kw (ld_glob I hg hm ?_ hdb)
  refine PySem.W.callWith_K (h₀ := X.base) I.ok.mod.kin hk (thn (ha.run pos pins s σ H _ I h) ?_) he hpl
  rintro us s1 ⟨vs, H1, I1, rel, qq⟩
  exact ⟨I1.kIn, run_g F gd rm hb hd hx I1 rel qq⟩
end
structure DefG (P : Program) (w : World) (K : PySem.W.Frag) (mg : Str → Option Value) (base : Heap) (CX : CXT) (x : Str) (k : Nat) (ps : List Str) (sp : Sp) where
  f : Addr
  fd : FuncData
  ok : FnG P w K mg base CX k f fd ps sp
  mgf : mg x = some (.ref f)
  kp : PySem.W.keepIn K (.ref f) = true
  b : L2.Binds K fd ps []

/-! ### repr of data -/
/-- what stands in a list or tuple is data of this kind (no dict in it) -/
def rRepr (K : PySem.W.Frag) : List V → Hp → VK → Prop := fun vs H Q => ∃ a d, vs = [.ref a] ∧ Dp K H (.ref a) d ∧ d.showable = true ∧ d.hasDict = false ∧ d.depth ≤ 60 ∧ d.shown.length ≤ sizeLine ∧ Q (.str d.shown) H
theorem krepr {X : Cx} (K : PySem.W.Frag) (gd : Gd X.A) (hu : X.A.units + 64 < cLine) (h : X.K = K := by rfl) : CallR X (.builtin "repr") (rRepr K) := by
  subst h
  intro pins s σ H vs us Q I r q
  obtain ⟨a, d, rfl, hd, h1, h2, h3, h4, q⟩ := q
  obtain rfl := Vals.ref1 r
  obtain ⟨as, rd⟩ := Dp.reads I d (.ref a) (.ref a) hd rfl
  refine repr_of_reads' rd h1 (fun z => by rw [h2] at z; cases z) gd (by omega) (fun _ _ e => e) (fun h' u tk hk => ?_) h4
  exact ⟨.str d.shown, H, I.kept (t' := tk) hk, ⟨u, rfl⟩, q⟩
end Od

namespace Od
open PySem L2 Evl PySem.Spec PyProof.Rows

/-! ### the law's own call, where no repr is under way -/
/-- the call of the law at fa with the script at a ends, gives True, and leaves what stood -/
def LawEnds (P : Program) (w : World) (fa a : Addr) (t : Shared) : Prop := codeAny (model P w) callerA (.call (.ref fa) ⟨[.ref a], []⟩) (fun r s' => r = .ok (.ret (.bool true)) ∧ OldK t.heap s'.heap ∧ s'.os = t.os ∧ AllBare s'.gens) t
section
variable {P : Program} {w : World} {K : PySem.W.Frag} {mg mb : Str → Option Value} {k : Nat} {fa a : Addr} {fd : FuncData} {x : Str} {sp : Sp} {s₁ : Shared} {vs : List Value} {ns : List Int}
/-- from an abstract heap in which at most the script stands -/
theorem end_core (kin : K.In s₁.heap) (hns : s₁.heap.Ns mainGlobals mg) (hb : s₁.heap.Ns builtinsNs mb) (hbb : ∀ x : Str, x ≠ "__name__" → mb x = bootBuiltins x) (nol : s₁.heap.NoLimit) (hg : s₁.gens = #[])
    (ha : s₁.heap.get? a = some { cls := .type "list", data := .seq vs.toArray }) (rm : Room k callerA)
    (F : ∀ base : Heap, K.In base → base.Ns mainGlobals mg → FnG P w K mg base CX0 k fa fd [x] sp) (bnd : ∀ (s : Shared) (u : Value), BindsTo s fd ⟨[u], []⟩ [(x, u)])
    (prom : ∀ H : Hp, Only H → SqL K H a (ns.map V.int) → sp [.ref a] H (fun v _ => v = .bl true) fun _ _ _ => False) {H : Hp}
    (only : Only H) (sq : SqL K H a (ns.map V.int)) (hok : HOk P w H s₁.heap) (alone : ∀ b, H b ≠ none → b = a) (notK : H a ≠ none → K.lookup a = none) :
    LawEnds P w fa a s₁ := by
  -- a dict is not the script
  have dictFree : ∀ {b : Addr} {o : Obj} {es : Array DictEntry} {ep : Nat}, s₁.heap.get? b = some o → o.data = .dict es ep → H b = none := by
    intro b o es ep e d
    by_cases z : H b = none
    · exact z
    · have := alone b z
      rw [this, ha] at e
      cases e
      cases (show Data.seq vs.toArray _ = Data.dict es ep from d)
  have space : ∀ {b : Addr} {m : Str → Option Value}, s₁.heap.Ns b m → (hidT s₁.heap H).Ns b m := by
    rintro b m ⟨o, es, ep, e, d, r⟩
    exact ⟨o, es, ep, hidT_get e (dictFree e d), d, r⟩
  have kinB : K.In (hidT s₁.heap H) := by
    intro b o e
    refine hidT_get (kin b o e) ?_
    by_cases z : H b = none
    · exact z
    · have q := alone b z
      subst q
      rw [notK z] at e
      cases e
  obtain ⟨mc, l1, l2⟩ := nol
  have md : Mod K mg (hidT s₁.heap H) := ⟨kinB, space hns, ⟨mb, space hb, hbb⟩, ⟨mc, space l1, l2⟩⟩
  have env : Env0 P w K mg (hidT s₁.heap H) callerA [] s₁ H := ⟨rfl, md, fun b o e => of_hidT e, Nat.le_of_eq (hidT_size _ _), trivial, fun b z => absurd z (show b ∉ ([] : List Addr) by simp), hok, .of_eq hg⟩
  refine codeAny_mono ((F _ kinB (space hns)).run callerA [] s₁ H ⟨[.ref a], []⟩ [.ref a] [.ref a] _ _ rfl rm env (bnd s₁ (.ref a)) (.cons rfl .nil) (prom H only sq)) ?_
  intro r s' out
  match r, out with
  | .ok (.ret u), ⟨v, H', os, bare, un, hok', rv, qv⟩ =>
    have ev : v = .bl true := qv
    subst ev
    obtain rfl : u = Value.bool true := rv
    refine ⟨rfl, OldK.of_keep fun b o e => ?_, os, bare⟩
    by_cases z : H b = none
    · exact un.keep b o e z (show b ∉ frs [] by intro q; exact absurd (show b ∈ ([] : List Addr) from q) (by simp)) (by simp)
    · rcases only b with q | ⟨ob, xs, q⟩
      · exact absurd q z
      · obtain ⟨f1, _⟩ := hok b _ q
        obtain ⟨f2, _⟩ := hok' b _ (un.frzs b ob _ q)
        rw [e] at f1
        cases f1
        exact f2
theorem end_call (kin : K.In s₁.heap) (hns : s₁.heap.Ns mainGlobals mg) (hb : s₁.heap.Ns builtinsNs mb) (hbb : ∀ x : Str, x ≠ "__name__" → mb x = bootBuiltins x) (nol : s₁.heap.NoLimit) (hg : s₁.gens = #[])
    (ha : s₁.heap.get? a = some { cls := .type "list", data := .seq vs.toArray }) (hi : IntsAre vs ns) (hl : ns.length ≤ sizeLine) (rm : Room k callerA)
    (F : ∀ base : Heap, K.In base → base.Ns mainGlobals mg → FnG P w K mg base CX0 k fa fd [x] sp) (bnd : ∀ (s : Shared) (u : Value), BindsTo s fd ⟨[u], []⟩ [(x, u)])
    (prom : ∀ H : Hp, Only H → SqL K H a (ns.map V.int) → sp [.ref a] H (fun v _ => v = .bl true) fun _ _ _ => False) :
    LawEnds P w fa a s₁ := by
  have rel := vals_ints hi
  have hlen := hi.length
  cases hk : K.lookup a with
  | some o =>
    have e := kin a o hk
    rw [ha] at e
    cases e
    refine end_core kin hns hb hbb nol hg ha rm F bnd prom (H := fun _ => none) (fun _ => Or.inl rfl) (Or.inr ⟨_, vs.toArray, _, hk, rfl, rfl, rfl, ?_, by simpa using rel⟩) (fun b u z => nomatch (show (none : Option HO) = some u from z)) (fun b z => absurd rfl z) (fun z => absurd rfl z)
    rw [List.size_toArray, hlen]
    exact hl
  | none =>
    have one : ∀ b, (fun b => if b = a then some (HO.frz { cls := .type "list", data := .seq vs.toArray } (.lst (ns.map V.int))) else none : Hp) b ≠ none → b = a := by
      intro b z
      by_cases q : b = a
      · exact q
      · exact absurd (if_neg q) z
    refine end_core kin hns hb hbb nol hg ha rm F bnd prom (H := fun b => if b = a then some (.frz { cls := .type "list", data := .seq vs.toArray } (.lst (ns.map V.int))) else none) (fun b => ?_) (Or.inl (Or.inr ⟨_, if_pos rfl⟩)) (fun b u z => ?_) one (fun _ => hk)
    · by_cases q : b = a
      · exact Or.inr ⟨_, _, if_pos q⟩
      · exact Or.inl (if_neg q)
    · by_cases q : b = a
      · have z2 := (if_pos q).symm.trans z
        cases z2
        subst q
        exact ⟨ha, by rw [List.length_map]; exact hl, vs, _, rel, ha⟩
      · have z2 := (if_neg q).symm.trans z
        cases z2
end
theorem walk_g {l : PySem.W.OpenLaw} {n k : Nat} {q : Program} {loose : List Str} {XP : (Str → Option Value) → Heap → Prop} {YP : World → Heap → Prop} {d : DefRec} {K : Params → PySem.W.Frag} {sp : World → Sp} {x : Str}
    (hn : l.most = some n) (hn2 : n ≤ sizeLine) (hdf : d.params.defaults = []) (rm : Room k callerA)
    (written : ∀ (w : World) (h : Heap), YP w h → (K w.params).In h) (F : ∀ (w : World) (mg : Str → Option Value) (fa : Addr) (h : Heap), (K w.params).In h → h.Ns mainGlobals mg → mg d.name = some (.ref fa) → ∃ fd : FuncData, (∀ (s : Shared) (u : Value), BindsTo s fd ⟨[u], []⟩ [(x, u)]) ∧ ∀ base : Heap, (K w.params).In base → base.Ns mainGlobals mg → FnG l.prog w (K w.params) mg base CX0 k fa fd [x] (sp w))
    (prom : ∀ (w : World) (H : Hp) (a : Addr) (ns : List Int), ns.length ≤ n → Only H → SqL (K w.params) H a (ns.map V.int) → sp w [.ref a] H (fun v _ => v = .bl true) fun _ _ _ => False) :
    PySem.W.WalkO q loose XP YP l.row.toRowW d [] (fun g us => PySem.call g us) := by
  refine Att.attach_call hn hdf ?_
  intro w s₀ s₁ mg mb fa o pm cd doc a vs ns G Y _ _ _ hmg hobj hints hlen hg
  have kin := written w _ Y
  obtain ⟨fd, bnd, fn⟩ := F w mg fa _ kin G.T.g hmg
  exact end_call kin G.T.g G.T.b G.T.builtins G.T.nolimit hg hobj hints (Nat.le_trans hlen hn2) rm fn bnd fun H hO hS => prom w H a ns hlen hO hS
end Od

namespace Od
open PySem L2 Evl PySem.Spec PyProof.Rows

/-! ### a tuple times 1 is the tuple itself -/
theorem tuple_once (l : Addr) (items : Array Value) (n : Nat) (dd : Option Addr) (sl : Array (Option Value)) (u : Tok) :
    Meets (Builtin.«tuple.__mul__» ⟨[.ref l, .int 1 u], []⟩) (fun _ R s => s.heap.get? l = some { cls := .type "tuple", dict := dd, data := .seq items n, slots := sl } ∧ R (.ok (.ret (.ref l))) s) :=
  .of_wp fun prog w A R s h => by
    obtain ⟨hp, g, d, tk, os⟩ := s
    obtain ⟨hl, h⟩ := h
    have f1 := AutoSeq1.idx_int
    have c1 : (items.isEmpty || (1 : Int) == 1) = true := by
      rw [show ((1 : Int) == 1) = true from rfl, Bool.or_true]
    wp_walk using AutoSeq1.wpAny_loadPart' hl
    exact ⟨_, rfl, h⟩
def rRep1 (K : PySem.W.Frag) : R2 := fun x y H Q => ∃ l xs, x = .ref l ∧ y = .int 1 ∧ SqT K H l xs ∧ Q (.ref l) H
theorem op_rep1 {X : Cx} : OpR X (binaryOp .Mult) (rRep1 X.K) := by
  intro pins s σ H x y v u Q I rx ry h
  obtain ⟨l, xs, rfl, rfl, hT, q⟩ := h
  cases rx
  obtain ⟨t, rfl⟩ := ry
  obtain ⟨its, r, ⟨⟨cls, dd, data, sl⟩, ho, hc, n, hd⟩, hs⟩ := I.tuple hT
  simp only at hc hd
  subst hc hd
  refine wpAny_binaryOp_repeat_ref (T := "tuple") (U := "int") (by decide) ⟨_, ho, rfl⟩ (fun s' => typeIs_int s' 1 t) noFill_tuple_mul F.fills_int_mul F.slot_int_rmul repeat_tuple F.slot_int_index.lookup
    (call_meets F.slot_int_rmul (typeIs_int s 1 t) F.entry_int_rmul (F.args_int_rmul_2 _ _) (int_rmul_tuple 1 t l its.toArray n dd sl)
      ⟨ho, rfl, ⟨_, ho, rfl⟩, call_meets F.slot_tuple_mul ⟨_, ho, rfl⟩ F.entry_tuple_mul (F.args_tuple_mul_2 _ _) (tuple_once l its.toArray n dd sl t) ⟨ho, ?_⟩⟩)
  exact ⟨.ref l, H, I, rfl, q⟩
structure RRep (K : PySem.W.Frag) (x y : V) (H : Hp) (Q : VK) : Prop where
  h : rRepT K x y H Q ∨ rRep1 K x y H Q
theorem krep {X : Cx} (K : PySem.W.Frag) (h : X.K = K := by rfl) : OpR X (binaryOp .Mult) (RRep K) := by
  subst h
  exact fun pins s σ H x y v u Q I rx ry q => (OpR.or op_repT op_rep1) pins s σ H x y v u Q I rx ry q.h
theorem repA {K : PySem.W.Frag} {H : Hp} {a : Addr} {x : V} {k : Int} {Q : VK} (h : H a = some (.tup [x])) (h1 : 1 ≤ k) (h2 : k ≤ 1000) (q : ∀ p H', Ex H H' → H' p = some (.tup (List.replicate k.toNat x)) → Q (.ref p) H') : RRep K (.ref a) (.int k) H Q := by
  refine .mk ?_
  by_cases e : k = 1
  · subst e
    exact .inr ⟨a, _, rfl, rfl, SqT.of h, q a H (Ex.refl _) h⟩
  · refine .inl ⟨a, k, _, rfl, rfl, SqT.of h, by simp, by omega, h2, by simp, fun p hp => q p _ (Ex.new hp) ?_⟩
    rw [upd_same]
    congr 2
    generalize k.toNat = m
    induction m with
    | zero => rfl
    | succ m ih => rw [List.replicate_succ, List.replicate_succ, List.flatten_cons, ih]; rfl

/-! ### data whose text is short -/
structure Sh (B : Nat) (d : PyData) : Prop where
  show_ : d.showable = true
  dict : d.hasDict = false
  short : d.leavesShort 13 = true
  wt : d.weight ≤ B
structure ShAll (B : Nat) (ds : List PyData) : Prop where
  show_ : PyData.showableAll ds = true
  dict : PyData.hasDictAll ds = false
  short : PyData.leavesShortAll 13 ds = true
  wt : PyData.weightAll ds ≤ B
theorem Sh.mono {B C : Nat} {d : PyData} (h : Sh B d) (e : B ≤ C) : Sh C d := ⟨h.1, h.2, h.3, Nat.le_trans h.4 e⟩
theorem ShAll.nil : ShAll 0 [] := ⟨rfl, rfl, rfl, Nat.le_refl _⟩
theorem ShAll.cons {B C : Nat} {d : PyData} {ds : List PyData} (h : Sh B d) (t : ShAll C ds) : ShAll (B + 1 + C) (d :: ds) := by
  refine ⟨?_, ?_, ?_, ?_⟩
  · simp only [PyData.showableAll, h.1, t.1, Bool.and_self]
  · simp only [PyData.hasDictAll, h.2, t.2, Bool.or_self]
  · simp only [PyData.leavesShortAll, h.3, t.3, Bool.and_self]
  · have h1 := h.4
    have h2 := t.4
    simp only [PyData.weightAll]
    omega
theorem ShAll.tup {B : Nat} {ds : List PyData} (t : ShAll B ds) : Sh B (.tuple ds) := ⟨by simpa only [PyData.showable] using t.1, by simpa only [PyData.hasDict] using t.2, by simpa only [PyData.leavesShort] using t.3, by simpa only [PyData.weight] using t.4⟩
theorem ShAll.lst {B : Nat} {ds : List PyData} (t : ShAll B ds) : Sh B (.list ds) := ⟨by simpa only [PyData.showable] using t.1, by simpa only [PyData.hasDict] using t.2, by simpa only [PyData.leavesShort] using t.3, by simpa only [PyData.weight] using t.4⟩
theorem sh_int {i : Int} (h1 : -1000000 ≤ i) (h2 : i ≤ 1000000) : Sh 20 (.int i) := by
  have hn : i.natAbs ≤ 1000000 := by omega
  have hl : i.natAbs ≠ 0 → i.natAbs.log2 < 20 := fun h => (Nat.log2_lt h).mpr (Nat.lt_of_le_of_lt hn (by decide))
  refine ⟨?_, rfl, ?_, ?_⟩
  · simp only [PyData.showable, decide_eq_true_eq]
    by_cases h : i.natAbs = 0
    · rw [h]
      decide
    · exact Nat.lt_trans (hl h) (by decide)
  · simp only [PyData.leavesShort, decide_eq_true_eq]
    exact PyData.shown_int_le2 (by omega) (by omega)
  · simp only [PyData.weight]
    by_cases h : i = 0
    · subst h
      decide
    · have : (i == 0) = false := beq_eq_false_iff_ne.mpr h
      rw [this]
      have := hl (by omega)
      show i.natAbs.log2 + 1 ≤ 20
      omega
theorem sh_ints : ∀ {ns : List Int}, (∀ n ∈ ns, -1000000 ≤ n ∧ n ≤ 1000000) → ShAll (21 * ns.length) (ns.map PyData.int)
  | [], _ => .nil
  | n :: ns, h => by
    have z := ShAll.cons (sh_int (h n (by simp)).1 (h n (by simp)).2) (sh_ints (ns := ns) fun m hm => h m (by simp [hm]))
    refine ⟨z.1, z.2, z.3, Nat.le_trans z.4 ?_⟩
    rw [List.length_cons]
    omega
theorem Sh.len {B : Nat} {d : PyData} (h : Sh B d) (hB : B ≤ 1000000) : d.shown.length ≤ sizeLine := by
  have h2 := PyData.shown_le 13 (by decide) d h.3
  have h4 := h.4
  have e : sizeLine = 16777216 := by decide
  omega
theorem reprA {K : PySem.W.Frag} {H : Hp} {a : Addr} {d : PyData} {B : Nat} {Q : VK} (hd : Dp K H (.ref a) d) (h : Sh B d) (hB : B ≤ 1000000) (hdp : d.depth ≤ 60) (q : Q (.str d.shown) H) : rRepr K [.ref a] H Q := ⟨a, d, rfl, hd, h.1, h.2, hdp, h.len hB, q⟩
end Od

namespace Od
open PySem L2 Evl

/-! ### pictures -/
structure Pc where
  w : Int
  h : Int
  vs : List Int
  cs : List Int
structure Pc.Ok (m : Int) (p : Pc) : Prop where
  w1 : 1 ≤ p.w
  w2 : p.w ≤ m
  h1 : 1 ≤ p.h
  h2 : p.h ≤ m
  vl : (p.vs.length : Int) = p.w * p.h
  cl : (p.cs.length : Int) = p.w * p.h
  vb : ∀ v ∈ p.vs, 0 ≤ v ∧ v ≤ 255
  cb : ∀ v ∈ p.cs, 0 ≤ v ∧ v ≤ 256
def PcV (H : Hp) (v : V) (p : Pc) : Prop := ∃ a va ca, v = .ref a ∧ H a = some (.tup [.int p.w, .int p.h, .ref va, .ref ca]) ∧ H va = some (.tup (p.vs.map V.int)) ∧ H ca = some (.tup (p.cs.map V.int))
theorem PcV.tk {H H' : Hp} {v : V} {p : Pc} (e : TK H H') (h : PcV H v p) : PcV H' v p := by
  obtain ⟨a, va, ca, rfl, h1, h2, h3⟩ := h
  exact ⟨a, va, ca, rfl, e _ _ h1, e _ _ h2, e _ _ h3⟩
def pcD (p : Pc) : PyData := .tuple [.int p.w, .int p.h, .tuple (p.vs.map PyData.int), .tuple (p.cs.map PyData.int)]
theorem PcV.dp {K : PySem.W.Frag} {H : Hp} {v : V} {p : Pc} (h : PcV H v p) : Dp K H v (pcD p) := by
  obtain ⟨a, va, ca, rfl, h1, h2, h3⟩ := h
  exact .tup (SqT.of h1) (.cons (.int _) (.cons (.int _) (.cons (.tup (SqT.of h2) (DaAll.dp (da_ints _))) (.cons (.tup (SqT.of h3) (DaAll.dp (da_ints _))) .nil))))
theorem area_le {w h m : Int} (w1 : 1 ≤ w) (w2 : w ≤ m) (h1 : 1 ≤ h) (h2 : h ≤ m) : 1 ≤ w * h ∧ w * h ≤ m * m := by
  have a : 1 * 1 ≤ w * h := Int.mul_le_mul w1 h1 (by omega) (by omega)
  have b : w * h ≤ m * m := Int.mul_le_mul w2 h2 (by omega) (by omega)
  exact ⟨a, b⟩
theorem Pc.Ok.area {m : Int} {p : Pc} (k : p.Ok m) : 1 ≤ p.w * p.h ∧ p.w * p.h ≤ m * m := area_le k.w1 k.w2 k.h1 k.h2
theorem place_lt {w h x y : Int} (x0 : 0 ≤ x) (x1 : x < w) (y0 : 0 ≤ y) (y1 : y < h) : 0 ≤ y * w + x ∧ y * w + x < w * h := by
  have a : 0 ≤ y * w := Int.mul_nonneg y0 (by omega)
  have b : (y + 1) * w ≤ h * w := Int.mul_le_mul_of_nonneg_right (by omega) (by omega)
  rw [Int.add_mul, Int.one_mul, Int.mul_comm h w] at b
  omega
theorem getD_at {ns : List Int} {i : Nat} (h : i < ns.length) : ns.getD i 0 = ns[i] := by
  rw [List.getD_eq_getElem?_getD, List.getElem?_eq_getElem h]
  rfl
/-- what stands at a point -/
def Pc.In (p : Pc) (x y : Int) : Prop := 0 ≤ x ∧ x < p.w ∧ 0 ≤ y ∧ y < p.h
instance (p : Pc) (x y : Int) : Decidable (p.In x y) := inferInstanceAs (Decidable (_ ∧ _))
def Pc.at (p : Pc) (x y : Int) : Pt := if p.In x y then (p.vs.getD (y * p.w + x).toNat 0, p.cs.getD (y * p.w + x).toNat 0) else (0, 0)
theorem at_bound {m : Int} {p : Pc} (k : p.Ok m) (x y : Int) : 0 ≤ (p.at x y).1 ∧ (p.at x y).1 ≤ 255 ∧ 0 ≤ (p.at x y).2 ∧ (p.at x y).2 ≤ 256 := by
  unfold Pc.at
  split
  · rename_i h
    obtain ⟨a, b, c, d⟩ := h
    obtain ⟨e, f⟩ := place_lt a b c d
    have e1 : (y * p.w + x).toNat < p.vs.length := by have := k.vl; omega
    have e2 : (y * p.w + x).toNat < p.cs.length := by have := k.cl; omega
    rw [getD_at e1, getD_at e2]
    exact ⟨(k.vb _ (List.getElem_mem e1)).1, (k.vb _ (List.getElem_mem e1)).2, (k.cb _ (List.getElem_mem e2)).1, (k.cb _ (List.getElem_mem e2)).2⟩
  · exact ⟨by decide, by decide, by decide, by decide⟩
/-- the item of a tuple of ints at a place -/
theorem atD {ns : List Int} {i : Int} (h0 : 0 ≤ i) (h1 : i < ns.length) : atI (ns.map V.int) i = some (.int (ns.getD i.toNat 0)) := by
  obtain ⟨m, rfl⟩ := Int.eq_ofNat_of_zero_le h0
  have hm : m < ns.length := by omega
  have e : ((m : Int)).toNat = m := by omega
  rw [e, getD_at hm]
  exact atI_nat (by rw [List.getElem?_map, List.getElem?_eq_getElem hm]; rfl)
def spPoint (K : PySem.W.Frag) : Sp := fun vs H Q _ => ∃ v x y p m, vs = [v, .int x, .int y] ∧ PcV H v p ∧ p.Ok m ∧ m ≤ 60 ∧ ∀ w H', Ex H H' → PtV H' w (p.at x y) → Q w H'
theorem sh_pic {m : Int} {p : Pc} (k : p.Ok m) (hm : m ≤ 60) : Sh 300000 (pcD p) := by
  have hv := sh_ints (ns := p.vs) fun n hn => by have := k.vb n hn; omega
  have hc := sh_ints (ns := p.cs) fun n hn => by have := k.cb n hn; omega
  have z := (ShAll.cons (sh_int (i := p.w) (by have := k.w1; omega) (by have := k.w2; omega)) (.cons (sh_int (i := p.h) (by have := k.h1; omega) (by have := k.h2; omega)) (.cons hv.tup (.cons hc.tup .nil)))).tup
  refine z.mono ?_
  have a := k.area.2
  have b : m * m ≤ 60 * 60 := Int.mul_le_mul hm hm (by have := k.w1; have := k.w2; omega) (by decide)
  have := k.vl
  have := k.cl
  omega
theorem depth_ints : ∀ ns : List Int, PyData.depthAll (ns.map PyData.int) = 0
  | [] => by simp only [List.map_nil, PyData.depthAll]
  | n :: ns => by
    rw [List.map_cons]
    simp only [PyData.depthAll, PyData.depth, depth_ints ns, Nat.max_self]
theorem depth_pic (p : Pc) : (pcD p).depth ≤ 60 := by
  simp only [pcD, PyData.depth, PyData.depthAll, depth_ints]
  decide
theorem canLay_ints : ∀ ns : List Int, PyData.canLayAll0 (ns.map PyData.int) = true
  | [] => by simp only [List.map_nil, PyData.canLayAll0]
  | n :: ns => by
    rw [List.map_cons]
    simp only [PyData.canLayAll0, PyData.canLay0, canLay_ints ns, Bool.and_self]
end Od

namespace Od
open PySem L2 Evl

/-! ### the turns of a block, whatever is done in a turn -/
theorem turns {J : It} {n : Nat} {G : Hp → Prop} {Y : Nat → Hp → V → Hp → Prop} (w : Walk J n G Y) {B : V → Hp → (Hp → Prop) → Prop} {H0 : Hp} {Qd : Hp → Prop} (Pv : Nat → Hp → Prop) (h0 : Pv 0 H0) (hG : ∀ i H, i ≤ n → Pv i H → G H)
    (hs : ∀ i x H H', i < n → Pv i H → Y i H x H' → B x H' (Pv (i + 1))) (hd : ∀ H, Pv n H → Qd H) :
    ∃ W : Nat → Nat → Hp → Prop, (∃ m, W 0 m H0) ∧ ∀ i m H, W i m H →
      (J.stop i H ∧ Qd H) ∨ (J.go i H ∧ ∃ Nx : Hp → Prop, (∀ H', Nx H' → ∃ m', m' < m ∧ W (i + 1) m' H') ∧ ∀ x H', J.yld i H x H' → B x H' Nx) := by
  refine ⟨fun i m H => m = n - i ∧ i ≤ n ∧ Pv i H, ⟨n, by simp, Nat.zero_le _, h0⟩, ?_⟩
  rintro i m H ⟨rfl, hi, p⟩
  have q := hG i H hi p
  by_cases hlt : i < n
  · exact .inr ⟨w.goes i H hlt q, Pv (i + 1), fun H' p' => ⟨n - (i + 1), by omega, rfl, hlt, p'⟩, fun x H' y => hs i x H H' hlt p (w.yields i H x H' hlt q y)⟩
  · have e : i = n := by omega
    subst e
    exact .inl ⟨w.stops H q, hd H p⟩
theorem turns_range {lo : Int} {n : Nat} {B : V → Hp → (Hp → Prop) → Prop} {H0 : Hp} {Qd : Hp → Prop} (Pv : Nat → Hp → Prop) (h0 : Pv 0 H0) (hs : ∀ i H, i < n → Pv i H → B (.int (lo + (i : Nat))) H (Pv (i + 1))) (hd : ∀ H, Pv n H → Qd H) :
    ∃ W : Nat → Nat → Hp → Prop, (∃ m, W 0 m H0) ∧ ∀ i m H, W i m H →
      ((Itr lo n).stop i H ∧ Qd H) ∨ ((Itr lo n).go i H ∧ ∃ Nx : Hp → Prop, (∀ H', Nx H' → ∃ m', m' < m ∧ W (i + 1) m' H') ∧ ∀ x H', (Itr lo n).yld i H x H' → B x H' Nx) :=
  turns walk_range Pv h0 (fun _ _ _ _ => trivial) (fun i x H H' hi p y => by
    obtain ⟨rfl, rfl⟩ := y
    exact hs i H' hi p) hd

/-! ### a picture made point by point -/
def cells (w h : Int) (g : Int → Int → Pt) : List Pt := (List.range (w * h).toNat).map fun (k : Nat) => g ((k : Int) % w) ((k : Int) / w)
def mkP (w h : Int) (g : Int → Int → Pt) : Pc := ⟨w, h, (cells w h g).map Prod.fst, (cells w h g).map Prod.snd⟩
theorem mkP_at {w h x y : Int} {g : Int → Int → Pt} (x0 : 0 ≤ x) (x1 : x < w) (y0 : 0 ≤ y) (y1 : y < h) : (mkP w h g).at x y = g x y := by
  obtain ⟨b0, b1⟩ := place_lt x0 x1 y0 y1
  unfold Pc.at
  rw [if_pos ⟨x0, x1, y0, y1⟩]
  have hk : (y * w + x).toNat < (w * h).toNat := by omega
  have e1 : ((y * w + x).toNat : Int) % w = x := by
    rw [Int.toNat_of_nonneg b0, Int.add_comm, Int.add_mul_emod_self_right, Int.emod_eq_of_lt x0 x1]
  have e2 : ((y * w + x).toNat : Int) / w = y := by
    rw [Int.toNat_of_nonneg b0, Int.add_comm, Int.add_mul_ediv_right _ _ (by omega), Int.ediv_eq_zero_of_lt x0 x1, Int.zero_add]
  have l1 : (y * w + x).toNat < ((cells w h g).map Prod.fst).length := by
    unfold cells
    rw [List.length_map, List.length_map, List.length_range]
    exact hk
  have l2 : (y * w + x).toNat < ((cells w h g).map Prod.snd).length := by
    unfold cells
    rw [List.length_map, List.length_map, List.length_range]
    exact hk
  show (((cells w h g).map Prod.fst).getD (y * w + x).toNat 0, ((cells w h g).map Prod.snd).getD (y * w + x).toNat 0) = g x y
  rw [getD_at l1, getD_at l2]
  simp only [cells, List.getElem_map, List.getElem_range]
  rw [e1, e2]
theorem mkP_out {w h x y : Int} {g : Int → Int → Pt} (no : ¬ (0 ≤ x ∧ x < w ∧ 0 ≤ y ∧ y < h)) : (mkP w h g).at x y = (0, 0) := by
  unfold Pc.at
  exact if_neg no
theorem mkP_ok {w h m : Int} {g : Int → Int → Pt} (w1 : 1 ≤ w) (w2 : w ≤ m) (h1 : 1 ≤ h) (h2 : h ≤ m) (hg : ∀ x y, 0 ≤ (g x y).1 ∧ (g x y).1 ≤ 255 ∧ 0 ≤ (g x y).2 ∧ (g x y).2 ≤ 256) : (mkP w h g).Ok m := by
  obtain ⟨a1, a2⟩ := area_le w1 w2 h1 h2
  refine ⟨w1, w2, h1, h2, ?_, ?_, ?_, ?_⟩
  · show (((cells w h g).map Prod.fst).length : Int) = w * h
    unfold cells
    rw [List.length_map, List.length_map, List.length_range]
    omega
  · show (((cells w h g).map Prod.snd).length : Int) = w * h
    unfold cells
    rw [List.length_map, List.length_map, List.length_range]
    omega
  · intro v hv
    obtain ⟨q, hq, rfl⟩ := List.mem_map.mp hv
    obtain ⟨k, _, rfl⟩ := List.mem_map.mp hq
    exact ⟨(hg _ _).1, (hg _ _).2.1⟩
  · intro v hv
    obtain ⟨q, hq, rfl⟩ := List.mem_map.mp hv
    obtain ⟨k, _, rfl⟩ := List.mem_map.mp hq
    exact (hg _ _).2.2
theorem pc_ext {p q : Pc} {m n : Int} (hp : p.Ok m) (hq : q.Ok n) (hw : p.w = q.w) (hh : p.h = q.h) (h : ∀ x y, p.In x y → p.at x y = q.at x y) : p = q := by
  obtain ⟨w, hg, vs, cs⟩ := p
  obtain ⟨w', hg', vs', cs'⟩ := q
  dsimp only at hw hh
  subst hw hh
  have vl := hp.vl
  have cl := hp.cl
  have vl' := hq.vl
  have cl' := hq.cl
  dsimp only at vl cl vl' cl'
  have w1 := hp.w1
  dsimp only at w1
  have key : ∀ k : Nat, k < vs.length → vs.getD k 0 = vs'.getD k 0 ∧ cs.getD k 0 = cs'.getD k 0 := by
    intro k hk
    have d := Int.emod_add_mul_ediv (k : Int) w
    have x0 := Int.emod_nonneg (k : Int) (b := w) (by omega)
    have x1 := Int.emod_lt_of_pos (k : Int) (b := w) (by omega)
    have y0 : 0 ≤ (k : Int) / w := Int.ediv_nonneg (by omega) (by omega)
    have y1 : (k : Int) / w < hg := by
      refine Int.ediv_lt_of_lt_mul (by omega) ?_
      rw [Int.mul_comm]
      omega
    have hin : (⟨w, hg, vs, cs⟩ : Pc).In ((k : Int) % w) ((k : Int) / w) := ⟨x0, x1, y0, y1⟩
    have e := h _ _ hin
    have hin' : (⟨w, hg, vs', cs'⟩ : Pc).In ((k : Int) % w) ((k : Int) / w) := ⟨x0, x1, y0, y1⟩
    unfold Pc.at at e
    rw [if_pos hin, if_pos hin'] at e
    dsimp only at e
    have ek : (((k : Int) / w) * w + (k : Int) % w).toNat = k := by
      rw [Int.mul_comm]
      omega
    rw [ek] at e
    exact ⟨(Prod.mk.inj e).1, (Prod.mk.inj e).2⟩
  have e1 : vs = vs' := by
    refine List.ext_getElem (by omega) fun k h1 h2 => ?_
    have := (key k h1).1
    rw [getD_at h1, getD_at h2] at this
    exact this
  have e2 : cs = cs' := by
    refine List.ext_getElem (by omega) fun k h1 h2 => ?_
    have := (key k (by omega)).2
    rw [getD_at h1, getD_at h2] at this
    exact this
  subst e1 e2
  rfl
/-- row by row -/
theorem cells_take {w h : Int} {g : Int → Int → Pt} {i j : Nat} (hj : (j : Int) < w) (hi : (i : Int) < h) : (cells w h g).take (i * w.toNat + j + 1) = (cells w h g).take (i * w.toNat + j) ++ [g j i] := by
  obtain ⟨b0, b1⟩ := place_lt (x := (j : Int)) (y := (i : Int)) (by omega) hj (by omega) hi
  have hw : ((i * w.toNat + j : Nat) : Int) = (i : Int) * w + j := by
    rw [Int.natCast_add, Int.natCast_mul, Int.toNat_of_nonneg (by omega)]
  have hk : i * w.toNat + j < (w * h).toNat := by omega
  rw [List.take_add_one]
  congr 1
  unfold cells
  rw [List.getElem?_map, List.getElem?_range hk]
  show [g (((i * w.toNat + j : Nat) : Int) % w) (((i * w.toNat + j : Nat) : Int) / w)] = _
  rw [hw, Int.add_comm, Int.add_mul_emod_self_right, Int.emod_eq_of_lt (by omega) hj, Int.add_mul_ediv_right _ _ (by omega), Int.ediv_eq_zero_of_lt (by omega) hj, Int.zero_add]
theorem cells_len {w h : Int} {g : Int → Int → Pt} : (cells w h g).length = (w * h).toNat := by
  unfold cells
  rw [List.length_map, List.length_range]
theorem pc_lay (p : Pc) : (pcD p).canLay0 = true := by
  simp only [pcD, PyData.canLay0, PyData.canLayAll0, canLay_ints, Bool.and_self]
theorem shaped_of {d : PyData} (h : d.canLay0 = true) (hd : d.depth ≤ 64) : SeqAt.shaped d = true := by
  unfold SeqAt.shaped
  rw [h, decide_eq_true hd]
  rfl
theorem pc_shaped (p : Pc) : SeqAt.shaped (pcD p) = true := shaped_of (pc_lay p) (by have := depth_pic p; omega)
theorem pt_shaped (q : Pt) : SeqAt.shaped (ptD q) = true := eqs_pt.shaped (by decide) q
theorem pt_self (q : Pt) : PyData.eqv (ptD q) (ptD q) = true := by rw [eqs_pt.1, decide_eq_true rfl]
theorem pc_self (p : Pc) : PyData.eqv (pcD p) (pcD p) = true := eqv_self (pc_lay p)
theorem mkP_congr {w h : Int} {g k : Int → Int → Pt} (hw : 0 < w) (hh : 0 < h) (e : ∀ x y, 0 ≤ x → x < w → 0 ≤ y → y < h → g x y = k x y) : mkP w h g = mkP w h k := by
  unfold mkP
  have e2 : cells w h g = cells w h k := by
    unfold cells
    refine List.map_congr_left fun i hi => ?_
    have hi := List.mem_range.mp hi
    have a : (0 : Int) ≤ w * h := Int.mul_nonneg (by omega) (by omega)
    refine e _ _ (Int.emod_nonneg _ (by omega)) (Int.emod_lt_of_pos _ hw) (Int.ediv_nonneg (by omega) (by omega)) ?_
    refine Int.ediv_lt_of_lt_mul hw ?_
    rw [Int.mul_comm]
    omega
  rw [e2]
theorem mkP_self {p : Pc} {m : Int} (k : p.Ok m) {g : Int → Int → Pt} (e : ∀ x y, p.In x y → g x y = p.at x y) (hg : ∀ x y, 0 ≤ (g x y).1 ∧ (g x y).1 ≤ 255 ∧ 0 ≤ (g x y).2 ∧ (g x y).2 ≤ 256) : mkP p.w p.h g = p := by
  refine pc_ext (mkP_ok k.w1 k.w2 k.h1 k.h2 hg) k rfl rfl fun x y hi => ?_
  obtain ⟨a, b, c, d⟩ := hi
  have z := mkP_at (w := p.w) (h := p.h) (g := g) a b c d
  rw [z]
  exact e x y ⟨a, b, c, d⟩
end Od

namespace Od
open PySem L2 Evl
/-- what a layer's value becomes: a mode as a value of its own -/
inductive Md where
  | over | add | times | invert | shift (n : Int)
deriving DecidableEq
def Md.word : Md → Str
  | .over => "over" | .add => "add" | .times => "times" | .invert => "invert" | .shift _ => "shift"
def Md.rest : Md → List V
  | .shift n => [.int n]
  | _ => []
def Md.items (m : Md) : List V := .str m.word :: m.rest
theorem Md.at0 (m : Md) : atI m.items 0 = some (.str m.word) := by cases m <;> rfl
theorem Md.ne_invert {m : Md} (h : m ≠ .invert) : m.word ≠ "invert" := by
  cases m with
  | invert => exact absurd rfl h
  | shift _ => show Str.ofString "shift" ≠ _; decide +kernel
  | _ => decide +kernel
theorem Md.ne_over {m : Md} (h : m ≠ .over) : m.word ≠ "over" := by
  cases m with
  | over => exact absurd rfl h
  | shift _ => show Str.ofString "shift" ≠ _; decide +kernel
  | _ => decide +kernel
def Md.Ok : Md → Prop
  | .shift n => -255 ≤ n ∧ n ≤ 255
  | _ => True
def MdV (H : Hp) (v : V) (m : Md) : Prop := ∃ a, v = .ref a ∧ H a = some (.tup m.items)
theorem MdV.ex {H H' : Hp} {v : V} {m : Md} (e : Ex H H') (h : MdV H v m) : MdV H' v m := by
  obtain ⟨a, rfl, ha⟩ := h
  exact ⟨a, rfl, e _ _ ha⟩
theorem MdV.tk {H H' : Hp} {v : V} {m : Md} (e : TK H H') (h : MdV H v m) : MdV H' v m := by
  obtain ⟨a, rfl, ha⟩ := h
  exact ⟨a, rfl, e _ _ ha⟩
/-- the lesser one of 255 and a value, the greater one of 0 and a value -/
def lo255 (x : Int) : Int := if x < 255 then x else 255
def hi0 (x : Int) : Int := if x > 0 then x else 0
def Md.to : Md → Int → Int → Int
  | .over, _, p => p
  | .add, v, p => lo255 (v + p)
  | .times, v, p => v * p / 255
  | .invert, v, _ => 255 - v
  | .shift n, v, _ => hi0 (lo255 (v + n))
def Md.mix (m : Md) (v p c : Int) : Int := v + (m.to v p - v) * c / 256
theorem times_le {v p : Int} (v0 : 0 ≤ v) (v1 : v ≤ 255) (p0 : 0 ≤ p) (p1 : p ≤ 255) : 0 ≤ v * p / 255 ∧ v * p / 255 ≤ 255 := by
  have h0 : 0 ≤ v * p := Int.mul_nonneg v0 p0
  have h1 : v * p ≤ 255 * 255 := Int.le_trans (Int.mul_le_mul_of_nonneg_right v1 p0) (Int.mul_le_mul_of_nonneg_left p1 (by decide))
  omega
theorem Md.to_in (m : Md) {v p : Int} (v0 : 0 ≤ v) (v1 : v ≤ 255) (p0 : 0 ≤ p) (p1 : p ≤ 255) : 0 ≤ m.to v p ∧ m.to v p ≤ 255 := by
  cases m with
  | over => exact ⟨p0, p1⟩
  | add => show 0 ≤ lo255 _ ∧ lo255 _ ≤ 255; unfold lo255; split <;> omega
  | times => exact times_le v0 v1 p0 p1
  | invert => show 0 ≤ 255 - v ∧ 255 - v ≤ 255; omega
  | shift n => show 0 ≤ hi0 _ ∧ hi0 _ ≤ 255; unfold hi0 lo255; split <;> split <;> omega
/-- between a value and a goal -/
theorem mix_between {v g c : Int} (c0 : 0 ≤ c) (c1 : c ≤ 256) : (v ≤ g → v ≤ v + (g - v) * c / 256 ∧ v + (g - v) * c / 256 ≤ g) ∧ (g ≤ v → g ≤ v + (g - v) * c / 256 ∧ v + (g - v) * c / 256 ≤ v) := by
  refine ⟨fun h => ?_, fun h => ?_⟩
  · have a0 : 0 ≤ (g - v) * c := Int.mul_nonneg (by omega) c0
    have a1 : (g - v) * c ≤ (g - v) * 256 := Int.mul_le_mul_of_nonneg_left c1 (by omega)
    omega
  · have a0 : 0 ≤ (v - g) * c := Int.mul_nonneg (by omega) c0
    have a1 : (v - g) * c ≤ (v - g) * 256 := Int.mul_le_mul_of_nonneg_left c1 (by omega)
    have e : (g - v) * c = -((v - g) * c) := by rw [← Int.neg_mul]; congr 1; omega
    rw [e]
    omega
theorem Md.mix_in (m : Md) {v p c : Int} (v0 : 0 ≤ v) (v1 : v ≤ 255) (p0 : 0 ≤ p) (p1 : p ≤ 255) (c0 : 0 ≤ c) (c1 : c ≤ 256) : 0 ≤ m.mix v p c ∧ m.mix v p c ≤ 255 := by
  obtain ⟨t0, t1⟩ := m.to_in v0 v1 p0 p1
  obtain ⟨h1, h2⟩ := mix_between (v := v) (g := m.to v p) c0 c1
  unfold Md.mix
  by_cases h : v ≤ m.to v p
  · have := h1 h; omega
  · have := h2 (by omega); omega
theorem Md.mix_zero (m : Md) (v p : Int) : m.mix v p 0 = v := by
  unfold Md.mix
  rw [Int.mul_zero]
  omega
theorem Md.mix_full (m : Md) (v p : Int) : m.mix v p 256 = m.to v p := by
  unfold Md.mix
  omega
theorem mix_eq (v g c : Int) : v + (g - v) * c / 256 = (256 * v + (g - v) * c) / 256 := by omega
theorem mix_mono {v w g h c : Int} (hv : v ≤ w) (hg : g ≤ h) (c0 : 0 ≤ c) (c1 : c ≤ 256) : v + (g - v) * c / 256 ≤ w + (h - w) * c / 256 := by
  rw [mix_eq, mix_eq]
  have a : v * (256 - c) ≤ w * (256 - c) := Int.mul_le_mul_of_nonneg_right hv (by omega)
  have b : g * c ≤ h * c := Int.mul_le_mul_of_nonneg_right hg c0
  have e1 : 256 * v + (g - v) * c = v * (256 - c) + g * c := by rw [Int.sub_mul, Int.mul_sub]; omega
  have e2 : 256 * w + (h - w) * c = w * (256 - c) + h * c := by rw [Int.sub_mul, Int.mul_sub]; omega
  rw [e1, e2]
  omega
theorem Md.to_mono (m : Md) {v w p : Int} (hm : m ≠ .invert) (hv : v ≤ w) (p0 : 0 ≤ p) : m.to v p ≤ m.to w p := by
  cases m with
  | over => exact Int.le_refl _
  | add => show lo255 _ ≤ lo255 _; unfold lo255; split <;> split <;> omega
  | times =>
    show v * p / 255 ≤ w * p / 255
    have := Int.mul_le_mul_of_nonneg_right hv p0
    omega
  | invert => exact absurd rfl hm
  | shift n =>
    have e : lo255 (v + n) ≤ lo255 (w + n) := by unfold lo255; split <;> split <;> omega
    show hi0 _ ≤ hi0 _
    unfold hi0
    split <;> split <;> omega
theorem Md.mix_mono (m : Md) {v w p c : Int} (hm : m ≠ .invert) (hv : v ≤ w) (p0 : 0 ≤ p) (c0 : 0 ≤ c) (c1 : c ≤ 256) : m.mix v p c ≤ m.mix w p c :=
  Od.mix_mono hv (m.to_mono hm hv p0) c0 c1
theorem iteW {a b : Str} {A B : Prop} (h : a ≠ b) (q : B) : if decide (V.str a = V.str b) = true then A else B := by
  rw [decide_eq_false fun e => h (V.str.inj e)]
  exact q
theorem iteE {a b : Str} {A B : Prop} (h : a = b) (q : A) : if decide (V.str a = V.str b) = true then A else B := by
  rw [decide_eq_true (congrArg V.str h)]
  exact q
theorem iteWn {a b : Str} {A B : Prop} (h : a ≠ b) (q : A) : if (!decide (V.str a = V.str b)) = true then A else B := by
  rw [decide_eq_false fun e => h (V.str.inj e)]
  exact q
theorem iteEn {a b : Str} {A B : Prop} (h : a = b) (q : B) : if (!decide (V.str a = V.str b)) = true then A else B := by
  rw [decide_eq_true (congrArg V.str h)]
  exact q
theorem iteD {p : Prop} [Decidable p] {A B : Prop} (h : p) (q : A) : if decide p = true then A else B := by
  rw [decide_eq_true h]
  exact q
theorem iteN {p : Prop} [Decidable p] {A B : Prop} (h : ¬ p) (q : B) : if decide p = true then A else B := by
  rw [decide_eq_false h]
  exact q
theorem iteDn {p : Prop} [Decidable p] {A B : Prop} (h : p) (q : B) : if (!decide p) = true then A else B := by
  rw [decide_eq_true h]
  exact q
theorem iteNn {p : Prop} [Decidable p] {A B : Prop} (h : ¬ p) (q : A) : if (!decide p) = true then A else B := by
  rw [decide_eq_false h]
  exact q
def spBlend (K : PySem.W.Frag) (g : Md → Int → Int → Int → Int) : Sp := fun vs H Q _ => ∃ mv m v p c, vs = [mv, .int v, .int p, .int c] ∧ MdV H mv m ∧ m.Ok ∧ 0 ≤ v ∧ v ≤ 255 ∧ 0 ≤ p ∧ p ≤ 255 ∧ 0 ≤ c ∧ c ≤ 256 ∧ Q (.int (g m v p c)) H
end Od

namespace Od
open PySem L2 Evl
/-- a paint as a value of its own -/
inductive Pa where
  | solid (v : Int) | steps (f s z : Int) | pic (p : Pc)
def Pa.word : Pa → Str
  | .solid _ => "solid" | .steps _ _ _ => "steps" | .pic _ => "picture"
def PaV (H : Hp) (v : V) : Pa → Prop
  | .solid x => ∃ a, v = .ref a ∧ H a = some (.tup [.str "solid", .int x])
  | .steps f s z => ∃ a, v = .ref a ∧ H a = some (.tup [.str "steps", .int f, .int s, .int z])
  | .pic p => ∃ a u, v = .ref a ∧ H a = some (.tup [.str "picture", u]) ∧ PcV H u p
theorem PaV.tk {H H' : Hp} {v : V} {p : Pa} (e : TK H H') (h : PaV H v p) : PaV H' v p := by
  cases p with
  | solid x => obtain ⟨a, rfl, ha⟩ := h; exact ⟨a, rfl, e _ _ ha⟩
  | steps f s z => obtain ⟨a, rfl, ha⟩ := h; exact ⟨a, rfl, e _ _ ha⟩
  | pic p => obtain ⟨a, u, rfl, ha, hu⟩ := h; exact ⟨a, u, rfl, e _ _ ha, hu.tk e⟩
def Pa.Ok (m : Int) : Pa → Prop
  | .solid x => 0 ≤ x ∧ x ≤ 255
  | .steps f s z => 0 ≤ f ∧ f ≤ 255 ∧ 0 ≤ s ∧ s ≤ 255 ∧ 1 ≤ z ∧ z ≤ 12
  | .pic p => p.Ok m
def Pa.D : Pa → PyData
  | .solid x => .tuple [.str "solid", .int x]
  | .steps f s z => .tuple [.str "steps", .int f, .int s, .int z]
  | .pic p => .tuple [.str "picture", pcD p]
theorem PaV.dp {K : PySem.W.Frag} {H : Hp} {v : V} {p : Pa} (h : PaV H v p) : Dp K H v p.D := by
  cases p with
  | solid x => obtain ⟨a, rfl, ha⟩ := h; exact .tup (SqT.of ha) (.cons (.str _) (.cons (.int _) .nil))
  | steps f s z => obtain ⟨a, rfl, ha⟩ := h; exact .tup (SqT.of ha) (.cons (.str _) (.cons (.int _) (.cons (.int _) (.cons (.int _) .nil))))
  | pic p => obtain ⟨a, u, rfl, ha, hu⟩ := h; exact .tup (SqT.of ha) (.cons (.str _) (.cons hu.dp .nil))
/-- a paint, or None -/
def OpV (H : Hp) (v : V) : Option Pa → Prop
  | none => v = .non
  | some p => PaV H v p
theorem OpV.tk {H H' : Hp} {v : V} {o : Option Pa} (e : TK H H') (h : OpV H v o) : OpV H' v o := by
  cases o with
  | none => exact h
  | some p => exact PaV.tk e h
def opD : Option Pa → PyData
  | none => .none
  | some p => p.D
theorem OpV.dp {K : PySem.W.Frag} {H : Hp} {v : V} {o : Option Pa} (h : OpV H v o) : Dp K H v (opD o) := by
  cases o with
  | none => cases h; exact .non
  | some p => exact PaV.dp h
def opOk (m : Int) : Option Pa → Prop
  | none => True
  | some p => p.Ok m
/-- a clip -/
structure Cl where
  s : Int
  n : Int
  pa : Option Pa
  fi : Int
  fo : Int
structure Cl.Ok (m : Int) (c : Cl) : Prop where
  s0 : 0 ≤ c.s
  s1 : c.s ≤ m
  n1 : 1 ≤ c.n
  n2 : c.n ≤ 400
  fi0 : 0 ≤ c.fi
  fo0 : 0 ≤ c.fo
  fs : c.fi + c.fo ≤ c.n
  pa : opOk 3 c.pa
def Cl.items (c : Cl) (u : V) : List V := [.int c.s, .int c.n, u, .int c.fi, .int c.fo]
def ClV (H : Hp) (v : V) (c : Cl) : Prop := ∃ a u, v = .ref a ∧ H a = some (.tup (c.items u)) ∧ OpV H u c.pa
theorem ClV.tk {H H' : Hp} {v : V} {c : Cl} (e : TK H H') (h : ClV H v c) : ClV H' v c := by
  obtain ⟨a, u, rfl, ha, hu⟩ := h
  exact ⟨a, u, rfl, e _ _ ha, hu.tk e⟩
def Cl.fin (c : Cl) : Int := c.s + c.n
def Cl.lev (c : Cl) (f : Int) : Int := if f - c.s < c.fi then 256 * (f - c.s + 1) / (c.fi + 1) else if c.n - (f - c.s) - 1 < c.fo then 256 * (c.n - (f - c.s) - 1 + 1) / (c.fo + 1) else 256
def spLevel (K : PySem.W.Frag) : Sp := fun vs H Q _ => ∃ cv c m f, vs = [cv, .int f] ∧ ClV H cv c ∧ c.Ok m ∧ m ≤ 100000 ∧ c.s ≤ f ∧ f < c.fin ∧ Q (.int (c.lev f)) H
def spEnd (K : PySem.W.Frag) : Sp := fun vs H Q _ => ∃ cv c, vs = [cv] ∧ ClV H cv c ∧ Q (.int c.fin) H
theorem Cl.lev_in {m : Int} {c : Cl} (k : c.Ok m) {f : Int} (h0 : c.s ≤ f) (h1 : f < c.fin) : 0 ≤ c.lev f ∧ c.lev f ≤ 256 := by
  have := k.fi0
  have := k.fo0
  unfold Cl.lev
  unfold Cl.fin at h1
  have aux : ∀ x y : Int, 0 ≤ x → x < y → 0 ≤ 256 * (x + 1) / (y + 1) ∧ 256 * (x + 1) / (y + 1) ≤ 256 := fun x y x0 xy => by
    refine ⟨Int.ediv_nonneg (by omega) (by omega), ?_⟩
    have : 256 * (x + 1) / (y + 1) < 257 := Int.ediv_lt_of_lt_mul (by omega) (by omega)
    omega
  split
  · exact aux _ _ (by omega) (by omega)
  · split
    · exact aux _ _ (by omega) (by omega)
    · omega
/-- a list of so many ints of this kind stands at D -/
def IntsIn (H : Hp) (D : Addr) (n : Nat) (P : Int → Prop) : Prop := ∃ ns : List Int, H D = some (.lst (ns.map V.int)) ∧ ns.length = n ∧ ∀ x ∈ ns, P x
theorem IntsIn.snoc {H0 H H2 : Hp} {D : Addr} {n : Nat} {P : Int → Prop} {x : Int} (hD : H0 D = none) (e : Ex H0 H) (h : IntsIn H D n P) (e2 : Ex H H2) (hn : n ≤ 1000) (hx : P x) : ∃ acc, H2 D = some (.lst acc) ∧ acc.length < sizeLine ∧ Ex H0 (upd H2 D (.lst (acc ++ [.int x]))) ∧ IntsIn (upd H2 D (.lst (acc ++ [.int x]))) D (n + 1) P := by
  obtain ⟨ns, h1, h2, h3⟩ := h
  refine ⟨_, e2 _ _ h1, slineL (by rw [List.length_map]; omega), (e.trans e2).mut hD, ns ++ [x], by rw [upd_same, List.map_append]; rfl, by simp [h2], fun y hy => ?_⟩
  rcases List.mem_append.mp hy with z | z
  · exact h3 y z
  · rw [List.mem_singleton.mp z]
    exact hx
end Od

namespace Od
open PySem L2 Evl
def Pa.at : Pa → Int → Int → Pt
  | .solid v, _, _ => (v, 256)
  | .steps f s z, x, y => (if (x / z + y / z) % 2 = 0 then f else s, 256)
  | .pic p, x, y => p.at x y
def opAt : Option Pa → Int → Int → Pt
  | none, _, _ => (0, 256)
  | some p, x, y => p.at x y
theorem opAt_in {m : Int} {o : Option Pa} (k : opOk m o) (x y : Int) : 0 ≤ (opAt o x y).1 ∧ (opAt o x y).1 ≤ 255 ∧ 0 ≤ (opAt o x y).2 ∧ (opAt o x y).2 ≤ 256 := by
  cases o with
  | none => show (0 : Int) ≤ 0 ∧ (0 : Int) ≤ 255 ∧ (0 : Int) ≤ 256 ∧ (256 : Int) ≤ 256; decide
  | some p =>
    cases p with
    | solid v => exact ⟨k.1, k.2, by show (0 : Int) ≤ 256; decide, by show (256 : Int) ≤ 256; decide⟩
    | steps f s z =>
      obtain ⟨a, b, c, d, _, _⟩ := k
      refine ⟨?_, ?_, by show (0 : Int) ≤ 256; decide, by show (256 : Int) ≤ 256; decide⟩
      · show 0 ≤ if (x / z + y / z) % 2 = 0 then f else s
        split <;> omega
      · show (if (x / z + y / z) % 2 = 0 then f else s) ≤ 255
        split <;> omega
    | pic p => exact at_bound k x y
/-- a paint's value and cover at a point -/
def spAt (K : PySem.W.Frag) : Sp := fun vs H Q _ => ∃ v o m x y, vs = [v, .int x, .int y] ∧ OpV H v o ∧ opOk m o ∧ m ≤ 60 ∧ 0 ≤ x ∧ x ≤ 1000 ∧ 0 ≤ y ∧ y ≤ 1000 ∧ ∀ u H', Ex H H' → PtV H' u (opAt o x y) → Q u H'
theorem PaV.mk {H : Hp} {v : V} {p : Pa} (h : PaV H v p) : ∃ a xs, v = .ref a ∧ H a = some (.tup (.str p.word :: xs)) := by
  cases p with
  | solid x => obtain ⟨a, rfl, ha⟩ := h; exact ⟨a, _, rfl, ha⟩
  | steps f s z => obtain ⟨a, rfl, ha⟩ := h; exact ⟨a, _, rfl, ha⟩
  | pic p => obtain ⟨a, u, rfl, ha, _⟩ := h; exact ⟨a, _, rfl, ha⟩
theorem steps_two {f s z x y : Int} (hz : 1 ≤ z) : Pa.at (.steps f s z) (x + 2 * z) y = Pa.at (.steps f s z) x y ∧ Pa.at (.steps f s z) x (y + 2 * z) = Pa.at (.steps f s z) x y := by
  have e : ∀ t : Int, (t + 2 * z) / z = t / z + 2 := fun t => Int.add_mul_ediv_right t 2 (by omega)
  unfold Pa.at
  dsimp only
  rw [e, e]
  constructor
  · congr 1
    have : (x / z + 2 + y / z) % 2 = (x / z + y / z) % 2 := by omega
    rw [this]
  · congr 1
    have : (x / z + (y / z + 2)) % 2 = (x / z + y / z) % 2 := by omega
    rw [this]
theorem steps_one {f s z x y : Int} (hz : 1 ≤ z) : Pa.at (.steps f s z) (x + z) y = (f + s - (Pa.at (.steps f s z) x y).1, 256) ∧ Pa.at (.steps f s z) x (y + z) = (f + s - (Pa.at (.steps f s z) x y).1, 256) := by
  have e : ∀ t : Int, (t + z) / z = t / z + 1 := fun t => by
    have := Int.add_mul_ediv_right t 1 (show z ≠ 0 by omega)
    rwa [Int.one_mul] at this
  unfold Pa.at
  dsimp only
  rw [e, e]
  constructor
  · congr 1
    split <;> split <;> omega
  · congr 1
    split <;> split <;> omega
end Od

namespace Od
open PySem L2 Evl
theorem at_head {x : V} {xs : List V} : atI (x :: xs) 0 = some x := by
  have e := atI_nat (xs := x :: xs) (j := 0) (v := x) rfl
  exact e
theorem cutV_mid {xs : List V} {lo hi : Int} (l0 : 0 ≤ lo) (lh : lo ≤ hi) (hh : hi ≤ xs.length) : cutV xs (some lo) (some hi) = (xs.drop lo.toNat).take (hi - lo).toNat := by
  unfold cutV
  obtain ⟨l, rfl⟩ := Int.eq_ofNat_of_zero_le l0
  obtain ⟨h, rfl⟩ := Int.eq_ofNat_of_zero_le (Int.le_trans l0 lh)
  rw [HT.sIx_nat, HT.sIx_nat, Nat.min_eq_left (by omega), Nat.min_eq_left (by omega)]
  congr 1
  omega
/-- its cover is 256 at each point of this size -/
def Full (o : Option Pa) (w h : Int) : Prop := o.isSome = true ∧ ∀ x y, 0 ≤ x → x < w → 0 ≤ y → y < h → (opAt o x y).2 = 256
theorem Full.less {o : Option Pa} {w h w' h' : Int} (f : Full o w h) (hw : w' ≤ w) (hh : h' ≤ h) : Full o w' h' := ⟨f.1, fun x y x0 x1 y0 y1 => f.2 x y x0 (by omega) y0 (by omega)⟩
def spFull (K : PySem.W.Frag) : Sp := fun vs H Q _ => ∃ v o m wd hg, vs = [v, .int wd, .int hg] ∧ OpV H v o ∧ opOk m o ∧ m ≤ 12 ∧ 1 ≤ wd ∧ wd ≤ 100 ∧ 1 ≤ hg ∧ hg ≤ 100 ∧ ∀ b H', Ex H H' → (b = true ↔ Full o wd hg) → Q (.bl b) H'
end Od

namespace Od
open PySem L2 Evl
structure Ly where
  m : Md
  lv : Int
  pa : Option Pa
structure Ly.Ok (l : Ly) : Prop where
  m : l.m.Ok
  l0 : 0 ≤ l.lv
  l1 : l.lv ≤ 256
  pa : opOk 8 l.pa
def LyV (H : Hp) (v : V) (l : Ly) : Prop := ∃ a mv pv, v = .ref a ∧ H a = some (.tup [mv, .int l.lv, pv]) ∧ MdV H mv l.m ∧ OpV H pv l.pa
theorem LyV.tk {H H' : Hp} {v : V} {l : Ly} (e : TK H H') (h : LyV H v l) : LyV H' v l := by
  obtain ⟨a, mv, pv, rfl, ha, hm, hp⟩ := h
  exact ⟨a, mv, pv, rfl, e _ _ ha, hm.tk e, hp.tk e⟩
abbrev LysV (H : Hp) : List V → List Ly → Prop := Paired (LyV H)
theorem LysV.tk {H H' : Hp} {vs : List V} {ls : List Ly} (e : TK H H') (h : LysV H vs ls) : LysV H' vs ls := Paired.mapP h fun _ _ => LyV.tk e
theorem pr_take {α β : Type} {G : α → β → Prop} : ∀ {l₁ : List α} {l₂ : List β} (n : Nat), Paired G l₁ l₂ → Paired G (l₁.take n) (l₂.take n)
  | _, _, 0, _ => by simp only [List.take_zero]; exact .nil
  | _, _, _ + 1, .nil => by simp only [List.take_nil]; exact .nil
  | _, _, n + 1, .cons h t => by simp only [List.take_succ_cons]; exact .cons h (pr_take n t)
theorem pr_drop {α β : Type} {G : α → β → Prop} : ∀ {l₁ : List α} {l₂ : List β} (n : Nat), Paired G l₁ l₂ → Paired G (l₁.drop n) (l₂.drop n)
  | _, _, 0, h => h
  | _, _, _ + 1, .nil => by simp only [List.drop_nil]; exact .nil
  | _, _, n + 1, .cons h t => by simp only [List.drop_succ_cons]; exact pr_drop n t
theorem cutV_take {xs : List V} {k : Nat} (h : k ≤ xs.length) : cutV xs none (some (k : Int)) = xs.take k := by
  unfold cutV
  rw [HT.sIx_nat, HT.sIx_none, Nat.min_eq_left h, List.drop_zero, Nat.sub_zero]
theorem cutV_drop {xs : List V} {k : Nat} (h : k ≤ xs.length) : cutV xs (some (k : Int)) none = xs.drop k := by
  unfold cutV
  rw [HT.sIx_nat, HT.sIx_none, Nat.min_eq_left h]
  exact List.take_of_length_le (by rw [List.length_drop]; omega)
/-- the value behind a layer -/
def Ly.step (x y : Int) (v : Int) (l : Ly) : Int := l.m.mix v (opAt l.pa x y).1 ((opAt l.pa x y).2 * l.lv / 256)
def put (ls : List Ly) (b x y : Int) : Int := ls.foldl (Ly.step x y) b
theorem cov_in {c l : Int} (c0 : 0 ≤ c) (c1 : c ≤ 256) (l0 : 0 ≤ l) (l1 : l ≤ 256) : 0 ≤ c * l / 256 ∧ c * l / 256 ≤ 256 := by
  have h0 : 0 ≤ c * l := Int.mul_nonneg c0 l0
  have h1 : c * l ≤ 256 * 256 := Int.le_trans (Int.mul_le_mul_of_nonneg_right c1 l0) (Int.mul_le_mul_of_nonneg_left l1 (by decide))
  omega
theorem Ly.step_in {l : Ly} (k : l.Ok) (x y : Int) {v : Int} (v0 : 0 ≤ v) (v1 : v ≤ 255) : 0 ≤ l.step x y v ∧ l.step x y v ≤ 255 := by
  obtain ⟨a, b, c, d⟩ := opAt_in k.pa x y
  obtain ⟨e, f⟩ := cov_in c d k.l0 k.l1
  exact l.m.mix_in v0 v1 a b e f
theorem put_in : ∀ {ls : List Ly} {x y b : Int}, (∀ l ∈ ls, l.Ok) → 0 ≤ b → b ≤ 255 → 0 ≤ put ls b x y ∧ put ls b x y ≤ 255
  | [], _, _, _, _, b0, b1 => ⟨b0, b1⟩
  | l :: ls, x, y, b, k, b0, b1 => by
    obtain ⟨s0, s1⟩ := Ly.step_in (k l (List.mem_cons_self ..)) x y b0 b1
    exact put_in (ls := ls) (fun m hm => k m (List.mem_cons_of_mem _ hm)) s0 s1
theorem put_app {ls ms : List Ly} {b x y : Int} : put (ls ++ ms) b x y = put ms (put ls b x y) x y := List.foldl_append ..
theorem put_snoc {ls : List Ly} {l : Ly} {i : Nat} {b x y : Int} (h : ls[i]? = some l) : put (ls.take (i + 1)) b x y = l.step x y (put (ls.take i) b x y) := by
  rw [List.take_add_one, h, put_app]
  rfl
theorem split_at {ls : List Ly} {l : Ly} {i : Nat} (h : ls[i]? = some l) : ls.drop i = l :: ls.drop (i + 1) := by
  obtain ⟨hi, e⟩ := List.getElem?_eq_some_iff.mp h
  rw [List.drop_eq_getElem_cons hi, e]
/-- a layer that hides what is below it -/
theorem put_hides {ls ms : List Ly} {l : Ly} {i : Nat} {b c x y : Int} (h : ls[i]? = some l) (hm : l.m = .over) (hl : l.lv = 256) (hc : (opAt l.pa x y).2 = 256) : put (ms ++ ls.drop i) c x y = put ls b x y := by
  have e : ∀ v w : Int, l.step x y v = l.step x y w := fun v w => by
    unfold Ly.step
    rw [hm, hl, hc]
    show Md.mix .over v _ 256 = Md.mix .over w _ 256
    rw [Md.mix_full, Md.mix_full]
    rfl
  have e2 : put ls b x y = put (ls.take i ++ ls.drop i) b x y := by rw [List.take_append_drop]
  rw [e2, put_app, put_app, split_at h]
  show put (ls.drop (i + 1)) (l.step x y _) x y = put (ls.drop (i + 1)) (l.step x y _) x y
  rw [e _ (put (ls.take i) b x y)]
/-- a layer that does nothing at the point -/
theorem put_left {ls : List Ly} {l : Ly} {i : Nat} {b x y : Int} (h : ls[i]? = some l) (hc : (opAt l.pa x y).2 * l.lv = 0) : put (ls.take i ++ ls.drop (i + 1)) b x y = put ls b x y := by
  have e2 : put ls b x y = put (ls.take i ++ ls.drop i) b x y := by rw [List.take_append_drop]
  rw [e2, put_app, put_app, split_at h]
  show _ = put (ls.drop (i + 1)) (l.step x y _) x y
  have e : ∀ v : Int, l.step x y v = v := fun v => by
    unfold Ly.step
    rw [hc]
    exact Md.mix_zero _ _ _
  rw [e]
def spPut (K : PySem.W.Frag) : Sp := fun vs H Q _ => ∃ a us ls b x y, vs = [.ref a, .int b, .int x, .int y] ∧ H a = some (.lst us) ∧ LysV H us ls ∧ (∀ l ∈ ls, l.Ok) ∧ 0 ≤ b ∧ b ≤ 255 ∧ 0 ≤ x ∧ x ≤ 1000 ∧ 0 ≤ y ∧ y ≤ 1000 ∧ ∀ H', Ex H H' → Q (.int (put ls b x y)) H'
def Md.D : Md → PyData
  | .over => .tuple [.str "over"] | .add => .tuple [.str "add"] | .times => .tuple [.str "times"] | .invert => .tuple [.str "invert"] | .shift n => .tuple [.str "shift", .int n]
theorem MdV.dp {K : PySem.W.Frag} {H : Hp} {v : V} {m : Md} (h : MdV H v m) : Dp K H v m.D := by
  obtain ⟨a, rfl, ha⟩ := h
  cases m with
  | shift n => exact .tup (SqT.of ha) (.cons (.str _) (.cons (.int _) .nil))
  | _ => exact .tup (SqT.of ha) (.cons (.str _) .nil)
theorem Md.shaped (m : Md) : SeqAt.shaped m.D = true := by
  cases m with
  | shift n => exact shaped_of (by simp only [Md.D, PyData.canLay0, PyData.canLayAll0, Bool.and_self]; decide +kernel) (by simp only [Md.D, PyData.depth, PyData.depthAll]; decide)
  | _ => decide +kernel
theorem Md.eqv_over (m : Md) : PyData.eqv m.D (Md.D .over) = decide (m = .over) := by
  cases m with
  | shift n => simp [Md.D, PyData.eqv, PyData.eqvAll]
  | over => decide +kernel
  | add => decide +kernel
  | times => decide +kernel
  | invert => decide +kernel
end Od

namespace Od
open PySem L2 Evl
def top (i : Nat) : Stmt := PySem.Challenge.pw_onlythedirt_k26_whole_what_hides.main.body.getD i (.Pass ⟨0, 0, 0, 0⟩)
structure Txt (K : PySem.W.Frag) (mg : Str → Option Value) : Prop where
  abs_ : mg "abs" = none
  all_ : mg "all" = none
  bool_ : mg "bool" = none
  int_ : mg "int" = none
  isinstance_ : mg "isinstance" = none
  len_ : mg "len" = none
  list_ : mg "list" = none
  max_ : mg "max" = none
  min_ : mg "min" = none
  range_ : mg "range" = none
  tuple_ : mg "tuple" = none
  COVER_MOST_ : ∃ t, mg "COVER_MOST" = some (.int 256 t)
  VALUE_MOST_ : ∃ t, mg "VALUE_MOST" = some (.int 255 t)
section
variable {P : Program} {w : World} {K : PySem.W.Frag} {mg : Str → Option Value} {base : Heap}
abbrev s_l_deck : Stmt := top 12
theorem sc_l_deck : FnScope ["script", "seed", "cell"] ["script"] (defScope s_l_deck) := ⟨rfl, rfl, rfl, by decide +kernel, rfl, by decide +kernel, by decide +kernel⟩
theorem ok_l_deck {f : Addr} {fd : FuncData} (F : Fun K "_law_deck" "_law_deck" s_l_deck f fd) (T : Txt K mg) : FnOk P w K mg base CX0 1 f fd ["script"] (spDeck K) := by
  refine deck_closed ?_ rfl
  refine F.ok sc_l_deck (fun vs H Q E h => ?_) (fun cdv A outer s H vs Q E hr h => ?_)
  · obtain ⟨a, ns, rfl, _⟩ := h
    rfl
  · obtain ⟨a, ns, rfl, hS, hl, q⟩ := h
    refine ⟨_, (pss_cons (ps_set (i := 1) sc_l_deck.nd rfl (by first | exact Or.inl rfl | exact Or.inr rfl) pe_int)
      (pss_cons (ps_for PassesOwn.never rfl (kpiL K (pv 0)) (pg_name (i := 2) sc_l_deck.nd rfl (by first | exact Or.inl rfl | exact Or.inr rfl))
        (pss_one (ps_set (i := 1) sc_l_deck.nd rfl (by first | exact Or.inl rfl | exact Or.inr rfl) (pe_op op_mod (pe_callTy call_int1 (by rfl) T.int_ bt_int (pa_cons (pe_op op_add (pe_op op_mul (pv 1) pe_int) (pv 2)) pa_nil)) pe_int))))
      (pss_one (ps_ret (pe_lst (pa_cons pe_int (pa_cons pe_int (pa_cons (pv 1) (pa_cons (pe_callTy (klist K) (by rfl) T.list_ bt_list (pa_cons (pv 0) pa_nil)) (pa_cons pe_int pa_nil)))))))))), ?_⟩
    refine ⟨_, rfl, a, rfl, ⟨_, hS⟩, for_list (K := K) (a := a) (xs := ns.map V.int) (fun i σ H' => H' = H ∧ ∃ (z : Int) (c : Option V), σ = [some (.ref a), some (.int z), c] ∧ 0 ≤ z ∧ z < 2147483647)
      ⟨rfl, 7, none, rfl, by decide, by decide⟩ (fun i σ H' _ p => by rw [p.1]; exact hS) ?_ ?_⟩
    · rintro i x σ H' hx ⟨rfl, z, c, rfl, z0, z1⟩
      rw [List.getElem?_map] at hx
      cases e : ns[i]? with
      | none =>
        rw [e] at hx
        cases hx
      | some u =>
        rw [e] at hx
        cases hx
        refine ⟨_, rfl, _, _, rfl, rfl, .inl ⟨by omega, by omega⟩, _, rfl, _, _, rfl, rfl, .inl ⟨_, rfl, ?_⟩⟩
        refine ⟨_, _, rfl, rfl, (by show (0 : Int) < 2147483647; decide), ?_⟩
        refine ⟨rfl, _, _, rfl, ?_, ?_⟩
        · exact Int.emod_nonneg _ (by decide)
        · exact Int.emod_lt_of_pos _ (by decide)
    · rintro σ H' ⟨rfl, z, c, rfl, z0, z1⟩
      refine ⟨_, rfl, _, rfl, a, _, rfl, .inl hS, fun l hl' => ?_⟩
      refine ⟨(by show 5 ≤ sizeLine; decide), fun p hp => ?_⟩
      have hpl : l ≠ p := fun e => by
        rw [← e, upd_same] at hp
        cases hp
      have e1 : Ex H' (upd H' l (.lst (ns.map V.int))) := Ex.new hl'
      refine q p l _ _ (fresh_back e1 hp) (e1.trans (Ex.new hp)) upd_same ⟨0, 0, z, 0, rfl, by decide, by decide, z0, z1⟩ hpl ?_
      rw [upd_ne hpl, upd_same]

abbrev s_l_draw : Stmt := top 13
theorem sc_l_draw : FnScope ["deck", "bound", "number", "value"] ["deck", "bound"] (defScope s_l_draw) := ⟨rfl, rfl, rfl, by decide +kernel, rfl, by decide +kernel, by decide +kernel⟩
theorem ok_l_draw {f : Addr} {fd : FuncData} (F : Fun K "_law_draw" "_law_draw" s_l_draw f fd) (T : Txt K mg) : FnOk P w K mg base CX0 1 f fd ["deck", "bound"] (spDraw K) := by
  refine draw_closed ?_ rfl
  refine F.ok sc_l_draw (fun vs H Q E h => ?_) (fun cdv A outer s H vs Q E hr h => ?_)
  · obtain ⟨a, b, l, ns, xs, rfl, _⟩ := h
    rfl
  · obtain ⟨a, b, l, ns, xs, rfl, ha, ⟨n, k, z, c, rfl, n0, k0, z0, z1⟩, hL, hla, b0, b1, q⟩ := h
    have hH : upd H a (.lst (deckV n k z l c)) = H := by
      have e := upd_back (u := .lst (deckV n k z l c)) ha
      rw [upd_upd] at e
      exact e
    have hL2 : ∀ o, upd H a o l = some (.lst (ns.map V.int)) := fun o => by rw [upd_ne hla]; exact hL
    refine ⟨_, (pss_cut (ps_if (PW.pt (pw_and (pt_cmpR op_eq (pe_ix (kixL K) (pv 0) pe_int (fun _ _ => rfl)) pe_int (nomark _)) (pw_and1 (pt_cmpR op_lt (pe_ix (kixL K) (pv 0) pe_int (fun _ _ => rfl)) (pe_callB (klen K) (by rfl) T.len_ PySem.boot_len (pa_cons (pe_ix (kixL K) (pv 0) pe_int (fun _ _ => rfl)) pa_nil)) (nomark _)))))
        (pss_cons (ps_asg (pe_callB call_abs (by rfl) T.abs_ bt_abs (pa_cons (pe_ix (kixL K) (pe_ix (kixL K) (pv 0) pe_int (fun _ _ => rfl)) (pe_ix (kixL K) (pv 0) pe_int (fun _ _ => rfl)) (fun _ _ => rfl)) pa_nil)) (pg_sub (pv 0) pe_int set_list))
        (pss_one (ps_asg (pe_op op_add (pe_ix (kixL K) (pv 0) pe_int (fun _ _ => rfl)) pe_int) (pg_sub (pv 0) pe_int set_list))))
        (pss_one (ps_if (pt_cmpR op_eq (pe_ix (kixL K) (pv 0) pe_int (fun _ _ => rfl)) pe_int (nomark _))
          (pss_cons (ps_asg (pe_op op_add (pe_ix (kixL K) (pv 0) pe_int (fun _ _ => rfl)) pe_int) (pg_sub (pv 0) pe_int set_list))
          (pss_cons (ps_set (i := 2) sc_l_draw.nd rfl (by first | exact Or.inl rfl | exact Or.inr rfl) (pe_op op_mod (pe_callTy call_int1 (by rfl) T.int_ bt_int (pa_cons (pe_op op_add (pe_op op_add (pe_op op_mul (pe_ix (kixL K) (pv 0) pe_int (fun _ _ => rfl)) pe_int) (pe_op op_mul (pe_ix (kixL K) (pv 0) pe_int (fun _ _ => rfl)) pe_int)) pe_int) pa_nil)) pe_int))
          (pss_cons (ps_set (i := 2) sc_l_draw.nd rfl (by first | exact Or.inl rfl | exact Or.inr rfl) (pe_op op_mod (pe_callTy call_int1 (by rfl) T.int_ bt_int (pa_cons (pe_op op_add (pe_op op_add (pe_op op_mul (pv 2) (pv 2)) (pe_op op_mul pe_int (pe_ix (kixL K) (pv 0) pe_int (fun _ _ => rfl)))) pe_int) pa_nil)) pe_int))
          (pss_cons (ps_set (i := 2) sc_l_draw.nd rfl (by first | exact Or.inl rfl | exact Or.inr rfl) (pe_op op_mod (pe_callTy call_int1 (by rfl) T.int_ bt_int (pa_cons (pe_op op_add (pe_op op_add (pe_op op_mul (pv 2) (pv 2)) (pe_op op_mul pe_int (pe_ix (kixL K) (pv 0) pe_int (fun _ _ => rfl)))) (pe_ix (kixL K) (pv 0) pe_int (fun _ _ => rfl))) pa_nil)) pe_int))
          (pss_one (ps_asg (pe_op op_fdiv (pv 2) pe_int) (pg_sub (pv 0) pe_int set_list)))))))
          pss_nil)))
      (pss_cons (ps_set (i := 3) sc_l_draw.nd rfl (by first | exact Or.inl rfl | exact Or.inr rfl) (pe_op op_mod (pe_callTy call_int1 (by rfl) T.int_ bt_int (pa_cons (pe_ix (kixL K) (pv 0) pe_int (fun _ _ => rfl)) pa_nil)) (pv 1)))
      (pss_cons (ps_asg (pe_op op_fdiv (pe_ix (kixL K) (pv 0) pe_int (fun _ _ => rfl)) (pv 1)) (pg_sub (pv 0) pe_int set_list))
      (pss_one (ps_ret (pv 3)))))), ?_⟩
    refine ⟨fun σ H' => ∃ n k c u, σ = [some (.ref a), some (.int b), u, none] ∧ H' = upd H a (.lst (deckV n k z l c)) ∧ 0 ≤ n ∧ 0 ≤ k, ?_, ?_⟩
    · rw [← hH]
      -- if deck[0] == 0 and deck[1] < len(deck[3])
      refine ⟨_, rfl, a, _, _, _, rfl, rfl, SqL.of upd_same, rfl, rfl, _, rfl, ?_⟩
      refine ite2 (fun e0 => ?_) (fun e0 => ?_)
      · refine ⟨_, rfl, a, _, _, _, rfl, rfl, SqL.of upd_same, rfl, ?_⟩
        refine ⟨_, rfl, a, _, _, _, rfl, rfl, SqL.of upd_same, rfl, ?_⟩
        refine ⟨l, _, rfl, .inl (SqL.of (hL2 _)), _, _, rfl, rfl, _, rfl, ?_⟩
        refine ite2 (fun e1 => ?_) (fun e1 => ?_)
        · -- deck[0] = abs(deck[3][deck[1]]); deck[1] = deck[1] + 1
          have hk : k < (ns.length : Int) := by
            have e2 := of_decide_eq_true e1
            rw [List.length_map] at e2
            exact e2
          obtain ⟨m, rfl⟩ := Int.eq_ofNat_of_zero_le k0
          have hm : m < ns.length := by omega
          refine ⟨_, rfl, a, _, _, _, rfl, rfl, SqL.of upd_same, rfl, ?_⟩
          refine ⟨_, rfl, a, _, _, _, rfl, rfl, SqL.of upd_same, rfl, ?_⟩
          refine ⟨l, _, _, .int ns[m], rfl, rfl, SqL.of (hL2 _), atI_nat (by rw [List.getElem?_map, List.getElem?_eq_getElem hm]; rfl), ?_⟩
          refine ⟨_, rfl, ?_⟩
          refine ⟨_, rfl, a, _, 0, 0, rfl, rfl, upd_same, rfl, ?_⟩
          refine ⟨_, rfl, a, _, _, _, rfl, rfl, SqL.of upd_same, rfl, ?_⟩
          refine ⟨_, _, rfl, rfl, ?_⟩
          refine ⟨_, rfl, a, _, 1, 1, rfl, rfl, upd_same, rfl, ?_⟩
          refine ⟨(if ns[m] < 0 then -ns[m] else ns[m]), (m : Int) + 1, c, none, rfl, ?_, ?_, ?_⟩
          · simp only [upd_upd]
            rfl
          · split <;> omega
          · omega
        · -- elif deck[0] == 0
          refine ⟨_, rfl, a, _, _, _, rfl, rfl, SqL.of upd_same, rfl, rfl, _, rfl, ?_⟩
          refine ite2 (fun e2 => ?_) (fun e2 => ?_)
          · refine ⟨_, rfl, a, _, _, _, rfl, rfl, SqL.of upd_same, rfl, ?_⟩
            refine ⟨_, _, rfl, rfl, ?_⟩
            refine ⟨_, rfl, a, _, 4, 4, rfl, rfl, upd_same, rfl, ?_⟩
            rw [upd_upd]
            -- number = ..
            refine ⟨_, rfl, a, _, _, _, rfl, rfl, SqL.of upd_same, rfl, ?_⟩
            refine ⟨_, _, rfl, rfl, .inr ⟨by decide, by decide⟩, ?_⟩
            refine ⟨_, rfl, a, _, _, _, rfl, rfl, SqL.of upd_same, rfl, ?_⟩
            refine ⟨_, _, rfl, rfl, .inr ⟨by decide, by decide⟩, ?_⟩
            refine ⟨_, _, rfl, rfl, ?_⟩
            refine ⟨_, _, rfl, rfl, .inl ⟨_, rfl, ?_⟩⟩
            refine ⟨_, _, rfl, rfl, (by show (0 : Int) < 2147483647; decide), ?_⟩
            refine ⟨_, rfl, _, rfl, ?_⟩
            refine ⟨_, _, rfl, rfl, .inl ⟨by omega, by omega⟩, ?_⟩
            refine ⟨_, rfl, a, _, _, _, rfl, rfl, SqL.of upd_same, rfl, ?_⟩
            refine ⟨_, _, rfl, rfl, .inl ⟨by decide, by decide⟩, ?_⟩
            refine ⟨_, _, rfl, rfl, ?_⟩
            refine ⟨_, _, rfl, rfl, .inl ⟨_, rfl, ?_⟩⟩
            refine ⟨_, _, rfl, rfl, (by show (0 : Int) < 998244353; decide), ?_⟩
            refine ⟨_, rfl, _, rfl, ?_⟩
            refine ⟨_, _, rfl, rfl, .inl ⟨by omega, by omega⟩, ?_⟩
            refine ⟨_, rfl, a, _, _, _, rfl, rfl, SqL.of upd_same, rfl, ?_⟩
            refine ⟨_, _, rfl, rfl, .inl ⟨by decide, by decide⟩, ?_⟩
            refine ⟨_, _, rfl, rfl, ?_⟩
            refine ⟨_, rfl, a, _, _, _, rfl, rfl, SqL.of upd_same, rfl, ?_⟩
            refine ⟨_, _, rfl, rfl, .inl ⟨_, rfl, ?_⟩⟩
            refine ⟨_, _, rfl, rfl, (by show (0 : Int) < 2147483629; decide), ?_⟩
            refine ⟨_, rfl, _, _, rfl, rfl, ⟨by decide, by decide⟩, ?_⟩
            refine ⟨_, rfl, a, _, 0, 0, rfl, rfl, upd_same, rfl, ?_⟩
            let n1 : Int := (z * 48271 + (c + 1) * 69621 + 12345) % 2147483647
            let n2 : Int := (n1 * n1 + 16807 * (c + 1) + 7) % 998244353
            refine ⟨(n2 * n2 + 48271 * (c + 1) + z) % 2147483629 / 13, k, c + 1, _, rfl, ?_, ?_, k0⟩
            · simp only [upd_upd]
              rfl
            · exact Int.ediv_nonneg (Int.emod_nonneg _ (by decide)) (by decide)
          · exact ⟨n, k, c, none, rfl, upd_upd.symm, n0, k0⟩
      · refine ⟨_, rfl, a, _, _, _, rfl, rfl, SqL.of upd_same, rfl, rfl, _, rfl, ?_⟩
        rw [eq_false_of_ne_true e0]
        refine iteF ?_
        exact ⟨n, k, c, none, rfl, upd_upd.symm, n0, k0⟩
    · rintro σ H' ⟨n, k, c, u, rfl, rfl, n0, k0⟩
      refine ⟨_, rfl, a, _, _, _, rfl, rfl, SqL.of upd_same, rfl, .inl ⟨_, rfl, ?_⟩⟩
      refine ⟨_, rfl, _, _, rfl, rfl, b0, ?_⟩
      refine ⟨_, rfl, a, _, _, _, rfl, rfl, SqL.of upd_same, rfl, ?_⟩
      refine ⟨_, rfl, _, _, rfl, rfl, ⟨b0, b1⟩, ?_⟩
      refine ⟨_, rfl, a, _, 0, 0, rfl, rfl, upd_same, rfl, ?_⟩
      refine ⟨_, rfl, ?_⟩
      rw [upd_upd]
      exact q (n % b) _ (Int.emod_nonneg _ (by omega)) (Int.emod_lt_of_pos _ b0) ⟨n / b, k, z, c, rfl, Int.ediv_nonneg n0 (by omega), k0, z0, z1⟩

abbrev s_l_value : Stmt := top 14
theorem sc_l_value : FnScope ["deck"] ["deck"] (defScope s_l_value) := ⟨rfl, rfl, rfl, by decide +kernel, rfl, by decide +kernel, by decide +kernel⟩
def spDrawn (K : PySem.W.Frag) (m : Int) : Sp := fun vs H Q _ => ∃ a, vs = [.ref a] ∧ DeckAt K H a ∧ ∀ n H', Ex H H' → 0 ≤ n → n ≤ m → Q (.int n) H'
theorem ok_l_value {f : Addr} {fd : FuncData} (F : Fun K "_law_value" "_law_value" s_l_value f fd) (T : Txt K mg) (D_l_draw : Def P w K mg base CX0 "_law_draw" 1 ["deck", "bound"] (spDraw K)) : FnOk P w K mg base CX0 2 f fd ["deck"] (spDrawn K 255) := by
  refine F.ok sc_l_value (fun vs H Q E h => ?_) (fun cdv A outer s H vs Q E hr h => ?_)
  · obtain ⟨a, rfl, _⟩ := h
    rfl
  · obtain ⟨a, rfl, hd, q⟩ := h
    refine ⟨_, (pss_one (ps_ret (pe_ix (kixL K) (pe_lst (pa_cons pe_int (pa_cons pe_int (pa_cons pe_int (pa_cons pe_int (pa_cons (pe_call D_l_draw.ok (hr.mono (by decide)) rfl D_l_draw.mgf D_l_draw.kp D_l_draw.b .nil pass0 (pa_cons (pv 0) (pa_cons pe_int pa_nil))) (pa_cons (pe_call D_l_draw.ok (hr.mono (by decide)) rfl D_l_draw.mgf D_l_draw.kp D_l_draw.b .nil pass0 (pa_cons (pv 0) (pa_cons pe_int pa_nil))) pa_nil))))))) (pe_call D_l_draw.ok (hr.mono (by decide)) rfl D_l_draw.mgf D_l_draw.kp D_l_draw.b .nil pass0 (pa_cons (pv 0) (pa_cons pe_int pa_nil))) (fun _ _ => rfl)))), ?_⟩
    refine ⟨_, rfl, a, 256, rfl, hd, by decide, by decide, fun x x0 x1 => ?_⟩
    refine ⟨_, rfl, a, 256, rfl, hd, by decide, by decide, fun y y0 y1 => ?_⟩
    refine ⟨(by show 6 ≤ sizeLine; decide), fun l hl => ?_⟩
    have e1 := Ex.new (o := .lst [.int 0, .int 255, .int 1, .int 254, .int x, .int y]) hl
    refine ⟨_, rfl, a, 6, rfl, hd.mono e1, by decide, by decide, fun i i0 i1 => ?_⟩
    obtain ⟨n, hn, ex⟩ := pickI (ns := [0, 255, 1, 254, x, y]) i0 i1
    refine ⟨l, _, i, _, rfl, rfl, SqL.of upd_same, ex, ?_⟩
    simp only [List.mem_cons, List.not_mem_nil, or_false] at hn
    exact q n _ e1 (by omega) (by omega)

abbrev s_l_cover : Stmt := top 15
theorem sc_l_cover : FnScope ["deck"] ["deck"] (defScope s_l_cover) := ⟨rfl, rfl, rfl, by decide +kernel, rfl, by decide +kernel, by decide +kernel⟩
theorem ok_l_cover {f : Addr} {fd : FuncData} (F : Fun K "_law_cover" "_law_cover" s_l_cover f fd) (T : Txt K mg) (D_l_draw : Def P w K mg base CX0 "_law_draw" 1 ["deck", "bound"] (spDraw K)) : FnOk P w K mg base CX0 2 f fd ["deck"] (spDrawn K 256) := by
  refine F.ok sc_l_cover (fun vs H Q E h => ?_) (fun cdv A outer s H vs Q E hr h => ?_)
  · obtain ⟨a, rfl, _⟩ := h
    rfl
  · obtain ⟨a, rfl, hd, q⟩ := h
    refine ⟨_, (pss_one (ps_ret (pe_ix (kixL K) (pe_lst (pa_cons pe_int (pa_cons pe_int (pa_cons pe_int (pa_cons pe_int (pa_cons pe_int (pa_cons (pe_call D_l_draw.ok (hr.mono (by decide)) rfl D_l_draw.mgf D_l_draw.kp D_l_draw.b .nil pass0 (pa_cons (pv 0) (pa_cons pe_int pa_nil))) pa_nil))))))) (pe_call D_l_draw.ok (hr.mono (by decide)) rfl D_l_draw.mgf D_l_draw.kp D_l_draw.b .nil pass0 (pa_cons (pv 0) (pa_cons pe_int pa_nil))) (fun _ _ => rfl)))), ?_⟩
    refine ⟨_, rfl, a, 257, rfl, hd, by decide, by decide, fun x x0 x1 => ?_⟩
    refine ⟨(by show 6 ≤ sizeLine; decide), fun l hl => ?_⟩
    have e1 := Ex.new (o := .lst [.int 0, .int 256, .int 256, .int 255, .int 1, .int x]) hl
    refine ⟨_, rfl, a, 6, rfl, hd.mono e1, by decide, by decide, fun i i0 i1 => ?_⟩
    obtain ⟨n, hn, ex⟩ := pickI (ns := [0, 256, 256, 255, 1, x]) i0 i1
    refine ⟨l, _, i, _, rfl, rfl, SqL.of upd_same, ex, ?_⟩
    simp only [List.mem_cons, List.not_mem_nil, or_false] at hn
    exact q n _ e1 (by omega) (by omega)

abbrev s_l_picture : Stmt := top 16
theorem sc_l_picture : FnScope ["deck", "most", "width", "height", "values", "covers", "k"] ["deck", "most"] (defScope s_l_picture) := ⟨rfl, rfl, rfl, by decide +kernel, rfl, by decide +kernel, by decide +kernel⟩
def spPicture (K : PySem.W.Frag) : Sp := fun vs H Q _ => ∃ a m, vs = [.ref a, .int m] ∧ DeckAt K H a ∧ 1 ≤ m ∧ m ≤ 12 ∧ ∀ v p H', Ex H H' → PcV H' v p → p.Ok m → Q v H'
/-- a list of so many ints of this kind stands at D -/
def IntsAt (H : Hp) (D : Addr) (n : Nat) (P : Int → Prop) : Prop := ∃ ns : List Int, H D = some (.lst (ns.map V.int)) ∧ ns.length = n ∧ ∀ x ∈ ns, P x
theorem IntsAt.snoc {H0 H H2 : Hp} {D : Addr} {n : Nat} {P : Int → Prop} {x : Int} (hD : H0 D = none) (e : Ex H0 H) (h : IntsAt H D n P) (e2 : Ex H H2) (hn : n ≤ 1000) (hx : P x) : ∃ acc, H2 D = some (.lst acc) ∧ acc.length < sizeLine ∧ Ex H0 (upd H2 D (.lst (acc ++ [.int x]))) ∧ IntsAt (upd H2 D (.lst (acc ++ [.int x]))) D (n + 1) P := by
  obtain ⟨ns, h1, h2, h3⟩ := h
  refine ⟨_, e2 _ _ h1, slineL (by rw [List.length_map]; omega), (e.trans e2).mut hD, ns ++ [x], by rw [upd_same, List.map_append]; rfl, by simp [h2], fun y hy => ?_⟩
  rcases List.mem_append.mp hy with z | z
  · exact h3 y z
  · rw [List.mem_singleton.mp z]
    exact hx
theorem ok_l_picture {f : Addr} {fd : FuncData} (F : Fun K "_law_picture" "_law_picture" s_l_picture f fd) (T : Txt K mg) (D_l_draw : Def P w K mg base CX0 "_law_draw" 1 ["deck", "bound"] (spDraw K))
    (D_l_value : Def P w K mg base CX0 "_law_value" 2 ["deck"] (spDrawn K 255)) (D_l_cover : Def P w K mg base CX0 "_law_cover" 2 ["deck"] (spDrawn K 256)) : FnOk P w K mg base CX0 3 f fd ["deck", "most"] (spPicture K) := by
  refine F.ok sc_l_picture (fun vs H Q E h => ?_) (fun cdv A outer s H vs Q E hr h => ?_)
  · obtain ⟨a, m, rfl, _⟩ := h
    rfl
  · obtain ⟨a, m, rfl, hd, m1, m2, q⟩ := h
    refine ⟨_, (pss_cons (ps_set (i := 2) sc_l_picture.nd rfl (by first | exact Or.inl rfl | exact Or.inr rfl) (pe_op op_add pe_int (pe_call D_l_draw.ok (hr.mono (by decide)) rfl D_l_draw.mgf D_l_draw.kp D_l_draw.b .nil pass0 (pa_cons (pv 0) (pa_cons (pv 1) pa_nil)))))
      (pss_cons (ps_set (i := 3) sc_l_picture.nd rfl (by first | exact Or.inl rfl | exact Or.inr rfl) (pe_op op_add pe_int (pe_call D_l_draw.ok (hr.mono (by decide)) rfl D_l_draw.mgf D_l_draw.kp D_l_draw.b .nil pass0 (pa_cons (pv 0) (pa_cons (pv 1) pa_nil)))))
      (pss_cons (ps_setLc (i := 4)  (own := [("k", 6)]) (tt := tYes) rfl sc_l_picture.nd rfl rfl (sw_true rfl rfl rfl (by decide +kernel)) (pi_range1 (by rfl) T.range_ (pa_cons (pe_op op_mul (pv 2) (pv 3)) pa_nil)) (blkOk_by (N := ["deck", "most", "width", "height", "values", "covers", "k"]) (sc := defScope s_l_picture) (by decide +kernel)) (fun _ _ _ _ _ => (pg_name (i := 6) sc_l_picture.nd rfl (by first | exact Or.inl rfl | exact Or.inr rfl))) (fun _ _ _ _ _ => pts_nil) (fun _ _ _ _ _ => (pe_call D_l_value.ok (hr.mono (by decide)) rfl D_l_value.mgf D_l_value.kp D_l_value.b .nil pass0 (pa_cons (pv 0) pa_nil))))
      (pss_cons (ps_setLc (i := 5)  (own := [("k", 6)]) (tt := tYes) rfl sc_l_picture.nd rfl rfl (sw_true rfl rfl rfl (by decide +kernel)) (pi_range1 (by rfl) T.range_ (pa_cons (pe_op op_mul (pv 2) (pv 3)) pa_nil)) (blkOk_by (N := ["deck", "most", "width", "height", "values", "covers", "k"]) (sc := defScope s_l_picture) (by decide +kernel)) (fun _ _ _ _ _ => (pg_name (i := 6) sc_l_picture.nd rfl (by first | exact Or.inl rfl | exact Or.inr rfl))) (fun _ _ _ _ _ => pts_nil) (fun _ _ _ _ _ => pe_int))
      (pss_cut (ps_if (pt_cmpR op_gt (pe_call D_l_draw.ok (hr.mono (by decide)) rfl D_l_draw.mgf D_l_draw.kp D_l_draw.b .nil pass0 (pa_cons (pv 0) (pa_cons pe_int pa_nil))) pe_int (nomark _))
        (pss_one (ps_setLc (i := 5)  (own := [("k", 6)]) (tt := tYes) rfl sc_l_picture.nd rfl rfl (sw_true rfl rfl rfl (by decide +kernel)) (pi_range1 (by rfl) T.range_ (pa_cons (pe_op op_mul (pv 2) (pv 3)) pa_nil)) (blkOk_by (N := ["deck", "most", "width", "height", "values", "covers", "k"]) (sc := defScope s_l_picture) (by decide +kernel)) (fun _ _ _ _ _ => (pg_name (i := 6) sc_l_picture.nd rfl (by first | exact Or.inl rfl | exact Or.inr rfl))) (fun _ _ _ _ _ => pts_nil) (fun _ _ _ _ _ => (pe_call D_l_cover.ok (hr.mono (by decide)) rfl D_l_cover.mgf D_l_cover.kp D_l_cover.b .nil pass0 (pa_cons (pv 0) pa_nil)))))
        pss_nil)
      (pss_one (ps_ret (pe_tup (pa_cons (pv 2) (pa_cons (pv 3) (pa_cons (pe_callTy (ktuple K) (by rfl) T.tuple_ bt_tuple (pa_cons (pv 4) pa_nil)) (pa_cons (pe_callTy (ktuple K) (by rfl) T.tuple_ bt_tuple (pa_cons (pv 5) pa_nil)) pa_nil)))))))))))), ?_⟩
    refine ⟨_, rfl, _, rfl, a, m, rfl, hd, by omega, by omega, fun wd w0 w1 => ?_⟩
    refine ⟨_, _, rfl, rfl, ?_⟩
    refine ⟨_, rfl, _, rfl, a, m, rfl, hd, by omega, by omega, fun hg h0 h1 => ?_⟩
    refine ⟨_, _, rfl, rfl, ?_⟩
    obtain ⟨a1, a2⟩ := area_le (w := 1 + wd) (h := 1 + hg) (m := 12) (by omega) (by omega) (by omega) (by omega)
    generalize hW : 1 + wd = W at a1 a2
    generalize hG : 1 + hg = G at a1 a2
    show gName 3 (.int (1 + hg)) ((L2.start _ _).set 2 (some (.int (1 + wd)))) _ _
    rw [hW, hG]
    have hN : ((W * G).toNat : Int) = W * G := by omega
    refine ⟨_, rfl, _, rfl, _, _, rfl, rfl, .inl ⟨by omega, by omega⟩, _, rfl, by omega, by omega, fun D1 hD1 => ?_⟩
    refine lc_range (lo := 0) (n := (W * G).toNat) (fun i H' => Ex H H' ∧ IntsAt H' D1 i fun x => 0 ≤ x ∧ x ≤ 255) ⟨Ex.new hD1, [], upd_same, rfl, by simp⟩ ?_ ?_
    · rintro i H' hi ⟨e, hI⟩
      refine ⟨rfl, ?_⟩
      refine lcY ?_
      refine ⟨_, rfl, a, rfl, hd.mono e, fun x H2 e2 x0 x1 => ?_⟩
      exact hI.snoc hD1 e e2 (by omega) ⟨x0, x1⟩
    rintro H1 ⟨e1, vl, hvl, hvn, hvb⟩
    refine ⟨_, rfl, _, rfl, _, _, rfl, rfl, .inl ⟨by omega, by omega⟩, _, rfl, by omega, by omega, fun D2 hD2 => ?_⟩
    refine lc_range (lo := 0) (n := (W * G).toNat) (fun i H' => Ex H1 H' ∧ IntsAt H' D2 i fun x => 0 ≤ x ∧ x ≤ 256) ⟨Ex.new hD2, [], upd_same, rfl, by simp⟩ ?_ ?_
    · rintro i H' hi ⟨e, hI⟩
      refine ⟨rfl, ?_⟩
      refine lcY ?_
      exact hI.snoc hD2 e (Ex.refl _) (by omega) ⟨by decide, by decide⟩
    rintro H2 ⟨e2, hI2⟩
    refine ⟨fun σ H' => ∃ D, σ = [some (.ref a), some (.int m), some (.int W), some (.int G), some (.ref D1), some (.ref D), none] ∧ Ex H1 H' ∧ IntsAt H' D (W * G).toNat fun x => 0 ≤ x ∧ x ≤ 256, ?_, ?_⟩
    · refine ⟨_, rfl, a, 3, rfl, hd.mono (e1.trans e2), by decide, by decide, fun b b0 b1 => ?_⟩
      refine ⟨_, _, rfl, rfl, _, rfl, ?_⟩
      refine ite2 (fun c => ?_) (fun c => ?_)
      · refine ⟨_, rfl, _, rfl, _, _, rfl, rfl, .inl ⟨by omega, by omega⟩, _, rfl, by omega, by omega, fun D3 hD3 => ?_⟩
        refine lc_range (lo := 0) (n := (W * G).toNat) (fun i H' => Ex H2 H' ∧ IntsAt H' D3 i fun x => 0 ≤ x ∧ x ≤ 256) ⟨Ex.new hD3, [], upd_same, rfl, by simp⟩ ?_ ?_
        · rintro i H' hi ⟨e, hI⟩
          refine ⟨rfl, ?_⟩
          refine lcY ?_
          refine ⟨_, rfl, a, rfl, hd.mono ((e1.trans e2).trans e), fun x H3 e3 x0 x1 => ?_⟩
          exact hI.snoc hD3 e e3 (by omega) ⟨x0, x1⟩
        rintro H3 ⟨e3, hI3⟩
        exact ⟨D3, rfl, e2.trans e3, hI3⟩
      · exact ⟨D2, rfl, e2, hI2⟩
    · rintro σ H3 ⟨D, rfl, e3, cl, hcl, hcn, hcb⟩
      refine ⟨_, rfl, _, rfl, _, rfl, D1, _, rfl, .inl ⟨SqL.of (e3 _ _ hvl), fun p1 hp1 => ?_⟩⟩
      have e4 := Ex.new (o := .tup (vl.map V.int)) hp1
      refine ⟨_, rfl, D, _, rfl, .inl ⟨SqL.of (e4 _ _ hcl), fun p2 hp2 => ?_⟩⟩
      have e5 := Ex.new (o := .tup (cl.map V.int)) hp2
      refine ⟨(by show 4 ≤ sizeLine; decide), fun p3 hp3 => ?_⟩
      have e6 := Ex.new (o := .tup [.int W, .int G, .ref p1, .ref p2]) hp3
      refine q (.ref p3) ⟨W, G, vl, cl⟩ _ ((((e1.trans e3).trans e4).trans e5).trans e6) ⟨p3, p1, p2, rfl, upd_same, e6 _ _ (e5 _ _ upd_same), e6 _ _ upd_same⟩ ⟨?_, ?_, ?_, ?_, ?_, ?_, hvb, hcb⟩ <;> dsimp only <;> omega

abbrev s_l_paint : Stmt := top 17
theorem sc_l_paint : FnScope ["deck", "most", "kind"] ["deck", "most"] (defScope s_l_paint) := ⟨rfl, rfl, rfl, by decide +kernel, rfl, by decide +kernel, by decide +kernel⟩
def spPaint (K : PySem.W.Frag) : Sp := fun vs H Q _ => ∃ a m, vs = [.ref a, .int m] ∧ DeckAt K H a ∧ 1 ≤ m ∧ m ≤ 12 ∧ ∀ v p H', Ex H H' → PaV H' v p → p.Ok m → Q v H'
theorem ok_l_paint {f : Addr} {fd : FuncData} (F : Fun K "_law_paint" "_law_paint" s_l_paint f fd) (T : Txt K mg) (D_l_draw : Def P w K mg base CX0 "_law_draw" 1 ["deck", "bound"] (spDraw K))
    (D_l_value : Def P w K mg base CX0 "_law_value" 2 ["deck"] (spDrawn K 255)) (D_l_picture : Def P w K mg base CX0 "_law_picture" 3 ["deck", "most"] (spPicture K)) : FnOk P w K mg base CX0 4 f fd ["deck", "most"] (spPaint K) := by
  refine F.ok sc_l_paint (fun vs H Q E h => ?_) (fun cdv A outer s H vs Q E hr h => ?_)
  · obtain ⟨a, m, rfl, _⟩ := h
    rfl
  · obtain ⟨a, m, rfl, hd, m1, m2, q⟩ := h
    refine ⟨_, (pss_cons (ps_set (i := 2) sc_l_paint.nd rfl (by first | exact Or.inl rfl | exact Or.inr rfl) (pe_call D_l_draw.ok (hr.mono (by decide)) rfl D_l_draw.mgf D_l_draw.kp D_l_draw.b .nil pass0 (pa_cons (pv 0) (pa_cons pe_int pa_nil))))
      (pss_cons (ps_if (pt_cmpR op_eq (pv 2) pe_int (nomark _))
        (pss_one (ps_ret (pe_tup (pa_cons pe_str (pa_cons (pe_call D_l_value.ok (hr.mono (by decide)) rfl D_l_value.mgf D_l_value.kp D_l_value.b .nil pass0 (pa_cons (pv 0) pa_nil)) pa_nil)))))
        pss_nil)
      (pss_cons (ps_if (pt_cmpR op_eq (pv 2) pe_int (nomark _))
        (pss_one (ps_ret (pe_tup (pa_cons pe_str (pa_cons (pe_call D_l_value.ok (hr.mono (by decide)) rfl D_l_value.mgf D_l_value.kp D_l_value.b .nil pass0 (pa_cons (pv 0) pa_nil)) (pa_cons (pe_call D_l_value.ok (hr.mono (by decide)) rfl D_l_value.mgf D_l_value.kp D_l_value.b .nil pass0 (pa_cons (pv 0) pa_nil)) (pa_cons (pe_op op_add pe_int (pe_call D_l_draw.ok (hr.mono (by decide)) rfl D_l_draw.mgf D_l_draw.kp D_l_draw.b .nil pass0 (pa_cons (pv 0) (pa_cons pe_int pa_nil)))) pa_nil)))))))
        pss_nil)
      (pss_one (ps_ret (pe_tup (pa_cons pe_str (pa_cons (pe_call D_l_picture.ok (hr.mono (by decide)) rfl D_l_picture.mgf D_l_picture.kp D_l_picture.b .nil pass0 (pa_cons (pv 0) (pa_cons (pv 1) pa_nil))) pa_nil)))))))), ?_⟩
    refine ⟨_, rfl, a, 5, rfl, hd, by decide, by decide, fun k k0 k1 => ?_⟩
    refine ⟨_, rfl, rfl, _, rfl, ?_⟩
    refine ite2 (fun _ => ?_) (fun _ => ?_)
    · refine ⟨_, rfl, a, rfl, hd, fun x H1 e1 x0 x1 => ?_⟩
      refine ⟨(by show 2 ≤ sizeLine; decide), fun l hl => ?_⟩
      exact q _ (.solid x) _ (e1.trans (Ex.new hl)) ⟨l, rfl, upd_same⟩ ⟨x0, x1⟩
    · refine ⟨_, rfl, rfl, _, rfl, ?_⟩
      refine ite2 (fun _ => ?_) (fun _ => ?_)
      · refine ⟨_, rfl, a, rfl, hd, fun x H1 e1 x0 x1 => ?_⟩
        refine ⟨_, rfl, a, rfl, hd.mono e1, fun y H2 e2 y0 y1 => ?_⟩
        refine ⟨_, rfl, a, 12, rfl, (hd.mono e1).mono e2, by decide, by decide, fun z z0 z1 => ?_⟩
        refine ⟨_, _, rfl, rfl, ?_⟩
        refine ⟨(by show 4 ≤ sizeLine; decide), fun l hl => ?_⟩
        exact q _ (.steps x y (1 + z)) _ ((e1.trans e2).trans (Ex.new hl)) ⟨l, rfl, upd_same⟩ ⟨x0, x1, y0, y1, by omega, by omega⟩
      · refine ⟨_, rfl, _, rfl, a, m, rfl, hd, m1, m2, fun u p H1 e1 hp kp => ?_⟩
        refine ⟨(by show 2 ≤ sizeLine; decide), fun l hl => ?_⟩
        exact q _ (.pic p) _ (e1.trans (Ex.new hl)) ⟨l, u, rfl, upd_same, hp.tk (TK.ex (Ex.new hl))⟩ kp

abbrev s_point_in : Stmt := top 3
theorem sc_point_in : FnScope ["picture", "x", "y", "width", "height", "values", "covers", "place"] ["picture", "x", "y"] (defScope s_point_in) := ⟨rfl, rfl, rfl, by decide +kernel, rfl, by decide +kernel, by decide +kernel⟩
theorem ok_point_in {f : Addr} {fd : FuncData} (F : Fun K "point_in" "point_in" s_point_in f fd) (T : Txt K mg) : FnOk P w K mg base CX0 1 f fd ["picture", "x", "y"] (spPoint K) := by
  refine F.ok sc_point_in (fun vs H Q E h => ?_) (fun cdv A outer s H vs Q E hr h => ?_)
  · obtain ⟨v, x, y, p, m, rfl, _⟩ := h
    rfl
  · obtain ⟨v, x, y, p, m, rfl, ⟨a, va, ca, rfl, hp, hva, hca⟩, k, m60, q⟩ := h
    refine ⟨_, (pss_cons (ps_asg (pv 0) (kpgT K (n := 4) rfl (pgs_cons (pg_name (i := 3) sc_point_in.nd rfl (by first | exact Or.inl rfl | exact Or.inr rfl)) (pgs_cons (pg_name (i := 4) sc_point_in.nd rfl (by first | exact Or.inl rfl | exact Or.inr rfl)) (pgs_cons (pg_name (i := 5) sc_point_in.nd rfl (by first | exact Or.inl rfl | exact Or.inr rfl)) (pgs_cons (pg_name (i := 6) sc_point_in.nd rfl (by first | exact Or.inl rfl | exact Or.inr rfl)) pgs_nil))))))
      (pss_cons (ps_if (pt_not (PW.pt (pw_and (pt_chain op_le op_lt pe_int (pv 1) (pv 3)) (pw_and1 (pt_chain op_le op_lt pe_int (pv 2) (pv 4))))))
        (pss_one (ps_ret (pe_tup (pa_cons pe_int (pa_cons pe_int pa_nil)))))
        pss_nil)
      (pss_cons (ps_set (i := 7) sc_point_in.nd rfl (by first | exact Or.inl rfl | exact Or.inr rfl) (pe_op op_add (pe_op op_mul (pv 2) (pv 3)) (pv 1)))
      (pss_one (ps_ret (pe_tup (pa_cons (pe_ix (kixT K) (pv 5) (pv 7) (fun _ _ => rfl)) (pa_cons (pe_ix (kixT K) (pv 6) (pv 7) (fun _ _ => rfl)) pa_nil)))))))), ?_⟩
    refine ⟨_, rfl, a, _, rfl, SqT.of hp, rfl, _, _, rfl, _, _, rfl, _, _, rfl, _, _, rfl, rfl, ?_⟩
    have out : ¬ p.In x y → ∀ l, H l = none → Q (.ref l) (upd H l (.tup [.int 0, .int 0])) := fun no l hl => q (.ref l) _ (Ex.new hl) ⟨l, rfl, by rw [upd_same]; unfold Pc.at; rw [if_neg no]⟩
    refine ⟨_, rfl, _, _, rfl, rfl, _, rfl, ?_⟩
    refine ite2 (fun c1 => ?_) (fun c1 => ?_)
    · refine ⟨_, rfl, _, _, rfl, rfl, _, rfl, ?_⟩
      refine ite2 (fun c2 => ?_) (fun c2 => ?_)
      · refine ⟨_, rfl, _, _, rfl, rfl, _, rfl, ?_⟩
        refine ite2 (fun c3 => ?_) (fun c3 => ?_)
        · refine ⟨_, rfl, _, _, rfl, rfl, _, rfl, ?_⟩
          refine ite2 (fun c4 => ?_) (fun c4 => ?_)
          · refine ⟨(by show 2 ≤ sizeLine; decide), fun l hl => ?_⟩
            refine out (fun z => ?_) l hl
            rw [decide_eq_true z.2.2.2] at c4
            cases c4
          · have c5 : y < p.h := by
              by_cases z : y < p.h
              · exact z
              · rw [decide_eq_false z] at c4
                exact absurd rfl c4
            have hin : p.In x y := ⟨of_decide_eq_true c1, of_decide_eq_true c2, of_decide_eq_true c3, c5⟩
            obtain ⟨b0, b1⟩ := place_lt hin.1 hin.2.1 hin.2.2.1 hin.2.2.2
            refine ⟨_, rfl, _, rfl, _, _, rfl, rfl, .inr ⟨by have := k.w1; omega, by have := k.w2; omega⟩, _, rfl, _, _, rfl, rfl, ?_⟩
            refine ⟨_, rfl, _, rfl, va, _, _, _, rfl, rfl, SqT.of hva, atD b0 (by rw [k.vl]; exact b1), ?_⟩
            refine ⟨_, rfl, _, rfl, ca, _, _, _, rfl, rfl, SqT.of hca, atD b0 (by rw [k.cl]; exact b1), ?_⟩
            refine ⟨(by show 2 ≤ sizeLine; decide), fun l hl => ?_⟩
            exact q (.ref l) _ (Ex.new hl) ⟨l, rfl, by rw [upd_same]; unfold Pc.at; rw [if_pos hin]⟩
        · refine ⟨_, rfl, iteT ⟨(by show 2 ≤ sizeLine; decide), fun l hl => ?_⟩⟩
          exact out (fun z => c3 (decide_eq_true z.2.2.1)) l hl
      · refine iteT ⟨(by show 2 ≤ sizeLine; decide), fun l hl => ?_⟩
        exact out (fun z => c2 (decide_eq_true z.2.1)) l hl
    · refine ⟨_, rfl, iteF (iteT ⟨(by show 2 ≤ sizeLine; decide), fun l hl => ?_⟩)⟩
      exact out (fun z => c1 (decide_eq_true z.1)) l hl

abbrev s_paint_at : Stmt := top 5
theorem sc_paint_at : FnScope ["paint", "x", "y", "_", "first", "second", "size", "is_even"] ["paint", "x", "y"] (defScope s_paint_at) := ⟨rfl, rfl, rfl, by decide +kernel, rfl, by decide +kernel, by decide +kernel⟩
theorem ok_paint_at {f : Addr} {fd : FuncData} (F : Fun K "paint_at" "paint_at" s_paint_at f fd) (T : Txt K mg) (D_point_in : Def P w K mg base CX0 "point_in" 1 ["picture", "x", "y"] (spPoint K)) : FnOk P w K mg base CX0 2 f fd ["paint", "x", "y"] (spAt K) := by
  refine F.ok sc_paint_at (fun vs H Q E h => ?_) (fun cdv A outer s H vs Q E hr h => ?_)
  · obtain ⟨v, o, m, x, y, rfl, _⟩ := h
    rfl
  · obtain ⟨v, o, m, x, y, rfl, ho, k, hm, x0, x1, y0, y1, q⟩ := h
    refine ⟨_, (pss_cons (ps_if (pt_cmpR op_isN (pv 0) pe_non (nomark _))
        (pss_one (ps_ret (pe_tup (pa_cons pe_int (pa_cons (pe_glob (v := .int 256) rfl T.COVER_MOST_.choose_spec ⟨_, rfl⟩) pa_nil)))))
        pss_nil)
      (pss_cons (ps_if (pt_cmpR op_eq (pe_ix (kixT K) (pv 0) pe_int (fun _ _ => rfl)) pe_str (nomark _))
        (pss_one (ps_ret (pe_tup (pa_cons (pe_ix (kixT K) (pv 0) pe_int (fun _ _ => rfl)) (pa_cons (pe_glob (v := .int 256) rfl T.COVER_MOST_.choose_spec ⟨_, rfl⟩) pa_nil)))))
        pss_nil)
      (pss_cons (ps_if (pt_cmpR op_eq (pe_ix (kixT K) (pv 0) pe_int (fun _ _ => rfl)) pe_str (nomark _))
        (pss_one (ps_ret (pe_call D_point_in.ok (hr.mono (by decide)) rfl D_point_in.mgf D_point_in.kp D_point_in.b .nil pass0 (pa_cons (pe_ix (kixT K) (pv 0) pe_int (fun _ _ => rfl)) (pa_cons (pv 1) (pa_cons (pv 2) pa_nil))))))
        pss_nil)
      (pss_cons (ps_asg (pv 0) (kpgT K (n := 4) rfl (pgs_cons (pg_name (i := 3) sc_paint_at.nd rfl (by first | exact Or.inl rfl | exact Or.inr rfl)) (pgs_cons (pg_name (i := 4) sc_paint_at.nd rfl (by first | exact Or.inl rfl | exact Or.inr rfl)) (pgs_cons (pg_name (i := 5) sc_paint_at.nd rfl (by first | exact Or.inl rfl | exact Or.inr rfl)) (pgs_cons (pg_name (i := 6) sc_paint_at.nd rfl (by first | exact Or.inl rfl | exact Or.inr rfl)) pgs_nil))))))
      (pss_cons (ps_set (i := 7) sc_paint_at.nd rfl (by first | exact Or.inl rfl | exact Or.inr rfl) (pe_cmpR op_eq (pe_op op_mod (pe_op op_add (pe_op op_fdiv (pv 1) (pv 6)) (pe_op op_fdiv (pv 2) (pv 6))) pe_int) pe_int (nomark _)))
      (pss_one (ps_ret (pe_tup (pa_cons (pe_ifExp (pt_val (pv 7)) (pv 4) (pv 5)) (pa_cons (pe_glob (v := .int 256) rfl T.COVER_MOST_.choose_spec ⟨_, rfl⟩) pa_nil)))))))))), ?_⟩
    refine ⟨_, rfl, rfl, _, rfl, ?_⟩
    cases o with
    | none =>
      cases ho
      refine iteD rfl ?_
      refine ⟨(by show 2 ≤ sizeLine; decide), fun l hl => ?_⟩
      exact q _ _ (Ex.new hl) ⟨l, rfl, upd_same⟩
    | some p =>
      obtain ⟨a, xs, rfl, ha⟩ := PaV.mk ho
      refine iteN (fun z => nomatch z) ?_
      cases p with
      | solid c =>
        obtain ⟨a', e, ha⟩ := ho
        cases e
        refine ⟨_, rfl, a, _, _, _, rfl, rfl, SqT.of ha, rfl, rfl, _, rfl, ?_⟩
        refine iteE (by decide +kernel) ?_
        refine ⟨_, rfl, a, _, _, _, rfl, rfl, SqT.of ha, rfl, ?_⟩
        refine ⟨(by show 2 ≤ sizeLine; decide), fun l hl => ?_⟩
        exact q _ _ (Ex.new hl) ⟨l, rfl, upd_same⟩
      | pic p =>
        obtain ⟨a', u, e, ha, hu⟩ := ho
        cases e
        refine ⟨_, rfl, a, _, _, _, rfl, rfl, SqT.of ha, rfl, rfl, _, rfl, ?_⟩
        refine iteW (by decide +kernel) ?_
        refine ⟨_, rfl, a, _, _, _, rfl, rfl, SqT.of ha, rfl, rfl, _, rfl, ?_⟩
        refine iteE (by decide +kernel) ?_
        exact ⟨_, rfl, a, _, _, _, rfl, rfl, SqT.of ha, rfl, _, rfl, _, rfl, u, x, y, p, m, rfl, hu, k, hm, fun u H' e hu => q u H' e hu⟩
      | steps f s z =>
        obtain ⟨a', e, ha⟩ := ho
        cases e
        obtain ⟨f0, f1, s0, s1, z0, z1⟩ := k
        refine ⟨_, rfl, a, _, _, _, rfl, rfl, SqT.of ha, rfl, rfl, _, rfl, ?_⟩
        refine iteW (by decide +kernel) ?_
        refine ⟨_, rfl, a, _, _, _, rfl, rfl, SqT.of ha, rfl, rfl, _, rfl, ?_⟩
        refine iteW (by decide +kernel) ?_
        refine ⟨_, rfl, a, _, rfl, SqT.of ha, rfl, _, _, rfl, _, _, rfl, _, _, rfl, _, _, rfl, rfl, ?_⟩
        refine ⟨_, rfl, _, rfl, _, _, rfl, rfl, ⟨by omega, by omega⟩, _, rfl, _, rfl, _, _, rfl, rfl, ⟨by omega, by omega⟩, _, _, rfl, rfl, _, _, rfl, rfl, (by show (0 : Int) < 2; decide), rfl, ?_⟩
        have q' := q
        unfold opAt Pa.at at q
        dsimp only at q
        refine ⟨_, rfl, _, rfl, ?_⟩
        refine ite2 (fun c => ?_) (fun c => ?_)
        · have c := V.int.inj (of_decide_eq_true c)
          rw [if_pos c] at q
          refine ⟨_, rfl, (by show 2 ≤ sizeLine; decide), fun l hl => ?_⟩
          exact q _ _ (Ex.new hl) ⟨l, rfl, upd_same⟩
        · rw [if_neg (fun z => c (decide_eq_true (congrArg V.int z)))] at q
          refine ⟨_, rfl, (by show 2 ≤ sizeLine; decide), fun l hl => ?_⟩
          exact q _ _ (Ex.new hl) ⟨l, rfl, upd_same⟩

abbrev s_is_full_picture : Stmt := top 7
theorem sc_is_full_picture : FnScope ["picture", "width", "height", "across", "down", "_", "covers", "starts", "y", "start", "cover"] ["picture", "width", "height"] (defScope s_is_full_picture) := ⟨rfl, rfl, rfl, by decide +kernel, rfl, by decide +kernel, by decide +kernel⟩
def spFullP (K : PySem.W.Frag) : Sp := fun vs H Q _ => ∃ v p m wd hg, vs = [v, .int wd, .int hg] ∧ PcV H v p ∧ p.Ok m ∧ m ≤ 12 ∧ 1 ≤ wd ∧ wd ≤ 100 ∧ 1 ≤ hg ∧ hg ≤ 100 ∧ ∀ b H', Ex H H' → (b = true ↔ Full (some (.pic p)) wd hg) → Q (.bl b) H'
theorem all_app {bs : List Bool} {b : Bool} : (bs ++ [b]).all id = true ↔ bs.all id = true ∧ b = true := by
  rw [List.all_append]
  cases bs.all id <;> cases b <;> simp
theorem cover_at {p : Pc} {x y : Int} (h : p.In x y) : (opAt (some (.pic p)) x y).2 = p.cs.getD (y * p.w + x).toNat 0 := by
  show (p.at x y).2 = _
  unfold Pc.at
  rw [if_pos h]
theorem ok_is_full_picture {f : Addr} {fd : FuncData} (F : Fun K "_is_full_picture" "_is_full_picture" s_is_full_picture f fd) (T : Txt K mg) : FnOk P w K mg base CX0 1 f fd ["picture", "width", "height"] (spFullP K) := by
  refine F.ok sc_is_full_picture (fun vs H Q E h => ?_) (fun cdv A outer s H vs Q E hr h => ?_)
  · obtain ⟨v, p, m, wd, hg, rfl, _⟩ := h
    rfl
  · obtain ⟨v, p, m, wd, hg, rfl, ⟨a, va, ca, rfl, hp, hva, hca⟩, k, hm, wd1, wd2, hg1, hg2, q⟩ := h
    have w1 := k.w1
    have w2 := k.w2
    have h1 := k.h1
    have h2 := k.h2
    refine ⟨_, (pss_cons (ps_asg (pv 0) (kpgT K (n := 4) rfl (pgs_cons (pg_name (i := 3) sc_is_full_picture.nd rfl (by first | exact Or.inl rfl | exact Or.inr rfl)) (pgs_cons (pg_name (i := 4) sc_is_full_picture.nd rfl (by first | exact Or.inl rfl | exact Or.inr rfl)) (pgs_cons (pg_name (i := 5) sc_is_full_picture.nd rfl (by first | exact Or.inl rfl | exact Or.inr rfl)) (pgs_cons (pg_name (i := 6) sc_is_full_picture.nd rfl (by first | exact Or.inl rfl | exact Or.inr rfl)) pgs_nil))))))
      (pss_cons (ps_if (PW.pt (pw_or (pt_cmpR op_gt (pv 1) (pv 3) (nomark _)) (pw_or1 (pt_cmpR op_gt (pv 2) (pv 4) (nomark _)))))
        (pss_one (ps_ret pe_bl))
        pss_nil)
      (pss_cons (ps_setLc (i := 7)  (own := [("y", 8)]) (tt := tYes) rfl sc_is_full_picture.nd rfl rfl (sw_true rfl rfl rfl (by decide +kernel)) (pi_range1 (by rfl) T.range_ (pa_cons (pv 2) pa_nil)) (blkOk_by (N := ["picture", "width", "height", "across", "down", "_", "covers", "starts", "y", "start", "cover"]) (sc := defScope s_is_full_picture) (by decide +kernel)) (fun _ _ _ _ _ => (pg_name (i := 8) sc_is_full_picture.nd rfl (by first | exact Or.inl rfl | exact Or.inr rfl))) (fun _ _ _ _ _ => pts_nil) (fun _ _ _ _ _ => (pe_op op_mul (pv 8) (pv 3))))
      (pss_one (ps_ret (pe_callB (kall K rfl) (by rfl) T.all_ bt_all (pa_cons (pe_lc2 (own := [("start", 9), ("cover", 10)]) (vs1 := [10]) rfl sc_is_full_picture.nd (kpiL K (pv 7)) (blkOk_by (N := ["picture", "width", "height", "across", "down", "_", "covers", "starts", "y", "start", "cover"]) (sc := defScope s_is_full_picture) (by decide +kernel)) (by decide) (fun _ _ _ _ _ => (pg_name (i := 9) sc_is_full_picture.nd rfl (by first | exact Or.inl rfl | exact Or.inr rfl))) (fun _ _ _ _ _ => pts_nil) (fun _ _ _ _ _ => (kpiT K (pe_slice (kslA K) (pv 6) (po_some (pv 9)) (po_some (pe_op op_add (pv 9) (pv 1)))))) (fun _ _ _ _ _ => (pg_name (i := 10) sc_is_full_picture.nd rfl (by first | exact Or.inl rfl | exact Or.inr rfl))) (fun _ _ _ _ _ => pts_nil) (fun _ _ _ _ _ => (pe_cmpR op_eq (pv 10) (pe_glob (v := .int 256) rfl T.COVER_MOST_.choose_spec ⟨_, rfl⟩) (nomark _)))) pa_nil))))))), ?_⟩
    refine ⟨_, rfl, a, _, rfl, SqT.of hp, rfl, _, _, rfl, _, _, rfl, _, _, rfl, _, _, rfl, rfl, ?_⟩
    have out : ∀ x y : Int, 0 ≤ x → x < wd → 0 ≤ y → y < hg → ¬ p.In x y → Q (.bl false) H := fun x y x0 x1 y0 y1 no => q false H (Ex.refl _) ⟨(fun z => nomatch z), fun z => by
      have e := z.2 x y x0 x1 y0 y1
      have e : (p.at x y).2 = 256 := e
      unfold Pc.at at e
      rw [if_neg no] at e
      exact absurd e (by decide)⟩
    refine ⟨_, rfl, _, rfl, _, _, rfl, rfl, _, rfl, ?_⟩
    refine ite2 (fun c1 => iteT (out (wd - 1) 0 (by omega) (by omega) (by omega) (by omega) fun z => ?_)) (fun c1 => ?_)
    · have := of_decide_eq_true c1
      have := z.2.1
      omega
    have n1 : ¬ wd > p.w := fun z => c1 (decide_eq_true z)
    refine ⟨_, rfl, _, rfl, _, _, rfl, rfl, _, rfl, ?_⟩
    refine ite2 (fun c2 => out 0 (hg - 1) (by omega) (by omega) (by omega) (by omega) fun z => ?_) (fun c2 => ?_)
    · have := of_decide_eq_true c2
      have := z.2.2.2
      omega
    have n2 : ¬ hg > p.h := fun z => c2 (decide_eq_true z)
    -- starts
    refine ⟨_, rfl, _, rfl, by omega, by omega, fun D hD => ?_⟩
    refine lc_range (lo := 0) (n := hg.toNat) (fun i H' => Ex H H' ∧ H' D = some (.lst (((List.range i).map fun (k : Nat) => (k : Int) * p.w).map V.int))) ⟨Ex.new hD, upd_same⟩ ?_ ?_
    · rintro i H' hi ⟨e, hI⟩
      refine ⟨rfl, ?_⟩
      refine lcY ?_
      refine ⟨_, rfl, _, rfl, _, _, rfl, rfl, .inl ⟨by omega, by omega⟩, ?_⟩
      refine ⟨_, hI, slineL (by rw [List.length_map, List.length_map, List.length_range]; omega), e.mut hD, ?_⟩
      rw [upd_same, List.range_succ, List.map_append, List.map_append, Int.zero_add]
      rfl
    rintro H1 ⟨e1, hS⟩
    have hca1 := e1 _ _ hca
    -- all
    refine ⟨_, rfl, D, rfl, ⟨_, SqL.of hS⟩, fun D2 hD2 => ?_⟩
    have hlen : (((List.range hg.toNat).map fun (k : Nat) => (k : Int) * p.w).map V.int).length = hg.toNat := by rw [List.length_map, List.length_map, List.length_range]
    refine turns (walk_list (K := K) (a := D) (xs := ((List.range hg.toNat).map fun (k : Nat) => (k : Int) * p.w).map V.int)) (fun i H' => Ex H1 H' ∧ ∃ bs : List Bool, H' D2 = some (.lst (bs.map V.bl)) ∧ bs.length = i * wd.toNat ∧ (bs.all id = true ↔ ∀ x y : Int, 0 ≤ x → x < wd → 0 ≤ y → y < i → (opAt (some (.pic p)) x y).2 = 256)) ⟨Ex.new hD2, [], upd_same, by simp, by simp; intro x y _ _ a b; omega⟩ (fun i H' _ p => SqL.of (p.1 _ _ hS)) ?_ ?_
    · rintro i x H' H'' hi ⟨e2, bs, hB, hbl, hb⟩ ⟨rfl, hx⟩
      rw [hlen] at hi
      have ex : x = .int ((i : Int) * p.w) := by
        rw [List.getElem?_map, List.getElem?_map, List.getElem?_range hi] at hx
        exact (Option.some.inj hx).symm
      subst ex
      refine ⟨rfl, ?_⟩
      refine lcY ?_
      have l0 : 0 ≤ (i : Int) * p.w := Int.mul_nonneg (by omega) (by omega)
      have l1 : (i : Int) * p.w + wd ≤ p.cs.length := by
        have := k.cl
        have z : (i : Int) * p.w + p.w ≤ p.h * p.w := by
          have : ((i : Int) + 1) * p.w ≤ p.h * p.w := Int.mul_le_mul_of_nonneg_right (by omega) (by omega)
          rwa [Int.add_mul, Int.one_mul] at this
        rw [this, Int.mul_comm p.w p.h]
        omega
      refine ⟨_, rfl, _, rfl, _, rfl, _, rfl, _, rfl, _, _, rfl, rfl, _, rfl, ?_⟩
      refine slA (e2 _ _ hca1) fun c3 H3 e3 hc3 => ?_
      rw [cutV_mid l0 (by omega) (by rw [List.length_map]; exact l1)] at hc3
      have kc := k.cl
      have hl3 : (((p.cs.map V.int).drop ((i : Int) * p.w).toNat).take ((i : Int) * p.w + wd - (i : Int) * p.w).toNat).length = wd.toNat := by
        rw [List.length_take, List.length_drop, List.length_map]
        omega
      refine ⟨c3, rfl, ⟨_, SqT.of hc3⟩, ?_⟩
      refine turns (walk_tup (K := K) (a := c3) (xs := ((p.cs.map V.int).drop ((i : Int) * p.w).toNat).take ((i : Int) * p.w + wd - (i : Int) * p.w).toNat)) (fun j H' => Ex H1 H' ∧ H' c3 = H3 c3 ∧ ∃ bs : List Bool, H' D2 = some (.lst (bs.map V.bl)) ∧ bs.length = i * wd.toNat + j ∧ (bs.all id = true ↔ (∀ x y : Int, 0 ≤ x → x < wd → 0 ≤ y → y < i → (opAt (some (.pic p)) x y).2 = 256) ∧ ∀ x : Int, 0 ≤ x → x < j → (opAt (some (.pic p)) x i).2 = 256)) ⟨e2.trans e3, rfl, bs, e3 _ _ hB, hbl, ?_⟩ (fun j H' _ p => SqT.of (p.2.1.trans hc3)) ?_ ?_
      · rw [hb]
        exact ⟨fun z => ⟨z, fun x a b => by omega⟩, fun z => z.1⟩
      · rintro j x H4 H5 hj ⟨e4, hc4, bs, hB, hbl, hb⟩ ⟨rfl, hx⟩
        rw [hl3] at hj
        have hin : p.In (j : Int) (i : Int) := ⟨by omega, by omega, by omega, by omega⟩
        have hk : ((i : Int) * p.w + j).toNat < p.cs.length := by omega
        have ex : x = .int (opAt (some (.pic p)) j i).2 := by
          rw [cover_at hin, List.getD_eq_getElem?_getD, List.getElem?_eq_getElem hk]
          rw [List.getElem?_take, if_pos (by omega), List.getElem?_drop, List.getElem?_map] at hx
          have e5 : ((i : Int) * p.w).toNat + j = ((i : Int) * p.w + j).toNat := by omega
          rw [e5, List.getElem?_eq_getElem hk] at hx
          exact (Option.some.inj hx).symm
        subst ex
        refine ⟨rfl, ?_⟩
        refine lcY ?_
        refine ⟨_, rfl, rfl, ?_⟩
        have hbl2 : bs.length ≤ 20000 := by
          have : i * wd.toNat ≤ 100 * 100 := Nat.mul_le_mul (by omega) (by omega)
          omega
        refine ⟨_, hB, slineL (by rw [List.length_map]; omega), e4.mut hD2, ?_, bs ++ [decide (V.int (opAt (some (.pic p)) j i).2 = V.int 256)], by rw [upd_same, List.map_append]; rfl, by rw [List.length_append]; simp; omega, ?_⟩
        · rw [upd_ne (ne_of (hc4.trans hc3) hB (by intro z; cases z))]
          exact hc4
        · rw [all_app, hb, and_assoc]
          refine and_congr_right fun _ => ?_
          constructor
          · rintro ⟨z1, z2⟩ x a b
            by_cases ex : x = j
            · rw [ex]
              exact V.int.inj (of_decide_eq_true z2)
            · exact z1 x a (by omega)
          · intro z
            exact ⟨fun x a b => z x a (by omega), decide_eq_true (congrArg V.int (z j (by omega) (by omega)))⟩
      · rintro H4 ⟨e4, hc4, bs, hB, hbl, hb⟩
        rw [hl3] at hbl hb
        refine ⟨e4, bs, hB, by rw [hbl, Nat.add_mul, Nat.one_mul], ?_⟩
        rw [hb]
        constructor
        · rintro ⟨z1, z2⟩ x y a b c d
          by_cases ey : y = i
          · rw [ey]
            exact z2 x a (by omega)
          · exact z1 x y a b c (by omega)
        · intro z
          exact ⟨fun x y a b c d => z x y a b c (by omega), fun x a b => z x i a (by omega) (by omega) (by omega)⟩
    · rintro H2 ⟨e2, bs, hB, hbl, hb⟩
      rw [hlen] at hb
      refine ⟨D2, bs, rfl, SqL.of hB, ?_⟩
      refine q _ _ (e1.trans e2) ?_
      rw [hb]
      exact ⟨fun z => ⟨rfl, fun x y a b c d => z x y a b c (by omega)⟩, fun z x y a b c d => z.2 x y a b c (by omega)⟩

abbrev s_is_full : Stmt := top 6
theorem sc_is_full : FnScope ["paint", "width", "height"] ["paint", "width", "height"] (defScope s_is_full) := ⟨rfl, rfl, rfl, by decide +kernel, rfl, by decide +kernel, by decide +kernel⟩
theorem ok_is_full {f : Addr} {fd : FuncData} (F : Fun K "is_full" "is_full" s_is_full f fd) (T : Txt K mg) (D_is_full_picture : Def P w K mg base CX0 "_is_full_picture" 1 ["picture", "width", "height"] (spFullP K)) : FnOk P w K mg base CX0 2 f fd ["paint", "width", "height"] (spFull K) := by
  refine F.ok sc_is_full (fun vs H Q E h => ?_) (fun cdv A outer s H vs Q E hr h => ?_)
  · obtain ⟨v, o, m, x, y, rfl, _⟩ := h
    rfl
  · obtain ⟨v, o, m, wd, hg, rfl, ho, k, hm, x0, x1, y0, y1, q⟩ := h
    refine ⟨_, (pss_cons (ps_if (pt_cmpR op_isN (pv 0) pe_non (nomark _))
        (pss_one (ps_ret pe_bl))
        pss_nil)
      (pss_cons (ps_if (pt_cmpR op_ne (pe_ix (kixT K) (pv 0) pe_int (fun _ _ => rfl)) pe_str (nomark _))
        (pss_one (ps_ret pe_bl))
        pss_nil)
      (pss_one (ps_ret (pe_call D_is_full_picture.ok (hr.mono (by decide)) rfl D_is_full_picture.mgf D_is_full_picture.kp D_is_full_picture.b .nil pass0 (pa_cons (pe_ix (kixT K) (pv 0) pe_int (fun _ _ => rfl)) (pa_cons (pv 1) (pa_cons (pv 2) pa_nil)))))))), ?_⟩
    refine ⟨_, rfl, rfl, _, rfl, ?_⟩
    cases o with
    | none =>
      cases ho
      refine iteD rfl ?_
      exact q false _ (Ex.refl _) ⟨(fun z => nomatch z), fun z => nomatch z.1⟩
    | some p =>
      obtain ⟨a, xs, rfl, ha⟩ := PaV.mk ho
      refine iteN (fun z => nomatch z) ?_
      cases p with
      | solid c =>
        obtain ⟨a', e, ha⟩ := ho
        cases e
        refine ⟨_, rfl, a, _, _, _, rfl, rfl, SqT.of ha, rfl, rfl, _, rfl, ?_⟩
        refine iteWn (by decide +kernel) ?_
        exact q true _ (Ex.refl _) ⟨fun _ => ⟨rfl, fun _ _ _ _ _ _ => rfl⟩, fun _ => rfl⟩
      | steps f s z =>
        obtain ⟨a', e, ha⟩ := ho
        cases e
        refine ⟨_, rfl, a, _, _, _, rfl, rfl, SqT.of ha, rfl, rfl, _, rfl, ?_⟩
        refine iteWn (by decide +kernel) ?_
        exact q true _ (Ex.refl _) ⟨fun _ => ⟨rfl, fun _ _ _ _ _ _ => rfl⟩, fun _ => rfl⟩
      | pic p =>
        obtain ⟨a', u, e, ha, hu⟩ := ho
        cases e
        refine ⟨_, rfl, a, _, _, _, rfl, rfl, SqT.of ha, rfl, rfl, _, rfl, ?_⟩
        refine iteEn (by decide +kernel) ?_
        exact ⟨_, rfl, a, _, _, _, rfl, rfl, SqT.of ha, rfl, _, rfl, _, rfl, u, p, m, wd, hg, rfl, hu, k, hm, x0, x1, y0, y1, fun b H' e hb => q b H' e hb⟩

abbrev s_target : Stmt := top 10
theorem sc_target : FnScope ["mode", "value", "paint", "word"] ["mode", "value", "paint"] (defScope s_target) := ⟨rfl, rfl, rfl, by decide +kernel, rfl, by decide +kernel, by decide +kernel⟩
def spTarget (K : PySem.W.Frag) : Sp := fun vs H Q _ => ∃ mv m v p, vs = [mv, .int v, .int p] ∧ MdV H mv m ∧ m.Ok ∧ 0 ≤ v ∧ v ≤ 255 ∧ 0 ≤ p ∧ p ≤ 255 ∧ Q (.int (m.to v p)) H
theorem ok_target {f : Addr} {fd : FuncData} (F : Fun K "_target" "_target" s_target f fd) (T : Txt K mg) : FnOk P w K mg base CX0 1 f fd ["mode", "value", "paint"] (spTarget K) := by
  refine F.ok sc_target (fun vs H Q E h => ?_) (fun cdv A outer s H vs Q E hr h => ?_)
  · obtain ⟨mv, m, v, p, rfl, _⟩ := h
    rfl
  · obtain ⟨mv, m, v, p, rfl, ⟨a, rfl, ha⟩, km, v0, v1, p0, p1, q⟩ := h
    refine ⟨_, (pss_cons (ps_set (i := 3) sc_target.nd rfl (by first | exact Or.inl rfl | exact Or.inr rfl) (pe_ix (kixT K) (pv 0) pe_int (fun _ _ => rfl)))
      (pss_cons (ps_if (pt_cmpR op_eq (pv 3) pe_str (nomark _))
        (pss_one (ps_ret (pv 2)))
        pss_nil)
      (pss_cons (ps_if (pt_cmpR op_eq (pv 3) pe_str (nomark _))
        (pss_one (ps_ret (pe_callB (call_min2 rfl) (by rfl) T.min_ bt_min (pa_cons (pe_glob (v := .int 255) rfl T.VALUE_MOST_.choose_spec ⟨_, rfl⟩) (pa_cons (pe_op op_add (pv 1) (pv 2)) pa_nil)))))
        pss_nil)
      (pss_cons (ps_if (pt_cmpR op_eq (pv 3) pe_str (nomark _))
        (pss_one (ps_ret (pe_op op_fdiv (pe_op op_mul (pv 1) (pv 2)) (pe_glob (v := .int 255) rfl T.VALUE_MOST_.choose_spec ⟨_, rfl⟩))))
        pss_nil)
      (pss_cons (ps_if (pt_cmpR op_eq (pv 3) pe_str (nomark _))
        (pss_one (ps_ret (pe_op op_sub (pe_glob (v := .int 255) rfl T.VALUE_MOST_.choose_spec ⟨_, rfl⟩) (pv 1))))
        pss_nil)
      (pss_one (ps_ret (pe_callB (call_max2 rfl) (by rfl) T.max_ bt_max (pa_cons pe_int (pa_cons (pe_callB (call_min2 rfl) (by rfl) T.min_ bt_min (pa_cons (pe_glob (v := .int 255) rfl T.VALUE_MOST_.choose_spec ⟨_, rfl⟩) (pa_cons (pe_op op_add (pv 1) (pe_ix (kixT K) (pv 0) pe_int (fun _ _ => rfl))) pa_nil))) pa_nil)))))))))), ?_⟩
    refine ⟨_, rfl, a, _, _, _, rfl, rfl, SqT.of ha, Md.at0 _, ?_⟩
    refine ⟨_, rfl, rfl, _, rfl, ?_⟩
    cases m with
    | over => exact iteE (by decide +kernel) ⟨_, rfl, q⟩
    | add =>
      refine iteW (by decide +kernel) ?_
      refine ⟨_, rfl, rfl, _, rfl, ?_⟩
      refine iteE (by decide +kernel) ?_
      exact ⟨_, rfl, _, rfl, _, _, rfl, rfl, _, _, rfl, q⟩
    | times =>
      refine iteW (by decide +kernel) ?_
      refine ⟨_, rfl, rfl, _, rfl, ?_⟩
      refine iteW (by decide +kernel) ?_
      refine ⟨_, rfl, rfl, _, rfl, ?_⟩
      refine iteE (by decide +kernel) ?_
      exact ⟨_, rfl, _, rfl, _, _, rfl, rfl, .inl ⟨by omega, by omega⟩, _, _, rfl, rfl, ⟨by decide, by decide⟩, q⟩
    | invert =>
      refine iteW (by decide +kernel) ?_
      refine ⟨_, rfl, rfl, _, rfl, ?_⟩
      refine iteW (by decide +kernel) ?_
      refine ⟨_, rfl, rfl, _, rfl, ?_⟩
      refine iteW (by decide +kernel) ?_
      refine ⟨_, rfl, rfl, _, rfl, ?_⟩
      refine iteE (by decide +kernel) ?_
      exact ⟨_, rfl, _, _, rfl, rfl, q⟩
    | shift n =>
      refine iteW (by show Str.ofString "shift" ≠ _; decide +kernel) ?_
      refine ⟨_, rfl, rfl, _, rfl, ?_⟩
      refine iteW (by show Str.ofString "shift" ≠ _; decide +kernel) ?_
      refine ⟨_, rfl, rfl, _, rfl, ?_⟩
      refine iteW (by show Str.ofString "shift" ≠ _; decide +kernel) ?_
      refine ⟨_, rfl, rfl, _, rfl, ?_⟩
      refine iteW (by show Str.ofString "shift" ≠ _; decide +kernel) ?_
      refine ⟨_, rfl, _, rfl, a, _, _, _, rfl, rfl, SqT.of ha, rfl, _, _, rfl, rfl, _, _, rfl, _, _, rfl, q⟩

abbrev s_blended : Stmt := top 9
theorem sc_blended : FnScope ["mode", "value", "paint", "cover"] ["mode", "value", "paint", "cover"] (defScope s_blended) := ⟨rfl, rfl, rfl, by decide +kernel, rfl, by decide +kernel, by decide +kernel⟩
theorem ok_blended {f : Addr} {fd : FuncData} (F : Fun K "blended" "blended" s_blended f fd) (T : Txt K mg) (D_target : Def P w K mg base CX0 "_target" 1 ["mode", "value", "paint"] (spTarget K)) : FnOk P w K mg base CX0 2 f fd ["mode", "value", "paint", "cover"] (spBlend K Md.mix) := by
  refine F.ok sc_blended (fun vs H Q E h => ?_) (fun cdv A outer s H vs Q E hr h => ?_)
  · obtain ⟨mv, m, v, p, c, rfl, _⟩ := h
    rfl
  · obtain ⟨mv, m, v, p, c, rfl, hm, km, v0, v1, p0, p1, c0, c1, q⟩ := h
    obtain ⟨t0, t1⟩ := m.to_in v0 v1 p0 p1
    refine ⟨_, (pss_one (ps_ret (pe_op op_add (pv 1) (pe_op op_fdiv (pe_op op_mul (pe_op op_sub (pe_call D_target.ok (hr.mono (by decide)) rfl D_target.mgf D_target.kp D_target.b .nil pass0 (pa_cons (pv 0) (pa_cons (pv 1) (pa_cons (pv 2) pa_nil)))) (pv 1)) (pv 3)) (pe_glob (v := .int 256) rfl T.COVER_MOST_.choose_spec ⟨_, rfl⟩))))), ?_⟩
    refine ⟨_, rfl, _, rfl, _, rfl, _, rfl, _, m, v, p, rfl, hm, km, v0, v1, p0, p1, ?_⟩
    exact ⟨_, rfl, _, _, rfl, rfl, _, rfl, _, _, rfl, rfl, .inl ⟨by omega, by omega⟩, _, _, rfl, rfl, ⟨by decide, by decide⟩, _, _, rfl, rfl, q⟩

abbrev s_l_point : Stmt := top 18
theorem sc_l_point : FnScope ["picture", "x", "y"] ["picture", "x", "y"] (defScope s_l_point) := ⟨rfl, rfl, rfl, by decide +kernel, rfl, by decide +kernel, by decide +kernel⟩
theorem ok_l_point {f : Addr} {fd : FuncData} (F : Fun K "_law_point" "_law_point" s_l_point f fd) (T : Txt K mg) : FnOk P w K mg base CX0 1 f fd ["picture", "x", "y"] (spPoint K) := by
  refine F.ok sc_l_point (fun vs H Q E h => ?_) (fun cdv A outer s H vs Q E hr h => ?_)
  · obtain ⟨v, x, y, p, m, rfl, _⟩ := h
    rfl
  · obtain ⟨v, x, y, p, m, rfl, ⟨a, va, ca, rfl, hp, hva, hca⟩, k, m60, q⟩ := h
    refine ⟨_, (pss_cons (ps_if (PW.pt (pw_or (pt_cmpR op_lt (pv 1) pe_int (nomark _)) (pw_or (pt_cmpR op_lt (pv 2) pe_int (nomark _)) (pw_or (pt_cmpR op_ge (pv 1) (pe_ix (kixT K) (pv 0) pe_int (fun _ _ => rfl)) (nomark _)) (pw_or1 (pt_cmpR op_ge (pv 2) (pe_ix (kixT K) (pv 0) pe_int (fun _ _ => rfl)) (nomark _)))))))
        (pss_one (ps_ret (pe_tup (pa_cons pe_int (pa_cons pe_int pa_nil)))))
        pss_nil)
      (pss_one (ps_ret (pe_tup (pa_cons (pe_ix (kixT K) (pe_ix (kixT K) (pv 0) pe_int (fun _ _ => rfl)) (pe_op op_add (pe_op op_mul (pv 2) (pe_ix (kixT K) (pv 0) pe_int (fun _ _ => rfl))) (pv 1)) (fun _ _ => rfl)) (pa_cons (pe_ix (kixT K) (pe_ix (kixT K) (pv 0) pe_int (fun _ _ => rfl)) (pe_op op_add (pe_op op_mul (pv 2) (pe_ix (kixT K) (pv 0) pe_int (fun _ _ => rfl))) (pv 1)) (fun _ _ => rfl)) pa_nil)))))), ?_⟩
    have out : ¬ p.In x y → ∀ l, H l = none → Q (.ref l) (upd H l (.tup [.int 0, .int 0])) := fun no l hl => q (.ref l) _ (Ex.new hl) ⟨l, rfl, by rw [upd_same]; unfold Pc.at; rw [if_neg no]⟩
    refine ⟨_, rfl, _, _, rfl, rfl, _, rfl, ?_⟩
    refine ite2 (fun c1 => ?_) (fun c1 => ?_)
    · refine ⟨(by show 2 ≤ sizeLine; decide), fun l hl => ?_⟩
      exact out (fun z => by have z1 := of_decide_eq_true c1; have := z.1; omega) l hl
    · refine ⟨_, rfl, _, _, rfl, rfl, _, rfl, ?_⟩
      refine ite2 (fun c2 => ?_) (fun c2 => ?_)
      · refine ⟨(by show 2 ≤ sizeLine; decide), fun l hl => ?_⟩
        exact out (fun z => by have z1 := of_decide_eq_true c2; have := z.2.2.1; omega) l hl
      · refine ⟨_, rfl, _, rfl, a, _, _, _, rfl, rfl, SqT.of hp, rfl, _, _, rfl, rfl, _, rfl, ?_⟩
        refine ite2 (fun c3 => ?_) (fun c3 => ?_)
        · refine ⟨(by show 2 ≤ sizeLine; decide), fun l hl => ?_⟩
          exact out (fun z => by have z1 := of_decide_eq_true c3; have := z.2.1; omega) l hl
        · refine ⟨_, rfl, _, rfl, a, _, _, _, rfl, rfl, SqT.of hp, rfl, _, _, rfl, rfl, _, rfl, ?_⟩
          refine ite2 (fun c4 => ?_) (fun c4 => ?_)
          · refine ⟨(by show 2 ≤ sizeLine; decide), fun l hl => ?_⟩
            exact out (fun z => by have z1 := of_decide_eq_true c4; have := z.2.2.2; omega) l hl
          · have n1 : ¬ x < 0 := fun z => c1 (decide_eq_true z)
            have n2 : ¬ y < 0 := fun z => c2 (decide_eq_true z)
            have n3 : ¬ p.w ≤ x := fun z => c3 (decide_eq_true z)
            have n4 : ¬ p.h ≤ y := fun z => c4 (decide_eq_true z)
            have hin : p.In x y := ⟨by omega, by omega, by omega, by omega⟩
            obtain ⟨b0, b1⟩ := place_lt hin.1 hin.2.1 hin.2.2.1 hin.2.2.2
            refine ⟨_, rfl, a, _, _, _, rfl, rfl, SqT.of hp, rfl, ?_⟩
            refine ⟨_, rfl, _, rfl, a, _, _, _, rfl, rfl, SqT.of hp, rfl, _, _, rfl, rfl, .inr ⟨by have := k.w1; omega, by have := k.w2; omega⟩, _, rfl, _, _, rfl, rfl, ?_⟩
            refine ⟨va, _, _, _, rfl, rfl, SqT.of hva, atD b0 (by rw [k.vl]; exact b1), ?_⟩
            refine ⟨_, rfl, a, _, _, _, rfl, rfl, SqT.of hp, rfl, ?_⟩
            refine ⟨_, rfl, _, rfl, a, _, _, _, rfl, rfl, SqT.of hp, rfl, _, _, rfl, rfl, .inr ⟨by have := k.w1; omega, by have := k.w2; omega⟩, _, rfl, _, _, rfl, rfl, ?_⟩
            refine ⟨ca, _, _, _, rfl, rfl, SqT.of hca, atD b0 (by rw [k.cl]; exact b1), ?_⟩
            refine ⟨(by show 2 ≤ sizeLine; decide), fun l hl => ?_⟩
            exact q (.ref l) _ (Ex.new hl) ⟨l, rfl, by rw [upd_same]; unfold Pc.at; rw [if_pos hin]⟩

abbrev s_l_at : Stmt := top 19
theorem sc_l_at : FnScope ["paint", "x", "y", "odd"] ["paint", "x", "y"] (defScope s_l_at) := ⟨rfl, rfl, rfl, by decide +kernel, rfl, by decide +kernel, by decide +kernel⟩
theorem ok_l_at {f : Addr} {fd : FuncData} (F : Fun K "_law_at" "_law_at" s_l_at f fd) (T : Txt K mg) (D_l_point : Def P w K mg base CX0 "_law_point" 1 ["picture", "x", "y"] (spPoint K)) : FnOk P w K mg base CX0 2 f fd ["paint", "x", "y"] (spAt K) := by
  refine F.ok sc_l_at (fun vs H Q E h => ?_) (fun cdv A outer s H vs Q E hr h => ?_)
  · obtain ⟨v, o, m, x, y, rfl, _⟩ := h
    rfl
  · obtain ⟨v, o, m, x, y, rfl, ho, k, hm, x0, x1, y0, y1, q⟩ := h
    refine ⟨_, (pss_cons (ps_if (pt_cmpR op_isN (pv 0) pe_non (nomark _))
        (pss_one (ps_ret (pe_tup (pa_cons pe_int (pa_cons pe_int pa_nil)))))
        pss_nil)
      (pss_cons (ps_if (pt_cmpR op_eq (pe_ix (kixT K) (pv 0) pe_int (fun _ _ => rfl)) pe_str (nomark _))
        (pss_one (ps_ret (pe_tup (pa_cons (pe_ix (kixT K) (pv 0) pe_int (fun _ _ => rfl)) (pa_cons pe_int pa_nil)))))
        pss_nil)
      (pss_cons (ps_if (pt_cmpR op_eq (pe_ix (kixT K) (pv 0) pe_int (fun _ _ => rfl)) pe_str (nomark _))
        (pss_one (ps_ret (pe_call D_l_point.ok (hr.mono (by decide)) rfl D_l_point.mgf D_l_point.kp D_l_point.b .nil pass0 (pa_cons (pe_ix (kixT K) (pv 0) pe_int (fun _ _ => rfl)) (pa_cons (pv 1) (pa_cons (pv 2) pa_nil))))))
        pss_nil)
      (pss_cons (ps_set (i := 3) sc_l_at.nd rfl (by first | exact Or.inl rfl | exact Or.inr rfl) (pe_op op_mod (pe_callTy call_int1 (by rfl) T.int_ bt_int (pa_cons (pe_op op_add (pe_op op_fdiv (pv 1) (pe_ix (kixT K) (pv 0) pe_int (fun _ _ => rfl))) (pe_op op_fdiv (pv 2) (pe_ix (kixT K) (pv 0) pe_int (fun _ _ => rfl)))) pa_nil)) pe_int))
      (pss_one (ps_ret (pe_tup (pa_cons (pe_ix (kixL K) (pe_lst (pa_cons (pe_ix (kixT K) (pv 0) pe_int (fun _ _ => rfl)) (pa_cons (pe_ix (kixT K) (pv 0) pe_int (fun _ _ => rfl)) pa_nil))) (pv 3) (fun _ _ => rfl)) (pa_cons pe_int pa_nil))))))))), ?_⟩
    refine ⟨_, rfl, rfl, _, rfl, ?_⟩
    cases o with
    | none =>
      cases ho
      refine iteD rfl ?_
      refine ⟨(by show 2 ≤ sizeLine; decide), fun l hl => ?_⟩
      exact q _ _ (Ex.new hl) ⟨l, rfl, upd_same⟩
    | some p =>
      obtain ⟨a, xs, rfl, ha⟩ := PaV.mk ho
      refine iteN (fun z => nomatch z) ?_
      cases p with
      | solid c =>
        obtain ⟨a', e, ha⟩ := ho
        cases e
        refine ⟨_, rfl, a, _, _, _, rfl, rfl, SqT.of ha, rfl, rfl, _, rfl, ?_⟩
        refine iteE (by decide +kernel) ?_
        refine ⟨_, rfl, a, _, _, _, rfl, rfl, SqT.of ha, rfl, ?_⟩
        refine ⟨(by show 2 ≤ sizeLine; decide), fun l hl => ?_⟩
        exact q _ _ (Ex.new hl) ⟨l, rfl, upd_same⟩
      | pic p =>
        obtain ⟨a', u, e, ha, hu⟩ := ho
        cases e
        refine ⟨_, rfl, a, _, _, _, rfl, rfl, SqT.of ha, rfl, rfl, _, rfl, ?_⟩
        refine iteW (by decide +kernel) ?_
        refine ⟨_, rfl, a, _, _, _, rfl, rfl, SqT.of ha, rfl, rfl, _, rfl, ?_⟩
        refine iteE (by decide +kernel) ?_
        exact ⟨_, rfl, a, _, _, _, rfl, rfl, SqT.of ha, rfl, _, rfl, _, rfl, u, x, y, p, m, rfl, hu, k, hm, fun u H' e hu => q u H' e hu⟩
      | steps f s z =>
        obtain ⟨a', e, ha⟩ := ho
        cases e
        obtain ⟨f0, f1, s0, s1, z0, z1⟩ := k
        refine ⟨_, rfl, a, _, _, _, rfl, rfl, SqT.of ha, rfl, rfl, _, rfl, ?_⟩
        refine iteW (by decide +kernel) ?_
        refine ⟨_, rfl, a, _, _, _, rfl, rfl, SqT.of ha, rfl, rfl, _, rfl, ?_⟩
        refine iteW (by decide +kernel) ?_
        refine ⟨_, rfl, _, rfl, a, _, _, _, rfl, rfl, SqT.of ha, rfl, _, _, rfl, rfl, ⟨by omega, by omega⟩, ?_⟩
        refine ⟨_, rfl, _, rfl, a, _, _, _, rfl, rfl, SqT.of ha, rfl, _, _, rfl, rfl, ⟨by omega, by omega⟩, _, _, rfl, rfl, .inl ⟨_, rfl, ?_⟩⟩
        refine ⟨_, _, rfl, rfl, (by show (0 : Int) < 2; decide), ?_⟩
        unfold opAt Pa.at at q
        dsimp only at q
        refine ⟨_, rfl, a, _, _, _, rfl, rfl, SqT.of ha, rfl, ?_⟩
        refine ⟨_, rfl, a, _, _, _, rfl, rfl, SqT.of ha, rfl, ?_⟩
        refine ⟨(by show 2 ≤ sizeLine; decide), fun l hl => ?_⟩
        have e1 := Ex.new (o := .lst [.int f, .int s]) hl
        by_cases c : (x / z + y / z) % 2 = 0
        · rw [if_pos c] at q
          refine ⟨_, rfl, l, _, _, .int f, rfl, rfl, SqL.of upd_same, by rw [c]; rfl, ?_⟩
          refine ⟨(by show 2 ≤ sizeLine; decide), fun l2 hl2 => ?_⟩
          exact q _ _ (e1.trans (Ex.new hl2)) ⟨l2, rfl, upd_same⟩
        · rw [if_neg c] at q
          have c1 : (x / z + y / z) % 2 = 1 := by omega
          refine ⟨_, rfl, l, _, _, .int s, rfl, rfl, SqL.of upd_same, by rw [c1]; rfl, ?_⟩
          refine ⟨(by show 2 ≤ sizeLine; decide), fun l2 hl2 => ?_⟩
          exact q _ _ (e1.trans (Ex.new hl2)) ⟨l2, rfl, upd_same⟩

abbrev s_l_blended : Stmt := top 20
theorem sc_l_blended : FnScope ["mode", "value", "paint", "cover", "goal"] ["mode", "value", "paint", "cover"] (defScope s_l_blended) := ⟨rfl, rfl, rfl, by decide +kernel, rfl, by decide +kernel, by decide +kernel⟩
def Md.st (m : Md) (k : Nat) (v p : Int) : Int := match m, k with
  | .over, _ => p
  | .add, _ => lo255 (v + p)
  | .times, 0 => p
  | .times, 1 => p
  | .times, _ => v * p / 255
  | .invert, 0 => p
  | .invert, 1 => p
  | .invert, 2 => p
  | .invert, _ => 255 - v
  | .shift _, 0 => p
  | .shift _, 1 => p
  | .shift _, 2 => p
  | .shift _, 3 => p
  | .shift n, _ => hi0 (lo255 (v + n))
theorem ok_l_blended {f : Addr} {fd : FuncData} (F : Fun K "_law_blended" "_law_blended" s_l_blended f fd) (T : Txt K mg) : FnOk P w K mg base CX0 1 f fd ["mode", "value", "paint", "cover"] (spBlend K Md.mix) := by
  refine F.ok sc_l_blended (fun vs H Q E h => ?_) (fun cdv A outer s H vs Q E hr h => ?_)
  · obtain ⟨mv, m, v, p, c, rfl, _⟩ := h
    rfl
  · obtain ⟨mv, m, v, p, c, rfl, ⟨a, rfl, ha⟩, km, v0, v1, p0, p1, c0, c1, q⟩ := h
    obtain ⟨t0, t1⟩ := m.to_in v0 v1 p0 p1
    refine ⟨_, (pss_cons (ps_set (i := 4) sc_l_blended.nd rfl (by first | exact Or.inl rfl | exact Or.inr rfl) (pv 2))
      (pss_cut (ps_if (pt_cmpR op_eq (pe_ix (kixT K) (pv 0) pe_int (fun _ _ => rfl)) pe_str (nomark _))
        (pss_one (ps_set (i := 4) sc_l_blended.nd rfl (by first | exact Or.inl rfl | exact Or.inr rfl) (pe_callB (call_min2 rfl) (by rfl) T.min_ bt_min (pa_cons pe_int (pa_cons (pe_op op_add (pv 1) (pv 2)) pa_nil)))))
        pss_nil)
      (pss_cut (ps_if (pt_cmpR op_eq (pe_ix (kixT K) (pv 0) pe_int (fun _ _ => rfl)) pe_str (nomark _))
        (pss_one (ps_set (i := 4) sc_l_blended.nd rfl (by first | exact Or.inl rfl | exact Or.inr rfl) (pe_op op_fdiv (pe_op op_mul (pv 1) (pv 2)) pe_int)))
        pss_nil)
      (pss_cut (ps_if (pt_cmpR op_eq (pe_ix (kixT K) (pv 0) pe_int (fun _ _ => rfl)) pe_str (nomark _))
        (pss_one (ps_set (i := 4) sc_l_blended.nd rfl (by first | exact Or.inl rfl | exact Or.inr rfl) (pe_op op_sub pe_int (pv 1))))
        pss_nil)
      (pss_cut (ps_if (pt_cmpR op_eq (pe_ix (kixT K) (pv 0) pe_int (fun _ _ => rfl)) pe_str (nomark _))
        (pss_one (ps_set (i := 4) sc_l_blended.nd rfl (by first | exact Or.inl rfl | exact Or.inr rfl) (pe_callB (call_max2 rfl) (by rfl) T.max_ bt_max (pa_cons pe_int (pa_cons (pe_callB (call_min2 rfl) (by rfl) T.min_ bt_min (pa_cons pe_int (pa_cons (pe_op op_add (pv 1) (pe_ix (kixT K) (pv 0) pe_int (fun _ _ => rfl))) pa_nil))) pa_nil)))))
        pss_nil)
      (pss_one (ps_ret (pe_op op_fdiv (pe_op op_add (pe_op op_mul pe_int (pv 1)) (pe_op op_mul (pe_op op_sub (pv 4) (pv 1)) (pv 3))) pe_int)))))))), ?_⟩
    refine ⟨_, rfl, ?_⟩
    refine ⟨fun σ H' => σ = [some (.ref a), some (.int v), some (.int p), some (.int c), some (.int (m.st 1 v p))] ∧ H = H', ?_, ?_⟩
    · refine ⟨_, rfl, a, _, _, _, rfl, rfl, SqT.of ha, Md.at0 _, rfl, _, rfl, ?_⟩
      cases m with
      | add => exact iteE (by decide +kernel) ⟨_, rfl, _, rfl, _, _, rfl, rfl, _, _, rfl, rfl, rfl⟩
      | shift _ => exact iteW (by show Str.ofString "shift" ≠ _; decide +kernel) ⟨rfl, rfl⟩
      | _ => exact iteW (by decide +kernel) ⟨rfl, rfl⟩
    rintro σ H' ⟨rfl, rfl⟩
    refine ⟨fun σ H' => σ = [some (.ref a), some (.int v), some (.int p), some (.int c), some (.int (m.st 2 v p))] ∧ H = H', ?_, ?_⟩
    · refine ⟨_, rfl, a, _, _, _, rfl, rfl, SqT.of ha, Md.at0 _, rfl, _, rfl, ?_⟩
      cases m with
      | times => exact iteE (by decide +kernel) ⟨_, rfl, _, rfl, _, _, rfl, rfl, .inl ⟨by omega, by omega⟩, _, _, rfl, rfl, ⟨by decide, by decide⟩, rfl, rfl⟩
      | shift _ => exact iteW (by show Str.ofString "shift" ≠ _; decide +kernel) ⟨rfl, rfl⟩
      | _ => exact iteW (by decide +kernel) ⟨rfl, rfl⟩
    rintro σ H' ⟨rfl, rfl⟩
    refine ⟨fun σ H' => σ = [some (.ref a), some (.int v), some (.int p), some (.int c), some (.int (m.st 3 v p))] ∧ H = H', ?_, ?_⟩
    · refine ⟨_, rfl, a, _, _, _, rfl, rfl, SqT.of ha, Md.at0 _, rfl, _, rfl, ?_⟩
      cases m with
      | invert => exact iteE (by decide +kernel) ⟨_, rfl, _, _, rfl, rfl, rfl, rfl⟩
      | shift _ => exact iteW (by show Str.ofString "shift" ≠ _; decide +kernel) ⟨rfl, rfl⟩
      | _ => exact iteW (by decide +kernel) ⟨rfl, rfl⟩
    rintro σ H' ⟨rfl, rfl⟩
    refine ⟨fun σ H' => σ = [some (.ref a), some (.int v), some (.int p), some (.int c), some (.int (m.to v p))] ∧ H = H', ?_, ?_⟩
    · refine ⟨_, rfl, a, _, _, _, rfl, rfl, SqT.of ha, Md.at0 _, rfl, _, rfl, ?_⟩
      cases m with
      | shift n => exact iteE (by show Str.ofString "shift" = _; decide +kernel) ⟨_, rfl, _, rfl, a, _, _, _, rfl, rfl, SqT.of ha, rfl, _, _, rfl, rfl, _, _, rfl, _, _, rfl, rfl, rfl⟩
      | _ => exact iteW (by decide +kernel) ⟨rfl, rfl⟩
    rintro σ H' ⟨rfl, rfl⟩
    refine ⟨_, rfl, _, _, rfl, rfl, .inl ⟨by decide, by decide⟩, _, rfl, _, rfl, _, _, rfl, rfl, _, rfl, _, _, rfl, rfl, .inl ⟨by omega, by omega⟩, _, _, rfl, rfl, _, _, rfl, rfl, ⟨by decide, by decide⟩, ?_⟩
    have e := mix_eq v (m.to v p) c
    unfold Md.mix at q
    rw [e] at q
    exact q

abbrev s_l_layer : Stmt := top 21
theorem sc_l_layer : FnScope ["deck", "modes", "mode", "paint"] ["deck"] (defScope s_l_layer) := ⟨rfl, rfl, rfl, by decide +kernel, rfl, by decide +kernel, by decide +kernel⟩
def spLayer (K : PySem.W.Frag) : Sp := fun vs H Q _ => ∃ a, vs = [.ref a] ∧ DeckAt K H a ∧ ∀ v l H', Ex H H' → LyV H' v l → l.Ok → Q v H'
theorem ok_l_layer {f : Addr} {fd : FuncData} (F : Fun K "_law_layer" "_law_layer" s_l_layer f fd) (T : Txt K mg) (D_l_draw : Def P w K mg base CX0 "_law_draw" 1 ["deck", "bound"] (spDraw K))
    (D_l_cover : Def P w K mg base CX0 "_law_cover" 2 ["deck"] (spDrawn K 256)) (D_l_paint : Def P w K mg base CX0 "_law_paint" 4 ["deck", "most"] (spPaint K)) : FnOk P w K mg base CX0 5 f fd ["deck"] (spLayer K) := by
  refine F.ok sc_l_layer (fun vs H Q E h => ?_) (fun cdv A outer s H vs Q E hr h => ?_)
  · obtain ⟨a, rfl, _⟩ := h
    rfl
  · obtain ⟨a, rfl, hd, q⟩ := h
    refine ⟨_, (pss_cons (ps_set (i := 1) sc_l_layer.nd rfl (by first | exact Or.inl rfl | exact Or.inr rfl) (pe_lst (pa_cons (pe_tup (pa_cons pe_str pa_nil)) (pa_cons (pe_tup (pa_cons pe_str pa_nil)) (pa_cons (pe_tup (pa_cons pe_str pa_nil)) (pa_cons (pe_tup (pa_cons pe_str pa_nil)) (pa_cons (pe_tup (pa_cons pe_str pa_nil)) (pa_cons (pe_tup (pa_cons pe_str pa_nil)) (pa_cons (pe_tup (pa_cons pe_str (pa_cons (pe_op op_sub (pe_call D_l_draw.ok (hr.mono (by decide)) rfl D_l_draw.mgf D_l_draw.kp D_l_draw.b .nil pass0 (pa_cons (pv 0) (pa_cons pe_int pa_nil))) pe_int) pa_nil))) pa_nil)))))))))
      (pss_cons (ps_set (i := 2) sc_l_layer.nd rfl (by first | exact Or.inl rfl | exact Or.inr rfl) (pe_ix (kixL K) (pv 1) (pe_call D_l_draw.ok (hr.mono (by decide)) rfl D_l_draw.mgf D_l_draw.kp D_l_draw.b .nil pass0 (pa_cons (pv 0) (pa_cons pe_int pa_nil))) (fun _ _ => rfl)))
      (pss_cons (ps_set (i := 3) sc_l_layer.nd rfl (by first | exact Or.inl rfl | exact Or.inr rfl) pe_non)
      (pss_cut (ps_if (PW.pt (pw_and (pt_cmpR op_ne (pe_ix (kixT K) (pv 2) pe_int (fun _ _ => rfl)) pe_str (nomark _)) (pw_and1 (pt_cmpR op_ne (pe_ix (kixT K) (pv 2) pe_int (fun _ _ => rfl)) pe_str (nomark _)))))
        (pss_one (ps_set (i := 3) sc_l_layer.nd rfl (by first | exact Or.inl rfl | exact Or.inr rfl) (pe_call D_l_paint.ok (hr.mono (by decide)) rfl D_l_paint.mgf D_l_paint.kp D_l_paint.b .nil pass0 (pa_cons (pv 0) (pa_cons pe_int pa_nil)))))
        pss_nil)
      (pss_one (ps_ret (pe_tup (pa_cons (pv 2) (pa_cons (pe_call D_l_cover.ok (hr.mono (by decide)) rfl D_l_cover.mgf D_l_cover.kp D_l_cover.b .nil pass0 (pa_cons (pv 0) pa_nil)) (pa_cons (pv 3) pa_nil)))))))))), ?_⟩
    refine ⟨(by show 1 ≤ sizeLine; decide), fun u1 h1 => ?_⟩
    have e1 := Ex.new (o := .tup [.str "over"]) h1
    have k1 : upd H u1 (.tup [.str "over"]) u1 = some (.tup [.str "over"]) := upd_same
    generalize upd H u1 (.tup [.str "over"]) = G1 at e1 k1 ⊢
    refine ⟨(by show 1 ≤ sizeLine; decide), fun u2 h2 => ?_⟩
    have e2 := Ex.new (o := .tup [.str "over"]) h2
    have k2 : upd G1 u2 (.tup [.str "over"]) u2 = some (.tup [.str "over"]) := upd_same
    generalize upd G1 u2 (.tup [.str "over"]) = G2 at e2 k2 ⊢
    refine ⟨(by show 1 ≤ sizeLine; decide), fun u3 h3 => ?_⟩
    have e3 := Ex.new (o := .tup [.str "over"]) h3
    have k3 : upd G2 u3 (.tup [.str "over"]) u3 = some (.tup [.str "over"]) := upd_same
    generalize upd G2 u3 (.tup [.str "over"]) = G3 at e3 k3 ⊢
    refine ⟨(by show 1 ≤ sizeLine; decide), fun u4 h4 => ?_⟩
    have e4 := Ex.new (o := .tup [.str "add"]) h4
    have k4 : upd G3 u4 (.tup [.str "add"]) u4 = some (.tup [.str "add"]) := upd_same
    generalize upd G3 u4 (.tup [.str "add"]) = G4 at e4 k4 ⊢
    refine ⟨(by show 1 ≤ sizeLine; decide), fun u5 h5 => ?_⟩
    have e5 := Ex.new (o := .tup [.str "times"]) h5
    have k5 : upd G4 u5 (.tup [.str "times"]) u5 = some (.tup [.str "times"]) := upd_same
    generalize upd G4 u5 (.tup [.str "times"]) = G5 at e5 k5 ⊢
    refine ⟨(by show 1 ≤ sizeLine; decide), fun u6 h6 => ?_⟩
    have e6 := Ex.new (o := .tup [.str "invert"]) h6
    have k6 : upd G5 u6 (.tup [.str "invert"]) u6 = some (.tup [.str "invert"]) := upd_same
    generalize upd G5 u6 (.tup [.str "invert"]) = G6 at e6 k6 ⊢
    have e16 := ((((e1.trans e2).trans e3).trans e4).trans e5).trans e6
    refine ⟨_, rfl, a, 511, rfl, hd.mono e16, by decide, by decide, fun n n0 n1 => ?_⟩
    refine ⟨_, _, rfl, rfl, ?_⟩
    refine ⟨(by show 2 ≤ sizeLine; decide), fun u7 h7 => ?_⟩
    have e7 := Ex.new (o := .tup [.str "shift", .int (n - 255)]) h7
    have k7 : upd G6 u7 (.tup [.str "shift", .int (n - 255)]) u7 = some (.tup [.str "shift", .int (n - 255)]) := upd_same
    generalize upd G6 u7 (.tup [.str "shift", .int (n - 255)]) = G7 at e7 k7 ⊢
    refine ⟨(by show 7 ≤ sizeLine; decide), fun l hl => ?_⟩
    have e8 := Ex.new (o := .lst [.ref u1, .ref u2, .ref u3, .ref u4, .ref u5, .ref u6, .ref u7]) hl
    have k8 : upd G7 l (.lst [.ref u1, .ref u2, .ref u3, .ref u4, .ref u5, .ref u6, .ref u7]) l = some (.lst [.ref u1, .ref u2, .ref u3, .ref u4, .ref u5, .ref u6, .ref u7]) := upd_same
    generalize upd G7 l (.lst [.ref u1, .ref u2, .ref u3, .ref u4, .ref u5, .ref u6, .ref u7]) = G8 at e8 k8 ⊢
    have e78 := e7.trans e8
    have e18 := e16.trans e78
    refine ⟨_, rfl, _, rfl, a, 7, rfl, hd.mono e18, by decide, by decide, fun i i0 i1 => ?_⟩
    obtain ⟨x, hx, ex⟩ := pickV (xs := [.ref u1, .ref u2, .ref u3, .ref u4, .ref u5, .ref u6, .ref u7]) i0 i1
    refine ⟨l, _, i, _, rfl, rfl, SqL.of k8, ex, ?_⟩
    have hm : ∃ m : Md, m.Ok ∧ MdV G8 x m := by
      simp only [List.mem_cons, List.not_mem_nil, or_false] at hx
      rcases hx with rfl | rfl | rfl | rfl | rfl | rfl | rfl
      · exact ⟨.over, trivial, _, rfl, (((((e2.trans e3).trans e4).trans e5).trans e6).trans e78) _ _ k1⟩
      · exact ⟨.over, trivial, _, rfl, ((((e3.trans e4).trans e5).trans e6).trans e78) _ _ k2⟩
      · exact ⟨.over, trivial, _, rfl, (((e4.trans e5).trans e6).trans e78) _ _ k3⟩
      · exact ⟨.add, trivial, _, rfl, ((e5.trans e6).trans e78) _ _ k4⟩
      · exact ⟨.times, trivial, _, rfl, (e6.trans e78) _ _ k5⟩
      · exact ⟨.invert, trivial, _, rfl, e78 _ _ k6⟩
      · exact ⟨.shift (n - 255), ⟨by omega, by omega⟩, _, rfl, e8 _ _ k7⟩
    clear ex hx
    obtain ⟨m, km, hm⟩ := hm
    obtain ⟨ma, rfl, hma⟩ := id hm
    refine ⟨fun σ H' => ∃ (u : V) (o : Option Pa), σ = [some (.ref a), some (.ref l), some (.ref ma), some u] ∧ OpV H' u o ∧ opOk 8 o ∧ Ex G8 H', ?_, ?_⟩
    · have skip : ∃ (u : V) (o : Option Pa), [some (.ref a), some (.ref l), some (.ref ma), some .non] = [some (.ref a), some (.ref l), some (.ref ma), some u] ∧ OpV G8 u o ∧ opOk 8 o ∧ Ex G8 G8 := ⟨.non, none, rfl, rfl, trivial, Ex.refl _⟩
      refine ⟨_, rfl, ma, _, _, _, rfl, rfl, SqT.of hma, Md.at0 _, rfl, _, rfl, ?_⟩
      by_cases wi : m.word = "invert"
      · refine iteEn wi ?_
        exact skip
      · refine iteWn wi ?_
        refine ⟨_, rfl, ma, _, _, _, rfl, rfl, SqT.of hma, Md.at0 _, rfl, _, rfl, ?_⟩
        by_cases ws : m.word = "shift"
        · refine iteEn ws ?_
          exact skip
        · refine iteWn ws ?_
          refine ⟨_, rfl, a, 8, rfl, hd.mono e18, by decide, by decide, fun v p H' e' hp kp => ?_⟩
          exact ⟨v, some p, rfl, hp, kp, e'⟩
    rintro σ H9 ⟨u, o, rfl, ho, ko, e9⟩
    refine ⟨_, rfl, _, rfl, a, rfl, (hd.mono e18).mono e9, fun c H10 e10 c0 c1 => ?_⟩
    refine ⟨_, rfl, (by show 3 ≤ sizeLine; decide), fun t ht => ?_⟩
    have e11 := Ex.new (o := .tup [.ref ma, .int c, u]) ht
    exact q _ ⟨m, c, o⟩ _ (((e18.trans e9).trans e10).trans e11) ⟨t, .ref ma, u, rfl, upd_same, ((hm.ex e9).ex e10).ex e11, (ho.tk (TK.ex e10)).tk (TK.ex e11)⟩ ⟨km, c0, c1, ko⟩

abbrev s_l_put : Stmt := top 22
theorem sc_l_put : FnScope ["layers", "background", "x", "y", "value", "mode", "level", "paint", "told", "cover"] ["layers", "background", "x", "y"] (defScope s_l_put) := ⟨rfl, rfl, rfl, by decide +kernel, rfl, by decide +kernel, by decide +kernel⟩
theorem ok_l_put {f : Addr} {fd : FuncData} (F : Fun K "_law_put" "_law_put" s_l_put f fd) (T : Txt K mg) (D_paint_at : Def P w K mg base CX0 "paint_at" 2 ["paint", "x", "y"] (spAt K)) (D_blended : Def P w K mg base CX0 "blended" 2 ["mode", "value", "paint", "cover"] (spBlend K Md.mix)) : FnOk P w K mg base CX0 3 f fd ["layers", "background", "x", "y"] (spPut K) := by
  refine F.ok sc_l_put (fun vs H Q E h => ?_) (fun cdv A outer s H vs Q E hr h => ?_)
  · obtain ⟨a, us, ls, b, x, y, rfl, _⟩ := h
    rfl
  · obtain ⟨a, us, ls, b, x, y, rfl, ha, hL, kL, b0, b1, x0, x1, y0, y1, q⟩ := h
    refine ⟨_, (pss_cons (ps_set (i := 4) sc_l_put.nd rfl (by first | exact Or.inl rfl | exact Or.inr rfl) (pv 1))
      (pss_cons (ps_for PassesOwn.never rfl (kpiL K (pv 0)) (kpgT K (n := 3) rfl (pgs_cons (pg_name (i := 5) sc_l_put.nd rfl (by first | exact Or.inl rfl | exact Or.inr rfl)) (pgs_cons (pg_name (i := 6) sc_l_put.nd rfl (by first | exact Or.inl rfl | exact Or.inr rfl)) (pgs_cons (pg_name (i := 7) sc_l_put.nd rfl (by first | exact Or.inl rfl | exact Or.inr rfl)) pgs_nil))))
        (pss_cons (ps_asg (pe_call D_paint_at.ok (hr.mono (by decide)) rfl D_paint_at.mgf D_paint_at.kp D_paint_at.b .nil pass0 (pa_cons (pv 7) (pa_cons (pv 2) (pa_cons (pv 3) pa_nil)))) (kpgT K (n := 2) rfl (pgs_cons (pg_name (i := 8) sc_l_put.nd rfl (by first | exact Or.inl rfl | exact Or.inr rfl)) (pgs_cons (pg_name (i := 9) sc_l_put.nd rfl (by first | exact Or.inl rfl | exact Or.inr rfl)) pgs_nil))))
        (pss_one (ps_set (i := 4) sc_l_put.nd rfl (by first | exact Or.inl rfl | exact Or.inr rfl) (pe_call D_blended.ok (hr.mono (by decide)) rfl D_blended.mgf D_blended.kp D_blended.b .nil pass0 (pa_cons (pv 5) (pa_cons (pv 4) (pa_cons (pv 8) (pa_cons (pe_op op_fdiv (pe_op op_mul (pv 9) (pv 6)) pe_int) pa_nil)))))))))
      (pss_one (ps_ret (pv 4))))), ?_⟩
    refine ⟨_, rfl, ?_⟩
    have hlen := hL.length
    refine ⟨_, rfl, a, rfl, ⟨_, SqL.of ha⟩, for_list (K := K) (a := a) (xs := us) (fun i σ H' => Ex H H' ∧ ∃ v5 v6 v7 v8 v9, σ = [some (.ref a), some (.int b), some (.int x), some (.int y), some (.int (put (ls.take i) b x y)), v5, v6, v7, v8, v9]) ⟨Ex.refl _, _, _, _, _, _, rfl⟩ (fun i σ H' _ p => SqL.of (p.1 _ _ ha)) ?_ ?_⟩
    · rintro i u σ H' hu ⟨e, v5, v6, v7, v8, v9, rfl⟩
      obtain ⟨l, hl, hly⟩ := pr_get hL hu
      obtain ⟨la, mv, pv, rfl, hla, hm, hp⟩ := hly
      have kl := kL l (List.mem_of_getElem? hl)
      refine ⟨la, _, rfl, SqT.of (e _ _ hla), rfl, _, _, rfl, _, _, rfl, _, _, rfl, rfl, ?_⟩
      refine ⟨_, rfl, _, rfl, _, rfl, _, l.pa, 8, _, _, rfl, hp.tk (TK.ex e), kl.pa, by decide, x0, x1, y0, y1, fun u1 H2 e2 hu1 => ?_⟩
      obtain ⟨ua, rfl, hua⟩ := hu1
      refine ⟨ua, _, rfl, SqT.of hua, rfl, _, _, rfl, _, _, rfl, rfl, ?_⟩
      obtain ⟨o0, o1, o2, o3⟩ := opAt_in kl.pa x y
      obtain ⟨c0, c1⟩ := cov_in o2 o3 kl.l0 kl.l1
      obtain ⟨p0, p1⟩ := put_in (ls := ls.take i) (x := x) (y := y) (b := b) (fun m hm => kL m (List.mem_of_mem_take hm)) b0 b1
      have l0 := kl.l0
      have l1 := kl.l1
      refine ⟨_, rfl, _, rfl, _, rfl, _, rfl, _, rfl, _, _, rfl, rfl, .inl ⟨by omega, by omega⟩, _, _, rfl, rfl, ⟨by decide, by decide⟩, ?_⟩
      refine ⟨_, l.m, _, _, _, rfl, (hm.ex e).ex e2, kl.m, p0, p1, o0, o1, c0, c1, ?_⟩
      refine ⟨e.trans e2, some mv, some (.int l.lv), some pv, some (.int (opAt l.pa x y).1), some (.int (opAt l.pa x y).2), ?_⟩
      rw [put_snoc hl]
      rfl
    · rintro σ H' ⟨e, v5, v6, v7, v8, v9, rfl⟩
      refine ⟨_, rfl, ?_⟩
      have q := q H' e
      rw [← List.take_length (l := ls), ← hlen] at q
      exact q

abbrev s_l_meant : Stmt := top 23
theorem sc_l_meant : FnScope ["layers", "background", "x", "y", "value", "mode", "level", "paint", "told", "cover"] ["layers", "background", "x", "y"] (defScope s_l_meant) := ⟨rfl, rfl, rfl, by decide +kernel, rfl, by decide +kernel, by decide +kernel⟩
theorem ok_l_meant {f : Addr} {fd : FuncData} (F : Fun K "_law_meant" "_law_meant" s_l_meant f fd) (T : Txt K mg) (D_l_at : Def P w K mg base CX0 "_law_at" 2 ["paint", "x", "y"] (spAt K)) (D_l_blended : Def P w K mg base CX0 "_law_blended" 1 ["mode", "value", "paint", "cover"] (spBlend K Md.mix)) : FnOk P w K mg base CX0 3 f fd ["layers", "background", "x", "y"] (spPut K) := by
  refine F.ok sc_l_meant (fun vs H Q E h => ?_) (fun cdv A outer s H vs Q E hr h => ?_)
  · obtain ⟨a, us, ls, b, x, y, rfl, _⟩ := h
    rfl
  · obtain ⟨a, us, ls, b, x, y, rfl, ha, hL, kL, b0, b1, x0, x1, y0, y1, q⟩ := h
    refine ⟨_, (pss_cons (ps_set (i := 4) sc_l_meant.nd rfl (by first | exact Or.inl rfl | exact Or.inr rfl) (pv 1))
      (pss_cons (ps_for PassesOwn.never rfl (kpiL K (pv 0)) (kpgT K (n := 3) rfl (pgs_cons (pg_name (i := 5) sc_l_meant.nd rfl (by first | exact Or.inl rfl | exact Or.inr rfl)) (pgs_cons (pg_name (i := 6) sc_l_meant.nd rfl (by first | exact Or.inl rfl | exact Or.inr rfl)) (pgs_cons (pg_name (i := 7) sc_l_meant.nd rfl (by first | exact Or.inl rfl | exact Or.inr rfl)) pgs_nil))))
        (pss_cons (ps_asg (pe_call D_l_at.ok (hr.mono (by decide)) rfl D_l_at.mgf D_l_at.kp D_l_at.b .nil pass0 (pa_cons (pv 7) (pa_cons (pv 2) (pa_cons (pv 3) pa_nil)))) (kpgT K (n := 2) rfl (pgs_cons (pg_name (i := 8) sc_l_meant.nd rfl (by first | exact Or.inl rfl | exact Or.inr rfl)) (pgs_cons (pg_name (i := 9) sc_l_meant.nd rfl (by first | exact Or.inl rfl | exact Or.inr rfl)) pgs_nil))))
        (pss_one (ps_set (i := 4) sc_l_meant.nd rfl (by first | exact Or.inl rfl | exact Or.inr rfl) (pe_call D_l_blended.ok (hr.mono (by decide)) rfl D_l_blended.mgf D_l_blended.kp D_l_blended.b .nil pass0 (pa_cons (pv 5) (pa_cons (pv 4) (pa_cons (pv 8) (pa_cons (pe_op op_fdiv (pe_op op_mul (pv 9) (pv 6)) pe_int) pa_nil)))))))))
      (pss_one (ps_ret (pv 4))))), ?_⟩
    refine ⟨_, rfl, ?_⟩
    have hlen := hL.length
    refine ⟨_, rfl, a, rfl, ⟨_, SqL.of ha⟩, for_list (K := K) (a := a) (xs := us) (fun i σ H' => Ex H H' ∧ ∃ v5 v6 v7 v8 v9, σ = [some (.ref a), some (.int b), some (.int x), some (.int y), some (.int (put (ls.take i) b x y)), v5, v6, v7, v8, v9]) ⟨Ex.refl _, _, _, _, _, _, rfl⟩ (fun i σ H' _ p => SqL.of (p.1 _ _ ha)) ?_ ?_⟩
    · rintro i u σ H' hu ⟨e, v5, v6, v7, v8, v9, rfl⟩
      obtain ⟨l, hl, hly⟩ := pr_get hL hu
      obtain ⟨la, mv, pv, rfl, hla, hm, hp⟩ := hly
      have kl := kL l (List.mem_of_getElem? hl)
      refine ⟨la, _, rfl, SqT.of (e _ _ hla), rfl, _, _, rfl, _, _, rfl, _, _, rfl, rfl, ?_⟩
      refine ⟨_, rfl, _, rfl, _, rfl, _, l.pa, 8, _, _, rfl, hp.tk (TK.ex e), kl.pa, by decide, x0, x1, y0, y1, fun u1 H2 e2 hu1 => ?_⟩
      obtain ⟨ua, rfl, hua⟩ := hu1
      refine ⟨ua, _, rfl, SqT.of hua, rfl, _, _, rfl, _, _, rfl, rfl, ?_⟩
      obtain ⟨o0, o1, o2, o3⟩ := opAt_in kl.pa x y
      obtain ⟨c0, c1⟩ := cov_in o2 o3 kl.l0 kl.l1
      obtain ⟨p0, p1⟩ := put_in (ls := ls.take i) (x := x) (y := y) (b := b) (fun m hm => kL m (List.mem_of_mem_take hm)) b0 b1
      have l0 := kl.l0
      have l1 := kl.l1
      refine ⟨_, rfl, _, rfl, _, rfl, _, rfl, _, rfl, _, _, rfl, rfl, .inl ⟨by omega, by omega⟩, _, _, rfl, rfl, ⟨by decide, by decide⟩, ?_⟩
      refine ⟨_, l.m, _, _, _, rfl, (hm.ex e).ex e2, kl.m, p0, p1, o0, o1, c0, c1, ?_⟩
      refine ⟨e.trans e2, some mv, some (.int l.lv), some pv, some (.int (opAt l.pa x y).1), some (.int (opAt l.pa x y).2), ?_⟩
      rw [put_snoc hl]
      rfl
    · rintro σ H' ⟨e, v5, v6, v7, v8, v9, rfl⟩
      refine ⟨_, rfl, ?_⟩
      have q := q H' e
      rw [← List.take_length (l := ls), ← hlen] at q
      exact q

abbrev s_law : Stmt := top 24
theorem sc_law : FnScope ["script", "deck", "width", "height", "layers", "others", "grounds", "x", "y", "actual", "k", "mode", "level", "paint"] ["script"] (defScope s_law) := ⟨rfl, rfl, rfl, by decide +kernel, rfl, by decide +kernel, by decide +kernel⟩
theorem LysV.put {H H' : Hp} {us : List V} {ls : List Ly} {D : Addr} {v : V} {l : Ly} (h : LysV H us ls) (e : Ex H H') (hD : H' D = some (.lst us)) (hl : LyV H' v l) : LysV (upd H' D (.lst (us ++ [v]))) (us ++ [v]) (ls ++ [l]) :=
  have tk : TK H' (upd H' D (.lst (us ++ [v]))) := TK.lst hD
  pr_append ((h.tk (TK.ex e)).tk tk) (.cons (hl.tk tk) .nil)
theorem opOk_mono {m n : Int} {o : Option Pa} (k : opOk m o) (h : m ≤ n) : opOk n o := by
  cases o with
  | none => trivial
  | some p =>
    cases p with
    | solid x => exact k
    | steps f s z => exact k
    | pic p =>
      have k : p.Ok m := k
      exact ⟨k.w1, Int.le_trans k.w2 h, k.h1, Int.le_trans k.h2 h, k.vl, k.cl, k.vb, k.cb⟩
def spLaw (K : PySem.W.Frag) : Sp := fun vs H Q _ => ∃ (a : Addr) (ns : List Int), vs = [.ref a] ∧ SqL K H a (ns.map V.int) ∧ ns.length ≤ 63 ∧ ∀ H', Q (.bl true) H'
theorem ok_law {f : Addr} {fd : FuncData} (F : Fun K "law" "law" s_law f fd) (T : Txt K mg) (D_l_deck : Def P w K mg base CX0 "_law_deck" 1 ["script"] (spDeck K)) (D_l_draw : Def P w K mg base CX0 "_law_draw" 1 ["deck", "bound"] (spDraw K))
    (D_l_value : Def P w K mg base CX0 "_law_value" 2 ["deck"] (spDrawn K 255)) (D_paint_at : Def P w K mg base CX0 "paint_at" 2 ["paint", "x", "y"] (spAt K)) (D_is_full : Def P w K mg base CX0 "is_full" 2 ["paint", "width", "height"] (spFull K))
    (D_l_at : Def P w K mg base CX0 "_law_at" 2 ["paint", "x", "y"] (spAt K)) (D_l_layer : Def P w K mg base CX0 "_law_layer" 5 ["deck"] (spLayer K)) (D_l_put : Def P w K mg base CX0 "_law_put" 3 ["layers", "background", "x", "y"] (spPut K)) (D_l_meant : Def P w K mg base CX0 "_law_meant" 3 ["layers", "background", "x", "y"] (spPut K)) :
    FnOk P w K mg base CX0 6 f fd ["script"] (spLaw K) := by
  refine F.ok sc_law (fun vs H Q E h => ?_) (fun cdv A outer s H vs Q E hr h => ?_)
  · obtain ⟨a, ns, rfl, _⟩ := h
    rfl
  · obtain ⟨a, ns, rfl, hS, hl, q⟩ := h
    refine ⟨_, (pss_cons (ps_set (i := 1) sc_law.nd rfl (by first | exact Or.inl rfl | exact Or.inr rfl) (pe_call D_l_deck.ok (hr.mono (by decide)) rfl D_l_deck.mgf D_l_deck.kp D_l_deck.b .nil pass0 (pa_cons (pv 0) pa_nil)))
      (pss_cons (ps_set (i := 2) sc_law.nd rfl (by first | exact Or.inl rfl | exact Or.inr rfl) (pe_op op_add pe_int (pe_call D_l_draw.ok (hr.mono (by decide)) rfl D_l_draw.mgf D_l_draw.kp D_l_draw.b .nil pass0 (pa_cons (pv 1) (pa_cons pe_int pa_nil)))))
      (pss_cons (ps_set (i := 3) sc_law.nd rfl (by first | exact Or.inl rfl | exact Or.inr rfl) (pe_op op_add pe_int (pe_call D_l_draw.ok (hr.mono (by decide)) rfl D_l_draw.mgf D_l_draw.kp D_l_draw.b .nil pass0 (pa_cons (pv 1) (pa_cons pe_int pa_nil)))))
      (pss_cons (ps_setLc (i := 4)  (own := [("k", 10)]) (tt := tYes) rfl sc_law.nd rfl rfl (sw_true rfl rfl rfl (by decide +kernel)) (pi_range1 (by rfl) T.range_ (pa_cons (pe_op op_add pe_int (pe_call D_l_draw.ok (hr.mono (by decide)) rfl D_l_draw.mgf D_l_draw.kp D_l_draw.b .nil pass0 (pa_cons (pv 1) (pa_cons pe_int pa_nil)))) pa_nil)) (blkOk_by (N := ["script", "deck", "width", "height", "layers", "others", "grounds", "x", "y", "actual", "k", "mode", "level", "paint"]) (sc := defScope s_law) (by decide +kernel)) (fun _ _ _ _ _ => (pg_name (i := 10) sc_law.nd rfl (by first | exact Or.inl rfl | exact Or.inr rfl))) (fun _ _ _ _ _ => pts_nil) (fun _ _ _ _ _ => (pe_call D_l_layer.ok (hr.mono (by decide)) rfl D_l_layer.mgf D_l_layer.kp D_l_layer.b .nil pass0 (pa_cons (pv 1) pa_nil))))
      (pss_cons (ps_setLc (i := 5)  (own := [("k", 10)]) (tt := tYes) rfl sc_law.nd rfl rfl (sw_true rfl rfl rfl (by decide +kernel)) (pi_range1 (by rfl) T.range_ (pa_cons (pe_call D_l_draw.ok (hr.mono (by decide)) rfl D_l_draw.mgf D_l_draw.kp D_l_draw.b .nil pass0 (pa_cons (pv 1) (pa_cons pe_int pa_nil))) pa_nil)) (blkOk_by (N := ["script", "deck", "width", "height", "layers", "others", "grounds", "x", "y", "actual", "k", "mode", "level", "paint"]) (sc := defScope s_law) (by decide +kernel)) (fun _ _ _ _ _ => (pg_name (i := 10) sc_law.nd rfl (by first | exact Or.inl rfl | exact Or.inr rfl))) (fun _ _ _ _ _ => pts_nil) (fun _ _ _ _ _ => (pe_call D_l_layer.ok (hr.mono (by decide)) rfl D_l_layer.mgf D_l_layer.kp D_l_layer.b .nil pass0 (pa_cons (pv 1) pa_nil))))
      (pss_cons (ps_set (i := 6) sc_law.nd rfl (by first | exact Or.inl rfl | exact Or.inr rfl) (pe_lst (pa_cons (pe_call D_l_value.ok (hr.mono (by decide)) rfl D_l_value.mgf D_l_value.kp D_l_value.b .nil pass0 (pa_cons (pv 1) pa_nil)) (pa_cons (pe_call D_l_value.ok (hr.mono (by decide)) rfl D_l_value.mgf D_l_value.kp D_l_value.b .nil pass0 (pa_cons (pv 1) pa_nil)) pa_nil))))
      (pss_cons (ps_set (i := 7) sc_law.nd rfl (by first | exact Or.inl rfl | exact Or.inr rfl) (pe_call D_l_draw.ok (hr.mono (by decide)) rfl D_l_draw.mgf D_l_draw.kp D_l_draw.b .nil pass0 (pa_cons (pv 1) (pa_cons (pv 2) pa_nil))))
      (pss_cons (ps_set (i := 8) sc_law.nd rfl (by first | exact Or.inl rfl | exact Or.inr rfl) (pe_call D_l_draw.ok (hr.mono (by decide)) rfl D_l_draw.mgf D_l_draw.kp D_l_draw.b .nil pass0 (pa_cons (pv 1) (pa_cons (pv 3) pa_nil))))
      (pss_cons (ps_set (i := 9) sc_law.nd rfl (by first | exact Or.inl rfl | exact Or.inr rfl) (pe_call D_l_put.ok (hr.mono (by decide)) rfl D_l_put.mgf D_l_put.kp D_l_put.b .nil pass0 (pa_cons (pv 4) (pa_cons (pe_ix (kixL K) (pv 6) pe_int (fun _ _ => rfl)) (pa_cons (pv 7) (pa_cons (pv 8) pa_nil))))))
      (pss_cons (ps_if (PW.pt (pw_or (pt_not (pt_val (pe_callB (kisi K) (by rfl) T.isinstance_ bt_isinstance (pa_cons (pv 9) (pa_cons (pe_bltn (v := .ty "int") (by rfl) T.int_ bt_int rfl) pa_nil))))) (pw_or (pt_val (pe_callB (kisi K) (by rfl) T.isinstance_ bt_isinstance (pa_cons (pv 9) (pa_cons (pe_bltn (v := .ty "bool") (by rfl) T.bool_ bt_bool rfl) pa_nil)))) (pw_or1 (pt_cmpR op_ne (pv 9) (pe_call D_l_meant.ok (hr.mono (by decide)) rfl D_l_meant.mgf D_l_meant.kp D_l_meant.b .nil pass0 (pa_cons (pv 4) (pa_cons (pe_ix (kixL K) (pv 6) pe_int (fun _ _ => rfl)) (pa_cons (pv 7) (pa_cons (pv 8) pa_nil))))) (nomark _))))))
        (pss_one (ps_ret pe_bl))
        pss_nil)
      (pss_cons (ps_for PassesOwn.never rfl (pi_range1 (by rfl) T.range_ (pa_cons (pe_callB (klen K) (by rfl) T.len_ PySem.boot_len (pa_cons (pv 4) pa_nil)) pa_nil)) (pg_name (i := 10) sc_law.nd rfl (by first | exact Or.inl rfl | exact Or.inr rfl))
        (pss_cons (ps_asg (pe_ix (kixL K) (pv 4) (pv 10) (fun _ _ => rfl)) (kpgT K (n := 3) rfl (pgs_cons (pg_name (i := 11) sc_law.nd rfl (by first | exact Or.inl rfl | exact Or.inr rfl)) (pgs_cons (pg_name (i := 12) sc_law.nd rfl (by first | exact Or.inl rfl | exact Or.inr rfl)) (pgs_cons (pg_name (i := 13) sc_law.nd rfl (by first | exact Or.inl rfl | exact Or.inr rfl)) pgs_nil)))))
        (pss_cut (ps_if (PW.pt (pw_and (pt_cmpR (keqD K hr.units) (pv 11) (pe_tup (pa_cons pe_str pa_nil)) (nomark _)) (pw_and (pt_cmpR op_eq (pv 12) pe_int (nomark _)) (pw_and1 (pt_val (pe_call D_is_full.ok (hr.mono (by decide)) rfl D_is_full.mgf D_is_full.kp D_is_full.b .nil pass0 (pa_cons (pv 13) (pa_cons (pv 2) (pa_cons (pv 3) pa_nil)))))))))
          (pss_one (ps_if (pt_cmpR op_ne (pe_call D_l_put.ok (hr.mono (by decide)) rfl D_l_put.mgf D_l_put.kp D_l_put.b .nil pass0 (pa_cons (pe_op op_cat (pv 5) (pe_slice (kslL K) (pv 4) (po_some (pv 10)) po_none)) (pa_cons (pe_ix (kixL K) (pv 6) pe_int (fun _ _ => rfl)) (pa_cons (pv 7) (pa_cons (pv 8) pa_nil))))) (pv 9) (nomark _))
            (pss_one (ps_ret pe_bl))
            pss_nil))
          pss_nil)
        (pss_one (ps_if (PW.pt (pw_or (pt_cmpR op_eq (pv 12) pe_int (nomark _)) (pw_or1 (pt_cmpR op_eq (pe_ix (kixT K) (pe_call D_l_at.ok (hr.mono (by decide)) rfl D_l_at.mgf D_l_at.kp D_l_at.b .nil pass0 (pa_cons (pv 13) (pa_cons (pv 7) (pa_cons (pv 8) pa_nil)))) pe_int (fun _ _ => rfl)) pe_int (nomark _)))))
          (pss_one (ps_if (pt_cmpR op_ne (pe_call D_l_put.ok (hr.mono (by decide)) rfl D_l_put.mgf D_l_put.kp D_l_put.b .nil pass0 (pa_cons (pe_op op_cat (pe_slice (kslL K) (pv 4) po_none (po_some (pv 10))) (pe_slice (kslL K) (pv 4) (po_some (pe_op op_add (pv 10) pe_int)) po_none)) (pa_cons (pe_ix (kixL K) (pv 6) pe_int (fun _ _ => rfl)) (pa_cons (pv 7) (pa_cons (pv 8) pa_nil))))) (pv 9) (nomark _))
            (pss_one (ps_ret pe_bl))
            pss_nil))
          pss_nil)))))
      (pss_one (ps_ret pe_bl))))))))))))), ?_⟩
    refine ⟨_, rfl, a, ns, rfl, hS, hl, fun d H1 e1 hd => ?_⟩
    refine ⟨_, rfl, d, 8, rfl, hd, by decide, by decide, fun wd wd0 wd1 => ?_⟩
    refine ⟨_, _, rfl, rfl, ?_⟩
    refine ⟨_, rfl, d, 8, rfl, hd, by decide, by decide, fun hg hg0 hg1 => ?_⟩
    refine ⟨_, _, rfl, rfl, ?_⟩
    -- layers
    refine ⟨_, rfl, d, 6, rfl, hd, by decide, by decide, fun n n0 n1 => ?_⟩
    refine ⟨_, _, rfl, rfl, ?_⟩
    refine ⟨_, rfl, by omega, by omega, fun D hD => ?_⟩
    refine lc_range (lo := 0) (n := (1 + n).toNat) (fun i H' => Ex H1 H' ∧ ∃ us ls, H' D = some (.lst us) ∧ LysV H' us ls ∧ ls.length = i ∧ ∀ l ∈ ls, l.Ok) ⟨Ex.new hD, [], [], upd_same, .nil, rfl, by simp⟩ ?_ ?_
    · rintro i H' hi ⟨e, us, ls, hU, hL, hn, kL⟩
      refine ⟨rfl, ?_⟩
      refine lcY ?_
      refine ⟨_, rfl, d, rfl, hd.mono e, fun v l H2 e2 hv kl => ?_⟩
      have := hL.length
      refine ⟨us, e2 _ _ hU, slineL (by omega), (e.trans e2).mut hD, us ++ [v], ls ++ [l], upd_same, hL.put e2 (e2 _ _ hU) hv, by simp [hn], fun m hm => ?_⟩
      rcases List.mem_append.mp hm with z | z
      · exact kL m z
      · rw [List.mem_singleton.mp z]; exact kl
    rintro H2 ⟨e2, us, ls, hU, hL, hn, kL⟩
    have hd2 := hd.mono e2
    -- others
    refine ⟨_, rfl, d, 4, rfl, hd2, by decide, by decide, fun m m0 m1 => ?_⟩
    refine ⟨_, rfl, by omega, by omega, fun D2 hD2 => ?_⟩
    refine lc_range (lo := 0) (n := m.toNat) (fun i H' => Ex H2 H' ∧ ∃ us ls, H' D2 = some (.lst us) ∧ LysV H' us ls ∧ ls.length = i ∧ ∀ l ∈ ls, l.Ok) ⟨Ex.new hD2, [], [], upd_same, .nil, rfl, by simp⟩ ?_ ?_
    · rintro i H' hi ⟨e, us, ls, hU, hL, hn, kL⟩
      refine ⟨rfl, ?_⟩
      refine lcY ?_
      refine ⟨_, rfl, d, rfl, hd2.mono e, fun v l H2 e2 hv kl => ?_⟩
      have := hL.length
      refine ⟨us, e2 _ _ hU, slineL (by omega), (e.trans e2).mut hD2, us ++ [v], ls ++ [l], upd_same, hL.put e2 (e2 _ _ hU) hv, by simp [hn], fun m hm => ?_⟩
      rcases List.mem_append.mp hm with z | z
      · exact kL m z
      · rw [List.mem_singleton.mp z]; exact kl
    rintro H3 ⟨e3, vs, ms, hV, hM, hm, kM⟩
    have hd3 := hd2.mono e3
    -- grounds
    refine ⟨_, rfl, d, rfl, hd3, fun g0 H4 e4 g00 g01 => ?_⟩
    refine ⟨_, rfl, d, rfl, hd3.mono e4, fun g1 H5 e5 g10 g11 => ?_⟩
    refine ⟨(by show 2 ≤ sizeLine; decide), fun g hg' => ?_⟩
    have e6 := Ex.new (o := .lst [.int g0, .int g1]) hg'
    have hG : upd H5 g (.lst [.int g0, .int g1]) g = some (.lst [.int g0, .int g1]) := upd_same
    generalize upd H5 g (.lst [.int g0, .int g1]) = H6 at e6 hG
    have e36 := (e4.trans e5).trans e6
    have hd6 := hd3.mono e36
    have hU6 := (e3.trans e36) _ _ hU
    have hL6 := hL.tk (TK.ex (e3.trans e36))
    have hV6 := e36 _ _ hV
    have hM6 := hM.tk (TK.ex e36)
    have hul := hL.length
    have hvl := hM.length
    refine ⟨_, rfl, _, rfl, d, _, rfl, hd6, by omega, by omega, fun x x0 x1 => ?_⟩
    refine ⟨_, rfl, _, rfl, d, _, rfl, hd6, by omega, by omega, fun y y0 y1 => ?_⟩
    -- actual
    obtain ⟨p0, p1⟩ := put_in (ls := ls) (x := x) (y := y) (b := g0) kL g00 g01
    refine ⟨_, rfl, _, rfl, g, _, _, _, rfl, rfl, SqL.of hG, rfl, _, rfl, _, rfl, D, us, ls, g0, x, y, rfl, hU6, hL6, kL, g00, g01, x0, by omega, y0, by omega, fun H7 e7 => ?_⟩
    have kn : ∀ i, Kn H7 (.int i) "int" := fun i => .int i
    refine ⟨_, rfl, _, _, _, _, _, rfl, .ty _, (kn (put ls g0 x y)).ty, kit_ty (kit_int (kn (put ls g0 x y))), _, rfl, ?_⟩
    refine iteF ?_
    refine ⟨_, rfl, _, _, _, _, _, rfl, .ty _, (kn (put ls g0 x y)).ty, kit_ty (kit_bool (kn (put ls g0 x y))), _, rfl, ?_⟩
    refine iteF ?_
    refine ⟨_, rfl, _, rfl, _, rfl, g, _, _, _, rfl, rfl, SqL.of (e7 _ _ hG), rfl, _, rfl, _, rfl, D, us, ls, g0, x, y, rfl, e7 _ _ hU6, hL6.tk (TK.ex e7), kL, g00, g01, x0, by omega, y0, by omega, fun H8 e8 => ?_⟩
    refine ⟨rfl, _, rfl, ?_⟩
    refine iteDn rfl ?_
    have e68 := e7.trans e8
    have hU8 := e68 _ _ hU6
    have hL8 := hL6.tk (TK.ex e68)
    have hV8 := e68 _ _ hV6
    have hM8 := hM6.tk (TK.ex e68)
    have hG8 := e68 _ _ hG
    refine ⟨_, rfl, D, us, rfl, .inl (SqL.of hU8), _, rfl, by omega, by omega, ?_⟩
    refine for_range (lo := 0) (n := us.length) (fun i σ H' => Ex H8 H' ∧ ∃ v1 v2 v3 v4, σ = [some (.ref a), some (.ref d), some (.int (1 + wd)), some (.int (1 + hg)), some (.ref D), some (.ref D2), some (.ref g), some (.int x), some (.int y), some (.int (put ls g0 x y)), v1, v2, v3, v4]) ⟨Ex.refl _, _, _, _, _, rfl⟩ ?_ ?_
    · rintro i σ H' hi ⟨e, v1, v2, v3, v4, rfl⟩
      have hui : us[i]? = some us[i] := List.getElem?_eq_getElem hi
      obtain ⟨l, hll, hly⟩ := pr_get hL8 hui
      generalize us[i] = u at hui hly
      obtain ⟨la, mv, pv, rfl, hla, hmv, hpv⟩ := hly
      have kl := kL l (List.mem_of_getElem? hll)
      refine ⟨_, rfl, _, rfl, D, us, _, .ref la, rfl, rfl, SqL.of (e _ _ hU8), by rw [Int.zero_add]; exact atI_nat hui, la, _, rfl, SqT.of (e _ _ hla), rfl, _, _, rfl, _, _, rfl, _, _, rfl, rfl, ?_⟩
      rw [Int.zero_add]
      refine ⟨fun σ H' => Ex H8 H' ∧ σ = [some (.ref a), some (.ref d), some (.int (1 + wd)), some (.int (1 + hg)), some (.ref D), some (.ref D2), some (.ref g), some (.int x), some (.int y), some (.int (put ls g0 x y)), some (.int (i : Int)), some mv, some (.int l.lv), some pv], ?_, ?_⟩
      · refine ⟨_, rfl, (by show 1 ≤ sizeLine; decide), fun t ht => ?_⟩
        have et := Ex.new (o := .tup [.str "over"]) ht
        have kt : upd H' t (.tup [.str "over"]) t = some (.tup [.str "over"]) := upd_same
        generalize upd H' t (.tup [.str "over"]) = H9 at et kt ⊢
        have mt : MdV H9 (.ref t) .over := ⟨t, rfl, kt⟩
        have e9 := e.trans et
        refine ⟨_, _, (hmv.ex e9).dp, mt.dp, Md.shaped _, Md.shaped _, _, rfl, ?_⟩
        rw [Md.eqv_over]
        by_cases em : l.m = .over
        · refine iteD em ?_
          refine ⟨_, rfl, rfl, _, rfl, ?_⟩
          by_cases el : l.lv = 256
          · refine iteD (congrArg V.int el) ?_
            have kp12 : opOk 12 l.pa := opOk_mono kl.pa (by decide)
            refine ⟨_, rfl, _, rfl, _, rfl, _, l.pa, 12, _, _, rfl, hpv.tk (TK.ex e9), kp12, by decide, by omega, by omega, by omega, by omega, fun b G e10 hb => ?_⟩
            refine ⟨_, rfl, ?_⟩
            have eG := e9.trans e10
            cases b with
            | false => exact iteF ⟨eG, rfl⟩
            | true =>
              refine iteT ?_
              have full := hb.mp rfl
              have hU9 := eG _ _ hU8
              refine ⟨_, rfl, _, rfl, _, rfl, _, rfl, D, us, rfl, SqL.of hU9, fun p hp => ?_⟩
              have f1 := Ex.new (o := .lst (cutV us (some (i : Int)) none)) hp
              have k1 : upd G p (.lst (cutV us (some (i : Int)) none)) p = some (.lst (us.drop i)) := by rw [upd_same, cutV_drop (by omega)]
              generalize upd G p (.lst (cutV us (some (i : Int)) none)) = G1 at f1 k1 ⊢
              have eG1 := eG.trans f1
              refine ⟨D2, p, vs, us.drop i, rfl, rfl, eG1 _ _ hV8, k1, Nat.le_of_lt (slineL (by rw [List.length_drop]; omega)), fun p2 hp2 => ?_⟩
              have f2 := Ex.new (o := .lst (vs ++ us.drop i)) hp2
              have k2 : upd G1 p2 (.lst (vs ++ us.drop i)) p2 = some (.lst (vs ++ us.drop i)) := upd_same
              generalize upd G1 p2 (.lst (vs ++ us.drop i)) = G2 at f2 k2 ⊢
              have eG2 := eG1.trans f2
              refine ⟨_, rfl, g, _, _, _, rfl, rfl, SqL.of (eG2 _ _ hG8), rfl, _, rfl, _, rfl, p2, _, ms ++ ls.drop i, g1, x, y, rfl, k2, pr_append (hM8.tk (TK.ex eG2)) (pr_drop i (hL8.tk (TK.ex eG2))), fun z hz => ?_, g10, g11, x0, by omega, y0, by omega, fun G4 f4 => ?_⟩
              · rcases List.mem_append.mp hz with z1 | z1
                · exact kM z z1
                · exact kL z (List.mem_of_mem_drop z1)
              refine ⟨_, rfl, rfl, _, rfl, ?_⟩
              refine iteDn (congrArg V.int (put_hides hll em el (full.2 x y x0 x1 y0 y1))) ?_
              exact ⟨eG2.trans f4, rfl⟩
          · refine iteN (fun z => el (V.int.inj z)) ?_
            exact ⟨e9, rfl⟩
        · refine iteN em ?_
          exact ⟨e9, rfl⟩
      · rintro σ G ⟨eG, rfl⟩
        refine ⟨_, rfl, rfl, _, rfl, ?_⟩
        by_cases el : l.lv = 0
        · refine iteD (congrArg V.int el) ?_
          have hz : (opAt l.pa x y).2 * l.lv = 0 := by rw [el, Int.mul_zero]
          · skip
            have hU9 := eG _ _ hU8
            have tkG := TK.ex eG
            refine ⟨_, rfl, _, rfl, _, rfl, D, us, rfl, SqL.of hU9, fun p hp => ?_⟩
            have f1 := Ex.new (o := .lst (cutV us none (some (i : Int)))) hp
            have k1 : upd G p (.lst (cutV us none (some (i : Int)))) p = some (.lst (us.take i)) := by rw [upd_same, cutV_take (by omega)]
            generalize upd G p (.lst (cutV us none (some (i : Int)))) = G1 at f1 k1 ⊢
            refine ⟨_, rfl, _, rfl, _, _, rfl, rfl, _, rfl, D, us, rfl, SqL.of (f1 _ _ hU9), fun p2 hp2 => ?_⟩
            have f2 := Ex.new (o := .lst (cutV us (some ((i : Int) + 1)) none)) hp2
            have k2 : upd G1 p2 (.lst (cutV us (some ((i : Int) + 1)) none)) p2 = some (.lst (us.drop (i + 1))) := by
              rw [upd_same]
              exact congrArg (fun z => some (HO.lst z)) (cutV_drop (xs := us) (k := i + 1) (by omega))
            generalize upd G1 p2 (.lst (cutV us (some ((i : Int) + 1)) none)) = G2 at f2 k2 ⊢
            refine ⟨p, p2, us.take i, us.drop (i + 1), rfl, rfl, f2 _ _ k1, k2, Nat.le_of_lt (slineL (by rw [List.length_take, List.length_drop]; omega)), fun p3 hp3 => ?_⟩
            have f3 := Ex.new (o := .lst (us.take i ++ us.drop (i + 1))) hp3
            have k3 : upd G2 p3 (.lst (us.take i ++ us.drop (i + 1))) p3 = some (.lst (us.take i ++ us.drop (i + 1))) := upd_same
            generalize upd G2 p3 (.lst (us.take i ++ us.drop (i + 1))) = G3 at f3 k3 ⊢
            have f13 := (f1.trans f2).trans f3
            have hL3 := (hL8.tk tkG).tk (TK.ex f13)
            refine ⟨_, rfl, g, _, _, _, rfl, rfl, SqL.of ((eG.trans f13) _ _ hG8), rfl, _, rfl, _, rfl, p3, _, ls.take i ++ ls.drop (i + 1), g0, x, y, rfl, k3, pr_append (pr_take i hL3) (pr_drop (i + 1) hL3), fun z hz => ?_, g00, g01, x0, by omega, y0, by omega, fun G4 f4 => ?_⟩
            · rcases List.mem_append.mp hz with z1 | z1
              · exact kL z (List.mem_of_mem_take z1)
              · exact kL z (List.mem_of_mem_drop z1)
            refine ⟨_, rfl, rfl, _, rfl, ?_⟩
            refine iteDn (congrArg V.int (put_left hll hz)) ?_
            exact ⟨(eG.trans f13).trans f4, _, _, _, _, rfl⟩
        · refine iteN (fun z => el (V.int.inj z)) ?_
          refine ⟨_, rfl, _, rfl, _, rfl, _, l.pa, 8, _, _, rfl, hpv.tk (TK.ex eG), kl.pa, by decide, x0, by omega, y0, by omega, fun u1 G' e10 hu1 => ?_⟩
          obtain ⟨ua, rfl, hua⟩ := hu1
          refine ⟨ua, _, _, _, rfl, rfl, SqT.of hua, rfl, rfl, _, rfl, ?_⟩
          have eG := eG.trans e10
          clear e10 hua
          by_cases ec : (opAt l.pa x y).2 = 0
          · refine iteD (congrArg V.int ec) ?_
            have hz : (opAt l.pa x y).2 * l.lv = 0 := by rw [ec, Int.zero_mul]
            have hU9 := eG _ _ hU8
            have tkG := TK.ex eG
            refine ⟨_, rfl, _, rfl, _, rfl, D, us, rfl, SqL.of hU9, fun p hp => ?_⟩
            have f1 := Ex.new (o := .lst (cutV us none (some (i : Int)))) hp
            have k1 : upd G' p (.lst (cutV us none (some (i : Int)))) p = some (.lst (us.take i)) := by rw [upd_same, cutV_take (by omega)]
            generalize upd G' p (.lst (cutV us none (some (i : Int)))) = G1 at f1 k1 ⊢
            refine ⟨_, rfl, _, rfl, _, _, rfl, rfl, _, rfl, D, us, rfl, SqL.of (f1 _ _ hU9), fun p2 hp2 => ?_⟩
            have f2 := Ex.new (o := .lst (cutV us (some ((i : Int) + 1)) none)) hp2
            have k2 : upd G1 p2 (.lst (cutV us (some ((i : Int) + 1)) none)) p2 = some (.lst (us.drop (i + 1))) := by
              rw [upd_same]
              exact congrArg (fun z => some (HO.lst z)) (cutV_drop (xs := us) (k := i + 1) (by omega))
            generalize upd G1 p2 (.lst (cutV us (some ((i : Int) + 1)) none)) = G2 at f2 k2 ⊢
            refine ⟨p, p2, us.take i, us.drop (i + 1), rfl, rfl, f2 _ _ k1, k2, Nat.le_of_lt (slineL (by rw [List.length_take, List.length_drop]; omega)), fun p3 hp3 => ?_⟩
            have f3 := Ex.new (o := .lst (us.take i ++ us.drop (i + 1))) hp3
            have k3 : upd G2 p3 (.lst (us.take i ++ us.drop (i + 1))) p3 = some (.lst (us.take i ++ us.drop (i + 1))) := upd_same
            generalize upd G2 p3 (.lst (us.take i ++ us.drop (i + 1))) = G3 at f3 k3 ⊢
            have f13 := (f1.trans f2).trans f3
            have hL3 := (hL8.tk tkG).tk (TK.ex f13)
            refine ⟨_, rfl, g, _, _, _, rfl, rfl, SqL.of ((eG.trans f13) _ _ hG8), rfl, _, rfl, _, rfl, p3, _, ls.take i ++ ls.drop (i + 1), g0, x, y, rfl, k3, pr_append (pr_take i hL3) (pr_drop (i + 1) hL3), fun z hz => ?_, g00, g01, x0, by omega, y0, by omega, fun G4 f4 => ?_⟩
            · rcases List.mem_append.mp hz with z1 | z1
              · exact kL z (List.mem_of_mem_take z1)
              · exact kL z (List.mem_of_mem_drop z1)
            refine ⟨_, rfl, rfl, _, rfl, ?_⟩
            refine iteDn (congrArg V.int (put_left hll hz)) ?_
            exact ⟨(eG.trans f13).trans f4, _, _, _, _, rfl⟩
          · refine iteN (fun z => ec (V.int.inj z)) ?_
            exact ⟨eG, _, _, _, _, rfl⟩
    · rintro σ H' ⟨e, v1, v2, v3, v4, rfl⟩
      exact q _
end
theorem all_mk {l : PySem.W.OpenLaw} {w : World} {K : PySem.W.Frag} {h : Heap} {mg : Str → Option Value} {fa f0 f1 f2 f3 f4 f5 f6 f7 f8 f9 f10 f11 f12 f13 f14 f15 f16 f17 f18 : Addr} (X : K.In h) (G : h.Ns mainGlobals mg) (hfa : mg "law" = some (.ref fa))
    {od0 an0 od1 an1 od2 an2 od3 an3 od4 an4 od5 an5 od6 an6 od7 an7 od8 an8 od9 an9 od10 an10 od11 an11 od12 an12 od13 an13 od14 an14 od15 an15 od16 an16 od17 an17 od18 an18 : Option Addr} {sl0 sl1 sl2 sl3 sl4 sl5 sl6 sl7 sl8 sl9 sl10 sl11 sl12 sl13 sl14 sl15 sl16 sl17 sl18 : Array (Option Value)} {oc0 kV0 dc0 pm0 cd0 ct0 oc1 kV1 dc1 pm1 cd1 ct1 oc2 kV2 dc2 pm2 cd2 ct2 oc3 kV3 dc3 pm3 cd3 ct3 oc4 kV4 dc4 pm4 cd4 ct4 oc5 kV5 dc5 pm5 cd5 ct5 oc6 kV6 dc6 pm6 cd6 ct6 oc7 kV7 dc7 pm7 cd7 ct7 oc8 kV8 dc8 pm8 cd8 ct8 oc9 kV9 dc9 pm9 cd9 ct9 oc10 kV10 dc10 pm10 cd10 ct10 oc11 kV11 dc11 pm11 cd11 ct11 oc12 kV12 dc12 pm12 cd12 ct12 oc13 kV13 dc13 pm13 cd13 ct13 oc14 kV14 dc14 pm14 cd14 ct14 oc15 kV15 dc15 pm15 cd15 ct15 oc16 kV16 dc16 pm16 cd16 ct16 oc17 kV17 dc17 pm17 cd17 ct17 oc18 kV18 dc18 pm18 cd18 ct18 : Value}
    (a0 : PySem.W.nsIn K mainGlobals "_law_deck" = some (some (.ref f0))) (l0 : K.lookup f0 = some ⟨oc0, od0, .func (PySem.W.fnOf "_law_deck" "_law_deck" (defArgs s_l_deck) (defBody s_l_deck) (defScope s_l_deck) .none kV0 dc0 pm0 an0 cd0 ct0), sl0⟩) (c0 : PySem.W.codeIn K cd0 "_law_deck" = true) (k0 : PySem.W.keepIn K (.ref f0) = true)
    (a1 : PySem.W.nsIn K mainGlobals "_law_draw" = some (some (.ref f1))) (l1 : K.lookup f1 = some ⟨oc1, od1, .func (PySem.W.fnOf "_law_draw" "_law_draw" (defArgs s_l_draw) (defBody s_l_draw) (defScope s_l_draw) .none kV1 dc1 pm1 an1 cd1 ct1), sl1⟩) (c1 : PySem.W.codeIn K cd1 "_law_draw" = true) (k1 : PySem.W.keepIn K (.ref f1) = true)
    (a2 : PySem.W.nsIn K mainGlobals "_law_value" = some (some (.ref f2))) (l2 : K.lookup f2 = some ⟨oc2, od2, .func (PySem.W.fnOf "_law_value" "_law_value" (defArgs s_l_value) (defBody s_l_value) (defScope s_l_value) .none kV2 dc2 pm2 an2 cd2 ct2), sl2⟩) (c2 : PySem.W.codeIn K cd2 "_law_value" = true) (k2 : PySem.W.keepIn K (.ref f2) = true)
    (a3 : PySem.W.nsIn K mainGlobals "_law_cover" = some (some (.ref f3))) (l3 : K.lookup f3 = some ⟨oc3, od3, .func (PySem.W.fnOf "_law_cover" "_law_cover" (defArgs s_l_cover) (defBody s_l_cover) (defScope s_l_cover) .none kV3 dc3 pm3 an3 cd3 ct3), sl3⟩) (c3 : PySem.W.codeIn K cd3 "_law_cover" = true) (k3 : PySem.W.keepIn K (.ref f3) = true)
    (a4 : PySem.W.nsIn K mainGlobals "_law_picture" = some (some (.ref f4))) (l4 : K.lookup f4 = some ⟨oc4, od4, .func (PySem.W.fnOf "_law_picture" "_law_picture" (defArgs s_l_picture) (defBody s_l_picture) (defScope s_l_picture) .none kV4 dc4 pm4 an4 cd4 ct4), sl4⟩) (c4 : PySem.W.codeIn K cd4 "_law_picture" = true) (k4 : PySem.W.keepIn K (.ref f4) = true)
    (a5 : PySem.W.nsIn K mainGlobals "_law_paint" = some (some (.ref f5))) (l5 : K.lookup f5 = some ⟨oc5, od5, .func (PySem.W.fnOf "_law_paint" "_law_paint" (defArgs s_l_paint) (defBody s_l_paint) (defScope s_l_paint) .none kV5 dc5 pm5 an5 cd5 ct5), sl5⟩) (c5 : PySem.W.codeIn K cd5 "_law_paint" = true) (k5 : PySem.W.keepIn K (.ref f5) = true)
    (a6 : PySem.W.nsIn K mainGlobals "point_in" = some (some (.ref f6))) (l6 : K.lookup f6 = some ⟨oc6, od6, .func (PySem.W.fnOf "point_in" "point_in" (defArgs s_point_in) (defBody s_point_in) (defScope s_point_in) .none kV6 dc6 pm6 an6 cd6 ct6), sl6⟩) (c6 : PySem.W.codeIn K cd6 "point_in" = true) (k6 : PySem.W.keepIn K (.ref f6) = true)
    (a7 : PySem.W.nsIn K mainGlobals "paint_at" = some (some (.ref f7))) (l7 : K.lookup f7 = some ⟨oc7, od7, .func (PySem.W.fnOf "paint_at" "paint_at" (defArgs s_paint_at) (defBody s_paint_at) (defScope s_paint_at) .none kV7 dc7 pm7 an7 cd7 ct7), sl7⟩) (c7 : PySem.W.codeIn K cd7 "paint_at" = true) (k7 : PySem.W.keepIn K (.ref f7) = true)
    (a8 : PySem.W.nsIn K mainGlobals "_is_full_picture" = some (some (.ref f8))) (l8 : K.lookup f8 = some ⟨oc8, od8, .func (PySem.W.fnOf "_is_full_picture" "_is_full_picture" (defArgs s_is_full_picture) (defBody s_is_full_picture) (defScope s_is_full_picture) .none kV8 dc8 pm8 an8 cd8 ct8), sl8⟩) (c8 : PySem.W.codeIn K cd8 "_is_full_picture" = true) (k8 : PySem.W.keepIn K (.ref f8) = true)
    (a9 : PySem.W.nsIn K mainGlobals "is_full" = some (some (.ref f9))) (l9 : K.lookup f9 = some ⟨oc9, od9, .func (PySem.W.fnOf "is_full" "is_full" (defArgs s_is_full) (defBody s_is_full) (defScope s_is_full) .none kV9 dc9 pm9 an9 cd9 ct9), sl9⟩) (c9 : PySem.W.codeIn K cd9 "is_full" = true) (k9 : PySem.W.keepIn K (.ref f9) = true)
    (a10 : PySem.W.nsIn K mainGlobals "_target" = some (some (.ref f10))) (l10 : K.lookup f10 = some ⟨oc10, od10, .func (PySem.W.fnOf "_target" "_target" (defArgs s_target) (defBody s_target) (defScope s_target) .none kV10 dc10 pm10 an10 cd10 ct10), sl10⟩) (c10 : PySem.W.codeIn K cd10 "_target" = true) (k10 : PySem.W.keepIn K (.ref f10) = true)
    (a11 : PySem.W.nsIn K mainGlobals "blended" = some (some (.ref f11))) (l11 : K.lookup f11 = some ⟨oc11, od11, .func (PySem.W.fnOf "blended" "blended" (defArgs s_blended) (defBody s_blended) (defScope s_blended) .none kV11 dc11 pm11 an11 cd11 ct11), sl11⟩) (c11 : PySem.W.codeIn K cd11 "blended" = true) (k11 : PySem.W.keepIn K (.ref f11) = true)
    (a12 : PySem.W.nsIn K mainGlobals "_law_point" = some (some (.ref f12))) (l12 : K.lookup f12 = some ⟨oc12, od12, .func (PySem.W.fnOf "_law_point" "_law_point" (defArgs s_l_point) (defBody s_l_point) (defScope s_l_point) .none kV12 dc12 pm12 an12 cd12 ct12), sl12⟩) (c12 : PySem.W.codeIn K cd12 "_law_point" = true) (k12 : PySem.W.keepIn K (.ref f12) = true)
    (a13 : PySem.W.nsIn K mainGlobals "_law_at" = some (some (.ref f13))) (l13 : K.lookup f13 = some ⟨oc13, od13, .func (PySem.W.fnOf "_law_at" "_law_at" (defArgs s_l_at) (defBody s_l_at) (defScope s_l_at) .none kV13 dc13 pm13 an13 cd13 ct13), sl13⟩) (c13 : PySem.W.codeIn K cd13 "_law_at" = true) (k13 : PySem.W.keepIn K (.ref f13) = true)
    (a14 : PySem.W.nsIn K mainGlobals "_law_blended" = some (some (.ref f14))) (l14 : K.lookup f14 = some ⟨oc14, od14, .func (PySem.W.fnOf "_law_blended" "_law_blended" (defArgs s_l_blended) (defBody s_l_blended) (defScope s_l_blended) .none kV14 dc14 pm14 an14 cd14 ct14), sl14⟩) (c14 : PySem.W.codeIn K cd14 "_law_blended" = true) (k14 : PySem.W.keepIn K (.ref f14) = true)
    (a15 : PySem.W.nsIn K mainGlobals "_law_layer" = some (some (.ref f15))) (l15 : K.lookup f15 = some ⟨oc15, od15, .func (PySem.W.fnOf "_law_layer" "_law_layer" (defArgs s_l_layer) (defBody s_l_layer) (defScope s_l_layer) .none kV15 dc15 pm15 an15 cd15 ct15), sl15⟩) (c15 : PySem.W.codeIn K cd15 "_law_layer" = true) (k15 : PySem.W.keepIn K (.ref f15) = true)
    (a16 : PySem.W.nsIn K mainGlobals "_law_put" = some (some (.ref f16))) (l16 : K.lookup f16 = some ⟨oc16, od16, .func (PySem.W.fnOf "_law_put" "_law_put" (defArgs s_l_put) (defBody s_l_put) (defScope s_l_put) .none kV16 dc16 pm16 an16 cd16 ct16), sl16⟩) (c16 : PySem.W.codeIn K cd16 "_law_put" = true) (k16 : PySem.W.keepIn K (.ref f16) = true)
    (a17 : PySem.W.nsIn K mainGlobals "_law_meant" = some (some (.ref f17))) (l17 : K.lookup f17 = some ⟨oc17, od17, .func (PySem.W.fnOf "_law_meant" "_law_meant" (defArgs s_l_meant) (defBody s_l_meant) (defScope s_l_meant) .none kV17 dc17 pm17 an17 cd17 ct17), sl17⟩) (c17 : PySem.W.codeIn K cd17 "_law_meant" = true) (k17 : PySem.W.keepIn K (.ref f17) = true)
    (a18 : PySem.W.nsIn K mainGlobals "law" = some (some (.ref f18))) (l18 : K.lookup f18 = some ⟨oc18, od18, .func (PySem.W.fnOf "law" "law" (defArgs s_law) (defBody s_law) (defScope s_law) .none kV18 dc18 pm18 an18 cd18 ct18), sl18⟩) (c18 : PySem.W.codeIn K cd18 "law" = true) (k18 : PySem.W.keepIn K (.ref f18) = true)
    (z_abs : PySem.W.nsIn K mainGlobals "abs" = some none)
    (z_all : PySem.W.nsIn K mainGlobals "all" = some none)
    (z_bool : PySem.W.nsIn K mainGlobals "bool" = some none)
    (z_int : PySem.W.nsIn K mainGlobals "int" = some none)
    (z_isinstance : PySem.W.nsIn K mainGlobals "isinstance" = some none)
    (z_len : PySem.W.nsIn K mainGlobals "len" = some none)
    (z_list : PySem.W.nsIn K mainGlobals "list" = some none)
    (z_max : PySem.W.nsIn K mainGlobals "max" = some none)
    (z_min : PySem.W.nsIn K mainGlobals "min" = some none)
    (z_range : PySem.W.nsIn K mainGlobals "range" = some none)
    (z_tuple : PySem.W.nsIn K mainGlobals "tuple" = some none)
    {t_COVER_MOST : Tok} (z_COVER_MOST : PySem.W.nsIn K mainGlobals "COVER_MOST" = some (some (.int 256 t_COVER_MOST)))
    {t_VALUE_MOST : Tok} (z_VALUE_MOST : PySem.W.nsIn K mainGlobals "VALUE_MOST" = some (some (.int 255 t_VALUE_MOST)))
    : ∃ fd : FuncData, (∀ (s : Shared) (v : Value), BindsTo s fd ⟨[v], []⟩ [("script", v)]) ∧ ∀ base : Heap, K.In base → base.Ns mainGlobals mg → FnOk l.prog w K mg base CX0 6 fa fd ["script"] (spLaw K) := by
  have e := hfa.symm.trans (PySem.W.mg_of X G a18)
  cases e
  have T : Txt K mg := ⟨PySem.W.mg_none_of X G z_abs, PySem.W.mg_none_of X G z_all, PySem.W.mg_none_of X G z_bool, PySem.W.mg_none_of X G z_int, PySem.W.mg_none_of X G z_isinstance, PySem.W.mg_none_of X G z_len, PySem.W.mg_none_of X G z_list, PySem.W.mg_none_of X G z_max, PySem.W.mg_none_of X G z_min, PySem.W.mg_none_of X G z_range, PySem.W.mg_none_of X G z_tuple, ⟨_, PySem.W.mg_of X G z_COVER_MOST⟩, ⟨_, PySem.W.mg_of X G z_VALUE_MOST⟩⟩
  refine ⟨PySem.W.fnOf "law" "law" (defArgs s_law) (defBody s_law) (defScope s_law) .none kV18 dc18 pm18 an18 cd18 ct18, fun s v => .of_eq rfl, fun base _ _ => ?_⟩
  have F0 := fun_mk (st := s_l_deck) l0 c0 k0
  have D_l_deck : Def l.prog w K mg base CX0 "_law_deck" 1 ["script"] (spDeck K) := ⟨f0, _, ok_l_deck F0 T, PySem.W.mg_of X G a0, k0, F0.binds (ps := ["script"]) fun _ _ _ _ _ _ us hl => match us, hl with | [_], _ => rfl⟩
  have F1 := fun_mk (st := s_l_draw) l1 c1 k1
  have D_l_draw : Def l.prog w K mg base CX0 "_law_draw" 1 ["deck", "bound"] (spDraw K) := ⟨f1, _, ok_l_draw F1 T, PySem.W.mg_of X G a1, k1, F1.binds (ps := ["deck", "bound"]) fun _ _ _ _ _ _ us hl => match us, hl with | [_, _], _ => rfl⟩
  have F2 := fun_mk (st := s_l_value) l2 c2 k2
  have D_l_value : Def l.prog w K mg base CX0 "_law_value" 2 ["deck"] (spDrawn K 255) := ⟨f2, _, ok_l_value F2 T D_l_draw, PySem.W.mg_of X G a2, k2, F2.binds (ps := ["deck"]) fun _ _ _ _ _ _ us hl => match us, hl with | [_], _ => rfl⟩
  have F3 := fun_mk (st := s_l_cover) l3 c3 k3
  have D_l_cover : Def l.prog w K mg base CX0 "_law_cover" 2 ["deck"] (spDrawn K 256) := ⟨f3, _, ok_l_cover F3 T D_l_draw, PySem.W.mg_of X G a3, k3, F3.binds (ps := ["deck"]) fun _ _ _ _ _ _ us hl => match us, hl with | [_], _ => rfl⟩
  have F4 := fun_mk (st := s_l_picture) l4 c4 k4
  have D_l_picture : Def l.prog w K mg base CX0 "_law_picture" 3 ["deck", "most"] (spPicture K) := ⟨f4, _, ok_l_picture F4 T D_l_draw D_l_value D_l_cover, PySem.W.mg_of X G a4, k4, F4.binds (ps := ["deck", "most"]) fun _ _ _ _ _ _ us hl => match us, hl with | [_, _], _ => rfl⟩
  have F5 := fun_mk (st := s_l_paint) l5 c5 k5
  have D_l_paint : Def l.prog w K mg base CX0 "_law_paint" 4 ["deck", "most"] (spPaint K) := ⟨f5, _, ok_l_paint F5 T D_l_draw D_l_value D_l_picture, PySem.W.mg_of X G a5, k5, F5.binds (ps := ["deck", "most"]) fun _ _ _ _ _ _ us hl => match us, hl with | [_, _], _ => rfl⟩
  have F6 := fun_mk (st := s_point_in) l6 c6 k6
  have D_point_in : Def l.prog w K mg base CX0 "point_in" 1 ["picture", "x", "y"] (spPoint K) := ⟨f6, _, ok_point_in F6 T, PySem.W.mg_of X G a6, k6, F6.binds (ps := ["picture", "x", "y"]) fun _ _ _ _ _ _ us hl => match us, hl with | [_, _, _], _ => rfl⟩
  have F7 := fun_mk (st := s_paint_at) l7 c7 k7
  have D_paint_at : Def l.prog w K mg base CX0 "paint_at" 2 ["paint", "x", "y"] (spAt K) := ⟨f7, _, ok_paint_at F7 T D_point_in, PySem.W.mg_of X G a7, k7, F7.binds (ps := ["paint", "x", "y"]) fun _ _ _ _ _ _ us hl => match us, hl with | [_, _, _], _ => rfl⟩
  have F8 := fun_mk (st := s_is_full_picture) l8 c8 k8
  have D_is_full_picture : Def l.prog w K mg base CX0 "_is_full_picture" 1 ["picture", "width", "height"] (spFullP K) := ⟨f8, _, ok_is_full_picture F8 T, PySem.W.mg_of X G a8, k8, F8.binds (ps := ["picture", "width", "height"]) fun _ _ _ _ _ _ us hl => match us, hl with | [_, _, _], _ => rfl⟩
  have F9 := fun_mk (st := s_is_full) l9 c9 k9
  have D_is_full : Def l.prog w K mg base CX0 "is_full" 2 ["paint", "width", "height"] (spFull K) := ⟨f9, _, ok_is_full F9 T D_is_full_picture, PySem.W.mg_of X G a9, k9, F9.binds (ps := ["paint", "width", "height"]) fun _ _ _ _ _ _ us hl => match us, hl with | [_, _, _], _ => rfl⟩
  have F10 := fun_mk (st := s_target) l10 c10 k10
  have D_target : Def l.prog w K mg base CX0 "_target" 1 ["mode", "value", "paint"] (spTarget K) := ⟨f10, _, ok_target F10 T, PySem.W.mg_of X G a10, k10, F10.binds (ps := ["mode", "value", "paint"]) fun _ _ _ _ _ _ us hl => match us, hl with | [_, _, _], _ => rfl⟩
  have F11 := fun_mk (st := s_blended) l11 c11 k11
  have D_blended : Def l.prog w K mg base CX0 "blended" 2 ["mode", "value", "paint", "cover"] (spBlend K Md.mix) := ⟨f11, _, ok_blended F11 T D_target, PySem.W.mg_of X G a11, k11, F11.binds (ps := ["mode", "value", "paint", "cover"]) fun _ _ _ _ _ _ us hl => match us, hl with | [_, _, _, _], _ => rfl⟩
  have F12 := fun_mk (st := s_l_point) l12 c12 k12
  have D_l_point : Def l.prog w K mg base CX0 "_law_point" 1 ["picture", "x", "y"] (spPoint K) := ⟨f12, _, ok_l_point F12 T, PySem.W.mg_of X G a12, k12, F12.binds (ps := ["picture", "x", "y"]) fun _ _ _ _ _ _ us hl => match us, hl with | [_, _, _], _ => rfl⟩
  have F13 := fun_mk (st := s_l_at) l13 c13 k13
  have D_l_at : Def l.prog w K mg base CX0 "_law_at" 2 ["paint", "x", "y"] (spAt K) := ⟨f13, _, ok_l_at F13 T D_l_point, PySem.W.mg_of X G a13, k13, F13.binds (ps := ["paint", "x", "y"]) fun _ _ _ _ _ _ us hl => match us, hl with | [_, _, _], _ => rfl⟩
  have F14 := fun_mk (st := s_l_blended) l14 c14 k14
  have D_l_blended : Def l.prog w K mg base CX0 "_law_blended" 1 ["mode", "value", "paint", "cover"] (spBlend K Md.mix) := ⟨f14, _, ok_l_blended F14 T, PySem.W.mg_of X G a14, k14, F14.binds (ps := ["mode", "value", "paint", "cover"]) fun _ _ _ _ _ _ us hl => match us, hl with | [_, _, _, _], _ => rfl⟩
  have F15 := fun_mk (st := s_l_layer) l15 c15 k15
  have D_l_layer : Def l.prog w K mg base CX0 "_law_layer" 5 ["deck"] (spLayer K) := ⟨f15, _, ok_l_layer F15 T D_l_draw D_l_cover D_l_paint, PySem.W.mg_of X G a15, k15, F15.binds (ps := ["deck"]) fun _ _ _ _ _ _ us hl => match us, hl with | [_], _ => rfl⟩
  have F16 := fun_mk (st := s_l_put) l16 c16 k16
  have D_l_put : Def l.prog w K mg base CX0 "_law_put" 3 ["layers", "background", "x", "y"] (spPut K) := ⟨f16, _, ok_l_put F16 T D_paint_at D_blended, PySem.W.mg_of X G a16, k16, F16.binds (ps := ["layers", "background", "x", "y"]) fun _ _ _ _ _ _ us hl => match us, hl with | [_, _, _, _], _ => rfl⟩
  have F17 := fun_mk (st := s_l_meant) l17 c17 k17
  have D_l_meant : Def l.prog w K mg base CX0 "_law_meant" 3 ["layers", "background", "x", "y"] (spPut K) := ⟨f17, _, ok_l_meant F17 T D_l_at D_l_blended, PySem.W.mg_of X G a17, k17, F17.binds (ps := ["layers", "background", "x", "y"]) fun _ _ _ _ _ _ us hl => match us, hl with | [_, _, _, _], _ => rfl⟩
  exact ok_law (fun_mk (st := s_law) l18 c18 k18) T D_l_deck D_l_draw D_l_value D_paint_at D_is_full D_l_at D_l_layer D_l_put D_l_meant
theorem walk {l : PySem.W.OpenLaw} {q : Program} {loose : List Str} {XP : (Str → Option Value) → Heap → Prop} {YP : World → Heap → Prop} {d : DefRec} {K : Params → PySem.W.Frag} (hn : l.most = some 63) (hdf : d.params.defaults = [])
    (hY : ∀ (w : World) (h : Heap), YP w h → (K w.params).In h)
    (F : ∀ (w : World) (mg : Str → Option Value) (fa : Addr) (h : Heap), (K w.params).In h → h.Ns mainGlobals mg → mg d.name = some (.ref fa) →
      ∃ fd : FuncData, (∀ (s : Shared) (u : Value), BindsTo s fd ⟨[u], []⟩ [("script", u)]) ∧ ∀ base : Heap, (K w.params).In base → base.Ns mainGlobals mg → FnOk l.prog w (K w.params) mg base CX0 6 fa fd ["script"] (spLaw (K w.params))) :
    PySem.W.WalkO q loose XP YP l.row.toRowW d [] (fun f vs => PySem.call f vs) :=
  L2.walk_of (n := 63) (k := 6) (x := "script") (CX := fun _ => CX0) (sp := fun w => spLaw (K w.params)) hn (by decide) hdf ⟨rfl, by decide, by decide⟩ hY F (fun _ _ a ns hl _ hS => ⟨a, ns, rfl, hS, hl, fun _ => rfl⟩) fun _ _ _ _ _ z => z
end Od
open PySem PySem.W PyProof.Rows in
set_option maxRecDepth 100000 in
set_option maxHeartbeats 0 in
theorem PySem.Challenge.cw_onlythedirt_k26_whole_what_hides_holds : PySem.Challenge.rw_onlythedirt_k26_whole_what_hides.Holds := by
  w_on; o_law; k_head; (case hw => w_witness2)
  k_fill
  refine Od.walk (l := PySem.Challenge.rw_onlythedirt_k26_whole_what_hides) rfl rfl (fun w h Y => PySem.W.kIn_of Y) ?F
  case F =>
    intro w mg fa h KX G hmg
    refine' Od.all_mk KX G hmg ?a0 ?l0 ?c0 ?k0 ?a1 ?l1 ?c1 ?k1 ?a2 ?l2 ?c2 ?k2 ?a3 ?l3 ?c3 ?k3 ?a4 ?l4 ?c4 ?k4 ?a5 ?l5 ?c5 ?k5 ?a6 ?l6 ?c6 ?k6 ?a7 ?l7 ?c7 ?k7 ?a8 ?l8 ?c8 ?k8 ?a9 ?l9 ?c9 ?k9 ?a10 ?l10 ?c10 ?k10 ?a11 ?l11 ?c11 ?k11 ?a12 ?l12 ?c12 ?k12 ?a13 ?l13 ?c13 ?k13 ?a14 ?l14 ?c14 ?k14 ?a15 ?l15 ?c15 ?k15 ?a16 ?l16 ?c16 ?k16 ?a17 ?l17 ?c17 ?k17 ?a18 ?l18 ?c18 ?k18 ?z_abs ?z_all ?z_bool ?z_int ?z_isinstance ?z_len ?z_list ?z_max ?z_min ?z_range ?z_tuple ?z_COVER_MOST ?z_VALUE_MOST
    (case a0 => k_is)
    (case l0 => k_is)
    (case c0 => k_is)
    (case k0 => k_is)
    (case a1 => k_is)
    (case l1 => k_is)
    (case c1 => k_is)
    (case k1 => k_is)
    (case a2 => k_is)
    (case l2 => k_is)
    (case c2 => k_is)
    (case k2 => k_is)
    (case a3 => k_is)
    (case l3 => k_is)
    (case c3 => k_is)
    (case k3 => k_is)
    (case a4 => k_is)
    (case l4 => k_is)
    (case c4 => k_is)
    (case k4 => k_is)
    (case a5 => k_is)
    (case l5 => k_is)
    (case c5 => k_is)
    (case k5 => k_is)
    (case a6 => k_is)
    (case l6 => k_is)
    (case c6 => k_is)
    (case k6 => k_is)
    (case a7 => k_is)
    (case l7 => k_is)
    (case c7 => k_is)
    (case k7 => k_is)
    (case a8 => k_is)
    (case l8 => k_is)
    (case c8 => k_is)
    (case k8 => k_is)
    (case a9 => k_is)
    (case l9 => k_is)
    (case c9 => k_is)
    (case k9 => k_is)
    (case a10 => k_is)
    (case l10 => k_is)
    (case c10 => k_is)
    (case k10 => k_is)
    (case a11 => k_is)
    (case l11 => k_is)
    (case c11 => k_is)
    (case k11 => k_is)
    (case a12 => k_is)
    (case l12 => k_is)
    (case c12 => k_is)
    (case k12 => k_is)
    (case a13 => k_is)
    (case l13 => k_is)
    (case c13 => k_is)
    (case k13 => k_is)
    (case a14 => k_is)
    (case l14 => k_is)
    (case c14 => k_is)
    (case k14 => k_is)
    (case a15 => k_is)
    (case l15 => k_is)
    (case c15 => k_is)
    (case k15 => k_is)
    (case a16 => k_is)
    (case l16 => k_is)
    (case c16 => k_is)
    (case k16 => k_is)
    (case a17 => k_is)
    (case l17 => k_is)
    (case c17 => k_is)
    (case k17 => k_is)
    (case a18 => k_is)
    (case l18 => k_is)
    (case c18 => k_is)
    (case k18 => k_is)
    (case z_abs => k_is)
    (case z_all => k_is)
    (case z_bool => k_is)
    (case z_int => k_is)
    (case z_isinstance => k_is)
    (case z_len => k_is)
    (case z_list => k_is)
    (case z_max => k_is)
    (case z_min => k_is)
    (case z_range => k_is)
    (case z_tuple => k_is)
    (case z_COVER_MOST => k_is)
    (case z_VALUE_MOST => k_is)
