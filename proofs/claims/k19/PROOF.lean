import PyProof.Rows.All
import Wide.All
import OpenK.AllK
import Wide.FinOn
import HandS.ForMost
import HandS.Evl
import HandS.IsInst
import HandS.TupAny
import HandS.SortInts
import HandS.Conv
import HandS.TupLen
import HandS.TupMul
import HandS.Steps
import PyProof.ReprRoads
import PyProof.Rows.RegFStrParts
import HandS.Walk
import HandS.ForExc
import HandS.ExcInit
import HandS.ExcOwn
import HandS.ExcField
import HandS.WordsExc
import HandS.Defaults
import HandS.ExcIs
import KE.KExcIs
import PyProof.RulesMatchSeq
import PyProof.Rows.MatchSeqLen
import PyProof.EqKinds
import PyProof.P3In
import HandS.Deep
import PySem.Challenge.RW_onlythedirt_k19_paints_checked
set_option Elab.async false
set_option linter.all false
set_option maxRecDepth 100000
set_option maxHeartbeats 4000000
namespace Od
open PySem L2 Evl

/-! ### an object under another description -/
/-- the same objects, the one at a told otherwise -/
structure Swp (P : Program) (w : World) (H' H'' : Hp) (a : Addr) (o u : HO) : Prop where
  at1 : H' a = some o
  eq : H'' = upd H' a u
  nt : ∀ xs, o ≠ .tup xs
  nf : ∀ x y, o ≠ .frz x y
  nb : ∀ ps, o ≠ .tbl ps
  nw : ∀ x, o ≠ .own x
  to : ∀ h, HOk P w H' h → ObjOk P w H'' h a u
theorem Swp.ne {P : Program} {w : World} {H' H'' : Hp} {a b : Addr} {o u x : HO} (S : Swp P w H' H'' a o u) (h : H' b = some x) (d : o ≠ x) : b ≠ a := by
  intro e
  rw [e, S.at1] at h
  exact d (Option.some.inj h)
theorem Swp.hok {P : Program} {w : World} {H' H'' : Hp} {a : Addr} {o u : HO} {h : Heap} (S : Swp P w H' H'' a o u) (k : HOk P w H' h) : HOk P w H'' h := by
  intro b x e
  by_cases hb : b = a
  · subst hb
    have e2 := e
    rw [S.eq, upd_same] at e2
    cases e2
    exact S.to h k
  · have e1 : H' b = some x := by
      rw [S.eq, upd_ne hb] at e
      exact e
    refine (k b x e1).stay (fun c v _ q => q) (fun c q => ?_) (fun c xs q => ?_)
    · rw [S.eq, upd_ne (S.ne q (S.nw _))]
      exact q
    · rw [S.eq, upd_ne (S.ne q (S.nt _))]
      exact q
theorem Swp.unR {P : Program} {w : World} {H H' H'' : Hp} {a : Addr} {o u : HO} {h h' : Heap} {fs ex : List Addr} (S : Swp P w H' H'' a o u) (k : Un fs ex H H' h h') : Un fs ex H H'' h h' := by
  refine ⟨k.keep, k.slot, fun b x q n hx => ?_, k.there, fun b xs q => ?_, fun b x y q => ?_, fun b ps q => ?_⟩
  · have e := k.free b x q n hx
    rw [S.eq, upd_ne ?_]
    · exact e
    · intro z
      rw [z, S.at1] at e
      cases e
  · have e := k.tups b xs q
    rw [S.eq, upd_ne (S.ne e (S.nt _))]
    exact e
  · have e := k.frzs b x y q
    rw [S.eq, upd_ne (S.ne e (S.nf _ _))]
    exact e
  · obtain ⟨m, e⟩ := k.tbls b ps q
    refine ⟨m, ?_⟩
    rw [S.eq, upd_ne (S.ne e (S.nb _))]
    exact e
theorem Swp.unL {P : Program} {w : World} {H H1 H2 : Hp} {a : Addr} {o u : HO} {h h' : Heap} {fs ex : List Addr} (S : Swp P w H H1 a o u) (k : Un fs ex H1 H2 h h') : Un fs ex H H2 h h' := by
  have z : ∀ b, H b = none → H1 b = none := fun b n => by
    rw [S.eq, upd_ne ?_]
    · exact n
    · intro z
      rw [z, S.at1] at n
      cases n
  refine ⟨fun b x q n => k.keep b x q (z b n), fun b x q n => k.slot b x q (z b n), fun b x q n => k.free b x q (z b n), k.there, fun b xs q => k.tups b xs ?_, fun b x y q => k.frzs b x y ?_, fun b ps q => k.tbls b ps ?_⟩
  · rw [S.eq, upd_ne (S.ne q (S.nt _))]
    exact q
  · rw [S.eq, upd_ne (S.ne q (S.nf _ _))]
    exact q
  · rw [S.eq, upd_ne (S.ne q (S.nb _))]
    exact q
theorem Swp.env {P : Program} {w : World} {K : PySem.W.Frag} {mg : Str → Option Value} {base : Heap} {A : Around} {outer : List Env} {s : Shared} {H H1 : Hp} {a : Addr} {o u : HO}
    (S : Swp P w H H1 a o u) (e : Env0 P w K mg base A outer s H) : Env0 P w K mg base A outer s H1 := by
  have z : ∀ b, H b = none → H1 b = none := fun b n => by
    rw [S.eq, upd_ne ?_]
    · exact n
    · intro z
      rw [z, S.at1] at n
      cases n
  exact ⟨e.frames, e.mod, fun b x q => ⟨(e.bs b x q).1, z b (e.bs b x q).2⟩, e.bsz, e.funs, fun b hb => z b (e.frf b hb), S.hok e.hok, e.bare⟩

/-- behind a call the object at a is told otherwise -/
theorem CE.swp {P : Program} {w : World} {outer : List Env} {H : Hp} {s s' : Shared} {Q : VK} {u : Value}
    (h : CE outer P w H s (fun v H' => ∃ H'' a o x, Swp P w H' H'' a o x ∧ Q v H'') u s') : CE outer P w H s Q u s' := by
  obtain ⟨v, H', h1, h2, h3, h4, h5, H'', a, o, x, S, q⟩ := h
  exact ⟨v, H'', h1, h2, S.unR h3, S.hok h4, h5, q⟩
/-- a def's promise, its answer's object told otherwise -/
theorem FnOk.out {P : Program} {w : World} {K : PySem.W.Frag} {mg : Str → Option Value} {base : Heap} {k : Nat} {f : Addr} {fd : FuncData} {ps : List Str} {sp sp' : Sp} (F : FnOk P w K mg base CX0 k f fd ps sp)
    (hl : ∀ vs H Q E, sp' vs H Q E → vs.length = ps.length)
    (h : ∀ vs H Q E, sp' vs H Q E → sp vs H (fun v H' => ∃ H'' a o x, Swp P w H' H'' a o x ∧ Q v H'') E) : FnOk P w K mg base CX0 k f fd ps sp' := by
  refine ⟨hl, fun A outer s H args us vs Q E hr he hb hv hs => ?_⟩
  refine codeAny_mono (F.run A outer s H args us vs _ E hr he hb hv (h _ _ _ _ hs)) ?_
  intro r s' q
  match r, q with
  | .ok (.ret u), q => exact CE.swp q
  | .error e, q => exact q
end Od

namespace Od
open PySem L2 Evl

/-! ### the law's deck: a list whose state is not told -/
def deckV (n k seed : Int) (l : Addr) (c : Int) : List V := [.int n, .int k, .int seed, .ref l, .int c]
def IsDeck (l : Addr) (xs : List V) : Prop := ∃ n k seed c, xs = deckV n k seed l c ∧ 0 ≤ n ∧ 0 ≤ k ∧ 0 ≤ seed ∧ seed < 2147483647
def deckO (a l : Addr) : HO := .ext fun h => ∃ xs, IsDeck l xs ∧ ∃ (its : List Value) (n : Nat), Vals xs its ∧ h.get? a = some { cls := .type "list", data := .seq its.toArray n }
def DeckAt (K : PySem.W.Frag) (H : Hp) (a : Addr) : Prop := ∃ (l : Addr) (ns : List Int), H a = some (deckO a l) ∧ H l = some (.lst (ns.map V.int))
theorem DeckAt.mono {K : PySem.W.Frag} {H H' : Hp} {a : Addr} (e : Ex H H') (h : DeckAt K H a) : DeckAt K H' a := by
  obtain ⟨l, ns, h1, h2⟩ := h
  exact ⟨l, ns, e _ _ h1, e _ _ h2⟩
theorem isDeck_len {l : Addr} {xs : List V} (h : IsDeck l xs) : xs.length ≤ sizeLine := by
  obtain ⟨n, k, seed, c, rfl, _⟩ := h
  show 5 ≤ sizeLine
  decide
theorem deck_ok {P : Program} {w : World} {H : Hp} {h : Heap} {a l : Addr} {xs : List V} (d : IsDeck l xs) (k : ∃ (its : List Value) (n : Nat), Vals xs its ∧ h.get? a = some { cls := .type "list", data := .seq its.toArray n }) :
    ObjOk P w H h a (deckO a l) := by
  obtain ⟨its, n, r, e⟩ := k
  refine ⟨⟨xs, d, its, n, r, e⟩, ⟨_, e⟩, fun h1 h2 p q => ?_⟩
  obtain ⟨ys, d1, its1, n1, r1, e1⟩ := p
  exact ⟨ys, d1, its1, n1, r1, q _ e1⟩
/-- an open deck is closed -/
theorem swp_close {P : Program} {w : World} {H : Hp} {a l : Addr} {xs : List V} (h : H a = some (.lst xs)) (d : IsDeck l xs) : Swp P w H (upd H a (deckO a l)) a (.lst xs) (deckO a l) := by
  refine ⟨h, rfl, fun _ e => (nomatch e), fun _ _ e => (nomatch e), fun _ e => (nomatch e), fun _ e => (nomatch e), fun hp k => ?_⟩
  obtain ⟨_, its, n, r, e⟩ := k a _ h
  exact deck_ok d ⟨its, n, r, e⟩
/-- a closed deck is opened -/
theorem swp_open {P : Program} {w : World} {H : Hp} {h : Heap} {a l : Addr} (ha : H a = some (deckO a l)) (k : HOk P w H h) :
    ∃ xs, IsDeck l xs ∧ HOk P w (upd H a (.lst xs)) h := by
  obtain ⟨⟨xs, d, its, n, r, e⟩, _, _⟩ := k a _ ha
  refine ⟨xs, d, fun b x q => ?_⟩
  by_cases hb : b = a
  · subst hb
    rw [upd_same] at q
    cases q
    exact ⟨isDeck_len d, its, n, r, e⟩
  · rw [upd_ne hb] at q
    refine (k b x q).stay (fun c v _ q => q) (fun c q => ?_) (fun c xs q => ?_)
    · rw [upd_ne ?_]
      · exact q
      · intro z
        rw [z, ha] at q
        cases q
    · rw [upd_ne ?_]
      · exact q
      · intro z
        rw [z, ha] at q
        cases q
theorem un_open {H H2 : Hp} {a l : Addr} {xs : List V} {h h' : Heap} {fs ex : List Addr} (ha : H a = some (deckO a l)) (k : Un fs ex (upd H a (.lst xs)) H2 h h') : Un fs ex H H2 h h' := by
  have z : ∀ b, H b = none → upd H a (.lst xs) b = none := fun b n => by
    rw [upd_ne ?_]
    · exact n
    · intro z
      rw [z, ha] at n
      cases n
  refine ⟨fun b x q n => k.keep b x q (z b n), fun b x q n => k.slot b x q (z b n), fun b x q n => k.free b x q (z b n), k.there, fun b xs q => k.tups b xs ?_, fun b x y q => k.frzs b x y ?_, fun b ps q => k.tbls b ps ?_⟩
  · rw [upd_ne (ne_of q ha (fun e => nomatch e))]
    exact q
  · rw [upd_ne (ne_of q ha (fun e => nomatch e))]
    exact q
  · rw [upd_ne (ne_of q ha (fun e => nomatch e))]
    exact q
theorem env_open {P : Program} {w : World} {K : PySem.W.Frag} {mg : Str → Option Value} {base : Heap} {A : Around} {outer : List Env} {s : Shared} {H : Hp} {a l : Addr} {xs : List V} (ha : H a = some (deckO a l))
    (e : Env0 P w K mg base A outer s H) (hok : HOk P w (upd H a (.lst xs)) s.heap) : Env0 P w K mg base A outer s (upd H a (.lst xs)) := by
  have z : ∀ b, H b = none → upd H a (.lst xs) b = none := fun b n => by
    rw [upd_ne ?_]
    · exact n
    · intro z
      rw [z, ha] at n
      cases n
  exact ⟨e.frames, e.mod, fun b x q => ⟨(e.bs b x q).1, z b (e.bs b x q).2⟩, e.bsz, e.funs, fun b hb => z b (e.frf b hb), hok, e.bare⟩

/-- how a def that changes the open deck is told: n with 0 ≤ n < b -/
def spDrawO : Sp := fun vs H Q _ => ∃ (a : Addr) (b : Int) (l : Addr) (ns : List Int) (xs : List V), vs = [.ref a, .int b] ∧ H a = some (.lst xs) ∧ IsDeck l xs ∧ H l = some (.lst (ns.map V.int)) ∧ l ≠ a ∧ 0 < b ∧ b < 1073741824 ∧
  ∀ n ys, 0 ≤ n → n < b → IsDeck l ys → Q (.int n) (upd H a (.lst ys))
/-- .. the closed one -/
def spDraw (K : PySem.W.Frag) : Sp := fun vs H Q _ => ∃ a b, vs = [.ref a, .int b] ∧ DeckAt K H a ∧ 0 < b ∧ b < 1073741824 ∧ ∀ n, 0 ≤ n → n < b → Q (.int n) H
theorem upd_back {H : Hp} {a : Addr} {o u : HO} (h : H a = some o) : upd (upd H a u) a o = H := by
  funext b
  unfold upd
  by_cases e : b = a
  · simp [e, h]
  · simp [e]
theorem draw_closed {P : Program} {w : World} {K : PySem.W.Frag} {mg : Str → Option Value} {base : Heap} {k : Nat} {f : Addr} {fd : FuncData} {ps : List Str} (F : FnOk P w K mg base CX0 k f fd ps spDrawO) (hp : ps.length = 2) :
    FnOk P w K mg base CX0 k f fd ps (spDraw K) := by
  refine ⟨fun vs H Q E h => ?_, fun A outer s H args us vs Q E hr he hb hv hs => ?_⟩
  · obtain ⟨a, b, rfl, _⟩ := h
    exact hp.symm
  · obtain ⟨a, b, rfl, ⟨l, ns, h1, h2⟩, b0, b1, q⟩ := hs
    obtain ⟨xs, d, hok⟩ := swp_open h1 he.hok
    have hla : l ≠ a := ne_of h2 h1 (fun e => nomatch e)
    refine codeAny_mono (F.run A outer s (upd H a (.lst xs)) args us _ (fun v H' => ∃ ys, H' = upd H a (.lst ys) ∧ IsDeck l ys ∧ Q v H) E hr (env_open h1 he hok) hb hv ?_) ?_
    · refine ⟨a, b, l, ns, xs, rfl, upd_same, d, by rw [upd_ne hla]; exact h2, hla, b0, b1, fun n ys n0 n1 d2 => ⟨ys, ?_, d2, q n n0 n1⟩⟩
      rw [upd_upd]
    · intro r s' q2
      match r, q2 with
      | .ok (.ret u), q2 =>
        obtain ⟨v, H', c1, c2, c3, c4, c5, ys, rfl, d2, q3⟩ := q2
        have S := swp_close (P := P) (w := w) (H := upd H a (.lst ys)) (a := a) (l := l) upd_same d2
        have e := upd_back (u := .lst ys) h1
        rw [e] at S
        exact ⟨v, H, c1, c2, un_open h1 (S.unR c3), S.hok c4, c5, q3⟩
      | .error e, q2 => exact q2
/-- the def that makes the deck: open, closed -/
def spDeckO (K : PySem.W.Frag) : Sp := fun vs H Q _ => ∃ (a : Addr) (ns : List Int), vs = [.ref a] ∧ SqL K H a (ns.map V.int) ∧ ns.length ≤ 63 ∧ ∀ p l ys H', H p = none → Ex H H' → H' p = some (.lst ys) → IsDeck l ys → l ≠ p → H' l = some (.lst (ns.map V.int)) → Q (.ref p) H'
def spDeck (K : PySem.W.Frag) : Sp := fun vs H Q _ => ∃ (a : Addr) (ns : List Int), vs = [.ref a] ∧ SqL K H a (ns.map V.int) ∧ ns.length ≤ 63 ∧ ∀ p H', Ex H H' → DeckAt K H' p → Q (.ref p) H'
theorem deck_closed {P : Program} {w : World} {K : PySem.W.Frag} {mg : Str → Option Value} {base : Heap} {k : Nat} {f : Addr} {fd : FuncData} {ps : List Str} (F : FnOk P w K mg base CX0 k f fd ps (spDeckO K)) (hp : ps.length = 1) :
    FnOk P w K mg base CX0 k f fd ps (spDeck K) := by
  refine FnOk.out F (fun vs H Q E h => ?_) fun vs H Q E h => ?_
  · obtain ⟨a, ns, rfl, _⟩ := h
    exact hp.symm
  · obtain ⟨a, ns, rfl, h1, h2, q⟩ := h
    refine ⟨a, ns, rfl, h1, h2, fun p l ys H' hp e hy d hl h3 => ⟨upd H' p (deckO p l), p, .lst ys, deckO p l, swp_close hy d, q p _ ?_ ⟨l, ns, upd_same, by rw [upd_ne hl]; exact h3⟩⟩⟩
    exact Ex.mut e hp
end Od

namespace Od
open PySem L2 Evl

/-! ### what kind a value is -/
inductive Kn (H : Hp) : V → String → Prop
  | non : Kn H .non "NoneType"
  | bl (b : Bool) : Kn H (.bl b) "bool"
  | int (i : Int) : Kn H (.int i) "int"
  | str (x : Str) : Kn H (.str x) "str"
  | tup {a : Addr} {xs : List V} (h : H a = some (.tup xs)) : Kn H (.ref a) "tuple"
  | lst {a : Addr} {xs : List V} (h : H a = some (.lst xs)) : Kn H (.ref a) "list"
theorem Kn.mono {H H' : Hp} {v : V} {T : String} (e : Ex H H') (k : Kn H v T) : Kn H' v T := by
  cases k with
  | non => exact .non
  | bl b => exact .bl b
  | int i => exact .int i
  | str x => exact .str x
  | tup h => exact .tup (e _ _ h)
  | lst h => exact .lst (e _ _ h)
theorem Kn.ty {K : PySem.W.Frag} {H : Hp} {v : V} {T : String} (k : Kn H v T) : TyX K H v (.type T) := by
  cases k with
  | non => exact .base .non
  | bl b => exact .base (.bl b)
  | int i => exact .base (.int i)
  | str x => exact .base (.str x)
  | tup h => exact .base (.tup h)
  | lst h => exact .base (.lst h)
/-- isinstance of such a value -/
def isA (T n : String) : Bool := T == n || (T == "bool" && n == "int")
theorem kit_int {H : Hp} {v : V} {T : String} (k : Kn H v T) : kitB T "int" = some (isA T "int") := by
  cases k <;> decide +kernel
theorem kit_bool {H : Hp} {v : V} {T : String} (k : Kn H v T) : kitB T "bool" = some (isA T "bool") := by
  cases k <;> decide +kernel
theorem kit_tuple {H : Hp} {v : V} {T : String} (k : Kn H v T) : kitB T "tuple" = some (isA T "tuple") := by
  cases k <;> decide +kernel
theorem kit_list {H : Hp} {v : V} {T : String} (k : Kn H v T) : kitB T "list" = some (isA T "list") := by
  cases k <;> decide +kernel
theorem kit_str {H : Hp} {v : V} {T : String} (k : Kn H v T) : kitB T "str" = some (isA T "str") := by
  cases k <;> decide +kernel
theorem isi {K : PySem.W.Frag} {H : Hp} {v : V} {T n : String} {b : Bool} {Q : VK} (k : Kn H v T) (h : kitB T n = some b) (q : Q (.bl b) H) : rIsi K [v, .ty n] H Q :=
  ⟨v, _, _, _, b, rfl, .ty n, k.ty, kit_ty h, q⟩
def isI : V → Bool
  | .int _ => true
  | _ => false
theorem Kn.whole {H : Hp} {v : V} {T : String} (k : Kn H v T) : (isA T "int" && !isA T "bool") = isI v := by
  have h1 : (isA "NoneType" "int" && !isA "NoneType" "bool") = false := by decide +kernel
  have h2 : (isA "bool" "int" && !isA "bool" "bool") = false := by decide +kernel
  have h3 : (isA "int" "int" && !isA "int" "bool") = true := by decide +kernel
  have h4 : (isA "str" "int" && !isA "str" "bool") = false := by decide +kernel
  have h5 : (isA "tuple" "int" && !isA "tuple" "bool") = false := by decide +kernel
  have h6 : (isA "list" "int" && !isA "list" "bool") = false := by decide +kernel
  cases k with
  | non => exact h1
  | bl b => exact h2
  | int i => exact h3
  | str x => exact h4
  | tup h => exact h5
  | lst h => exact h6

/-- a comprehension's turn without a test -/
theorem lcY {σ : L2.St} {H : Hp} {A B : Hp → Prop} (h : A H) : tYes σ H (fun b H3 => if b = true then A H3 else B H3) := by
  show if true = true then A H else B H
  exact iteT h
/-- a def that is called: where it stands, what it promises -/
structure Def (P : Program) (w : World) (K : PySem.W.Frag) (mg : Str → Option Value) (base : Heap) (CX : CXT) (x : Str) (k : Nat) (ps : List Str) (sp : Sp) where
  f : Addr
  fd : FuncData
  ok : FnOk P w K mg base CX k f fd ps sp
  mgf : mg x = some (.ref f)
  kp : PySem.W.keepIn K (.ref f) = true
  b : L2.Binds K fd ps []
end Od

namespace Od
open PySem L2 Evl

theorem bt_isinstance : bootBuiltins "isinstance" = some (.builtin "isinstance") := by decide +kernel
theorem bt_len : bootBuiltins "len" = some (.builtin "len") := by decide +kernel
theorem bt_abs : bootBuiltins "abs" = some (.builtin "abs") := by decide +kernel
theorem bt_all : bootBuiltins "all" = some (.builtin "all") := by decide +kernel
theorem bt_any : bootBuiltins "any" = some (.builtin "any") := by decide +kernel
theorem bt_sorted : bootBuiltins "sorted" = some (.builtin "sorted") := by decide +kernel
theorem bt_min : bootBuiltins "min" = some (.builtin "min") := by decide +kernel
theorem bt_max : bootBuiltins "max" = some (.builtin "max") := by decide +kernel
theorem bt_sum : bootBuiltins "sum" = some (.builtin "sum") := by decide +kernel
theorem bt_repr : bootBuiltins "repr" = some (.builtin "repr") := by decide +kernel
theorem bt_int : bootBuiltins "int" = some (.type "int") := by decide +kernel
theorem bt_bool : bootBuiltins "bool" = some (.type "bool") := by decide +kernel
theorem bt_tuple : bootBuiltins "tuple" = some (.type "tuple") := by decide +kernel
theorem bt_list : bootBuiltins "list" = some (.type "list") := by decide +kernel
theorem bt_str : bootBuiltins "str" = some (.type "str") := by decide +kernel
theorem bt_range : bootBuiltins "range" = some (.type "range") := by decide +kernel
theorem bt_enumerate : bootBuiltins "enumerate" = some (.type "enumerate") := by decide +kernel
theorem bt_zip : bootBuiltins "zip" = some (.type "zip") := by decide +kernel
theorem bt_ValueError : bootBuiltins "ValueError" = some (.type "ValueError") := by decide +kernel
theorem pickV {xs : List V} {i : Int} (h0 : 0 ≤ i) (h1 : i < xs.length) : ∃ v, v ∈ xs ∧ atI xs i = some v := by
  obtain ⟨m, rfl⟩ := Int.eq_ofNat_of_zero_le h0
  have hm : m < xs.length := by omega
  exact ⟨xs[m], List.getElem_mem hm, atI_nat (List.getElem?_eq_getElem hm)⟩
theorem pickI {ns : List Int} {i : Int} (h0 : 0 ≤ i) (h1 : i < ns.length) : ∃ w, w ∈ ns ∧ atI (ns.map V.int) i = some (.int w) := by
  obtain ⟨m, rfl⟩ := Int.eq_ofNat_of_zero_le h0
  have hm : m < ns.length := by omega
  exact ⟨ns[m], List.getElem_mem hm, atI_nat (by rw [List.getElem?_map, List.getElem?_eq_getElem hm]; rfl)⟩
theorem ex_free {H H' : Hp} {p : Addr} (e : Ex H H') (h : H' p = none) : H p = none := fresh_back e h
/-- a rectangle of ints stands at p -/
def RectAt (H : Hp) (p : Addr) (l t r b : Int) : Prop := H p = some (.tup [.int l, .int t, .int r, .int b])
theorem cutV_whole {xs : List V} {lo hi : Option Int} (h : HT.sIx xs.length 0 lo = 0 ∧ HT.sIx xs.length xs.length hi = xs.length) : cutV xs lo hi = xs := by
  unfold cutV
  rw [h.1, h.2]
  simp
structure RSlS (K : PySem.W.Frag) (x : V) (lo hi : Option Int) (H : Hp) (Q : VK) : Prop where
  h : rSlA K x lo hi H Q
structure RCatS (K : PySem.W.Frag) (x y : V) (H : Hp) (Q : VK) : Prop where
  h : rCatA K x y H Q
theorem slA {K : PySem.W.Frag} {H : Hp} {a : Addr} {xs : List V} {lo hi : Option Int} {Q : VK} (h : H a = some (.tup xs)) (q : ∀ p H', Ex H H' → H' p = some (.tup (cutV xs lo hi)) → Q (.ref p) H') : RSlS K (.ref a) lo hi H Q := by
  refine .mk ?_
  refine ⟨a, xs, rfl, SqT.of h, fun hw => ?_, fun _ p hp => q p _ (Ex.new hp) upd_same⟩
  refine q a H (Ex.refl _) ?_
  rw [cutV_whole hw]
  exact h
theorem catA {K : PySem.W.Frag} {H : Hp} {a b : Addr} {xs ys : List V} {Q : VK} (h : H a = some (.tup xs)) (h' : H b = some (.tup ys)) (hl : xs.length + ys.length ≤ sizeLine) (q : ∀ p H', Ex H H' → H' p = some (.tup (xs ++ ys)) → Q (.ref p) H') : RCatS K (.ref a) (.ref b) H Q := by
  refine .mk ?_
  refine ⟨a, b, xs, ys, rfl, rfl, SqT.of h, SqT.of h', hl, fun e => ?_, fun _ e => ?_, fun _ _ p hp => q p _ (Ex.new hp) upd_same⟩
  · refine q b H (Ex.refl _) ?_
    rw [e]
    exact h'
  · refine q a H (Ex.refl _) ?_
    rw [e, List.append_nil]
    exact h
theorem mem_cutV {xs : List V} {lo hi : Option Int} {x : V} (h : x ∈ cutV xs lo hi) : x ∈ xs := List.mem_of_mem_drop (List.mem_of_mem_take h)
end Od

namespace Od
open PySem L2 Evl
/-! ### the rules with the written part told -/
section
variable {X : Cx} (K : PySem.W.Frag)
theorem kisi (h : X.K = K := by rfl) : CallR X (.builtin "isinstance") (rIsi K) := by
  subst h
  exact call_isi
theorem kixL (h : X.K = K := by rfl) : IxR X (rIxL K) := by
  subst h
  exact ix_list
theorem kixT (h : X.K = K := by rfl) : IxR X (rIxT K) := by
  subst h
  exact ix_tup
theorem kixS (h : X.K = K := by rfl) : IxR X (rIx K) := by
  subst h
  exact ix_seq
theorem kslL (h : X.K = K := by rfl) : SlR X (rSlL K) := by
  subst h
  exact sl_list
theorem kslA (h : X.K = K := by rfl) : SlR X (RSlS K) := by
  subst h
  exact fun pins s σ H x v vl vu lo hi sl Q I r hs pl pu q => sl_tupA pins s σ H x v vl vu lo hi sl Q I r hs pl pu q.h
theorem kcatA (h : X.K = K := by rfl) : OpR X (binaryOp .Add) (RCatS K) := by
  subst h
  exact fun pins s σ H x y v u Q I rx ry q => op_catA pins s σ H x y v u Q I rx ry q.h
theorem krepT (h : X.K = K := by rfl) : OpR X (binaryOp .Mult) (rRepT K) := by
  subst h
  exact op_repT
theorem keqD (hu : X.A.units + 64 < cLine) (h : X.K = K := by rfl) : OpR X (compareOp .Eq) (rEqD K) := by
  subst h
  exact op_eqD hu
theorem kneD (hu : X.A.units + 64 < cLine) (h : X.K = K := by rfl) : OpR X (compareOp .NotEq) (rNeD K) := by
  subst h
  exact op_neD hu
theorem kin (h : X.K = K := by rfl) : OpR X (compareOp .In) (rIn K false) := by
  subst h
  exact op_in_seq
theorem knotin (h : X.K = K := by rfl) : OpR X (compareOp .NotIn) (rIn K true) := by
  subst h
  exact op_notIn_seq
theorem klen (h : X.K = K := by rfl) : CallR X (.builtin "len") (rLenS K) := by
  subst h
  exact call_len_seq
theorem klist (h : X.K = K := by rfl) : CallR X (.type "list") (rListS K) := by
  subst h
  exact call_list_of
def rTupS (K : PySem.W.Frag) : List V → Hp → VK → Prop := fun xs H Q => ∃ p ys, xs = [.ref p] ∧ ((SqL K H p ys ∧ ∀ l, H l = none → Q (.ref l) (upd H l (.tup ys))) ∨ (SqT K H p ys ∧ Q (.ref p) H))
theorem ktuple (h : X.K = K := by rfl) : CallR X (.type "tuple") (rTupS K) := by
  subst h
  exact call_tuple_of
theorem ksum (hc : X.calm = true) (h : X.K = K := by rfl) : CallR X (.builtin "sum") (rSum K) := by
  subst h
  exact cr_sum hc
theorem kmax (hc : X.calm = true) (h : X.K = K := by rfl) : CallR X (.builtin "max") (rMax K) := by
  subst h
  exact cr_max hc
theorem kmin (hc : X.calm = true) (h : X.K = K := by rfl) : CallR X (.builtin "min") (rMin K) := by
  subst h
  exact cr_min hc
theorem kall (hc : X.calm = true) (h : X.K = K := by rfl) : CallR X (.builtin "all") (rAll K) := by
  subst h
  exact cr_all hc
theorem kany (hc : X.calm = true) (h : X.K = K := by rfl) : CallR X (.builtin "any") (rAny K) := by
  subst h
  exact cr_any hc
theorem ksorted (h : X.K = K := by rfl) : CallR X (.builtin "sorted") (rSortedI K) := by
  subst h
  exact cr_sortedI
variable {tg : Expr}
theorem kpiL {l : Expr} {tl : TE} (hl : PE X l tl) (h : X.K = K := by rfl) : PI X tg l (iList K tl) := by
  subst h
  exact pi_list hl
theorem kpiT {l : Expr} {tl : TE} (hl : PE X l tl) (h : X.K = K := by rfl) : PI X tg l (iTup K tl) := by
  subst h
  exact pi_tup hl
theorem kpgT {es : List Expr} {k : Nat} {t : TGs} {n : Nat} {pos : Pos} (hc : X.calm = true) (hh : PGs X es t) (hn : (assignEach es X.env).length = n := by rfl) (hst : (assignEach es X.env).findIdx? (·.1) = none := by rfl) (h : X.K = K := by rfl) : PG X (.Tuple es k pos) (gTup K n t) := by
  subst h
  exact pg_tup hc hh hn hst
theorem ktru {a : Expr} {ta : TE} (ha : PE X a ta) (he : ∀ whole, isTrue a X.env whole = (do let v ← whole; standAt a.pos; holding [v] (truthy v)) := by intro _; rfl) (h : X.K = K := by rfl) : PT X a (L2.tTru K ta) := by
  subst h
  exact pt_truth ha he
end
end Od

namespace Od
open PySem L2 Evl

/-! ### tuples stay -/
def TK (H H' : Hp) : Prop := ∀ a xs, H a = some (.tup xs) → H' a = some (.tup xs)
theorem TK.refl (H : Hp) : TK H H := fun _ _ h => h
theorem TK.trans {H H1 H2 : Hp} (a : TK H H1) (b : TK H1 H2) : TK H H2 := fun x o h => b x o (a x o h)
theorem TK.ex {H H' : Hp} (e : Ex H H') : TK H H' := fun a xs h => e a _ h
theorem TK.lst {H : Hp} {p : Addr} {xs : List V} {o : HO} (h : H p = some (.lst xs)) : TK H (upd H p o) := fun a ys h' => by
  rw [upd_ne]
  · exact h'
  · intro e
    rw [e, h] at h'
    cases h'
theorem TK.dT {H : Hp} {p : Addr} {xs : List (List Key × V)} {o : HO} (h : H p = some (.dT xs)) : TK H (upd H p o) := fun a ys h' => by
  rw [upd_ne]
  · exact h'
  · intro e
    rw [e, h] at h'
    cases h'
theorem TK.dK {H : Hp} {p : Addr} {xs : List (Key × V)} {o : HO} (h : H p = some (.dK xs)) : TK H (upd H p o) := fun a ys h' => by
  rw [upd_ne]
  · exact h'
  · intro e
    rw [e, h] at h'
    cases h'
theorem TK.fresh {H : Hp} {p : Addr} {o : HO} (h : H p = none) : TK H (upd H p o) := TK.ex (Ex.new h)

/-! ### lists of pairs, of rectangles -/
abbrev Pt := Int × Int
structure Rc where
  l : Int
  t : Int
  r : Int
  b : Int
  deriving DecidableEq
def PtV (H : Hp) (v : V) (q : Pt) : Prop := ∃ p, v = .ref p ∧ H p = some (.tup [.int q.1, .int q.2])
def RcV (H : Hp) (v : V) (q : Rc) : Prop := ∃ p, v = .ref p ∧ H p = some (.tup [.int q.l, .int q.t, .int q.r, .int q.b])
theorem PtV.tk {H H' : Hp} {v : V} {q : Pt} (e : TK H H') (h : PtV H v q) : PtV H' v q := by
  obtain ⟨p, rfl, h⟩ := h
  exact ⟨p, rfl, e _ _ h⟩
theorem RcV.tk {H H' : Hp} {v : V} {q : Rc} (e : TK H H') (h : RcV H v q) : RcV H' v q := by
  obtain ⟨p, rfl, h⟩ := h
  exact ⟨p, rfl, e _ _ h⟩
abbrev RcsV (H : Hp) : List V → List Rc → Prop := Paired (RcV H)
abbrev PtsV (H : Hp) : List V → List Pt → Prop := Paired (PtV H)
theorem RcsV.tk {H H' : Hp} {vs : List V} {qs : List Rc} (e : TK H H') (h : RcsV H vs qs) : RcsV H' vs qs := Paired.mapP h fun _ _ => RcV.tk e
theorem PtsV.tk {H H' : Hp} {vs : List V} {qs : List Pt} (e : TK H H') (h : PtsV H vs qs) : PtsV H' vs qs := Paired.mapP h fun _ _ => PtV.tk e
theorem pr_get {α β : Type} {G : α → β → Prop} : ∀ {l₁ : List α} {l₂ : List β}, Paired G l₁ l₂ → ∀ {i : Nat} {a : α}, l₁[i]? = some a → ∃ b, l₂[i]? = some b ∧ G a b
  | _, _, .nil, i, a, h => by simp at h
  | _, _, .cons r t, 0, a, h => by
    simp at h
    subst h
    exact ⟨_, rfl, r⟩
  | _, _, .cons r t, i + 1, a, h => by
    obtain ⟨b, h1, h2⟩ := pr_get t (i := i) (a := a) (by simpa using h)
    exact ⟨b, by simpa using h1, h2⟩
theorem pr_getR {α β : Type} {G : α → β → Prop} : ∀ {l₁ : List α} {l₂ : List β}, Paired G l₁ l₂ → ∀ {i : Nat} {b : β}, l₂[i]? = some b → ∃ a, l₁[i]? = some a ∧ G a b
  | _, _, .nil, i, a, h => by simp at h
  | _, _, .cons r t, 0, a, h => by
    simp at h
    subst h
    exact ⟨_, rfl, r⟩
  | _, _, .cons r t, i + 1, a, h => by
    obtain ⟨b, h1, h2⟩ := pr_getR t (i := i) (b := a) (by simpa using h)
    exact ⟨b, by simpa using h1, h2⟩
theorem pr_append {α β : Type} {G : α → β → Prop} : ∀ {l₁ k₁ : List α} {l₂ k₂ : List β}, Paired G l₁ l₂ → Paired G k₁ k₂ → Paired G (l₁ ++ k₁) (l₂ ++ k₂)
  | _, _, _, _, .nil, h => h
  | _, _, _, _, .cons r t, h => .cons r (pr_append t h)
/-- an item of a list of rectangles at an index that lies in it -/
theorem pickR {H : Hp} {vs : List V} {qs : List Rc} (h : RcsV H vs qs) {i : Int} (h0 : 0 ≤ i) (h1 : i < vs.length) : ∃ p q, q ∈ qs ∧ atI vs i = some (.ref p) ∧ H p = some (.tup [.int q.l, .int q.t, .int q.r, .int q.b]) := by
  obtain ⟨m, rfl⟩ := Int.eq_ofNat_of_zero_le h0
  have hm : m < vs.length := by omega
  obtain ⟨q, hq, p, e, hp⟩ := pr_get h (List.getElem?_eq_getElem hm)
  exact ⟨p, q, List.mem_of_getElem? hq, by rw [← e]; exact atI_nat (List.getElem?_eq_getElem hm), hp⟩
/-- the bounds of drawn rectangles -/
def Small (m : Int) (q : Rc) : Prop := q.l < q.r ∧ q.t < q.b ∧ q.r - q.l ≤ 50 ∧ q.b - q.t ≤ 50 ∧ -m ≤ q.l ∧ q.r ≤ m ∧ -m ≤ q.t ∧ q.b ≤ m
theorem Small.mono {m n : Int} {q : Rc} (h : Small m q) (e : m ≤ n) : Small n q := by
  obtain ⟨a, b, c, d, e1, e2, e3, e4⟩ := h
  refine ⟨a, b, c, d, ?_, ?_, ?_, ?_⟩ <;> omega
theorem sline {n : Nat} (h : n ≤ 1000000) : n ≤ sizeLine := Nat.le_trans h (by decide)
theorem slineL {n : Nat} (h : n < 1000000) : n < sizeLine := Nat.lt_of_lt_of_le h (by decide)
end Od

namespace Od
open PySem L2 Evl

/-! ### a dict of points -/
def ptK (q : Pt) : List Key := [.inl q.1, .inl q.2]
def mkd (pts : List Pt) : List (List Key × V) := pts.map fun q => (ptK q, V.bl true)
theorem ptK_inj {a b : Pt} (h : ptK a = ptK b) : a = b := by
  unfold ptK at h
  injection h with h1 h2
  injection h2 with h2 _
  injection h1 with h1
  injection h2 with h2
  exact Prod.ext h1 h2
theorem ptK_dec (a b : Pt) : decide (ptK a = ptK b) = decide (a = b) := by
  by_cases e : a = b
  · rw [e, decide_eq_true rfl, decide_eq_true rfl]
  · rw [decide_eq_false e, decide_eq_false fun z => e (ptK_inj z)]
theorem mkd_any (pts : List Pt) (q : Pt) : ((mkd pts).any fun kv => decide (kv.1 = ptK q)) = decide (q ∈ pts) := by
  unfold mkd
  rw [List.any_map]
  induction pts with
  | nil => simp
  | cons p r ih =>
    rw [List.any_cons, ih]
    show (decide (ptK p = ptK q) || decide (q ∈ r)) = decide (q ∈ p :: r)
    rw [ptK_dec]
    by_cases h1 : p = q
    · simp [h1]
    · by_cases h2 : q ∈ r
      · simp [h2]
      · have : ¬ q = p := fun e => h1 e.symm
        simp [h1, h2, this]
theorem mkd_put (pts : List Pt) (q : Pt) : putK (mkd pts) (ptK q) (V.bl true) = mkd (if q ∈ pts then pts else pts ++ [q]) := by
  unfold putK
  rw [mkd_any]
  by_cases h : q ∈ pts
  · rw [if_pos h, decide_eq_true h, if_pos rfl]
    unfold mkd
    rw [List.map_map]
    refine List.map_congr_left fun p _ => ?_
    show (if ptK p = ptK q then (ptK p, V.bl true) else (ptK p, V.bl true)) = (ptK p, V.bl true)
    split <;> rfl
  · rw [if_neg h, decide_eq_false h, if_neg Bool.false_ne_true]
    unfold mkd
    rw [List.map_append]
    rfl
theorem mkd_val (pts : List Pt) (q : Pt) : (valV (mkd pts) (ptK q)).isSome = decide (q ∈ pts) := by
  rw [← valV_any, mkd_any]
def addP (pts : List Pt) (q : Pt) : List Pt := if q ∈ pts then pts else pts ++ [q]
theorem mem_addP {pts : List Pt} {q p : Pt} : p ∈ addP pts q ↔ p ∈ pts ∨ p = q := by
  unfold addP
  split
  · rename_i h
    constructor
    · exact .inl
    · rintro (h1 | rfl)
      · exact h1
      · exact h
  · simp
theorem nodup_addP {pts : List Pt} {q : Pt} (h : pts.Nodup) : (addP pts q).Nodup := by
  unfold addP
  split
  · exact h
  · rename_i hn
    rw [List.nodup_append]
    refine ⟨h, by simp, fun a ha b hb => ?_⟩
    rw [List.mem_singleton.mp hb]
    intro e
    rw [e] at ha
    exact hn ha
theorem len_addP (pts : List Pt) (q : Pt) : (addP pts q).length ≤ pts.length + 1 := by
  unfold addP
  split
  · omega
  · simp
theorem mkd_len (pts : List Pt) : (mkd pts).length = pts.length := by
  unfold mkd
  rw [List.length_map]
def inRc (q : Rc) (x y : Int) : Prop := q.l ≤ x ∧ x < q.r ∧ q.t ≤ y ∧ y < q.b
theorem mem_take_succ {α : Type} {l : List α} {i : Nat} {a x : α} (h : l[i]? = some a) : x ∈ l.take (i + 1) ↔ x ∈ l.take i ∨ x = a := by
  rw [List.take_add_one, h]
  simp
end Od

namespace Od

/-! ### runs -/
def RunsFrom : Int → List Pt → Prop
  | _, [] => True
  | b, q :: t => b < q.1 ∧ q.1 < q.2 ∧ RunsFrom q.2 t
def inRuns (rs : List Pt) (x : Int) : Prop := ∃ q ∈ rs, q.1 ≤ x ∧ x < q.2
theorem RunsFrom.mono {b c : Int} {rs : List Pt} (h : RunsFrom b rs) (e : c ≤ b) : RunsFrom c rs := by
  cases rs with
  | nil => trivial
  | cons q t => exact ⟨by have := h.1; omega, h.2.1, h.2.2⟩
theorem RunsFrom.lt {b : Int} : ∀ {rs : List Pt} {b : Int} {x : Int}, RunsFrom b rs → inRuns rs x → b < x
  | [], _, _, _, ⟨_, h, _⟩ => by simp at h
  | q :: t, b, x, h, ⟨p, hp, h1, h2⟩ => by
    rcases List.mem_cons.mp hp with rfl | hp
    · have := h.1
      omega
    · have := RunsFrom.lt (b := b) h.2.2 ⟨p, hp, h1, h2⟩
      have := h.1
      have := h.2.1
      omega
theorem inRuns_cons {q : Pt} {t : List Pt} {x : Int} : inRuns (q :: t) x ↔ (q.1 ≤ x ∧ x < q.2) ∨ inRuns t x := by
  constructor
  · rintro ⟨p, hp, h⟩
    rcases List.mem_cons.mp hp with rfl | hp
    · exact .inl h
    · exact .inr ⟨p, hp, h⟩
  · rintro (h | ⟨p, hp, h⟩)
    · exact ⟨q, by simp, h⟩
    · exact ⟨p, by simp [hp], h⟩
theorem inRuns_nil {x : Int} : ¬ inRuns [] x := fun ⟨_, h, _⟩ => by simp at h
theorem RunsFrom.some {b : Int} {q : Pt} {t : List Pt} (h : RunsFrom b (q :: t)) : inRuns (q :: t) q.1 := inRuns_cons.mpr (.inl ⟨by omega, h.2.1⟩)
theorem runs_uniq : ∀ {rs ss : List Pt} {b c : Int}, RunsFrom b rs → RunsFrom c ss → (∀ x, inRuns rs x ↔ inRuns ss x) → rs = ss
  | [], [], _, _, _, _, _ => rfl
  | [], q :: t, _, _, _, h, e => absurd ((e q.1).mpr h.some) inRuns_nil
  | q :: t, [], _, _, h, _, e => absurd ((e q.1).mp h.some) inRuns_nil
  | q :: t, p :: u, b, c, h, k, e => by
    have e1 : q.1 = p.1 := by
      have h1 := (e q.1).mp h.some
      have k1 := (e p.1).mpr k.some
      have h2 : p.1 ≤ q.1 := by
        rcases inRuns_cons.mp h1 with z | z
        · omega
        · have := RunsFrom.lt (b := b) k.2.2 z
          have := k.2.1
          omega
      have k2 : q.1 ≤ p.1 := by
        rcases inRuns_cons.mp k1 with z | z
        · omega
        · have := RunsFrom.lt (b := b) h.2.2 z
          have := h.2.1
          omega
      omega
    have hq := h.2.1
    have kp := k.2.1
    have e2 : q.2 = p.2 := by
      rcases Int.lt_trichotomy q.2 p.2 with z | z | z
      · exfalso
        have h1 : inRuns (p :: u) q.2 := inRuns_cons.mpr (.inl ⟨by omega, z⟩)
        rcases inRuns_cons.mp ((e q.2).mpr h1) with y | y
        · omega
        · have := RunsFrom.lt (b := b) h.2.2 y
          omega
      · exact z
      · exfalso
        have h1 : inRuns (q :: t) p.2 := inRuns_cons.mpr (.inl ⟨by omega, z⟩)
        rcases inRuns_cons.mp ((e p.2).mp h1) with y | y
        · omega
        · have := RunsFrom.lt (b := b) k.2.2 y
          omega
    have eq : q = p := Prod.ext e1 e2
    subst eq
    have et : t = u := runs_uniq h.2.2 k.2.2 fun x => by
      constructor
      · intro z
        have := RunsFrom.lt (b := b) h.2.2 z
        rcases inRuns_cons.mp ((e x).mp (inRuns_cons.mpr (.inr z))) with y | y
        · omega
        · exact y
      · intro z
        have := RunsFrom.lt (b := b) k.2.2 z
        rcases inRuns_cons.mp ((e x).mpr (inRuns_cons.mpr (.inr z))) with y | y
        · omega
        · exact y
    rw [et]
def RunsOk (rs : List Pt) : Prop := ∃ b, RunsFrom b rs

/-! ### bands -/
structure Bd where
  t : Int
  b : Int
  rs : List Pt
  deriving DecidableEq
def BandsFrom : Int → List Pt → List Bd → Prop
  | _, _, [] => True
  | y, prev, d :: t => y ≤ d.t ∧ (y = d.t → prev ≠ d.rs) ∧ d.t < d.b ∧ d.rs ≠ [] ∧ RunsOk d.rs ∧ BandsFrom d.b d.rs t
def inBands (bs : List Bd) (x y : Int) : Prop := ∃ d ∈ bs, d.t ≤ y ∧ y < d.b ∧ inRuns d.rs x
theorem inBands_nil {x y : Int} : ¬ inBands [] x y := fun ⟨_, h, _⟩ => by simp at h
theorem inBands_cons {d : Bd} {t : List Bd} {x y : Int} : inBands (d :: t) x y ↔ (d.t ≤ y ∧ y < d.b ∧ inRuns d.rs x) ∨ inBands t x y := by
  constructor
  · rintro ⟨p, hp, h⟩
    rcases List.mem_cons.mp hp with rfl | hp
    · exact .inl h
    · exact .inr ⟨p, hp, h⟩
  · rintro (h | ⟨p, hp, h⟩)
    · exact ⟨d, by simp, h⟩
    · exact ⟨p, by simp [hp], h⟩
theorem BandsFrom.le : ∀ {bs : List Bd} {y : Int} {p : List Pt} {x y' : Int}, BandsFrom y p bs → inBands bs x y' → y ≤ y'
  | [], _, _, _, _, _, h => absurd h inBands_nil
  | d :: t, y, p, x, y', h, k => by
    rcases inBands_cons.mp k with z | z
    · have := h.1
      omega
    · have := BandsFrom.le h.2.2.2.2.2 z
      have := h.1
      have := h.2.2.1
      omega
theorem BandsFrom.mono {bs : List Bd} {y y' : Int} (h : BandsFrom y [] bs) (e : y' ≤ y) : BandsFrom y' [] bs := by
  cases bs with
  | nil => trivial
  | cons d t => exact ⟨by have := h.1; omega, fun _ => fun z => h.2.2.2.1 z.symm, h.2.2⟩
/-- the rows of the first band, the rows behind it -/
theorem BandsFrom.row {d : Bd} {t : List Bd} {y : Int} {p : List Pt} (h : BandsFrom y p (d :: t)) {x y' : Int} (h1 : d.t ≤ y') (h2 : y' < d.b) : inBands (d :: t) x y' ↔ inRuns d.rs x := by
  rw [inBands_cons]
  constructor
  · rintro (z | z)
    · exact z.2.2
    · have := BandsFrom.le h.2.2.2.2.2 z
      omega
  · exact fun z => .inl ⟨h1, h2, z⟩
theorem BandsFrom.behind {d : Bd} {t : List Bd} {x y' : Int} (h2 : d.b ≤ y') : inBands (d :: t) x y' ↔ inBands t x y' := by
  rw [inBands_cons]
  constructor
  · rintro (z | z)
    · omega
    · exact z
  · exact .inr
theorem runs_some {rs : List Pt} (h : RunsOk rs) (n : rs ≠ []) : ∃ x, inRuns rs x := by
  obtain ⟨b, h⟩ := h
  cases rs with
  | nil => exact absurd rfl n
  | cons q t => exact ⟨_, h.some⟩
theorem runsOk_uniq {rs ss : List Pt} (h : RunsOk rs) (k : RunsOk ss) (e : ∀ x, inRuns rs x ↔ inRuns ss x) : rs = ss := by
  obtain ⟨b, h⟩ := h
  obtain ⟨c, k⟩ := k
  exact runs_uniq h k e
/-- a band can't end where another description of the same set goes on -/
theorem no_end {d c : Bd} {t u : List Bd} {y : Int} {p : List Pt} (h : BandsFrom y p (d :: t)) (k : BandsFrom y p (c :: u)) (e : ∀ x y', inBands (d :: t) x y' ↔ inBands (c :: u) x y') (et : d.t = c.t) (er : d.rs = c.rs) (hl : d.b < c.b) : False := by
  have hdb := h.2.2.1
  have row : ∀ x, inBands t x d.b ↔ inRuns c.rs x := fun x => by
    rw [← BandsFrom.behind (d := d) (t := t) (Int.le_refl _), e, k.row (by omega) hl]
  obtain ⟨x0, hx0⟩ := runs_some k.2.2.2.2.1 k.2.2.2.1
  cases t with
  | nil => exact inBands_nil ((row x0).mpr hx0)
  | cons d2 t2 =>
    have h2 := h.2.2.2.2.2
    have hle := h2.1
    by_cases z : d.b = d2.t
    · have er2 : d2.rs = c.rs := runsOk_uniq h2.2.2.2.2.1 k.2.2.2.2.1 fun x => by
        rw [← row x, h2.row (by omega) (by have := h2.2.2.1; omega)]
      exact h2.2.1 z (er.trans er2.symm)
    · have m := (row x0).mpr hx0
      have h3 : BandsFrom d2.t [] (d2 :: t2) := ⟨by omega, fun _ w => h2.2.2.2.1 w.symm, h2.2.2⟩
      have := BandsFrom.le h3 m
      omega
theorem bands_uniq : ∀ {bs cs : List Bd} {y : Int} {p : List Pt}, BandsFrom y p bs → BandsFrom y p cs → (∀ x y', inBands bs x y' ↔ inBands cs x y') → bs = cs
  | [], [], _, _, _, _, _ => rfl
  | [], c :: u, _, _, _, k, e => by
    obtain ⟨x0, hx0⟩ := runs_some k.2.2.2.2.1 k.2.2.2.1
    exact absurd ((e x0 c.t).mpr ((k.row (by omega) k.2.2.1).mpr hx0)) inBands_nil
  | d :: t, [], _, _, h, _, e => by
    obtain ⟨x0, hx0⟩ := runs_some h.2.2.2.2.1 h.2.2.2.1
    exact absurd ((e x0 d.t).mp ((h.row (by omega) h.2.2.1).mpr hx0)) inBands_nil
  | d :: t, c :: u, y, p, h, k, e => by
    have first : ∀ {d c : Bd} {t u : List Bd}, BandsFrom y p (d :: t) → BandsFrom y p (c :: u) → (∀ x y', inBands (d :: t) x y' ↔ inBands (c :: u) x y') → c.t ≤ d.t := by
      intro d c t u h k e
      obtain ⟨x0, hx0⟩ := runs_some h.2.2.2.2.1 h.2.2.2.1
      have m := (e x0 d.t).mp ((h.row (by omega) h.2.2.1).mpr hx0)
      have k2 : BandsFrom c.t [] (c :: u) := ⟨by omega, fun _ w => k.2.2.2.1 w.symm, k.2.2⟩
      exact BandsFrom.le k2 m
    have et : d.t = c.t := by
      have := first h k e
      have := first k h fun x y => (e x y).symm
      omega
    have er : d.rs = c.rs := runsOk_uniq h.2.2.2.2.1 k.2.2.2.2.1 fun x => by
      rw [← h.row (x := x) (y' := d.t) (by omega) h.2.2.1, e, k.row (by omega) (by have := k.2.2.1; omega)]
    have eb : d.b = c.b := by
      rcases Int.lt_trichotomy d.b c.b with z | z | z
      · exact (no_end h k e et er z).elim
      · exact z
      · exact (no_end k h (fun x y => (e x y).symm) et.symm er.symm z).elim
    have ed : d = c := by
      cases d
      cases c
      simp only at et er eb
      rw [et, er, eb]
    subst ed
    rw [bands_uniq h.2.2.2.2.2 k.2.2.2.2.2 fun x y' => ?_]
    by_cases z : d.b ≤ y'
    · rw [← BandsFrom.behind (d := d) (t := t) z, e, BandsFrom.behind z]
    · constructor
      · intro m
        have := BandsFrom.le h.2.2.2.2.2 m
        omega
      · intro m
        have := BandsFrom.le k.2.2.2.2.2 m
        omega

/-! ### the written form -/
def bandRc (d : Bd) : List Rc := d.rs.map fun q => ⟨q.1, d.t, q.2, d.b⟩
def formOf (bs : List Bd) : List Rc := bs.flatMap bandRc
def IsForm (S : Int → Int → Prop) (f : List Rc) : Prop := ∃ y bs, BandsFrom y [] bs ∧ (∀ x y', inBands bs x y' ↔ S x y') ∧ f = formOf bs
theorem form_uniq {S S' : Int → Int → Prop} {f g : List Rc} (h : IsForm S f) (k : IsForm S' g) (e : ∀ x y, S x y ↔ S' x y) : f = g := by
  obtain ⟨y, bs, h1, h2, rfl⟩ := h
  obtain ⟨z, cs, k1, k2, rfl⟩ := k
  rw [bands_uniq (h1.mono (Int.min_le_left y z)) (k1.mono (Int.min_le_right y z)) fun x y' => by rw [h2, k2, e]]
theorem mem_form {bs : List Bd} {x y : Int} : inBands bs x y ↔ ∃ q ∈ formOf bs, inRc q x y := by
  constructor
  · rintro ⟨d, hd, h1, h2, q, hq, h3, h4⟩
    exact ⟨⟨q.1, d.t, q.2, d.b⟩, List.mem_flatMap.mpr ⟨d, hd, List.mem_map.mpr ⟨q, hq, rfl⟩⟩, h3, h4, h1, h2⟩
  · rintro ⟨r, hr, h1, h2, h3, h4⟩
    obtain ⟨d, hd, hr⟩ := List.mem_flatMap.mp hr
    obtain ⟨q, hq, rfl⟩ := List.mem_map.mp hr
    exact ⟨d, hd, h3, h4, q, hq, h1, h2⟩
theorem IsForm.mem {S : Int → Int → Prop} {f : List Rc} (h : IsForm S f) (x y : Int) : S x y ↔ ∃ q ∈ f, inRc q x y := by
  obtain ⟨_, bs, _, h2, rfl⟩ := h
  rw [← h2, mem_form]
end Od

namespace Od
open PySem L2 Evl

/-! ### data: ints in tuples, in lists -/
def intD (ns : List Int) : PyData := .tuple (ns.map PyData.int)
def Eqs (α : Type) [DecidableEq α] (f : α → PyData) (d : Nat) : Prop := (∀ x y, PyData.eqv (f x) (f y) = decide (x = y)) ∧ (∀ x, (f x).canLay0 = true) ∧ ∀ x, (f x).depth ≤ d
theorem eqvAll_map {α : Type} [DecidableEq α] {f : α → PyData} (h : ∀ x y, PyData.eqv (f x) (f y) = decide (x = y)) : ∀ xs ys : List α, PyData.eqvAll (xs.map f) (ys.map f) = decide (xs = ys)
  | [], [] => by simp [PyData.eqvAll]
  | [], y :: ys => by simp [PyData.eqvAll]
  | x :: xs, [] => by simp [PyData.eqvAll]
  | x :: xs, y :: ys => by
    rw [List.map_cons, List.map_cons, PyData.eqvAll, h, eqvAll_map h xs ys]
    by_cases e : x = y <;> by_cases e2 : xs = ys <;> simp [e, e2]
theorem canLay_map {α : Type} {f : α → PyData} (h : ∀ x, (f x).canLay0 = true) : ∀ xs : List α, PyData.canLayAll0 (xs.map f) = true
  | [] => by simp [PyData.canLayAll0]
  | x :: xs => by
    rw [List.map_cons, PyData.canLayAll0, h, canLay_map h xs]
    rfl
theorem depth_map {α : Type} {f : α → PyData} {d : Nat} (h : ∀ x, (f x).depth ≤ d) : ∀ xs : List α, PyData.depthAll (xs.map f) ≤ d
  | [] => by simp [PyData.depthAll]
  | x :: xs => by
    rw [List.map_cons, PyData.depthAll]
    exact Nat.max_le.mpr ⟨h x, depth_map h xs⟩
theorem eqs_int : Eqs Int PyData.int 0 := ⟨fun x y => by rw [PyData.eqv]; by_cases e : x = y <;> simp [e], fun x => by simp [PyData.canLay0], fun x => by simp [PyData.depth]⟩
theorem Eqs.lst {α : Type} [DecidableEq α] {f : α → PyData} {d : Nat} (h : Eqs α f d) : Eqs (List α) (fun xs => .list (xs.map f)) (d + 1) :=
  ⟨fun x y => by rw [PyData.eqv, eqvAll_map h.1], fun x => by simp only [PyData.canLay0]; exact canLay_map h.2.1 x, fun x => by simp only [PyData.depth]; have := depth_map h.2.2 x; omega⟩
theorem Eqs.tup {α : Type} [DecidableEq α] {f : α → PyData} {d : Nat} (h : Eqs α f d) : Eqs (List α) (fun xs => .tuple (xs.map f)) (d + 1) :=
  ⟨fun x y => by rw [PyData.eqv, eqvAll_map h.1], fun x => by simp only [PyData.canLay0]; exact canLay_map h.2.1 x, fun x => by simp only [PyData.depth]; have := depth_map h.2.2 x; omega⟩
theorem Eqs.via {α β : Type} [DecidableEq α] [DecidableEq β] {f : α → PyData} {d : Nat} (h : Eqs α f d) (g : β → α) (inj : ∀ x y, g x = g y → x = y) : Eqs β (fun x => f (g x)) d :=
  ⟨fun x y => by
    rw [h.1]
    by_cases e : x = y
    · rw [e, decide_eq_true rfl, decide_eq_true rfl]
    · rw [decide_eq_false e, decide_eq_false fun z => e (inj _ _ z)], fun x => h.2.1 _, fun x => h.2.2 _⟩
theorem Eqs.shaped {α : Type} [DecidableEq α] {f : α → PyData} {d : Nat} (h : Eqs α f d) (hd : d ≤ 64) (x : α) : SeqAt.shaped (f x) = true := by
  unfold SeqAt.shaped
  rw [h.2.1 x, decide_eq_true (Nat.le_trans (h.2.2 x) hd)]
  rfl
def ptD (q : Pt) : PyData := intD [q.1, q.2]
def rcD (q : Rc) : PyData := intD [q.l, q.t, q.r, q.b]
theorem eqs_pt : Eqs Pt ptD 1 := eqs_int.tup.via (fun q : Pt => [q.1, q.2]) fun x y e => by
  injection e with e1 e2
  injection e2 with e2 _
  exact Prod.ext e1 e2
theorem eqs_rc : Eqs Rc rcD 1 := eqs_int.tup.via (fun q : Rc => [q.l, q.t, q.r, q.b]) fun x y e => by
  injection e with e1 e
  injection e with e2 e
  injection e with e3 e
  injection e with e4 _
  cases x
  cases y
  simp only at e1 e2 e3 e4
  rw [e1, e2, e3, e4]
def ptsD (qs : List Pt) : PyData := .list (qs.map ptD)
def rcsD (qs : List Rc) : PyData := .list (qs.map rcD)
theorem eqs_pts : Eqs (List Pt) ptsD 2 := eqs_pt.lst
theorem eqs_rcs : Eqs (List Rc) rcsD 2 := eqs_rc.lst
theorem dp_ints {K : PySem.W.Frag} {H : Hp} : ∀ ns : List Int, DpAll K H (ns.map V.int) (ns.map PyData.int)
  | [] => .nil
  | n :: ns => .cons (.int n) (dp_ints ns)
theorem dp_tup {K : PySem.W.Frag} {H : Hp} {a : Addr} {ns : List Int} (h : H a = some (.tup (ns.map V.int))) : Dp K H (.ref a) (intD ns) := .tup (SqT.of h) (dp_ints ns)
theorem PtV.dp {K : PySem.W.Frag} {H : Hp} {v : V} {q : Pt} (h : PtV H v q) : Dp K H v (ptD q) := by
  obtain ⟨p, rfl, h⟩ := h
  exact dp_tup (ns := [q.1, q.2]) h
theorem RcV.dp {K : PySem.W.Frag} {H : Hp} {v : V} {q : Rc} (h : RcV H v q) : Dp K H v (rcD q) := by
  obtain ⟨p, rfl, h⟩ := h
  exact dp_tup (ns := [q.l, q.t, q.r, q.b]) h
theorem dp_all {α : Type} {K : PySem.W.Frag} {H : Hp} {G : V → α → Prop} {f : α → PyData} (h : ∀ v x, G v x → Dp K H v (f x)) : ∀ {vs : List V} {xs : List α}, Paired G vs xs → DpAll K H vs (xs.map f)
  | _, _, .nil => .nil
  | _, _, .cons r t => .cons (h _ _ r) (dp_all h t)
theorem dp_pts {K : PySem.W.Frag} {H : Hp} {a : Addr} {us : List V} {qs : List Pt} (h : SqL K H a us) (r : PtsV H us qs) : Dp K H (.ref a) (ptsD qs) := .lst h (dp_all (fun _ _ z => PtV.dp z) r)
theorem dp_rcs {K : PySem.W.Frag} {H : Hp} {a : Addr} {us : List V} {qs : List Rc} (h : SqL K H a us) (r : RcsV H us qs) : Dp K H (.ref a) (rcsD qs) := .lst h (dp_all (fun _ _ z => RcV.dp z) r)

/-! ### walking a dict with tuple keys -/
theorem ex_unlock {H H' : Hp} {d : Addr} {od : Obj} {u : HO} (h : H d = some u) (e : Ex (upd H d (.frz od u)) H') : Ex H (upd H' d u) := fun b o hb => by
  by_cases z : b = d
  · rw [z] at hb ⊢
    rw [h] at hb
    rw [upd_same]
    exact hb
  · rw [upd_ne z]
    exact e b o (by rw [upd_ne z]; exact hb)
theorem lc_keysT {d : Addr} {o : Obj} {kvs : List (List Key × V)} {g : TG} {tt : TT} {te : TE} {vs : List Nat} {σ : L2.St} {H1 : Hp} {D : Addr} {Qd : Hp → Prop} (Pv : Nat → Hp → Prop) (h0 : Pv 0 (upd H1 D (.lst []))) (hl : ∀ i H, i ≤ kvs.length → Pv i H → H d = some (.frz o (.dT kvs)))
    (hs : ∀ i k v q H, kvs[i]? = some (k, v) → H q = some (.tup (k.map kV)) → Pv i H → g (.ref q) (wipe σ vs) H fun σ2 H2 => wipe σ2 vs = wipe σ vs ∧ tt σ2 H2 fun b H3 =>
      if b = true then te σ2 H3 fun y H4 => ∃ acc, H4 D = some (.lst acc) ∧ acc.length < sizeLine ∧ Pv (i + 1) (upd H4 D (.lst (acc ++ [y]))) else Pv (i + 1) H3) (hd : ∀ H, Pv kvs.length H → Qd H) :
    ∃ Wk : Nat → Nat → Hp → Prop, (∃ n, Wk 0 n (upd H1 D (.lst []))) ∧ ∀ i n G, Wk i n G →
      ((Itkt d o kvs).stop i G ∧ Qd G) ∨ ((Itkt d o kvs).go i G ∧ ∃ Go : Hp → Prop, (∀ G', Go G' → ∃ n', n' < n ∧ Wk (i + 1) n' G') ∧ ∀ x G', (Itkt d o kvs).yld i G x G' → g x (wipe σ vs) G' fun σ2 G2 => wipe σ2 vs = wipe σ vs ∧ tt σ2 G2 fun b G3 =>
        if b = true then te σ2 G3 fun y G4 => ∃ made, G4 D = some (.lst made) ∧ made.length < sizeLine ∧ Go (upd G4 D (.lst (made ++ [y]))) else Go G3) := by
  refine ⟨fun i m H => m = kvs.length - i ∧ i ≤ kvs.length ∧ Pv i H, ⟨kvs.length, by simp, Nat.zero_le _, h0⟩, ?_⟩
  rintro i m H ⟨rfl, hi, p⟩
  have q := hl i H hi p
  by_cases hlt : i < kvs.length
  · refine .inr ⟨⟨q, hlt⟩, Pv (i + 1), fun H' p' => ⟨kvs.length - (i + 1), by omega, rfl, hlt, p'⟩, fun x H' y => ?_⟩
    obtain ⟨e, k, v, qa, e1, e2, e3⟩ := y
    subst e e2
    exact hs i k v qa _ e1 e3 p
  · have e : i = kvs.length := by omega
    subst e
    exact .inl ⟨⟨q, Nat.le_refl _⟩, hd H p⟩
theorem for_keysT {d : Addr} {o : Obj} {kvs : List (List Key × V)} {g : TG} {tb : TS} {D : Ends} {σ : L2.St} {H : Hp} (Pv : Nat → L2.St → Hp → Prop) (h0 : Pv 0 σ H) (hl : ∀ i σ H, i ≤ kvs.length → Pv i σ H → H d = some (.frz o (.dT kvs)))
    (hs : ∀ i k v q σ H, kvs[i]? = some (k, v) → H q = some (.tup (k.map kV)) → Pv i σ H → g (.ref q) σ H fun σ2 H2 => tb { D with nx := Pv (i + 1), ct := Pv (i + 1), bk := D.nx } σ2 H2) (hd : ∀ σ H, Pv kvs.length σ H → D.nx σ H) :
    ∃ Wk : Nat → Nat → L2.St → Hp → Prop, (∃ n, Wk 0 n σ H) ∧ ∀ i n τ G, Wk i n τ G →
      ((Itkt d o kvs).stop i G ∧ D.nx τ G) ∨ ((Itkt d o kvs).go i G ∧ ∃ Go : L2.St → Hp → Prop, (∀ τ' G', Go τ' G' → ∃ n', n' < n ∧ Wk (i + 1) n' τ' G') ∧ ∀ x G', (Itkt d o kvs).yld i G x G' → g x τ G' fun τ2 G2 => tb { D with nx := Go, ct := Go, bk := D.nx } τ2 G2) := by
  refine ⟨fun i m σ H => m = kvs.length - i ∧ i ≤ kvs.length ∧ Pv i σ H, ⟨kvs.length, by simp, Nat.zero_le _, h0⟩, ?_⟩
  rintro i m σ H ⟨rfl, hi, p⟩
  have q := hl i σ H hi p
  by_cases hlt : i < kvs.length
  · refine .inr ⟨⟨q, hlt⟩, Pv (i + 1), fun σ' H' p' => ⟨kvs.length - (i + 1), by omega, rfl, hlt, p'⟩, fun x H' y => ?_⟩
    obtain ⟨e, k, v, qa, e1, e2, e3⟩ := y
    subst e e2
    exact hs i k v qa σ _ e1 e3 p
  · have e : i = kvs.length := by omega
    subst e
    exact .inl ⟨⟨q, Nat.le_refl _⟩, hd σ H p⟩
theorem mkd_get {pts : List Pt} {i : Nat} {k : List Key} {v : V} (h : (mkd pts)[i]? = some (k, v)) : ∃ q, pts[i]? = some q ∧ k = ptK q := by
  unfold mkd at h
  rw [List.getElem?_map] at h
  cases e : pts[i]? with
  | none =>
    rw [e] at h
    cases h
  | some q =>
    rw [e] at h
    cases h
    exact ⟨q, rfl, rfl⟩

/-! ### runs from the ascending ints of a row -/
theorem runs_snoc : ∀ {rs : List Pt} {b x : Int}, RunsFrom b rs → (∀ q ∈ rs, q.2 < x) → b < x → RunsFrom b (rs ++ [(x, x + 1)])
  | [], b, x, _, _, h => ⟨h, by show x < x + 1; omega, trivial⟩
  | q :: t, b, x, h, k, _ => ⟨h.1, h.2.1, runs_snoc h.2.2 (fun p hp => k p (by simp [hp])) (k q (by simp))⟩
theorem runs_ext : ∀ {rs : List Pt} {b l r r' : Int}, RunsFrom b (rs ++ [(l, r)]) → r ≤ r' → RunsFrom b (rs ++ [(l, r')])
  | [], b, l, r, r', h, k => ⟨h.1, by have h2 : l < r := h.2.1; show l < r'; omega, trivial⟩
  | q :: t, b, l, r, r', h, k => ⟨h.1, h.2.1, runs_ext h.2.2 k⟩
theorem RunsOk.nil : RunsOk [] := ⟨0, trivial⟩
theorem runsOk_snoc {rs : List Pt} {x : Int} (h : RunsOk rs) (k : ∀ q ∈ rs, q.2 < x) : RunsOk (rs ++ [(x, x + 1)]) := by
  obtain ⟨b, h⟩ := h
  cases rs with
  | nil => exact ⟨x - 1, by omega, by show x < x + 1; omega, trivial⟩
  | cons q t =>
    refine ⟨b, runs_snoc h k ?_⟩
    have h1 : b < q.1 := h.1
    have h2 : q.1 < q.2 := h.2.1
    have h3 := k q (by simp)
    omega
theorem inRuns_app {rs ss : List Pt} {x : Int} : inRuns (rs ++ ss) x ↔ inRuns rs x ∨ inRuns ss x := by
  unfold inRuns
  constructor
  · rintro ⟨q, hq, h⟩
    rcases List.mem_append.mp hq with z | z
    · exact .inl ⟨q, z, h⟩
    · exact .inr ⟨q, z, h⟩
  · rintro (⟨q, hq, h⟩ | ⟨q, hq, h⟩)
    · exact ⟨q, List.mem_append.mpr (.inl hq), h⟩
    · exact ⟨q, List.mem_append.mpr (.inr hq), h⟩
theorem inRuns_one {l r x : Int} : inRuns [(l, r)] x ↔ l ≤ x ∧ x < r := by
  rw [inRuns_cons]
  constructor
  · rintro (h | h)
    · exact h
    · exact absurd h inRuns_nil
  · exact .inl
theorem RunsFrom.wide : ∀ {rs : List Pt} {b : Int}, RunsFrom b rs → ∀ q ∈ rs, q.1 < q.2
  | [], _, _, q, h => by simp at h
  | p :: t, b, h, q, hq => by
    rcases List.mem_cons.mp hq with rfl | hq
    · exact h.2.1
    · exact RunsFrom.wide h.2.2 q hq
/-- what a row's runs say of the ends -/
theorem ends_le {rs : List Pt} {pre : List Int} {x : Int} (h : RunsOk rs) (m : ∀ z, inRuns rs z ↔ z ∈ pre) (k : ∀ z ∈ pre, z < x) : ∀ q ∈ rs, q.2 ≤ x := by
  intro q hq
  obtain ⟨b, h⟩ := h
  have w := h.wide q hq
  have := k (q.2 - 1) ((m _).mp ⟨q, hq, by omega, by omega⟩)
  omega
end Od

namespace Od
open PySem L2 Evl

/-! ### a dict whose keys are ints -/
def mki (ys : List Int) : List (Key × V) := ys.map fun y => (Sum.inl y, V.bl true)
theorem mki_any (ys : List Int) (y : Int) : ((mki ys).any fun kv => decide (kv.1 = Sum.inl y)) = decide (y ∈ ys) := by
  unfold mki
  rw [List.any_map]
  induction ys with
  | nil => simp
  | cons p r ih =>
    rw [List.any_cons, ih]
    show (decide ((Sum.inl p : Key) = Sum.inl y) || decide (y ∈ r)) = decide (y ∈ p :: r)
    by_cases h1 : p = y
    · simp [h1]
    · have h3 : ¬ (Sum.inl p : Key) = Sum.inl y := fun e => h1 (Sum.inl.inj e)
      have : ¬ y = p := fun e => h1 e.symm
      simp [h1, this]
def addI (ys : List Int) (y : Int) : List Int := if y ∈ ys then ys else ys ++ [y]
theorem mki_put (ys : List Int) (y : Int) : putK (mki ys) (Sum.inl y) (V.bl true) = mki (addI ys y) := by
  unfold putK addI
  rw [mki_any]
  by_cases h : y ∈ ys
  · rw [if_pos h, decide_eq_true h, if_pos rfl]
    unfold mki
    rw [List.map_map]
    refine List.map_congr_left fun p _ => ?_
    show (if (Sum.inl p : Key) = Sum.inl y then ((Sum.inl p : Key), V.bl true) else (Sum.inl p, V.bl true)) = (Sum.inl p, V.bl true)
    split <;> rfl
  · rw [if_neg h, decide_eq_false h, if_neg Bool.false_ne_true]
    unfold mki
    rw [List.map_append]
    rfl
theorem mem_addI {ys : List Int} {y z : Int} : z ∈ addI ys y ↔ z ∈ ys ∨ z = y := by
  unfold addI
  split
  · rename_i h
    constructor
    · exact .inl
    · rintro (h1 | rfl)
      · exact h1
      · exact h
  · simp
theorem nodup_addI {ys : List Int} {y : Int} (h : ys.Nodup) : (addI ys y).Nodup := by
  unfold addI
  split
  · exact h
  · rename_i hn
    rw [List.nodup_append]
    refine ⟨h, by simp, fun a ha b hb => ?_⟩
    rw [List.mem_singleton.mp hb]
    intro e
    rw [e] at ha
    exact hn ha
theorem len_addI (ys : List Int) (y : Int) : (addI ys y).length ≤ ys.length + 1 := by
  unfold addI
  split
  · omega
  · simp
theorem mki_len (ys : List Int) : (mki ys).length = ys.length := by
  unfold mki
  rw [List.length_map]
theorem mki_keys (ys : List Int) : (mki ys).map (fun kv => kV kv.1) = ys.map V.int := by
  unfold mki
  rw [List.map_map]
  rfl

/-! ### how many runs there are -/
theorem sum_zero {α : Type} (f : α → Nat) : ∀ l : List α, (∀ x ∈ l, f x = 0) → (l.map f).sum = 0
  | [], _ => rfl
  | x :: l, h => by
    rw [List.map_cons, List.sum_cons, h x (by simp), sum_zero f l fun y hy => h y (by simp [hy])]
theorem ones_le : ∀ {ys : List Int} (a : Int), ys.Nodup → (ys.map fun y => if a == y then 1 else 0).sum ≤ 1
  | [], _, _ => by simp
  | y :: ys, a, h => by
    rw [List.map_cons, List.sum_cons]
    rw [List.nodup_cons] at h
    by_cases e : a = y
    · have z : (ys.map fun y => if a == y then 1 else 0).sum = 0 := by
        refine sum_zero _ _ fun w hw => ?_
        have : ¬ a = w := fun e2 => h.1 (by rw [← e, e2]; exact hw)
        simp [this]
      rw [z]
      simp [e]
    · have := ones_le a h.2
      simp [e]
      simpa using this
theorem sum_add {α : Type} (f g : α → Nat) : ∀ l : List α, (l.map fun x => f x + g x).sum = (l.map f).sum + (l.map g).sum
  | [] => rfl
  | x :: l => by
    rw [List.map_cons, List.map_cons, List.map_cons, List.sum_cons, List.sum_cons, List.sum_cons, sum_add f g l]
    omega
theorem sum_rows {ys : List Int} (h : ys.Nodup) : ∀ pts : List Pt, (ys.map fun y => (pts.filter fun z => z.2 == y).length).sum ≤ pts.length
  | [] => by
    rw [sum_zero (fun y => (List.filter (fun z : Pt => z.snd == y) []).length) ys fun w _ => rfl]
    simp
  | p :: ps => by
    have ih := sum_rows h ps
    have o := ones_le p.2 h
    have e : (ys.map fun y => ((p :: ps).filter fun z => z.2 == y).length) = ys.map fun y => (if p.2 == y then 1 else 0) + (ps.filter fun z => z.2 == y).length := by
      refine List.map_congr_left fun y _ => ?_
      rw [List.filter_cons]
      split <;> simp <;> omega
    rw [e, sum_add, List.length_cons]
    omega
theorem sum_take {ys : List Int} (f : Int → Nat) : ∀ (i : Nat), ((ys.take i).map f).sum ≤ (ys.map f).sum := fun i => by
  have := List.take_append_drop i ys
  have e : ys.map f = (ys.take i).map f ++ (ys.drop i).map f := by rw [← List.map_append, this]
  rw [e, List.sum_append]
  omega

/-! ### bands, one row more -/
def BandsOk (bs : List Bd) : Prop := ∃ y, BandsFrom y [] bs
theorem bands_snoc : ∀ {bs : List Bd} {y0 : Int} {p : List Pt} {y : Int} {rs : List Pt}, BandsFrom y0 p bs → (∀ d, bs.getLast? = some d → d.b ≤ y ∧ (d.b = y → d.rs ≠ rs)) → (bs = [] → y0 ≤ y ∧ (y0 = y → p ≠ rs)) → rs ≠ [] → RunsOk rs →
    BandsFrom y0 p (bs ++ [⟨y, y + 1, rs⟩])
  | [], y0, p, y, rs, _, _, h3, h4, h5 => ⟨(h3 rfl).1, (h3 rfl).2, by show y < y + 1; omega, h4, h5, trivial⟩
  | [d], y0, p, y, rs, h, h2, _, h4, h5 => by
    have k := h2 d rfl
    exact ⟨h.1, h.2.1, h.2.2.1, h.2.2.2.1, h.2.2.2.2.1, k.1, k.2, by show y < y + 1; omega, h4, h5, trivial⟩
  | d :: d2 :: t, y0, p, y, rs, h, h2, _, h4, h5 => by
    have ih := bands_snoc (bs := d2 :: t) (y := y) (rs := rs) h.2.2.2.2.2 (fun e he => h2 e (by rw [List.getLast?_cons_cons]; exact he)) (fun e => by cases e) h4 h5
    exact ⟨h.1, h.2.1, h.2.2.1, h.2.2.2.1, h.2.2.2.2.1, ih⟩
theorem bands_ext : ∀ {bs : List Bd} {y0 : Int} {p : List Pt} {d : Bd} {b : Int}, BandsFrom y0 p (bs ++ [d]) → d.b ≤ b → BandsFrom y0 p (bs ++ [⟨d.t, b, d.rs⟩])
  | [], y0, p, d, b, h, k => ⟨h.1, h.2.1, by have := h.2.2.1; show d.t < b; omega, h.2.2.2.1, h.2.2.2.2.1, trivial⟩
  | c :: t, y0, p, d, b, h, k => ⟨h.1, h.2.1, h.2.2.1, h.2.2.2.1, h.2.2.2.2.1, bands_ext h.2.2.2.2.2 k⟩
theorem BandsFrom.each : ∀ {bs : List Bd} {y0 : Int} {p : List Pt}, BandsFrom y0 p bs → ∀ d ∈ bs, d.t < d.b ∧ d.rs ≠ [] ∧ RunsOk d.rs
  | [], _, _, _, d, h => by simp at h
  | c :: t, y0, p, h, d, hd => by
    rcases List.mem_cons.mp hd with rfl | hd
    · exact ⟨h.2.2.1, h.2.2.2.1, h.2.2.2.2.1⟩
    · exact BandsFrom.each h.2.2.2.2.2 d hd
theorem inBands_app {bs cs : List Bd} {x y : Int} : inBands (bs ++ cs) x y ↔ inBands bs x y ∨ inBands cs x y := by
  unfold inBands
  constructor
  · rintro ⟨q, hq, h⟩
    rcases List.mem_append.mp hq with z | z
    · exact .inl ⟨q, z, h⟩
    · exact .inr ⟨q, z, h⟩
  · rintro (⟨q, hq, h⟩ | ⟨q, hq, h⟩)
    · exact ⟨q, List.mem_append.mpr (.inl hq), h⟩
    · exact ⟨q, List.mem_append.mpr (.inr hq), h⟩
theorem inBands_one {d : Bd} {x y : Int} : inBands [d] x y ↔ d.t ≤ y ∧ y < d.b ∧ inRuns d.rs x := by
  rw [inBands_cons]
  constructor
  · rintro (h | h)
    · exact h
    · exact absurd h inBands_nil
  · exact .inl
theorem formOf_app (bs cs : List Bd) : formOf (bs ++ cs) = formOf bs ++ formOf cs := by
  unfold formOf
  rw [List.flatMap_append]
theorem formOf_one (d : Bd) : formOf [d] = bandRc d := by
  unfold formOf
  simp
theorem bandRc_len (d : Bd) : (bandRc d).length = d.rs.length := by
  unfold bandRc
  rw [List.length_map]

/-! ### bands in the heap; pb: the list that holds them -/
def BdV (pb : Addr) (H : Hp) (v : V) (d : Bd) : Prop := ∃ q r us, v = .ref q ∧ q ≠ pb ∧ r ≠ pb ∧ H q = some (.tup [.int d.t, .int d.b, .ref r]) ∧ H r = some (.lst us) ∧ PtsV H us d.rs
def Xb (pb : Addr) (H H' : Hp) : Prop := ∀ a o, a ≠ pb → H a = some o → H' a = some o
theorem BdV.to {pb : Addr} {H H' : Hp} {v : V} {d : Bd} (k : TK H H') (x : Xb pb H H') (h : BdV pb H v d) : BdV pb H' v d := by
  obtain ⟨q, r, us, rfl, nq, nr, h1, h2, h3⟩ := h
  exact ⟨q, r, us, rfl, nq, nr, x _ _ nq h1, x _ _ nr h2, h3.tk k⟩
theorem Xb.ex {pb : Addr} {H H' : Hp} (e : Ex H H') : Xb pb H H' := fun a o _ h => e a o h
theorem Xb.upd {pb : Addr} {H : Hp} {o : HO} : Xb pb H (upd H pb o) := fun a u n h => by rw [upd_ne n]; exact h
theorem Xb.trans {pb : Addr} {H H1 H2 : Hp} (a : Xb pb H H1) (b : Xb pb H1 H2) : Xb pb H H2 := fun x o n h => b x o n (a x o n h)
theorem pr_split {α β : Type} {G : α → β → Prop} : ∀ {l₁ : List α} {l₂ : List β} {a : α} {b : β}, Paired G (l₁ ++ [a]) (l₂ ++ [b]) → Paired G l₁ l₂ ∧ G a b
  | [], [], _, _, .cons h .nil => ⟨.nil, h⟩
  | [], [_], _, _, .cons _ t => nomatch t
  | [], _ :: _ :: _, _, _, .cons _ t => nomatch t
  | [_], [], _, _, .cons _ t => nomatch t
  | _ :: _ :: _, [], _, _, .cons _ t => nomatch t
  | c :: t, c2 :: t2, _, _, .cons h1 h2 => by
    have ih := pr_split (l₁ := t) (l₂ := t2) h2
    exact ⟨.cons h1 ih.1, ih.2⟩
theorem ixN_last (n : Nat) : ixN (n + 1) (-1) = some n := by
  unfold ixN
  rw [if_neg (by decide), if_pos (by omega)]
  congr 1
  omega
/-! ### points told as a dict's keys or as a list's items -/
def SrcAt (K : PySem.W.Frag) (H : Hp) (d : Addr) (pts : List Pt) : Prop := H d = some (.dT (mkd pts)) ∨ ∃ us, SqL K H d us ∧ PtsV H us pts
theorem SrcAt.mono {K : PySem.W.Frag} {H H' : Hp} {d : Addr} {pts : List Pt} (e : Ex H H') (h : SrcAt K H d pts) : SrcAt K H' d pts := by
  rcases h with h | ⟨us, h1, h2⟩
  · exact .inl (e _ _ h)
  · exact .inr ⟨us, ex_l e h1, h2.tk (TK.ex e)⟩
end Od

namespace Od
open PySem L2 Evl

/-! ### data that the heap bears -/
mutual
inductive Da (H : Hp) : V → PyData → Prop
  | non : Da H .non .none
  | bl (b : Bool) : Da H (.bl b) (.bool b)
  | int (i : Int) : Da H (.int i) (.int i)
  | str (x : Str) : Da H (.str x) (.str x)
  | lst {a : Addr} {xs : List V} {ds : List PyData} : H a = some (.lst xs) → DaAll H xs ds → ds.length ≤ 1000000 → Da H (.ref a) (.list ds)
  | tup {a : Addr} {xs : List V} {ds : List PyData} : H a = some (.tup xs) → DaAll H xs ds → ds.length ≤ 1000000 → Da H (.ref a) (.tuple ds)
inductive DaAll (H : Hp) : List V → List PyData → Prop
  | nil : DaAll H [] []
  | cons {v : V} {vs : List V} {d : PyData} {ds : List PyData} : Da H v d → DaAll H vs ds → DaAll H (v :: vs) (d :: ds)
end
mutual
theorem Da.mono {H H' : Hp} (e : Ex H H') : ∀ {v : V} {d : PyData}, Da H v d → Da H' v d
  | _, _, .non => .non
  | _, _, .bl b => .bl b
  | _, _, .int i => .int i
  | _, _, .str x => .str x
  | _, _, .lst h k l => .lst (e _ _ h) (DaAll.mono e k) l
  | _, _, .tup h k l => .tup (e _ _ h) (DaAll.mono e k) l
theorem DaAll.mono {H H' : Hp} (e : Ex H H') : ∀ {vs : List V} {ds : List PyData}, DaAll H vs ds → DaAll H' vs ds
  | _, _, .nil => .nil
  | _, _, .cons h k => .cons (Da.mono e h) (DaAll.mono e k)
end
mutual
theorem Da.dp {K : PySem.W.Frag} {H : Hp} : ∀ {v : V} {d : PyData}, Da H v d → Dp K H v d
  | _, _, .non => .non
  | _, _, .bl b => .bl b
  | _, _, .int i => .int i
  | _, _, .str x => .str x
  | _, _, .lst h k _ => .lst (SqL.of h) (DaAll.dp k)
  | _, _, .tup h k _ => .tup (SqT.of h) (DaAll.dp k)
theorem DaAll.dp {K : PySem.W.Frag} {H : Hp} : ∀ {vs : List V} {ds : List PyData}, DaAll H vs ds → DpAll K H vs ds
  | _, _, .nil => .nil
  | _, _, .cons h k => .cons (Da.dp h) (DaAll.dp k)
end
theorem DaAll.length {H : Hp} : ∀ {vs : List V} {ds : List PyData}, DaAll H vs ds → vs.length = ds.length
  | _, _, .nil => rfl
  | _, _, .cons _ k => by rw [List.length_cons, List.length_cons, DaAll.length k]
theorem DaAll.get {H : Hp} : ∀ {vs : List V} {ds : List PyData} {i : Nat} {d : PyData}, DaAll H vs ds → ds[i]? = some d → ∃ v, vs[i]? = some v ∧ Da H v d
  | _, _, _, _, .nil, e => by simp at e
  | _, _, 0, d, .cons h k, e => by
    simp at e
    subst e
    exact ⟨_, rfl, h⟩
  | _, _, i + 1, d, .cons h k, e => by
    obtain ⟨v, h1, h2⟩ := DaAll.get (i := i) (d := d) k (by simpa using e)
    exact ⟨v, by simpa using h1, h2⟩
theorem da_ints {H : Hp} : ∀ ns : List Int, DaAll H (ns.map V.int) (ns.map PyData.int)
  | [] => .nil
  | n :: ns => .cons (.int n) (da_ints ns)
theorem PtV.da {H : Hp} {v : V} {q : Pt} (h : PtV H v q) : Da H v (ptD q) := by
  obtain ⟨p, rfl, h⟩ := h
  exact .tup h (da_ints [q.1, q.2]) (by simp)
theorem RcV.da {H : Hp} {v : V} {q : Rc} (h : RcV H v q) : Da H v (rcD q) := by
  obtain ⟨p, rfl, h⟩ := h
  exact .tup h (da_ints [q.l, q.t, q.r, q.b]) (by simp)
theorem da_all {α : Type} {H : Hp} {G : V → α → Prop} {f : α → PyData} (h : ∀ v x, G v x → Da H v (f x)) : ∀ {vs : List V} {xs : List α}, Paired G vs xs → DaAll H vs (xs.map f)
  | _, _, .nil => .nil
  | _, _, .cons r t => .cons (h _ _ r) (da_all h t)
theorem da_pts {H : Hp} {a : Addr} {us : List V} {qs : List Pt} (h : H a = some (.lst us)) (r : PtsV H us qs) (hl : qs.length ≤ 1000000) : Da H (.ref a) (ptsD qs) := .lst h (da_all (fun _ _ z => PtV.da z) r) (by rw [List.length_map]; exact hl)
theorem da_rcs {H : Hp} {a : Addr} {us : List V} {qs : List Rc} (h : H a = some (.lst us)) (r : RcsV H us qs) (hl : qs.length ≤ 1000000) : Da H (.ref a) (rcsD qs) := .lst h (da_all (fun _ _ z => RcV.da z) r) (by rw [List.length_map]; exact hl)
theorem depth_mem {d : PyData} : ∀ {ds : List PyData} {i : Nat}, ds[i]? = some d → d.depth ≤ PyData.depthAll ds
  | [], i, h => by simp at h
  | x :: xs, 0, h => by
    simp at h
    subst h
    rw [PyData.depthAll]
    exact Nat.le_max_left _ _
  | x :: xs, i + 1, h => by
    have := depth_mem (d := d) (ds := xs) (i := i) (by simpa using h)
    rw [PyData.depthAll]
    exact Nat.le_trans this (Nat.le_max_right _ _)
theorem lay_mem {d : PyData} : ∀ {ds : List PyData} {i : Nat}, PyData.canLayAll0 ds = true → ds[i]? = some d → d.canLay0 = true
  | [], i, _, h => by simp at h
  | x :: xs, 0, k, h => by
    simp at h
    subst h
    rw [PyData.canLayAll0, Bool.and_eq_true] at k
    exact k.1
  | x :: xs, i + 1, k, h => by
    rw [PyData.canLayAll0, Bool.and_eq_true] at k
    exact lay_mem (d := d) (ds := xs) (i := i) k.2 (by simpa using h)
theorem eqv_self {d : PyData} (h : d.canLay0 = true) : PyData.eqv d d = true := PySem.SeqAt.eqv_refl d h
theorem Da.kinds {H : Hp} {v w : V} {d : PyData} (hv : Da H v d) (hw : Da H w d) : (∃ t, Kn H v t ∧ Kn H w t ∧ isA t "tuple" = false ∧ isA t "list" = false) ∨
    ∃ ds av aw xs ys T, v = .ref av ∧ w = .ref aw ∧ DaAll H xs ds ∧ DaAll H ys ds ∧ ds.length ≤ 1000000 ∧ Kn H v T ∧ Kn H w T ∧ (T = "list" ∧ H av = some (.lst xs) ∧ H aw = some (.lst ys) ∧ d = .list ds ∨ T = "tuple" ∧ H av = some (.tup xs) ∧ H aw = some (.tup ys) ∧ d = .tuple ds) := by
  cases hv with
  | non => cases hw; exact .inl ⟨_, .non, .non, by decide +kernel, by decide +kernel⟩
  | bl b => cases hw; exact .inl ⟨_, .bl b, .bl b, by decide +kernel, by decide +kernel⟩
  | int b => cases hw; exact .inl ⟨_, .int b, .int b, by decide +kernel, by decide +kernel⟩
  | str b => cases hw; exact .inl ⟨_, .str b, .str b, by decide +kernel, by decide +kernel⟩
  | lst h k l =>
    cases hw with
    | lst h' k' l' => exact .inr ⟨_, _, _, _, _, _, rfl, rfl, k, k', l, .lst h, .lst h', .inl ⟨rfl, h, h', rfl⟩⟩
  | tup h k l =>
    cases hw with
    | tup h' k' l' => exact .inr ⟨_, _, _, _, _, _, rfl, rfl, k, k', l, .tup h, .tup h', .inr ⟨rfl, h, h', rfl⟩⟩
end Od

namespace Od
open PySem L2 Evl

/-! ### a set moved -/
def mvP (dx : Int) (q : Pt) : Pt := (q.1 + dx, q.2 + dx)
def mvB (dx dy : Int) (d : Bd) : Bd := ⟨d.t + dy, d.b + dy, d.rs.map (mvP dx)⟩
def mvR (dx dy : Int) (q : Rc) : Rc := ⟨q.l + dx, q.t + dy, q.r + dx, q.b + dy⟩
theorem mvP_inj {dx : Int} {a b : Pt} (h : mvP dx a = mvP dx b) : a = b := by
  unfold mvP at h
  injection h with h1 h2
  exact Prod.ext (by omega) (by omega)
theorem map_mvP_inj {dx : Int} : ∀ {rs ss : List Pt}, rs.map (mvP dx) = ss.map (mvP dx) → rs = ss
  | [], [], _ => rfl
  | [], _ :: _, h => by simp at h
  | _ :: _, [], h => by simp at h
  | a :: rs, b :: ss, h => by
    rw [List.map_cons, List.map_cons] at h
    injection h with h1 h2
    rw [mvP_inj h1, map_mvP_inj h2]
theorem runs_mv {dx : Int} : ∀ {rs : List Pt} {b : Int}, RunsFrom b rs → RunsFrom (b + dx) (rs.map (mvP dx))
  | [], _, _ => trivial
  | q :: t, b, h => ⟨by have := h.1; show b + dx < q.1 + dx; omega, by have := h.2.1; show q.1 + dx < q.2 + dx; omega, runs_mv h.2.2⟩
theorem inRuns_mv {dx : Int} {rs : List Pt} {x : Int} : inRuns (rs.map (mvP dx)) x ↔ inRuns rs (x - dx) := by
  constructor
  · rintro ⟨q, hq, h1, h2⟩
    obtain ⟨p, hp, rfl⟩ := List.mem_map.mp hq
    exact ⟨p, hp, by unfold mvP at h1; dsimp only at h1; omega, by unfold mvP at h2; dsimp only at h2; omega⟩
  · rintro ⟨p, hp, h1, h2⟩
    exact ⟨mvP dx p, List.mem_map.mpr ⟨p, hp, rfl⟩, by unfold mvP; dsimp only; omega, by unfold mvP; dsimp only; omega⟩
theorem bands_mv {dx dy : Int} : ∀ {bs : List Bd} {y : Int} {p : List Pt}, BandsFrom y p bs → BandsFrom (y + dy) (p.map (mvP dx)) (bs.map (mvB dx dy))
  | [], _, _, _ => trivial
  | d :: t, y, p, h => by
    refine ⟨by have := h.1; show y + dy ≤ d.t + dy; omega, fun e z => h.2.1 ?_ (map_mvP_inj z), by have := h.2.2.1; show d.t + dy < d.b + dy; omega, fun z => h.2.2.2.1 (List.map_eq_nil_iff.mp z), ?_, bands_mv h.2.2.2.2.2⟩
    · have e : y + dy = d.t + dy := e
      omega
    · obtain ⟨b, hb⟩ := h.2.2.2.2.1
      exact ⟨_, runs_mv hb⟩
theorem inBands_mv {dx dy : Int} {bs : List Bd} {x y : Int} : inBands (bs.map (mvB dx dy)) x y ↔ inBands bs (x - dx) (y - dy) := by
  constructor
  · rintro ⟨d, hd, h1, h2, h3⟩
    obtain ⟨c, hc, rfl⟩ := List.mem_map.mp hd
    have h1 : c.t + dy ≤ y := h1
    have h2 : y < c.b + dy := h2
    exact ⟨c, hc, by omega, by omega, inRuns_mv.mp h3⟩
  · rintro ⟨c, hc, h1, h2, h3⟩
    exact ⟨mvB dx dy c, List.mem_map.mpr ⟨c, hc, rfl⟩, by show c.t + dy ≤ y; omega, by show y < c.b + dy; omega, inRuns_mv.mpr h3⟩
theorem formOf_mv {dx dy : Int} : ∀ bs : List Bd, formOf (bs.map (mvB dx dy)) = (formOf bs).map (mvR dx dy)
  | [] => rfl
  | d :: t => by
    have ih := formOf_mv (dx := dx) (dy := dy) t
    unfold formOf at ih ⊢
    rw [List.map_cons, List.flatMap_cons, List.flatMap_cons, List.map_append, ih]
    congr 1
    unfold bandRc mvB
    dsimp only
    rw [List.map_map, List.map_map]
    rfl
theorem IsForm.mv {S : Int → Int → Prop} {f : List Rc} (dx dy : Int) (h : IsForm S f) : IsForm (fun x y => S (x - dx) (y - dy)) (f.map (mvR dx dy)) := by
  obtain ⟨y, bs, h1, h2, rfl⟩ := h
  exact ⟨y + dy, bs.map (mvB dx dy), bands_mv h1, fun x y' => by rw [inBands_mv, h2], (formOf_mv bs).symm⟩
theorem mv_back {dx dy : Int} (f : List Rc) : (f.map (mvR dx dy)).map (mvR (-dx) (-dy)) = f := by
  rw [List.map_map]
  have e : (mvR (-dx) (-dy) ∘ mvR dx dy) = id := by
    funext q
    cases q
    unfold mvR
    simp only [Function.comp, id]
    congr 1 <;> omega
  rw [e, List.map_id]
end Od

namespace Od
open PySem L2 Evl PySem.Spec PyProof.Rows

/-! ### defs that are run where no repr is under way -/
def Gd (A : Around) : Prop := A.guards = some []
theorem Gd.deeper {A : Around} (g : Gd A) (env : Env) : Gd (A.deeper env) := g
structure FnG (P : Program) (w : World) (K : PySem.W.Frag) (mg : Str → Option Value) (base : Heap) (CX : CXT) (k : Nat) (f : Addr) (fd : FuncData) (ps : List Str) (sp : Sp) : Prop where
  len : ∀ vs H Q E, sp vs H Q E → vs.length = ps.length
  run : ∀ (A : Around) (outer : List Env) (s : Shared) (H : Hp) (args : Args) (us : List Value) (vs : List V) (Q : VK) (E : XK), Gd A → Room k A → Env0 P w K mg base A outer s H →
    BindsTo s fd args (ps.zip us) → Vals vs us → sp vs H Q E → codeAny (model P w) A (.call (.ref f) args) (CR CX outer P w H s Q E) s
section
variable {CX : CXT} {P : Program} {w : World} {K : PySem.W.Frag} {mg : Str → Option Value} {base : Heap} {k : Nat} {f : Addr} {fd : FuncData} {N ps : List Str} {sp : Sp}
theorem FnG.of (F : FnOk P w K mg base CX k f fd ps sp) : FnG P w K mg base CX k f fd ps sp := ⟨F.len, fun A o s H a us vs Q E _ => F.run A o s H a us vs Q E⟩
/-- a body's walk, where no repr is under way -/
theorem Fun.okG {x qual : Str} {st : Stmt} (F : Fun K x qual st f fd) (S : FnScope N ps (defScope st)) (len : ∀ vs H Q E, sp vs H Q E → vs.length = ps.length)
    (hb : ∀ (cdv : Value) (A : Around) (outer : List Env) (s : Shared) (H : Hp) (vs : List V) (Q : VK) (E : XK), Gd (A.deeper (envOfC qual (defScope st) s.heap.objs.size f cdv)) → Room k (A.deeper (envOfC qual (defScope st) s.heap.objs.size f cdv)) → sp vs H Q E →
      ∃ t, PSs (cxOf CX0 P w K mg base N qual (defScope st) f cdv A outer s H E).nox (defBody st) t ∧ t { nx := fun _ H' => Q .non H', rt := Q } (L2.start N vs) H) : FnG P w K mg base CX0 (k + 1) f fd ps sp := by
  obtain ⟨oc, od, kV, doc, pm, an, cdv, ct, osl, rfl, lk, hcd⟩ := F.ex
  refine ⟨len, fun A o s H args us vs Q E gd rm env bnd rel prom => ?_⟩
  have eqlen := len vs H Q E prom
  have kin : K.In s.heap := env.mod.kin.keeps fun b ob e => (env.bs b ob e).1
  have nol : s.heap.NoLimit := env.mod.nolimit.keeps fun b ob e => (env.bs b ob e).1
  have places : ∀ y ∈ ps.zip us, (defScope st).names.lookup y.1 = some .local ∨ ((defScope st).names.lookup y.1 = some .cell ∧ ((cellsFrom (s.heap.objs.size + 1) (defScope st).names []).lookup y.1).isSome = true) := by
    rintro ⟨n, v⟩ hy
    rcases S.par n (List.of_mem_zip hy).1 with z | z
    · exact Or.inl z
    · exact Or.inr ⟨z, PySem.W.cellsFrom_some _ _ _ (Or.inl z)⟩
  refine codeAny_call_function rm.depth (kin _ _ lk) rfl S.co S.gen rfl (PySem.W.codeRec_of kin hcd) (bnd _ _ _ _ ?_)
  refine wpAny_newFunctionEnv_cells S.kind places fun e2 he2 s1 inC => ?_
  subst he2
  refine ⟨nol.keeps inC.toInCall.keep, codeAny_func ?_⟩
  obtain ⟨t, walk, read⟩ := hb cdv A o s H vs Q E (gd.deeper _) (rm.deeper _) prom
  have inv := inv_start (E := E) (CX := CX0) S rm.hd env eqlen rel inC
  refine wpAny_mono (walk.nox.run [] s1 _ H _ inv read) (fun fl s' done => ?_) (fun e s' done => done)
  have give : ∀ {σ' : L2.St} {H' : Hp} {v : V} {u : Value}, Inv (cxOf CX0 P w K mg base N qual (defScope st) f cdv A o s H E) [] σ' H' s' → RelV v u → Q v H' → CE o P w H s Q u s' := by
    intro σ' H' v u J rv qq
    exact ⟨v, H', J.os, J.bare, J.base, J.hok, rv, qq⟩
  match fl, done with
  | .ret u, ⟨v, σ', H', J, rv, qq⟩ => exact give J rv qq
  | .next, ⟨σ', H', J, qq⟩ => exact give (v := V.non) (u := Value.none) J rfl qq
  | .brk, ⟨_, _, _, z⟩ => exact z.elim
  | .cont, ⟨_, _, _, z⟩ => exact z.elim
end
section
variable {X : Cx} {CX : CXT} {k : Nat} {f : Addr} {fd : FuncData} {ps : List Str} {sp : Sp} {dvs : List V} {ds : List Value} {E : XK} {x : Str} {p pos : Pos} {e : Expr} {es : List Expr} {t : TA}
theorem run_g {pins : List (Addr × Obj)} {σ : L2.St} {H : Hp} {s : Shared} {Q : VK} {us : List Value} {vs : List V} (F : FnG X.prog X.w X.K X.mg X.base CX k f fd ps sp) (gd : Gd X.A) (rm : Room k X.A) (hb : L2.Binds X.K fd ps ds) (hd : Vals dvs ds) (hx : Passes CX X E) (I : Inv X pins σ H s) (r : Vals vs us)
    (h : sp (vs ++ dvs) H Q E) : wpAny (model X.prog X.w) X.A (call (.ref f) us) (EP X pins σ Q) X.xe s := by
  have both : Vals (vs ++ dvs) (us ++ ds) := Vals.append r hd
  have hlen : (us ++ ds).length = ps.length := both.length.symm.trans (F.len _ _ _ _ h)
  refine wpAny_call (codeAny_mono (F.run X.A X.stack s H ⟨us, []⟩ (us ++ ds) (vs ++ dvs) Q E gd rm I.env0 (hb s us I.kIn hlen) both h) ?_)
  intro res s' out
  match res, out with
  | .error e, out => exact hx pins σ H s e s' I out
  | .ok (.ret u), out => exact I.after out
theorem pe_callG (F : FnG X.prog X.w X.K X.mg X.base CX k f fd ps sp) (gd : Gd X.A) (rm : Room k X.A) (hg : Gl X x) (hm : X.mg x = some (.ref f)) (hk : PySem.W.keepIn X.K (.ref f) = true) (hb : L2.Binds X.K fd ps ds) (hd : Vals dvs ds) (hx : Passes CX X E) (ha : PA X (e :: es) t)
    (hdb : (x == ("__debug__" : Str)) = false := by decide) (he : starEach (e :: es) X.env = (false, eval e X.env) :: starEach es X.env := by rfl) (hpl : (backTo pos (starEach es X.env)).any (·.1) = false := by rfl) : PE X (.Call (.Name x p) (e :: es) [] pos) (tCall sp dvs E t) := by
  constructor
  intro pins s σ H Q I h
  refine wpAny_Call_Name_kw (ld_glob I hg hm ?_ hdb)
  refine PySem.W.callWith_K (h₀ := X.base) I.ok.mod.kin hk (thn (ha.run pos pins s σ H _ I h) ?_) he hpl
  rintro us s1 ⟨vs, H1, I1, rel, qq⟩
  exact ⟨I1.kIn, run_g F gd rm hb hd hx I1 rel qq⟩
end
structure DefG (P : Program) (w : World) (K : PySem.W.Frag) (mg : Str → Option Value) (base : Heap) (CX : CXT) (x : Str) (k : Nat) (ps : List Str) (sp : Sp) where
  f : Addr
  fd : FuncData
  ok : FnG P w K mg base CX k f fd ps sp
  mgf : mg x = some (.ref f)
  kp : PySem.W.keepIn K (.ref f) = true
  b : L2.Binds K fd ps []

/-! ### repr of data -/
/-- what stands in a list or tuple is data of this kind (no dict in it) -/
def rRepr (K : PySem.W.Frag) : List V → Hp → VK → Prop := fun vs H Q => ∃ a d, vs = [.ref a] ∧ Dp K H (.ref a) d ∧ d.showable = true ∧ d.hasDict = false ∧ d.depth ≤ 60 ∧ d.shown.length ≤ sizeLine ∧ Q (.str d.shown) H
theorem krepr {X : Cx} (K : PySem.W.Frag) (gd : Gd X.A) (hu : X.A.units + 64 < cLine) (h : X.K = K := by rfl) : CallR X (.builtin "repr") (rRepr K) := by
  subst h
  intro pins s σ H vs us Q I r q
  obtain ⟨a, d, rfl, hd, h1, h2, h3, h4, q⟩ := q
  obtain rfl := Vals.ref1 r
  obtain ⟨as, rd⟩ := Dp.reads I d (.ref a) (.ref a) hd rfl
  refine repr_of_reads' rd h1 (fun z => by rw [h2] at z; cases z) gd (by omega) (fun _ _ e => e) (fun h' u tk hk => ?_) h4
  exact ⟨.str d.shown, H, I.kept (t' := tk) hk, ⟨u, rfl⟩, q⟩
end Od

namespace Od
open PySem L2 Evl PySem.Spec PyProof.Rows

/-! ### the law's own call, where no repr is under way -/
/-- the call of the law at fa with the script at a ends, gives True, and leaves what stood -/
def LawEnds (P : Program) (w : World) (fa a : Addr) (t : Shared) : Prop := codeAny (model P w) callerA (.call (.ref fa) ⟨[.ref a], []⟩) (fun r s' => r = .ok (.ret (.bool true)) ∧ OldK t.heap s'.heap ∧ s'.os = t.os ∧ AllBare s'.gens) t
section
variable {P : Program} {w : World} {K : PySem.W.Frag} {mg mb : Str → Option Value} {k : Nat} {fa a : Addr} {fd : FuncData} {x : Str} {sp : Sp} {s₁ : Shared} {vs : List Value} {ns : List Int}
/-- from an abstract heap in which at most the script stands -/
theorem end_core (kin : K.In s₁.heap) (hns : s₁.heap.Ns mainGlobals mg) (hb : s₁.heap.Ns builtinsNs mb) (hbb : ∀ x : Str, x ≠ "__name__" → mb x = bootBuiltins x) (nol : s₁.heap.NoLimit) (hg : s₁.gens = #[])
    (ha : s₁.heap.get? a = some { cls := .type "list", data := .seq vs.toArray }) (rm : Room k callerA)
    (F : ∀ base : Heap, K.In base → base.Ns mainGlobals mg → FnG P w K mg base CX0 k fa fd [x] sp) (bnd : ∀ (s : Shared) (u : Value), BindsTo s fd ⟨[u], []⟩ [(x, u)])
    (prom : ∀ H : Hp, Only H → SqL K H a (ns.map V.int) → sp [.ref a] H (fun v _ => v = .bl true) fun _ _ _ => False) {H : Hp}
    (only : Only H) (sq : SqL K H a (ns.map V.int)) (hok : HOk P w H s₁.heap) (alone : ∀ b, H b ≠ none → b = a) (notK : H a ≠ none → K.lookup a = none) :
    LawEnds P w fa a s₁ := by
  -- a dict is not the script
  have dictFree : ∀ {b : Addr} {o : Obj} {es : Array DictEntry} {ep : Nat}, s₁.heap.get? b = some o → o.data = .dict es ep → H b = none := by
    intro b o es ep e d
    by_cases z : H b = none
    · exact z
    · have := alone b z
      rw [this, ha] at e
      cases e
      cases (show Data.seq vs.toArray _ = Data.dict es ep from d)
  have space : ∀ {b : Addr} {m : Str → Option Value}, s₁.heap.Ns b m → (hidT s₁.heap H).Ns b m := by
    rintro b m ⟨o, es, ep, e, d, r⟩
    exact ⟨o, es, ep, hidT_get e (dictFree e d), d, r⟩
  have kinB : K.In (hidT s₁.heap H) := by
    intro b o e
    refine hidT_get (kin b o e) ?_
    by_cases z : H b = none
    · exact z
    · have q := alone b z
      subst q
      rw [notK z] at e
      cases e
  obtain ⟨mc, l1, l2⟩ := nol
  have md : Mod K mg (hidT s₁.heap H) := ⟨kinB, space hns, ⟨mb, space hb, hbb⟩, ⟨mc, space l1, l2⟩⟩
  have env : Env0 P w K mg (hidT s₁.heap H) callerA [] s₁ H := ⟨rfl, md, fun b o e => of_hidT e, Nat.le_of_eq (hidT_size _ _), trivial, fun b z => absurd z (show b ∉ ([] : List Addr) by simp), hok, .of_eq hg⟩
  refine codeAny_mono ((F _ kinB (space hns)).run callerA [] s₁ H ⟨[.ref a], []⟩ [.ref a] [.ref a] _ _ rfl rm env (bnd s₁ (.ref a)) (.cons rfl .nil) (prom H only sq)) ?_
  intro r s' out
  match r, out with
  | .ok (.ret u), ⟨v, H', os, bare, un, hok', rv, qv⟩ =>
    have ev : v = .bl true := qv
    subst ev
    obtain rfl : u = Value.bool true := rv
    refine ⟨rfl, OldK.of_keep fun b o e => ?_, os, bare⟩
    by_cases z : H b = none
    · exact un.keep b o e z (show b ∉ frs [] by intro q; exact absurd (show b ∈ ([] : List Addr) from q) (by simp)) (by simp)
    · rcases only b with q | ⟨ob, xs, q⟩
      · exact absurd q z
      · obtain ⟨f1, _⟩ := hok b _ q
        obtain ⟨f2, _⟩ := hok' b _ (un.frzs b ob _ q)
        rw [e] at f1
        cases f1
        exact f2
theorem end_call (kin : K.In s₁.heap) (hns : s₁.heap.Ns mainGlobals mg) (hb : s₁.heap.Ns builtinsNs mb) (hbb : ∀ x : Str, x ≠ "__name__" → mb x = bootBuiltins x) (nol : s₁.heap.NoLimit) (hg : s₁.gens = #[])
    (ha : s₁.heap.get? a = some { cls := .type "list", data := .seq vs.toArray }) (hi : IntsAre vs ns) (hl : ns.length ≤ sizeLine) (rm : Room k callerA)
    (F : ∀ base : Heap, K.In base → base.Ns mainGlobals mg → FnG P w K mg base CX0 k fa fd [x] sp) (bnd : ∀ (s : Shared) (u : Value), BindsTo s fd ⟨[u], []⟩ [(x, u)])
    (prom : ∀ H : Hp, Only H → SqL K H a (ns.map V.int) → sp [.ref a] H (fun v _ => v = .bl true) fun _ _ _ => False) :
    LawEnds P w fa a s₁ := by
  have rel := vals_ints hi
  have hlen := hi.length
  cases hk : K.lookup a with
  | some o =>
    have e := kin a o hk
    rw [ha] at e
    cases e
    refine end_core kin hns hb hbb nol hg ha rm F bnd prom (H := fun _ => none) (fun _ => Or.inl rfl) (Or.inr ⟨_, vs.toArray, _, hk, rfl, rfl, rfl, ?_, by simpa using rel⟩) (fun b u z => nomatch (show (none : Option HO) = some u from z)) (fun b z => absurd rfl z) (fun z => absurd rfl z)
    rw [List.size_toArray, hlen]
    exact hl
  | none =>
    have one : ∀ b, (fun b => if b = a then some (HO.frz { cls := .type "list", data := .seq vs.toArray } (.lst (ns.map V.int))) else none : Hp) b ≠ none → b = a := by
      intro b z
      by_cases q : b = a
      · exact q
      · exact absurd (if_neg q) z
    refine end_core kin hns hb hbb nol hg ha rm F bnd prom (H := fun b => if b = a then some (.frz { cls := .type "list", data := .seq vs.toArray } (.lst (ns.map V.int))) else none) (fun b => ?_) (Or.inl (Or.inr ⟨_, if_pos rfl⟩)) (fun b u z => ?_) one (fun _ => hk)
    · by_cases q : b = a
      · exact Or.inr ⟨_, _, if_pos q⟩
      · exact Or.inl (if_neg q)
    · by_cases q : b = a
      · have z2 := (if_pos q).symm.trans z
        cases z2
        subst q
        exact ⟨ha, by rw [List.length_map]; exact hl, vs, _, rel, ha⟩
      · have z2 := (if_neg q).symm.trans z
        cases z2
end
theorem walk_g {l : PySem.W.OpenLaw} {n k : Nat} {q : Program} {loose : List Str} {XP : (Str → Option Value) → Heap → Prop} {YP : World → Heap → Prop} {d : DefRec} {K : Params → PySem.W.Frag} {sp : World → Sp} {x : Str}
    (hn : l.most = some n) (hn2 : n ≤ sizeLine) (hdf : d.params.defaults = []) (rm : Room k callerA)
    (written : ∀ (w : World) (h : Heap), YP w h → (K w.params).In h) (F : ∀ (w : World) (mg : Str → Option Value) (fa : Addr) (h : Heap), (K w.params).In h → h.Ns mainGlobals mg → mg d.name = some (.ref fa) → ∃ fd : FuncData, (∀ (s : Shared) (u : Value), BindsTo s fd ⟨[u], []⟩ [(x, u)]) ∧ ∀ base : Heap, (K w.params).In base → base.Ns mainGlobals mg → FnG l.prog w (K w.params) mg base CX0 k fa fd [x] (sp w))
    (prom : ∀ (w : World) (H : Hp) (a : Addr) (ns : List Int), ns.length ≤ n → Only H → SqL (K w.params) H a (ns.map V.int) → sp w [.ref a] H (fun v _ => v = .bl true) fun _ _ _ => False) :
    PySem.W.WalkO q loose XP YP l.row.toRowW d [] (fun g us => PySem.call g us) := by
  refine Att.attach_call hn hdf ?_
  intro w s₀ s₁ mg mb fa o pm cd doc a vs ns G Y _ _ _ hmg hobj hints hlen hg
  have kin := written w _ Y
  obtain ⟨fd, bnd, fn⟩ := F w mg fa _ kin G.T.g hmg
  exact end_call kin G.T.g G.T.b G.T.builtins G.T.nolimit hg hobj hints (Nat.le_trans hlen hn2) rm fn bnd fun H hO hS => prom w H a ns hlen hO hS
end Od

namespace Od
open PySem L2 Evl PySem.Spec PyProof.Rows

/-! ### a tuple times 1 is the tuple itself -/
theorem tuple_once (l : Addr) (items : Array Value) (n : Nat) (dd : Option Addr) (sl : Array (Option Value)) (u : Tok) :
    Meets (Builtin.«tuple.__mul__» ⟨[.ref l, .int 1 u], []⟩) (fun _ R s => s.heap.get? l = some { cls := .type "tuple", dict := dd, data := .seq items n, slots := sl } ∧ R (.ok (.ret (.ref l))) s) :=
  .of_wp fun prog w A R s h => by
    obtain ⟨hp, g, d, tk, os⟩ := s
    obtain ⟨hl, h⟩ := h
    have f1 := AutoSeq1.idx_int
    have c1 : (items.isEmpty || (1 : Int) == 1) = true := by
      rw [show ((1 : Int) == 1) = true from rfl, Bool.or_true]
    wp_walk using AutoSeq1.wpAny_loadPart' hl
    exact ⟨_, rfl, h⟩
def rRep1 (K : PySem.W.Frag) : R2 := fun x y H Q => ∃ l xs, x = .ref l ∧ y = .int 1 ∧ SqT K H l xs ∧ Q (.ref l) H
theorem op_rep1 {X : Cx} : OpR X (binaryOp .Mult) (rRep1 X.K) := by
  intro pins s σ H x y v u Q I rx ry h
  obtain ⟨l, xs, rfl, rfl, hT, q⟩ := h
  cases rx
  obtain ⟨t, rfl⟩ := ry
  obtain ⟨its, r, ⟨⟨cls, dd, data, sl⟩, ho, hc, n, hd⟩, hs⟩ := I.tuple hT
  simp only at hc hd
  subst hc hd
  refine wpAny_binaryOp_repeat_ref (T := "tuple") (U := "int") (by decide) ⟨_, ho, rfl⟩ (fun s' => typeIs_int s' 1 t) noFill_tuple_mul F.fills_int_mul F.slot_int_rmul repeat_tuple F.slot_int_index.lookup
    (call_meets F.slot_int_rmul (typeIs_int s 1 t) F.entry_int_rmul (F.args_int_rmul_2 _ _) (int_rmul_tuple 1 t l its.toArray n dd sl)
      ⟨ho, rfl, ⟨_, ho, rfl⟩, call_meets F.slot_tuple_mul ⟨_, ho, rfl⟩ F.entry_tuple_mul (F.args_tuple_mul_2 _ _) (tuple_once l its.toArray n dd sl t) ⟨ho, ?_⟩⟩)
  exact ⟨.ref l, H, I, rfl, q⟩
structure RRep (K : PySem.W.Frag) (x y : V) (H : Hp) (Q : VK) : Prop where
  h : rRepT K x y H Q ∨ rRep1 K x y H Q
theorem krep {X : Cx} (K : PySem.W.Frag) (h : X.K = K := by rfl) : OpR X (binaryOp .Mult) (RRep K) := by
  subst h
  exact fun pins s σ H x y v u Q I rx ry q => (OpR.or op_repT op_rep1) pins s σ H x y v u Q I rx ry q.h
theorem repA {K : PySem.W.Frag} {H : Hp} {a : Addr} {x : V} {k : Int} {Q : VK} (h : H a = some (.tup [x])) (h1 : 1 ≤ k) (h2 : k ≤ 1000) (q : ∀ p H', Ex H H' → H' p = some (.tup (List.replicate k.toNat x)) → Q (.ref p) H') : RRep K (.ref a) (.int k) H Q := by
  refine .mk ?_
  by_cases e : k = 1
  · subst e
    exact .inr ⟨a, _, rfl, rfl, SqT.of h, q a H (Ex.refl _) h⟩
  · refine .inl ⟨a, k, _, rfl, rfl, SqT.of h, by simp, by omega, h2, by simp, fun p hp => q p _ (Ex.new hp) ?_⟩
    rw [upd_same]
    congr 2
    generalize k.toNat = m
    induction m with
    | zero => rfl
    | succ m ih => rw [List.replicate_succ, List.replicate_succ, List.flatten_cons, ih]; rfl

/-! ### data whose text is short -/
structure Sh (B : Nat) (d : PyData) : Prop where
  show_ : d.showable = true
  dict : d.hasDict = false
  short : d.leavesShort 13 = true
  wt : d.weight ≤ B
structure ShAll (B : Nat) (ds : List PyData) : Prop where
  show_ : PyData.showableAll ds = true
  dict : PyData.hasDictAll ds = false
  short : PyData.leavesShortAll 13 ds = true
  wt : PyData.weightAll ds ≤ B
theorem Sh.mono {B C : Nat} {d : PyData} (h : Sh B d) (e : B ≤ C) : Sh C d := ⟨h.1, h.2, h.3, Nat.le_trans h.4 e⟩
theorem ShAll.nil : ShAll 0 [] := ⟨rfl, rfl, rfl, Nat.le_refl _⟩
theorem ShAll.cons {B C : Nat} {d : PyData} {ds : List PyData} (h : Sh B d) (t : ShAll C ds) : ShAll (B + 1 + C) (d :: ds) := by
  refine ⟨?_, ?_, ?_, ?_⟩
  · simp only [PyData.showableAll, h.1, t.1, Bool.and_self]
  · simp only [PyData.hasDictAll, h.2, t.2, Bool.or_self]
  · simp only [PyData.leavesShortAll, h.3, t.3, Bool.and_self]
  · have h1 := h.4
    have h2 := t.4
    simp only [PyData.weightAll]
    omega
theorem ShAll.tup {B : Nat} {ds : List PyData} (t : ShAll B ds) : Sh B (.tuple ds) := ⟨by simpa only [PyData.showable] using t.1, by simpa only [PyData.hasDict] using t.2, by simpa only [PyData.leavesShort] using t.3, by simpa only [PyData.weight] using t.4⟩
theorem ShAll.lst {B : Nat} {ds : List PyData} (t : ShAll B ds) : Sh B (.list ds) := ⟨by simpa only [PyData.showable] using t.1, by simpa only [PyData.hasDict] using t.2, by simpa only [PyData.leavesShort] using t.3, by simpa only [PyData.weight] using t.4⟩
theorem sh_int {i : Int} (h1 : -1000000 ≤ i) (h2 : i ≤ 1000000) : Sh 20 (.int i) := by
  have hn : i.natAbs ≤ 1000000 := by omega
  have hl : i.natAbs ≠ 0 → i.natAbs.log2 < 20 := fun h => (Nat.log2_lt h).mpr (Nat.lt_of_le_of_lt hn (by decide))
  refine ⟨?_, rfl, ?_, ?_⟩
  · simp only [PyData.showable, decide_eq_true_eq]
    by_cases h : i.natAbs = 0
    · rw [h]
      decide
    · exact Nat.lt_trans (hl h) (by decide)
  · simp only [PyData.leavesShort, decide_eq_true_eq]
    exact PyData.shown_int_le2 (by omega) (by omega)
  · simp only [PyData.weight]
    by_cases h : i = 0
    · subst h
      decide
    · have : (i == 0) = false := beq_eq_false_iff_ne.mpr h
      rw [this]
      have := hl (by omega)
      show i.natAbs.log2 + 1 ≤ 20
      omega
theorem sh_ints : ∀ {ns : List Int}, (∀ n ∈ ns, -1000000 ≤ n ∧ n ≤ 1000000) → ShAll (21 * ns.length) (ns.map PyData.int)
  | [], _ => .nil
  | n :: ns, h => by
    have z := ShAll.cons (sh_int (h n (by simp)).1 (h n (by simp)).2) (sh_ints (ns := ns) fun m hm => h m (by simp [hm]))
    refine ⟨z.1, z.2, z.3, Nat.le_trans z.4 ?_⟩
    rw [List.length_cons]
    omega
theorem Sh.len {B : Nat} {d : PyData} (h : Sh B d) (hB : B ≤ 1000000) : d.shown.length ≤ sizeLine := by
  have h2 := PyData.shown_le 13 (by decide) d h.3
  have h4 := h.4
  have e : sizeLine = 16777216 := by decide
  omega
theorem reprA {K : PySem.W.Frag} {H : Hp} {a : Addr} {d : PyData} {B : Nat} {Q : VK} (hd : Dp K H (.ref a) d) (h : Sh B d) (hB : B ≤ 1000000) (hdp : d.depth ≤ 60) (q : Q (.str d.shown) H) : rRepr K [.ref a] H Q := ⟨a, d, rfl, hd, h.1, h.2, hdp, h.len hB, q⟩
end Od

namespace Od
open PySem L2 Evl

/-! ### pictures -/
structure Pc where
  w : Int
  h : Int
  vs : List Int
  cs : List Int
structure Pc.Ok (m : Int) (p : Pc) : Prop where
  w1 : 1 ≤ p.w
  w2 : p.w ≤ m
  h1 : 1 ≤ p.h
  h2 : p.h ≤ m
  vl : (p.vs.length : Int) = p.w * p.h
  cl : (p.cs.length : Int) = p.w * p.h
  vb : ∀ v ∈ p.vs, 0 ≤ v ∧ v ≤ 255
  cb : ∀ v ∈ p.cs, 0 ≤ v ∧ v ≤ 256
def PcV (H : Hp) (v : V) (p : Pc) : Prop := ∃ a va ca, v = .ref a ∧ H a = some (.tup [.int p.w, .int p.h, .ref va, .ref ca]) ∧ H va = some (.tup (p.vs.map V.int)) ∧ H ca = some (.tup (p.cs.map V.int))
theorem PcV.tk {H H' : Hp} {v : V} {p : Pc} (e : TK H H') (h : PcV H v p) : PcV H' v p := by
  obtain ⟨a, va, ca, rfl, h1, h2, h3⟩ := h
  exact ⟨a, va, ca, rfl, e _ _ h1, e _ _ h2, e _ _ h3⟩
def pcD (p : Pc) : PyData := .tuple [.int p.w, .int p.h, .tuple (p.vs.map PyData.int), .tuple (p.cs.map PyData.int)]
theorem PcV.dp {K : PySem.W.Frag} {H : Hp} {v : V} {p : Pc} (h : PcV H v p) : Dp K H v (pcD p) := by
  obtain ⟨a, va, ca, rfl, h1, h2, h3⟩ := h
  exact .tup (SqT.of h1) (.cons (.int _) (.cons (.int _) (.cons (.tup (SqT.of h2) (DaAll.dp (da_ints _))) (.cons (.tup (SqT.of h3) (DaAll.dp (da_ints _))) .nil))))
theorem area_le {w h m : Int} (w1 : 1 ≤ w) (w2 : w ≤ m) (h1 : 1 ≤ h) (h2 : h ≤ m) : 1 ≤ w * h ∧ w * h ≤ m * m := by
  have a : 1 * 1 ≤ w * h := Int.mul_le_mul w1 h1 (by omega) (by omega)
  have b : w * h ≤ m * m := Int.mul_le_mul w2 h2 (by omega) (by omega)
  exact ⟨a, b⟩
theorem Pc.Ok.area {m : Int} {p : Pc} (k : p.Ok m) : 1 ≤ p.w * p.h ∧ p.w * p.h ≤ m * m := area_le k.w1 k.w2 k.h1 k.h2
theorem place_lt {w h x y : Int} (x0 : 0 ≤ x) (x1 : x < w) (y0 : 0 ≤ y) (y1 : y < h) : 0 ≤ y * w + x ∧ y * w + x < w * h := by
  have a : 0 ≤ y * w := Int.mul_nonneg y0 (by omega)
  have b : (y + 1) * w ≤ h * w := Int.mul_le_mul_of_nonneg_right (by omega) (by omega)
  rw [Int.add_mul, Int.one_mul, Int.mul_comm h w] at b
  omega
theorem getD_at {ns : List Int} {i : Nat} (h : i < ns.length) : ns.getD i 0 = ns[i] := by
  rw [List.getD_eq_getElem?_getD, List.getElem?_eq_getElem h]
  rfl
/-- what stands at a point -/
def Pc.In (p : Pc) (x y : Int) : Prop := 0 ≤ x ∧ x < p.w ∧ 0 ≤ y ∧ y < p.h
instance (p : Pc) (x y : Int) : Decidable (p.In x y) := inferInstanceAs (Decidable (_ ∧ _))
def Pc.at (p : Pc) (x y : Int) : Pt := if p.In x y then (p.vs.getD (y * p.w + x).toNat 0, p.cs.getD (y * p.w + x).toNat 0) else (0, 0)
theorem at_bound {m : Int} {p : Pc} (k : p.Ok m) (x y : Int) : 0 ≤ (p.at x y).1 ∧ (p.at x y).1 ≤ 255 ∧ 0 ≤ (p.at x y).2 ∧ (p.at x y).2 ≤ 256 := by
  unfold Pc.at
  split
  · rename_i h
    obtain ⟨a, b, c, d⟩ := h
    obtain ⟨e, f⟩ := place_lt a b c d
    have e1 : (y * p.w + x).toNat < p.vs.length := by have := k.vl; omega
    have e2 : (y * p.w + x).toNat < p.cs.length := by have := k.cl; omega
    rw [getD_at e1, getD_at e2]
    exact ⟨(k.vb _ (List.getElem_mem e1)).1, (k.vb _ (List.getElem_mem e1)).2, (k.cb _ (List.getElem_mem e2)).1, (k.cb _ (List.getElem_mem e2)).2⟩
  · exact ⟨by decide, by decide, by decide, by decide⟩
/-- the item of a tuple of ints at a place -/
theorem atD {ns : List Int} {i : Int} (h0 : 0 ≤ i) (h1 : i < ns.length) : atI (ns.map V.int) i = some (.int (ns.getD i.toNat 0)) := by
  obtain ⟨m, rfl⟩ := Int.eq_ofNat_of_zero_le h0
  have hm : m < ns.length := by omega
  have e : ((m : Int)).toNat = m := by omega
  rw [e, getD_at hm]
  exact atI_nat (by rw [List.getElem?_map, List.getElem?_eq_getElem hm]; rfl)
def spPoint (K : PySem.W.Frag) : Sp := fun vs H Q _ => ∃ v x y p m, vs = [v, .int x, .int y] ∧ PcV H v p ∧ p.Ok m ∧ m ≤ 60 ∧ ∀ w H', Ex H H' → PtV H' w (p.at x y) → Q w H'
theorem sh_pic {m : Int} {p : Pc} (k : p.Ok m) (hm : m ≤ 60) : Sh 300000 (pcD p) := by
  have hv := sh_ints (ns := p.vs) fun n hn => by have := k.vb n hn; omega
  have hc := sh_ints (ns := p.cs) fun n hn => by have := k.cb n hn; omega
  have z := (ShAll.cons (sh_int (i := p.w) (by have := k.w1; omega) (by have := k.w2; omega)) (.cons (sh_int (i := p.h) (by have := k.h1; omega) (by have := k.h2; omega)) (.cons hv.tup (.cons hc.tup .nil)))).tup
  refine z.mono ?_
  have a := k.area.2
  have b : m * m ≤ 60 * 60 := Int.mul_le_mul hm hm (by have := k.w1; have := k.w2; omega) (by decide)
  have := k.vl
  have := k.cl
  omega
theorem depth_ints : ∀ ns : List Int, PyData.depthAll (ns.map PyData.int) = 0
  | [] => by simp only [List.map_nil, PyData.depthAll]
  | n :: ns => by
    rw [List.map_cons]
    simp only [PyData.depthAll, PyData.depth, depth_ints ns, Nat.max_self]
theorem depth_pic (p : Pc) : (pcD p).depth ≤ 60 := by
  simp only [pcD, PyData.depth, PyData.depthAll, depth_ints]
  decide
theorem canLay_ints : ∀ ns : List Int, PyData.canLayAll0 (ns.map PyData.int) = true
  | [] => by simp only [List.map_nil, PyData.canLayAll0]
  | n :: ns => by
    rw [List.map_cons]
    simp only [PyData.canLayAll0, PyData.canLay0, canLay_ints ns, Bool.and_self]
end Od

namespace Od
open PySem L2 Evl

/-! ### the turns of a block, whatever is done in a turn -/
theorem turns {J : It} {n : Nat} {G : Hp → Prop} {Y : Nat → Hp → V → Hp → Prop} (w : Walk J n G Y) {B : V → Hp → (Hp → Prop) → Prop} {H0 : Hp} {Qd : Hp → Prop} (Pv : Nat → Hp → Prop) (h0 : Pv 0 H0) (hG : ∀ i H, i ≤ n → Pv i H → G H)
    (hs : ∀ i x H H', i < n → Pv i H → Y i H x H' → B x H' (Pv (i + 1))) (hd : ∀ H, Pv n H → Qd H) :
    ∃ W : Nat → Nat → Hp → Prop, (∃ m, W 0 m H0) ∧ ∀ i m H, W i m H →
      (J.stop i H ∧ Qd H) ∨ (J.go i H ∧ ∃ Nx : Hp → Prop, (∀ H', Nx H' → ∃ m', m' < m ∧ W (i + 1) m' H') ∧ ∀ x H', J.yld i H x H' → B x H' Nx) := by
  refine ⟨fun i m H => m = n - i ∧ i ≤ n ∧ Pv i H, ⟨n, by simp, Nat.zero_le _, h0⟩, ?_⟩
  rintro i m H ⟨rfl, hi, p⟩
  have q := hG i H hi p
  by_cases hlt : i < n
  · exact .inr ⟨w.goes i H hlt q, Pv (i + 1), fun H' p' => ⟨n - (i + 1), by omega, rfl, hlt, p'⟩, fun x H' y => hs i x H H' hlt p (w.yields i H x H' hlt q y)⟩
  · have e : i = n := by omega
    subst e
    exact .inl ⟨w.stops H q, hd H p⟩
theorem turns_range {lo : Int} {n : Nat} {B : V → Hp → (Hp → Prop) → Prop} {H0 : Hp} {Qd : Hp → Prop} (Pv : Nat → Hp → Prop) (h0 : Pv 0 H0) (hs : ∀ i H, i < n → Pv i H → B (.int (lo + (i : Nat))) H (Pv (i + 1))) (hd : ∀ H, Pv n H → Qd H) :
    ∃ W : Nat → Nat → Hp → Prop, (∃ m, W 0 m H0) ∧ ∀ i m H, W i m H →
      ((Itr lo n).stop i H ∧ Qd H) ∨ ((Itr lo n).go i H ∧ ∃ Nx : Hp → Prop, (∀ H', Nx H' → ∃ m', m' < m ∧ W (i + 1) m' H') ∧ ∀ x H', (Itr lo n).yld i H x H' → B x H' Nx) :=
  turns walk_range Pv h0 (fun _ _ _ _ => trivial) (fun i x H H' hi p y => by
    obtain ⟨rfl, rfl⟩ := y
    exact hs i H' hi p) hd

/-! ### a picture made point by point -/
def cells (w h : Int) (g : Int → Int → Pt) : List Pt := (List.range (w * h).toNat).map fun (k : Nat) => g ((k : Int) % w) ((k : Int) / w)
def mkP (w h : Int) (g : Int → Int → Pt) : Pc := ⟨w, h, (cells w h g).map Prod.fst, (cells w h g).map Prod.snd⟩
theorem mkP_at {w h x y : Int} {g : Int → Int → Pt} (x0 : 0 ≤ x) (x1 : x < w) (y0 : 0 ≤ y) (y1 : y < h) : (mkP w h g).at x y = g x y := by
  obtain ⟨b0, b1⟩ := place_lt x0 x1 y0 y1
  unfold Pc.at
  rw [if_pos ⟨x0, x1, y0, y1⟩]
  have hk : (y * w + x).toNat < (w * h).toNat := by omega
  have e1 : ((y * w + x).toNat : Int) % w = x := by
    rw [Int.toNat_of_nonneg b0, Int.add_comm, Int.add_mul_emod_self_right, Int.emod_eq_of_lt x0 x1]
  have e2 : ((y * w + x).toNat : Int) / w = y := by
    rw [Int.toNat_of_nonneg b0, Int.add_comm, Int.add_mul_ediv_right _ _ (by omega), Int.ediv_eq_zero_of_lt x0 x1, Int.zero_add]
  have l1 : (y * w + x).toNat < ((cells w h g).map Prod.fst).length := by
    unfold cells
    rw [List.length_map, List.length_map, List.length_range]
    exact hk
  have l2 : (y * w + x).toNat < ((cells w h g).map Prod.snd).length := by
    unfold cells
    rw [List.length_map, List.length_map, List.length_range]
    exact hk
  show (((cells w h g).map Prod.fst).getD (y * w + x).toNat 0, ((cells w h g).map Prod.snd).getD (y * w + x).toNat 0) = g x y
  rw [getD_at l1, getD_at l2]
  simp only [cells, List.getElem_map, List.getElem_range]
  rw [e1, e2]
theorem mkP_out {w h x y : Int} {g : Int → Int → Pt} (no : ¬ (0 ≤ x ∧ x < w ∧ 0 ≤ y ∧ y < h)) : (mkP w h g).at x y = (0, 0) := by
  unfold Pc.at
  exact if_neg no
theorem mkP_ok {w h m : Int} {g : Int → Int → Pt} (w1 : 1 ≤ w) (w2 : w ≤ m) (h1 : 1 ≤ h) (h2 : h ≤ m) (hg : ∀ x y, 0 ≤ (g x y).1 ∧ (g x y).1 ≤ 255 ∧ 0 ≤ (g x y).2 ∧ (g x y).2 ≤ 256) : (mkP w h g).Ok m := by
  obtain ⟨a1, a2⟩ := area_le w1 w2 h1 h2
  refine ⟨w1, w2, h1, h2, ?_, ?_, ?_, ?_⟩
  · show (((cells w h g).map Prod.fst).length : Int) = w * h
    unfold cells
    rw [List.length_map, List.length_map, List.length_range]
    omega
  · show (((cells w h g).map Prod.snd).length : Int) = w * h
    unfold cells
    rw [List.length_map, List.length_map, List.length_range]
    omega
  · intro v hv
    obtain ⟨q, hq, rfl⟩ := List.mem_map.mp hv
    obtain ⟨k, _, rfl⟩ := List.mem_map.mp hq
    exact ⟨(hg _ _).1, (hg _ _).2.1⟩
  · intro v hv
    obtain ⟨q, hq, rfl⟩ := List.mem_map.mp hv
    obtain ⟨k, _, rfl⟩ := List.mem_map.mp hq
    exact (hg _ _).2.2
theorem pc_ext {p q : Pc} {m n : Int} (hp : p.Ok m) (hq : q.Ok n) (hw : p.w = q.w) (hh : p.h = q.h) (h : ∀ x y, p.In x y → p.at x y = q.at x y) : p = q := by
  obtain ⟨w, hg, vs, cs⟩ := p
  obtain ⟨w', hg', vs', cs'⟩ := q
  dsimp only at hw hh
  subst hw hh
  have vl := hp.vl
  have cl := hp.cl
  have vl' := hq.vl
  have cl' := hq.cl
  dsimp only at vl cl vl' cl'
  have w1 := hp.w1
  dsimp only at w1
  have key : ∀ k : Nat, k < vs.length → vs.getD k 0 = vs'.getD k 0 ∧ cs.getD k 0 = cs'.getD k 0 := by
    intro k hk
    have d := Int.emod_add_mul_ediv (k : Int) w
    have x0 := Int.emod_nonneg (k : Int) (b := w) (by omega)
    have x1 := Int.emod_lt_of_pos (k : Int) (b := w) (by omega)
    have y0 : 0 ≤ (k : Int) / w := Int.ediv_nonneg (by omega) (by omega)
    have y1 : (k : Int) / w < hg := by
      refine Int.ediv_lt_of_lt_mul (by omega) ?_
      rw [Int.mul_comm]
      omega
    have hin : (⟨w, hg, vs, cs⟩ : Pc).In ((k : Int) % w) ((k : Int) / w) := ⟨x0, x1, y0, y1⟩
    have e := h _ _ hin
    have hin' : (⟨w, hg, vs', cs'⟩ : Pc).In ((k : Int) % w) ((k : Int) / w) := ⟨x0, x1, y0, y1⟩
    unfold Pc.at at e
    rw [if_pos hin, if_pos hin'] at e
    dsimp only at e
    have ek : (((k : Int) / w) * w + (k : Int) % w).toNat = k := by
      rw [Int.mul_comm]
      omega
    rw [ek] at e
    exact ⟨(Prod.mk.inj e).1, (Prod.mk.inj e).2⟩
  have e1 : vs = vs' := by
    refine List.ext_getElem (by omega) fun k h1 h2 => ?_
    have := (key k h1).1
    rw [getD_at h1, getD_at h2] at this
    exact this
  have e2 : cs = cs' := by
    refine List.ext_getElem (by omega) fun k h1 h2 => ?_
    have := (key k (by omega)).2
    rw [getD_at h1, getD_at h2] at this
    exact this
  subst e1 e2
  rfl
/-- row by row -/
theorem cells_take {w h : Int} {g : Int → Int → Pt} {i j : Nat} (hj : (j : Int) < w) (hi : (i : Int) < h) : (cells w h g).take (i * w.toNat + j + 1) = (cells w h g).take (i * w.toNat + j) ++ [g j i] := by
  obtain ⟨b0, b1⟩ := place_lt (x := (j : Int)) (y := (i : Int)) (by omega) hj (by omega) hi
  have hw : ((i * w.toNat + j : Nat) : Int) = (i : Int) * w + j := by
    rw [Int.natCast_add, Int.natCast_mul, Int.toNat_of_nonneg (by omega)]
  have hk : i * w.toNat + j < (w * h).toNat := by omega
  rw [List.take_add_one]
  congr 1
  unfold cells
  rw [List.getElem?_map, List.getElem?_range hk]
  show [g (((i * w.toNat + j : Nat) : Int) % w) (((i * w.toNat + j : Nat) : Int) / w)] = _
  rw [hw, Int.add_comm, Int.add_mul_emod_self_right, Int.emod_eq_of_lt (by omega) hj, Int.add_mul_ediv_right _ _ (by omega), Int.ediv_eq_zero_of_lt (by omega) hj, Int.zero_add]
theorem cells_len {w h : Int} {g : Int → Int → Pt} : (cells w h g).length = (w * h).toNat := by
  unfold cells
  rw [List.length_map, List.length_range]
theorem pc_lay (p : Pc) : (pcD p).canLay0 = true := by
  simp only [pcD, PyData.canLay0, PyData.canLayAll0, canLay_ints, Bool.and_self]
theorem shaped_of {d : PyData} (h : d.canLay0 = true) (hd : d.depth ≤ 64) : SeqAt.shaped d = true := by
  unfold SeqAt.shaped
  rw [h, decide_eq_true hd]
  rfl
theorem pc_shaped (p : Pc) : SeqAt.shaped (pcD p) = true := shaped_of (pc_lay p) (by have := depth_pic p; omega)
theorem pt_shaped (q : Pt) : SeqAt.shaped (ptD q) = true := eqs_pt.shaped (by decide) q
theorem pt_self (q : Pt) : PyData.eqv (ptD q) (ptD q) = true := by rw [eqs_pt.1, decide_eq_true rfl]
theorem pc_self (p : Pc) : PyData.eqv (pcD p) (pcD p) = true := eqv_self (pc_lay p)
theorem mkP_congr {w h : Int} {g k : Int → Int → Pt} (hw : 0 < w) (hh : 0 < h) (e : ∀ x y, 0 ≤ x → x < w → 0 ≤ y → y < h → g x y = k x y) : mkP w h g = mkP w h k := by
  unfold mkP
  have e2 : cells w h g = cells w h k := by
    unfold cells
    refine List.map_congr_left fun i hi => ?_
    have hi := List.mem_range.mp hi
    have a : (0 : Int) ≤ w * h := Int.mul_nonneg (by omega) (by omega)
    refine e _ _ (Int.emod_nonneg _ (by omega)) (Int.emod_lt_of_pos _ hw) (Int.ediv_nonneg (by omega) (by omega)) ?_
    refine Int.ediv_lt_of_lt_mul hw ?_
    rw [Int.mul_comm]
    omega
  rw [e2]
theorem mkP_self {p : Pc} {m : Int} (k : p.Ok m) {g : Int → Int → Pt} (e : ∀ x y, p.In x y → g x y = p.at x y) (hg : ∀ x y, 0 ≤ (g x y).1 ∧ (g x y).1 ≤ 255 ∧ 0 ≤ (g x y).2 ∧ (g x y).2 ≤ 256) : mkP p.w p.h g = p := by
  refine pc_ext (mkP_ok k.w1 k.w2 k.h1 k.h2 hg) k rfl rfl fun x y hi => ?_
  obtain ⟨a, b, c, d⟩ := hi
  have z := mkP_at (w := p.w) (h := p.h) (g := g) a b c d
  rw [z]
  exact e x y ⟨a, b, c, d⟩
end Od

namespace Od
open PySem L2 Evl
/-- what a layer's value becomes: a mode as a value of its own -/
inductive Md where
  | over | add | times | invert | shift (n : Int)
deriving DecidableEq
def Md.word : Md → Str
  | .over => "over" | .add => "add" | .times => "times" | .invert => "invert" | .shift _ => "shift"
def Md.rest : Md → List V
  | .shift n => [.int n]
  | _ => []
def Md.items (m : Md) : List V := .str m.word :: m.rest
theorem Md.at0 (m : Md) : atI m.items 0 = some (.str m.word) := by cases m <;> rfl
theorem Md.ne_invert {m : Md} (h : m ≠ .invert) : m.word ≠ "invert" := by
  cases m with
  | invert => exact absurd rfl h
  | shift _ => show Str.ofString "shift" ≠ _; decide +kernel
  | _ => decide +kernel
theorem Md.ne_over {m : Md} (h : m ≠ .over) : m.word ≠ "over" := by
  cases m with
  | over => exact absurd rfl h
  | shift _ => show Str.ofString "shift" ≠ _; decide +kernel
  | _ => decide +kernel
def Md.Ok : Md → Prop
  | .shift n => -255 ≤ n ∧ n ≤ 255
  | _ => True
def MdV (H : Hp) (v : V) (m : Md) : Prop := ∃ a, v = .ref a ∧ H a = some (.tup m.items)
theorem MdV.ex {H H' : Hp} {v : V} {m : Md} (e : Ex H H') (h : MdV H v m) : MdV H' v m := by
  obtain ⟨a, rfl, ha⟩ := h
  exact ⟨a, rfl, e _ _ ha⟩
theorem MdV.tk {H H' : Hp} {v : V} {m : Md} (e : TK H H') (h : MdV H v m) : MdV H' v m := by
  obtain ⟨a, rfl, ha⟩ := h
  exact ⟨a, rfl, e _ _ ha⟩
/-- the lesser one of 255 and a value, the greater one of 0 and a value -/
def lo255 (x : Int) : Int := if x < 255 then x else 255
def hi0 (x : Int) : Int := if x > 0 then x else 0
def Md.to : Md → Int → Int → Int
  | .over, _, p => p
  | .add, v, p => lo255 (v + p)
  | .times, v, p => v * p / 255
  | .invert, v, _ => 255 - v
  | .shift n, v, _ => hi0 (lo255 (v + n))
def Md.mix (m : Md) (v p c : Int) : Int := v + (m.to v p - v) * c / 256
theorem times_le {v p : Int} (v0 : 0 ≤ v) (v1 : v ≤ 255) (p0 : 0 ≤ p) (p1 : p ≤ 255) : 0 ≤ v * p / 255 ∧ v * p / 255 ≤ 255 := by
  have h0 : 0 ≤ v * p := Int.mul_nonneg v0 p0
  have h1 : v * p ≤ 255 * 255 := Int.le_trans (Int.mul_le_mul_of_nonneg_right v1 p0) (Int.mul_le_mul_of_nonneg_left p1 (by decide))
  omega
theorem Md.to_in (m : Md) {v p : Int} (v0 : 0 ≤ v) (v1 : v ≤ 255) (p0 : 0 ≤ p) (p1 : p ≤ 255) : 0 ≤ m.to v p ∧ m.to v p ≤ 255 := by
  cases m with
  | over => exact ⟨p0, p1⟩
  | add => show 0 ≤ lo255 _ ∧ lo255 _ ≤ 255; unfold lo255; split <;> omega
  | times => exact times_le v0 v1 p0 p1
  | invert => show 0 ≤ 255 - v ∧ 255 - v ≤ 255; omega
  | shift n => show 0 ≤ hi0 _ ∧ hi0 _ ≤ 255; unfold hi0 lo255; split <;> split <;> omega
/-- between a value and a goal -/
theorem mix_between {v g c : Int} (c0 : 0 ≤ c) (c1 : c ≤ 256) : (v ≤ g → v ≤ v + (g - v) * c / 256 ∧ v + (g - v) * c / 256 ≤ g) ∧ (g ≤ v → g ≤ v + (g - v) * c / 256 ∧ v + (g - v) * c / 256 ≤ v) := by
  refine ⟨fun h => ?_, fun h => ?_⟩
  · have a0 : 0 ≤ (g - v) * c := Int.mul_nonneg (by omega) c0
    have a1 : (g - v) * c ≤ (g - v) * 256 := Int.mul_le_mul_of_nonneg_left c1 (by omega)
    omega
  · have a0 : 0 ≤ (v - g) * c := Int.mul_nonneg (by omega) c0
    have a1 : (v - g) * c ≤ (v - g) * 256 := Int.mul_le_mul_of_nonneg_left c1 (by omega)
    have e : (g - v) * c = -((v - g) * c) := by rw [← Int.neg_mul]; congr 1; omega
    rw [e]
    omega
theorem Md.mix_in (m : Md) {v p c : Int} (v0 : 0 ≤ v) (v1 : v ≤ 255) (p0 : 0 ≤ p) (p1 : p ≤ 255) (c0 : 0 ≤ c) (c1 : c ≤ 256) : 0 ≤ m.mix v p c ∧ m.mix v p c ≤ 255 := by
  obtain ⟨t0, t1⟩ := m.to_in v0 v1 p0 p1
  obtain ⟨h1, h2⟩ := mix_between (v := v) (g := m.to v p) c0 c1
  unfold Md.mix
  by_cases h : v ≤ m.to v p
  · have := h1 h; omega
  · have := h2 (by omega); omega
theorem Md.mix_zero (m : Md) (v p : Int) : m.mix v p 0 = v := by
  unfold Md.mix
  rw [Int.mul_zero]
  omega
theorem Md.mix_full (m : Md) (v p : Int) : m.mix v p 256 = m.to v p := by
  unfold Md.mix
  omega
theorem mix_eq (v g c : Int) : v + (g - v) * c / 256 = (256 * v + (g - v) * c) / 256 := by omega
theorem mix_mono {v w g h c : Int} (hv : v ≤ w) (hg : g ≤ h) (c0 : 0 ≤ c) (c1 : c ≤ 256) : v + (g - v) * c / 256 ≤ w + (h - w) * c / 256 := by
  rw [mix_eq, mix_eq]
  have a : v * (256 - c) ≤ w * (256 - c) := Int.mul_le_mul_of_nonneg_right hv (by omega)
  have b : g * c ≤ h * c := Int.mul_le_mul_of_nonneg_right hg c0
  have e1 : 256 * v + (g - v) * c = v * (256 - c) + g * c := by rw [Int.sub_mul, Int.mul_sub]; omega
  have e2 : 256 * w + (h - w) * c = w * (256 - c) + h * c := by rw [Int.sub_mul, Int.mul_sub]; omega
  rw [e1, e2]
  omega
theorem Md.to_mono (m : Md) {v w p : Int} (hm : m ≠ .invert) (hv : v ≤ w) (p0 : 0 ≤ p) : m.to v p ≤ m.to w p := by
  cases m with
  | over => exact Int.le_refl _
  | add => show lo255 _ ≤ lo255 _; unfold lo255; split <;> split <;> omega
  | times =>
    show v * p / 255 ≤ w * p / 255
    have := Int.mul_le_mul_of_nonneg_right hv p0
    omega
  | invert => exact absurd rfl hm
  | shift n =>
    have e : lo255 (v + n) ≤ lo255 (w + n) := by unfold lo255; split <;> split <;> omega
    show hi0 _ ≤ hi0 _
    unfold hi0
    split <;> split <;> omega
theorem Md.mix_mono (m : Md) {v w p c : Int} (hm : m ≠ .invert) (hv : v ≤ w) (p0 : 0 ≤ p) (c0 : 0 ≤ c) (c1 : c ≤ 256) : m.mix v p c ≤ m.mix w p c :=
  Od.mix_mono hv (m.to_mono hm hv p0) c0 c1
theorem iteW {a b : Str} {A B : Prop} (h : a ≠ b) (q : B) : if decide (V.str a = V.str b) = true then A else B := by
  rw [decide_eq_false fun e => h (V.str.inj e)]
  exact q
theorem iteE {a b : Str} {A B : Prop} (h : a = b) (q : A) : if decide (V.str a = V.str b) = true then A else B := by
  rw [decide_eq_true (congrArg V.str h)]
  exact q
theorem iteWn {a b : Str} {A B : Prop} (h : a ≠ b) (q : A) : if (!decide (V.str a = V.str b)) = true then A else B := by
  rw [decide_eq_false fun e => h (V.str.inj e)]
  exact q
theorem iteEn {a b : Str} {A B : Prop} (h : a = b) (q : B) : if (!decide (V.str a = V.str b)) = true then A else B := by
  rw [decide_eq_true (congrArg V.str h)]
  exact q
theorem iteD {p : Prop} [Decidable p] {A B : Prop} (h : p) (q : A) : if decide p = true then A else B := by
  rw [decide_eq_true h]
  exact q
theorem iteN {p : Prop} [Decidable p] {A B : Prop} (h : ¬ p) (q : B) : if decide p = true then A else B := by
  rw [decide_eq_false h]
  exact q
theorem iteDn {p : Prop} [Decidable p] {A B : Prop} (h : p) (q : B) : if (!decide p) = true then A else B := by
  rw [decide_eq_true h]
  exact q
theorem iteNn {p : Prop} [Decidable p] {A B : Prop} (h : ¬ p) (q : A) : if (!decide p) = true then A else B := by
  rw [decide_eq_false h]
  exact q
def spBlend (K : PySem.W.Frag) (g : Md → Int → Int → Int → Int) : Sp := fun vs H Q _ => ∃ mv m v p c, vs = [mv, .int v, .int p, .int c] ∧ MdV H mv m ∧ m.Ok ∧ 0 ≤ v ∧ v ≤ 255 ∧ 0 ≤ p ∧ p ≤ 255 ∧ 0 ≤ c ∧ c ≤ 256 ∧ Q (.int (g m v p c)) H
end Od

namespace Od
open PySem L2 Evl
/-- a paint as a value of its own -/
inductive Pa where
  | solid (v : Int) | steps (f s z : Int) | pic (p : Pc)
def Pa.word : Pa → Str
  | .solid _ => "solid" | .steps _ _ _ => "steps" | .pic _ => "picture"
def PaV (H : Hp) (v : V) : Pa → Prop
  | .solid x => ∃ a, v = .ref a ∧ H a = some (.tup [.str "solid", .int x])
  | .steps f s z => ∃ a, v = .ref a ∧ H a = some (.tup [.str "steps", .int f, .int s, .int z])
  | .pic p => ∃ a u, v = .ref a ∧ H a = some (.tup [.str "picture", u]) ∧ PcV H u p
theorem PaV.tk {H H' : Hp} {v : V} {p : Pa} (e : TK H H') (h : PaV H v p) : PaV H' v p := by
  cases p with
  | solid x => obtain ⟨a, rfl, ha⟩ := h; exact ⟨a, rfl, e _ _ ha⟩
  | steps f s z => obtain ⟨a, rfl, ha⟩ := h; exact ⟨a, rfl, e _ _ ha⟩
  | pic p => obtain ⟨a, u, rfl, ha, hu⟩ := h; exact ⟨a, u, rfl, e _ _ ha, hu.tk e⟩
def Pa.Ok (m : Int) : Pa → Prop
  | .solid x => 0 ≤ x ∧ x ≤ 255
  | .steps f s z => 0 ≤ f ∧ f ≤ 255 ∧ 0 ≤ s ∧ s ≤ 255 ∧ 1 ≤ z ∧ z ≤ 12
  | .pic p => p.Ok m
def Pa.D : Pa → PyData
  | .solid x => .tuple [.str "solid", .int x]
  | .steps f s z => .tuple [.str "steps", .int f, .int s, .int z]
  | .pic p => .tuple [.str "picture", pcD p]
theorem PaV.dp {K : PySem.W.Frag} {H : Hp} {v : V} {p : Pa} (h : PaV H v p) : Dp K H v p.D := by
  cases p with
  | solid x => obtain ⟨a, rfl, ha⟩ := h; exact .tup (SqT.of ha) (.cons (.str _) (.cons (.int _) .nil))
  | steps f s z => obtain ⟨a, rfl, ha⟩ := h; exact .tup (SqT.of ha) (.cons (.str _) (.cons (.int _) (.cons (.int _) (.cons (.int _) .nil))))
  | pic p => obtain ⟨a, u, rfl, ha, hu⟩ := h; exact .tup (SqT.of ha) (.cons (.str _) (.cons hu.dp .nil))
/-- a paint, or None -/
def OpV (H : Hp) (v : V) : Option Pa → Prop
  | none => v = .non
  | some p => PaV H v p
theorem OpV.tk {H H' : Hp} {v : V} {o : Option Pa} (e : TK H H') (h : OpV H v o) : OpV H' v o := by
  cases o with
  | none => exact h
  | some p => exact PaV.tk e h
def opD : Option Pa → PyData
  | none => .none
  | some p => p.D
theorem OpV.dp {K : PySem.W.Frag} {H : Hp} {v : V} {o : Option Pa} (h : OpV H v o) : Dp K H v (opD o) := by
  cases o with
  | none => cases h; exact .non
  | some p => exact PaV.dp h
def opOk (m : Int) : Option Pa → Prop
  | none => True
  | some p => p.Ok m
/-- a clip -/
structure Cl where
  s : Int
  n : Int
  pa : Option Pa
  fi : Int
  fo : Int
structure Cl.Ok (m : Int) (c : Cl) : Prop where
  s0 : 0 ≤ c.s
  s1 : c.s ≤ m
  n1 : 1 ≤ c.n
  n2 : c.n ≤ 400
  fi0 : 0 ≤ c.fi
  fo0 : 0 ≤ c.fo
  fs : c.fi + c.fo ≤ c.n
  pa : opOk 3 c.pa
def Cl.items (c : Cl) (u : V) : List V := [.int c.s, .int c.n, u, .int c.fi, .int c.fo]
def ClV (H : Hp) (v : V) (c : Cl) : Prop := ∃ a u, v = .ref a ∧ H a = some (.tup (c.items u)) ∧ OpV H u c.pa
theorem ClV.tk {H H' : Hp} {v : V} {c : Cl} (e : TK H H') (h : ClV H v c) : ClV H' v c := by
  obtain ⟨a, u, rfl, ha, hu⟩ := h
  exact ⟨a, u, rfl, e _ _ ha, hu.tk e⟩
def Cl.fin (c : Cl) : Int := c.s + c.n
def Cl.lev (c : Cl) (f : Int) : Int := if f - c.s < c.fi then 256 * (f - c.s + 1) / (c.fi + 1) else if c.n - (f - c.s) - 1 < c.fo then 256 * (c.n - (f - c.s) - 1 + 1) / (c.fo + 1) else 256
def spLevel (K : PySem.W.Frag) : Sp := fun vs H Q _ => ∃ cv c m f, vs = [cv, .int f] ∧ ClV H cv c ∧ c.Ok m ∧ m ≤ 100000 ∧ c.s ≤ f ∧ f < c.fin ∧ Q (.int (c.lev f)) H
def spEnd (K : PySem.W.Frag) : Sp := fun vs H Q _ => ∃ cv c, vs = [cv] ∧ ClV H cv c ∧ Q (.int c.fin) H
theorem Cl.lev_in {m : Int} {c : Cl} (k : c.Ok m) {f : Int} (h0 : c.s ≤ f) (h1 : f < c.fin) : 0 ≤ c.lev f ∧ c.lev f ≤ 256 := by
  have := k.fi0
  have := k.fo0
  unfold Cl.lev
  unfold Cl.fin at h1
  have aux : ∀ x y : Int, 0 ≤ x → x < y → 0 ≤ 256 * (x + 1) / (y + 1) ∧ 256 * (x + 1) / (y + 1) ≤ 256 := fun x y x0 xy => by
    refine ⟨Int.ediv_nonneg (by omega) (by omega), ?_⟩
    have : 256 * (x + 1) / (y + 1) < 257 := Int.ediv_lt_of_lt_mul (by omega) (by omega)
    omega
  split
  · exact aux _ _ (by omega) (by omega)
  · split
    · exact aux _ _ (by omega) (by omega)
    · omega
/-- a list of so many ints of this kind stands at D -/
def IntsIn (H : Hp) (D : Addr) (n : Nat) (P : Int → Prop) : Prop := ∃ ns : List Int, H D = some (.lst (ns.map V.int)) ∧ ns.length = n ∧ ∀ x ∈ ns, P x
theorem IntsIn.snoc {H0 H H2 : Hp} {D : Addr} {n : Nat} {P : Int → Prop} {x : Int} (hD : H0 D = none) (e : Ex H0 H) (h : IntsIn H D n P) (e2 : Ex H H2) (hn : n ≤ 1000) (hx : P x) : ∃ acc, H2 D = some (.lst acc) ∧ acc.length < sizeLine ∧ Ex H0 (upd H2 D (.lst (acc ++ [.int x]))) ∧ IntsIn (upd H2 D (.lst (acc ++ [.int x]))) D (n + 1) P := by
  obtain ⟨ns, h1, h2, h3⟩ := h
  refine ⟨_, e2 _ _ h1, slineL (by rw [List.length_map]; omega), (e.trans e2).mut hD, ns ++ [x], by rw [upd_same, List.map_append]; rfl, by simp [h2], fun y hy => ?_⟩
  rcases List.mem_append.mp hy with z | z
  · exact h3 y z
  · rw [List.mem_singleton.mp z]
    exact hx
end Od

/-! errors of the program: Base.__init__(self, ..) of an own class; Kind() without arguments -/
namespace Od
open PySem PySem.Spec PyProof.Rows L2 Evl
section
variable {X : Cx} {o e : Expr} {es : List Expr} {t : TA} {x : Str} {p1 p2 pos : Pos} {CX : CXT} {k : Nat} {f D : Addr} {fd : FuncData} {ps : List Str} {sp : Sp} {ds : List Value} {dvs : List V} {E : XK} {pl : Sem Bool}
/-- Base.__init__(self, ..), Base an own class: the def is called -/
theorem pe_binit (F1 : FnOk X.prog X.w X.K X.mg X.base CX k f fd ps sp) (hr : Room k X.A) (hg : Gl X x) (hm : X.mg x = some (.ref D)) (rd : PySem.W.readsIn X.K D (.type "type") = true)
    (ga : PySem.W.specialIn X.K (.ref D) "__getattribute__" = some (some (.builtin "type.__getattribute__"))) (fa : PySem.W.findCls X.K (.ref D) (.type "type") "__init__" = some (.val (.ref f))) (kf : PySem.W.keepIn X.K (.ref f) = true)
    (hb : Binds X.K fd ps ds) (hd : Vals dvs ds) (hx : Passes CX X E) (ha : PA X (e :: es) t)
    (hdb : (x == ("__debug__" : Str)) = false := by decide) (he : starEach (e :: es) X.env = (false, eval e X.env) :: starEach es X.env := by rfl) (hpl : (backTo pos (starEach es X.env)).any (·.1) = false := by rfl)
    (hc : eval (.Call (.Attribute (.Name x p1) "__init__" p2) (e :: es) [] pos) X.env = (do
      let base ← eval (.Name x p1) X.env
      standAt p2.atName
      let (g, first) ← holding [base] (getMethod base "__init__" pl)
      callWith pos g first (backTo pos (starEach (e :: es) X.env)) (backToKw pos (keywordEach [] X.env))) := by rfl) :
    PE X (.Call (.Attribute (.Name x p1) "__init__" p2) (e :: es) [] pos) (tCall sp dvs E t) :=
  ⟨fun pins s σ H Q I h => PySem.W.methodCall_KW (ld_glob I hg hm (PySem.W.method_cls I.kIn ga (PySem.W.cls_value I.kIn rd fa rfl
    (PySem.W.callWith_K (h₀ := X.base) I.ok.mod.kin kf (thn (ha.run pos pins _ σ H _ (I.tok _) h) fun us s1 ⟨vs, H1, J, r, q⟩ => ⟨J.kIn, run_fn F1 hr hb hd hx J r q⟩) he hpl))) hdb) hc⟩
/-- Kind() -/
theorem pmk_none {C fI : Addr} (T : OexC X.K C) (iC : PySem.W.findIn X.K (.ref C) "__init__" = some (some (.ref fI))) (tI : PySem.W.typeIn X.K (.ref fI) = some (.type "function")) (F1 : FnOk X.prog X.w X.K X.mg X.base CX k fI fd ps sp) (hr : Room (k + 1) X.A)
    (hb : Binds X.K fd ps ds) (hd : Vals dvs ds) (hx : Passes CX X (fun _ _ _ => False)) (hg : Gl X x) (hm : X.mg x = some (.ref C)) (hdb : (x == ("__debug__" : Str)) = false := by decide) :
    PMk X (.Call (.Name x p1) [] [] pos) (tMkO C sp dvs tNil) := by
  intro pins s σ H Q I ⟨_, h⟩
  obtain ⟨nm, qn, N, bs, bm, sn, sub, ab, col, dd, k0, k1, k2, k3, k5, look, tail⟩ := T.cls
  refine wpAny_Call_Name_kw (ld_glob I hg hm (PySem.W.callWith_K0 I.kIn T.kC ?_) hdb)
  show wpAny _ _ (call (.ref C) []) _ _ _
  obtain ⟨hp, gens, dr, tk, os⟩ := s
  have up : hp.objs.size ≤ hp.objs.size + 1 := Nat.le_succ _
  have q0 := h (hp.objs.size + 1) (I.hok.fresh up)
  have more : ∀ b ob, hp.get? b = some ob → ((hp.push (PySem.W.kdv_tup [])).push (PySem.HandSPX.excO C hp.objs.size)).get? b = some ob := fun b ob z => Heap.get?_push_of_some _ (Heap.get?_push_of_some _ z)
  have there : ((hp.push (PySem.W.kdv_tup [])).push (PySem.HandSPX.excO C hp.objs.size)).get? (hp.objs.size + 1) = some (PySem.HandSPX.excO C hp.objs.size) := by heap_get
  have J : Inv X pins σ (upd H (hp.objs.size + 1) (exo (hp.objs.size + 1) C none)) ⟨(hp.push (PySem.W.kdv_tup [])).push (PySem.HandSPX.excO C hp.objs.size), gens, dr, tk, os⟩ :=
    I.laid (t' := tk) (a := hp.objs.size + 1) (o := exo (hp.objs.size + 1) C none) (h' := (hp.push (PySem.W.kdv_tup [])).push (PySem.HandSPX.excO C hp.objs.size)) more up (exo_ok there)
  have rel : Vals (V.ref (hp.objs.size + 1) :: ([] ++ dvs)) (Value.ref (hp.objs.size + 1) :: ds) := .cons rfl hd
  have len : (Value.ref (hp.objs.size + 1) :: [] ++ ds).length = ps.length := by
    have z := rel.length
    rw [F1.len _ _ _ _ q0] at z
    exact z.symm
  refine wpAny_call (PySem.HandSPX.call_own F.excBase_ValueError (fun Y => PySem.HandSPX.refsVE_contains Y bm tail) (I.kIn _ _ look) (PySem.W.looks_findIn I.kIn iC) (fun self => PySem.W.bind_fn I.kIn self tI) (by show 0 ≤ sizeLine; exact Nat.zero_le _) ?_)
  refine codeAny_mono (F1.run _ X.stack _ _ ⟨[Value.ref (hp.objs.size + 1)], []⟩ (Value.ref (hp.objs.size + 1) :: ds) _ _ (fun _ _ _ => False) (hr.make C [] []) (J.env0.make C [] []) (by have z := hb _ [Value.ref (hp.objs.size + 1)] J.kIn len; exact z) rel q0) fun r s' w => ?_
  match r, w with
  | .error er, w => exact hx pins σ _ _ er s' J w
  | .ok (.ret u), ⟨v, H2, os2, bare2, un2, hok2, rv, ev, d, fs, ea, ed, hd1, q2⟩ =>
    subst ev
    obtain ⟨h2, g2, d2, t2, os'⟩ := s'
    exact ⟨rv, mk_end (raises_own T.exC T.tyC) I up more un2 hok2 os2 bare2 ea ed hd1 q2⟩
  | .ok .next, w => exact w.elim
  | .ok .brk, w => exact w.elim
  | .ok .cont, w => exact w.elim
end
/-- the def that stands first in a class's body -/
def clsDef (s : Stmt) : Stmt := match s with
  | .ClassDef _ _ _ b _ _ _ _ _ _ _ => b.getD 0 (.Pass ⟨0, 0, 0, 0⟩)
  | _ => .Pass ⟨0, 0, 0, 0⟩
/-- what the written part says of the program's own base error -/
structure FilmTxt (K : PySem.W.Frag) (mg : Str → Option Value) (D fD : Addr) : Prop where
  g : mg "FilmError" = some (.ref D)
  rd : PySem.W.readsIn K D (.type "type") = true
  ga : PySem.W.specialIn K (.ref D) "__getattribute__" = some (some (.builtin "type.__getattribute__"))
  fa : PySem.W.findCls K (.ref D) (.type "type") "__init__" = some (.val (.ref fD))
  ve : mg "ValueError" = none
  vi : PySem.W.findCls K (.type "ValueError") (.type "type") "__init__" = some (.val (.builtin "ValueError.__init__"))
/-- .. of an error of a kind -/
structure KindTxt (K : PySem.W.Frag) (mg : Str → Option Value) (x : Str) (C fC : Addr) : Prop where
  g : mg x = some (.ref C)
  T : OexC K C
  xf : XfC K C
  noW : PySem.W.findIn K (.ref C) "word" = some none
  noP : PySem.W.findIn K (.ref C) "place" = some none
  iC : PySem.W.findIn K (.ref C) "__init__" = some (some (.ref fC))
  tI : PySem.W.typeIn K (.ref fC) = some (.type "function")
  te : PySem.W.exmOne K (.ref C) (.ref C) = some true
theorem exm_self {K : PySem.W.Frag} {S : Addr} (h1 : PySem.W.subIn K (.ref S) (.type "BaseException") = some true) (h2 : PySem.W.isClsIn K S = true) (h3 : PySem.W.typeIn K (.ref S) = some (.type "type")) (h4 : PySem.W.subIn K (.ref S) (.ref S) = some true) :
    PySem.W.exmOne K (.ref S) (.ref S) = some true := by
  have c1 : (PySem.W.subIn K (.ref S) (.type "BaseException") == some true) = true := by rw [h1] <;> rfl
  have c2 : ((PySem.W.clsIn K S).isSome && PySem.W.typeIn K (.ref S) == some (.type "type")) = true := by
    rw [show (PySem.W.clsIn K S).isSome = true from h2, h3] <;> rfl
  change (if (PySem.W.subIn K (.ref S) (.type "BaseException") == some true) = true then (if ((PySem.W.clsIn K S).isSome && PySem.W.typeIn K (.ref S) == some (.type "type")) = true then PySem.W.subIn K (.ref S) (.ref S) else none) else none) = _
  rw [if_pos c1, if_pos c2, h4]
/-- behind an __init__: the error has its dict -/
def spErrInit (K : PySem.W.Frag) : Sp := fun vs H Q _ => ∃ (a C : Addr) (wd p : V), vs = [.ref a, wd, p] ∧ OexC K C ∧ H a = some (exo a C none) ∧ PySem.W.findIn K (.ref C) "word" = some none ∧ PySem.W.findIn K (.ref C) "place" = some none ∧
  ∀ dx H', H dx = none → dx ≠ a → H' a = some (exo a C (some dx)) → H' dx = some (exd dx [("place", p), ("word", wd)]) → (∀ b, b ≠ a → b ≠ dx → H' b = H b) → Q .non H'
def spKind (K : PySem.W.Frag) (x : Str) : Sp := fun vs H Q _ => ∃ (a C : Addr) (p : V), vs = [.ref a, p] ∧ OexC K C ∧ H a = some (exo a C none) ∧ PySem.W.findIn K (.ref C) "word" = some none ∧ PySem.W.findIn K (.ref C) "place" = some none ∧
  ∀ dx H', H dx = none → dx ≠ a → H' a = some (exo a C (some dx)) → H' dx = some (exd dx [("place", p), ("word", .str x)]) → (∀ b, b ≠ a → b ≠ dx → H' b = H b) → Q .non H'
/-- an error of a kind can be made -/
def KindOk (P : Program) (w : World) (K : PySem.W.Frag) (mg : Str → Option Value) (base : Heap) (x : Str) (C : Addr) : Prop :=
  ∃ fC, KindTxt K mg x C fC ∧ ∃ fd, FnOk P w K mg base CX0 2 fC fd ["self", "place"] (spKind K x) ∧ (∃ ds, Vals [.non] ds ∧ Binds K fd ["self", "place"] ds) ∧ Binds K fd ["self", "place"] []
/-- the dict of an error as it flies -/
def errD (x : Str) (p : V) : HO := .xd [("place", p), ("word", .str x)]
section
variable {X : Cx} {x : Str} {C fC : Addr} {p : V} {H : Hp} {Q : XK}
/-- what is left of Kind(..): its dict -/
theorem kind_made {K : PySem.W.Frag} {mg : Str → Option Value} (T : KindTxt K mg x C fC) {a : Addr} (ha : H a = none) (h : ∀ d H', H d = none → Ex H H' → H' d = some (errD x p) → Q (.ref C) (some d) H') :
    spKind K x [.ref a, p] (upd H a (exo a C none)) (fun v H2 => v = .non ∧ ∃ (d : Addr) (fs : List (Str × V)), H2 a = some (exo a C (some d)) ∧ H2 d = some (exd d fs) ∧ H d = none ∧ Q (.ref C) (some d) (upd (del H2 a) d (.xd fs))) (fun _ _ _ => False) := by
  refine ⟨a, C, p, rfl, T.T, upd_same, T.noW, T.noP, fun dx H' hd hne h1 h2 h3 => ⟨rfl, dx, _, h1, h2, ?_, ?_⟩⟩
  · rwa [upd_ne hne] at hd
  · rw [upd_ne hne] at hd
    refine h dx _ hd (fun b o hb => ?_) upd_same
    have n1 : b ≠ a := fun z => by rw [z, ha] at hb; cases hb
    have n2 : b ≠ dx := fun z => by rw [z, hd] at hb; cases hb
    rw [upd_ne n2, del_ne n1, h3 b n1 n2, upd_ne n1]
    exact hb
end
/-- isinstance(e, c), e the error that the suite holds, with a dict of its own -/
def rIsED (K : PySem.W.Frag) (a : Addr) (cls : Value) (d : Option Addr) : List V → Hp → VK → Prop := fun xs H Q => ∃ (D dd : Addr) (fs : List (Str × V)) (c : V) (cv : Value) (b : Bool), cls = .ref D ∧ d = some dd ∧ H dd = some (.xd fs) ∧ ExcC K D ∧ PySem.W.isClsIn K D = true ∧
  xs = [.ref a, c] ∧ (∀ u, RelV c u → u = cv) ∧ PySem.W.kitOne K (.ref D) cv = some b ∧ Q (.bl b) H
theorem call_isED {X : Cx} {a : Addr} {cls : Value} {d : Option Addr} {oe : Obj} {pn : List (Addr × Obj)} (hz : Zc cls d oe) (hf : ∃ vs, oe.data = .fields vs) (K : PySem.W.Frag) (hK : X.K = K := by rfl) : CallR (X.suite a ((a, oe) :: pn)) (.builtin "isinstance") (rIsED K a cls d) := by
  subst hK
  rintro pins s σ H xs us Q I r ⟨D, dd, fs, c, cv, b, rfl, rfl, hdd, EC, ic, rfl, hcv, kit, q⟩
  cases r with
  | cons r1 rr =>
    cases rr with
    | cons r2 rr =>
      cases rr
      cases r1
      obtain rfl := hcv _ r2
      obtain ⟨look, _⟩ := I.pin (a, oe) (List.mem_append_left _ List.mem_cons_self)
      obtain ⟨vs, dat⟩ := hf
      have isD : ObjOk X.prog X.w H s.heap dd (.xd fs) := I.hok dd _ hdd
      obtain ⟨mA, ns, _⟩ := isD
      obtain ⟨od, lookD, _⟩ := lookIn_ns ns
      have J : PySem.W.InstAt s.heap a oe D (some od) := ⟨look, hz.1, by unfold PySem.W.notCls; rw [dat] <;> rfl, by rw [hz.2]; exact lookD⟩
      exact PySem.W.kia_one (PySem.W.kitx_exc (show (PySem.W.clsIn X.K D).isSome = true from ic) EC.hg EC.hk EC.hs EC.ha EC.hn EC.ht EC.hm) I.kIn J kit (fun z => nomatch z) fun tk => ⟨.bl b, H, I.kept (t' := tk) fun _ _ z => z, rfl, q⟩
end Od

/-! data of any kind, as a check may be passed it: known kinds, tuples in tuples -/
namespace Od
open PySem L2 Evl
theorem Kn.asTup {H : Hp} {v : V} {T : String} (k : Kn H v T) (h : isA T "tuple" = true) : ∃ a xs, v = .ref a ∧ H a = some (.tup xs) := by
  cases k with
  | tup h1 => exact ⟨_, _, rfl, h1⟩
  | non => exact absurd h (by decide +kernel)
  | bl b => exact absurd h (by decide +kernel)
  | int i => exact absurd h (by decide +kernel)
  | str x => exact absurd h (by decide +kernel)
  | lst h1 => exact absurd h (by decide +kernel)
theorem Kn.noTup {H : Hp} {v : V} {T : String} (k : Kn H v T) (h : isA T "tuple" = false) : ∀ a xs, v = .ref a → H a ≠ some (.tup xs) := by
  intro a xs e z
  cases k with
  | tup h1 => exact absurd h (by decide +kernel)
  | lst h1 =>
    cases e
    rw [h1] at z
    cases z
  | _ => cases e
/-- known, its tuples of at most m items, told n tuples deep -/
def Deep (m : Nat) : Nat → Hp → V → Prop
  | 0, H, v => ∃ T, Kn H v T
  | n + 1, H, v => (∃ T, Kn H v T) ∧ ∀ a xs, v = .ref a → H a = some (.tup xs) → xs.length ≤ m ∧ ∀ x ∈ xs, Deep m n H x
theorem Deep.kn {m n : Nat} {H : Hp} {v : V} (h : Deep m n H v) : ∃ T, Kn H v T := by
  cases n with
  | zero => exact h
  | succ n => exact h.1
theorem Deep.ex {m : Nat} : ∀ {n : Nat} {H H' : Hp} {v : V}, Ex H H' → Deep m n H v → Deep m n H' v
  | 0, _, _, _, e, ⟨T, k⟩ => ⟨T, k.mono e⟩
  | n + 1, H, H', v, e, ⟨⟨T, k⟩, h⟩ => by
    refine ⟨⟨T, k.mono e⟩, fun a xs ev ha => ?_⟩
    cases k with
    | tup h1 =>
      cases ev
      rw [e _ _ h1] at ha
      cases ha
      obtain ⟨l, q⟩ := h _ _ rfl h1
      exact ⟨l, fun x hx => (q x hx).ex e⟩
    | lst h1 =>
      cases ev
      rw [e _ _ h1] at ha
      cases ha
    | _ => cases ev
theorem Deep.le {m m' : Nat} (lm : m ≤ m') : ∀ {n : Nat} {H : Hp} {v : V}, Deep m n H v → Deep m' n H v
  | 0, _, _, h => h
  | n + 1, _, _, ⟨k, h⟩ => ⟨k, fun a xs ev ha => ⟨Nat.le_trans (h a xs ev ha).1 lm, fun x hx => ((h a xs ev ha).2 x hx).le lm⟩⟩
theorem Deep.down {m : Nat} : ∀ {n : Nat} {H : Hp} {v : V}, Deep m (n + 1) H v → Deep m n H v
  | 0, _, _, h => h.1
  | n + 1, _, _, ⟨k, h⟩ => ⟨k, fun a xs ev ha => ⟨(h a xs ev ha).1, fun x hx => ((h a xs ev ha).2 x hx).down⟩⟩
/-- nothing in it is a tuple -/
theorem Deep.flat {m n : Nat} {H : Hp} {v : V} {T : String} (k : Kn H v T) (h : ∀ a xs, v = .ref a → H a ≠ some (.tup xs)) : Deep m n H v := by
  cases n with
  | zero => exact ⟨T, k⟩
  | succ n => exact ⟨⟨T, k⟩, fun a xs ev ha => absurd ha (h a xs ev)⟩
theorem Deep.non {m n : Nat} {H : Hp} : Deep m n H .non := .flat .non fun _ _ z => by cases z
theorem Deep.bl {m n : Nat} {H : Hp} {b : Bool} : Deep m n H (.bl b) := .flat (.bl b) fun _ _ z => by cases z
theorem Deep.int {m n : Nat} {H : Hp} {i : Int} : Deep m n H (.int i) := .flat (.int i) fun _ _ z => by cases z
theorem Deep.str {m n : Nat} {H : Hp} {x : Str} : Deep m n H (.str x) := .flat (.str x) fun _ _ z => by cases z
theorem Deep.lst {m n : Nat} {H : Hp} {a : Addr} {xs : List V} (h : H a = some (.lst xs)) : Deep m n H (.ref a) := .flat (.lst h) fun _ _ e z => by
  cases e
  rw [h] at z
  cases z
theorem Deep.tup {m n : Nat} {H : Hp} {a : Addr} {xs : List V} (h : H a = some (.tup xs)) (l : xs.length ≤ m) (q : ∀ x ∈ xs, Deep m n H x) : Deep m (n + 1) H (.ref a) :=
  ⟨⟨_, .tup h⟩, fun b ys e hb => by
    cases e
    rw [h] at hb
    cases hb
    exact ⟨l, q⟩⟩
theorem Deep.at {m n : Nat} {H : Hp} {a : Addr} {xs : List V} (d : Deep m (n + 1) H (.ref a)) (h : H a = some (.tup xs)) : xs.length ≤ m ∧ ∀ x ∈ xs, Deep m n H x := d.2 a xs rfl h
theorem cutV_le {xs : List V} {lo hi : Option Int} : (cutV xs lo hi).length ≤ xs.length := by
  unfold cutV
  rw [List.length_take, List.length_drop]
  omega
theorem cut_two {xs : List V} {t lo : Int} (t0 : 0 ≤ t) (h : t ≤ lo) : (cutV xs none (some t)).length + (cutV xs (some lo) none).length ≤ xs.length := by
  unfold cutV
  rw [List.length_take, List.length_drop, List.length_take, List.length_drop]
  obtain ⟨t', rfl⟩ := Int.eq_ofNat_of_zero_le t0
  obtain ⟨lo', rfl⟩ := Int.eq_ofNat_of_zero_le (Int.le_trans t0 h)
  rw [HT.sIx_nat, HT.sIx_nat, HT.sIx_none, HT.sIx_none]
  omega
/-- one of the strange values: a tuple among them has only numbers -/
def Odd (H : Hp) (v : V) : Prop := (∃ T, Kn H v T) ∧ ∀ a xs, v = .ref a → H a = some (.tup xs) → xs.length ≤ 2 ∧ ∀ x ∈ xs, ∃ i, x = .int i
theorem Odd.deep {m n : Nat} {H : Hp} {v : V} (h : Odd H v) (l : 2 ≤ m) : Deep m n H v := by
  obtain ⟨⟨T, k⟩, q⟩ := h
  cases n with
  | zero => exact ⟨T, k⟩
  | succ n =>
    refine ⟨⟨T, k⟩, fun a xs ev ha => ⟨Nat.le_trans (q a xs ev ha).1 l, fun x hx => ?_⟩⟩
    obtain ⟨i, rfl⟩ := (q a xs ev ha).2 x hx
    exact .int
theorem Odd.flat {H : Hp} {v : V} {T : String} (k : Kn H v T) (h : ∀ a xs, v = .ref a → H a ≠ some (.tup xs)) : Odd H v := ⟨⟨T, k⟩, fun a xs ev ha => absurd ha (h a xs ev)⟩
theorem Odd.lst {H : Hp} {a : Addr} {xs : List V} (h : H a = some (.lst xs)) : Odd H (.ref a) := .flat (.lst h) fun _ _ e z => by
  cases e
  rw [h] at z
  cases z
theorem Odd.tup {H : Hp} {a : Addr} {xs : List V} (h : H a = some (.tup xs)) (l : xs.length ≤ 2) (q : ∀ x ∈ xs, ∃ i, x = .int i) : Odd H (.ref a) :=
  ⟨⟨_, .tup h⟩, fun b ys e hb => by
    cases e
    rw [h] at hb
    cases hb
    exact ⟨l, q⟩⟩
theorem Odd.non {H : Hp} : Odd H .non := .flat .non fun _ _ z => by cases z
theorem Odd.bl {H : Hp} {b : Bool} : Odd H (.bl b) := .flat (.bl b) fun _ _ z => by cases z
theorem Odd.int {H : Hp} {i : Int} : Odd H (.int i) := .flat (.int i) fun _ _ z => by cases z
theorem Odd.str {H : Hp} {x : Str} : Odd H (.str x) := .flat (.str x) fun _ _ z => by cases z
theorem Odd.ex {H H' : Hp} {v : V} (e : Ex H H') (h : Odd H v) : Odd H' v := by
  obtain ⟨⟨T, k⟩, q⟩ := h
  refine ⟨⟨T, k.mono e⟩, fun a xs ev ha => ?_⟩
  cases k with
  | tup h1 =>
    cases ev
    rw [e _ _ h1] at ha
    cases ha
    exact q _ _ rfl h1
  | lst h1 =>
    cases ev
    rw [e _ _ h1] at ha
    cases ha
  | _ => cases ev
/-- a strange value, drawn -/
def spOdd (K : PySem.W.Frag) : Sp := fun vs H Q _ => ∃ a, vs = [.ref a] ∧ DeckAt K H a ∧ ∀ v H', Ex H H' → Odd H' v → Q v H'
/-- a tuple bent -/
def spBent (K : PySem.W.Frag) : Sp := fun vs H Q _ => ∃ (a b : Addr) (m n : Nat) (xs : List V), vs = [.ref a, .ref b] ∧ DeckAt K H a ∧ H b = some (.tup xs) ∧ Deep m (n + 1) H (.ref b) ∧ 2 ≤ m ∧ m ≤ 1000 ∧ ∀ v H', Ex H H' → Deep (m + 1) (n + 1) H' v → Q v H'
/-- isinstance of a class: what the program's text says -/
def IsK (K : PySem.W.Frag) (mg : Str → Option Value) (C : Addr) (x : Str) (b : Bool) : Prop := ∃ D, mg x = some (.ref D) ∧ PySem.W.kitOne K (.ref C) (.ref D) = some b
structure IsV (K : PySem.W.Frag) (C : Addr) : Prop where
  ec : ExcC K C
  ic : PySem.W.isClsIn K C = true
  ve : PySem.W.kitOne K (.ref C) (.type "ValueError") = some true
end Od

/-! match on a tuple: sequences whose items are texts, names and _, and _ as the last case -/
namespace Od
open PySem L2 Evl PySem.Spec PyProof.Rows
def isW (w : Str) : V → Bool
  | .str x => x == w
  | _ => false
section
variable {X : Cx}
theorem rc_of {prog : Program} {w : World} {A : Around} {E : Value → Shared → Prop} {s : Shared} {Q : Value → Shared → Prop} {a b : Value} {k : Bool} (h : SeqAt.RcAt A s a b k) (hq : Q (.bool k) s) : wpAny (model prog w) A (compareOp .Eq a b) Q E s := h prog w E Q hq
/-- x == 'w', x of a known kind -/
def rEqW : R2 := fun x y H Q => ∃ T w, Kn H x T ∧ y = .str w ∧ Q (.bl (isW w x)) H
theorem op_eqW (hu : X.A.units < cLine) : OpR X (compareOp .Eq) rEqW := by
  intro pins s σ H x y v u Q I rx ry ⟨T, w, kn, e, q⟩
  subst e
  have z := fun (h : rEq x (.str w) H Q) => op_eq pins s σ H x (.str w) v u Q I rx ry h
  have ns : ∀ {c : V}, (∀ y, c ≠ .str y) → isW w c = decide (c = V.str w) := fun {c} hc => by
    rw [decide_eq_false (hc w)]
    cases c with
    | str y => exact absurd rfl (hc y)
    | _ => rfl
  cases kn with
  | non => exact z ⟨rfl, by rw [← ns (fun _ e => by cases e)]; exact q⟩
  | bl b => exact z ⟨rfl, by rw [← ns (fun _ e => by cases e)]; exact q⟩
  | int i => exact z ⟨rfl, by rw [← ns (fun _ e => by cases e)]; exact q⟩
  | str j =>
    refine z ⟨rfl, ?_⟩
    have e : isW w (.str j) = decide (V.str j = V.str w) := by rw [dec_str]; rfl
    rw [← e]
    exact q
  | tup h =>
    cases rx
    obtain ⟨t, rfl⟩ := ry
    obtain ⟨its, _, isT, _⟩ := I.tuple (SqT.of h)
    exact rc_of (SeqAt.RcAt.tuple_str w t (show s.heap.IsTuple _ its.toArray from isT) hu) ⟨.bl false, H, I, rfl, q⟩
  | lst h =>
    cases rx
    obtain ⟨t, rfl⟩ := ry
    obtain ⟨its, _, isL, _⟩ := I.list (SqL.of h)
    exact rc_of (SeqAt.RcAt.list_str w t isL.isList hu) ⟨.bl false, H, I, rfl, q⟩
/-- what a pattern binds: slots, and the names of the model -/
inductive Bnd (X : Cx) : List (Nat × V) → List (Str × Value) → Prop
  | nil : Bnd X [] []
  | cons {i : Nat} {n : Str} {x : V} {u : Value} {vs : List (Nat × V)} {bs : List (Str × Value)} : X.N[i]? = some n → Loc X.env.scope n → (X.fn n = true ∨ X.env.scope.names.lookup n = some .local) → RelV x u → Bnd X vs bs → Bnd X ((i, x) :: vs) ((n, u) :: bs)
def sets (σ : L2.St) : List (Nat × V) → L2.St
  | [] => σ
  | p :: vs => sets (σ.set p.1 (some p.2)) vs
theorem bind_all {pins : List (Addr × Obj)} (hN : X.N.Nodup) {Q : Unit → Shared → Prop} {E : Value → Shared → Prop} : ∀ {vs : List (Nat × V)} {bs : List (Str × Value)} {s : Shared} {σ : L2.St} {H : Hp}, Bnd X vs bs → Inv X pins σ H s → (∀ s', Inv X pins (sets σ vs) H s' → Q () s') →
    wpAny (model X.prog X.w) X.A (assignInOrder (bs.map fun (n, _) => bindName X.env n) (bs.map (·.2))) Q E s
  | _, _, s, σ, H, .nil, I, q => wpAny_assignInOrder_none (q s I)
  | _, _, s, σ, H, .cons hi hx hf r b, I, q => wpAny_assignInOrder_more (wpAny_bindName (store_ok I hN hi hx r (fun s2 I2 => bind_all hN b I2 q) hf))
/-- items against values: the reading; what is bound, or no match -/
abbrev TPs := List V → Hp → (List (Nat × V) → Prop) → Prop → Prop
def MP (X : Cx) (pins : List (Addr × Obj)) (σ : L2.St) (H : Hp) (yes : List (Nat × V) → Prop) (no : Prop) (r : Option (List (Str × Value))) (s' : Shared) : Prop :=
  Inv X pins σ H s' ∧ match r with
    | none => no
    | some bs => ∃ vs, Bnd X vs bs ∧ yes vs
structure PMs (X : Cx) (ps : List Pattern) (t : TPs) : Prop where
  run : ∀ (pins : List (Addr × Obj)) (s : Shared) (σ : L2.St) (H : Hp) (xs : List V) (us : List Value) (yes : List (Nat × V) → Prop) (no : Prop), Inv X pins σ H s → Vals xs us → t xs H yes no → wpAny (model X.prog X.w) X.A (matchEach ps X.env us) (MP X pins σ H yes no) X.xe s
def mNil : TPs := fun xs H yes no => xs = [] ∧ yes []
theorem pms_nil : PMs X [] mNil := ⟨fun pins s σ H xs us yes no I r ⟨e, q⟩ => wpAny_matchEach_nil ⟨I, [], .nil, q⟩⟩
def mCap (i : Nat) (t : TPs) : TPs := fun xs H yes no => ∃ x ys, xs = x :: ys ∧ t ys H (fun bs => yes ((i, x) :: bs)) no
theorem pms_cap {i : Nat} {n : Str} {pos : Pos} {ps : List Pattern} {t : TPs} (hi : X.N[i]? = some n) (hx : Loc X.env.scope n) (h : PMs X ps t) (hf : X.fn n = true ∨ X.env.scope.names.lookup n = some .local := by first | exact .inl rfl | exact .inr rfl | assumption) : PMs X (.MatchAs none (some n) pos :: ps) (mCap i t) := by
  refine ⟨fun pins s σ H xs us yes no I r ⟨x, ys, e, q⟩ => ?_⟩
  subst e
  cases r with
  | cons r1 rr =>
    refine wpAny_matchEach_cons (wpAny_matchPattern_Capture (thn (h.run pins s σ H ys _ _ no I rr q) fun r' s2 ⟨I2, m⟩ => ?_))
    cases r' with
    | none => exact ⟨I2, m⟩
    | some bs =>
      obtain ⟨vs, b, y⟩ := m
      exact ⟨I2, _, .cons hi hx hf r1 b, y⟩
def mWild (t : TPs) : TPs := fun xs H yes no => ∃ x ys, xs = x :: ys ∧ t ys H yes no
theorem pms_wild {pos : Pos} {ps : List Pattern} {t : TPs} (h : PMs X ps t) : PMs X (.MatchAs none none pos :: ps) (mWild t) := by
  refine ⟨fun pins s σ H xs us yes no I r ⟨x, ys, e, q⟩ => ?_⟩
  subst e
  cases r with
  | cons r1 rr =>
    refine wpAny_matchEach_cons (wpAny_matchPattern_Capture (thn (h.run pins s σ H ys _ _ no I rr q) fun r' s2 ⟨I2, m⟩ => ?_))
    cases r' with
    | none => exact ⟨I2, m⟩
    | some bs => exact ⟨I2, m⟩
def mWord (w : Str) (t : TPs) : TPs := fun xs H yes no => ∃ x ys T, xs = x :: ys ∧ Kn H x T ∧ if isW w x = true then t ys H yes no else no
theorem pms_word {w : Str} {j : Nat} {p pos : Pos} {ps : List Pattern} {t : TPs} (hu : X.A.units + 64 < cLine) (h : PMs X ps t) : PMs X (.MatchValue (.Constant (.str w) j p) pos :: ps) (mWord w t) := by
  refine ⟨fun pins s σ H xs us yes no I r ⟨x, ys, T, e, kn, q⟩ => ?_⟩
  subst e
  cases r with
  | cons r1 rr =>
    refine wpAny_matchEach_cons (wpAny_matchPattern_Value (thn (pe_str.run pins s σ H (fun v H' => v = .str w ∧ H' = H) I ⟨rfl, rfl⟩) fun u s1 ⟨v, H1, I1, rv, ev, eH⟩ => ?_))
    subst ev eH
    refine thn (op_eqW (by omega) pins s1 σ H1 x (.str w) _ _ (fun v H' => v = .bl (isW w x) ∧ H' = H1) I1 r1 rv ⟨T, w, kn, rfl, rfl, rfl⟩) fun c s2 ⟨v, H2, I2, rc, ev, eH⟩ => ?_
    subst ev eH
    cases rc
    refine wpAny_truthy_bool ?_
    cases hw : isW w x with
    | false =>
      rw [hw] at q
      exact ⟨I2, q⟩
    | true =>
      rw [hw] at q
      refine thn (h.run pins s2 σ H2 ys _ _ no I2 rr q) fun r' s3 ⟨I3, m⟩ => ?_
      cases r' with
      | none => exact ⟨I3, m⟩
      | some bs => exact ⟨I3, m⟩
/-- the cases -/
structure PCs (X : Cx) (cs : List MatchCase) (t : V → TS) : Prop where
  run : ∀ (pins : List (Addr × Obj)) (s : Shared) (σ : L2.St) (H : Hp) (v : V) (u : Value) (first : Bool) (D : Ends), Inv X pins σ H s → RelV v u → t v D σ H → wpAny (model X.prog X.w) X.A (matchCases cs X.env u first) (SP X pins D) X.xe s
def cNil : V → TS := fun _ D σ H => D.nx σ H
theorem pcs_nil : PCs X [] cNil := ⟨fun pins s σ H v u first D I r q => wpAny_matchCases_nil ⟨σ, H, I, q⟩⟩
def cElse (tb : TS) : V → TS := fun _ D σ H => tb D σ H
theorem pcs_else {pos : Pos} {body : List Stmt} {rest : List MatchCase} {tb : TS} (hb : PSs X body tb) : PCs X (⟨.MatchAs none none pos, none, body⟩ :: rest) (cElse tb) :=
  ⟨fun pins s σ H v u first D I r q => wpAny_matchCases_cons (wpAny_matchPattern_Capture (wpAny_assignInOrder_none (hb.run pins s σ H D I q)))⟩
def cSeq (K : PySem.W.Frag) (n : Nat) (tp : TPs) (tb : TS) (tr : V → TS) : V → TS := fun v D σ H => ∃ a xs, v = .ref a ∧ SqT K H a xs ∧ if xs.length = n then tp xs H (fun bs => tb D (sets σ bs) H) (tr v D σ H) else tr v D σ H
theorem pcs_seq (K : PySem.W.Frag) {pos : Pos} {ps : List Pattern} {body : List Stmt} {rest : List MatchCase} {tp : TPs} {tb : TS} {tr : V → TS} (hc : X.calm = true) (hN : X.N.Nodup) (hp : PMs X ps tp) (hb : PSs X body tb) (hr : PCs X rest tr)
    (hstar : ps.findIdx? (·.isStar) = none := by rfl) (hwild : (ps.all fun p => p.isWildcard || (p.isStar && p.names.isEmpty)) = false := by rfl) (hK : X.K = K := by rfl) : PCs X (⟨.MatchSequence ps pos, none, body⟩ :: rest) (cSeq K ps.length tp tb tr) := by
  subst hK
  refine ⟨fun pins s σ H v u first D I r ⟨a, xs, e, sq, q⟩ => ?_⟩
  subst e
  have r0 := r
  cases r
  obtain ⟨its, rv, isT, sz⟩ := I.tuple sq
  have len := rv.length
  have fit : ((its.toArray.size : Nat) : Int) < 2 ^ 63 := by
    have e : sizeLine = 16777216 := by decide
    rw [List.size_toArray]
    omega
  refine wpAny_matchCases_cons (wpAny_matchPattern_Sequence (wpAny_collectionFlag (T := "tuple") (b := true) isT.typeIs flag_seq_tuple ?_) hstar hwild)
  refine pyLen_tuple isT fit ?_
  have I1 : Inv X pins σ H { s with toks := s.toks + 1 + 1 } := I.kept (h' := s.heap) (t' := s.toks + 1 + 1) fun _ _ z => z
  by_cases hl : xs.length = ps.length
  · rw [if_pos hl] at q
    have e1 : ((its.toArray.size : Int) != (ps.length : Int)) = false := by
      rw [List.size_toArray]
      simp only [bne_eq_false_iff_eq]
      omega
    rw [e1]
    have e2 : ps.length = its.toArray.size := by rw [List.size_toArray]; omega
    rw [e2]
    refine PySem.wpAny_unpackItems_tuple (s := { s with toks := s.toks + 1 + 1 }) (I.ok.hd hc) (show s.heap.IsTuple a its.toArray from isT) fun h' hx => ?_
    have I2 : Inv X pins σ H { s with heap := h', toks := s.toks + 1 + 1 } := I.kept (t' := s.toks + 1 + 1) fun b o z => hx b o (Nat.ne_of_lt (Heap.lt_size z)) z
    refine thn (hp.run pins _ σ H xs _ _ _ I2 (by simpa using rv) q) fun r' s3 ⟨I3, m⟩ => ?_
    cases r' with
    | none => exact hr.run pins s3 σ H _ _ false D I3 r0 m
    | some bs =>
      obtain ⟨vs, b, y⟩ := m
      exact bind_all hN b I3 fun s4 I4 => hb.run pins s4 _ H D I4 y
  · rw [if_neg hl] at q
    have e1 : ((its.toArray.size : Int) != (ps.length : Int)) = true := by
      rw [List.size_toArray]
      simp only [bne_iff_ne, ne_eq]
      omega
    rw [e1]
    exact hr.run pins _ σ H _ _ false D I1 r0 q
theorem ps_match {e : Expr} {cs : List MatchCase} {pos : Pos} {te : TE} {t : V → TS} (he : PE X e te) (hcs : PCs X cs t) : PS X (.Match e cs pos) (fun D σ H => te σ H fun v H1 => t v D σ H1) :=
  ⟨fun pins s σ H D I h => wpAny_Match (thn (he.run pins s σ H _ I h) fun u s1 ⟨v, H1, I1, r, q⟩ => hcs.run pins s1 σ H1 v u true D I1 r q)⟩
end
theorem lenY {A B : Prop} {n m : Nat} (h : n = m) (q : A) : if n = m then A else B := by
  rw [if_pos h]
  exact q
theorem lenN {A B : Prop} {n m : Nat} (h : n ≠ m) (q : B) : if n = m then A else B := by
  rw [if_neg h]
  exact q
end Od

/-! data that is told whole: short, not deep -/
namespace Od
open PySem L2 Evl
theorem da_kn {H : Hp} {v : V} {d : PyData} (h : Da H v d) : ∃ T, Kn H v T := by
  cases h with
  | non => exact ⟨_, .non⟩
  | bl b => exact ⟨_, .bl b⟩
  | int i => exact ⟨_, .int i⟩
  | str x => exact ⟨_, .str x⟩
  | lst h _ _ => exact ⟨_, .lst h⟩
  | tup h _ _ => exact ⟨_, .tup h⟩
theorem da_item {H : Hp} {x : V} : ∀ {xs : List V} {ds : List PyData}, DaAll H xs ds → x ∈ xs → ∃ d ∈ ds, Da H x d
  | _, _, .cons h k, hx => by
    rcases List.mem_cons.mp hx with rfl | hx
    · exact ⟨_, by simp, h⟩
    · obtain ⟨d, hd, q⟩ := da_item k hx
      exact ⟨d, by simp [hd], q⟩
theorem da_deep : ∀ {n : Nat} {H : Hp} {v : V} {d : PyData}, Da H v d → Deep 1000000 n H v
  | 0, _, _, _, h => da_kn h
  | n + 1, H, v, d, h => by
    refine ⟨da_kn h, fun a xs e ha => ?_⟩
    cases h with
    | tup h1 k l =>
      cases e
      rw [h1] at ha
      cases ha
      refine ⟨by rw [DaAll.length k]; exact l, fun x hx => ?_⟩
      obtain ⟨d', _, q⟩ := da_item k hx
      exact da_deep q
    | lst h1 k l =>
      cases e
      rw [h1] at ha
      cases ha
    | _ => cases e
/-- told, at most B heavy and n deep -/
def DX (B n : Nat) (H : Hp) (v : V) : Prop := ∃ d, Da H v d ∧ Sh B d ∧ d.depth ≤ n ∧ d.canLay0 = true
theorem DX.ex {B n : Nat} {H H' : Hp} {v : V} (e : Ex H H') (h : DX B n H v) : DX B n H' v := by
  obtain ⟨d, h1, h2⟩ := h
  exact ⟨d, h1.mono e, h2⟩
theorem DX.le {B C n m : Nat} {H : Hp} {v : V} (h : DX B n H v) (b : B ≤ C) (l : n ≤ m) : DX C m H v := by
  obtain ⟨d, h1, h2, h3, h4⟩ := h
  exact ⟨d, h1, h2.mono b, Nat.le_trans h3 l, h4⟩
theorem DX.kn {B n : Nat} {H : Hp} {v : V} (h : DX B n H v) : ∃ T, Kn H v T := by
  obtain ⟨d, h1, _⟩ := h
  exact da_kn h1
theorem DX.deep {B n k : Nat} {H : Hp} {v : V} (h : DX B n H v) : Deep 1000000 k H v := by
  obtain ⟨d, h1, _⟩ := h
  exact da_deep h1
theorem dx_all {B n : Nat} {H : Hp} : ∀ {xs : List V}, (∀ x ∈ xs, DX B n H x) → ∃ ds, DaAll H xs ds ∧ ShAll ((B + 1) * xs.length) ds ∧ PyData.depthAll ds ≤ n ∧ PyData.canLayAll0 ds = true
  | [], _ => ⟨[], .nil, by rw [List.length_nil, Nat.mul_zero]; exact .nil, Nat.zero_le _, rfl⟩
  | x :: xs, h => by
    obtain ⟨d, h1, h2, h3, h4⟩ := h x (by simp)
    obtain ⟨ds, k1, k2, k3, k4⟩ := dx_all (xs := xs) fun y hy => h y (by simp [hy])
    have z := ShAll.cons h2 k2
    refine ⟨d :: ds, .cons h1 k1, ⟨z.1, z.2, z.3, Nat.le_trans z.4 ?_⟩, ?_, ?_⟩
    · rw [List.length_cons, Nat.mul_add, Nat.mul_one, Nat.add_comm]
      exact Nat.le_refl _
    · simp only [PyData.depthAll]
      exact Nat.max_le.mpr ⟨h3, k3⟩
    · simp only [PyData.canLayAll0, h4, k4, Bool.and_self]
theorem DX.tup {B n m : Nat} {H : Hp} {a : Addr} {xs : List V} (ha : H a = some (.tup xs)) (l : xs.length ≤ m) (hm : m ≤ 1000000) (h : ∀ x ∈ xs, DX B n H x) : DX ((B + 1) * m) (n + 1) H (.ref a) := by
  obtain ⟨ds, k1, k2, k3, k4⟩ := dx_all h
  refine ⟨.tuple ds, .tup ha k1 (by rw [← DaAll.length k1]; omega), k2.tup.mono (Nat.mul_le_mul_left _ l), ?_, ?_⟩
  · simp only [PyData.depth]
    omega
  · simp only [PyData.canLay0]
    exact k4
theorem DX.lst {B n m : Nat} {H : Hp} {a : Addr} {xs : List V} (ha : H a = some (.lst xs)) (l : xs.length ≤ m) (hm : m ≤ 1000000) (h : ∀ x ∈ xs, DX B n H x) : DX ((B + 1) * m) (n + 1) H (.ref a) := by
  obtain ⟨ds, k1, k2, k3, k4⟩ := dx_all h
  refine ⟨.list ds, .lst ha k1 (by rw [← DaAll.length k1]; omega), k2.lst.mono (Nat.mul_le_mul_left _ l), ?_, ?_⟩
  · simp only [PyData.depth]
    omega
  · simp only [PyData.canLay0]
    exact k4
theorem DX.non {H : Hp} : DX 60 0 H .non := ⟨_, .non, ⟨rfl, rfl, by decide, by decide⟩, by decide, rfl⟩
theorem DX.bl {H : Hp} {b : Bool} : DX 60 0 H (.bl b) := ⟨_, .bl b, by cases b <;> exact ⟨rfl, rfl, by decide, by decide⟩, by simp only [PyData.depth]; decide, rfl⟩
theorem DX.int {H : Hp} {i : Int} (h1 : -1000000 ≤ i) (h2 : i ≤ 1000000) : DX 60 0 H (.int i) := ⟨_, .int i, (sh_int h1 h2).mono (by decide), by simp only [PyData.depth]; decide, rfl⟩
theorem DX.str {H : Hp} {x : Str} (h : (PyData.str x).showable = true) (h1 : (PyData.str x).leavesShort 13 = true) (h2 : (PyData.str x).weight ≤ 60) (h3 : (PyData.str x).canLay0 = true) : DX 60 0 H (.str x) := ⟨_, .str x, ⟨h, rfl, h1, h2⟩, by simp only [PyData.depth]; decide, h3⟩
/-- the items of what is told -/
theorem sh_mem {B : Nat} {d : PyData} : ∀ {ds : List PyData}, ShAll B ds → d ∈ ds → Sh B d
  | e :: ds, h, hd => by
    have e1 := h.1
    have e2 := h.2
    have e3 := h.3
    have e4 := h.4
    simp only [PyData.showableAll, PyData.hasDictAll, PyData.leavesShortAll, PyData.weightAll, Bool.and_eq_true, Bool.or_eq_false_iff] at e1 e2 e3 e4
    rcases List.mem_cons.mp hd with rfl | hd
    · exact ⟨e1.1, e2.1, e3.1, by omega⟩
    · exact sh_mem ⟨e1.2, e2.2, e3.2, by omega⟩ hd
theorem depth_of {d : PyData} : ∀ {ds : List PyData}, d ∈ ds → d.depth ≤ PyData.depthAll ds
  | e :: ds, hd => by
    simp only [PyData.depthAll]
    rcases List.mem_cons.mp hd with rfl | hd
    · exact Nat.le_max_left _ _
    · exact Nat.le_trans (depth_of hd) (Nat.le_max_right _ _)
theorem lay_of {d : PyData} : ∀ {ds : List PyData}, PyData.canLayAll0 ds = true → d ∈ ds → d.canLay0 = true
  | e :: ds, h, hd => by
    simp only [PyData.canLayAll0, Bool.and_eq_true] at h
    rcases List.mem_cons.mp hd with rfl | hd
    · exact h.1
    · exact lay_of h.2 hd
theorem DX.items {B n : Nat} {H : Hp} {a : Addr} {xs : List V} (h : DX B n H (.ref a)) (ha : H a = some (.tup xs)) : xs.length ≤ 1000000 ∧ ∀ x ∈ xs, DX B (n - 1) H x := by
  obtain ⟨d, h1, h2, h3, h4⟩ := h
  cases h1 with
  | tup h1 k l =>
    rw [h1] at ha
    cases ha
    refine ⟨by rw [DaAll.length k]; exact l, fun x hx => ?_⟩
    obtain ⟨d, hd, q⟩ := da_item k hx
    simp only [PyData.canLay0] at h4
    simp only [PyData.depth] at h3
    have e1 := h2.1
    have e2 := h2.2
    have e3 := h2.3
    have e4 := h2.4
    simp only [PyData.showable, PyData.hasDict, PyData.leavesShort, PyData.weight] at e1 e2 e3 e4
    have := depth_of hd
    exact ⟨d, q, sh_mem ⟨e1, e2, e3, e4⟩ hd, by omega, lay_of h4 hd⟩
  | lst h1 k l =>
    rw [h1] at ha
    cases ha
theorem str_sym {x w : Str} : (x == w) = (w == x) := by
  rw [← dec_str, ← dec_str, decide_eq_decide]
  exact ⟨fun e => e.symm, fun e => e.symm⟩
theorem eqv_w {H : Hp} {v : V} {d : PyData} {w : Str} (h : Da H v d) : PyData.eqv d (.str w) = isW w v := by
  cases h with
  | str x => rw [PyData.eqv]; rfl
  | _ => simp only [PyData.eqv] <;> rfl
theorem w_eqv {H : Hp} {v : V} {d : PyData} {w : Str} (h : Da H v d) : PyData.eqv (.str w) d = isW w v := by
  cases h with
  | str x => rw [PyData.eqv, str_sym]; rfl
  | _ => simp only [PyData.eqv] <;> rfl
section
variable {X : Cx}
/-- x in a row of texts -/
def rInW (K : PySem.W.Frag) : R2 := fun x y H Q => ∃ (d : PyData) (a : Addr) (ws : List Str), Da H x d ∧ d.canLay0 = true ∧ y = .ref a ∧ (SqL K H a (ws.map V.str) ∨ SqT K H a (ws.map V.str)) ∧ PyData.canLayAll0 (ws.map PyData.str) = true ∧ Q (.bl (ws.any fun w => isW w x)) H
theorem dp_strs {K : PySem.W.Frag} {H : Hp} : ∀ ws : List Str, DpAll K H (ws.map V.str) (ws.map PyData.str)
  | [] => .nil
  | w :: ws => .cons (.str w) (dp_strs ws)
theorem depth_strs : ∀ ws : List Str, PyData.depthAll (ws.map PyData.str) = 0
  | [] => rfl
  | w :: ws => by
    rw [List.map_cons, PyData.depthAll, depth_strs ws, PyData.depth]
    rfl
theorem any_w {H : Hp} {v : V} {d : PyData} (h : Da H v d) : ∀ ws : List Str, ((ws.map PyData.str).any fun y => PyData.eqv y d) = ws.any fun w => isW w v
  | [] => rfl
  | w :: ws => by rw [List.map_cons, List.any_cons, List.any_cons, any_w h ws, w_eqv h]
theorem op_inW (hu : X.A.units + 64 < cLine) : OpR X (compareOp .In) (rInW X.K) := by
  intro pins s σ H x y v u Q I rx ry ⟨d, a, ws, hd, ld, ey, hy, lw, q⟩
  subst ey
  obtain ⟨bs, r1⟩ := Dp.reads I d x v hd.dp rx
  rcases hy with hy | hy
  · obtain ⟨as, r2⟩ := Dp.reads I (.list (ws.map PyData.str)) _ u (.lst hy (dp_strs ws)) ry
    refine SeqAt.in_list_reads r2 r1 lw ld (by rw [depth_strs, Nat.zero_min]; omega) ⟨.bl _, H, I, rfl, ?_⟩
    rw [any_w hd]
    exact q
  · obtain ⟨as, r2⟩ := Dp.reads I (.tuple (ws.map PyData.str)) _ u (.tup hy (dp_strs ws)) ry
    refine SeqAt.in_tuple_reads r2 r1 lw ld (by rw [depth_strs, Nat.zero_min]; omega) ⟨.bl _, H, I, rfl, ?_⟩
    rw [any_w hd]
    exact q
theorem kinW (K : PySem.W.Frag) (hu : X.A.units + 64 < cLine) (h : X.K = K := by rfl) : OpR X (compareOp .In) (rInW K) := by
  subst h
  exact op_inW hu
theorem keqW (hu : X.A.units + 64 < cLine) : OpR X (compareOp .Eq) rEqW := op_eqW (by omega)
end
/-- a strange value, drawn, told -/
def spOddX (K : PySem.W.Frag) : Sp := fun vs H Q _ => ∃ a, vs = [.ref a] ∧ DeckAt K H a ∧ ∀ v H', Ex H H' → DX 200 1 H' v → Q v H'
/-- a tuple bent, told -/
def spBentX (K : PySem.W.Frag) : Sp := fun vs H Q _ => ∃ (a b : Addr) (m B n : Nat) (xs : List V), vs = [.ref a, .ref b] ∧ DeckAt K H a ∧ H b = some (.tup xs) ∧ xs.length ≤ m ∧ m ≤ 1000 ∧ 200 ≤ B ∧ 1 ≤ n ∧ (∀ x ∈ xs, DX B n H x) ∧ ∀ v H', Ex H H' → DX ((B + 1) * (m + 1)) (n + 1) H' v → Q v H'
end Od

/-! try with several clauses, each with a name -/
namespace Od
open PySem PySem.Spec PyProof.Rows L2
abbrev HdAs := Value × Nat × (Addr → Value → Option Addr → TS)
/-- what the named clauses wish of an exception of the body, one after the other -/
def wManyAs (K : PySem.W.Frag) (Wout : WX) (D : Ends) : List HdAs → WX
  | [] => Wout
  | (c, i, ts) :: r => fun cls d σ H => ∃ b, PySem.W.exmOne K cls c = some b ∧ (b = true → ∀ a, H a = none → ts a cls d { nx := fun σ' H' => D.nx (σ'.set i none) H', rt := D.rt, bk := fun σ' H' => D.bk (σ'.set i none) H', ct := fun σ' H' => D.ct (σ'.set i none) H' } (σ.set i (some (.ref a))) H) ∧
    (b = false → wManyAs K Wout D r cls d σ H)
inductive HdsAs (X : Cx) : List ExceptHandler → List HdAs → Prop
  | nil : HdsAs X [] []
  | cons {x n : Str} {c : Value} {i : Nat} {ts : Addr → Value → Option Addr → TS} {b₀ : Stmt} {suite : List Stmt} {np pos' : Pos} {hds : List ExceptHandler} {l : List HdAs} (hi : X.N[i]? = some n) (hln : X.env.kindOf n = some .local) (hc : Names X x c)
      (hsu : ∀ (a : Addr) (oe : Obj) (cls : Value) (d : Option Addr) (pn : List (Addr × Obj)), Zc cls d oe → (∃ vs, oe.data = .fields vs) → PSs (X.suite a ((a, oe) :: pn)) (b₀ :: suite) (ts a cls d)) (r : HdsAs X hds l) :
      HdsAs X (.ExceptHandler (some (.Name x np)) (some n) (b₀ :: suite) pos' :: hds) ((c, i, ts) :: l)
section
variable {X : Cx} {body : List Stmt} {h₀ : ExceptHandler} {hds : List ExceptHandler} {l : List HdAs} {pos : Pos} {tb : WX → TS} {Wout : WX}
theorem ps_try_manyAs (hs : X.stack = X.env :: X.outer) (hf : X.env.frame = some X.env.locals) (hN : X.N.Nodup) (tk : Takes X Wout)
    (hb : ∀ (W : WX) (pn : List (Addr × Obj)) (xe : Value → Shared → Prop), Takes (X.tr pn xe) W → PassesOwn (model X.prog X.w) X.A X.env xe → PSs (X.tr pn xe) body (tb W))
    (hh : HdsAs X (h₀ :: hds) l) : PS X (.Try body (h₀ :: hds) [] [] pos) (fun D σ H => tb (wManyAs X.K Wout D l) D σ H) := by
  refine ⟨fun pins s σ H D I h => ?_⟩
  have ok := I.ok
  have hfr : X.A.frames = some (X.env :: X.outer) := by rw [ok.frames, hs]
  refine wpAny_Try_except ?_
  refine wpAny_mono ((hb (wManyAs X.K Wout D l) (X.pn ++ pins) (fun e s₁ => wpAny (model X.prog X.w) X.A (noteFrame e X.env) (fun _ s₂ => wpAny (model X.prog X.w) X.A (setFlight e none) (fun _ s₃ =>
    wpAny (model X.prog X.w) X.A (handleBy e X.env (h₀ :: hds)) (SP X pins D) X.xe s₃) X.xe s₂) X.xe s₁) (fun u s' xx => ?_) PassesOwn.looking).run [] s σ H D (I.toTry _) h) (fun f s1 hsp => ?_) (fun e s1 he => he)
  · -- the catch
    obtain ⟨a, B, sI, pins', σ', H', cls, d, rfl, J', nb, up, sky, na, os, ag, w⟩ := xx
    have J : Inv X pins σ' H' sI := J'.ofTry ok
    have sky' : Sky B (X.env :: X.outer) a (Zc cls d) X.env.locals s'.heap := by rw [← hs]; exact sky
    show wpAny (model X.prog X.w) X.A (noteFrame (.ref a) X.env) _ _ _
    refine Sky.land Zc.steady hfr hf sky' fun h3 fl3 up3 => ?_
    have J3 : Inv X pins σ' H' { s' with heap := h3 } := J.landed nb fl3.1 (up.trans up3) os ag
    obtain ⟨oe3, vs3, he3, hz3, hd3⟩ := fl3.there
    have notFr : ∀ {h : Heap} {o : Obj} {vs : Array Value}, h.FunFrames B (X.env :: X.outer) → h.get? a = some o → o.data = .fields vs → a ∉ frs (X.env :: X.outer) := fun {h o vs} ff e dd hm => by
      obtain ⟨_, o', e', hnf⟩ := ff.mem hm
      rw [e] at e'; cases e'
      exact hnf _ dd
    have nfr := notFr fl3.2.2.1 he3 hd3
    have nL : a ≠ X.env.locals := fun z => nfr (List.mem_filterMap.mpr ⟨X.env, List.mem_cons_self, by rw [hf, z]⟩)
    have nF : a ∉ X.fs := fun hm => by
      obtain ⟨e, he, q⟩ := List.mem_filterMap.mp hm
      exact nfr (List.mem_filterMap.mpr ⟨e, List.mem_cons_of_mem _ he, q⟩)
    have S3 := J3.suite he3 hd3 na nL nF
    have go : ∀ {hds' : List ExceptHandler} {l' : List HdAs}, HdsAs X hds' l' → wManyAs X.K Wout D l' cls d σ' H' →
        wpAny (model X.prog X.w) X.A (handleBy (.ref a) X.env hds') (SP X pins D) X.xe { s' with heap := h3 } := by
      intro hds' l' hk
      induction hk with
      | nil =>
        intro w
        refine wpAny_handleBy_nil ?_
        obtain ⟨k1, k2, k3, oe, vs, T, oT, ts', he, hz, hd, h1, hr⟩ := id fl3
        unfold PySem.passOn
        refine wpAny_bind (wpAny_field he hd h1 ?_)
        rw [if_neg (show ¬ ((Value.ref T == Value.none) = true) from by simp)]
        have fin : wpAny (model X.prog X.w) X.A (setFlight (.ref a) X.env.frame) (fun _ s4 => wpAny (model X.prog X.w) X.A (throw (.ref a) : Sem Flow) (SP X pins D) X.xe s4) X.xe { s' with heap := h3 } := by
          rw [hf]
          refine HandSPX.setFlight_upZ fl3 fun h4 hh4 up4 => wpAny_throw (tk _ _ ?_)
          exact ⟨a, B, sI, pins, σ', H', cls, d, rfl, J, nb, (up.trans up3).trans up4, .inr (.inr (by rw [hs]; exact hh4)), na, os, ag, w⟩
        first
          | exact wpAny_bind (wpAny_pure (wpAny_bind fin))
          | exact wpAny_bind fin
      | @cons x n c i ts b₀ suite np pos' hds2 l2 hi hln hc hsu r ih =>
        intro w
        obtain ⟨b, hb1, hyes, hno⟩ := w
        have hloc : Loc X.env.scope n := .inl hln
        refine wpAny_handleBy_cons (codeAny_handlers_test ?_) (by intro q; cases q)
        have LT : PySem.W.Looks (model X.prog X.w) h3 (typeOf (.ref a)) cls := fun A Q E s k q => wpAny_typeOf_ref (k _ _ he3) (by rw [hz3.1]; exact q)
        have LM := PySem.W.exm_one (M := model X.prog X.w) (J3.kIn) LT hb1
        have test : ∀ {Q : Value → Shared → Prop} {E : Value → Shared → Prop}, Q c { s' with heap := h3 } → wpAny (model X.prog X.w) (X.A.mark (some (.ref a))) (eval (.Name x np) X.env) Q E { s' with heap := h3 } := fun {Q E} q => by
          obtain ⟨hg, hdbg, hm | ⟨hm, hv, hnn⟩⟩ := hc
          · exact ld_glob (X := X.suite a ((a, oe3) :: (X.pn ++ pins))) S3 hg hm q hdbg
          · exact ld_blt (X := X.suite a ((a, oe3) :: (X.pn ++ pins))) S3 hg hm hv q hnn hdbg
        refine test (LM.here ?_)
        cases b with
        | true =>
          refine codeAny_handlers_suite_as ?_
          refine HandSPX.lands_againZ fl3 fun h4 fl4 up4 => ?_
          have J4 : Inv X pins σ' H' { s' with heap := h4 } := J.landed nb fl4.1 ((up.trans up3).trans up4) os ag
          obtain ⟨oe4, vs4, he4, hz4, hd4⟩ := fl4.there
          have S4 := J4.suite he4 hd4 na nL nF
          refine store_ok (X := X.suite a ((a, oe4) :: (X.pn ++ pins))) (v := .ref a) S4 hN hi hloc rfl (fun s5 S5 => ?_) (.inr hln)
          refine wpAny_mono ((hsu a oe4 cls d (X.pn ++ pins) hz4 ⟨_, hd4⟩).run [] s5 _ H' _ S5 (hyes rfl a na)) (fun f s6 hsp => ?_) (fun _ _ z => False.elim z)
          have end_ : ∀ {σ6 : L2.St} {H6 : Hp} {Q : Shared → Prop}, Inv (X.suite a ((a, oe4) :: (X.pn ++ pins))) [] σ6 H6 s6 → (∀ s7, Inv X pins (σ6.set i none) H6 s7 → Q s7) →
              wpAny (model X.prog X.w) X.A (do bindName X.env n .none; unbindBehindTheSuite X.env n pos') (fun _ s7 => Q s7) X.xe s6 := fun {σ6 H6 Q} S6 hq => gone_ok (S6.unsuite ok) hN hi hln hq
          cases f with
          | next =>
            obtain ⟨σ6, H6, S6, q6⟩ := hsp
            exact end_ S6 fun s7 J7 => ⟨_, _, J7, q6⟩
          | brk =>
            obtain ⟨σ6, H6, S6, q6⟩ := hsp
            exact end_ S6 fun s7 J7 => ⟨_, _, J7, q6⟩
          | cont =>
            obtain ⟨σ6, H6, S6, q6⟩ := hsp
            exact end_ S6 fun s7 J7 => ⟨_, _, J7, q6⟩
          | ret u =>
            obtain ⟨v6, σ6, H6, S6, r6, q6⟩ := hsp
            exact end_ S6 fun s7 J7 => ⟨_, _, _, J7, r6, q6⟩
        | false =>
          show wpAny _ X.A (handleBy (.ref a) X.env hds2) _ _ _
          exact ih (hno rfl)
    exact go hh w
  · cases f with
    | next =>
      obtain ⟨σ', H', J', q⟩ := hsp
      exact wpAny_execs_nil ⟨σ', H', J'.ofTry ok, q⟩
    | brk =>
      obtain ⟨σ', H', J', q⟩ := hsp
      exact ⟨σ', H', J'.ofTry ok, q⟩
    | cont =>
      obtain ⟨σ', H', J', q⟩ := hsp
      exact ⟨σ', H', J'.ofTry ok, q⟩
    | ret u =>
      obtain ⟨v, σ', H', J', r, q⟩ := hsp
      exact ⟨v, σ', H', J'.ofTry ok, r, q⟩
end
end Od

/-! names; data told, by its weight -/
namespace Od
open PySem L2 Evl PySem.Spec PyProof.Rows
theorem DX.deepB {B n k : Nat} {H : Hp} {v : V} (h : DX B n H v) : Deep B k H v := by
  have len : ∀ {ds : List PyData}, ds.length ≤ PyData.weightAll ds := fun {ds} => by
    induction ds with
    | nil => exact Nat.zero_le _
    | cons d ds ih =>
      simp only [PyData.weightAll, List.length_cons]
      omega
  obtain ⟨d, h1, h2, h3, h4⟩ := h
  induction k generalizing v d n with
  | zero => exact da_kn h1
  | succ k ih =>
    refine ⟨da_kn h1, fun a xs e ha => ?_⟩
    cases h1 with
    | tup h1 q l =>
      cases e
      rw [h1] at ha
      cases ha
      have e1 := h2.1
      have e2 := h2.2
      have e3 := h2.3
      have e4 := h2.4
      simp only [PyData.showable, PyData.hasDict, PyData.leavesShort, PyData.weight] at e1 e2 e3 e4
      simp only [PyData.canLay0] at h4
      refine ⟨by rw [DaAll.length q]; exact Nat.le_trans len e4, fun x hx => ?_⟩
      obtain ⟨d', hd', q'⟩ := da_item q hx
      exact ih (n := d'.depth) _ q' (sh_mem ⟨e1, e2, e3, e4⟩ hd') (Nat.le_refl _) (lay_of h4 hd')
    | lst h1 q l =>
      cases e
      rw [h1] at ha
      cases ha
    | _ => cases e
/-! names -/
def letters : List Nat := (Str.ofString "abcdefghijklmnopqrstuvwxyz").cps.toList
def nameS (z : Str) : Bool := (decide (1 ≤ (z.length : Int)) && decide ((z.length : Int) ≤ 8)) && z.cps.toList.all fun c => decide (c ∈ letters)
def nameV : V → Bool
  | .str z => nameS z
  | _ => false
theorem exm_no {K : PySem.W.Frag} {S U : Addr} (h1 : PySem.W.subIn K (.ref U) (.type "BaseException") = some true) (h2 : PySem.W.isClsIn K U = true) (h3 : PySem.W.typeIn K (.ref U) = some (.type "type")) (h4 : PySem.W.subIn K (.ref S) (.ref U) = some false) :
    PySem.W.exmOne K (.ref S) (.ref U) = some false := by
  have c1 : (PySem.W.subIn K (.ref U) (.type "BaseException") == some true) = true := by rw [h1] <;> rfl
  have c2 : ((PySem.W.clsIn K U).isSome && PySem.W.typeIn K (.ref U) == some (.type "type")) = true := by
    rw [show (PySem.W.clsIn K U).isSome = true from h2, h3] <;> rfl
  change (if (PySem.W.subIn K (.ref U) (.type "BaseException") == some true) = true then (if ((PySem.W.clsIn K U).isSome && PySem.W.typeIn K (.ref U) == some (.type "type")) = true then PySem.W.subIn K (.ref S) (.ref U) else none) else none) = _
  rw [if_pos c1, if_pos c2, h4]
end Od

namespace Od
open PySem L2 Evl
def top (i : Nat) : Stmt := PySem.Challenge.pw_onlythedirt_k19_paints_checked.main.body.getD i (.Pass ⟨0, 0, 0, 0⟩)
structure Txt (K : PySem.W.Frag) (mg : Str → Option Value) : Prop where
  abs_ : mg "abs" = none
  all_ : mg "all" = none
  bool_ : mg "bool" = none
  int_ : mg "int" = none
  isinstance_ : mg "isinstance" = none
  len_ : mg "len" = none
  list_ : mg "list" = none
  max_ : mg "max" = none
  range_ : mg "range" = none
  repr_ : mg "repr" = none
  str_ : mg "str" = none
  tuple_ : mg "tuple" = none
  COVER_MOST_ : ∃ t, mg "COVER_MOST" = some (.int 256 t)
  LETTERS_ : ∃ t, mg "LETTERS" = some (.str "abcdefghijklmnopqrstuvwxyz" t)
  NAME_MOST_ : ∃ t, mg "NAME_MOST" = some (.int 8 t)
  PICTURE_SIDE_MOST_ : ∃ t, mg "PICTURE_SIDE_MOST" = some (.int 12 t)
  STEP_MOST_ : ∃ t, mg "STEP_MOST" = some (.int 12 t)
  VALUE_MOST_ : ∃ t, mg "VALUE_MOST" = some (.int 255 t)
section
variable {P : Program} {w : World} {K : PySem.W.Frag} {mg : Str → Option Value} {base : Heap}
abbrev s_l_deck : Stmt := top 21
theorem sc_l_deck : FnScope ["script", "seed", "cell"] ["script"] (defScope s_l_deck) := ⟨rfl, rfl, rfl, by decide +kernel, rfl, by decide +kernel, by decide +kernel⟩
theorem ok_l_deck {f : Addr} {fd : FuncData} (F : Fun K "_law_deck" "_law_deck" s_l_deck f fd) (T : Txt K mg) : FnOk P w K mg base CX0 1 f fd ["script"] (spDeck K) := by
  refine deck_closed ?_ rfl
  refine F.ok sc_l_deck (fun vs H Q E h => ?_) (fun cdv A outer s H vs Q E hr h => ?_)
  · obtain ⟨a, ns, rfl, _⟩ := h
    rfl
  · obtain ⟨a, ns, rfl, hS, hl, q⟩ := h
    refine ⟨_, (pss_cons (ps_set (i := 1) sc_l_deck.nd rfl (by first | exact Or.inl rfl | exact Or.inr rfl) pe_int)
      (pss_cons (ps_for PassesOwn.never rfl (kpiL K (pv 0)) (pg_name (i := 2) sc_l_deck.nd rfl (by first | exact Or.inl rfl | exact Or.inr rfl))
        (pss_one (ps_set (i := 1) sc_l_deck.nd rfl (by first | exact Or.inl rfl | exact Or.inr rfl) (pe_op op_mod (pe_callTy call_int1 (by rfl) T.int_ bt_int (pa_cons (pe_op op_add (pe_op op_mul (pv 1) pe_int) (pv 2)) pa_nil)) pe_int))))
      (pss_one (ps_ret (pe_lst (pa_cons pe_int (pa_cons pe_int (pa_cons (pv 1) (pa_cons (pe_callTy (klist K) (by rfl) T.list_ bt_list (pa_cons (pv 0) pa_nil)) (pa_cons pe_int pa_nil)))))))))), ?_⟩
    refine ⟨_, rfl, a, rfl, ⟨_, hS⟩, for_list (K := K) (a := a) (xs := ns.map V.int) (fun i σ H' => H' = H ∧ ∃ (z : Int) (c : Option V), σ = [some (.ref a), some (.int z), c] ∧ 0 ≤ z ∧ z < 2147483647)
      ⟨rfl, 7, none, rfl, by decide, by decide⟩ (fun i σ H' _ p => by rw [p.1]; exact hS) ?_ ?_⟩
    · rintro i x σ H' hx ⟨rfl, z, c, rfl, z0, z1⟩
      rw [List.getElem?_map] at hx
      cases e : ns[i]? with
      | none =>
        rw [e] at hx
        cases hx
      | some u =>
        rw [e] at hx
        cases hx
        refine ⟨_, rfl, _, _, rfl, rfl, .inl ⟨by omega, by omega⟩, _, rfl, _, _, rfl, rfl, .inl ⟨_, rfl, ?_⟩⟩
        refine ⟨_, _, rfl, rfl, (by show (0 : Int) < 2147483647; decide), ?_⟩
        refine ⟨rfl, _, _, rfl, ?_, ?_⟩
        · exact Int.emod_nonneg _ (by decide)
        · exact Int.emod_lt_of_pos _ (by decide)
    · rintro σ H' ⟨rfl, z, c, rfl, z0, z1⟩
      refine ⟨_, rfl, _, rfl, a, _, rfl, .inl hS, fun l hl' => ?_⟩
      refine ⟨(by show 5 ≤ sizeLine; decide), fun p hp => ?_⟩
      have hpl : l ≠ p := fun e => by
        rw [← e, upd_same] at hp
        cases hp
      have e1 : Ex H' (upd H' l (.lst (ns.map V.int))) := Ex.new hl'
      refine q p l _ _ (fresh_back e1 hp) (e1.trans (Ex.new hp)) upd_same ⟨0, 0, z, 0, rfl, by decide, by decide, z0, z1⟩ hpl ?_
      rw [upd_ne hpl, upd_same]

abbrev s_l_draw : Stmt := top 22
theorem sc_l_draw : FnScope ["deck", "bound", "number", "value"] ["deck", "bound"] (defScope s_l_draw) := ⟨rfl, rfl, rfl, by decide +kernel, rfl, by decide +kernel, by decide +kernel⟩
theorem ok_l_draw {f : Addr} {fd : FuncData} (F : Fun K "_law_draw" "_law_draw" s_l_draw f fd) (T : Txt K mg) : FnOk P w K mg base CX0 1 f fd ["deck", "bound"] (spDraw K) := by
  refine draw_closed ?_ rfl
  refine F.ok sc_l_draw (fun vs H Q E h => ?_) (fun cdv A outer s H vs Q E hr h => ?_)
  · obtain ⟨a, b, l, ns, xs, rfl, _⟩ := h
    rfl
  · obtain ⟨a, b, l, ns, xs, rfl, ha, ⟨n, k, z, c, rfl, n0, k0, z0, z1⟩, hL, hla, b0, b1, q⟩ := h
    have hH : upd H a (.lst (deckV n k z l c)) = H := by
      have e := upd_back (u := .lst (deckV n k z l c)) ha
      rw [upd_upd] at e
      exact e
    have hL2 : ∀ o, upd H a o l = some (.lst (ns.map V.int)) := fun o => by rw [upd_ne hla]; exact hL
    refine ⟨_, (pss_cut (ps_if (PW.pt (pw_and (pt_cmpR op_eq (pe_ix (kixL K) (pv 0) pe_int (fun _ _ => rfl)) pe_int (nomark _)) (pw_and1 (pt_cmpR op_lt (pe_ix (kixL K) (pv 0) pe_int (fun _ _ => rfl)) (pe_callB (klen K) (by rfl) T.len_ PySem.boot_len (pa_cons (pe_ix (kixL K) (pv 0) pe_int (fun _ _ => rfl)) pa_nil)) (nomark _)))))
        (pss_cons (ps_asg (pe_callB call_abs (by rfl) T.abs_ bt_abs (pa_cons (pe_ix (kixL K) (pe_ix (kixL K) (pv 0) pe_int (fun _ _ => rfl)) (pe_ix (kixL K) (pv 0) pe_int (fun _ _ => rfl)) (fun _ _ => rfl)) pa_nil)) (pg_sub (pv 0) pe_int set_list))
        (pss_one (ps_asg (pe_op op_add (pe_ix (kixL K) (pv 0) pe_int (fun _ _ => rfl)) pe_int) (pg_sub (pv 0) pe_int set_list))))
        (pss_one (ps_if (pt_cmpR op_eq (pe_ix (kixL K) (pv 0) pe_int (fun _ _ => rfl)) pe_int (nomark _))
          (pss_cons (ps_asg (pe_op op_add (pe_ix (kixL K) (pv 0) pe_int (fun _ _ => rfl)) pe_int) (pg_sub (pv 0) pe_int set_list))
          (pss_cons (ps_set (i := 2) sc_l_draw.nd rfl (by first | exact Or.inl rfl | exact Or.inr rfl) (pe_op op_mod (pe_callTy call_int1 (by rfl) T.int_ bt_int (pa_cons (pe_op op_add (pe_op op_add (pe_op op_mul (pe_ix (kixL K) (pv 0) pe_int (fun _ _ => rfl)) pe_int) (pe_op op_mul (pe_ix (kixL K) (pv 0) pe_int (fun _ _ => rfl)) pe_int)) pe_int) pa_nil)) pe_int))
          (pss_cons (ps_set (i := 2) sc_l_draw.nd rfl (by first | exact Or.inl rfl | exact Or.inr rfl) (pe_op op_mod (pe_callTy call_int1 (by rfl) T.int_ bt_int (pa_cons (pe_op op_add (pe_op op_add (pe_op op_mul (pv 2) (pv 2)) (pe_op op_mul pe_int (pe_ix (kixL K) (pv 0) pe_int (fun _ _ => rfl)))) pe_int) pa_nil)) pe_int))
          (pss_cons (ps_set (i := 2) sc_l_draw.nd rfl (by first | exact Or.inl rfl | exact Or.inr rfl) (pe_op op_mod (pe_callTy call_int1 (by rfl) T.int_ bt_int (pa_cons (pe_op op_add (pe_op op_add (pe_op op_mul (pv 2) (pv 2)) (pe_op op_mul pe_int (pe_ix (kixL K) (pv 0) pe_int (fun _ _ => rfl)))) (pe_ix (kixL K) (pv 0) pe_int (fun _ _ => rfl))) pa_nil)) pe_int))
          (pss_one (ps_asg (pe_op op_fdiv (pv 2) pe_int) (pg_sub (pv 0) pe_int set_list)))))))
          pss_nil)))
      (pss_cons (ps_set (i := 3) sc_l_draw.nd rfl (by first | exact Or.inl rfl | exact Or.inr rfl) (pe_op op_mod (pe_callTy call_int1 (by rfl) T.int_ bt_int (pa_cons (pe_ix (kixL K) (pv 0) pe_int (fun _ _ => rfl)) pa_nil)) (pv 1)))
      (pss_cons (ps_asg (pe_op op_fdiv (pe_ix (kixL K) (pv 0) pe_int (fun _ _ => rfl)) (pv 1)) (pg_sub (pv 0) pe_int set_list))
      (pss_one (ps_ret (pv 3)))))), ?_⟩
    refine ⟨fun σ H' => ∃ n k c u, σ = [some (.ref a), some (.int b), u, none] ∧ H' = upd H a (.lst (deckV n k z l c)) ∧ 0 ≤ n ∧ 0 ≤ k, ?_, ?_⟩
    · rw [← hH]
      -- if deck[0] == 0 and deck[1] < len(deck[3])
      refine ⟨_, rfl, a, _, _, _, rfl, rfl, SqL.of upd_same, rfl, rfl, _, rfl, ?_⟩
      refine ite2 (fun e0 => ?_) (fun e0 => ?_)
      · refine ⟨_, rfl, a, _, _, _, rfl, rfl, SqL.of upd_same, rfl, ?_⟩
        refine ⟨_, rfl, a, _, _, _, rfl, rfl, SqL.of upd_same, rfl, ?_⟩
        refine ⟨l, _, rfl, .inl (SqL.of (hL2 _)), _, _, rfl, rfl, _, rfl, ?_⟩
        refine ite2 (fun e1 => ?_) (fun e1 => ?_)
        · -- deck[0] = abs(deck[3][deck[1]]); deck[1] = deck[1] + 1
          have hk : k < (ns.length : Int) := by
            have e2 := of_decide_eq_true e1
            rw [List.length_map] at e2
            exact e2
          obtain ⟨m, rfl⟩ := Int.eq_ofNat_of_zero_le k0
          have hm : m < ns.length := by omega
          refine ⟨_, rfl, a, _, _, _, rfl, rfl, SqL.of upd_same, rfl, ?_⟩
          refine ⟨_, rfl, a, _, _, _, rfl, rfl, SqL.of upd_same, rfl, ?_⟩
          refine ⟨l, _, _, .int ns[m], rfl, rfl, SqL.of (hL2 _), atI_nat (by rw [List.getElem?_map, List.getElem?_eq_getElem hm]; rfl), ?_⟩
          refine ⟨_, rfl, ?_⟩
          refine ⟨_, rfl, a, _, 0, 0, rfl, rfl, upd_same, rfl, ?_⟩
          refine ⟨_, rfl, a, _, _, _, rfl, rfl, SqL.of upd_same, rfl, ?_⟩
          refine ⟨_, _, rfl, rfl, ?_⟩
          refine ⟨_, rfl, a, _, 1, 1, rfl, rfl, upd_same, rfl, ?_⟩
          refine ⟨(if ns[m] < 0 then -ns[m] else ns[m]), (m : Int) + 1, c, none, rfl, ?_, ?_, ?_⟩
          · simp only [upd_upd]
            rfl
          · split <;> omega
          · omega
        · -- elif deck[0] == 0
          refine ⟨_, rfl, a, _, _, _, rfl, rfl, SqL.of upd_same, rfl, rfl, _, rfl, ?_⟩
          refine ite2 (fun e2 => ?_) (fun e2 => ?_)
          · refine ⟨_, rfl, a, _, _, _, rfl, rfl, SqL.of upd_same, rfl, ?_⟩
            refine ⟨_, _, rfl, rfl, ?_⟩
            refine ⟨_, rfl, a, _, 4, 4, rfl, rfl, upd_same, rfl, ?_⟩
            rw [upd_upd]
            -- number = ..
            refine ⟨_, rfl, a, _, _, _, rfl, rfl, SqL.of upd_same, rfl, ?_⟩
            refine ⟨_, _, rfl, rfl, .inr ⟨by decide, by decide⟩, ?_⟩
            refine ⟨_, rfl, a, _, _, _, rfl, rfl, SqL.of upd_same, rfl, ?_⟩
            refine ⟨_, _, rfl, rfl, .inr ⟨by decide, by decide⟩, ?_⟩
            refine ⟨_, _, rfl, rfl, ?_⟩
            refine ⟨_, _, rfl, rfl, .inl ⟨_, rfl, ?_⟩⟩
            refine ⟨_, _, rfl, rfl, (by show (0 : Int) < 2147483647; decide), ?_⟩
            refine ⟨_, rfl, _, rfl, ?_⟩
            refine ⟨_, _, rfl, rfl, .inl ⟨by omega, by omega⟩, ?_⟩
            refine ⟨_, rfl, a, _, _, _, rfl, rfl, SqL.of upd_same, rfl, ?_⟩
            refine ⟨_, _, rfl, rfl, .inl ⟨by decide, by decide⟩, ?_⟩
            refine ⟨_, _, rfl, rfl, ?_⟩
            refine ⟨_, _, rfl, rfl, .inl ⟨_, rfl, ?_⟩⟩
            refine ⟨_, _, rfl, rfl, (by show (0 : Int) < 998244353; decide), ?_⟩
            refine ⟨_, rfl, _, rfl, ?_⟩
            refine ⟨_, _, rfl, rfl, .inl ⟨by omega, by omega⟩, ?_⟩
            refine ⟨_, rfl, a, _, _, _, rfl, rfl, SqL.of upd_same, rfl, ?_⟩
            refine ⟨_, _, rfl, rfl, .inl ⟨by decide, by decide⟩, ?_⟩
            refine ⟨_, _, rfl, rfl, ?_⟩
            refine ⟨_, rfl, a, _, _, _, rfl, rfl, SqL.of upd_same, rfl, ?_⟩
            refine ⟨_, _, rfl, rfl, .inl ⟨_, rfl, ?_⟩⟩
            refine ⟨_, _, rfl, rfl, (by show (0 : Int) < 2147483629; decide), ?_⟩
            refine ⟨_, rfl, _, _, rfl, rfl, ⟨by decide, by decide⟩, ?_⟩
            refine ⟨_, rfl, a, _, 0, 0, rfl, rfl, upd_same, rfl, ?_⟩
            let n1 : Int := (z * 48271 + (c + 1) * 69621 + 12345) % 2147483647
            let n2 : Int := (n1 * n1 + 16807 * (c + 1) + 7) % 998244353
            refine ⟨(n2 * n2 + 48271 * (c + 1) + z) % 2147483629 / 13, k, c + 1, _, rfl, ?_, ?_, k0⟩
            · simp only [upd_upd]
              rfl
            · exact Int.ediv_nonneg (Int.emod_nonneg _ (by decide)) (by decide)
          · exact ⟨n, k, c, none, rfl, upd_upd.symm, n0, k0⟩
      · refine ⟨_, rfl, a, _, _, _, rfl, rfl, SqL.of upd_same, rfl, rfl, _, rfl, ?_⟩
        rw [eq_false_of_ne_true e0]
        refine iteF ?_
        exact ⟨n, k, c, none, rfl, upd_upd.symm, n0, k0⟩
    · rintro σ H' ⟨n, k, c, u, rfl, rfl, n0, k0⟩
      refine ⟨_, rfl, a, _, _, _, rfl, rfl, SqL.of upd_same, rfl, .inl ⟨_, rfl, ?_⟩⟩
      refine ⟨_, rfl, _, _, rfl, rfl, b0, ?_⟩
      refine ⟨_, rfl, a, _, _, _, rfl, rfl, SqL.of upd_same, rfl, ?_⟩
      refine ⟨_, rfl, _, _, rfl, rfl, ⟨b0, b1⟩, ?_⟩
      refine ⟨_, rfl, a, _, 0, 0, rfl, rfl, upd_same, rfl, ?_⟩
      refine ⟨_, rfl, ?_⟩
      rw [upd_upd]
      exact q (n % b) _ (Int.emod_nonneg _ (by omega)) (Int.emod_lt_of_pos _ b0) ⟨n / b, k, z, c, rfl, Int.ediv_nonneg n0 (by omega), k0, z0, z1⟩

abbrev s_l_value : Stmt := top 23
theorem sc_l_value : FnScope ["deck"] ["deck"] (defScope s_l_value) := ⟨rfl, rfl, rfl, by decide +kernel, rfl, by decide +kernel, by decide +kernel⟩
def spDrawn (K : PySem.W.Frag) (m : Int) : Sp := fun vs H Q _ => ∃ a, vs = [.ref a] ∧ DeckAt K H a ∧ ∀ n H', Ex H H' → 0 ≤ n → n ≤ m → Q (.int n) H'
theorem ok_l_value {f : Addr} {fd : FuncData} (F : Fun K "_law_value" "_law_value" s_l_value f fd) (T : Txt K mg) (D_l_draw : Def P w K mg base CX0 "_law_draw" 1 ["deck", "bound"] (spDraw K)) : FnOk P w K mg base CX0 2 f fd ["deck"] (spDrawn K 255) := by
  refine F.ok sc_l_value (fun vs H Q E h => ?_) (fun cdv A outer s H vs Q E hr h => ?_)
  · obtain ⟨a, rfl, _⟩ := h
    rfl
  · obtain ⟨a, rfl, hd, q⟩ := h
    refine ⟨_, (pss_one (ps_ret (pe_ix (kixL K) (pe_lst (pa_cons pe_int (pa_cons pe_int (pa_cons pe_int (pa_cons pe_int (pa_cons (pe_call D_l_draw.ok (hr.mono (by decide)) rfl D_l_draw.mgf D_l_draw.kp D_l_draw.b .nil pass0 (pa_cons (pv 0) (pa_cons pe_int pa_nil))) (pa_cons (pe_call D_l_draw.ok (hr.mono (by decide)) rfl D_l_draw.mgf D_l_draw.kp D_l_draw.b .nil pass0 (pa_cons (pv 0) (pa_cons pe_int pa_nil))) pa_nil))))))) (pe_call D_l_draw.ok (hr.mono (by decide)) rfl D_l_draw.mgf D_l_draw.kp D_l_draw.b .nil pass0 (pa_cons (pv 0) (pa_cons pe_int pa_nil))) (fun _ _ => rfl)))), ?_⟩
    refine ⟨_, rfl, a, 256, rfl, hd, by decide, by decide, fun x x0 x1 => ?_⟩
    refine ⟨_, rfl, a, 256, rfl, hd, by decide, by decide, fun y y0 y1 => ?_⟩
    refine ⟨(by show 6 ≤ sizeLine; decide), fun l hl => ?_⟩
    have e1 := Ex.new (o := .lst [.int 0, .int 255, .int 1, .int 254, .int x, .int y]) hl
    refine ⟨_, rfl, a, 6, rfl, hd.mono e1, by decide, by decide, fun i i0 i1 => ?_⟩
    obtain ⟨n, hn, ex⟩ := pickI (ns := [0, 255, 1, 254, x, y]) i0 i1
    refine ⟨l, _, i, _, rfl, rfl, SqL.of upd_same, ex, ?_⟩
    simp only [List.mem_cons, List.not_mem_nil, or_false] at hn
    exact q n _ e1 (by omega) (by omega)

abbrev s_l_cover : Stmt := top 24
theorem sc_l_cover : FnScope ["deck"] ["deck"] (defScope s_l_cover) := ⟨rfl, rfl, rfl, by decide +kernel, rfl, by decide +kernel, by decide +kernel⟩
theorem ok_l_cover {f : Addr} {fd : FuncData} (F : Fun K "_law_cover" "_law_cover" s_l_cover f fd) (T : Txt K mg) (D_l_draw : Def P w K mg base CX0 "_law_draw" 1 ["deck", "bound"] (spDraw K)) : FnOk P w K mg base CX0 2 f fd ["deck"] (spDrawn K 256) := by
  refine F.ok sc_l_cover (fun vs H Q E h => ?_) (fun cdv A outer s H vs Q E hr h => ?_)
  · obtain ⟨a, rfl, _⟩ := h
    rfl
  · obtain ⟨a, rfl, hd, q⟩ := h
    refine ⟨_, (pss_one (ps_ret (pe_ix (kixL K) (pe_lst (pa_cons pe_int (pa_cons pe_int (pa_cons pe_int (pa_cons pe_int (pa_cons pe_int (pa_cons (pe_call D_l_draw.ok (hr.mono (by decide)) rfl D_l_draw.mgf D_l_draw.kp D_l_draw.b .nil pass0 (pa_cons (pv 0) (pa_cons pe_int pa_nil))) pa_nil))))))) (pe_call D_l_draw.ok (hr.mono (by decide)) rfl D_l_draw.mgf D_l_draw.kp D_l_draw.b .nil pass0 (pa_cons (pv 0) (pa_cons pe_int pa_nil))) (fun _ _ => rfl)))), ?_⟩
    refine ⟨_, rfl, a, 257, rfl, hd, by decide, by decide, fun x x0 x1 => ?_⟩
    refine ⟨(by show 6 ≤ sizeLine; decide), fun l hl => ?_⟩
    have e1 := Ex.new (o := .lst [.int 0, .int 256, .int 256, .int 255, .int 1, .int x]) hl
    refine ⟨_, rfl, a, 6, rfl, hd.mono e1, by decide, by decide, fun i i0 i1 => ?_⟩
    obtain ⟨n, hn, ex⟩ := pickI (ns := [0, 256, 256, 255, 1, x]) i0 i1
    refine ⟨l, _, i, _, rfl, rfl, SqL.of upd_same, ex, ?_⟩
    simp only [List.mem_cons, List.not_mem_nil, or_false] at hn
    exact q n _ e1 (by omega) (by omega)

abbrev s_l_picture : Stmt := top 25
theorem sc_l_picture : FnScope ["deck", "most", "width", "height", "values", "covers", "k"] ["deck", "most"] (defScope s_l_picture) := ⟨rfl, rfl, rfl, by decide +kernel, rfl, by decide +kernel, by decide +kernel⟩
def spPicture (K : PySem.W.Frag) : Sp := fun vs H Q _ => ∃ a m, vs = [.ref a, .int m] ∧ DeckAt K H a ∧ 1 ≤ m ∧ m ≤ 12 ∧ ∀ v p H', Ex H H' → PcV H' v p → p.Ok m → Q v H'
/-- a list of so many ints of this kind stands at D -/
def IntsAt (H : Hp) (D : Addr) (n : Nat) (P : Int → Prop) : Prop := ∃ ns : List Int, H D = some (.lst (ns.map V.int)) ∧ ns.length = n ∧ ∀ x ∈ ns, P x
theorem IntsAt.snoc {H0 H H2 : Hp} {D : Addr} {n : Nat} {P : Int → Prop} {x : Int} (hD : H0 D = none) (e : Ex H0 H) (h : IntsAt H D n P) (e2 : Ex H H2) (hn : n ≤ 1000) (hx : P x) : ∃ acc, H2 D = some (.lst acc) ∧ acc.length < sizeLine ∧ Ex H0 (upd H2 D (.lst (acc ++ [.int x]))) ∧ IntsAt (upd H2 D (.lst (acc ++ [.int x]))) D (n + 1) P := by
  obtain ⟨ns, h1, h2, h3⟩ := h
  refine ⟨_, e2 _ _ h1, slineL (by rw [List.length_map]; omega), (e.trans e2).mut hD, ns ++ [x], by rw [upd_same, List.map_append]; rfl, by simp [h2], fun y hy => ?_⟩
  rcases List.mem_append.mp hy with z | z
  · exact h3 y z
  · rw [List.mem_singleton.mp z]
    exact hx
theorem ok_l_picture {f : Addr} {fd : FuncData} (F : Fun K "_law_picture" "_law_picture" s_l_picture f fd) (T : Txt K mg) (D_l_draw : Def P w K mg base CX0 "_law_draw" 1 ["deck", "bound"] (spDraw K))
    (D_l_value : Def P w K mg base CX0 "_law_value" 2 ["deck"] (spDrawn K 255)) (D_l_cover : Def P w K mg base CX0 "_law_cover" 2 ["deck"] (spDrawn K 256)) : FnOk P w K mg base CX0 3 f fd ["deck", "most"] (spPicture K) := by
  refine F.ok sc_l_picture (fun vs H Q E h => ?_) (fun cdv A outer s H vs Q E hr h => ?_)
  · obtain ⟨a, m, rfl, _⟩ := h
    rfl
  · obtain ⟨a, m, rfl, hd, m1, m2, q⟩ := h
    refine ⟨_, (pss_cons (ps_set (i := 2) sc_l_picture.nd rfl (by first | exact Or.inl rfl | exact Or.inr rfl) (pe_op op_add pe_int (pe_call D_l_draw.ok (hr.mono (by decide)) rfl D_l_draw.mgf D_l_draw.kp D_l_draw.b .nil pass0 (pa_cons (pv 0) (pa_cons (pv 1) pa_nil)))))
      (pss_cons (ps_set (i := 3) sc_l_picture.nd rfl (by first | exact Or.inl rfl | exact Or.inr rfl) (pe_op op_add pe_int (pe_call D_l_draw.ok (hr.mono (by decide)) rfl D_l_draw.mgf D_l_draw.kp D_l_draw.b .nil pass0 (pa_cons (pv 0) (pa_cons (pv 1) pa_nil)))))
      (pss_cons (ps_setLc (i := 4)  (own := [("k", 6)]) (tt := tYes) rfl sc_l_picture.nd rfl rfl (sw_true rfl rfl rfl (by decide +kernel)) (pi_range1 (by rfl) T.range_ (pa_cons (pe_op op_mul (pv 2) (pv 3)) pa_nil)) (blkOk_by (N := ["deck", "most", "width", "height", "values", "covers", "k"]) (sc := defScope s_l_picture) (by decide +kernel)) (fun _ _ _ _ _ => (pg_name (i := 6) sc_l_picture.nd rfl (by first | exact Or.inl rfl | exact Or.inr rfl))) (fun _ _ _ _ _ => pts_nil) (fun _ _ _ _ _ => (pe_call D_l_value.ok (hr.mono (by decide)) rfl D_l_value.mgf D_l_value.kp D_l_value.b .nil pass0 (pa_cons (pv 0) pa_nil))))
      (pss_cons (ps_setLc (i := 5)  (own := [("k", 6)]) (tt := tYes) rfl sc_l_picture.nd rfl rfl (sw_true rfl rfl rfl (by decide +kernel)) (pi_range1 (by rfl) T.range_ (pa_cons (pe_op op_mul (pv 2) (pv 3)) pa_nil)) (blkOk_by (N := ["deck", "most", "width", "height", "values", "covers", "k"]) (sc := defScope s_l_picture) (by decide +kernel)) (fun _ _ _ _ _ => (pg_name (i := 6) sc_l_picture.nd rfl (by first | exact Or.inl rfl | exact Or.inr rfl))) (fun _ _ _ _ _ => pts_nil) (fun _ _ _ _ _ => pe_int))
      (pss_cut (ps_if (pt_cmpR op_gt (pe_call D_l_draw.ok (hr.mono (by decide)) rfl D_l_draw.mgf D_l_draw.kp D_l_draw.b .nil pass0 (pa_cons (pv 0) (pa_cons pe_int pa_nil))) pe_int (nomark _))
        (pss_one (ps_setLc (i := 5)  (own := [("k", 6)]) (tt := tYes) rfl sc_l_picture.nd rfl rfl (sw_true rfl rfl rfl (by decide +kernel)) (pi_range1 (by rfl) T.range_ (pa_cons (pe_op op_mul (pv 2) (pv 3)) pa_nil)) (blkOk_by (N := ["deck", "most", "width", "height", "values", "covers", "k"]) (sc := defScope s_l_picture) (by decide +kernel)) (fun _ _ _ _ _ => (pg_name (i := 6) sc_l_picture.nd rfl (by first | exact Or.inl rfl | exact Or.inr rfl))) (fun _ _ _ _ _ => pts_nil) (fun _ _ _ _ _ => (pe_call D_l_cover.ok (hr.mono (by decide)) rfl D_l_cover.mgf D_l_cover.kp D_l_cover.b .nil pass0 (pa_cons (pv 0) pa_nil)))))
        pss_nil)
      (pss_one (ps_ret (pe_tup (pa_cons (pv 2) (pa_cons (pv 3) (pa_cons (pe_callTy (ktuple K) (by rfl) T.tuple_ bt_tuple (pa_cons (pv 4) pa_nil)) (pa_cons (pe_callTy (ktuple K) (by rfl) T.tuple_ bt_tuple (pa_cons (pv 5) pa_nil)) pa_nil)))))))))))), ?_⟩
    refine ⟨_, rfl, _, rfl, a, m, rfl, hd, by omega, by omega, fun wd w0 w1 => ?_⟩
    refine ⟨_, _, rfl, rfl, ?_⟩
    refine ⟨_, rfl, _, rfl, a, m, rfl, hd, by omega, by omega, fun hg h0 h1 => ?_⟩
    refine ⟨_, _, rfl, rfl, ?_⟩
    obtain ⟨a1, a2⟩ := area_le (w := 1 + wd) (h := 1 + hg) (m := 12) (by omega) (by omega) (by omega) (by omega)
    generalize hW : 1 + wd = W at a1 a2
    generalize hG : 1 + hg = G at a1 a2
    show gName 3 (.int (1 + hg)) ((L2.start _ _).set 2 (some (.int (1 + wd)))) _ _
    rw [hW, hG]
    have hN : ((W * G).toNat : Int) = W * G := by omega
    refine ⟨_, rfl, _, rfl, _, _, rfl, rfl, .inl ⟨by omega, by omega⟩, _, rfl, by omega, by omega, fun D1 hD1 => ?_⟩
    refine lc_range (lo := 0) (n := (W * G).toNat) (fun i H' => Ex H H' ∧ IntsAt H' D1 i fun x => 0 ≤ x ∧ x ≤ 255) ⟨Ex.new hD1, [], upd_same, rfl, by simp⟩ ?_ ?_
    · rintro i H' hi ⟨e, hI⟩
      refine ⟨rfl, ?_⟩
      refine lcY ?_
      refine ⟨_, rfl, a, rfl, hd.mono e, fun x H2 e2 x0 x1 => ?_⟩
      exact hI.snoc hD1 e e2 (by omega) ⟨x0, x1⟩
    rintro H1 ⟨e1, vl, hvl, hvn, hvb⟩
    refine ⟨_, rfl, _, rfl, _, _, rfl, rfl, .inl ⟨by omega, by omega⟩, _, rfl, by omega, by omega, fun D2 hD2 => ?_⟩
    refine lc_range (lo := 0) (n := (W * G).toNat) (fun i H' => Ex H1 H' ∧ IntsAt H' D2 i fun x => 0 ≤ x ∧ x ≤ 256) ⟨Ex.new hD2, [], upd_same, rfl, by simp⟩ ?_ ?_
    · rintro i H' hi ⟨e, hI⟩
      refine ⟨rfl, ?_⟩
      refine lcY ?_
      exact hI.snoc hD2 e (Ex.refl _) (by omega) ⟨by decide, by decide⟩
    rintro H2 ⟨e2, hI2⟩
    refine ⟨fun σ H' => ∃ D, σ = [some (.ref a), some (.int m), some (.int W), some (.int G), some (.ref D1), some (.ref D), none] ∧ Ex H1 H' ∧ IntsAt H' D (W * G).toNat fun x => 0 ≤ x ∧ x ≤ 256, ?_, ?_⟩
    · refine ⟨_, rfl, a, 3, rfl, hd.mono (e1.trans e2), by decide, by decide, fun b b0 b1 => ?_⟩
      refine ⟨_, _, rfl, rfl, _, rfl, ?_⟩
      refine ite2 (fun c => ?_) (fun c => ?_)
      · refine ⟨_, rfl, _, rfl, _, _, rfl, rfl, .inl ⟨by omega, by omega⟩, _, rfl, by omega, by omega, fun D3 hD3 => ?_⟩
        refine lc_range (lo := 0) (n := (W * G).toNat) (fun i H' => Ex H2 H' ∧ IntsAt H' D3 i fun x => 0 ≤ x ∧ x ≤ 256) ⟨Ex.new hD3, [], upd_same, rfl, by simp⟩ ?_ ?_
        · rintro i H' hi ⟨e, hI⟩
          refine ⟨rfl, ?_⟩
          refine lcY ?_
          refine ⟨_, rfl, a, rfl, hd.mono ((e1.trans e2).trans e), fun x H3 e3 x0 x1 => ?_⟩
          exact hI.snoc hD3 e e3 (by omega) ⟨x0, x1⟩
        rintro H3 ⟨e3, hI3⟩
        exact ⟨D3, rfl, e2.trans e3, hI3⟩
      · exact ⟨D2, rfl, e2, hI2⟩
    · rintro σ H3 ⟨D, rfl, e3, cl, hcl, hcn, hcb⟩
      refine ⟨_, rfl, _, rfl, _, rfl, D1, _, rfl, .inl ⟨SqL.of (e3 _ _ hvl), fun p1 hp1 => ?_⟩⟩
      have e4 := Ex.new (o := .tup (vl.map V.int)) hp1
      refine ⟨_, rfl, D, _, rfl, .inl ⟨SqL.of (e4 _ _ hcl), fun p2 hp2 => ?_⟩⟩
      have e5 := Ex.new (o := .tup (cl.map V.int)) hp2
      refine ⟨(by show 4 ≤ sizeLine; decide), fun p3 hp3 => ?_⟩
      have e6 := Ex.new (o := .tup [.int W, .int G, .ref p1, .ref p2]) hp3
      refine q (.ref p3) ⟨W, G, vl, cl⟩ _ ((((e1.trans e3).trans e4).trans e5).trans e6) ⟨p3, p1, p2, rfl, upd_same, e6 _ _ (e5 _ _ upd_same), e6 _ _ upd_same⟩ ⟨?_, ?_, ?_, ?_, ?_, ?_, hvb, hcb⟩ <;> dsimp only <;> omega

abbrev s_l_paint : Stmt := top 26
theorem sc_l_paint : FnScope ["deck", "most", "kind"] ["deck", "most"] (defScope s_l_paint) := ⟨rfl, rfl, rfl, by decide +kernel, rfl, by decide +kernel, by decide +kernel⟩
def spPaint (K : PySem.W.Frag) : Sp := fun vs H Q _ => ∃ a m, vs = [.ref a, .int m] ∧ DeckAt K H a ∧ 1 ≤ m ∧ m ≤ 12 ∧ ∀ v p H', Ex H H' → PaV H' v p → p.Ok m → Q v H'
theorem ok_l_paint {f : Addr} {fd : FuncData} (F : Fun K "_law_paint" "_law_paint" s_l_paint f fd) (T : Txt K mg) (D_l_draw : Def P w K mg base CX0 "_law_draw" 1 ["deck", "bound"] (spDraw K))
    (D_l_value : Def P w K mg base CX0 "_law_value" 2 ["deck"] (spDrawn K 255)) (D_l_picture : Def P w K mg base CX0 "_law_picture" 3 ["deck", "most"] (spPicture K)) : FnOk P w K mg base CX0 4 f fd ["deck", "most"] (spPaint K) := by
  refine F.ok sc_l_paint (fun vs H Q E h => ?_) (fun cdv A outer s H vs Q E hr h => ?_)
  · obtain ⟨a, m, rfl, _⟩ := h
    rfl
  · obtain ⟨a, m, rfl, hd, m1, m2, q⟩ := h
    refine ⟨_, (pss_cons (ps_set (i := 2) sc_l_paint.nd rfl (by first | exact Or.inl rfl | exact Or.inr rfl) (pe_call D_l_draw.ok (hr.mono (by decide)) rfl D_l_draw.mgf D_l_draw.kp D_l_draw.b .nil pass0 (pa_cons (pv 0) (pa_cons pe_int pa_nil))))
      (pss_cons (ps_if (pt_cmpR op_eq (pv 2) pe_int (nomark _))
        (pss_one (ps_ret (pe_tup (pa_cons pe_str (pa_cons (pe_call D_l_value.ok (hr.mono (by decide)) rfl D_l_value.mgf D_l_value.kp D_l_value.b .nil pass0 (pa_cons (pv 0) pa_nil)) pa_nil)))))
        pss_nil)
      (pss_cons (ps_if (pt_cmpR op_eq (pv 2) pe_int (nomark _))
        (pss_one (ps_ret (pe_tup (pa_cons pe_str (pa_cons (pe_call D_l_value.ok (hr.mono (by decide)) rfl D_l_value.mgf D_l_value.kp D_l_value.b .nil pass0 (pa_cons (pv 0) pa_nil)) (pa_cons (pe_call D_l_value.ok (hr.mono (by decide)) rfl D_l_value.mgf D_l_value.kp D_l_value.b .nil pass0 (pa_cons (pv 0) pa_nil)) (pa_cons (pe_op op_add pe_int (pe_call D_l_draw.ok (hr.mono (by decide)) rfl D_l_draw.mgf D_l_draw.kp D_l_draw.b .nil pass0 (pa_cons (pv 0) (pa_cons pe_int pa_nil)))) pa_nil)))))))
        pss_nil)
      (pss_one (ps_ret (pe_tup (pa_cons pe_str (pa_cons (pe_call D_l_picture.ok (hr.mono (by decide)) rfl D_l_picture.mgf D_l_picture.kp D_l_picture.b .nil pass0 (pa_cons (pv 0) (pa_cons (pv 1) pa_nil))) pa_nil)))))))), ?_⟩
    refine ⟨_, rfl, a, 5, rfl, hd, by decide, by decide, fun k k0 k1 => ?_⟩
    refine ⟨_, rfl, rfl, _, rfl, ?_⟩
    refine ite2 (fun _ => ?_) (fun _ => ?_)
    · refine ⟨_, rfl, a, rfl, hd, fun x H1 e1 x0 x1 => ?_⟩
      refine ⟨(by show 2 ≤ sizeLine; decide), fun l hl => ?_⟩
      exact q _ (.solid x) _ (e1.trans (Ex.new hl)) ⟨l, rfl, upd_same⟩ ⟨x0, x1⟩
    · refine ⟨_, rfl, rfl, _, rfl, ?_⟩
      refine ite2 (fun _ => ?_) (fun _ => ?_)
      · refine ⟨_, rfl, a, rfl, hd, fun x H1 e1 x0 x1 => ?_⟩
        refine ⟨_, rfl, a, rfl, hd.mono e1, fun y H2 e2 y0 y1 => ?_⟩
        refine ⟨_, rfl, a, 12, rfl, (hd.mono e1).mono e2, by decide, by decide, fun z z0 z1 => ?_⟩
        refine ⟨_, _, rfl, rfl, ?_⟩
        refine ⟨(by show 4 ≤ sizeLine; decide), fun l hl => ?_⟩
        exact q _ (.steps x y (1 + z)) _ ((e1.trans e2).trans (Ex.new hl)) ⟨l, rfl, upd_same⟩ ⟨x0, x1, y0, y1, by omega, by omega⟩
      · refine ⟨_, rfl, _, rfl, a, m, rfl, hd, m1, m2, fun u p H1 e1 hp kp => ?_⟩
        refine ⟨(by show 2 ≤ sizeLine; decide), fun l hl => ?_⟩
        exact q _ (.pic p) _ (e1.trans (Ex.new hl)) ⟨l, u, rfl, upd_same, hp.tk (TK.ex (Ex.new hl))⟩ kp

abbrev s_is_whole : Stmt := top 5
theorem sc_is_whole : FnScope ["value"] ["value"] (defScope s_is_whole) := ⟨rfl, rfl, rfl, by decide +kernel, rfl, by decide +kernel, by decide +kernel⟩
def spWhole : Sp := fun vs H Q _ => ∃ v T, vs = [v] ∧ Kn H v T ∧ Q (.bl (isI v)) H
theorem ok_is_whole {f : Addr} {fd : FuncData} (F : Fun K "is_whole" "is_whole" s_is_whole f fd) (T : Txt K mg) : FnOk P w K mg base CX0 1 f fd ["value"] spWhole := by
  refine F.ok sc_is_whole (fun vs H Q E h => ?_) (fun cdv A outer s H vs Q E hr h => ?_)
  · obtain ⟨v, T, rfl, _⟩ := h
    rfl
  · obtain ⟨v, T', rfl, kn, q⟩ := h
    refine ⟨_, (pss_one (ps_ret (pe_and (pe_callB (kisi K) (by rfl) T.isinstance_ bt_isinstance (pa_cons (pv 0) (pa_cons (pe_bltn (v := .ty "int") (by rfl) T.int_ bt_int rfl) pa_nil))) (pe_one (pe_not (pe_callB (kisi K) (by rfl) T.isinstance_ bt_isinstance (pa_cons (pv 0) (pa_cons (pe_bltn (v := .ty "bool") (by rfl) T.bool_ bt_bool rfl) pa_nil)))))))), ?_⟩
    refine ⟨v, rfl, v, _, _, _, _, rfl, .ty _, kn.ty, kit_ty (kit_int kn), _, rfl, ?_⟩
    refine ite2 (fun e => ?_) (fun e => ?_)
    · refine ⟨v, rfl, v, _, _, _, _, rfl, .ty _, kn.ty, kit_ty (kit_bool kn), _, rfl, ?_⟩
      have z := kn.whole
      rw [e] at z
      rw [← z] at q
      exact q
    · have z := kn.whole
      rw [eq_false_of_ne_true e] at z
      rw [← z] at q
      exact q

abbrev s_is_number : Stmt := top 10
theorem sc_is_number : FnScope ["value", "least", "most"] ["value", "least", "most"] (defScope s_is_number) := ⟨rfl, rfl, rfl, by decide +kernel, rfl, by decide +kernel, by decide +kernel⟩
def numIn (lo hi : Int) : V → Bool
  | .int i => decide (lo ≤ i) && decide (i ≤ hi)
  | _ => false
def spNumber : Sp := fun vs H Q _ => ∃ v lo hi T, vs = [v, .int lo, .int hi] ∧ Kn H v T ∧ Q (.bl (numIn lo hi v)) H
theorem ok_is_number {f : Addr} {fd : FuncData} (F : Fun K "is_number" "is_number" s_is_number f fd) (T : Txt K mg) (D_is_whole : Def P w K mg base CX0 "is_whole" 1 ["value"] spWhole) : FnOk P w K mg base CX0 2 f fd ["value", "least", "most"] spNumber := by
  refine F.ok sc_is_number (fun vs H Q E h => ?_) (fun cdv A outer s H vs Q E hr h => ?_)
  · obtain ⟨v, lo, hi, T, rfl, _⟩ := h
    rfl
  · obtain ⟨v, lo, hi, T', rfl, kn, q⟩ := h
    refine ⟨_, (pss_one (ps_ret (pe_and (pe_call D_is_whole.ok (hr.mono (by decide)) rfl D_is_whole.mgf D_is_whole.kp D_is_whole.b .nil pass0 (pa_cons (pv 0) pa_nil)) (pe_one (pe_chain op_le op_le (pv 1) (pv 0) (pv 2)))))), ?_⟩
    refine ⟨v, rfl, v, _, rfl, kn, _, rfl, ?_⟩
    cases v with
    | int i =>
      refine iteT ?_
      refine ⟨_, rfl, _, rfl, _, _, rfl, rfl, _, rfl, ?_⟩
      have e : numIn lo hi (.int i) = (decide (lo ≤ i) && decide (i ≤ hi)) := rfl
      rw [e] at q
      refine ite2 (fun c => ?_) (fun c => ?_)
      · rw [c, Bool.true_and] at q
        exact ⟨_, rfl, _, _, rfl, rfl, q⟩
      · rw [eq_false_of_ne_true c, Bool.false_and] at q
        exact q
    | _ => exact iteF q

abbrev s_l_count : Stmt := top 27
theorem sc_l_count : FnScope ["value", "least", "most"] ["value", "least", "most"] (defScope s_l_count) := ⟨rfl, rfl, rfl, by decide +kernel, rfl, by decide +kernel, by decide +kernel⟩
theorem ok_l_count {f : Addr} {fd : FuncData} (F : Fun K "_law_count" "_law_count" s_l_count f fd) (T : Txt K mg) : FnOk P w K mg base CX0 1 f fd ["value", "least", "most"] spNumber := by
  refine F.ok sc_l_count (fun vs H Q E h => ?_) (fun cdv A outer s H vs Q E hr h => ?_)
  · obtain ⟨v, lo, hi, T, rfl, _⟩ := h
    rfl
  · obtain ⟨v, lo, hi, T', rfl, kn, q⟩ := h
    refine ⟨_, (pss_one (ps_ret (pe_and (pe_callB (kisi K) (by rfl) T.isinstance_ bt_isinstance (pa_cons (pv 0) (pa_cons (pe_bltn (v := .ty "int") (by rfl) T.int_ bt_int rfl) pa_nil))) (pe_and (pe_not (pe_callB (kisi K) (by rfl) T.isinstance_ bt_isinstance (pa_cons (pv 0) (pa_cons (pe_bltn (v := .ty "bool") (by rfl) T.bool_ bt_bool rfl) pa_nil)))) (pe_one (pe_chain op_le op_le (pv 1) (pv 0) (pv 2))))))), ?_⟩
    refine ⟨v, rfl, v, _, _, _, _, rfl, .ty _, kn.ty, kit_ty (kit_int kn), _, rfl, ?_⟩
    have w := kn.whole
    refine ite2 (fun e => ?_) (fun e => ?_)
    · refine ⟨v, rfl, v, _, _, _, _, rfl, .ty _, kn.ty, kit_ty (kit_bool kn), _, rfl, _, rfl, ?_⟩
      rw [e, Bool.true_and] at w
      rw [w]
      cases v with
      | int i =>
        refine iteT ?_
        refine ⟨_, rfl, _, rfl, _, _, rfl, rfl, _, rfl, ?_⟩
        have e : numIn lo hi (.int i) = (decide (lo ≤ i) && decide (i ≤ hi)) := rfl
        rw [e] at q
        refine ite2 (fun c => ?_) (fun c => ?_)
        · rw [c, Bool.true_and] at q
          exact ⟨_, rfl, _, _, rfl, rfl, q⟩
        · rw [eq_false_of_ne_true c, Bool.false_and] at q
          exact q
      | _ => exact iteF q
    · rw [eq_false_of_ne_true e, Bool.false_and] at w
      cases v with
      | int i => cases w
      | _ => exact q

abbrev s_are_numbers : Stmt := top 12
theorem sc_are_numbers : FnScope ["items", "many", "most", "item"] ["items", "many", "most"] (defScope s_are_numbers) := ⟨rfl, rfl, rfl, by decide +kernel, rfl, by decide +kernel, by decide +kernel⟩
/-- what is passed: a value of a known kind; the items of a tuple, too -/
def Itm (H : Hp) (v : V) : Prop := (∃ T, Kn H v T) ∧ ∀ a xs, v = .ref a → H a = some (.tup xs) → (∀ x ∈ xs, ∃ T, Kn H x T) ∧ xs.length ≤ 500000
def numsV (H : Hp) (n m : Int) : V → Bool
  | .ref a => match H a with
    | some (.tup xs) => decide ((xs.length : Int) = n) && xs.all (numIn 0 m)
    | _ => false
  | _ => false
theorem numsV_tup {H : Hp} {n m : Int} {a : Addr} {xs : List V} (h : H a = some (.tup xs)) : numsV H n m (.ref a) = (decide ((xs.length : Int) = n) && xs.all (numIn 0 m)) := by
  unfold numsV
  simp only [h]
theorem kn_tup {H : Hp} {v : V} {T : String} (kn : Kn H v T) (c : isA T "tuple" = true) : ∃ a xs, v = .ref a ∧ H a = some (.tup xs) := by
  cases kn with
  | tup h => exact ⟨_, _, rfl, h⟩
  | non => exact absurd c (by decide +kernel)
  | bl b => exact absurd c (by decide +kernel)
  | int i => exact absurd c (by decide +kernel)
  | str x => exact absurd c (by decide +kernel)
  | lst h => exact absurd c (by decide +kernel)
theorem numsV_no {H : Hp} {n m : Int} {v : V} {T : String} (kn : Kn H v T) (c : isA T "tuple" = false) : numsV H n m v = false := by
  cases kn with
  | tup h => exact absurd c (by decide +kernel)
  | non => rfl
  | bl b => rfl
  | int i => rfl
  | str x => rfl
  | lst h =>
    unfold numsV
    simp only [h]
def spNums : Sp := fun vs H Q _ => ∃ v n m, vs = [v, .int n, .int m] ∧ Itm H v ∧ ∀ H', Ex H H' → Q (.bl (numsV H n m v)) H'
theorem ok_are_numbers {f : Addr} {fd : FuncData} (F : Fun K "_are_numbers" "_are_numbers" s_are_numbers f fd) (T : Txt K mg) (D_is_number : Def P w K mg base CX0 "is_number" 2 ["value", "least", "most"] spNumber) : FnOk P w K mg base CX0 3 f fd ["items", "many", "most"] spNums := by
  refine F.ok sc_are_numbers (fun vs H Q E h => ?_) (fun cdv A outer s H vs Q E hr h => ?_)
  · obtain ⟨v, n, m, rfl, _⟩ := h
    rfl
  · obtain ⟨v, n, m, rfl, ⟨⟨T', kn⟩, ki⟩, q⟩ := h
    refine ⟨_, (pss_cons (ps_if (PW.pt (pw_or (pt_not (pt_val (pe_callB (kisi K) (by rfl) T.isinstance_ bt_isinstance (pa_cons (pv 0) (pa_cons (pe_bltn (v := .ty "tuple") (by rfl) T.tuple_ bt_tuple rfl) pa_nil))))) (pw_or1 (pt_cmpR op_ne (pe_callB (klen K) (by rfl) T.len_ PySem.boot_len (pa_cons (pv 0) pa_nil)) (pv 1) (nomark _)))))
        (pss_one (ps_ret pe_bl))
        pss_nil)
      (pss_one (ps_ret (pe_callB (kall K rfl) (by rfl) T.all_ bt_all (pa_cons (pe_lc (own := [("item", 3)]) (tt := tYes) rfl sc_are_numbers.nd (kpiT K (pv 0)) (blkOk_by (N := ["items", "many", "most", "item"]) (sc := defScope s_are_numbers) (by decide +kernel)) (fun _ _ _ _ _ => (pg_name (i := 3) sc_are_numbers.nd rfl (by first | exact Or.inl rfl | exact Or.inr rfl))) (fun _ _ _ _ _ => pts_nil) (fun _ _ _ _ _ => (pe_call D_is_number.ok (hr.mono (by decide)) rfl D_is_number.mgf D_is_number.kp D_is_number.b .nil pass0 (pa_cons (pv 3) (pa_cons pe_int (pa_cons (pv 2) pa_nil)))))) pa_nil))))), ?_⟩
    refine ⟨v, rfl, v, _, _, _, _, rfl, .ty _, kn.ty, kit_ty (kit_tuple kn), _, rfl, ?_⟩
    cases ct : isA T' "tuple" with
    | false =>
      rw [numsV_no kn ct] at q
      refine iteT ?_
      exact iteT (q _ (Ex.refl _))
    | true =>
      obtain ⟨a, xs, rfl, ha⟩ := kn_tup kn ct
      obtain ⟨kx, hxl⟩ := ki a xs rfl ha
      rw [numsV_tup ha] at q
      refine iteF ?_
      refine ⟨_, rfl, a, xs, rfl, .inr (SqT.of ha), _, rfl, rfl, _, rfl, ?_⟩
      by_cases hn : (xs.length : Int) = n
      · have e4 : decide (V.int (xs.length : Int) = V.int n) = true := decide_eq_true (by rw [hn])
        rw [e4]
        rw [decide_eq_true hn, Bool.true_and] at q
        refine iteF ?_
        refine ⟨_, rfl, a, rfl, ⟨xs, SqT.of ha⟩, fun D hD => lc_tup (xs := xs) (fun i H' => Ex H H' ∧ H' D = some (.lst (((xs.take i).map (numIn 0 m)).map V.bl))) ⟨Ex.new hD, upd_same⟩ (fun i H' _ p => SqT.of (p.1 _ _ ha)) ?_ ?_⟩
        · intro i x H' hx p
          refine ⟨rfl, ?_⟩
          refine lcY ?_
          obtain ⟨Tx, kx⟩ := kx x (List.mem_of_getElem? hx)
          refine ⟨x, rfl, _, rfl, x, 0, m, Tx, rfl, kx.mono p.1, ?_⟩
          have hl : (xs.take i).length ≤ 500000 := by rw [List.length_take]; omega
          refine ⟨_, p.2, ?_, p.1.mut hD, ?_⟩
          · rw [List.length_map, List.length_map]
            exact Nat.lt_of_le_of_lt hl (by decide)
          · rw [upd_same, List.take_add_one, hx]
            simp
        · intro H' p
          rw [List.take_length] at p
          refine ⟨D, xs.map (numIn 0 m), rfl, SqL.of p.2, ?_⟩
          have ea : (xs.map (numIn 0 m)).all id = xs.all (numIn 0 m) := by rw [List.all_map]; rfl
          rw [ea]
          exact q _ p.1
      · have e4 : decide (V.int (xs.length : Int) = V.int n) = false := decide_eq_false (fun e => hn (by injection e))
        rw [e4]
        rw [decide_eq_false hn, Bool.false_and] at q
        refine iteT ?_
        exact q _ (Ex.refl _)

def plV : Option Nat → V
  | none => .non
  | some k => .int (k : Nat)
def outL : Option (Option Nat) → List V
  | none => []
  | some p => [plV p]
def outD : Option (Option Nat) → PyData
  | none => .tuple []
  | some none => .tuple [.none]
  | some (some k) => .tuple [.int (k : Nat)]
theorem out_dp {K : PySem.W.Frag} {H : Hp} {a : Addr} : ∀ {o : Option (Option Nat)}, H a = some (.tup (outL o)) → Dp K H (.ref a) (outD o)
  | none, h => .tup (SqT.of h) .nil
  | some none, h => .tup (SqT.of h) (.cons .non .nil)
  | some (some _), h => .tup (SqT.of h) (.cons (.int _) .nil)
def inI : V → Int
  | .int i => i
  | _ => 0
/-- what a check says of the four items -/
def fourO (H : Hp) (w h vs cs : V) : Option (Option Nat) := if numIn 1 12 w then if numIn 1 12 h then if numsV H (inI w * inI h) 255 vs then if numsV H (inI w * inI h) 256 cs then none else some (some 3) else some (some 2) else some (some 1) else some (some 0)
def picO (H : Hp) : V → Option (Option Nat)
  | .ref a => match H a with
    | some (.tup [w, h, vs, cs]) => fourO H w h vs cs
    | _ => some none
  | _ => some none
theorem picO_four {H : Hp} {a : Addr} {w h vs cs : V} (e : H a = some (.tup [w, h, vs, cs])) : picO H (.ref a) = fourO H w h vs cs := by
  simp only [picO, e]
theorem picO_len {H : Hp} {a : Addr} {xs : List V} (h : H a = some (.tup xs)) (hl : xs.length ≠ 4) : picO H (.ref a) = some none := by
  match xs, hl with
  | [], _ => simp only [picO, h]
  | [_], _ => simp only [picO, h]
  | [_, _], _ => simp only [picO, h]
  | [_, _, _], _ => simp only [picO, h]
  | [_, _, _, _], hl => exact absurd rfl hl
  | _ :: _ :: _ :: _ :: _ :: _, _ => simp only [picO, h]
theorem picO_no {H : Hp} {v : V} {T : String} (k : Kn H v T) (h : isA T "tuple" = false) : picO H v = some none := by
  cases k with
  | tup h1 => exact absurd h (by decide +kernel)
  | lst h1 => simp only [picO, h1]
  | _ => rfl
theorem numsV_ex {H H' : Hp} {n m : Int} {v : V} {T : String} (e : Ex H H') (k : Kn H v T) : numsV H' n m v = numsV H n m v := by
  cases k with
  | tup h1 => rw [numsV_tup h1, numsV_tup (e _ _ h1)]
  | lst h1 => rw [numsV_no (.lst h1) (by decide +kernel), numsV_no (.lst (e _ _ h1)) (by decide +kernel)]
  | non => rfl
  | bl b => rfl
  | int i => rfl
  | str x => rfl
theorem picO_ex {m : Nat} {H H' : Hp} {v : V} (e : Ex H H') (d : Deep m 2 H v) : picO H' v = picO H v := by
  obtain ⟨T, k⟩ := d.kn
  cases ct : isA T "tuple" with
  | false => rw [picO_no k ct, picO_no (k.mono e) ct]
  | true =>
    obtain ⟨a, xs, rfl, ha⟩ := k.asTup ct
    by_cases hl : xs.length = 4
    · match xs, hl with
      | [w, h, vs, cs], _ =>
        rw [picO_four ha, picO_four (e _ _ ha)]
        obtain ⟨T1, k1⟩ := ((d.at ha).2 vs (by simp)).kn
        obtain ⟨T2, k2⟩ := ((d.at ha).2 cs (by simp)).kn
        unfold fourO
        rw [numsV_ex e k1, numsV_ex e k2]
    · rw [picO_len ha hl, picO_len (e _ _ ha) hl]
theorem Deep.itm {m : Nat} {H : Hp} {v : V} (h : Deep m 1 H v) (l : m ≤ 500000) : Itm H v := ⟨h.1, fun a xs e ha => ⟨(h.2 a xs e ha).2, Nat.le_trans (h.2 a xs e ha).1 l⟩⟩
theorem picO_le {H : Hp} {v : V} {k : Nat} (h : picO H v = some (some k)) : k ≤ 3 := by
  unfold picO at h
  split at h
  · split at h
    · unfold fourO at h
      repeat' split at h
      all_goals first | (cases h; done) | (cases h; decide)
    · cases h
  · cases h
theorem out_sh {H : Hp} {v : V} {o : Option (Option Nat)} (m : picO H v = o) : Sh 1000 (outD o) ∧ (outD o).depth ≤ 60 := by
  have dd : ∀ d : PyData, d.depth = 0 → (PyData.tuple [d]).depth ≤ 60 := fun d h => by
    simp only [PyData.depth, PyData.depthAll, h]
    decide
  match o, m with
  | none, _ => exact ⟨ShAll.nil.tup.mono (by decide), by decide⟩
  | some none, _ => exact ⟨(ShAll.cons (B := 10) ⟨rfl, rfl, by decide, by decide⟩ .nil).tup.mono (by decide), by decide⟩
  | some (some k), h =>
    have hk := picO_le h
    exact ⟨(ShAll.cons (sh_int (by omega) (by omega)) .nil).tup.mono (by decide), dd _ (by simp only [PyData.depth])⟩

abbrev s_l_strange : Stmt := top 28
theorem sc_l_strange : FnScope ["deck", "menu"] ["deck"] (defScope s_l_strange) := ⟨rfl, rfl, rfl, by decide +kernel, rfl, by decide +kernel, by decide +kernel⟩
theorem ok_l_strange {f : Addr} {fd : FuncData} (F : Fun K "_law_strange" "_law_strange" s_l_strange f fd) (T : Txt K mg) (D_l_draw : Def P w K mg base CX0 "_law_draw" 1 ["deck", "bound"] (spDraw K)) : FnOk P w K mg base CX0 2 f fd ["deck"] (spOddX K) := by
  refine F.ok sc_l_strange (fun vs H Q E h => ?_) (fun cdv A outer s H vs Q E hr h => ?_)
  · obtain ⟨a, rfl, _⟩ := h
    rfl
  · obtain ⟨a, rfl, hd, q⟩ := h
    refine ⟨_, (pss_cons (ps_set (i := 1) sc_l_strange.nd rfl (by first | exact Or.inl rfl | exact Or.inr rfl) (pe_lst (pa_cons pe_non (pa_cons pe_bl (pa_cons pe_bl (pa_cons pe_str (pa_cons pe_str (pa_cons (pe_lst pa_nil) (pa_cons (pe_tup pa_nil) (pa_cons pe_int (pa_cons pe_int (pa_cons (pe_un un_neg pe_int) (pa_cons pe_int (pa_cons pe_int (pa_cons pe_int (pa_cons pe_int (pa_cons pe_int (pa_cons (pe_un un_neg pe_int) (pa_cons (pe_un un_neg pe_int) (pa_cons pe_int (pa_cons pe_int (pa_cons (pe_un un_neg pe_int) (pa_cons (pe_tup (pa_cons pe_int (pa_cons pe_int pa_nil))) (pa_cons (pe_lst (pa_cons pe_int pa_nil)) pa_nil))))))))))))))))))))))))
      (pss_one (ps_ret (pe_ix (kixL K) (pv 1) (pe_call D_l_draw.ok (hr.mono (by decide)) rfl D_l_draw.mgf D_l_draw.kp D_l_draw.b .nil pass0 (pa_cons (pv 0) (pa_cons (pe_callB (klen K) (by rfl) T.len_ PySem.boot_len (pa_cons (pv 1) pa_nil)) pa_nil))) (fun _ _ => rfl))))), ?_⟩
    refine ⟨(by show 0 ≤ sizeLine; decide), fun l1 hl1 => ?_⟩
    have e1 := Ex.new (o := .lst []) hl1
    have k1 : upd H l1 (.lst []) l1 = some (.lst []) := upd_same
    generalize upd H l1 (.lst []) = H1 at e1 k1 ⊢
    refine ⟨(by show 0 ≤ sizeLine; decide), fun l2 hl2 => ?_⟩
    have e2 := Ex.new (o := .tup []) hl2
    have k2 : upd H1 l2 (.tup []) l2 = some (.tup []) := upd_same
    generalize upd H1 l2 (.tup []) = H2 at e2 k2 ⊢
    refine ⟨_, rfl, _, rfl, _, rfl, _, rfl, (by show 2 ≤ sizeLine; decide), fun l3 hl3 => ?_⟩
    have e3 := Ex.new (o := .tup [.int 1, .int 2]) hl3
    have k3 : upd H2 l3 (.tup [.int 1, .int 2]) l3 = some (.tup [.int 1, .int 2]) := upd_same
    generalize upd H2 l3 (.tup [.int 1, .int 2]) = H3 at e3 k3 ⊢
    refine ⟨(by show 1 ≤ sizeLine; decide), fun l4 hl4 => ?_⟩
    have e4 := Ex.new (o := .lst [.int 0]) hl4
    have k4 : upd H3 l4 (.lst [.int 0]) l4 = some (.lst [.int 0]) := upd_same
    generalize upd H3 l4 (.lst [.int 0]) = H4 at e4 k4 ⊢
    refine ⟨(by show 22 ≤ sizeLine; decide), fun l5 hl5 => ?_⟩
    obtain ⟨menu, hm⟩ : ∃ m : List V, m = [.non, .bl true, .bl false, .str "a", .str "over", .ref l1, .ref l2, .int 0, .int 1, .int (-1), .int 12, .int 13, .int 255, .int 256, .int 257, .int (-255), .int (-256), .int 1000, .int 1001, .int (-1001), .ref l3, .ref l4] := ⟨_, rfl⟩
    have e5 := Ex.new (o := .lst menu) hl5
    have k5 : upd H4 l5 (.lst menu) l5 = some (.lst menu) := upd_same
    have len : menu.length = 22 := by rw [hm]; rfl
    have e45 := e4.trans e5
    have e25 := e3.trans e45
    have e15 := e2.trans e25
    have e05 := e1.trans e15
    have all : ∀ v ∈ menu, DX 200 1 (upd H4 l5 (.lst menu)) v := by
      have a1 := e15 _ _ k1
      have a2 := e25 _ _ k2
      have a3 := e45 _ _ k3
      have a4 := e5 _ _ k4
      generalize upd H4 l5 (.lst menu) = G at a1 a2 a3 a4 ⊢
      rw [hm]
      intro v hv
      simp only [List.mem_cons, List.not_mem_nil, or_false] at hv
      have str : ∀ {x : Str}, (PyData.str x).showable = true → (PyData.str x).leavesShort 13 = true → (PyData.str x).weight ≤ 60 → (PyData.str x).canLay0 = true → DX 200 1 G (.str x) := fun h1 h2 h3 h4 => (DX.str h1 h2 h3 h4).le (by decide) (by decide)
      have int : ∀ {i : Int}, -1000000 ≤ i → i ≤ 1000000 → DX 200 1 G (.int i) := fun h1 h2 => (DX.int h1 h2).le (by decide) (by decide)
      have bl : ∀ {b}, DX 200 1 G (.bl b) := DX.bl.le (by decide) (by decide)
      rcases hv with rfl | rfl | rfl | rfl | rfl | rfl | rfl | rfl | rfl | rfl | rfl | rfl | rfl | rfl | rfl | rfl | rfl | rfl | rfl | rfl | rfl | rfl
      · exact DX.non.le (by decide) (by decide)
      · exact bl
      · exact bl
      · exact str (by decide +kernel) (by decide +kernel) (by decide +kernel) (by decide +kernel)
      · exact str (by decide +kernel) (by decide +kernel) (by decide +kernel) (by decide +kernel)
      · exact (DX.lst (B := 60) (n := 0) (m := 0) a1 (Nat.le_refl _) (by decide) (by simp)).le (by decide) (by decide)
      · exact (DX.tup (B := 60) (n := 0) (m := 0) a2 (Nat.le_refl _) (by decide) (by simp)).le (by decide) (by decide)
      · exact int (by decide) (by decide)
      · exact int (by decide) (by decide)
      · exact int (by decide) (by decide)
      · exact int (by decide) (by decide)
      · exact int (by decide) (by decide)
      · exact int (by decide) (by decide)
      · exact int (by decide) (by decide)
      · exact int (by decide) (by decide)
      · exact int (by decide) (by decide)
      · exact int (by decide) (by decide)
      · exact int (by decide) (by decide)
      · exact int (by decide) (by decide)
      · exact int (by decide) (by decide)
      · refine (DX.tup (B := 60) (n := 0) (m := 2) a3 (Nat.le_refl _) (by decide) fun x hx => ?_).le (by decide) (by decide)
        simp only [List.mem_cons, List.not_mem_nil, or_false] at hx
        rcases hx with rfl | rfl
        · exact .int (by decide) (by decide)
        · exact .int (by decide) (by decide)
      · refine (DX.lst (B := 60) (n := 0) (m := 1) a4 (Nat.le_refl _) (by decide) fun x hx => ?_).le (by decide) (by decide)
        rw [List.mem_singleton.mp hx]
        exact .int (by decide) (by decide)
    rw [← hm]
    clear hm
    generalize upd H4 l5 (.lst menu) = H5 at e05 k5 all ⊢
    refine ⟨_, rfl, _, rfl, _, rfl, l5, menu, rfl, .inl (SqL.of k5), a, (menu.length : Int), rfl, hd.mono e05, by omega, by omega, fun i i0 i1 => ?_⟩
    obtain ⟨v, hv, ev⟩ := pickV i0 i1
    exact ⟨l5, menu, i, v, rfl, rfl, SqL.of k5, ev, q v _ e05 (all v hv)⟩

abbrev s_l_bent : Stmt := top 29
theorem sc_l_bent : FnScope ["deck", "item", "kind", "at"] ["deck", "item"] (defScope s_l_bent) := ⟨rfl, rfl, rfl, by decide +kernel, rfl, by decide +kernel, by decide +kernel⟩
theorem ok_l_bent {f : Addr} {fd : FuncData} (F : Fun K "_law_bent" "_law_bent" s_l_bent f fd) (T : Txt K mg) (D_l_draw : Def P w K mg base CX0 "_law_draw" 1 ["deck", "bound"] (spDraw K)) (D_l_strange : Def P w K mg base CX0 "_law_strange" 2 ["deck"] (spOddX K)) : FnOk P w K mg base CX0 3 f fd ["deck", "item"] (spBentX K) := by
  refine F.ok sc_l_bent (fun vs H Q E h => ?_) (fun cdv A outer s H vs Q E hr h => ?_)
  · obtain ⟨a, b, m, B, n, xs, rfl, _⟩ := h
    rfl
  · obtain ⟨a, b, m, B, n, xs, rfl, hd, hb, lx, ml, B2, n1, px, q⟩ := h
    refine ⟨_, (pss_cons (ps_set (i := 2) sc_l_bent.nd rfl (by first | exact Or.inl rfl | exact Or.inr rfl) (pe_call D_l_draw.ok (hr.mono (by decide)) rfl D_l_draw.mgf D_l_draw.kp D_l_draw.b .nil pass0 (pa_cons (pv 0) (pa_cons pe_int pa_nil))))
      (pss_cons (ps_set (i := 3) sc_l_bent.nd rfl (by first | exact Or.inl rfl | exact Or.inr rfl) (pe_call D_l_draw.ok (hr.mono (by decide)) rfl D_l_draw.mgf D_l_draw.kp D_l_draw.b .nil pass0 (pa_cons (pv 0) (pa_cons (pe_callB (call_max2 rfl) (by rfl) T.max_ bt_max (pa_cons pe_int (pa_cons (pe_callB (klen K) (by rfl) T.len_ PySem.boot_len (pa_cons (pv 1) pa_nil)) pa_nil))) pa_nil))))
      (pss_cons (ps_if (pt_cmpR op_lt (pv 2) pe_int (nomark _))
        (pss_one (ps_ret (pe_op (kcatA K) (pe_op (kcatA K) (pe_slice (kslA K) (pv 1) po_none (po_some (pv 3))) (pe_tup (pa_cons (pe_call D_l_strange.ok (hr.mono (by decide)) rfl D_l_strange.mgf D_l_strange.kp D_l_strange.b .nil pass0 (pa_cons (pv 0) pa_nil)) pa_nil))) (pe_slice (kslA K) (pv 1) (po_some (pe_op op_add (pv 3) pe_int)) po_none))))
        pss_nil)
      (pss_cons (ps_if (pt_cmpR op_eq (pv 2) pe_int (nomark _))
        (pss_one (ps_ret (pe_op (kcatA K) (pe_slice (kslA K) (pv 1) po_none (po_some (pv 3))) (pe_slice (kslA K) (pv 1) (po_some (pe_op op_add (pv 3) pe_int)) po_none))))
        pss_nil)
      (pss_cons (ps_if (pt_cmpR op_eq (pv 2) pe_int (nomark _))
        (pss_one (ps_ret (pe_op (kcatA K) (pe_op (kcatA K) (pe_slice (kslA K) (pv 1) po_none (po_some (pv 3))) (pe_tup (pa_cons (pe_call D_l_strange.ok (hr.mono (by decide)) rfl D_l_strange.mgf D_l_strange.kp D_l_strange.b .nil pass0 (pa_cons (pv 0) pa_nil)) pa_nil))) (pe_slice (kslA K) (pv 1) (po_some (pv 3)) po_none))))
        pss_nil)
      (pss_cons (ps_if (pt_cmpR op_eq (pv 2) pe_int (nomark _))
        (pss_one (ps_ret (pe_callTy (klist K) (by rfl) T.list_ bt_list (pa_cons (pv 1) pa_nil))))
        pss_nil)
      (pss_one (ps_ret (pe_call D_l_strange.ok (hr.mono (by decide)) rfl D_l_strange.mgf D_l_strange.kp D_l_strange.b .nil pass0 (pa_cons (pv 0) pa_nil)))))))))), ?_⟩
    refine ⟨_, rfl, a, 7, rfl, hd, by decide, by decide, fun k k0 k1 => ?_⟩
    refine ⟨_, rfl, _, rfl, b, xs, rfl, .inr (SqT.of hb), _, _, rfl, a, _, rfl, hd, by omega, by omega, fun t t0 t1 => ?_⟩
    have lin : ∀ z, z ≤ 1001 → z ≤ sizeLine := fun z hz => Nat.le_of_lt (slineL (by omega))
    -- the end of a tuple that is put together
    have fin : ∀ (lo1 hi1 lo2 hi2 : Option Int) (v : V) (G : Hp) (p : Addr), Ex H G → DX 200 1 G v → G p = some (.tup (cutV xs lo1 hi1 ++ [v] ++ cutV xs lo2 hi2)) → (cutV xs lo1 hi1).length + (cutV xs lo2 hi2).length ≤ xs.length → DX ((B + 1) * (m + 1)) (n + 1) G (.ref p) := fun lo1 hi1 lo2 hi2 v G p e ov hp l => by
      refine .tup hp (by simp only [List.length_append, List.length_singleton]; omega) (by omega) fun x hx => ?_
      simp only [List.mem_append, List.mem_singleton] at hx
      rcases hx with (hx | rfl) | hx
      · exact (px x (mem_cutV hx)).ex e
      · exact ov.le B2 n1
      · exact (px x (mem_cutV hx)).ex e
    have two : ∀ lo, 0 ≤ lo → t ≤ lo → (cutV xs none (some t)).length + (cutV xs (some lo) none).length ≤ xs.length := fun lo h0 h1 => by
      unfold cutV
      rw [List.length_take, List.length_drop, List.length_take, List.length_drop]
      obtain ⟨t', rfl⟩ := Int.eq_ofNat_of_zero_le t0
      obtain ⟨lo', rfl⟩ := Int.eq_ofNat_of_zero_le h0
      rw [HT.sIx_nat, HT.sIx_nat, HT.sIx_none, HT.sIx_none]
      omega
    refine ⟨_, rfl, _, _, rfl, rfl, _, rfl, ?_⟩
    refine ite2 (fun _ => ?_) (fun _ => ?_)
    · refine ⟨_, rfl, _, rfl, _, rfl, ?_⟩
      refine slA hb fun p1 H1 e1 hp1 => ?_
      refine ⟨_, rfl, a, rfl, hd.mono e1, fun v H2 e2 ov => ?_⟩
      refine ⟨(by show 1 ≤ sizeLine; decide), fun p2 hp2 => ?_⟩
      have f3 := Ex.new (o := .tup [v]) hp2
      have k3 : upd H2 p2 (.tup [v]) p2 = some (.tup [v]) := upd_same
      have ov3 : DX 200 1 (upd H2 p2 (.tup [v])) v := ov.ex f3
      generalize upd H2 p2 (.tup [v]) = H3 at f3 k3 ov3 ⊢
      have e13 := e2.trans f3
      have l1 := cutV_le (xs := xs) (lo := none) (hi := some t)
      refine catA (e13 _ _ hp1) k3 (lin _ (by simp only [List.length_singleton]; omega)) fun p4 H4 e4 hp4 => ?_
      have e04 := (e1.trans e13).trans e4
      refine ⟨_, rfl, _, rfl, _, _, rfl, rfl, _, rfl, ?_⟩
      refine slA (e04 _ _ hb) fun p5 H5 e5 hp5 => ?_
      have l2 := two (t + 1) (by omega) (by omega)
      refine catA (e5 _ _ hp4) hp5 (lin _ (by simp only [List.length_append, List.length_singleton]; omega)) fun p6 H6 e6 hp6 => ?_
      have e06 := (e04.trans e5).trans e6
      exact q _ _ e06 (fin _ _ _ _ v H6 p6 e06 (ov3.ex ((e4.trans e5).trans e6)) hp6 l2)
    refine ⟨_, rfl, rfl, _, rfl, ?_⟩
    refine ite2 (fun _ => ?_) (fun _ => ?_)
    · refine ⟨_, rfl, _, rfl, _, rfl, ?_⟩
      refine slA hb fun p1 H1 e1 hp1 => ?_
      refine ⟨_, rfl, _, rfl, _, _, rfl, rfl, _, rfl, ?_⟩
      refine slA (e1 _ _ hb) fun p5 H5 e5 hp5 => ?_
      have l2 := two (t + 1) (by omega) (by omega)
      refine catA (e5 _ _ hp1) hp5 (lin _ (by omega)) fun p6 H6 e6 hp6 => ?_
      have e06 := (e1.trans e5).trans e6
      refine q _ _ e06 (.tup hp6 (by rw [List.length_append]; omega) (by omega) fun x hx => ?_)
      rcases List.mem_append.mp hx with hx | hx
      · exact (px x (mem_cutV hx)).ex e06
      · exact (px x (mem_cutV hx)).ex e06
    refine ⟨_, rfl, rfl, _, rfl, ?_⟩
    refine ite2 (fun _ => ?_) (fun _ => ?_)
    · refine ⟨_, rfl, _, rfl, _, rfl, ?_⟩
      refine slA hb fun p1 H1 e1 hp1 => ?_
      refine ⟨_, rfl, a, rfl, hd.mono e1, fun v H2 e2 ov => ?_⟩
      refine ⟨(by show 1 ≤ sizeLine; decide), fun p2 hp2 => ?_⟩
      have f3 := Ex.new (o := .tup [v]) hp2
      have k3 : upd H2 p2 (.tup [v]) p2 = some (.tup [v]) := upd_same
      have ov3 : DX 200 1 (upd H2 p2 (.tup [v])) v := ov.ex f3
      generalize upd H2 p2 (.tup [v]) = H3 at f3 k3 ov3 ⊢
      have e13 := e2.trans f3
      have l1 := cutV_le (xs := xs) (lo := none) (hi := some t)
      refine catA (e13 _ _ hp1) k3 (lin _ (by simp only [List.length_singleton]; omega)) fun p4 H4 e4 hp4 => ?_
      have e04 := (e1.trans e13).trans e4
      refine ⟨_, rfl, _, rfl, _, rfl, ?_⟩
      refine slA (e04 _ _ hb) fun p5 H5 e5 hp5 => ?_
      have l2 := two t (by omega) (by omega)
      refine catA (e5 _ _ hp4) hp5 (lin _ (by simp only [List.length_append, List.length_singleton]; omega)) fun p6 H6 e6 hp6 => ?_
      have e06 := (e04.trans e5).trans e6
      exact q _ _ e06 (fin _ _ _ _ v H6 p6 e06 (ov3.ex ((e4.trans e5).trans e6)) hp6 l2)
    refine ⟨_, rfl, rfl, _, rfl, ?_⟩
    refine ite2 (fun _ => ?_) (fun _ => ?_)
    · refine ⟨_, rfl, b, xs, rfl, .inr (SqT.of hb), fun l hl => ?_⟩
      exact q _ _ (Ex.new hl) (.lst upd_same (by omega) (by omega) fun x hx => (px x hx).ex (Ex.new hl))
    · exact ⟨_, rfl, a, rfl, hd, fun v H2 e2 ov => q _ _ e2 (ov.le (Nat.le_trans B2 (by rw [Nat.mul_add, Nat.mul_one]; omega)) (by omega))⟩

abbrev s_FilmErr : Stmt := clsDef (top 1)
theorem sc_FilmErr : FnScope ["self", "word", "place"] ["self", "word", "place"] (defScope s_FilmErr) := ⟨rfl, rfl, rfl, by decide +kernel, rfl, by decide +kernel, by decide +kernel⟩
theorem ok_FilmErr {f : Addr} {fd : FuncData} (F : FunD K "__init__" "FilmError.__init__" (defArgs s_FilmErr) (defBody s_FilmErr) (defScope s_FilmErr) [.non] [] f fd) {D fD : Addr} (FT : FilmTxt K mg D fD) : FnOk P w K mg base CX0 1 f fd ["self", "word", "place"] (spErrInit K) := by
  refine F.ok sc_FilmErr (fun vs H Q E h => ?_) (fun cdv A outer s H vs Q E hr h => ?_)
  · obtain ⟨a, C, wd, p, rfl, _⟩ := h
    rfl
  · obtain ⟨a, C, wd, p, rfl, T, ha, nw, np, q⟩ := h
    refine ⟨_, pss_cons (ps_expr (pe_veinit rfl FT.ve FT.vi (pa_cons (pv 0) (pa_cons (pv 1) pa_nil)))) (pss_cons (ps_ost (pv 0) (pv 1)) (pss_one (ps_ost (pv 0) (pv 2)))), ?_⟩
    refine ⟨_, rfl, _, rfl, a, C, [wd], rfl, (by show 1 ≤ 1000; decide), T, ha, ?_⟩
    refine ⟨_, rfl, _, rfl, a, C, rfl, T, nw, .inl ⟨ha, fun dx hd hne => ?_⟩⟩
    refine ⟨_, rfl, _, rfl, a, C, rfl, T, np, .inr ⟨dx, [("word", wd)], upd_same, by rw [upd_ne hne]; exact upd_same, (by show 1 ≤ 900; decide), ?_⟩⟩
    refine q dx _ hd hne (by rw [upd_ne (Ne.symm hne)]; exact upd_same) upd_same fun b n1 n2 => ?_
    rw [upd_ne n2, upd_ne n1, upd_ne n2]
theorem binds_FilmErr {f : Addr} {fd : FuncData} (F : FunD K "__init__" "FilmError.__init__" (defArgs s_FilmErr) (defBody s_FilmErr) (defScope s_FilmErr) [.non] [] f fd) : Binds K fd ["self", "word", "place"] [] := by
  obtain ⟨ds, r, b⟩ := F.binds1 (ps := ["self", "word", "place"]) 3 1 (by simp) rfl fun T kV doc pm an cdv ct us its hu hi => match us, hu, its, hi with | [_, _, _], _, [_], _ => ⟨_, rfl, rfl⟩
  cases r
  exact b

abbrev s_BadPaint : Stmt := clsDef (top 2)
theorem sc_BadPaint : FnScope ["self", "place"] ["self", "place"] (defScope s_BadPaint) := ⟨rfl, rfl, rfl, by decide +kernel, rfl, by decide +kernel, by decide +kernel⟩
theorem ok_BadPaint {f : Addr} {fd : FuncData} (F : FunD K "__init__" "BadPaint.__init__" (defArgs s_BadPaint) (defBody s_BadPaint) (defScope s_BadPaint) [.non] [] f fd) {D fD : Addr} {fdD : FuncData} (FT : FilmTxt K mg D fD)
    (G : FnOk P w K mg base CX0 1 fD fdD ["self", "word", "place"] (spErrInit K)) (kf : PySem.W.keepIn K (.ref fD) = true) (b : Binds K fdD ["self", "word", "place"] []) : FnOk P w K mg base CX0 2 f fd ["self", "place"] (spKind K "BadPaint") := by
  refine F.ok sc_BadPaint (fun vs H Q E h => ?_) (fun cdv A outer s H vs Q E hr h => ?_)
  · obtain ⟨a, C, p, rfl, _⟩ := h
    rfl
  · obtain ⟨a, C, p, rfl, T, ha, nw, np, q⟩ := h
    refine ⟨_, pss_one (ps_expr (pe_binit G (hr.mono (by decide)) rfl FT.g FT.rd FT.ga FT.fa kf b .nil pass0 (pa_cons (pv 0) (pa_cons pe_str (pa_cons (pv 1) pa_nil))))), ?_⟩
    exact ⟨_, rfl, _, rfl, a, C, .str "BadPaint", p, rfl, T, ha, nw, np, fun dx H' h1 h2 h3 h4 h5 => q dx H' h1 h2 h3 h4 h5⟩
theorem binds_BadPaint {f : Addr} {fd : FuncData} (F : FunD K "__init__" "BadPaint.__init__" (defArgs s_BadPaint) (defBody s_BadPaint) (defScope s_BadPaint) [.non] [] f fd) : (∃ ds, Vals [.non] ds ∧ Binds K fd ["self", "place"] ds) ∧ Binds K fd ["self", "place"] [] := by
  refine ⟨F.binds1 (ps := ["self", "place"]) 1 0 (by simp) rfl fun T kV doc pm an cdv ct us its hu hi => match us, hu, its, hi with | [_], _, [_], _ => ⟨_, rfl, rfl⟩, ?_⟩
  obtain ⟨ds, r, b⟩ := F.binds1 (ps := ["self", "place"]) 2 1 (by simp) rfl fun T kV doc pm an cdv ct us its hu hi => match us, hu, its, hi with | [_, _], _, [_], _ => ⟨_, rfl, rfl⟩
  cases r
  exact b

abbrev s_BadPicture : Stmt := clsDef (top 3)
theorem sc_BadPicture : FnScope ["self", "place"] ["self", "place"] (defScope s_BadPicture) := ⟨rfl, rfl, rfl, by decide +kernel, rfl, by decide +kernel, by decide +kernel⟩
theorem ok_BadPicture {f : Addr} {fd : FuncData} (F : FunD K "__init__" "BadPicture.__init__" (defArgs s_BadPicture) (defBody s_BadPicture) (defScope s_BadPicture) [.non] [] f fd) {D fD : Addr} {fdD : FuncData} (FT : FilmTxt K mg D fD)
    (G : FnOk P w K mg base CX0 1 fD fdD ["self", "word", "place"] (spErrInit K)) (kf : PySem.W.keepIn K (.ref fD) = true) (b : Binds K fdD ["self", "word", "place"] []) : FnOk P w K mg base CX0 2 f fd ["self", "place"] (spKind K "BadPicture") := by
  refine F.ok sc_BadPicture (fun vs H Q E h => ?_) (fun cdv A outer s H vs Q E hr h => ?_)
  · obtain ⟨a, C, p, rfl, _⟩ := h
    rfl
  · obtain ⟨a, C, p, rfl, T, ha, nw, np, q⟩ := h
    refine ⟨_, pss_one (ps_expr (pe_binit G (hr.mono (by decide)) rfl FT.g FT.rd FT.ga FT.fa kf b .nil pass0 (pa_cons (pv 0) (pa_cons pe_str (pa_cons (pv 1) pa_nil))))), ?_⟩
    exact ⟨_, rfl, _, rfl, a, C, .str "BadPicture", p, rfl, T, ha, nw, np, fun dx H' h1 h2 h3 h4 h5 => q dx H' h1 h2 h3 h4 h5⟩
theorem binds_BadPicture {f : Addr} {fd : FuncData} (F : FunD K "__init__" "BadPicture.__init__" (defArgs s_BadPicture) (defBody s_BadPicture) (defScope s_BadPicture) [.non] [] f fd) : (∃ ds, Vals [.non] ds ∧ Binds K fd ["self", "place"] ds) ∧ Binds K fd ["self", "place"] [] := by
  refine ⟨F.binds1 (ps := ["self", "place"]) 1 0 (by simp) rfl fun T kV doc pm an cdv ct us its hu hi => match us, hu, its, hi with | [_], _, [_], _ => ⟨_, rfl, rfl⟩, ?_⟩
  obtain ⟨ds, r, b⟩ := F.binds1 (ps := ["self", "place"]) 2 1 (by simp) rfl fun T kV doc pm an cdv ct us its hu hi => match us, hu, its, hi with | [_, _], _, [_], _ => ⟨_, rfl, rfl⟩
  cases r
  exact b

abbrev s_has_form : Stmt := top 19
theorem sc_has_form : FnScope ["paint", "value", "first", "second", "size", "are_values"] ["paint"] (defScope s_has_form) := ⟨rfl, rfl, rfl, by decide +kernel, rfl, by decide +kernel, by decide +kernel⟩
/-- the items of a paint's tuple, whatever stands there as its picture -/
def formB : List V → Bool
  | [w, x] => if isW "solid" w then numIn 0 255 x else isW "picture" w
  | [w, a, b, c] => if isW "steps" w then (numIn 0 255 a && numIn 0 255 b) && numIn 1 12 c else false
  | _ => false
def formV (H : Hp) : V → Bool
  | .ref a => match H a with
    | some (.tup xs) => formB xs
    | _ => false
  | _ => false
theorem formV_tup {H : Hp} {a : Addr} {xs : List V} (h : H a = some (.tup xs)) : formV H (.ref a) = formB xs := by
  simp only [formV, h]
theorem formV_no {H : Hp} {v : V} {T : String} (k : Kn H v T) (h : isA T "tuple" = false) : formV H v = false := by
  cases k with
  | tup h1 => exact absurd h (by decide +kernel)
  | lst h1 => simp only [formV, h1]
  | _ => rfl
def spFormP (K : PySem.W.Frag) : Sp := fun vs H Q _ => ∃ v m, vs = [v] ∧ Deep m 1 H v ∧ Q (.bl (formV H v)) H
theorem ok_has_form {f : Addr} {fd : FuncData} (F : Fun K "_has_form" "_has_form" s_has_form f fd) (T : Txt K mg) (D_is_number : Def P w K mg base CX0 "is_number" 2 ["value", "least", "most"] spNumber) : FnOk P w K mg base CX0 3 f fd ["paint"] (spFormP K) := by
  refine F.ok sc_has_form (fun vs H Q E h => ?_) (fun cdv A outer s H vs Q E hr h => ?_)
  · obtain ⟨v, m, rfl, _⟩ := h
    rfl
  · obtain ⟨v, m, rfl, dp, q⟩ := h
    obtain ⟨T', kn⟩ := dp.kn
    refine ⟨_, (pss_cons (ps_if (pt_not (pt_val (pe_callB (kisi K) (by rfl) T.isinstance_ bt_isinstance (pa_cons (pv 0) (pa_cons (pe_bltn (v := .ty "tuple") (by rfl) T.tuple_ bt_tuple rfl) pa_nil)))))
        (pss_one (ps_ret pe_bl))
        pss_nil)
      (pss_one (ps_match (pv 0) (pcs_seq K rfl sc_has_form.nd (pms_word hr.units (pms_cap (i := 1) rfl (by first | exact Or.inl rfl | exact Or.inr rfl) pms_nil))
          (pss_one (ps_ret (pe_call D_is_number.ok (hr.mono (by decide)) rfl D_is_number.mgf D_is_number.kp D_is_number.b .nil pass0 (pa_cons (pv 1) (pa_cons pe_int (pa_cons (pe_glob (v := .int 255) rfl T.VALUE_MOST_.choose_spec ⟨_, rfl⟩) pa_nil))))))
          (pcs_seq K rfl sc_has_form.nd (pms_word hr.units (pms_wild pms_nil))
          (pss_one (ps_ret pe_bl))
          (pcs_seq K rfl sc_has_form.nd (pms_word hr.units (pms_cap (i := 2) rfl (by first | exact Or.inl rfl | exact Or.inr rfl) (pms_cap (i := 3) rfl (by first | exact Or.inl rfl | exact Or.inr rfl) (pms_cap (i := 4) rfl (by first | exact Or.inl rfl | exact Or.inr rfl) pms_nil))))
          (pss_cons (ps_set (i := 5) sc_has_form.nd rfl (by first | exact Or.inl rfl | exact Or.inr rfl) (pe_and (pe_call D_is_number.ok (hr.mono (by decide)) rfl D_is_number.mgf D_is_number.kp D_is_number.b .nil pass0 (pa_cons (pv 2) (pa_cons pe_int (pa_cons (pe_glob (v := .int 255) rfl T.VALUE_MOST_.choose_spec ⟨_, rfl⟩) pa_nil)))) (pe_one (pe_call D_is_number.ok (hr.mono (by decide)) rfl D_is_number.mgf D_is_number.kp D_is_number.b .nil pass0 (pa_cons (pv 3) (pa_cons pe_int (pa_cons (pe_glob (v := .int 255) rfl T.VALUE_MOST_.choose_spec ⟨_, rfl⟩) pa_nil)))))))
          (pss_one (ps_ret (pe_and (pv 5) (pe_one (pe_call D_is_number.ok (hr.mono (by decide)) rfl D_is_number.mgf D_is_number.kp D_is_number.b .nil pass0 (pa_cons (pv 4) (pa_cons pe_int (pa_cons (pe_glob (v := .int 12) rfl T.STEP_MOST_.choose_spec ⟨_, rfl⟩) pa_nil)))))))))
          (pcs_else (pss_one (ps_ret pe_bl))))))))), ?_⟩
    refine ⟨v, rfl, v, _, _, _, _, rfl, .ty _, kn.ty, kit_ty (kit_tuple kn), _, rfl, ?_⟩
    cases ct : isA T' "tuple" with
    | false =>
      rw [formV_no kn ct] at q
      exact iteT q
    | true =>
      obtain ⟨a, xs, rfl, ha⟩ := kn.asTup ct
      rw [formV_tup ha] at q
      refine iteF ?_
      have px := (dp.at ha).2
      refine ⟨_, rfl, a, xs, rfl, SqT.of ha, ?_⟩
      match xs, ha, px, q with
      | [w, x], ha, px, q =>
        obtain ⟨T0, k0⟩ := px w (by simp)
        obtain ⟨T1, k1⟩ := px x (by simp)
        refine lenY rfl ?_
        refine ⟨w, _, T0, rfl, k0, ?_⟩
        cases c : isW "solid" w with
        | true =>
          refine iteT ?_
          refine ⟨x, _, rfl, rfl, ?_⟩
          refine ⟨_, rfl, x, 0, 255, T1, rfl, k1, ?_⟩
          simp only [formB, c, if_true] at q
          exact q
        | false =>
          simp only [formB, c] at q
          refine iteF ?_
          refine ⟨a, _, rfl, SqT.of ha, lenY rfl ?_⟩
          refine ⟨w, _, T0, rfl, k0, ?_⟩
          cases c2 : isW "picture" w with
          | true =>
            rw [c2] at q
            refine iteT ?_
            exact ⟨x, _, rfl, rfl, q⟩
          | false =>
            rw [c2] at q
            refine iteF ?_
            exact ⟨a, _, rfl, SqT.of ha, lenN (by show 2 ≠ 4; decide) q⟩
      | [w, x, y, z], ha, px, q =>
        obtain ⟨T0, k0⟩ := px w (by simp)
        obtain ⟨T1, k1⟩ := px x (by simp)
        obtain ⟨T2, k2⟩ := px y (by simp)
        obtain ⟨T3, k3⟩ := px z (by simp)
        refine lenN (by show 4 ≠ 2; decide) ?_
        refine ⟨a, _, rfl, SqT.of ha, lenN (by show 4 ≠ 2; decide) ?_⟩
        refine ⟨a, _, rfl, SqT.of ha, lenY rfl ?_⟩
        refine ⟨w, _, T0, rfl, k0, ?_⟩
        cases c : isW "steps" w with
        | true =>
          simp only [formB, c, if_true] at q
          refine iteT ?_
          refine ⟨x, _, rfl, y, _, rfl, z, _, rfl, rfl, ?_⟩
          refine ⟨_, rfl, x, 0, 255, T1, rfl, k1, _, rfl, ?_⟩
          cases c1 : numIn 0 255 x with
          | false =>
            rw [c1, Bool.false_and, Bool.false_and] at q
            exact iteF ⟨_, rfl, _, rfl, iteF q⟩
          | true =>
            rw [c1, Bool.true_and] at q
            refine iteT ?_
            refine ⟨_, rfl, y, 0, 255, T2, rfl, k2, ?_⟩
            cases c2 : numIn 0 255 y with
            | false =>
              rw [c2, Bool.false_and] at q
              exact ⟨_, rfl, _, rfl, iteF q⟩
            | true =>
              rw [c2, Bool.true_and] at q
              refine ⟨_, rfl, _, rfl, iteT ?_⟩
              exact ⟨_, rfl, z, 1, 12, T3, rfl, k3, q⟩
        | false =>
          simp only [formB, c] at q
          refine iteF ?_
          exact q
      | [], ha, px, q =>
        exact lenN (by simp only [List.length_cons, List.length_nil]; omega) ⟨a, _, rfl, SqT.of ha, lenN (by simp only [List.length_cons, List.length_nil]; omega) ⟨a, _, rfl, SqT.of ha, lenN (by simp only [List.length_cons, List.length_nil]; omega) q⟩⟩
      | [_], ha, px, q =>
        exact lenN (by simp only [List.length_cons, List.length_nil]; omega) ⟨a, _, rfl, SqT.of ha, lenN (by simp only [List.length_cons, List.length_nil]; omega) ⟨a, _, rfl, SqT.of ha, lenN (by simp only [List.length_cons, List.length_nil]; omega) q⟩⟩
      | [_, _, _], ha, px, q =>
        exact lenN (by simp only [List.length_cons, List.length_nil]; omega) ⟨a, _, rfl, SqT.of ha, lenN (by simp only [List.length_cons, List.length_nil]; omega) ⟨a, _, rfl, SqT.of ha, lenN (by simp only [List.length_cons, List.length_nil]; omega) q⟩⟩
      | _ :: _ :: _ :: _ :: _ :: _, ha, px, q =>
        exact lenN (by simp only [List.length_cons, List.length_nil]; omega) ⟨a, _, rfl, SqT.of ha, lenN (by simp only [List.length_cons, List.length_nil]; omega) ⟨a, _, rfl, SqT.of ha, lenN (by simp only [List.length_cons, List.length_nil]; omega) q⟩⟩

/-- what a check says of a paint -/
inductive PO
  | fine
  | paint
  | pict (p : Option Nat)
def picItem (H : Hp) : V → Option V
  | .ref a => match H a with
    | some (.tup (w :: x :: _)) => if isW "picture" w then some x else none
    | _ => none
  | _ => none
def pO (H : Hp) (v : V) : PO := if formV H v = true then (match picItem H v with
  | some x => (match picO H x with
    | none => .fine
    | some p => .pict p)
  | none => .fine) else .paint
theorem isW_eq {w : Str} {v : V} (h : isW w v = true) : v = .str w := by
  cases v with
  | str x =>
    have h : (x == w) = true := h
    rw [← dec_str] at h
    exact of_decide_eq_true h
  | _ => cases h
theorem formV_ex {H H' : Hp} {v : V} {T : String} (e : Ex H H') (k : Kn H v T) : formV H' v = formV H v := by
  cases k with
  | tup h1 => rw [formV_tup h1, formV_tup (e _ _ h1)]
  | lst h1 => simp only [formV, h1, e _ _ h1]
  | _ => rfl
/-- a fine form: its items -/
theorem form_two {H : Hp} {v : V} (h : formV H v = true) : ∃ a w x ys, v = .ref a ∧ H a = some (.tup (w :: x :: ys)) := by
  cases v with
  | ref a =>
    cases e : H a with
    | none => simp only [formV, e] at h; cases h
    | some o =>
      cases o with
      | tup xs =>
        rw [formV_tup e] at h
        match xs, h with
        | w :: x :: ys, _ => exact ⟨a, w, x, ys, rfl, e⟩
        | [], h => exact absurd h (by decide)
        | [_], h => exact absurd (show false = true from h) (by decide)
      | _ => simp only [formV, e] at h; cases h
  | _ => cases h
theorem picItem_tup {H : Hp} {a : Addr} {w x : V} {ys : List V} (h : H a = some (.tup (w :: x :: ys))) : picItem H (.ref a) = if isW "picture" w then some x else none := by
  simp only [picItem, h]
theorem pO_bad {H : Hp} {v : V} (h : formV H v = false) : pO H v = .paint := by
  unfold pO
  rw [h]
  rfl
theorem pO_plain {H : Hp} {a : Addr} {w x : V} {ys : List V} (h : H a = some (.tup (w :: x :: ys))) (f : formV H (.ref a) = true) (c : isW "picture" w = false) : pO H (.ref a) = .fine := by
  unfold pO
  rw [f, picItem_tup h, c]
  rfl
theorem pO_pic {H : Hp} {a : Addr} {w x : V} {ys : List V} (h : H a = some (.tup (w :: x :: ys))) (f : formV H (.ref a) = true) (c : isW "picture" w = true) : pO H (.ref a) = match picO H x with
    | none => .fine
    | some p => .pict p := by
  unfold pO
  rw [f, picItem_tup h, c]
  rfl
theorem pO_ex {B n : Nat} {H H' : Hp} {v : V} (e : Ex H H') (d : DX B n H v) : pO H' v = pO H v := by
  obtain ⟨T, k⟩ := d.kn
  cases f : formV H v with
  | false => rw [pO_bad f, pO_bad ((formV_ex e k).trans f)]
  | true =>
    have f' := (formV_ex e k).trans f
    obtain ⟨a, w, x, ys, rfl, ha⟩ := form_two f
    cases c : isW "picture" w with
    | false => rw [pO_plain ha f c, pO_plain (e _ _ ha) f' c]
    | true => rw [pO_pic ha f c, pO_pic (e _ _ ha) f' c, picO_ex e (((d.items ha).2 x (by simp)).deep (k := 2))]
def outPL (v : V) : PO → List V
  | .fine => [.str "fine", .non]
  | .paint => [.str "paint", v]
  | .pict p => [.str "picture", plV p]
/-- told, or due: what a check says, as a tuple -/
def spToldP : Sp := fun vs H Q _ => ∃ v B n, vs = [v] ∧ DX B n H v ∧ B ≤ 400000 ∧ n ≤ 50 ∧ ∀ a H', Ex H H' → H' a = some (.tup (outPL v (pO H v))) → Q (.ref a) H'

abbrev s_check_picture : Stmt := top 11
theorem sc_check_picture : FnScope ["picture", "width", "height", "values", "covers"] ["picture"] (defScope s_check_picture) := ⟨rfl, rfl, rfl, by decide +kernel, rfl, by decide +kernel, by decide +kernel⟩
def spChk15 (C : Addr) : Sp := fun vs H Q E => ∃ v m, vs = [v] ∧ Deep m 2 H v ∧ m ≤ 500000 ∧ (∀ H', Ex H H' → picO H v = none → Q .non H') ∧
  ∀ p d H', H d = none → Ex H H' → picO H v = some p → H' d = some (errD "BadPicture" (plV p)) → E (.ref C) (some d) H'
theorem ok_check_picture {f : Addr} {fd : FuncData} (F : Fun K "check_picture" "check_picture" s_check_picture f fd) (T : Txt K mg) {C : Addr} (KB : KindOk P w K mg base "BadPicture" C) (D_is_number : Def P w K mg base CX0 "is_number" 2 ["value", "least", "most"] spNumber)
    (D_are_numbers : Def P w K mg base CX0 "_are_numbers" 3 ["items", "many", "most"] spNums) : FnOk P w K mg base (L2.CX P w) 4 f fd ["picture"] (spChk15 C) := by
  refine F.okX sc_check_picture (fun vs H Q E h => ?_) (fun cdv A outer s H vs Q E hr h => ?_)
  · obtain ⟨v, m, rfl, _⟩ := h
    rfl
  · obtain ⟨v, m, rfl, dp, lm, qN, qE⟩ := h
    obtain ⟨fC, KT, fdC, GC, ⟨ds, hds, bC⟩, bA⟩ := KB
    obtain ⟨T', kn⟩ := dp.kn
    refine ⟨_, (pss_cons (ps_if (PW.pt (pw_or (pt_not (pt_val (pe_callB (kisi K) (by rfl) T.isinstance_ bt_isinstance (pa_cons (pv 0) (pa_cons (pe_bltn (v := .ty "tuple") (by rfl) T.tuple_ bt_tuple rfl) pa_nil))))) (pw_or1 (pt_cmpR op_ne (pe_callB (klen K) (by rfl) T.len_ PySem.boot_len (pa_cons (pv 0) pa_nil)) pe_int (nomark _)))))
        (pss_one (ps_raise rfl (takes_of rfl rfl rfl rfl) (pmk_none KT.T KT.iC KT.tI GC (hr.mono (by decide)) bC hds pass0 rfl KT.g)))
        pss_nil)
      (pss_cons (ps_asg (pv 0) (kpgT K (n := 4) rfl (pgs_cons (pg_name (i := 1) sc_check_picture.nd rfl (by first | exact Or.inl rfl | exact Or.inr rfl)) (pgs_cons (pg_name (i := 2) sc_check_picture.nd rfl (by first | exact Or.inl rfl | exact Or.inr rfl)) (pgs_cons (pg_name (i := 3) sc_check_picture.nd rfl (by first | exact Or.inl rfl | exact Or.inr rfl)) (pgs_cons (pg_name (i := 4) sc_check_picture.nd rfl (by first | exact Or.inl rfl | exact Or.inr rfl)) pgs_nil))))))
      (pss_cons (ps_if (pt_not (pt_val (pe_call D_is_number.ok (hr.mono (by decide)) rfl D_is_number.mgf D_is_number.kp D_is_number.b .nil pass0 (pa_cons (pv 1) (pa_cons pe_int (pa_cons (pe_glob (v := .int 12) rfl T.PICTURE_SIDE_MOST_.choose_spec ⟨_, rfl⟩) pa_nil))))))
        (pss_one (ps_raise rfl (takes_of rfl rfl rfl rfl) (pmk_oex KT.T KT.iC KT.tI GC (hr.mono (by decide)) bA .nil pass0 rfl KT.g (pa_cons pe_int pa_nil))))
        pss_nil)
      (pss_cons (ps_if (pt_not (pt_val (pe_call D_is_number.ok (hr.mono (by decide)) rfl D_is_number.mgf D_is_number.kp D_is_number.b .nil pass0 (pa_cons (pv 2) (pa_cons pe_int (pa_cons (pe_glob (v := .int 12) rfl T.PICTURE_SIDE_MOST_.choose_spec ⟨_, rfl⟩) pa_nil))))))
        (pss_one (ps_raise rfl (takes_of rfl rfl rfl rfl) (pmk_oex KT.T KT.iC KT.tI GC (hr.mono (by decide)) bA .nil pass0 rfl KT.g (pa_cons pe_int pa_nil))))
        pss_nil)
      (pss_cons (ps_if (pt_not (pt_val (pe_call D_are_numbers.ok (hr.mono (by decide)) rfl D_are_numbers.mgf D_are_numbers.kp D_are_numbers.b .nil pass0 (pa_cons (pv 3) (pa_cons (pe_op op_mul (pv 1) (pv 2)) (pa_cons (pe_glob (v := .int 255) rfl T.VALUE_MOST_.choose_spec ⟨_, rfl⟩) pa_nil))))))
        (pss_one (ps_raise rfl (takes_of rfl rfl rfl rfl) (pmk_oex KT.T KT.iC KT.tI GC (hr.mono (by decide)) bA .nil pass0 rfl KT.g (pa_cons pe_int pa_nil))))
        pss_nil)
      (pss_one (ps_if (pt_not (pt_val (pe_call D_are_numbers.ok (hr.mono (by decide)) rfl D_are_numbers.mgf D_are_numbers.kp D_are_numbers.b .nil pass0 (pa_cons (pv 4) (pa_cons (pe_op op_mul (pv 1) (pv 2)) (pa_cons (pe_glob (v := .int 256) rfl T.COVER_MOST_.choose_spec ⟨_, rfl⟩) pa_nil))))))
        (pss_one (ps_raise rfl (takes_of rfl rfl rfl rfl) (pmk_oex KT.T KT.iC KT.tI GC (hr.mono (by decide)) bA .nil pass0 rfl KT.g (pa_cons pe_int pa_nil))))
        pss_nil))))))), ?_⟩
    refine ⟨v, rfl, v, _, _, _, _, rfl, .ty _, kn.ty, kit_ty (kit_tuple kn), _, rfl, ?_⟩
    cases ct : isA T' "tuple" with
    | false =>
      refine iteT (iteT ?_)
      exact ⟨by decide, fun b hb => kind_made KT hb fun d H' h1 h2 h3 => qE none d H' h1 h2 (picO_no kn ct) h3⟩
    | true =>
      obtain ⟨a, xs, rfl, ha⟩ := kn.asTup ct
      refine iteF ?_
      refine ⟨_, rfl, a, xs, rfl, .inr (SqT.of ha), rfl, _, rfl, ?_⟩
      by_cases h4 : xs.length = 4
      · refine iteDn (congrArg V.int (by omega)) ?_
        match xs, h4, ha with
        | [x0, x1, x2, x3], _, ha =>
          have px := (dp.at ha).2
          obtain ⟨T0, k0⟩ := (px x0 (by simp)).kn
          obtain ⟨T1, k1⟩ := (px x1 (by simp)).kn
          have d2 := px x2 (by simp)
          have d3 := px x3 (by simp)
          have ep := picO_four ha
          unfold fourO at ep
          have bad : ∀ (i : Nat) (H1 : Hp), Ex H H1 → picO H (.ref a) = some (some i) → ∀ b, H1 b = none → spKind K "BadPicture" [.ref b, .int (i : Nat)] (upd H1 b (exo b C none)) (fun v H2 => v = .non ∧ ∃ (d : Addr) (fs : List (Str × V)), H2 b = some (exo b C (some d)) ∧ H2 d = some (exd d fs) ∧ H1 d = none ∧ E (.ref C) (some d) (upd (del H2 b) d (.xd fs))) (fun _ _ _ => False) := fun i H1 e1 hp b hb =>
            kind_made KT hb fun d H' h1 h2 h3 => qE (some i) d H' (ex_free e1 h1) (e1.trans h2) hp h3
          refine ⟨_, rfl, a, _, rfl, SqT.of ha, rfl, _, _, rfl, _, _, rfl, _, _, rfl, _, _, rfl, rfl, ?_⟩
          refine ⟨_, rfl, x0, _, _, _, rfl, k0, _, rfl, ?_⟩
          cases c0 : numIn 1 12 x0 with
          | false =>
            rw [c0] at ep
            refine iteT ?_
            exact ⟨(by show 1 ≤ 1000; decide), bad 0 H (Ex.refl _) ep⟩
          | true =>
            rw [c0] at ep
            refine iteF ?_
            refine ⟨_, rfl, x1, _, _, _, rfl, k1, _, rfl, ?_⟩
            cases c1 : numIn 1 12 x1 with
            | false =>
              rw [c1] at ep
              refine iteT ?_
              exact ⟨(by show 1 ≤ 1000; decide), bad 1 H (Ex.refl _) ep⟩
            | true =>
              rw [c1] at ep
              refine iteF ?_
              cases x0 with
              | int wd =>
                cases x1 with
                | int hg =>
                  have c0 : (decide (1 ≤ wd) && decide (wd ≤ 12)) = true := c0
                  rw [Bool.and_eq_true] at c0
                  have w1 := of_decide_eq_true c0.1
                  have w2 := of_decide_eq_true c0.2
                  have ep : picO H (.ref a) = if numsV H (wd * hg) 255 x2 = true then if numsV H (wd * hg) 256 x3 = true then none else some (some 3) else some (some 2) := ep
                  refine ⟨_, rfl, _, rfl, _, rfl, _, _, rfl, rfl, .inl ⟨by omega, by omega⟩, x2, _, _, rfl, d2.itm lm, fun H1 e1 => ⟨_, rfl, ?_⟩⟩
                  cases c2 : numsV H (wd * hg) 255 x2 with
                  | false =>
                    rw [c2] at ep
                    refine iteT ?_
                    exact ⟨(by show 1 ≤ 1000; decide), bad 2 H1 e1 ep⟩
                  | true =>
                    rw [c2] at ep
                    refine iteF ?_
                    refine ⟨_, rfl, _, rfl, _, rfl, _, _, rfl, rfl, .inl ⟨by omega, by omega⟩, x3, _, _, rfl, (d3.ex e1).itm lm, fun H2 e2 => ⟨_, rfl, ?_⟩⟩
                    obtain ⟨T3, k3⟩ := d3.kn
                    rw [numsV_ex e1 k3]
                    cases c3 : numsV H (wd * hg) 256 x3 with
                    | false =>
                      rw [c3] at ep
                      refine iteT ?_
                      exact ⟨(by show 1 ≤ 1000; decide), bad 3 H2 (e1.trans e2) ep⟩
                    | true =>
                      rw [c3] at ep
                      refine iteF ?_
                      exact qN H2 (e1.trans e2) ep
                | _ => cases c1
              | _ => cases c0
      · refine iteNn (fun z => h4 (by have := V.int.inj z; omega)) ?_
        exact ⟨by decide, fun b hb => kind_made KT hb fun d H' h1 h2 h3 => qE none d H' h1 h2 (picO_len ha h4) h3⟩

abbrev s_check_paint : Stmt := top 18
theorem sc_check_paint : FnScope ["paint"] ["paint"] (defScope s_check_paint) := ⟨rfl, rfl, rfl, by decide +kernel, rfl, by decide +kernel, by decide +kernel⟩
def spChkP (C1 C2 : Addr) : Sp := fun vs H Q E => ∃ v B n, vs = [v] ∧ DX B n H v ∧ B ≤ 400000 ∧ (∀ H', Ex H H' → pO H v = .fine → Q .non H') ∧ (∀ d H', H d = none → Ex H H' → pO H v = .paint → H' d = some (errD "BadPaint" v) → E (.ref C1) (some d) H') ∧
  ∀ p d H', H d = none → Ex H H' → pO H v = .pict p → H' d = some (errD "BadPicture" (plV p)) → E (.ref C2) (some d) H'
theorem ok_check_paint {f : Addr} {fd : FuncData} (F : Fun K "check_paint" "check_paint" s_check_paint f fd) (T : Txt K mg) {C C2 : Addr} (KB : KindOk P w K mg base "BadPaint" C) (D_has_form : Def P w K mg base CX0 "_has_form" 3 ["paint"] (spFormP K))
    (D_check_picture : Def P w K mg base (L2.CX P w) "check_picture" 4 ["picture"] (spChk15 C2)) : FnOk P w K mg base (L2.CX P w) 5 f fd ["paint"] (spChkP C C2) := by
  refine F.okX sc_check_paint (fun vs H Q E h => ?_) (fun cdv A outer s H vs Q E hr h => ?_)
  · obtain ⟨v, B, n, rfl, _⟩ := h
    rfl
  · obtain ⟨v, B, n, rfl, dx, hB, qN, qE, qP⟩ := h
    obtain ⟨fC, KT, fdC, GC, ⟨ds, hds, bC⟩, bA⟩ := KB
    refine ⟨_, (pss_cons (ps_if (pt_not (pt_val (pe_call D_has_form.ok (hr.mono (by decide)) rfl D_has_form.mgf D_has_form.kp D_has_form.b .nil pass0 (pa_cons (pv 0) pa_nil))))
        (pss_one (ps_raise rfl (takes_of rfl rfl rfl rfl) (pmk_oex KT.T KT.iC KT.tI GC (hr.mono (by decide)) bA .nil pass0 rfl KT.g (pa_cons (pv 0) pa_nil))))
        pss_nil)
      (pss_one (ps_if (pt_cmpR (keqW hr.units) (pe_ix (kixT K) (pv 0) pe_int (fun _ _ => rfl)) pe_str (nomark _))
        (pss_one (ps_expr (pe_call D_check_picture.ok (hr.mono (by decide)) rfl D_check_picture.mgf D_check_picture.kp D_check_picture.b .nil (passes_call (takes_of rfl rfl rfl rfl) fun _ _ _ _ z => z) (pa_cons (pe_ix (kixT K) (pv 0) pe_int (fun _ _ => rfl)) pa_nil))))
        pss_nil))), ?_⟩
    refine ⟨_, rfl, v, _, rfl, dx.deep, _, rfl, ?_⟩
    cases c : formV H v with
    | false =>
      refine iteT ?_
      exact ⟨_, rfl, (by show 1 ≤ 1000; decide), fun b hb => kind_made KT hb fun d H' h1 h2 h3 => qE d H' h1 h2 (pO_bad c) h3⟩
    | true =>
      refine iteF ?_
      obtain ⟨a, w, x, ys, rfl, ha⟩ := form_two c
      have px := (dx.items ha).2
      obtain ⟨T0, k0⟩ := (px w (by simp)).kn
      refine ⟨_, rfl, a, _, 0, w, rfl, rfl, SqT.of ha, atI_nat (show (w :: x :: ys)[0]? = some w from rfl), T0, "picture", k0, rfl, _, rfl, ?_⟩
      cases c1 : isW "picture" w with
      | false => exact iteF (qN H (Ex.refl _) (pO_plain ha c c1))
      | true =>
        have ep := pO_pic ha c c1
        refine iteT ?_
        refine ⟨_, rfl, a, _, 1, x, rfl, rfl, SqT.of ha, atI_nat (show (w :: x :: ys)[1]? = some x from rfl), x, B, rfl, (px x (by simp)).deepB, by omega, fun H' e m => qN H' e (by rw [ep, m]), fun p d H' h1 e m h3 => qP p d H' h1 e (by rw [ep, m]) h3⟩

abbrev s_l_is_paint : Stmt := top 30
theorem sc_l_is_paint : FnScope ["paint"] ["paint"] (defScope s_l_is_paint) := ⟨rfl, rfl, rfl, by decide +kernel, rfl, by decide +kernel, by decide +kernel⟩
def spIsPaint : Sp := fun vs H Q _ => ∃ v B n, vs = [v] ∧ DX B n H v ∧ n ≤ 50 ∧ Q (.bl (formV H v)) H
theorem ok_l_is_paint {f : Addr} {fd : FuncData} (F : Fun K "_law_is_paint" "_law_is_paint" s_l_is_paint f fd) (T : Txt K mg) (D_l_count : Def P w K mg base CX0 "_law_count" 1 ["value", "least", "most"] spNumber) : FnOk P w K mg base CX0 2 f fd ["paint"] spIsPaint := by
  refine F.ok sc_l_is_paint (fun vs H Q E h => ?_) (fun cdv A outer s H vs Q E hr h => ?_)
  · obtain ⟨v, B, n, rfl, _⟩ := h
    rfl
  · obtain ⟨v, B, n, rfl, dx, n50, q⟩ := h
    obtain ⟨T', kn⟩ := dx.kn
    refine ⟨_, (pss_cons (ps_if (PW.pt (pw_or (pt_not (pt_val (pe_callB (kisi K) (by rfl) T.isinstance_ bt_isinstance (pa_cons (pv 0) (pa_cons (pe_bltn (v := .ty "tuple") (by rfl) T.tuple_ bt_tuple rfl) pa_nil))))) (pw_or1 (pt_cmpR op_eq (pe_callB (klen K) (by rfl) T.len_ PySem.boot_len (pa_cons (pv 0) pa_nil)) pe_int (nomark _)))))
        (pss_one (ps_ret pe_bl))
        pss_nil)
      (pss_cons (ps_if (pt_cmpR (keqW hr.units) (pe_ix (kixT K) (pv 0) pe_int (fun _ _ => rfl)) pe_str (nomark _))
        (pss_one (ps_ret (pe_cmpR op_eq (pe_callB (klen K) (by rfl) T.len_ PySem.boot_len (pa_cons (pv 0) pa_nil)) pe_int (nomark _))))
        pss_nil)
      (pss_cons (ps_if (pt_cmpR (keqW hr.units) (pe_ix (kixT K) (pv 0) pe_int (fun _ _ => rfl)) pe_str (nomark _))
        (pss_one (ps_ret (pe_and (pe_cmpR op_eq (pe_callB (klen K) (by rfl) T.len_ PySem.boot_len (pa_cons (pv 0) pa_nil)) pe_int (nomark _)) (pe_one (pe_call D_l_count.ok (hr.mono (by decide)) rfl D_l_count.mgf D_l_count.kp D_l_count.b .nil pass0 (pa_cons (pe_ix (kixT K) (pv 0) pe_int (fun _ _ => rfl)) (pa_cons pe_int (pa_cons pe_int pa_nil))))))))
        pss_nil)
      (pss_cons (ps_if (PW.pt (pw_or (pt_cmpR (kneD K hr.units) (pe_ix (kixT K) (pv 0) pe_int (fun _ _ => rfl)) pe_str (nomark _)) (pw_or1 (pt_cmpR op_ne (pe_callB (klen K) (by rfl) T.len_ PySem.boot_len (pa_cons (pv 0) pa_nil)) pe_int (nomark _)))))
        (pss_one (ps_ret pe_bl))
        pss_nil)
      (pss_one (ps_ret (pe_and (pe_call D_l_count.ok (hr.mono (by decide)) rfl D_l_count.mgf D_l_count.kp D_l_count.b .nil pass0 (pa_cons (pe_ix (kixT K) (pv 0) pe_int (fun _ _ => rfl)) (pa_cons pe_int (pa_cons pe_int pa_nil)))) (pe_and (pe_call D_l_count.ok (hr.mono (by decide)) rfl D_l_count.mgf D_l_count.kp D_l_count.b .nil pass0 (pa_cons (pe_ix (kixT K) (pv 0) pe_int (fun _ _ => rfl)) (pa_cons pe_int (pa_cons pe_int pa_nil)))) (pe_one (pe_call D_l_count.ok (hr.mono (by decide)) rfl D_l_count.mgf D_l_count.kp D_l_count.b .nil pass0 (pa_cons (pe_ix (kixT K) (pv 0) pe_int (fun _ _ => rfl)) (pa_cons pe_int (pa_cons pe_int pa_nil))))))))))))), ?_⟩
    refine ⟨v, rfl, v, _, _, _, _, rfl, .ty _, kn.ty, kit_ty (kit_tuple kn), _, rfl, ?_⟩
    cases ct : isA T' "tuple" with
    | false =>
      rw [formV_no kn ct] at q
      exact iteT (iteT q)
    | true =>
      obtain ⟨a, xs, rfl, ha⟩ := kn.asTup ct
      rw [formV_tup ha] at q
      refine iteF ?_
      have px := (dx.items ha).2
      refine ⟨_, rfl, a, xs, rfl, .inr (SqT.of ha), rfl, _, rfl, ?_⟩
      match xs, ha, px, q with
      | [], ha, px, q => exact iteD rfl q
      | w :: xs, ha, px, q =>
        refine iteN (fun z => by have := V.int.inj z; rw [List.length_cons] at this; omega) ?_
        obtain ⟨dw, hdw, _, depw, layw⟩ := px w (by simp)
        obtain ⟨T0, k0⟩ := da_kn hdw
        have at0 : atI (w :: xs) 0 = some w := atI_nat (show (w :: xs)[0]? = some w from rfl)
        refine ⟨_, rfl, a, _, 0, w, rfl, rfl, SqT.of ha, at0, T0, "picture", k0, rfl, _, rfl, ?_⟩
        cases c : isW "picture" w with
        | true =>
          obtain rfl := isW_eq c
          have ns : isW "solid" (.str "picture") = false := by decide +kernel
          have nt : isW "steps" (.str "picture") = false := by decide +kernel
          refine iteT ?_
          refine ⟨_, rfl, a, _, rfl, .inr (SqT.of ha), rfl, ?_⟩
          match xs, ha, px, q with
          | [x], ha, px, q =>
            rw [decide_eq_true (show V.int (([V.str "picture", x] : List V).length : Int) = .int 2 from rfl)]
            simp only [formB, ns, c] at q
            exact q
          | [], ha, px, q =>
            rw [decide_eq_false (show ¬ V.int (([V.str "picture"] : List V).length : Int) = .int 2 from fun z => by cases z)]
            exact q
          | [_, _], ha, px, q =>
            rw [decide_eq_false (fun z => by cases z)]
            exact q
          | [_, _, _], ha, px, q =>
            rw [decide_eq_false (fun z => by cases z)]
            simp only [formB, nt] at q
            exact q
          | _ :: _ :: _ :: _ :: _, ha, px, q =>
            rw [decide_eq_false (fun z => by have := V.int.inj z; simp only [List.length_cons] at this; omega)]
            exact q
        | false =>
          refine iteF ?_
          refine ⟨_, rfl, a, _, 0, w, rfl, rfl, SqT.of ha, at0, T0, "solid", k0, rfl, _, rfl, ?_⟩
          cases c2 : isW "solid" w with
          | true =>
            obtain rfl := isW_eq c2
            have nt : isW "steps" (.str "solid") = false := by decide +kernel
            refine iteT ?_
            refine ⟨_, rfl, a, _, rfl, .inr (SqT.of ha), rfl, _, rfl, ?_⟩
            match xs, ha, px, q with
            | [x], ha, px, q =>
              refine iteD rfl ?_
              obtain ⟨T1, k1⟩ := (px x (by simp)).kn
              simp only [formB, c2] at q
              exact ⟨_, rfl, a, _, 1, x, rfl, rfl, SqT.of ha, rfl, x, 0, 255, T1, rfl, k1, q⟩
            | [], ha, px, q => exact iteN (fun z => by cases z) q
            | [_, _], ha, px, q => exact iteN (fun z => by cases z) q
            | [_, _, _], ha, px, q =>
              simp only [formB, nt] at q
              exact iteN (fun z => by cases z) q
            | _ :: _ :: _ :: _ :: _, ha, px, q =>
              exact iteN (fun z => by have := V.int.inj z; simp only [List.length_cons] at this; omega) q
          | false =>
            refine iteF ?_
            refine ⟨_, rfl, a, _, 0, w, rfl, rfl, SqT.of ha, at0, dw, .str "steps", hdw.dp, .str _, shaped_of layw (by omega), (by decide +kernel), _, rfl, ?_⟩
            rw [eqv_w hdw]
            cases c3 : isW "steps" w with
            | false =>
              refine iteT (iteT ?_)
              match xs, q with
              | [], q => exact q
              | [x], q => simp only [formB, c, c2] at q; exact q
              | [_, _], q => exact q
              | [_, _, _], q => simp only [formB, c3] at q; exact q
              | _ :: _ :: _ :: _ :: _, q => exact q
            | true =>
              refine iteF ?_
              refine ⟨_, rfl, a, _, rfl, .inr (SqT.of ha), rfl, _, rfl, ?_⟩
              match xs, ha, px, q with
              | [x, y, z], ha, px, q =>
                refine iteDn rfl ?_
                obtain ⟨T1, k1⟩ := (px x (by simp)).kn
                obtain ⟨T2, k2⟩ := (px y (by simp)).kn
                obtain ⟨T3, k3⟩ := (px z (by simp)).kn
                simp only [formB, c3, if_true] at q
                refine ⟨_, rfl, a, _, 1, x, rfl, rfl, SqT.of ha, rfl, x, 0, 255, T1, rfl, k1, _, rfl, ?_⟩
                cases c4 : numIn 0 255 x with
                | false =>
                  rw [c4] at q
                  exact iteF q
                | true =>
                  rw [c4, Bool.true_and] at q
                  refine iteT ?_
                  refine ⟨_, rfl, a, _, 2, y, rfl, rfl, SqT.of ha, rfl, y, 0, 255, T2, rfl, k2, _, rfl, ?_⟩
                  cases c5 : numIn 0 255 y with
                  | false =>
                    rw [c5] at q
                    exact iteF q
                  | true =>
                    rw [c5, Bool.true_and] at q
                    refine iteT ?_
                    exact ⟨_, rfl, a, _, 3, z, rfl, rfl, SqT.of ha, rfl, z, 1, 12, T3, rfl, k3, q⟩
              | [], ha, px, q => exact iteNn (fun z => by cases z) q
              | [x], ha, px, q =>
                simp only [formB, c, c2] at q
                exact iteNn (fun z => by cases z) q
              | [_, _], ha, px, q => exact iteNn (fun z => by cases z) q
              | _ :: _ :: _ :: _ :: _, ha, px, q =>
                exact iteNn (fun z => by have := V.int.inj z; simp only [List.length_cons] at this; omega) q

abbrev s_l_told : Stmt := top 31
theorem sc_l_told : FnScope ["paint", "answer", "e"] ["paint"] (defScope s_l_told) := ⟨rfl, rfl, rfl, by decide +kernel, rfl, by decide +kernel, by decide +kernel⟩
theorem ok_l_told {f : Addr} {fd : FuncData} (F : Fun K "_law_told" "_law_told" s_l_told f fd) (T : Txt K mg) {C C2 : Addr} (KB : KindOk P w K mg base "BadPaint" C) (KB2 : KindOk P w K mg base "BadPicture" C2) (IV : IsV K C) (I1 : IsK K mg C "FilmError" true) (I2 : IsK K mg C "BadPicture" false)
    (XN : PySem.W.exmOne K (.ref C2) (.ref C) = some false) (D_check_paint : Def P w K mg base (L2.CX P w) "check_paint" 5 ["paint"] (spChkP C C2)) : FnOk P w K mg base CX0 6 f fd ["paint"] spToldP := by
  refine F.ok sc_l_told (fun vs H Q E h => ?_) (fun cdv A outer s H vs Q E hr h => ?_)
  · obtain ⟨v, B, n, rfl, _⟩ := h
    rfl
  · obtain ⟨v, B, n, rfl, dx, hB, _, q⟩ := h
    obtain ⟨fC, KT_BadPaint, fdC, GC, _, _⟩ := KB
    obtain ⟨fC2, KT_BadPicture, fdC2, GC2, _, _⟩ := KB2
    obtain ⟨E_FilmError, m_FilmError, k_FilmError⟩ := I1
    obtain ⟨E_BadPicture, m_BadPicture, k_BadPicture⟩ := I2
    refine ⟨_, (pss_cons (ps_try_manyAs rfl rfl sc_l_told.nd takes0 (fun W pn xe tk _ => (pss_one (ps_set (i := 1) sc_l_told.nd rfl (by first | exact Or.inl rfl | exact Or.inr rfl) (pe_callS D_check_paint.ok (hr.mono (by decide)) rfl D_check_paint.mgf D_check_paint.kp D_check_paint.b (fun σ => passAt tk σ) (pa_cons (pv 0) pa_nil))))) (.cons (i := 2) rfl rfl ⟨rfl, by decide, .inl KT_BadPaint.g⟩ (fun a oe cls d pn hz hf => (pss_cons (ps_if (PW.pt (pw_or (pt_not (pt_val (pe_callB (call_isED hz hf K) (by rfl) T.isinstance_ bt_isinstance (pa_cons (pv 2) (pa_cons (pe_glob (v := .ref E_FilmError) rfl m_FilmError rfl) pa_nil))))) (pw_or1 (pt_val (pe_callB (call_isED hz hf K) (by rfl) T.isinstance_ bt_isinstance (pa_cons (pv 2) (pa_cons (pe_glob (v := .ref E_BadPicture) rfl m_BadPicture rfl) pa_nil)))))))
          (pss_one (ps_ret (pe_tup (pa_cons pe_str (pa_cons pe_non pa_nil)))))
          pss_nil)
        (pss_one (ps_ret (pe_tup (pa_cons pe_str (pa_cons (pe_xf KT_BadPaint.xf KT_BadPaint.noP hz hf (pv 2)) pa_nil))))))) (.cons (i := 2) rfl rfl ⟨rfl, by decide, .inl KT_BadPicture.g⟩ (fun a oe cls d pn hz hf => (pss_one (ps_ret (pe_tup (pa_cons pe_str (pa_cons (pe_xf KT_BadPicture.xf KT_BadPicture.noP hz hf (pv 2)) pa_nil)))))) .nil)))
      (pss_one (ps_ret (pe_tup (pa_cons pe_str (pa_cons (pv 1) pa_nil)))))), ?_⟩
    refine ⟨_, rfl, v, B, n, rfl, dx, hB, fun H1 e1 m => ?_, fun d H1 h1 e1 m h3 => ?_, fun p d H1 h1 e1 m h3 => ?_⟩
    · rw [m] at q
      refine ⟨_, rfl, (by show 2 ≤ sizeLine; decide), fun t ht => ?_⟩
      exact q t _ (e1.trans (Ex.new ht)) upd_same
    · rw [m] at q
      refine ⟨true, KT_BadPaint.te, fun _ b hb => ?_, fun z => Bool.noConfusion z⟩
      refine ⟨_, rfl, C, d, _, .ref E_FilmError, .ref E_FilmError, true, rfl, rfl, h3, IV.ec, IV.ic, rfl, fun u r => r, k_FilmError, _, rfl, ?_⟩
      refine iteF ?_
      refine ⟨_, rfl, C, d, _, .ref E_BadPicture, .ref E_BadPicture, false, rfl, rfl, h3, IV.ec, IV.ic, rfl, fun u r => r, k_BadPicture, _, rfl, ?_⟩
      refine iteF ?_
      refine ⟨_, rfl, rfl, rfl, d, _, v, rfl, h3, rfl, (by show 2 ≤ sizeLine; decide), fun t ht => ?_⟩
      exact q t _ (e1.trans (Ex.new ht)) upd_same
    · rw [m] at q
      refine ⟨false, XN, fun z => Bool.noConfusion z, fun _ => ⟨true, KT_BadPicture.te, fun _ b hb => ?_, fun z => Bool.noConfusion z⟩⟩
      refine ⟨_, rfl, rfl, rfl, d, _, plV p, rfl, h3, rfl, (by show 2 ≤ sizeLine; decide), fun t ht => ?_⟩
      exact q t _ (e1.trans (Ex.new ht)) upd_same

abbrev s_l_due : Stmt := top 32
theorem sc_l_due : FnScope ["paint", "e"] ["paint"] (defScope s_l_due) := ⟨rfl, rfl, rfl, by decide +kernel, rfl, by decide +kernel, by decide +kernel⟩
theorem ok_l_due {f : Addr} {fd : FuncData} (F : Fun K "_law_due" "_law_due" s_l_due f fd) (T : Txt K mg) {C2 : Addr} (KB2 : KindOk P w K mg base "BadPicture" C2) (D_l_is_paint : Def P w K mg base CX0 "_law_is_paint" 2 ["paint"] spIsPaint)
    (D_check_picture : Def P w K mg base (L2.CX P w) "check_picture" 4 ["picture"] (spChk15 C2)) : FnOk P w K mg base CX0 5 f fd ["paint"] spToldP := by
  refine F.ok sc_l_due (fun vs H Q E h => ?_) (fun cdv A outer s H vs Q E hr h => ?_)
  · obtain ⟨v, B, n, rfl, _⟩ := h
    rfl
  · obtain ⟨v, B, n, rfl, dx, hB, n50, q⟩ := h
    obtain ⟨fC, KT, fdC, GC, _, _⟩ := KB2
    refine ⟨_, (pss_cons (ps_if (pt_not (pt_val (pe_call D_l_is_paint.ok (hr.mono (by decide)) rfl D_l_is_paint.mgf D_l_is_paint.kp D_l_is_paint.b .nil pass0 (pa_cons (pv 0) pa_nil))))
        (pss_one (ps_ret (pe_tup (pa_cons pe_str (pa_cons (pv 0) pa_nil)))))
        pss_nil)
      (pss_cut (ps_if (pt_cmpR (keqW hr.units) (pe_ix (kixT K) (pv 0) pe_int (fun _ _ => rfl)) pe_str (nomark _))
        (pss_one (ps_try_as (i := 1) rfl rfl sc_l_due.nd rfl rfl ⟨rfl, by decide, .inl KT.g⟩ takes0 (fun W pn xe tk _ => (pss_one (ps_expr (pe_callS D_check_picture.ok (hr.mono (by decide)) rfl D_check_picture.mgf D_check_picture.kp D_check_picture.b (fun σ => passAt tk σ) (pa_cons (pe_ix (kixT K) (pv 0) pe_int (fun _ _ => rfl)) pa_nil))))) (fun a oe cls d pn hz hf => (pss_one (ps_ret (pe_tup (pa_cons pe_str (pa_cons (pe_xf KT.xf KT.noP hz hf (pv 1)) pa_nil))))))))
        pss_nil)
      (pss_one (ps_ret (pe_tup (pa_cons pe_str (pa_cons pe_non pa_nil))))))), ?_⟩
    refine ⟨_, rfl, v, B, n, rfl, dx, n50, _, rfl, ?_⟩
    cases c : formV H v with
    | false =>
      refine iteT ?_
      rw [pO_bad c] at q
      refine ⟨_, rfl, (by show 2 ≤ sizeLine; decide), fun t ht => ?_⟩
      exact q t _ (Ex.new ht) upd_same
    | true =>
      refine iteF ?_
      obtain ⟨a, w, x, ys, rfl, ha⟩ := form_two c
      have px := (dx.items ha).2
      obtain ⟨T0, k0⟩ := (px w (by simp)).kn
      refine ⟨fun σ H' => Ex H H' ∧ pO H (.ref a) = .fine, ?_, ?_⟩
      · refine ⟨_, rfl, a, _, 0, w, rfl, rfl, SqT.of ha, atI_nat (show (w :: x :: ys)[0]? = some w from rfl), T0, "picture", k0, rfl, _, rfl, ?_⟩
        cases c1 : isW "picture" w with
        | false => exact iteF ⟨Ex.refl _, pO_plain ha c c1⟩
        | true =>
          have ep := pO_pic ha c c1
          refine iteT ?_
          refine ⟨_, rfl, a, _, 1, x, rfl, rfl, SqT.of ha, atI_nat (show (w :: x :: ys)[1]? = some x from rfl), x, B, rfl, (px x (by simp)).deepB, by omega, fun H' e m => ⟨e, by rw [ep, m]⟩, fun p d H1 h1 e1 m h3 => ?_⟩
          rw [m] at ep
          rw [ep] at q
          refine ⟨true, KT.te, fun _ b hb => ?_, fun z => Bool.noConfusion z⟩
          refine ⟨_, rfl, rfl, rfl, d, _, plV p, rfl, h3, rfl, (by show 2 ≤ sizeLine; decide), fun t ht => ?_⟩
          exact q t _ (e1.trans (Ex.new ht)) upd_same
      · rintro σ H1 ⟨e1, m⟩
        rw [m] at q
        refine ⟨(by show 2 ≤ sizeLine; decide), fun t ht => ?_⟩
        exact q t _ (e1.trans (Ex.new ht)) upd_same

abbrev s_is_name : Stmt := top 17
theorem sc_is_name : FnScope ["value", "letter"] ["value"] (defScope s_is_name) := ⟨rfl, rfl, rfl, by decide +kernel, rfl, by decide +kernel, by decide +kernel⟩
def spIsName : Sp := fun vs H Q _ => ∃ v T, vs = [v] ∧ Kn H v T ∧ (∀ z, v = .str z → z.length ≤ 1000) ∧ ∀ H', Ex H H' → Q (.bl (nameV v)) H'
theorem ok_is_name {f : Addr} {fd : FuncData} (F : Fun K "is_name" "is_name" s_is_name f fd) (T : Txt K mg) : FnOk P w K mg base CX0 1 f fd ["value"] spIsName := by
  refine F.ok sc_is_name (fun vs H Q E h => ?_) (fun cdv A outer s H vs Q E hr h => ?_)
  · obtain ⟨v, T, rfl, _⟩ := h
    rfl
  · obtain ⟨v, T', rfl, kn, hz, q⟩ := h
    refine ⟨_, (pss_cons (ps_if (PW.pt (pw_or (pt_not (pt_val (pe_callB (kisi K) (by rfl) T.isinstance_ bt_isinstance (pa_cons (pv 0) (pa_cons (pe_bltn (v := .ty "str") (by rfl) T.str_ bt_str rfl) pa_nil))))) (pw_or1 (pt_not (pt_chain op_le op_le pe_int (pe_callB call_len_str (by rfl) T.len_ PySem.boot_len (pa_cons (pv 0) pa_nil)) (pe_glob (v := .int 8) rfl T.NAME_MOST_.choose_spec ⟨_, rfl⟩))))))
        (pss_one (ps_ret pe_bl))
        pss_nil)
      (pss_one (ps_ret (pe_callB (kall K rfl) (by rfl) T.all_ bt_all (pa_cons (pe_lc (own := [("letter", 1)]) (tt := tYes) rfl sc_is_name.nd (pi_str (pv 0)) (blkOk_by (N := ["value", "letter"]) (sc := defScope s_is_name) (by decide +kernel)) (fun _ _ _ _ _ => (pg_name (i := 1) sc_is_name.nd rfl (by first | exact Or.inl rfl | exact Or.inr rfl))) (fun _ _ _ _ _ => pts_nil) (fun _ _ _ _ _ => (pe_cmpR op_in_sign (pv 1) (pe_glob (v := .str "abcdefghijklmnopqrstuvwxyz") rfl T.LETTERS_.choose_spec ⟨_, rfl⟩) (by rfl)))) pa_nil))))), ?_⟩
    refine ⟨v, rfl, v, _, _, _, _, rfl, .ty _, kn.ty, kit_ty (kit_str kn), _, rfl, ?_⟩
    cases ct : isA T' "str" with
    | false =>
      have e : nameV v = false := by
        cases kn with
        | str x => exact absurd ct (by decide +kernel)
        | _ => rfl
      rw [e] at q
      exact iteT (iteT (q _ (Ex.refl _)))
    | true =>
      obtain ⟨z, rfl⟩ : ∃ z, v = .str z := by
        cases kn with
        | str x => exact ⟨_, rfl⟩
        | non => exact absurd ct (by decide +kernel)
        | bl b => exact absurd ct (by decide +kernel)
        | int i => exact absurd ct (by decide +kernel)
        | tup h => exact absurd ct (by decide +kernel)
        | lst h => exact absurd ct (by decide +kernel)
      have hz := hz z rfl
      refine iteF ?_
      refine ⟨_, rfl, z, rfl, Nat.le_of_lt (slineL (by omega)), _, _, rfl, rfl, _, rfl, ?_⟩
      have e : nameV (.str z) = ((decide (1 ≤ (z.length : Int)) && decide ((z.length : Int) ≤ 8)) && z.cps.toList.all fun c => decide (c ∈ letters)) := rfl
      rw [e] at q
      cases c1 : decide (1 ≤ (z.length : Int)) with
      | false =>
        rw [c1] at q
        exact iteF ⟨_, rfl, iteT (q _ (Ex.refl _))⟩
      | true =>
        rw [c1, Bool.true_and] at q
        refine iteT ?_
        refine ⟨_, _, rfl, rfl, ?_⟩
        by_cases e8 : (z.length : Int) ≤ 8
        · rw [decide_eq_true e8, Bool.true_and] at q
          refine ⟨_, rfl, iteDn e8 ?_⟩
          refine ⟨_, rfl, z, rfl, fun D hD => ?_⟩
          refine lc_it (walk_str (z := z)) (fun i H' => Ex H H' ∧ H' D = some (.lst (((z.cps.toList.take i).map fun c => decide (c ∈ letters)).map V.bl))) ⟨Ex.new hD, upd_same⟩ (fun _ _ _ _ => trivial) ?_ ?_
          · rintro i x H1 H' hi ⟨e, hA⟩ ⟨rfl, c, hc, rfl⟩
            refine ⟨rfl, ?_⟩
            refine lcY ?_
            refine ⟨_, rfl, c, _, rfl, rfl, ?_⟩
            have hl : (z.cps.toList.take i).length ≤ 8 := by
              have : z.cps.toList.length = z.length := Array.length_toList
              rw [List.length_take]
              omega
            refine ⟨_, hA, slineL (by rw [List.length_map, List.length_map]; omega), e.mut hD, ?_⟩
            have hc' : z.cps.toList[i]? = some c := by rw [Array.getElem?_toList]; exact hc
            rw [upd_same, List.take_add_one, hc']
            rw [List.map_append, List.map_append]
            rfl
          · rintro H' ⟨e, hA⟩
            have len : z.cps.toList.length = z.cps.size := Array.length_toList
            rw [← len, List.take_length] at hA
            refine ⟨D, _, rfl, SqL.of hA, ?_⟩
            rw [List.all_map]
            exact q _ e
        · rw [decide_eq_false e8] at q
          exact ⟨_, rfl, iteNn e8 (q _ (Ex.refl _))⟩

abbrev s_l_name_fits : Stmt := top 33
theorem sc_l_name_fits : FnScope ["deck", "text", "due", "kind", "at", "actual", "k"] ["deck"] (defScope s_l_name_fits) := ⟨rfl, rfl, rfl, by decide +kernel, rfl, by decide +kernel, by decide +kernel⟩
def one (c : Nat) : Str := ⟨#[c]⟩
theorem cps_append (x y : Str) : (x ++ y).cps.toList = x.cps.toList ++ y.cps.toList := TL.tl_append x y
theorem join_ones (cs : List Nat) : (Txt.join (Str.ofString "") (cs.map one)).cps.toList = cs := by
  have h1 : ∀ l : List (List Nat), TL.joinL [] l = l.flatten := fun l => by
    induction l with
    | nil => rfl
    | cons p r ih =>
      cases r with
      | nil => simp [TL.joinL]
      | cons q r => rw [TL.joinL, ih]; simp
  have h2 : TL.tl (Txt.join (Str.ofString "") (cs.map one)) = cs := by
    rw [TL.join_eq, TL.tl_join, show TL.tl (Str.ofString "") = [] from by decide +kernel, h1]
    induction cs with
    | nil => rfl
    | cons c cs ih => simp only [List.map_cons, List.flatten_cons, ih]; rfl
  exact h2
theorem join_len (cs : List Nat) : (Txt.join (Str.ofString "") (cs.map one)).length = cs.length := by
  have h := congrArg List.length (join_ones cs)
  rw [Array.length_toList] at h
  exact h
theorem sum_ones : ∀ cs : List Nat, ((cs.map one).map (·.length)).sum = cs.length
  | [] => rfl
  | c :: cs => by
    rw [List.map_cons, List.map_cons, List.sum_cons, sum_ones cs, List.length_cons]
    show 1 + cs.length = _
    omega
def nameB (n : Nat) : Bool := decide (1 ≤ (n : Int)) && decide ((n : Int) ≤ 8)
theorem nameS_of {z : Str} (h : ∀ c ∈ z.cps.toList, c ∈ letters) : nameS z = nameB z.length := by
  unfold nameS nameB
  rw [List.all_eq_true.mpr fun c hc => decide_eq_true (h c hc), Bool.and_true]
theorem nameS_no {z : Str} {c : Nat} (h : c ∈ z.cps.toList) (n : c ∉ letters) : nameS z = false := by
  unfold nameS
  rw [show (z.cps.toList.all fun c => decide (c ∈ letters)) = false from by rw [List.all_eq_false]; exact ⟨c, h, by simp [n]⟩, Bool.and_false]
theorem chainI {d : Bool} {m n : Int} {Q : VK} {σ : L2.St} {H : Hp} (h : Q (.bl (d && decide (m ≤ n))) H) : if d = true then tC (.int n) σ H (fun u G => rI0 (fun i j => V.bl (decide (i ≤ j))) (V.int m) u G Q) else Q (.bl false) H := by
  cases d with
  | true => exact ⟨m, n, rfl, rfl, h⟩
  | false => exact h
def spNameFits (K : PySem.W.Frag) : Sp := fun vs H Q _ => ∃ a, vs = [.ref a] ∧ DeckAt K H a ∧ ∀ H', Q (.bl true) H'
theorem ok_l_name_fits {f : Addr} {fd : FuncData} (F : Fun K "_law_name_fits" "_law_name_fits" s_l_name_fits f fd) (T : Txt K mg) (D_l_draw : Def P w K mg base CX0 "_law_draw" 1 ["deck", "bound"] (spDraw K)) (D_is_name : Def P w K mg base CX0 "is_name" 1 ["value"] spIsName) : FnOk P w K mg base CX0 2 f fd ["deck"] (spNameFits K) := by
  refine F.ok sc_l_name_fits (fun vs H Q E h => ?_) (fun cdv A outer s H vs Q E hr h => ?_)
  · obtain ⟨a, rfl, _⟩ := h
    rfl
  · obtain ⟨a, rfl, hd, q⟩ := h
    refine ⟨_, (pss_cons (ps_set (i := 1) sc_l_name_fits.nd rfl (by first | exact Or.inl rfl | exact Or.inr rfl) (pe_join pe_str (pe_lc (own := [("k", 6)]) (tt := tYes) rfl sc_l_name_fits.nd (pi_range1 (by rfl) T.range_ (pa_cons (pe_call D_l_draw.ok (hr.mono (by decide)) rfl D_l_draw.mgf D_l_draw.kp D_l_draw.b .nil pass0 (pa_cons (pv 0) (pa_cons pe_int pa_nil))) pa_nil)) (blkOk_by (N := ["deck", "text", "due", "kind", "at", "actual", "k"]) (sc := defScope s_l_name_fits) (by decide +kernel)) (fun _ _ _ _ _ => (pg_name (i := 6) sc_l_name_fits.nd rfl (by first | exact Or.inl rfl | exact Or.inr rfl))) (fun _ _ _ _ _ => pts_nil) (fun _ _ _ _ _ => (pe_ix ix_str pe_str (pe_call D_l_draw.ok (hr.mono (by decide)) rfl D_l_draw.mgf D_l_draw.kp D_l_draw.b .nil pass0 (pa_cons (pv 0) (pa_cons pe_int pa_nil))) (fun _ _ => rfl))))))
      (pss_cons (ps_set (i := 2) sc_l_name_fits.nd rfl (by first | exact Or.inl rfl | exact Or.inr rfl) (pe_chain op_le op_le pe_int (pe_callB call_len_str (by rfl) T.len_ PySem.boot_len (pa_cons (pv 1) pa_nil)) pe_int))
      (pss_cons (ps_set (i := 3) sc_l_name_fits.nd rfl (by first | exact Or.inl rfl | exact Or.inr rfl) (pe_call D_l_draw.ok (hr.mono (by decide)) rfl D_l_draw.mgf D_l_draw.kp D_l_draw.b .nil pass0 (pa_cons (pv 0) (pa_cons pe_int pa_nil))))
      (pss_cut (ps_if (PW.pt (pw_and (pt_cmpR op_eq (pv 3) pe_int (nomark _)) (pw_and1 (pt_cmpR op_gt (pe_callB call_len_str (by rfl) T.len_ PySem.boot_len (pa_cons (pv 1) pa_nil)) pe_int (nomark _)))))
        (pss_cons (ps_set (i := 4) sc_l_name_fits.nd rfl (by first | exact Or.inl rfl | exact Or.inr rfl) (pe_call D_l_draw.ok (hr.mono (by decide)) rfl D_l_draw.mgf D_l_draw.kp D_l_draw.b .nil pass0 (pa_cons (pv 0) (pa_cons (pe_callB call_len_str (by rfl) T.len_ PySem.boot_len (pa_cons (pv 1) pa_nil)) pa_nil))))
        (pss_cons (ps_set (i := 1) sc_l_name_fits.nd rfl (by first | exact Or.inl rfl | exact Or.inr rfl) (pe_op op_add_str (pe_op op_add_str (pe_slice sl_str (pv 1) po_none (po_some (pv 4))) (pe_ix (kixL K) (pe_lst (pa_cons pe_str (pa_cons pe_str (pa_cons pe_str (pa_cons pe_str (pa_cons pe_str (pa_cons pe_str (pa_cons pe_str pa_nil)))))))) (pe_call D_l_draw.ok (hr.mono (by decide)) rfl D_l_draw.mgf D_l_draw.kp D_l_draw.b .nil pass0 (pa_cons (pv 0) (pa_cons pe_int pa_nil))) (fun _ _ => rfl))) (pe_slice sl_str (pv 1) (po_some (pe_op op_add (pv 4) pe_int)) po_none)))
        (pss_one (ps_set (i := 2) sc_l_name_fits.nd rfl (by first | exact Or.inl rfl | exact Or.inr rfl) pe_bl))))
        pss_nil)
      (pss_cut (ps_if (pt_cmpR op_eq (pv 3) pe_int (nomark _))
        (pss_cons (ps_set (i := 1) sc_l_name_fits.nd rfl (by first | exact Or.inl rfl | exact Or.inr rfl) (pe_ix (kixL K) (pe_lst (pa_cons pe_non (pa_cons pe_bl (pa_cons pe_int (pa_cons (pe_lst (pa_cons pe_str pa_nil)) (pa_cons (pe_tup (pa_cons pe_str pa_nil)) (pa_cons (pe_lst pa_nil) pa_nil))))))) (pe_call D_l_draw.ok (hr.mono (by decide)) rfl D_l_draw.mgf D_l_draw.kp D_l_draw.b .nil pass0 (pa_cons (pv 0) (pa_cons pe_int pa_nil))) (fun _ _ => rfl)))
        (pss_one (ps_set (i := 2) sc_l_name_fits.nd rfl (by first | exact Or.inl rfl | exact Or.inr rfl) pe_bl)))
        pss_nil)
      (pss_cons (ps_set (i := 5) sc_l_name_fits.nd rfl (by first | exact Or.inl rfl | exact Or.inr rfl) (pe_call D_is_name.ok (hr.mono (by decide)) rfl D_is_name.mgf D_is_name.kp D_is_name.b .nil pass0 (pa_cons (pv 1) pa_nil)))
      (pss_one (ps_ret (pe_and (pe_callB (kisi K) (by rfl) T.isinstance_ bt_isinstance (pa_cons (pv 5) (pa_cons (pe_bltn (v := .ty "bool") (by rfl) T.bool_ bt_bool rfl) pa_nil))) (pe_one (pe_cmpR op_eq (pv 5) (pv 2) (nomark _)))))))))))), ?_⟩
    refine ⟨⟨_, rfl⟩, ?_⟩
    refine ⟨_, rfl, a, 12, rfl, hd, by decide, by decide, fun n n0 n1 => ?_⟩
    refine ⟨_, rfl, by omega, by omega, fun D hD => ?_⟩
    refine lc_range (lo := 0) (n := n.toNat) (fun i H' => Ex H H' ∧ ∃ cs : List Nat, H' D = some (.lst ((cs.map one).map V.str)) ∧ cs.length = i ∧ ∀ c ∈ cs, c ∈ letters) ⟨Ex.new hD, [], upd_same, rfl, by simp⟩ ?_ ?_
    · rintro i H' hi ⟨e, cs, hA, hl, hc⟩
      refine ⟨rfl, ?_⟩
      refine lcY ?_
      refine ⟨_, rfl, a, 26, rfl, hd.mono e, by decide, by decide, fun j j0 j1 => ?_⟩
      have len : letters.length = 26 := by decide +kernel
      obtain ⟨m, rfl⟩ := Int.eq_ofNat_of_zero_le j0
      have hm : m < letters.length := by omega
      refine ⟨_, _, letters[m], rfl, rfl, (by decide +kernel), atI_nat (show letters[m]? = some letters[m] from List.getElem?_eq_getElem hm), ?_⟩
      refine ⟨_, hA, slineL (by rw [List.length_map, List.length_map]; omega), e.mut hD, cs ++ [letters[m]], ?_, by rw [List.length_append, hl]; rfl, fun c h => ?_⟩
      · rw [upd_same, List.map_append, List.map_append]
        rfl
      · rcases List.mem_append.mp h with h | h
        · exact hc c h
        · rw [List.mem_singleton.mp h]
          exact List.getElem_mem hm
    rintro H1 ⟨e1, cs, hA, hl, hc⟩
    refine ⟨_, D, cs.map one, rfl, rfl, .inl (SqL.of hA), ?_, ?_⟩
    · rw [sum_ones, List.length_map, show (Str.ofString "").length = 0 from by decide +kernel]
      omega
    have hz := join_ones cs
    have hzl := join_len cs
    generalize Txt.join (Str.ofString "") (cs.map one) = z at hz hzl ⊢
    have zl : z.length ≤ 12 := by omega
    have hc : ∀ c ∈ z.cps.toList, c ∈ letters := fun c h => hc c (by rw [← hz]; exact h)
    have hd1 := hd.mono e1
    have zs : z.length ≤ sizeLine := Nat.le_of_lt (slineL (by omega))
    -- due
    have due : nameS z = nameB z.length := nameS_of hc
    refine ⟨_, rfl, z, rfl, zs, _, _, rfl, rfl, _, rfl, ?_⟩
    refine chainI ?_
    have eb : (decide (1 ≤ (z.length : Int)) && decide ((z.length : Int) ≤ 8)) = nameB z.length := rfl
    rw [eb]
    refine ⟨_, rfl, a, 4, rfl, hd1, by decide, by decide, fun k k0 k1 => ?_⟩
    -- another sign in it
    refine ⟨fun σ H' => ∃ (u : Str) (b : Bool) (x : Option V), σ = [some (.ref a), some (.str u), some (.bl b), some (.int k), x, none, none] ∧ Ex H1 H' ∧ u.length ≤ 30 ∧ b = nameS u, ?_, ?_⟩
    · have same : ∃ (u : Str) (b : Bool) (x : Option V), [some (V.ref a), some (.str z), some (.bl (nameB z.length)), some (.int k), none, none, none] = [some (.ref a), some (.str u), some (.bl b), some (.int k), x, none, none] ∧ Ex H1 H1 ∧ u.length ≤ 30 ∧ b = nameS u := ⟨z, _, none, rfl, Ex.refl _, by omega, due.symm⟩
      refine ⟨_, rfl, rfl, _, rfl, ?_⟩
      refine ite2 (fun _ => ?_) (fun _ => same)
      refine ⟨_, rfl, z, rfl, zs, _, _, rfl, rfl, _, rfl, ?_⟩
      refine ite2 (fun pos => ?_) (fun _ => same)
      have pos := of_decide_eq_true pos
      refine ⟨_, rfl, _, rfl, z, rfl, zs, a, _, rfl, hd1, by omega, by omega, fun t t0 t1 => ?_⟩
      refine ⟨_, rfl, _, rfl, _, rfl, z, rfl, zs, ?_⟩
      refine ⟨(by show 7 ≤ sizeLine; decide), fun l hl => ?_⟩
      have e2 := Ex.new (o := .lst [.str "A", .str "0", .str " ", .str "-", .str "_", .str "Z", .str "\n"]) hl
      have k2 : upd H1 l (.lst [.str "A", .str "0", .str " ", .str "-", .str "_", .str "Z", .str "\n"]) l = some (.lst [.str "A", .str "0", .str " ", .str "-", .str "_", .str "Z", .str "\n"]) := upd_same
      generalize upd H1 l (.lst [.str "A", .str "0", .str " ", .str "-", .str "_", .str "Z", .str "\n"]) = H2 at e2 k2 ⊢
      refine ⟨_, rfl, a, 7, rfl, hd1.mono e2, by decide, by decide, fun i i0 i1 => ?_⟩
      obtain ⟨v, hv, ex⟩ := pickV (xs := [V.str "A", .str "0", .str " ", .str "-", .str "_", .str "Z", .str "\n"]) i0 i1
      obtain ⟨y, c, rfl, yl, yc, cn⟩ : ∃ (y : Str) (c : Nat), v = .str y ∧ y.length = 1 ∧ c ∈ y.cps.toList ∧ c ∉ letters := by
        simp only [List.mem_cons, List.not_mem_nil, or_false] at hv
        rcases hv with rfl | rfl | rfl | rfl | rfl | rfl | rfl
        · exact ⟨_, 65, rfl, by decide +kernel, by decide +kernel, by decide +kernel⟩
        · exact ⟨_, 48, rfl, by decide +kernel, by decide +kernel, by decide +kernel⟩
        · exact ⟨_, 32, rfl, by decide +kernel, by decide +kernel, by decide +kernel⟩
        · exact ⟨_, 45, rfl, by decide +kernel, by decide +kernel, by decide +kernel⟩
        · exact ⟨_, 95, rfl, by decide +kernel, by decide +kernel, by decide +kernel⟩
        · exact ⟨_, 90, rfl, by decide +kernel, by decide +kernel, by decide +kernel⟩
        · exact ⟨_, 10, rfl, by decide +kernel, by decide +kernel, by decide +kernel⟩
      refine ⟨l, _, i, _, rfl, rfl, SqL.of k2, ex, ?_⟩
      have c1 := cutS_length z none (some t)
      have c2 := cutS_length z (some (t + 1)) none
      have la : ∀ u w : Str, (u ++ w).length = u.length + w.length := fun u w => by
        have h := congrArg List.length (cps_append u w)
        rw [List.length_append, Array.length_toList, Array.length_toList, Array.length_toList] at h
        exact h
      have lin : ∀ n : Nat, n ≤ 1000 → n ≤ sizeLine := fun n hn => Nat.le_of_lt (slineL (by omega))
      refine ⟨_, _, rfl, rfl, lin _ (by omega), ?_⟩
      refine ⟨_, rfl, _, rfl, _, _, rfl, rfl, _, rfl, z, rfl, zs, ?_⟩
      refine ⟨_, _, rfl, rfl, lin _ (by rw [la]; omega), ?_⟩
      refine ⟨_, false, _, rfl, e2, by rw [la, la]; omega, (nameS_no (c := c) ?_ cn).symm⟩
      rw [cps_append, cps_append]
      exact List.mem_append.mpr (.inl (List.mem_append.mpr (.inr yc)))
    · rintro σ H2 ⟨u, b, x, rfl, e2, ul, hb⟩
      have hd2 := hd1.mono e2
      -- no text
      refine ⟨fun σ H' => ∃ (v : V) (b : Bool) (x : Option V), σ = [some (.ref a), some v, some (.bl b), some (.int k), x, none, none] ∧ (∃ T, Kn H' v T) ∧ (∀ z, v = .str z → z.length ≤ 1000) ∧ b = nameV v, ?_, ?_⟩
      · refine ⟨_, rfl, rfl, _, rfl, ?_⟩
        refine ite2 (fun _ => ?_) (fun _ => ⟨_, _, _, rfl, ⟨_, .str u⟩, fun z e => by cases e; omega, hb⟩)
        refine ⟨(by show 1 ≤ sizeLine; decide), fun l1 hl1 => ?_⟩
        have e3 := Ex.new (o := .lst [.str "a"]) hl1
        have k3 : upd H2 l1 (.lst [.str "a"]) l1 = some (.lst [.str "a"]) := upd_same
        generalize upd H2 l1 (.lst [.str "a"]) = H3 at e3 k3 ⊢
        refine ⟨(by show 1 ≤ sizeLine; decide), fun l2 hl2 => ?_⟩
        have e4 := Ex.new (o := .tup [.str "a"]) hl2
        have k4 : upd H3 l2 (.tup [.str "a"]) l2 = some (.tup [.str "a"]) := upd_same
        generalize upd H3 l2 (.tup [.str "a"]) = H4 at e4 k4 ⊢
        refine ⟨(by show 0 ≤ sizeLine; decide), fun l3 hl3 => ?_⟩
        have e5 := Ex.new (o := .lst []) hl3
        have k5 : upd H4 l3 (.lst []) l3 = some (.lst []) := upd_same
        generalize upd H4 l3 (.lst []) = H5 at e5 k5 ⊢
        refine ⟨(by show 6 ≤ sizeLine; decide), fun l4 hl4 => ?_⟩
        have e6 := Ex.new (o := .lst [.non, .bl true, .int 7, .ref l1, .ref l2, .ref l3]) hl4
        have k6 : upd H5 l4 (.lst [.non, .bl true, .int 7, .ref l1, .ref l2, .ref l3]) l4 = some (.lst [.non, .bl true, .int 7, .ref l1, .ref l2, .ref l3]) := upd_same
        generalize upd H5 l4 (.lst [.non, .bl true, .int 7, .ref l1, .ref l2, .ref l3]) = H6 at e6 k6 ⊢
        refine ⟨_, rfl, a, 6, rfl, hd2.mono (((e3.trans e4).trans e5).trans e6), by decide, by decide, fun i i0 i1 => ?_⟩
        obtain ⟨v, hv, ex⟩ := pickV (xs := [V.non, .bl true, .int 7, .ref l1, .ref l2, .ref l3]) i0 i1
        refine ⟨l4, _, i, v, rfl, rfl, SqL.of k6, ex, ?_⟩
        have kv : (∃ T, Kn H6 v T) ∧ (∀ z, v ≠ .str z) ∧ false = nameV v := by
          simp only [List.mem_cons, List.not_mem_nil, or_false] at hv
          rcases hv with rfl | rfl | rfl | rfl | rfl | rfl
          · exact ⟨⟨_, .non⟩, fun _ => V.noConfusion, rfl⟩
          · exact ⟨⟨_, .bl true⟩, fun _ => V.noConfusion, rfl⟩
          · exact ⟨⟨_, .int 7⟩, fun _ => V.noConfusion, rfl⟩
          · exact ⟨⟨_, .lst (((e4.trans e5).trans e6) _ _ k3)⟩, fun _ => V.noConfusion, rfl⟩
          · exact ⟨⟨_, .tup ((e5.trans e6) _ _ k4)⟩, fun _ => V.noConfusion, rfl⟩
          · exact ⟨⟨_, .lst (e6 _ _ k5)⟩, fun _ => V.noConfusion, rfl⟩
        exact ⟨v, false, _, rfl, kv.1, fun z e => absurd e (kv.2.1 z), kv.2.2⟩
      · rintro σ H3 ⟨v, b, x, rfl, ⟨T', kn⟩, vl, rfl⟩
        refine ⟨_, rfl, v, T', rfl, kn, vl, fun H4 e4 => ?_⟩
        have kb : Kn H4 (.bl (nameV v)) "bool" := .bl _
        refine ⟨_, rfl, _, _, _, _, _, rfl, .ty _, kb.ty, kit_ty (kit_bool kb), _, rfl, ?_⟩
        refine iteT ?_
        refine ⟨_, rfl, _, rfl, rfl, ?_⟩
        rw [decide_eq_true rfl]
        exact q _

abbrev s_law : Stmt := top 34
theorem sc_law : FnScope ["script", "deck", "paint"] ["script"] (defScope s_law) := ⟨rfl, rfl, rfl, by decide +kernel, rfl, by decide +kernel, by decide +kernel⟩
theorem ints_dx {H : Hp} {a : Addr} {ns : List Int} (h : H a = some (.tup (ns.map V.int))) (l : ns.length ≤ 25) (hb : ∀ v ∈ ns, 0 ≤ v ∧ v ≤ 256) : DX 1525 1 H (.ref a) :=
  (DX.tup (B := 60) (n := 0) (m := 25) h (by rw [List.length_map]; exact l) (by decide) fun x hx => by
    obtain ⟨n, hn, rfl⟩ := List.mem_map.mp hx
    have := hb n hn
    exact .int (by omega) (by omega)).le (by decide) (by decide)
/-- a drawn paint: its items told -/
theorem pa_items {H : Hp} {v : V} {p : Pa} (h : PaV H v p) (k : p.Ok 5) : ∃ a w x ys, v = .ref a ∧ H a = some (.tup (.str w :: x :: ys)) ∧ ys.length ≤ 2 ∧ (∀ y ∈ V.str w :: x :: ys, DX 6104 2 H y) ∧
    (isW "picture" (.str w) = true → ys = [] ∧ ∃ b zs, x = .ref b ∧ H b = some (.tup zs) ∧ zs.length = 4 ∧ ∀ z ∈ zs, DX 1525 1 H z) := by
  have str : ∀ {G : Hp} {x : Str}, (PyData.str x).showable = true → (PyData.str x).leavesShort 13 = true → (PyData.str x).weight ≤ 60 → (PyData.str x).canLay0 = true → DX 6104 2 G (.str x) := fun h1 h2 h3 h4 => (DX.str h1 h2 h3 h4).le (by decide) (by decide)
  have int : ∀ {G : Hp} {i : Int}, 0 ≤ i → i ≤ 256 → DX 6104 2 G (.int i) := fun h1 h2 => (DX.int (by omega) (by omega)).le (by decide) (by decide)
  cases p with
  | solid x =>
    obtain ⟨a, rfl, ha⟩ := h
    have k : 0 ≤ x ∧ x ≤ 255 := k
    refine ⟨a, _, _, _, rfl, ha, by decide, fun y hy => ?_, fun z => absurd z (by decide +kernel)⟩
    simp only [List.mem_cons, List.not_mem_nil, or_false] at hy
    rcases hy with rfl | rfl
    · exact str (by decide +kernel) (by decide +kernel) (by decide +kernel) (by decide +kernel)
    · exact int (by omega) (by omega)
  | steps f s z =>
    obtain ⟨a, rfl, ha⟩ := h
    obtain ⟨k1, k2, k3, k4, k5, k6⟩ : 0 ≤ f ∧ f ≤ 255 ∧ 0 ≤ s ∧ s ≤ 255 ∧ 1 ≤ z ∧ z ≤ 12 := k
    refine ⟨a, _, _, _, rfl, ha, by show 2 ≤ 2; decide, fun y hy => ?_, fun z => absurd z (by decide +kernel)⟩
    simp only [List.mem_cons, List.not_mem_nil, or_false] at hy
    rcases hy with rfl | rfl | rfl | rfl
    · exact str (by decide +kernel) (by decide +kernel) (by decide +kernel) (by decide +kernel)
    · exact int (by omega) (by omega)
    · exact int (by omega) (by omega)
    · exact int (by omega) (by omega)
  | pic p =>
    obtain ⟨a, u, rfl, ha, b, va, ca, rfl, h1, h2, h3⟩ := h
    have k : p.Ok 5 := k
    obtain ⟨a1, a2⟩ := k.area
    have w1 := k.w1
    have w2 := k.w2
    have g1 := k.h1
    have g2 := k.h2
    have vl := k.vl
    have cl := k.cl
    have zs : ∀ z ∈ [V.int p.w, .int p.h, .ref va, .ref ca], DX 1525 1 H z := fun z hz => by
      simp only [List.mem_cons, List.not_mem_nil, or_false] at hz
      rcases hz with rfl | rfl | rfl | rfl
      · exact (DX.int (by omega) (by omega)).le (by decide) (by decide)
      · exact (DX.int (by omega) (by omega)).le (by decide) (by decide)
      · exact ints_dx h2 (by omega) fun v hv => by have := k.vb v hv; omega
      · exact ints_dx h3 (by omega) k.cb
    refine ⟨a, _, _, _, rfl, ha, by decide, fun y hy => ?_, fun _ => ⟨rfl, b, _, rfl, h1, rfl, zs⟩⟩
    simp only [List.mem_cons, List.not_mem_nil, or_false] at hy
    rcases hy with rfl | rfl
    · exact str (by decide +kernel) (by decide +kernel) (by decide +kernel) (by decide +kernel)
    · exact (DX.tup (B := 1525) (n := 1) (m := 4) h1 (by show 4 ≤ 4; decide) (by decide) zs).le (by decide) (by decide)
def outPD (d : PyData) : PO → PyData
  | .fine => .tuple [.str "fine", .none]
  | .paint => .tuple [.str "paint", d]
  | .pict none => .tuple [.str "picture", .none]
  | .pict (some k) => .tuple [.str "picture", .int (k : Nat)]
theorem outP_dp {K : PySem.W.Frag} {H : Hp} {a : Addr} {v : V} {d : PyData} : ∀ {o : PO}, H a = some (.tup (outPL v o)) → Da H v d → Dp K H (.ref a) (outPD d o)
  | .fine, h, hd => .tup (SqT.of h) (.cons (.str _) (.cons .non .nil))
  | .paint, h, hd => .tup (SqT.of h) (.cons (.str _) (.cons hd.dp .nil))
  | .pict none, h, hd => .tup (SqT.of h) (.cons (.str _) (.cons .non .nil))
  | .pict (some k), h, hd => .tup (SqT.of h) (.cons (.str _) (.cons (.int _) .nil))
theorem outP_sh {H : Hp} {v : V} {B n : Nat} {d : PyData} (h : Sh B d) (hn : d.depth ≤ n) (hB : B ≤ 900000) (h50 : n ≤ 50) : ∀ {o : PO}, o = pO H v → Sh (B + 1000) (outPD d o) ∧ (outPD d o).depth ≤ 60
  | .fine, _ => ⟨(ShAll.cons (B := 100) ⟨by decide +kernel, by decide +kernel, by decide +kernel, by decide +kernel⟩ (ShAll.cons (B := 100) ⟨by decide +kernel, by decide +kernel, by decide +kernel, by decide +kernel⟩ .nil)).tup.mono (by omega), by show (PyData.tuple [.str "fine", .none]).depth ≤ 60; decide +kernel⟩
  | .paint, _ => by
    refine ⟨(ShAll.cons (B := 100) ⟨by decide +kernel, by decide +kernel, by decide +kernel, by decide +kernel⟩ (ShAll.cons h .nil)).tup.mono (by omega), ?_⟩
    show (PyData.tuple [.str "paint", d]).depth ≤ 60
    simp only [PyData.depth, PyData.depthAll]
    have : max 0 (max d.depth 0) ≤ n := Nat.max_le.mpr ⟨Nat.zero_le _, Nat.max_le.mpr ⟨hn, Nat.zero_le _⟩⟩
    omega
  | .pict none, _ => ⟨(ShAll.cons (B := 100) ⟨by decide +kernel, by decide +kernel, by decide +kernel, by decide +kernel⟩ (ShAll.cons (B := 100) ⟨by decide +kernel, by decide +kernel, by decide +kernel, by decide +kernel⟩ .nil)).tup.mono (by omega), by show (PyData.tuple [.str "picture", .none]).depth ≤ 60; decide +kernel⟩
  | .pict (some k), e => by
    have hk : k ≤ 3 := by
      unfold pO at e
      split at e
      · split at e
        · split at e
          · cases e
          · rename_i h1
            cases e
            exact picO_le h1
        · cases e
      · cases e
    refine ⟨(ShAll.cons (B := 100) ⟨by decide +kernel, by decide +kernel, by decide +kernel, by decide +kernel⟩ (ShAll.cons (sh_int (i := (k : Int)) (by omega) (by omega)) .nil)).tup.mono (by omega), ?_⟩
    show (PyData.tuple [.str "picture", .int (k : Nat)]).depth ≤ 60
    simp only [PyData.depth, PyData.depthAll]
    decide
def spLaw (K : PySem.W.Frag) : Sp := fun vs H Q _ => ∃ (a : Addr) (ns : List Int), vs = [.ref a] ∧ SqL K H a (ns.map V.int) ∧ ns.length ≤ 63 ∧ ∀ H', Q (.bl true) H'
theorem ok_law {f : Addr} {fd : FuncData} (F : Fun K "law" "law" s_law f fd) (T : Txt K mg) (D_l_deck : Def P w K mg base CX0 "_law_deck" 1 ["script"] (spDeck K)) (D_l_draw : Def P w K mg base CX0 "_law_draw" 1 ["deck", "bound"] (spDraw K))
    (D_l_paint : Def P w K mg base CX0 "_law_paint" 4 ["deck", "most"] (spPaint K)) (D_l_bent : Def P w K mg base CX0 "_law_bent" 3 ["deck", "item"] (spBentX K)) (D_l_told : Def P w K mg base CX0 "_law_told" 6 ["paint"] spToldP) (D_l_due : Def P w K mg base CX0 "_law_due" 5 ["paint"] spToldP)
    (D_l_name_fits : Def P w K mg base CX0 "_law_name_fits" 2 ["deck"] (spNameFits K)) : FnG P w K mg base CX0 7 f fd ["script"] (spLaw K) := by
  refine Fun.okG F sc_law (fun vs H Q E h => ?_) (fun cdv A outer s H vs Q E gd hr h => ?_)
  · obtain ⟨a, ns, rfl, _⟩ := h
    rfl
  · obtain ⟨a, ns, rfl, hS, hl, q⟩ := h
    refine ⟨_, (pss_cons (ps_set (i := 1) sc_law.nd rfl (by first | exact Or.inl rfl | exact Or.inr rfl) (pe_call D_l_deck.ok (hr.mono (by decide)) rfl D_l_deck.mgf D_l_deck.kp D_l_deck.b .nil pass0 (pa_cons (pv 0) pa_nil)))
      (pss_cons (ps_set (i := 2) sc_law.nd rfl (by first | exact Or.inl rfl | exact Or.inr rfl) (pe_call D_l_paint.ok (hr.mono (by decide)) rfl D_l_paint.mgf D_l_paint.kp D_l_paint.b .nil pass0 (pa_cons (pv 1) (pa_cons pe_int pa_nil))))
      (pss_cut (ps_if (PW.pt (pw_and (pt_cmpR (keqW hr.units) (pe_ix (kixT K) (pv 2) pe_int (fun _ _ => rfl)) pe_str (nomark _)) (pw_and1 (pt_cmpR op_eq (pe_call D_l_draw.ok (hr.mono (by decide)) rfl D_l_draw.mgf D_l_draw.kp D_l_draw.b .nil pass0 (pa_cons (pv 1) (pa_cons pe_int pa_nil))) pe_int (nomark _)))))
        (pss_one (ps_set (i := 2) sc_law.nd rfl (by first | exact Or.inl rfl | exact Or.inr rfl) (pe_tup (pa_cons pe_str (pa_cons (pe_call D_l_bent.ok (hr.mono (by decide)) rfl D_l_bent.mgf D_l_bent.kp D_l_bent.b .nil pass0 (pa_cons (pv 1) (pa_cons (pe_ix (kixT K) (pv 2) pe_int (fun _ _ => rfl)) pa_nil))) pa_nil)))))
        (pss_one (ps_if (pt_cmpR op_gt (pe_call D_l_draw.ok (hr.mono (by decide)) rfl D_l_draw.mgf D_l_draw.kp D_l_draw.b .nil pass0 (pa_cons (pv 1) (pa_cons pe_int pa_nil))) pe_int (nomark _))
          (pss_one (ps_set (i := 2) sc_law.nd rfl (by first | exact Or.inl rfl | exact Or.inr rfl) (pe_call D_l_bent.ok (hr.mono (by decide)) rfl D_l_bent.mgf D_l_bent.kp D_l_bent.b .nil pass0 (pa_cons (pv 1) (pa_cons (pv 2) pa_nil)))))
          pss_nil)))
      (pss_cons (ps_if (pt_cmpR op_ne (pe_callB (krepr K gd hr.units) (by rfl) T.repr_ bt_repr (pa_cons (pe_call D_l_told.ok (hr.mono (by decide)) rfl D_l_told.mgf D_l_told.kp D_l_told.b .nil pass0 (pa_cons (pv 2) pa_nil)) pa_nil)) (pe_callB (krepr K gd hr.units) (by rfl) T.repr_ bt_repr (pa_cons (pe_call D_l_due.ok (hr.mono (by decide)) rfl D_l_due.mgf D_l_due.kp D_l_due.b .nil pass0 (pa_cons (pv 2) pa_nil)) pa_nil)) (nomark _))
        (pss_one (ps_ret pe_bl))
        pss_nil)
      (pss_one (ps_ret (pe_call D_l_name_fits.ok (hr.mono (by decide)) rfl D_l_name_fits.mgf D_l_name_fits.kp D_l_name_fits.b .nil pass0 (pa_cons (pv 1) pa_nil)))))))), ?_⟩
    refine ⟨_, rfl, a, ns, rfl, hS, hl, fun d H1 e1 hd => ?_⟩
    refine ⟨_, rfl, d, 5, rfl, hd, by decide, by decide, fun v p H2 e2 hv kp => ?_⟩
    obtain ⟨b, wd, x, ys, rfl, hb, yl, items, pic⟩ := pa_items hv kp
    have hd2 := hd.mono e2
    have dx : DX 30525 3 H2 (.ref b) := (DX.tup (B := 6104) (n := 2) (m := 4) hb (by simp only [List.length_cons]; omega) (by decide) items).le (by decide) (by decide)
    -- bent or not
    refine ⟨fun σ H' => ∃ v : V, σ = [some (.ref a), some (.ref d), some v] ∧ Ex H2 H' ∧ DX 70000 5 H' v, ?_, ?_⟩
    · have last : ∀ (D : Ends), (∀ σ H', (∃ v : V, σ = [some (.ref a), some (.ref d), some v] ∧ Ex H2 H' ∧ DX 70000 5 H' v) → D.nx σ H') → True := fun _ _ => trivial
      have at0 : atI (V.str wd :: x :: ys) 0 = some (.str wd) := atI_nat (show (V.str wd :: x :: ys)[0]? = some (.str wd) from rfl)
      refine ⟨_, rfl, b, _, 0, _, rfl, rfl, SqT.of hb, at0, "str", "picture", .str wd, rfl, _, rfl, ?_⟩
      cases c : isW "picture" (.str wd) with
      | true =>
        refine iteT ?_
        obtain ⟨rfl, y, zs, rfl, hy, zl, za⟩ := pic c
        refine ⟨_, rfl, d, 3, rfl, hd2, by decide, by decide, fun k k0 k1 => ?_⟩
        refine ⟨rfl, _, rfl, ?_⟩
        refine ite2 (fun _ => ?_) (fun _ => ?_)
        · refine ⟨_, rfl, _, rfl, b, _, 1, _, rfl, rfl, SqT.of hb, atI_nat (show [V.str wd, .ref y][1]? = some (.ref y) from rfl), ?_⟩
          refine ⟨d, y, 4, 1525, 1, zs, rfl, hd2, hy, by omega, by decide, by decide, by decide, za, fun v H3 e3 dv => ?_⟩
          refine ⟨(by show 2 ≤ sizeLine; decide), fun t ht => ?_⟩
          have e4 := Ex.new (o := .tup [.str "picture", v]) ht
          refine ⟨_, rfl, e3.trans e4, (DX.tup (B := 7630) (n := 2) (m := 2) upd_same (by show 2 ≤ 2; decide) (by decide) fun z hz => ?_).le (by decide) (by decide)⟩
          simp only [List.mem_cons, List.not_mem_nil, or_false] at hz
          rcases hz with rfl | rfl
          · exact (DX.str (by decide +kernel) (by decide +kernel) (by decide +kernel) (by decide +kernel)).le (by decide) (by decide)
          · exact dv.ex e4
        · refine ⟨_, rfl, d, 3, rfl, hd2, by decide, by decide, fun k k0 k1 => ?_⟩
          refine ⟨_, _, rfl, rfl, _, rfl, ?_⟩
          refine ite2 (fun _ => ?_) (fun _ => ⟨_, rfl, Ex.refl _, dx.le (by decide) (by decide)⟩)
          refine ⟨_, rfl, _, rfl, d, b, 4, 6104, 2, _, rfl, hd2, hb, by simp only [List.length_cons]; omega, by decide, by decide, by decide, items, fun v H3 e3 dv => ?_⟩
          exact ⟨v, rfl, e3, dv.le (by decide) (by decide)⟩
      | false =>
        refine iteF ?_
        refine ⟨_, rfl, d, 3, rfl, hd2, by decide, by decide, fun k k0 k1 => ?_⟩
        refine ⟨_, _, rfl, rfl, _, rfl, ?_⟩
        refine ite2 (fun _ => ?_) (fun _ => ⟨_, rfl, Ex.refl _, dx.le (by decide) (by decide)⟩)
        refine ⟨_, rfl, _, rfl, d, b, 4, 6104, 2, _, rfl, hd2, hb, by simp only [List.length_cons]; omega, by decide, by decide, by decide, items, fun v H3 e3 dv => ?_⟩
        exact ⟨v, rfl, e3, dv.le (by decide) (by decide)⟩
    · rintro σ H3 ⟨v, rfl, e3, dv⟩
      obtain ⟨dat, hda, hsh, hdep, hlay⟩ := dv
      have dv : DX 70000 5 H3 v := ⟨dat, hda, hsh, hdep, hlay⟩
      obtain ⟨sh, sd⟩ := outP_sh (H := H3) (v := v) hsh hdep (by decide) (by decide) rfl
      refine ⟨_, rfl, v, _, _, rfl, dv, by decide, by decide, fun t1 H4 e4 h4 => ?_⟩
      refine ⟨t1, _, rfl, outP_dp h4 (hda.mono e4), sh.1, sh.2, sd, sh.len (by decide), ?_⟩
      refine ⟨_, rfl, v, _, _, rfl, dv.ex e4, by decide, by decide, fun t2 H5 e5 h5 => ?_⟩
      rw [pO_ex e4 dv] at h5
      refine ⟨t2, _, rfl, outP_dp h5 ((hda.mono e4).mono e5), sh.1, sh.2, sd, sh.len (by decide), rfl, _, rfl, ?_⟩
      refine iteDn rfl ?_
      exact ⟨_, rfl, d, rfl, hd2.mono (e3.trans (e4.trans e5)), fun H' => q H'⟩
end
theorem all_mk {l : PySem.W.OpenLaw} {w : World} {K : PySem.W.Frag} {h : Heap} {mg : Str → Option Value} {fa f0 f1 f2 f3 f4 f5 f6 f7 f8 f9 f10 f11 f12 f13 f14 f15 f16 f17 f18 f19 f20 : Addr} (X : K.In h) (G : h.Ns mainGlobals mg) (hfa : mg "law" = some (.ref fa))
    {od0 an0 od1 an1 od2 an2 od3 an3 od4 an4 od5 an5 od6 an6 od7 an7 od8 an8 od9 an9 od10 an10 od11 an11 od12 an12 od13 an13 od14 an14 od15 an15 od16 an16 od17 an17 od18 an18 od19 an19 od20 an20 : Option Addr} {sl0 sl1 sl2 sl3 sl4 sl5 sl6 sl7 sl8 sl9 sl10 sl11 sl12 sl13 sl14 sl15 sl16 sl17 sl18 sl19 sl20 : Array (Option Value)} {oc0 kV0 dc0 pm0 cd0 ct0 oc1 kV1 dc1 pm1 cd1 ct1 oc2 kV2 dc2 pm2 cd2 ct2 oc3 kV3 dc3 pm3 cd3 ct3 oc4 kV4 dc4 pm4 cd4 ct4 oc5 kV5 dc5 pm5 cd5 ct5 oc6 kV6 dc6 pm6 cd6 ct6 oc7 kV7 dc7 pm7 cd7 ct7 oc8 kV8 dc8 pm8 cd8 ct8 oc9 kV9 dc9 pm9 cd9 ct9 oc10 kV10 dc10 pm10 cd10 ct10 oc11 kV11 dc11 pm11 cd11 ct11 oc12 kV12 dc12 pm12 cd12 ct12 oc13 kV13 dc13 pm13 cd13 ct13 oc14 kV14 dc14 pm14 cd14 ct14 oc15 kV15 dc15 pm15 cd15 ct15 oc16 kV16 dc16 pm16 cd16 ct16 oc17 kV17 dc17 pm17 cd17 ct17 oc18 kV18 dc18 pm18 cd18 ct18 oc19 kV19 dc19 pm19 cd19 ct19 oc20 kV20 dc20 pm20 cd20 ct20 : Value}
    (a0 : PySem.W.nsIn K mainGlobals "_law_deck" = some (some (.ref f0))) (l0 : K.lookup f0 = some ⟨oc0, od0, .func (PySem.W.fnOf "_law_deck" "_law_deck" (defArgs s_l_deck) (defBody s_l_deck) (defScope s_l_deck) .none kV0 dc0 pm0 an0 cd0 ct0), sl0⟩) (c0 : PySem.W.codeIn K cd0 "_law_deck" = true) (k0 : PySem.W.keepIn K (.ref f0) = true)
    (a1 : PySem.W.nsIn K mainGlobals "_law_draw" = some (some (.ref f1))) (l1 : K.lookup f1 = some ⟨oc1, od1, .func (PySem.W.fnOf "_law_draw" "_law_draw" (defArgs s_l_draw) (defBody s_l_draw) (defScope s_l_draw) .none kV1 dc1 pm1 an1 cd1 ct1), sl1⟩) (c1 : PySem.W.codeIn K cd1 "_law_draw" = true) (k1 : PySem.W.keepIn K (.ref f1) = true)
    (a2 : PySem.W.nsIn K mainGlobals "_law_value" = some (some (.ref f2))) (l2 : K.lookup f2 = some ⟨oc2, od2, .func (PySem.W.fnOf "_law_value" "_law_value" (defArgs s_l_value) (defBody s_l_value) (defScope s_l_value) .none kV2 dc2 pm2 an2 cd2 ct2), sl2⟩) (c2 : PySem.W.codeIn K cd2 "_law_value" = true) (k2 : PySem.W.keepIn K (.ref f2) = true)
    (a3 : PySem.W.nsIn K mainGlobals "_law_cover" = some (some (.ref f3))) (l3 : K.lookup f3 = some ⟨oc3, od3, .func (PySem.W.fnOf "_law_cover" "_law_cover" (defArgs s_l_cover) (defBody s_l_cover) (defScope s_l_cover) .none kV3 dc3 pm3 an3 cd3 ct3), sl3⟩) (c3 : PySem.W.codeIn K cd3 "_law_cover" = true) (k3 : PySem.W.keepIn K (.ref f3) = true)
    (a4 : PySem.W.nsIn K mainGlobals "_law_picture" = some (some (.ref f4))) (l4 : K.lookup f4 = some ⟨oc4, od4, .func (PySem.W.fnOf "_law_picture" "_law_picture" (defArgs s_l_picture) (defBody s_l_picture) (defScope s_l_picture) .none kV4 dc4 pm4 an4 cd4 ct4), sl4⟩) (c4 : PySem.W.codeIn K cd4 "_law_picture" = true) (k4 : PySem.W.keepIn K (.ref f4) = true)
    (a5 : PySem.W.nsIn K mainGlobals "_law_paint" = some (some (.ref f5))) (l5 : K.lookup f5 = some ⟨oc5, od5, .func (PySem.W.fnOf "_law_paint" "_law_paint" (defArgs s_l_paint) (defBody s_l_paint) (defScope s_l_paint) .none kV5 dc5 pm5 an5 cd5 ct5), sl5⟩) (c5 : PySem.W.codeIn K cd5 "_law_paint" = true) (k5 : PySem.W.keepIn K (.ref f5) = true)
    (a6 : PySem.W.nsIn K mainGlobals "is_whole" = some (some (.ref f6))) (l6 : K.lookup f6 = some ⟨oc6, od6, .func (PySem.W.fnOf "is_whole" "is_whole" (defArgs s_is_whole) (defBody s_is_whole) (defScope s_is_whole) .none kV6 dc6 pm6 an6 cd6 ct6), sl6⟩) (c6 : PySem.W.codeIn K cd6 "is_whole" = true) (k6 : PySem.W.keepIn K (.ref f6) = true)
    (a7 : PySem.W.nsIn K mainGlobals "is_number" = some (some (.ref f7))) (l7 : K.lookup f7 = some ⟨oc7, od7, .func (PySem.W.fnOf "is_number" "is_number" (defArgs s_is_number) (defBody s_is_number) (defScope s_is_number) .none kV7 dc7 pm7 an7 cd7 ct7), sl7⟩) (c7 : PySem.W.codeIn K cd7 "is_number" = true) (k7 : PySem.W.keepIn K (.ref f7) = true)
    (a8 : PySem.W.nsIn K mainGlobals "_law_count" = some (some (.ref f8))) (l8 : K.lookup f8 = some ⟨oc8, od8, .func (PySem.W.fnOf "_law_count" "_law_count" (defArgs s_l_count) (defBody s_l_count) (defScope s_l_count) .none kV8 dc8 pm8 an8 cd8 ct8), sl8⟩) (c8 : PySem.W.codeIn K cd8 "_law_count" = true) (k8 : PySem.W.keepIn K (.ref f8) = true)
    (a9 : PySem.W.nsIn K mainGlobals "_are_numbers" = some (some (.ref f9))) (l9 : K.lookup f9 = some ⟨oc9, od9, .func (PySem.W.fnOf "_are_numbers" "_are_numbers" (defArgs s_are_numbers) (defBody s_are_numbers) (defScope s_are_numbers) .none kV9 dc9 pm9 an9 cd9 ct9), sl9⟩) (c9 : PySem.W.codeIn K cd9 "_are_numbers" = true) (k9 : PySem.W.keepIn K (.ref f9) = true)
    (a10 : PySem.W.nsIn K mainGlobals "_law_strange" = some (some (.ref f10))) (l10 : K.lookup f10 = some ⟨oc10, od10, .func (PySem.W.fnOf "_law_strange" "_law_strange" (defArgs s_l_strange) (defBody s_l_strange) (defScope s_l_strange) .none kV10 dc10 pm10 an10 cd10 ct10), sl10⟩) (c10 : PySem.W.codeIn K cd10 "_law_strange" = true) (k10 : PySem.W.keepIn K (.ref f10) = true)
    (a11 : PySem.W.nsIn K mainGlobals "_law_bent" = some (some (.ref f11))) (l11 : K.lookup f11 = some ⟨oc11, od11, .func (PySem.W.fnOf "_law_bent" "_law_bent" (defArgs s_l_bent) (defBody s_l_bent) (defScope s_l_bent) .none kV11 dc11 pm11 an11 cd11 ct11), sl11⟩) (c11 : PySem.W.codeIn K cd11 "_law_bent" = true) (k11 : PySem.W.keepIn K (.ref f11) = true)
    (a12 : PySem.W.nsIn K mainGlobals "_has_form" = some (some (.ref f12))) (l12 : K.lookup f12 = some ⟨oc12, od12, .func (PySem.W.fnOf "_has_form" "_has_form" (defArgs s_has_form) (defBody s_has_form) (defScope s_has_form) .none kV12 dc12 pm12 an12 cd12 ct12), sl12⟩) (c12 : PySem.W.codeIn K cd12 "_has_form" = true) (k12 : PySem.W.keepIn K (.ref f12) = true)
    (a13 : PySem.W.nsIn K mainGlobals "check_picture" = some (some (.ref f13))) (l13 : K.lookup f13 = some ⟨oc13, od13, .func (PySem.W.fnOf "check_picture" "check_picture" (defArgs s_check_picture) (defBody s_check_picture) (defScope s_check_picture) .none kV13 dc13 pm13 an13 cd13 ct13), sl13⟩) (c13 : PySem.W.codeIn K cd13 "check_picture" = true) (k13 : PySem.W.keepIn K (.ref f13) = true)
    (a14 : PySem.W.nsIn K mainGlobals "check_paint" = some (some (.ref f14))) (l14 : K.lookup f14 = some ⟨oc14, od14, .func (PySem.W.fnOf "check_paint" "check_paint" (defArgs s_check_paint) (defBody s_check_paint) (defScope s_check_paint) .none kV14 dc14 pm14 an14 cd14 ct14), sl14⟩) (c14 : PySem.W.codeIn K cd14 "check_paint" = true) (k14 : PySem.W.keepIn K (.ref f14) = true)
    (a15 : PySem.W.nsIn K mainGlobals "_law_is_paint" = some (some (.ref f15))) (l15 : K.lookup f15 = some ⟨oc15, od15, .func (PySem.W.fnOf "_law_is_paint" "_law_is_paint" (defArgs s_l_is_paint) (defBody s_l_is_paint) (defScope s_l_is_paint) .none kV15 dc15 pm15 an15 cd15 ct15), sl15⟩) (c15 : PySem.W.codeIn K cd15 "_law_is_paint" = true) (k15 : PySem.W.keepIn K (.ref f15) = true)
    (a16 : PySem.W.nsIn K mainGlobals "_law_told" = some (some (.ref f16))) (l16 : K.lookup f16 = some ⟨oc16, od16, .func (PySem.W.fnOf "_law_told" "_law_told" (defArgs s_l_told) (defBody s_l_told) (defScope s_l_told) .none kV16 dc16 pm16 an16 cd16 ct16), sl16⟩) (c16 : PySem.W.codeIn K cd16 "_law_told" = true) (k16 : PySem.W.keepIn K (.ref f16) = true)
    (a17 : PySem.W.nsIn K mainGlobals "_law_due" = some (some (.ref f17))) (l17 : K.lookup f17 = some ⟨oc17, od17, .func (PySem.W.fnOf "_law_due" "_law_due" (defArgs s_l_due) (defBody s_l_due) (defScope s_l_due) .none kV17 dc17 pm17 an17 cd17 ct17), sl17⟩) (c17 : PySem.W.codeIn K cd17 "_law_due" = true) (k17 : PySem.W.keepIn K (.ref f17) = true)
    (a18 : PySem.W.nsIn K mainGlobals "is_name" = some (some (.ref f18))) (l18 : K.lookup f18 = some ⟨oc18, od18, .func (PySem.W.fnOf "is_name" "is_name" (defArgs s_is_name) (defBody s_is_name) (defScope s_is_name) .none kV18 dc18 pm18 an18 cd18 ct18), sl18⟩) (c18 : PySem.W.codeIn K cd18 "is_name" = true) (k18 : PySem.W.keepIn K (.ref f18) = true)
    (a19 : PySem.W.nsIn K mainGlobals "_law_name_fits" = some (some (.ref f19))) (l19 : K.lookup f19 = some ⟨oc19, od19, .func (PySem.W.fnOf "_law_name_fits" "_law_name_fits" (defArgs s_l_name_fits) (defBody s_l_name_fits) (defScope s_l_name_fits) .none kV19 dc19 pm19 an19 cd19 ct19), sl19⟩) (c19 : PySem.W.codeIn K cd19 "_law_name_fits" = true) (k19 : PySem.W.keepIn K (.ref f19) = true)
    (a20 : PySem.W.nsIn K mainGlobals "law" = some (some (.ref f20))) (l20 : K.lookup f20 = some ⟨oc20, od20, .func (PySem.W.fnOf "law" "law" (defArgs s_law) (defBody s_law) (defScope s_law) .none kV20 dc20 pm20 an20 cd20 ct20), sl20⟩) (c20 : PySem.W.codeIn K cd20 "law" = true) (k20 : PySem.W.keepIn K (.ref f20) = true)
    (z_abs : PySem.W.nsIn K mainGlobals "abs" = some none)
    (z_all : PySem.W.nsIn K mainGlobals "all" = some none)
    (z_bool : PySem.W.nsIn K mainGlobals "bool" = some none)
    (z_int : PySem.W.nsIn K mainGlobals "int" = some none)
    (z_isinstance : PySem.W.nsIn K mainGlobals "isinstance" = some none)
    (z_len : PySem.W.nsIn K mainGlobals "len" = some none)
    (z_list : PySem.W.nsIn K mainGlobals "list" = some none)
    (z_max : PySem.W.nsIn K mainGlobals "max" = some none)
    (z_range : PySem.W.nsIn K mainGlobals "range" = some none)
    (z_repr : PySem.W.nsIn K mainGlobals "repr" = some none)
    (z_str : PySem.W.nsIn K mainGlobals "str" = some none)
    (z_tuple : PySem.W.nsIn K mainGlobals "tuple" = some none)
    {t_COVER_MOST : Tok} (z_COVER_MOST : PySem.W.nsIn K mainGlobals "COVER_MOST" = some (some (.int 256 t_COVER_MOST)))
    {t_LETTERS : Tok} (z_LETTERS : PySem.W.nsIn K mainGlobals "LETTERS" = some (some (.str "abcdefghijklmnopqrstuvwxyz" t_LETTERS)))
    {t_NAME_MOST : Tok} (z_NAME_MOST : PySem.W.nsIn K mainGlobals "NAME_MOST" = some (some (.int 8 t_NAME_MOST)))
    {t_PICTURE_SIDE_MOST : Tok} (z_PICTURE_SIDE_MOST : PySem.W.nsIn K mainGlobals "PICTURE_SIDE_MOST" = some (some (.int 12 t_PICTURE_SIDE_MOST)))
    {t_STEP_MOST : Tok} (z_STEP_MOST : PySem.W.nsIn K mainGlobals "STEP_MOST" = some (some (.int 12 t_STEP_MOST)))
    {t_VALUE_MOST : Tok} (z_VALUE_MOST : PySem.W.nsIn K mainGlobals "VALUE_MOST" = some (some (.int 255 t_VALUE_MOST)))
    {eZ0 : Addr} {fZ0 dTZ0 : Addr} {odZ0 odTZ0 anZ0 : Option Addr} {slZ0 slTZ0 : Array (Option Value)} {nTZ0 : Nat} {ocZ0 kVZ0 dcZ0 pmZ0 cdZ0 ctZ0 : Value} (aZ0 : PySem.W.nsIn K mainGlobals "FilmError" = some (some (.ref eZ0))) (rZ0 : PySem.W.readsIn K eZ0 (.type "type") = true) (gZ0 : PySem.W.specialIn K (.ref eZ0) "__getattribute__" = some (some (.builtin "type.__getattribute__"))) (iZ0 : PySem.W.findCls K (.ref eZ0) (.type "type") "__init__" = some (.val (.ref fZ0))) (vZ0 : PySem.W.findCls K (.type "ValueError") (.type "type") "__init__" = some (.val (.builtin "ValueError.__init__"))) (wZ0 : PySem.W.nsIn K mainGlobals "ValueError" = some none) (lZ0 : K.lookup fZ0 = some ⟨ocZ0, odZ0, .func (PySem.W.fnOf "__init__" "FilmError.__init__" (defArgs s_FilmErr) (defBody s_FilmErr) (defScope s_FilmErr) (.ref dTZ0) kVZ0 dcZ0 pmZ0 anZ0 cdZ0 ctZ0), slZ0⟩) (cZ0 : PySem.W.codeIn K cdZ0 "FilmError.__init__" = true) (kZ0 : PySem.W.keepIn K (.ref fZ0) = true) (dZ0 : K.lookup dTZ0 = some ⟨.type "tuple", odTZ0, .seq #[.none] nTZ0, slTZ0⟩)
    {eZ1 : Addr} {nmZ1 qZ1 : Str} {NZ1 : Addr} {bsZ1 : List Value} {snZ1 : List Str} {subZ1 : List Value} {abZ1 : Bool} {colZ1 : Option Bool} {ddZ1 : Option Addr} {m0Z1 m1Z1 m2Z1 m3Z1 m5Z1 : Option Value} {fZ1 dTZ1 : Addr} {odZ1 odTZ1 anZ1 : Option Addr} {slZ1 slTZ1 : Array (Option Value)} {nTZ1 : Nat} {ocZ1 kVZ1 dcZ1 pmZ1 cdZ1 ctZ1 : Value} (aZ1 : PySem.W.nsIn K mainGlobals "BadPaint" = some (some (.ref eZ1))) (xZ1 : K.lookup eZ1 = some (excClassObj nmZ1 qZ1 eZ1 NZ1 bsZ1 [.ref eZ0, .type "ValueError", .type "Exception", .type "BaseException", .type "object"] true snZ1 subZ1 abZ1 colZ1 ddZ1 m0Z1 m1Z1 m2Z1 m3Z1 m5Z1 "ValueError.__new__")) (saZ1 : PySem.W.findIn K (.ref eZ1) "__setattr__" = some (some (.builtin "object.__setattr__"))) (gaZ1 : PySem.W.findIn K (.ref eZ1) "__getattribute__" = some (some (.builtin "BaseException.__getattribute__"))) (ggZ1 : PySem.W.findIn K (.ref eZ1) "__getattr__" = some none) (nwZ1 : PySem.W.findIn K (.ref eZ1) "word" = some none) (npZ1 : PySem.W.findIn K (.ref eZ1) "place" = some none) (iZ1 : PySem.W.findIn K (.ref eZ1) "__init__" = some (some (.ref fZ1))) (tZ1 : PySem.W.typeIn K (.ref fZ1) = some (.type "function")) (keZ1 : PySem.W.keepIn K (.ref eZ1) = true) (exZ1 : PySem.W.subIn K (.ref eZ1) (.type "BaseException") = some true) (tyZ1 : PySem.W.typeIn K (.ref eZ1) = some (.type "type")) (hdZ1 : PySem.W.hasDictIn K eZ1 = true) (icZ1 : PySem.W.isClsIn K eZ1 = true) (scZ1 : PySem.W.subIn K (.ref eZ1) (.ref eZ1) = some true) (lZ1 : K.lookup fZ1 = some ⟨ocZ1, odZ1, .func (PySem.W.fnOf "__init__" "BadPaint.__init__" (defArgs s_BadPaint) (defBody s_BadPaint) (defScope s_BadPaint) (.ref dTZ1) kVZ1 dcZ1 pmZ1 anZ1 cdZ1 ctZ1), slZ1⟩) (cZ1 : PySem.W.codeIn K cdZ1 "BadPaint.__init__" = true) (kZ1 : PySem.W.keepIn K (.ref fZ1) = true) (dZ1 : K.lookup dTZ1 = some ⟨.type "tuple", odTZ1, .seq #[.none] nTZ1, slTZ1⟩)
(haZ1 : PySem.W.findIn K (.ref eZ1) "__class__" = some (some (.builtin "object.__class__"))) (hnZ1 : PySem.W.specialIn K (.builtin "object.__class__") "__get__" = some (some (.builtin "getset_descriptor.__get__"))) (htZ1 : PySem.W.takesIn K (.builtin "object.__class__") = some true) (hmZ1 : PySem.W.mroIn K eZ1 (.type "object") = some true) (veZ1 : PySem.W.kitOne K (.ref eZ1) (.type "ValueError") = some true)
{qZ1_FilmError : Addr} (pZ1_FilmError : PySem.W.nsIn K mainGlobals "FilmError" = some (some (.ref qZ1_FilmError))) (wZ1_FilmError : PySem.W.kitOne K (.ref eZ1) (.ref qZ1_FilmError) = some true)
{qZ1_BadPicture : Addr} (pZ1_BadPicture : PySem.W.nsIn K mainGlobals "BadPicture" = some (some (.ref qZ1_BadPicture))) (wZ1_BadPicture : PySem.W.kitOne K (.ref eZ1) (.ref qZ1_BadPicture) = some false)
    {eZ2 : Addr} {nmZ2 qZ2 : Str} {NZ2 : Addr} {bsZ2 : List Value} {snZ2 : List Str} {subZ2 : List Value} {abZ2 : Bool} {colZ2 : Option Bool} {ddZ2 : Option Addr} {m0Z2 m1Z2 m2Z2 m3Z2 m5Z2 : Option Value} {fZ2 dTZ2 : Addr} {odZ2 odTZ2 anZ2 : Option Addr} {slZ2 slTZ2 : Array (Option Value)} {nTZ2 : Nat} {ocZ2 kVZ2 dcZ2 pmZ2 cdZ2 ctZ2 : Value} (aZ2 : PySem.W.nsIn K mainGlobals "BadPicture" = some (some (.ref eZ2))) (xZ2 : K.lookup eZ2 = some (excClassObj nmZ2 qZ2 eZ2 NZ2 bsZ2 [.ref eZ0, .type "ValueError", .type "Exception", .type "BaseException", .type "object"] true snZ2 subZ2 abZ2 colZ2 ddZ2 m0Z2 m1Z2 m2Z2 m3Z2 m5Z2 "ValueError.__new__")) (saZ2 : PySem.W.findIn K (.ref eZ2) "__setattr__" = some (some (.builtin "object.__setattr__"))) (gaZ2 : PySem.W.findIn K (.ref eZ2) "__getattribute__" = some (some (.builtin "BaseException.__getattribute__"))) (ggZ2 : PySem.W.findIn K (.ref eZ2) "__getattr__" = some none) (nwZ2 : PySem.W.findIn K (.ref eZ2) "word" = some none) (npZ2 : PySem.W.findIn K (.ref eZ2) "place" = some none) (iZ2 : PySem.W.findIn K (.ref eZ2) "__init__" = some (some (.ref fZ2))) (tZ2 : PySem.W.typeIn K (.ref fZ2) = some (.type "function")) (keZ2 : PySem.W.keepIn K (.ref eZ2) = true) (exZ2 : PySem.W.subIn K (.ref eZ2) (.type "BaseException") = some true) (tyZ2 : PySem.W.typeIn K (.ref eZ2) = some (.type "type")) (hdZ2 : PySem.W.hasDictIn K eZ2 = true) (icZ2 : PySem.W.isClsIn K eZ2 = true) (scZ2 : PySem.W.subIn K (.ref eZ2) (.ref eZ2) = some true) (lZ2 : K.lookup fZ2 = some ⟨ocZ2, odZ2, .func (PySem.W.fnOf "__init__" "BadPicture.__init__" (defArgs s_BadPicture) (defBody s_BadPicture) (defScope s_BadPicture) (.ref dTZ2) kVZ2 dcZ2 pmZ2 anZ2 cdZ2 ctZ2), slZ2⟩) (cZ2 : PySem.W.codeIn K cdZ2 "BadPicture.__init__" = true) (kZ2 : PySem.W.keepIn K (.ref fZ2) = true) (dZ2 : K.lookup dTZ2 = some ⟨.type "tuple", odTZ2, .seq #[.none] nTZ2, slTZ2⟩)
(uZ2_Z1 : PySem.W.subIn K (.ref eZ2) (.ref eZ1) = some false)
    : ∃ fd : FuncData, (∀ (s : Shared) (v : Value), BindsTo s fd ⟨[v], []⟩ [("script", v)]) ∧ ∀ base : Heap, K.In base → base.Ns mainGlobals mg → FnG l.prog w K mg base CX0 7 fa fd ["script"] (spLaw K) := by
  have e := hfa.symm.trans (PySem.W.mg_of X G a20)
  cases e
  have T : Txt K mg := ⟨PySem.W.mg_none_of X G z_abs, PySem.W.mg_none_of X G z_all, PySem.W.mg_none_of X G z_bool, PySem.W.mg_none_of X G z_int, PySem.W.mg_none_of X G z_isinstance, PySem.W.mg_none_of X G z_len, PySem.W.mg_none_of X G z_list, PySem.W.mg_none_of X G z_max, PySem.W.mg_none_of X G z_range, PySem.W.mg_none_of X G z_repr, PySem.W.mg_none_of X G z_str, PySem.W.mg_none_of X G z_tuple, ⟨_, PySem.W.mg_of X G z_COVER_MOST⟩, ⟨_, PySem.W.mg_of X G z_LETTERS⟩, ⟨_, PySem.W.mg_of X G z_NAME_MOST⟩, ⟨_, PySem.W.mg_of X G z_PICTURE_SIDE_MOST⟩, ⟨_, PySem.W.mg_of X G z_STEP_MOST⟩, ⟨_, PySem.W.mg_of X G z_VALUE_MOST⟩⟩
  refine ⟨PySem.W.fnOf "law" "law" (defArgs s_law) (defBody s_law) (defScope s_law) .none kV20 dc20 pm20 an20 cd20 ct20, fun s v => .of_eq rfl, fun base _ _ => ?_⟩
  have FT : FilmTxt K mg eZ0 fZ0 := ⟨PySem.W.mg_of X G aZ0, rZ0, gZ0, iZ0, PySem.W.mg_none_of X G wZ0, vZ0⟩
  have FZ0 : FunD K "__init__" "FilmError.__init__" (defArgs s_FilmErr) (defBody s_FilmErr) (defScope s_FilmErr) [.non] [] fZ0 _ := ⟨⟨_, _, _, _, _, _, _, _, _, _, rfl, lZ0, cZ0, .inr ⟨by simp, _, _, [.none], _, rfl, dZ0, rfl, .cons rfl .nil⟩, .inl rfl⟩, kZ0⟩
  have GZ0 := ok_FilmErr (P := l.prog) (w := w) (base := base) FZ0 FT
  have bZ0 := binds_FilmErr FZ0
  have FZ1 : FunD K "__init__" "BadPaint.__init__" (defArgs s_BadPaint) (defBody s_BadPaint) (defScope s_BadPaint) [.non] [] fZ1 _ := ⟨⟨_, _, _, _, _, _, _, _, _, _, rfl, lZ1, cZ1, .inr ⟨by simp, _, _, [.none], _, rfl, dZ1, rfl, .cons rfl .nil⟩, .inl rfl⟩, kZ1⟩
  have OZ1 : OexC K eZ1 := ⟨⟨_, _, _, _, _, _, _, _, _, _, _, _, _, _, _, xZ1, by rfl⟩, saZ1, exZ1, tyZ1, keZ1⟩
  have KB_BadPaint : KindOk l.prog w K mg base "BadPaint" eZ1 := ⟨fZ1, ⟨PySem.W.mg_of X G aZ1, OZ1, ⟨gaZ1, ggZ1, exZ1, hdZ1⟩, nwZ1, npZ1, iZ1, tZ1, exm_self exZ1 icZ1 tyZ1 scZ1⟩, _, ok_BadPaint FZ1 FT GZ0 kZ0 bZ0, binds_BadPaint FZ1⟩
  have IV_BadPaint : IsV K eZ1 := ⟨⟨gaZ1, ggZ1, exZ1, hdZ1, haZ1, hnZ1, htZ1, hmZ1⟩, icZ1, veZ1⟩
  have IK_BadPaint_FilmError : IsK K mg eZ1 "FilmError" true := ⟨_, PySem.W.mg_of X G pZ1_FilmError, wZ1_FilmError⟩
  have IK_BadPaint_BadPicture : IsK K mg eZ1 "BadPicture" false := ⟨_, PySem.W.mg_of X G pZ1_BadPicture, wZ1_BadPicture⟩
  have FZ2 : FunD K "__init__" "BadPicture.__init__" (defArgs s_BadPicture) (defBody s_BadPicture) (defScope s_BadPicture) [.non] [] fZ2 _ := ⟨⟨_, _, _, _, _, _, _, _, _, _, rfl, lZ2, cZ2, .inr ⟨by simp, _, _, [.none], _, rfl, dZ2, rfl, .cons rfl .nil⟩, .inl rfl⟩, kZ2⟩
  have OZ2 : OexC K eZ2 := ⟨⟨_, _, _, _, _, _, _, _, _, _, _, _, _, _, _, xZ2, by rfl⟩, saZ2, exZ2, tyZ2, keZ2⟩
  have KB_BadPicture : KindOk l.prog w K mg base "BadPicture" eZ2 := ⟨fZ2, ⟨PySem.W.mg_of X G aZ2, OZ2, ⟨gaZ2, ggZ2, exZ2, hdZ2⟩, nwZ2, npZ2, iZ2, tZ2, exm_self exZ2 icZ2 tyZ2 scZ2⟩, _, ok_BadPicture FZ2 FT GZ0 kZ0 bZ0, binds_BadPicture FZ2⟩
  have EX_BadPicture_BadPaint : PySem.W.exmOne K (.ref eZ2) (.ref eZ1) = some false := exm_no exZ1 icZ1 tyZ1 uZ2_Z1
  have F0 := fun_mk (st := s_l_deck) l0 c0 k0
  have D_l_deck : Def l.prog w K mg base CX0 "_law_deck" 1 ["script"] (spDeck K) := ⟨f0, _, ok_l_deck F0 T, PySem.W.mg_of X G a0, k0, F0.binds (ps := ["script"]) fun _ _ _ _ _ _ us hl => match us, hl with | [_], _ => rfl⟩
  have F1 := fun_mk (st := s_l_draw) l1 c1 k1
  have D_l_draw : Def l.prog w K mg base CX0 "_law_draw" 1 ["deck", "bound"] (spDraw K) := ⟨f1, _, ok_l_draw F1 T, PySem.W.mg_of X G a1, k1, F1.binds (ps := ["deck", "bound"]) fun _ _ _ _ _ _ us hl => match us, hl with | [_, _], _ => rfl⟩
  have F2 := fun_mk (st := s_l_value) l2 c2 k2
  have D_l_value : Def l.prog w K mg base CX0 "_law_value" 2 ["deck"] (spDrawn K 255) := ⟨f2, _, ok_l_value F2 T D_l_draw, PySem.W.mg_of X G a2, k2, F2.binds (ps := ["deck"]) fun _ _ _ _ _ _ us hl => match us, hl with | [_], _ => rfl⟩
  have F3 := fun_mk (st := s_l_cover) l3 c3 k3
  have D_l_cover : Def l.prog w K mg base CX0 "_law_cover" 2 ["deck"] (spDrawn K 256) := ⟨f3, _, ok_l_cover F3 T D_l_draw, PySem.W.mg_of X G a3, k3, F3.binds (ps := ["deck"]) fun _ _ _ _ _ _ us hl => match us, hl with | [_], _ => rfl⟩
  have F4 := fun_mk (st := s_l_picture) l4 c4 k4
  have D_l_picture : Def l.prog w K mg base CX0 "_law_picture" 3 ["deck", "most"] (spPicture K) := ⟨f4, _, ok_l_picture F4 T D_l_draw D_l_value D_l_cover, PySem.W.mg_of X G a4, k4, F4.binds (ps := ["deck", "most"]) fun _ _ _ _ _ _ us hl => match us, hl with | [_, _], _ => rfl⟩
  have F5 := fun_mk (st := s_l_paint) l5 c5 k5
  have D_l_paint : Def l.prog w K mg base CX0 "_law_paint" 4 ["deck", "most"] (spPaint K) := ⟨f5, _, ok_l_paint F5 T D_l_draw D_l_value D_l_picture, PySem.W.mg_of X G a5, k5, F5.binds (ps := ["deck", "most"]) fun _ _ _ _ _ _ us hl => match us, hl with | [_, _], _ => rfl⟩
  have F6 := fun_mk (st := s_is_whole) l6 c6 k6
  have D_is_whole : Def l.prog w K mg base CX0 "is_whole" 1 ["value"] (spWhole) := ⟨f6, _, ok_is_whole F6 T, PySem.W.mg_of X G a6, k6, F6.binds (ps := ["value"]) fun _ _ _ _ _ _ us hl => match us, hl with | [_], _ => rfl⟩
  have F7 := fun_mk (st := s_is_number) l7 c7 k7
  have D_is_number : Def l.prog w K mg base CX0 "is_number" 2 ["value", "least", "most"] (spNumber) := ⟨f7, _, ok_is_number F7 T D_is_whole, PySem.W.mg_of X G a7, k7, F7.binds (ps := ["value", "least", "most"]) fun _ _ _ _ _ _ us hl => match us, hl with | [_, _, _], _ => rfl⟩
  have F8 := fun_mk (st := s_l_count) l8 c8 k8
  have D_l_count : Def l.prog w K mg base CX0 "_law_count" 1 ["value", "least", "most"] (spNumber) := ⟨f8, _, ok_l_count F8 T, PySem.W.mg_of X G a8, k8, F8.binds (ps := ["value", "least", "most"]) fun _ _ _ _ _ _ us hl => match us, hl with | [_, _, _], _ => rfl⟩
  have F9 := fun_mk (st := s_are_numbers) l9 c9 k9
  have D_are_numbers : Def l.prog w K mg base CX0 "_are_numbers" 3 ["items", "many", "most"] (spNums) := ⟨f9, _, ok_are_numbers F9 T D_is_number, PySem.W.mg_of X G a9, k9, F9.binds (ps := ["items", "many", "most"]) fun _ _ _ _ _ _ us hl => match us, hl with | [_, _, _], _ => rfl⟩
  have F10 := fun_mk (st := s_l_strange) l10 c10 k10
  have D_l_strange : Def l.prog w K mg base CX0 "_law_strange" 2 ["deck"] (spOddX K) := ⟨f10, _, ok_l_strange F10 T D_l_draw, PySem.W.mg_of X G a10, k10, F10.binds (ps := ["deck"]) fun _ _ _ _ _ _ us hl => match us, hl with | [_], _ => rfl⟩
  have F11 := fun_mk (st := s_l_bent) l11 c11 k11
  have D_l_bent : Def l.prog w K mg base CX0 "_law_bent" 3 ["deck", "item"] (spBentX K) := ⟨f11, _, ok_l_bent F11 T D_l_draw D_l_strange, PySem.W.mg_of X G a11, k11, F11.binds (ps := ["deck", "item"]) fun _ _ _ _ _ _ us hl => match us, hl with | [_, _], _ => rfl⟩
  have F12 := fun_mk (st := s_has_form) l12 c12 k12
  have D_has_form : Def l.prog w K mg base CX0 "_has_form" 3 ["paint"] (spFormP K) := ⟨f12, _, ok_has_form F12 T D_is_number, PySem.W.mg_of X G a12, k12, F12.binds (ps := ["paint"]) fun _ _ _ _ _ _ us hl => match us, hl with | [_], _ => rfl⟩
  have F13 := fun_mk (st := s_check_picture) l13 c13 k13
  have D_check_picture : Def l.prog w K mg base (L2.CX l.prog w) "check_picture" 4 ["picture"] (spChk15 eZ2) := ⟨f13, _, ok_check_picture F13 T KB_BadPicture D_is_number D_are_numbers, PySem.W.mg_of X G a13, k13, F13.binds (ps := ["picture"]) fun _ _ _ _ _ _ us hl => match us, hl with | [_], _ => rfl⟩
  have F14 := fun_mk (st := s_check_paint) l14 c14 k14
  have D_check_paint : Def l.prog w K mg base (L2.CX l.prog w) "check_paint" 5 ["paint"] (spChkP eZ1 eZ2) := ⟨f14, _, ok_check_paint F14 T KB_BadPaint D_has_form D_check_picture, PySem.W.mg_of X G a14, k14, F14.binds (ps := ["paint"]) fun _ _ _ _ _ _ us hl => match us, hl with | [_], _ => rfl⟩
  have F15 := fun_mk (st := s_l_is_paint) l15 c15 k15
  have D_l_is_paint : Def l.prog w K mg base CX0 "_law_is_paint" 2 ["paint"] (spIsPaint) := ⟨f15, _, ok_l_is_paint F15 T D_l_count, PySem.W.mg_of X G a15, k15, F15.binds (ps := ["paint"]) fun _ _ _ _ _ _ us hl => match us, hl with | [_], _ => rfl⟩
  have F16 := fun_mk (st := s_l_told) l16 c16 k16
  have D_l_told : Def l.prog w K mg base CX0 "_law_told" 6 ["paint"] (spToldP) := ⟨f16, _, ok_l_told F16 T KB_BadPaint KB_BadPicture IV_BadPaint IK_BadPaint_FilmError IK_BadPaint_BadPicture EX_BadPicture_BadPaint D_check_paint, PySem.W.mg_of X G a16, k16, F16.binds (ps := ["paint"]) fun _ _ _ _ _ _ us hl => match us, hl with | [_], _ => rfl⟩
  have F17 := fun_mk (st := s_l_due) l17 c17 k17
  have D_l_due : Def l.prog w K mg base CX0 "_law_due" 5 ["paint"] (spToldP) := ⟨f17, _, ok_l_due F17 T KB_BadPicture D_l_is_paint D_check_picture, PySem.W.mg_of X G a17, k17, F17.binds (ps := ["paint"]) fun _ _ _ _ _ _ us hl => match us, hl with | [_], _ => rfl⟩
  have F18 := fun_mk (st := s_is_name) l18 c18 k18
  have D_is_name : Def l.prog w K mg base CX0 "is_name" 1 ["value"] (spIsName) := ⟨f18, _, ok_is_name F18 T, PySem.W.mg_of X G a18, k18, F18.binds (ps := ["value"]) fun _ _ _ _ _ _ us hl => match us, hl with | [_], _ => rfl⟩
  have F19 := fun_mk (st := s_l_name_fits) l19 c19 k19
  have D_l_name_fits : Def l.prog w K mg base CX0 "_law_name_fits" 2 ["deck"] (spNameFits K) := ⟨f19, _, ok_l_name_fits F19 T D_l_draw D_is_name, PySem.W.mg_of X G a19, k19, F19.binds (ps := ["deck"]) fun _ _ _ _ _ _ us hl => match us, hl with | [_], _ => rfl⟩
  exact ok_law (fun_mk (st := s_law) l20 c20 k20) T D_l_deck D_l_draw D_l_paint D_l_bent D_l_told D_l_due D_l_name_fits
theorem walk {l : PySem.W.OpenLaw} {q : Program} {loose : List Str} {XP : (Str → Option Value) → Heap → Prop} {YP : World → Heap → Prop} {d : DefRec} {K : Params → PySem.W.Frag} (hn : l.most = some 63) (hdf : d.params.defaults = [])
    (hY : ∀ (w : World) (h : Heap), YP w h → (K w.params).In h)
    (F : ∀ (w : World) (mg : Str → Option Value) (fa : Addr) (h : Heap), (K w.params).In h → h.Ns mainGlobals mg → mg d.name = some (.ref fa) →
      ∃ fd : FuncData, (∀ (s : Shared) (u : Value), BindsTo s fd ⟨[u], []⟩ [("script", u)]) ∧ ∀ base : Heap, (K w.params).In base → base.Ns mainGlobals mg → FnG l.prog w (K w.params) mg base CX0 7 fa fd ["script"] (spLaw (K w.params))) :
    PySem.W.WalkO q loose XP YP l.row.toRowW d [] (fun f vs => PySem.call f vs) :=
  walk_g (n := 63) (k := 7) (x := "script") (sp := fun w => spLaw (K w.params)) hn (by decide) hdf ⟨rfl, by decide, by decide⟩ hY F fun _ _ a ns hl _ hS => ⟨a, ns, rfl, hS, hl, fun _ => rfl⟩
end Od
open PySem PySem.W PyProof.Rows in
set_option maxRecDepth 100000 in
set_option maxHeartbeats 0 in
theorem PySem.Challenge.cw_onlythedirt_k19_paints_checked_holds : PySem.Challenge.rw_onlythedirt_k19_paints_checked.Holds := by
  w_on; o_law; k_head; (case hw => w_witness2)
  k_fill
  refine Od.walk (l := PySem.Challenge.rw_onlythedirt_k19_paints_checked) rfl rfl (fun w h Y => PySem.W.kIn_of Y) ?F
  case F =>
    intro w mg fa h KX G hmg
    refine' Od.all_mk KX G hmg ?a0 ?l0 ?c0 ?k0 ?a1 ?l1 ?c1 ?k1 ?a2 ?l2 ?c2 ?k2 ?a3 ?l3 ?c3 ?k3 ?a4 ?l4 ?c4 ?k4 ?a5 ?l5 ?c5 ?k5 ?a6 ?l6 ?c6 ?k6 ?a7 ?l7 ?c7 ?k7 ?a8 ?l8 ?c8 ?k8 ?a9 ?l9 ?c9 ?k9 ?a10 ?l10 ?c10 ?k10 ?a11 ?l11 ?c11 ?k11 ?a12 ?l12 ?c12 ?k12 ?a13 ?l13 ?c13 ?k13 ?a14 ?l14 ?c14 ?k14 ?a15 ?l15 ?c15 ?k15 ?a16 ?l16 ?c16 ?k16 ?a17 ?l17 ?c17 ?k17 ?a18 ?l18 ?c18 ?k18 ?a19 ?l19 ?c19 ?k19 ?a20 ?l20 ?c20 ?k20 ?z_abs ?z_all ?z_bool ?z_int ?z_isinstance ?z_len ?z_list ?z_max ?z_range ?z_repr ?z_str ?z_tuple ?z_COVER_MOST ?z_LETTERS ?z_NAME_MOST ?z_PICTURE_SIDE_MOST ?z_STEP_MOST ?z_VALUE_MOST ?aZ0 ?rZ0 ?gZ0 ?iZ0 ?vZ0 ?wZ0 ?lZ0 ?cZ0 ?kZ0 ?dZ0 ?aZ1 ?xZ1 ?saZ1 ?gaZ1 ?ggZ1 ?nwZ1 ?npZ1 ?iZ1 ?tZ1 ?keZ1 ?exZ1 ?tyZ1 ?hdZ1 ?icZ1 ?scZ1 ?lZ1 ?cZ1 ?kZ1 ?dZ1 ?haZ1 ?hnZ1 ?htZ1 ?hmZ1 ?veZ1 ?pZ1_FilmError ?wZ1_FilmError ?pZ1_BadPicture ?wZ1_BadPicture ?aZ2 ?xZ2 ?saZ2 ?gaZ2 ?ggZ2 ?nwZ2 ?npZ2 ?iZ2 ?tZ2 ?keZ2 ?exZ2 ?tyZ2 ?hdZ2 ?icZ2 ?scZ2 ?lZ2 ?cZ2 ?kZ2 ?dZ2 ?uZ2_Z1
    (case a0 => k_is)
    (case l0 => k_is)
    (case c0 => k_is)
    (case k0 => k_is)
    (case a1 => k_is)
    (case l1 => k_is)
    (case c1 => k_is)
    (case k1 => k_is)
    (case a2 => k_is)
    (case l2 => k_is)
    (case c2 => k_is)
    (case k2 => k_is)
    (case a3 => k_is)
    (case l3 => k_is)
    (case c3 => k_is)
    (case k3 => k_is)
    (case a4 => k_is)
    (case l4 => k_is)
    (case c4 => k_is)
    (case k4 => k_is)
    (case a5 => k_is)
    (case l5 => k_is)
    (case c5 => k_is)
    (case k5 => k_is)
    (case a6 => k_is)
    (case l6 => k_is)
    (case c6 => k_is)
    (case k6 => k_is)
    (case a7 => k_is)
    (case l7 => k_is)
    (case c7 => k_is)
    (case k7 => k_is)
    (case a8 => k_is)
    (case l8 => k_is)
    (case c8 => k_is)
    (case k8 => k_is)
    (case a9 => k_is)
    (case l9 => k_is)
    (case c9 => k_is)
    (case k9 => k_is)
    (case a10 => k_is)
    (case l10 => k_is)
    (case c10 => k_is)
    (case k10 => k_is)
    (case a11 => k_is)
    (case l11 => k_is)
    (case c11 => k_is)
    (case k11 => k_is)
    (case a12 => k_is)
    (case l12 => k_is)
    (case c12 => k_is)
    (case k12 => k_is)
    (case a13 => k_is)
    (case l13 => k_is)
    (case c13 => k_is)
    (case k13 => k_is)
    (case a14 => k_is)
    (case l14 => k_is)
    (case c14 => k_is)
    (case k14 => k_is)
    (case a15 => k_is)
    (case l15 => k_is)
    (case c15 => k_is)
    (case k15 => k_is)
    (case a16 => k_is)
    (case l16 => k_is)
    (case c16 => k_is)
    (case k16 => k_is)
    (case a17 => k_is)
    (case l17 => k_is)
    (case c17 => k_is)
    (case k17 => k_is)
    (case a18 => k_is)
    (case l18 => k_is)
    (case c18 => k_is)
    (case k18 => k_is)
    (case a19 => k_is)
    (case l19 => k_is)
    (case c19 => k_is)
    (case k19 => k_is)
    (case a20 => k_is)
    (case l20 => k_is)
    (case c20 => k_is)
    (case k20 => k_is)
    (case z_abs => k_is)
    (case z_all => k_is)
    (case z_bool => k_is)
    (case z_int => k_is)
    (case z_isinstance => k_is)
    (case z_len => k_is)
    (case z_list => k_is)
    (case z_max => k_is)
    (case z_range => k_is)
    (case z_repr => k_is)
    (case z_str => k_is)
    (case z_tuple => k_is)
    (case z_COVER_MOST => k_is)
    (case z_LETTERS => k_is)
    (case z_NAME_MOST => k_is)
    (case z_PICTURE_SIDE_MOST => k_is)
    (case z_STEP_MOST => k_is)
    (case z_VALUE_MOST => k_is)
    (case aZ0 => k_is)
    (case rZ0 => k_is)
    (case gZ0 => k_is)
    (case iZ0 => k_is)
    (case vZ0 => k_is)
    (case wZ0 => k_is)
    (case lZ0 => k_is)
    (case cZ0 => k_is)
    (case kZ0 => k_is)
    (case dZ0 => k_is)
    (case aZ1 => k_is)
    (case xZ1 => k_is)
    (case saZ1 => k_is)
    (case gaZ1 => k_is)
    (case ggZ1 => k_is)
    (case nwZ1 => k_is)
    (case npZ1 => k_is)
    (case iZ1 => k_is)
    (case tZ1 => k_is)
    (case keZ1 => k_is)
    (case exZ1 => k_is)
    (case tyZ1 => k_is)
    (case hdZ1 => k_is)
    (case icZ1 => k_is)
    (case scZ1 => k_is)
    (case lZ1 => k_is)
    (case cZ1 => k_is)
    (case kZ1 => k_is)
    (case dZ1 => k_is)
    (case haZ1 => k_is)
    (case hnZ1 => k_is)
    (case htZ1 => k_is)
    (case hmZ1 => k_is)
    (case veZ1 => kit_is)
    (case pZ1_FilmError => k_is)
    (case wZ1_FilmError => kit_is)
    (case pZ1_BadPicture => k_is)
    (case wZ1_BadPicture => kit_is)
    (case aZ2 => k_is)
    (case xZ2 => k_is)
    (case saZ2 => k_is)
    (case gaZ2 => k_is)
    (case ggZ2 => k_is)
    (case nwZ2 => k_is)
    (case npZ2 => k_is)
    (case iZ2 => k_is)
    (case tZ2 => k_is)
    (case keZ2 => k_is)
    (case exZ2 => k_is)
    (case tyZ2 => k_is)
    (case hdZ2 => k_is)
    (case icZ2 => k_is)
    (case scZ2 => k_is)
    (case lZ2 => k_is)
    (case cZ2 => k_is)
    (case kZ2 => k_is)
    (case dZ2 => k_is)
    (case uZ2_Z1 => k_is)
