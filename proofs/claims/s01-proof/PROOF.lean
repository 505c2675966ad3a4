import PyProof.Rows.All
import Wide.All
import OpenK.AllK
import Wide.FinOn
import PyProof.EqAt
import PyProof.EqKinds
import PyProof.TupleCall
import KE.BitLaws
import Open.SpecLaws
import KE.OsHead
import KE.OsGo
import PySem.Challenge.RW_harvestboat_s01_answers
namespace Hb
open PySem PySem.Spec PyProof.Rows
def top (i : Nat) : Stmt := PySem.Challenge.pw_harvestboat_s01_answers.main.body.getD i (.Pass ⟨0, 0, 0, 0⟩)
end Hb

set_option Elab.async false
set_option linter.all false
set_option maxRecDepth 100000
set_option maxHeartbeats 2000000
/-! The top of the text, run through in one piece. -/
namespace Hb
open PySem PySem.W PySem.Calls PyProof.Rows
/-- what is looked at behind the top: nothing was lost, the names are bound, and what the head wants to see -/
noncomputable def seenAt (p q : Program) (loose : List Str) (Xt : Shared → Bool) (h0 : Heap) (s : Shared) :=
  (staticsOk (importedModules p.main.body) h0 s.heap && namesBound p s.heap && gensDone s && laidKept h0 s.heap, Fast.tw4187177175401517315 q loose (importedModules p.main.body) Xt true s)
noncomputable def fromBoot (w : World) (os : OsState) : Shared := ⟨boot_heap w.params, Array.mk [], boot_drawn, boot_toks, os⟩
theorem left_whole {p q : Program} {loose : List Str} {Xt : Shared → Bool} {α : Type} {Yf : Shared → α} {Ya : World → α} {N m0 : Nat} {ann : Option Value} (hb : opening p = plainProg p.main.scope.names) (hN : Nat.ble 600 N = true) (hf : ∀ s, fenceModules? p s = some s)
    (hz : ∀ w : World, ((boot_heap w.params).isNs mainGlobals, (boot_heap w.params).objs.size, (boot_heap w.params).nsMap mainGlobals "__annotations__") = (true, m0, ann))
    (hr : ∀ (w : World) (os : OsState), (Fast.tw14082659384304107361 Fast.tw14364793385576792824 p w m0 ann N (fromBoot w os) (topStub p)).map (seenAt p q loose Xt (boot_heap w.params)) = some (true, openGood q loose))
    (hy : ∀ (w : World) (os : OsState), (Fast.tw14082659384304107361 Fast.tw14364793385576792824 p w m0 ann N (fromBoot w os) (topStub p)).map Yf = some (Ya w)) : LeftO p q loose Xt Yf Ya N := by
  intro w
  obtain ⟨s0, e0, e1⟩ := Option.map_eq_some_iff.mp (boot_open hb hN hf w)
  have es : s0 = fromBoot w s0.os := by
    obtain ⟨a, b, cc, d, os⟩ := s0
    simp only [Prod.mk.injEq] at e1
    obtain ⟨q1, q2, q3, q4⟩ := e1
    subst q1 q2 q3 q4
    rfl
  have z := hz w
  simp only [Prod.mk.injEq] at z
  obtain ⟨z1, z2, z3⟩ := z
  obtain ⟨s1, r1, r2⟩ := Option.map_eq_some_iff.mp (hr w s0.os)
  have c3 : Yf s1 = Ya w := by
    have h := hy w s0.os
    rw [r1] at h
    exact Option.some.inj h
  rw [← Fast.te14082659384304107361, ← Fast.te14364793385576792824] at r1
  unfold seenAt at r2
  rw [← Fast.te4187177175401517315] at r2
  simp only [Prod.mk.injEq] at r2
  obtain ⟨c1, c2⟩ := r2
  have run : topFrom treeTable p w N (fromBoot w s0.os) = some s1 := by
    unfold topFrom
    show (match (boot_heap w.params).isNs mainGlobals && (Array.mk [] : Array GenState).size == 0 with
      | true => (topRun treeTable p w (boot_heap w.params).objs.size ((boot_heap w.params).nsMap mainGlobals "__annotations__") N (fromBoot w s0.os) (topStub p)).bind _
      | false => none) = _
    rw [z1, z2, z3, r1]
    show (match staticsOk (importedModules p.main.body) (boot_heap w.params) s1.heap && namesBound p s1.heap && gensDone s1 && laidKept (boot_heap w.params) s1.heap with
      | true => some s1
      | false => none) = _
    rw [c1]
  unfold openEnds
  rw [e0]
  show (topFrom treeTable p w N s0).map _ = _
  rw [es, run]
  show some (_, _) = _
  rw [c2, c3]
/-- the text without the rows that say each file's name -/
def qv : Program := { PySem.Challenge.pw_harvestboat_s01_answers with main := { PySem.Challenge.pw_harvestboat_s01_answers.main with body := [top 1, top 2, top 3, top 4, top 6, top 7, top 8, top 9, top 11, top 13, top 14, top 15, top 16, top 17, top 18, top 19, top 20, top 21, top 23, top 24, top 26, top 27, top 28, top 29, top 30, top 31, top 32, top 34, top 35, top 36, top 37, top 38, top 39, top 40, top 41, top 42, top 43, top 44, top 45, top 46, top 47, top 48, top 49, top 50, top 51, top 52, top 53, top 54, top 55, top 56, top 57, top 58, top 59, top 60, top 61, top 62, top 64, top 65, top 66, top 67, top 68] } }
end Hb

set_option Elab.async false
set_option linter.all false
set_option maxRecDepth 100000
set_option maxHeartbeats 2000000
section
open PySem PySem.W PyProof.Rows
local macro_rules | `(tactic| o_headS $H:term) => `(tactic| (have hk := $H; assumption))
theorem Hb.k0 (h : PySem.Challenge.rw_harvestboat_s01_answers.Holds) : PySem.Challenge.rw_harvestboat_s01_answers.Holds := by
  k_headS
end
namespace Hb
/-- the places of what is written out -/
def asK : List PySem.Addr := [2, 3, 15, 17, 18, 20, 21, 22, 24, 25, 27, 28, 29, 32, 33, 41, 43, 44, 46, 47, 48, 49, 50, 51, 52, 62, 64, 65, 67, 68, 69, 70, 71, 72, 73, 83, 85, 86, 88, 89, 90, 92, 93, 95, 96, 97, 98, 99, 100, 101, 111, 113, 114, 116, 117, 118, 119, 120, 121, 122, 125, 127, 128, 130, 131, 139, 141, 142, 144, 145, 146, 148, 149, 151, 152, 153, 155, 156, 158, 159, 160, 161, 162, 163, 164, 167, 169, 170, 172, 173, 174, 176, 177, 179, 180, 181, 183, 184, 186, 187, 188, 190, 191, 193, 194, 195, 197, 198, 200, 201, 202, 204, 205, 207, 208, 209, 212, 213, 214, 216, 217, 219, 220, 221, 223, 224, 226, 227, 228, 230, 231, 233, 234, 235, 237, 238, 240, 241, 242, 244, 245, 247, 248, 249, 251, 252, 254, 255, 256, 258, 259, 261, 262, 263, 265, 266, 268, 269, 270, 272, 273, 275, 276, 277, 279, 280, 282, 283, 284, 287, 288, 289, 291, 292, 294, 295, 296, 298, 299, 301, 302, 303, 305, 306, 308, 309, 310, 312, 313, 315, 316, 317, 320, 321, 322, 325, 326, 327, 329, 330, 332, 333, 334, 336, 337, 339, 340, 341, 344, 345, 346, 348, 349, 351, 352, 353, 355, 356, 358, 359, 360, 362, 363, 365, 366, 367, 370, 371, 372, 374, 375, 377, 378, 379, 381, 382, 384, 385, 386, 387, 388, 389, 390, 391, 392, 393, 394, 395, 396, 397, 398, 399, 400, 401, 402, 403, 404, 405, 406, 408, 409, 411, 412, 413, 415, 416, 418, 419, 420, 422, 423, 425, 426, 427, 429, 430, 432, 433]
theorem asK_is (P : PySem.Params) : asK = (Hb.k0.heap_1 P).map (·.1) := by kernel_rfl
end Hb

set_option Elab.async false
set_option linter.all false
set_option maxRecDepth 100000
set_option maxHeartbeats 0
namespace Hb
open PySem PySem.W PySem.Calls PyProof.Rows
theorem runs (w : World) (os : OsState) : (Fast.tw14082659384304107361 Fast.tw14364793385576792824 PySem.Challenge.pw_harvestboat_s01_answers w 11 (some (.ref 6)) 5810 (fromBoot w os) (topStub PySem.Challenge.pw_harvestboat_s01_answers)).map
    (seenAt PySem.Challenge.pw_harvestboat_s01_answers qv [PySem.Str.ofString "CALLS"] (fun s => xlAt qv [] s && recOk [] s) (boot_heap w.params)) = some (true, openGood qv [PySem.Str.ofString "CALLS"]) := by kernel_rfl
end Hb

set_option Elab.async false
set_option linter.all false
set_option maxRecDepth 100000
set_option maxHeartbeats 0
namespace Hb
open PySem PySem.W PySem.Calls PyProof.Rows
theorem runK (w : World) (os : OsState) : (Fast.tw14082659384304107361 Fast.tw14364793385576792824 PySem.Challenge.pw_harvestboat_s01_answers w 11 (some (.ref 6)) 5810 (fromBoot w os) (topStub PySem.Challenge.pw_harvestboat_s01_answers)).map
    (kHook Hb.k0.heap_1 asK asK_is).obs = some ((kHook Hb.k0.heap_1 asK asK_is).val w) := by kernel_rfl
end Hb

set_option Elab.async false
set_option linter.all false
set_option maxRecDepth 100000
/-! THE HAND LAYER, for ints, bools, texts, own classes, lists, tuples, dicts, comprehensions, walks over dicts, enumerate, zip, reversed, texts, calls, loops. Paste it whole ahead of your own text; what your proof does not reach may be deleted. -/
namespace L2
open PySem PySem.Spec PyProof.Rows

/-- a key: an int or a str -/
abbrev Key := Sum Int Str
def keyIs : Key → Value → Bool
  | .inl k, v => Value.isInt k v
  | .inr x, v => Value.isStrOf x v
def keyH (w : World) : Key → Int
  | .inl k => hashInt k
  | .inr x => hashStr w x
theorem keyIs_shape : ∀ {k : Key} {v : Value}, keyIs k v = true → (∃ i t, k = Sum.inl i ∧ v = Value.int i t) ∨ (∃ x t, k = Sum.inr x ∧ v = Value.str x t)
  | .inl i, v, h => by
    obtain ⟨t, e⟩ := Value.isInt_shape (k := i) (v := v) h
    exact .inl ⟨i, t, rfl, e⟩
  | .inr x, v, h => by
    obtain ⟨t, e⟩ := Value.isStrOf_shape (x := x) (v := v) h
    exact .inr ⟨x, t, rfl, e⟩
theorem key_ll (a b : Int) : decide ((Sum.inl a : Key) = Sum.inl b) = (a == b) := by
  by_cases e : a = b
  · subst e; simp
  · have h : ¬ (Sum.inl a : Key) = Sum.inl b := fun q => e (Sum.inl.inj q)
    rw [decide_eq_false h]
    exact (beq_eq_false_iff_ne.mpr e).symm
theorem key_rr (a b : Str) : decide ((Sum.inr a : Key) = Sum.inr b) = decide (a = b) := by
  by_cases e : a = b
  · subst e; simp
  · have h : ¬ (Sum.inr a : Key) = Sum.inr b := fun q => e (Sum.inr.inj q)
    rw [decide_eq_false h, decide_eq_false e]
theorem key_lr (a : Int) (b : Str) : decide ((Sum.inl a : Key) = Sum.inr b) = false := decide_eq_false (fun q => nomatch q)
theorem key_rl (a : Str) (b : Int) : decide ((Sum.inr a : Key) = Sum.inl b) = false := decide_eq_false (fun q => nomatch q)

def mixKind (prog : Program) (w : World) : PySem.KeyKind prog w Key where
  is := keyIs
  hash := keyH w
  inj := fun v a b ha hb => by
    rcases keyIs_shape ha with ⟨i, t, rfl, rfl⟩ | ⟨x, t, rfl, rfl⟩
    · rcases keyIs_shape hb with ⟨j, u, rfl, e⟩ | ⟨y, u, rfl, e⟩
      · injection e with e1 _; rw [e1]
      · exact nomatch e
    · rcases keyIs_shape hb with ⟨j, u, rfl, e⟩ | ⟨y, u, rfl, e⟩
      · exact nomatch e
      · injection e with e1 _; rw [e1]
  byValue := fun k v h => by
    rcases keyIs_shape h with ⟨i, t, rfl, rfl⟩ | ⟨x, t, rfl, rfl⟩ <;> rfl
  pyHash := fun hv h => by
    rcases keyIs_shape hv with ⟨i, t, rfl, rfl⟩ | ⟨x, t, rfl, rfl⟩
    · exact wpAny_pyHash_int h
    · exact wpAny_pyHash_str h
  eqBool := fun hu hv h => by
    rcases keyIs_shape hu with ⟨i, t, rfl, rfl⟩ | ⟨x, t, rfl, rfl⟩
    · rcases keyIs_shape hv with ⟨j, u, rfl, rfl⟩ | ⟨y, u, rfl, rfl⟩
      · rw [key_ll] at h; exact wpAny_eqBool_int h
      · rw [key_lr] at h; exact SeqAt.EqAt.int_str i t y u _ _ _ _ h
    · rcases keyIs_shape hv with ⟨j, u, rfl, rfl⟩ | ⟨y, u, rfl, rfl⟩
      · rw [key_rl] at h; exact SeqAt.EqAt.str_int x t j u _ _ _ _ h
      · rw [key_rr] at h; exact wpAny_eqBool_str h
  «strs» := fun k x t v h => by
    rcases keyIs_shape h with ⟨i, u, rfl, e⟩ | ⟨y, u, rfl, e⟩
    · exact nomatch e
    · injection e with e1 _
      subst e1
      cases v <;> rfl

end L2

namespace L2
open PySem PySem.Spec PyProof.Rows

/-- a value, without the heap -/
inductive V where
  | non | bl (b : Bool) | int (i : Int) | str (x : Str) | byt (b : Array UInt8) | flt (b : UInt64) | ref (a : Addr) | ty (n : String)
  deriving DecidableEq

def RelV : V → Value → Prop
  | .non, u => u = Value.none
  | .bl b, u => u = Value.bool b
  | .int i, u => ∃ t, u = Value.int i t
  | .str x, u => ∃ t, u = Value.str x t
  | .byt b, u => ∃ t, u = Value.bytes b t
  | .flt b, u => ∃ t, u = Value.float b t
  | .ref a, u => u = Value.ref a
  | .ty n, u => u = Value.type n

abbrev Vals : List V → List Value → Prop := Paired RelV
theorem Vals.length {xs : List V} {us : List Value} (r : Vals xs us) : xs.length = us.length := Paired.length r
theorem Vals.get : ∀ {xs : List V} {us : List Value} {i : Nat} {x : V}, Vals xs us → xs[i]? = some x → ∃ u, us[i]? = some u ∧ RelV x u
  | _, _, _, _, .nil, e => by simp at e
  | _, _, 0, _, .cons r _, e => by simp at e; subst e; exact ⟨_, rfl, r⟩
  | _, _, i + 1, x, .cons _ t, e => by
    obtain ⟨u, h1, h2⟩ := Vals.get (i := i) (x := x) t (by simpa using e)
    exact ⟨u, by simpa using h1, h2⟩
theorem Vals.set {x : V} {u : Value} (r : RelV x u) : ∀ {xs : List V} {us : List Value} (i : Nat), Vals xs us → Vals (xs.set i x) (us.set i u)
  | _, _, _, .nil => .nil
  | _, _, 0, .cons _ t => .cons r t
  | _, _, i + 1, .cons q t => .cons q (Vals.set r i t)
theorem Vals.append : ∀ {xs ys : List V} {us ws : List Value}, Vals xs us → Vals ys ws → Vals (xs ++ ys) (us ++ ws)
  | _, _, _, _, .nil, s => s
  | _, _, _, _, .cons r t, s => .cons r (Vals.append t s)
theorem Vals.take : ∀ {xs : List V} {us : List Value} (n : Nat), Vals xs us → Vals (xs.take n) (us.take n)
  | _, _, 0, _ => .nil
  | _, _, _ + 1, .nil => .nil
  | _, _, n + 1, .cons r t => .cons r (Vals.take n t)
theorem Vals.drop : ∀ {xs : List V} {us : List Value} (n : Nat), Vals xs us → Vals (xs.drop n) (us.drop n)
  | _, _, 0, r => r
  | _, _, _ + 1, .nil => .nil
  | _, _, n + 1, .cons _ t => Vals.drop n t
theorem Vals.none_of : ∀ {xs : List V} {us : List Value} {i : Nat}, Vals xs us → xs[i]? = none → us[i]? = none := fun {xs us i} r e => by
  have h1 := r.length
  have h2 : xs.length ≤ i := List.getElem?_eq_none_iff.mp e
  exact List.getElem?_eq_none_iff.mpr (by omega)

def RelO : Option V → Option Value → Prop
  | some v, some u => RelV v u
  | none, none => True
  | _, _ => False
def KV {κ : Type} : List (κ × V) → List (κ × Value) → Prop := Paired fun (p : κ × V) (q : κ × Value) => p.1 = q.1 ∧ RelV p.2 q.2

/-- a key of a dict (00_mix): an int or a text -/
def kV : Key → V
  | .inl i => .int i
  | .inr x => .str x

/-- what stands at a tracked address -/
inductive HO where
  /-- a list -/
  | lst (xs : List V)
  /-- a tuple (never changes) -/
  | tup (xs : List V)
  /-- a dict whose keys are ints and texts; one whose keys are tuples of ints and texts (the empty one is both) -/
  | dK (kvs : List (Key × V)) | dT (kvs : List (List Key × V))
  /-- a set of ints: its members, its size -/
  | set (S : Int → Bool) (n : Nat)
  /-- an instance of the class at C, its dict at dx, its attributes -/
  | ins (C dx : Addr) (fs : List (Str × V))
  /-- the dict of the instance at x -/
  | own (x : Addr)
  /-- the dict of an exception -/
  | xd (fs : List (Str × V))
  /-- a bound method, f of x -/
  | met (f x : Addr)
  /-- a range object lo, lo + 1, .. below hi -/
  | rng (lo hi : Int)
  /-- a thing that is known to the object (the script; a dict while a loop walks it): read, never written while it is so -/
  | frz (o : Obj) (u : HO)
  /-- a code object's table -/
  | tbl (ps : Array Value)
  /-- any other thing, by what is true of its one object (a def of one's own: SetO a S n := HO.ext fun h => ..) -/
  | ext (φ : Heap → Prop)

abbrev Hp := Addr → Option HO
def upd (H : Hp) (a : Addr) (o : HO) : Hp := fun b => if b = a then some o else H b
theorem upd_same {H : Hp} {a : Addr} {o : HO} : upd H a o a = some o := by unfold upd; rw [if_pos rfl]
theorem upd_ne {H : Hp} {a b : Addr} {o : HO} (h : b ≠ a) : upd H a o b = H b := by unfold upd; rw [if_neg h]
theorem upd_upd {H : Hp} {a : Addr} {o u : HO} : upd (upd H a o) a u = upd H a u := by
  funext b; unfold upd; split <;> rfl
/-- two objects of different content stand apart -/
theorem ne_of {H : Hp} {a b : Addr} {o u : HO} (h : H a = some o) (h' : H b = some u) (d : o ≠ u) : a ≠ b := by
  intro e; subst e; rw [h] at h'; exact d (Option.some.inj h')
theorem ne_of_none {H : Hp} {a b : Addr} {o : HO} (h : H a = some o) (h' : H b = none) : a ≠ b := by
  intro e; subst e; rw [h] at h'; cases h'

section
variable (P : Program) (w : World)
def ObjOk (H : Hp) (h : Heap) (a : Addr) : HO → Prop
  | .lst xs => xs.length ≤ sizeLine ∧ ∃ (its : List Value) (n : Nat), Vals xs its ∧ h.get? a = some { cls := .type "list", data := .seq its.toArray n }
  | .tup xs => xs.length ≤ sizeLine ∧ ∃ its : List Value, Vals xs its ∧ IsTup h a its.toArray
  | .dK kvs => kvs.length ≤ sizeLine ∧ (a == sysModules) = false ∧ ∃ vs, KV kvs vs ∧ h.DictOf (mixKind P w) a vs
  | .dT kvs => kvs.length ≤ sizeLine ∧ (a == sysModules) = false ∧ ∃ xs : List (List Key × Addr × Value),
      Paired (fun (p : List Key × V) (q : List Key × Addr × Value) => p.1 = q.1 ∧ H q.2.1 = some (.tup (p.1.map kV)) ∧ RelV p.2 q.2.2) kvs xs ∧
      ∃ o es ep, h.get? a = some o ∧ o.ExactDict ∧ o.data = .dict es ep ∧ es.toList = xs.map (entryOfKey (tupleKind (mixKind P w))) ∧ (xs.map (·.1)).Nodup
  | .set S n => h.SetOf (intKind P w) a S n
  | .ins C dx fs => H dx = some (.own a) ∧ fs.length ≤ 1000 ∧ dx ≠ a ∧ h.get? a = some (PySem.W.instObj C dx) ∧
      ∃ mA, h.Ns1 dx mA ∧ (∀ f, RelO (fs.lookup f) (mA f)) ∧ PySem.Within mA (fs.map (·.1))
  | .own _ => ∃ o, h.get? a = some o
  | .xd fs => ∃ mA, h.Ns1 a mA ∧ ∀ f, RelO (fs.lookup f) (mA f)
  | .rng lo hi => ∃ t u v, h.get? a = some { cls := .type "range", data := .fields #[.int lo t, .int hi u, .int 1 v] }
  | .frz o u => h.get? a = some o ∧ ObjOk H h a u
  | .tbl ps => h.get? a = some { cls := .none, data := .fields ps }
  | .met f x => h.get? a = some (PySem.W.methodObj (.ref f) (.ref x))
  | .ext φ => φ h ∧ (∃ o, h.get? a = some o) ∧ ∀ h1 h2 : Heap, φ h1 → (∀ o, h1.get? a = some o → h2.get? a = some o) → φ h2
/-- the abstract heap is held -/
def HOk (H : Hp) (h : Heap) : Prop := ∀ a o, H a = some o → ObjOk P w H h a o
end

section
variable {P : Program} {w : World} {H H' : Hp} {h h' : Heap} {a : Addr} {o : HO}
theorem ObjOk.lt (x : ObjOk P w H h a o) : a < h.objs.size := by
  cases o with
  | lst xs => obtain ⟨_, _, _, _, e⟩ := x; exact Heap.lt_size e
  | tup xs => obtain ⟨_, _, _, p⟩ := x; exact p.lt
  | dK kvs => obtain ⟨_, _, _, _, o, _, _, e, _⟩ := x; exact Heap.lt_size e
  | dT kvs => obtain ⟨_, _, _, _, o, _, _, e, _⟩ := x; exact Heap.lt_size e
  | set S n => obtain ⟨o, _, _, _, e, _⟩ := x; exact Heap.lt_size e
  | ins C dx fs => obtain ⟨_, _, _, e, _⟩ := x; exact Heap.lt_size e
  | own y => obtain ⟨_, e⟩ := x; exact Heap.lt_size e
  | xd fs => obtain ⟨_, ⟨_, _, _, e, _⟩, _⟩ := x; exact Heap.lt_size e
  | rng lo hi => obtain ⟨_, _, _, e⟩ := x; exact Heap.lt_size e
  | frz ob u => obtain ⟨e, _⟩ := x; exact Heap.lt_size e
  | tbl ps => exact Heap.lt_size (show h.get? a = some _ from x)
  | met f y => exact Heap.lt_size (show h.get? a = some _ from x)
  | ext φ => obtain ⟨_, ⟨_, e⟩, _⟩ := x; exact Heap.lt_size e
theorem Paired.mapP {α β : Type} {F G : α → β → Prop} : ∀ {l₁ : List α} {l₂ : List β}, Paired F l₁ l₂ → (∀ a b, F a b → G a b) → Paired G l₁ l₂
  | _, _, .nil, _ => .nil
  | _, _, .cons r t, f => .cons (f _ _ r) (Paired.mapP t f)
/-- what an object's description leans on: its own object, its own dict, the tuples -/
theorem ObjOk.stay (x : ObjOk P w H h a o) (k : ∀ b u, (b = a ∨ H b = some (.own a)) → h.get? b = some u → h'.get? b = some u)
    (ho : ∀ b, H b = some (.own a) → H' b = some (.own a)) (ht : ∀ b xs, H b = some (.tup xs) → H' b = some (.tup xs)) : ObjOk P w H' h' a o := by
  induction o with
  | lst xs => obtain ⟨z, its, n, r, e⟩ := x; exact ⟨z, its, n, r, k _ _ (.inl rfl) e⟩
  | tup xs => obtain ⟨z, its, r, ob, e, c⟩ := x; exact ⟨z, its, r, ob, k _ _ (.inl rfl) e, c⟩
  | dK kvs => obtain ⟨z, y, vs, r, ob, es, ep, e, c⟩ := x; exact ⟨z, y, vs, r, ob, es, ep, k _ _ (.inl rfl) e, c⟩
  | dT kvs =>
    obtain ⟨z, y, xs, r, ob, es, ep, e, c⟩ := x
    exact ⟨z, y, xs, Paired.mapP r fun p q z => ⟨z.1, ht _ _ z.2.1, z.2.2⟩, ob, es, ep, k _ _ (.inl rfl) e, c⟩
  | set S n => obtain ⟨ob, es, ep, t, e, c⟩ := x; exact ⟨ob, es, ep, t, k _ _ (.inl rfl) e, c⟩
  | ins C dx fs =>
    obtain ⟨d, z, ne, e, mA, ⟨od, es, ep, e2, c⟩, r⟩ := x
    exact ⟨ho _ d, z, ne, k _ _ (.inl rfl) e, mA, ⟨od, es, ep, k _ _ (.inr d) e2, c⟩, r⟩
  | own y => obtain ⟨ob, e⟩ := x; exact ⟨ob, k _ _ (.inl rfl) e⟩
  | xd fs => obtain ⟨mA, ⟨od, es, ep, e, c⟩, r⟩ := x; exact ⟨mA, ⟨od, es, ep, k _ _ (.inl rfl) e, c⟩, r⟩
  | rng lo hi => obtain ⟨t, u, v, e⟩ := x; exact ⟨t, u, v, k _ _ (.inl rfl) e⟩
  | frz ob u ih => obtain ⟨e, q⟩ := x; exact ⟨k _ _ (.inl rfl) e, ih q⟩
  | tbl ps =>
    have e : h.get? a = some { cls := .none, data := .fields ps } := x
    show h'.get? a = some { cls := .none, data := .fields ps }
    exact k a _ (.inl rfl) e
  | met f y =>
    have e : h.get? a = some (PySem.W.methodObj (.ref f) (.ref y)) := x
    show h'.get? a = some (PySem.W.methodObj (.ref f) (.ref y))
    exact k a _ (.inl rfl) e
  | ext φ => obtain ⟨p, ⟨o, e⟩, st⟩ := x; exact ⟨st _ _ p fun o q => k _ _ (.inl rfl) q, ⟨o, k _ _ (.inl rfl) e⟩, st⟩
theorem HOk.lt (x : HOk P w H h) (e : H a = some o) : a < h.objs.size := (x a o e).lt
theorem HOk.fresh (x : HOk P w H h) (e : h.objs.size ≤ a) : H a = none := by
  cases q : H a with
  | none => rfl
  | some u => exact absurd (Nat.lt_of_lt_of_le (x.lt q) e) (Nat.lt_irrefl _)
/-- every object of the heap is kept -/
theorem HOk.kept (x : HOk P w H h) (k : ∀ b u, h.get? b = some u → h'.get? b = some u) : HOk P w H h' := fun a o e =>
  (x a o e).stay (fun b u _ q => k b u q) (fun _ q => q) fun _ _ q => q
/-- a new object is laid and tracked -/
theorem HOk.laid (x : HOk P w H h) (k : ∀ b u, h.get? b = some u → h'.get? b = some u) (hp : h.objs.size ≤ a) (new : ObjOk P w (upd H a o) h' a o) : HOk P w (upd H a o) h' := fun b u e => by
  have hn := x.fresh hp
  by_cases hb : b = a
  · subst hb; rw [upd_same] at e; cases e; exact new
  · rw [upd_ne hb] at e
    exact (x b u e).stay (fun c v _ q => k c v q) (fun c q => by rw [upd_ne (ne_of_none q hn)]; exact q) fun c xs q => by rw [upd_ne (ne_of_none q hn)]; exact q
end

/-- what may be read as u: it is u, or a known u -/
def Rd (H : Hp) (a : Addr) (u : HO) : Prop := H a = some u ∨ ∃ o, H a = some (.frz o u)
theorem Rd.of {H : Hp} {a : Addr} {u : HO} (h : H a = some u) : Rd H a u := .inl h
theorem Rd.ok {P : Program} {w : World} {H : Hp} {h : Heap} {a : Addr} {u : HO} (r : Rd H a u) (x : HOk P w H h) : ObjOk P w H h a u := by
  rcases r with r | ⟨o, r⟩
  · exact x a u r
  · obtain ⟨_, q⟩ := x a _ r
    exact q
/-- what may be written -/
def Mut : Option HO → Prop
  | some (.lst _) => True
  | some (.dK _) => True
  | some (.dT _) => True
  | some (.set _ _) => True
  | some (.ins _ _ _) => True
  | some (.ext _) => True
  | _ => False
section
variable {P : Program} {w : World} {H : Hp} {h h' : Heap} {x e : Addr} {o' : HO}
/-- the object at e is changed: x itself, or the dict of the instance x -/
theorem HOk.write (ok : HOk P w H h) (mu : Mut (H x)) (he : e = x ∨ H e = some (.own x)) (k : ∀ b u, b ≠ e → h.get? b = some u → h'.get? b = some u) (heo : ∃ u, h'.get? e = some u)
    (new : ObjOk P w (upd H x o') h' x o') : HOk P w (upd H x o') h' := fun b u q => by
  have nown : ∀ c y, H c = some (.own y) → c ≠ x := fun c y r z => by subst z; rw [r] at mu; exact mu
  have ntup : ∀ c xs, H c = some (.tup xs) → c ≠ x := fun c xs r z => by subst z; rw [r] at mu; exact mu
  by_cases hb : b = x
  · subst hb; rw [upd_same] at q; cases q; exact new
  · rw [upd_ne hb] at q
    by_cases hbe : b = e
    · have q' : H b = some (.own x) := by
        rcases he with z | z
        · exact absurd (hbe.trans z) hb
        · rw [hbe]; exact z
      rw [q] at q'; cases q'
      obtain ⟨v, hv⟩ := heo
      exact ⟨v, by rw [hbe]; exact hv⟩
    · refine (ok b u q).stay (fun c v hc r => k c v ?_ r) (fun c r => by rw [upd_ne (nown c b r)]; exact r) fun c xs r => by rw [upd_ne (ntup c xs r)]; exact r
      rcases hc with rfl | hc
      · exact hbe
      · rintro rfl
        rcases he with z | z
        · exact nown c b hc z
        · rw [hc] at z; cases z; exact hb rfl
end

/-! ### kept unless tracked; of the frames at fs (the callers') the slots may change (an exception that passes writes there); of the records at ex (iterators) nothing is said -/
structure Un (fs ex : List Addr) (H H' : Hp) (h h' : Heap) : Prop where
  keep : ∀ b o, h.get? b = some o → H b = none → b ∉ fs → b ∉ ex → h'.get? b = some o
  slot : ∀ b o, h.get? b = some o → H b = none → b ∈ fs → b ∉ ex → ∃ sl, h'.get? b = some { o with slots := sl }
  free : ∀ b o, h.get? b = some o → H b = none → b ∉ ex → H' b = none
  there : ∀ b o, h.get? b = some o → b ∉ ex → ∃ o', h'.get? b = some o'
  tups : ∀ b xs, H b = some (.tup xs) → H' b = some (.tup xs)
  frzs : ∀ b o u, H b = some (.frz o u) → H' b = some (.frz o u)
  tbls : ∀ b ps, H b = some (.tbl ps) → ∃ more, H' b = some (.tbl (ps ++ more))
section
variable {fs fs' ex ex' : List Addr} {H H1 H2 : Hp} {h h1 h2 h' : Heap} {a x e : Addr} {o : HO}
theorem Un.any (u : Un fs ex H H1 h h1) {b : Addr} {ob : Obj} (q : h.get? b = some ob) (n : H b = none) (hx : b ∉ ex) : ∃ sl, h1.get? b = some { ob with slots := sl } := by
  by_cases hb : b ∈ fs
  · exact u.slot b ob q n hb hx
  · exact ⟨ob.slots, u.keep b ob q n hb hx⟩
theorem Un.trans (a : Un fs ex H H1 h h1) (b : Un fs ex H1 H2 h1 h2) : Un fs ex H H2 h h2 where
  keep := fun c ob q n hc hx => b.keep c ob (a.keep c ob q n hc hx) (a.free c ob q n hx) hc hx
  slot := fun c ob q n hc hx => by
    obtain ⟨sl, e1⟩ := a.slot c ob q n hc hx
    obtain ⟨sl', e2⟩ := b.slot c _ e1 (a.free c ob q n hx) hc hx
    exact ⟨sl', e2⟩
  free := fun c ob q n hx => by
    obtain ⟨o', e1⟩ := a.there c ob q hx
    exact b.free c o' e1 (a.free c ob q n hx) hx
  there := fun c ob q hx => by
    obtain ⟨o', e1⟩ := a.there c ob q hx
    exact b.there c o' e1 hx
  tups := fun c xs q => b.tups c xs (a.tups c xs q)
  frzs := fun c ob xs q => b.frzs c ob xs (a.frzs c ob xs q)
  tbls := fun c ps q => by
    obtain ⟨m1, e1⟩ := a.tbls c ps q
    obtain ⟨m2, e2⟩ := b.tbls c _ e1
    exact ⟨m1 ++ m2, by rw [e2, Array.append_assoc]⟩
theorem Un.kept (k : ∀ b u, h.get? b = some u → h'.get? b = some u) : Un fs ex H H h h' :=
  ⟨fun b ob q _ _ _ => k b ob q, fun b ob q _ _ _ => ⟨ob.slots, k b ob q⟩, fun _ _ _ n _ => n, fun b ob q _ => ⟨ob, k b ob q⟩, fun _ _ q => q, fun _ _ _ q => q, fun _ ps q => ⟨#[], by rw [q]; simp⟩⟩
theorem Un.refl : Un fs ex H H h h := Un.kept fun _ _ q => q
theorem Un.laid (k : ∀ b u, h.get? b = some u → h'.get? b = some u) (hp : h.objs.size ≤ a) (hn : H a = none) : Un fs ex H (upd H a o) h h' where
  keep := fun b u q _ _ _ => k b u q
  slot := fun b u q _ _ _ => ⟨u.slots, k b u q⟩
  free := fun b u q n _ => by rw [upd_ne (Nat.ne_of_lt (Nat.lt_of_lt_of_le (Heap.lt_size q) hp))]; exact n
  there := fun b u q _ => ⟨u, k b u q⟩
  tups := fun b xs q => by rw [upd_ne (ne_of_none q hn)]; exact q
  frzs := fun b u xs q => by rw [upd_ne (ne_of_none q hn)]; exact q
  tbls := fun b ps q => ⟨#[], by rw [upd_ne (ne_of_none q hn), q]; simp⟩
theorem Un.write (mu : Mut (H x)) (he : e = x ∨ H e = some (.own x)) (k : ∀ b u, b ≠ e → h.get? b = some u → h'.get? b = some u) (heo : ∃ u, h'.get? e = some u) : Un fs ex H (upd H x o) h h' := by
  have hx : ∀ b, H b = none → b ≠ x := fun b n z => by subst z; rw [n] at mu; exact mu
  have hb : ∀ b, H b = none → b ≠ e := fun b n z => by
    subst z
    rcases he with r | r
    · exact hx b n r
    · rw [n] at r; cases r
  have hm : ∀ b u, H b = some u → ¬ Mut (some u) → b ≠ x := fun b u q nm z => by subst z; rw [q] at mu; exact nm mu
  refine ⟨fun b u q n _ _ => k b u (hb b n) q, fun b u q n _ _ => ⟨u.slots, k b u (hb b n) q⟩, fun b u q n _ => by rw [upd_ne (hx b n)]; exact n, fun b u q _ => ?_,
    fun b xs q => by rw [upd_ne (hm b _ q fun z => z)]; exact q, fun b u xs q => by rw [upd_ne (hm b _ q fun z => z)]; exact q, fun b ps q => ⟨#[], by rw [upd_ne (hm b _ q fun z => z), q]; simp⟩⟩
  by_cases hbe : b = e
  · subst hbe; exact heo
  · exact ⟨u, k b u hbe q⟩
theorem Un.mono (u : Un fs ex H H1 h h1) (hs : ∀ b ∈ fs, b ∈ fs') (hx : ∀ b ∈ ex, b ∈ ex') : Un fs' ex' H H1 h h1 :=
  ⟨fun b ob q n hb he => u.keep b ob q n (fun z => hb (hs b z)) fun z => he (hx b z), fun _ _ q n _ he => u.any q n fun z => he (hx _ z), fun b ob q n he => u.free b ob q n fun z => he (hx b z), fun b ob q he => u.there b ob q fun z => he (hx b z), u.tups, u.frzs, u.tbls⟩
end

/-! ### the heap without what is tracked -/
def trk (h : Heap) (H : Hp) : List Addr := (List.range h.objs.size).filter fun a => (H a).isSome
def hidT (h : Heap) (H : Hp) : Heap := PySem.W.hideAll h (trk h H)
theorem hidT_size (h : Heap) (H : Hp) : (hidT h H).objs.size = h.objs.size := PySem.W.hideAll_size _ _
theorem hidT_get {h : Heap} {H : Hp} {b : Addr} {o : Obj} (e : h.get? b = some o) (n : H b = none) : (hidT h H).get? b = some o :=
  PySem.W.hideAll_get _ e fun hm => by
    have q : (H b).isSome = true := (List.mem_filter.mp hm).2
    rw [n] at q; simp at q
theorem of_hidT {h : Heap} {H : Hp} {b : Addr} {o : Obj} (e : (hidT h H).get? b = some o) : h.get? b = some o ∧ H b = none := by
  have e' : h.get? b = some o := PySem.W.of_hideAll (trk h H) e
  refine ⟨e', ?_⟩
  cases q : H b with
  | none => rfl
  | some x =>
    have hm : b ∈ trk h H := List.mem_filter.mpr ⟨List.mem_range.mpr (Heap.lt_size e'), by simp [q]⟩
    have z : (hidT h H).get? b = none := PySem.W.hideAll_none (trk h H) hm
    rw [z] at e; cases e

/-! ### OpenK's ledger, filled with every new object but one -/
def allNews (g h : Heap) (L : Addr) : List (Addr × Obj) := (List.range h.objs.size).filterMap fun a => if a = L ∨ (g.get? a).isSome = true then none else (h.get? a).map fun o => (a, o)
def rest (g h : Heap) (L d : Addr) : List (Addr × Obj) := (allNews g h L).filter fun p => decide (p.1 ≠ d)
end L2

namespace L2
open PySem PySem.Spec PyProof.Rows

/-- the module's facts, over the base: the heap at the law's entry without what is tracked there -/
structure Mod (K : PySem.W.Frag) (mg : Str → Option Value) (base : Heap) : Prop where
  kin : K.In base
  glob : base.Ns mainGlobals mg
  blt : ∃ mb, base.Ns builtinsNs mb ∧ ∀ x : Str, x ≠ "__name__" → mb x = bootBuiltins x
  nolimit : base.NoLimit

/-- the context: a def's body (or a comprehension's block) running. base: fixed through the whole law; s₀, H₀: the entry; outer: the frames whose slots others may change (a def's callers); stack: all frames that run;
   ex: iterators that were made ahead of the entry and are walked here (a comprehension's); fn: the names whose cells were made at the entry (a def: all; a comprehension's block: its own); calm: not within an except suite; pn: pins that every state bears; xe: what is wanted of an exception that leaves the code -/
structure Cx where
  prog : Program
  w : World
  K : PySem.W.Frag
  mg : Str → Option Value
  base : Heap
  A : Around
  N : List Str
  s_0 : Shared
  H_0 : Hp
  env : Env
  outer : List Env
  stack : List Env
  ex : List Addr
  fn : Str → Bool
  calm : Bool
  pn : List (Addr × Obj)
  xe : Value → Shared → Prop
/-- the callers' frames -/
def frs (l : List Env) : List Addr := l.filterMap (·.frame)
abbrev Cx.fs (X : Cx) : List Addr := frs X.outer

def Vis (sc : Scope) (x : Str) : Prop := sc.names.lookup x = some .local ∨ sc.names.lookup x = some .cell ∨ sc.names.lookup x = some .free
def Loc (sc : Scope) (x : Str) : Prop := sc.names.lookup x = some .local ∨ sc.names.lookup x = some .cell
def Look (env : Env) (h : Heap) (m : Str → Option Value) (x : Str) (u : Value) : Prop :=
  (env.kindOf x = some .local ∧ m x = some u) ∨ ((env.kindOf x = some .cell ∨ env.kindOf x = some .free) ∧ ∃ c, env.cells.lookup x = some c ∧ h.IsCell c (some u))

structure Cx.Ok (X : Cx) : Prop where
  mod : Mod X.K X.mg X.base
  kind : X.env.scope.kind = .function
  glob : X.env.globals = mainGlobals
  blt : X.env.builtins = builtinsNs
  above : X.s_0.heap.objs.size ≤ X.env.locals
  inj : ∀ x y c, X.env.cells.lookup x = some c → X.env.cells.lookup y = some c → x = y
  has : ∀ x, (X.env.kindOf x = some .cell ∨ X.env.kindOf x = some .free) → ∃ c, X.env.cells.lookup x = some c
  cab : ∀ x c, X.fn x = true → X.env.cells.lookup x = some c → X.s_0.heap.objs.size ≤ c
  hd : X.calm = true → X.A.handled = none
  frames : X.A.frames = some X.stack
  stk : X.stack = X.outer ∨ (X.stack = X.env :: X.outer ∧ X.env.frame = some X.env.locals)
  exf : ∀ b ∈ X.ex, b ≠ X.env.locals ∧ ∀ x c, X.env.cells.lookup x = some c → c ≠ b
  bs : ∀ b o, X.base.get? b = some o → X.s_0.heap.get? b = some o ∧ X.H_0 b = none
  bsz : X.base.objs.size ≤ X.s_0.heap.objs.size
  noex : ∀ b o, X.base.get? b = some o → b ∉ X.ex
  exfs : ∀ b ∈ X.ex, b ∉ X.fs
  funs : X.s_0.heap.FunFrames X.base X.outer
  frf : ∀ b ∈ X.fs, X.H_0 b = none

structure Inv (X : Cx) (pins : List (Addr × Obj)) (σ : List (Option V)) (H : Hp) (s : Shared) : Prop where
  ok : X.Ok
  os : s.os = X.s_0.os
  bare : AllBare s.gens
  base : Un X.fs X.ex X.H_0 H X.s_0.heap s.heap
  loc : ∃ m, s.heap.Ns X.env.locals m ∧ ∀ (i : Nat) (x : Str) (v : V), X.N[i]? = some x → σ[i]? = some (some v) → Vis X.env.scope x → ∃ u, RelV v u ∧ Look X.env s.heap m x u
  cell : ∀ x c, X.env.cells.lookup x = some c → ∃ v, s.heap.IsCell c v
  free : H X.env.locals = none
  freeC : ∀ x c, X.env.cells.lookup x = some c → H c = none
  pin : ∀ p ∈ X.pn ++ pins, s.heap.get? p.1 = some p.2 ∧ H p.1 = none ∧ p.1 ≠ X.env.locals ∧ p.1 ∉ X.fs ∧ ∀ v, p.2.data ≠ .cell v
  hok : HOk X.prog X.w H s.heap
  len : σ.length = X.N.length

section
variable {X : Cx} {pins : List (Addr × Obj)} {σ : List (Option V)} {H H' : Hp} {s : Shared} {h' : Heap}

theorem Cx.Ok.nofr (ok : X.Ok) {b : Addr} {o : Obj} (e : X.base.get? b = some o) : b ∉ X.fs := fun hb => by
  have := (ok.funs.mem hb).1
  rw [e] at this; cases this
theorem Inv.bs (I : Inv X pins σ H s) : ∀ b o, X.base.get? b = some o → s.heap.get? b = some o ∧ H b = none := fun b o e =>
  ⟨I.base.keep b o (I.ok.bs b o e).1 (I.ok.bs b o e).2 (I.ok.nofr e) (I.ok.noex b o e), I.base.free b o (I.ok.bs b o e).1 (I.ok.bs b o e).2 (I.ok.noex b o e)⟩
theorem Inv.bk (I : Inv X pins σ H s) : ∀ b o, X.base.get? b = some o → s.heap.get? b = some o := fun b o e => (I.bs b o e).1
theorem Inv.mod (I : Inv X pins σ H s) : Mod X.K X.mg X.base := I.ok.mod
theorem Inv.kIn (I : Inv X pins σ H s) : X.K.In s.heap := I.ok.mod.kin.keeps I.bk
theorem Inv.nolimit (I : Inv X pins σ H s) : s.heap.NoLimit := I.ok.mod.nolimit.keeps I.bk
theorem Inv.lt (I : Inv X pins σ H s) : X.env.locals < s.heap.objs.size := let ⟨_, hn, _⟩ := I.loc; hn.lt
theorem Inv.sz (I : Inv X pins σ H s) : X.s_0.heap.objs.size ≤ s.heap.objs.size := Nat.le_trans I.ok.above (Nat.le_of_lt I.lt)
theorem Inv.nofs (I : Inv X pins σ H s) {a : Addr} (h : s.heap.objs.size ≤ a) : a ∉ X.fs := fun hb => by
  obtain ⟨_, o, ho, _⟩ := I.ok.funs.mem hb
  exact absurd (Nat.lt_of_lt_of_le (Heap.lt_size ho) (Nat.le_trans I.sz h)) (Nat.lt_irrefl _)
theorem Inv.cne (I : Inv X pins σ H s) : ∀ x c, X.env.cells.lookup x = some c → c ≠ X.env.locals := fun x c e z => by
  obtain ⟨v, o, ho, hd⟩ := I.cell x c e
  obtain ⟨m, ⟨o', es, ep, ho', hd', _⟩, _⟩ := I.loc
  rw [z, ho'] at ho; cases ho; rw [hd'] at hd; cases hd
theorem Inv.funs (I : Inv X pins σ H s) : s.heap.FunFrames X.base X.outer := by
  have all : ∀ (l : List Env), (∀ b ∈ frs l, b ∈ X.fs) → X.s_0.heap.FunFrames X.base l → s.heap.FunFrames X.base l := by
    intro l
    induction l with
    | nil => intro _ _; trivial
    | cons env r ih =>
      intro hs hl
      obtain ⟨hk, ⟨L, o, hf, hn, ho, hd⟩, hr⟩ := hl
      have hL : L ∈ X.fs := hs L (by unfold frs; rw [List.filterMap_cons, hf]; exact List.mem_cons_self)
      obtain ⟨sl, e⟩ := I.base.slot L o ho (I.ok.frf L hL) hL fun z => I.ok.exfs L z hL
      exact ⟨hk, ⟨L, _, hf, hn, e, hd⟩, ih (fun b hb => hs b (by unfold frs; rw [List.filterMap_cons, hf]; exact List.mem_cons_of_mem _ hb)) hr⟩
  exact all X.outer (fun _ hb => hb) I.ok.funs

/-- the frames that run, for a call -/
theorem Inv.stack (I : Inv X pins σ H s) : s.heap.FunFrames X.base X.stack := by
  rcases I.ok.stk with e | ⟨e, hf⟩
  · rw [e]; exact I.funs
  · rw [e]
    obtain ⟨m, hn, _⟩ := I.loc
    refine .cons (by rw [I.ok.kind]; decide) hf hn ?_ I.funs
    exact Heap.get?_none_of_le (Nat.le_trans I.ok.bsz I.ok.above)
theorem Inv.stkSub (I : Inv X pins σ H s) : ∀ b ∈ frs X.stack, b ∈ X.env.locals :: X.fs := fun b hb => by
  rcases I.ok.stk with e | ⟨e, hf⟩
  · rw [e] at hb; exact List.mem_cons_of_mem _ hb
  · rw [e] at hb
    unfold frs at hb
    rw [List.filterMap_cons, hf] at hb
    exact hb
theorem Inv.stkFree (I : Inv X pins σ H s) : ∀ b ∈ frs X.stack, H b = none := fun b hb => by
  rcases List.mem_cons.mp (I.stkSub b hb) with e | hb
  · rw [e]; exact I.free
  · obtain ⟨_, o, ho, _⟩ := I.ok.funs.mem hb
    exact I.base.free b o ho (I.ok.frf b hb) fun z => I.ok.exfs b z hb

/-- THE STEP: the untracked objects but the frame and the records at ch are kept (the callers' frames up to slots), the frame's map is kept, the new abstract heap is held -/
theorem Inv.step {g' : Array GenState} {t' : Nat} {d' : Drawn} {ch : List Addr} (I : Inv X pins σ H s)
    (hch : ∀ b ∈ ch, (b ∈ X.ex ∨ X.s_0.heap.objs.size ≤ b) ∧ b ≠ X.env.locals ∧ (∀ x c, X.env.cells.lookup x = some c → c ≠ b) ∧ ∀ p ∈ X.pn ++ pins, p.1 ≠ b)
    (keep : ∀ b o, b ≠ X.env.locals → b ∉ X.fs → b ∉ ch → s.heap.get? b = some o → H b = none → h'.get? b = some o)
    (slot : ∀ b o, b ≠ X.env.locals → b ∈ X.fs → b ∉ ch → s.heap.get? b = some o → H b = none → ∃ sl, h'.get? b = some { o with slots := sl }) (free : ∀ b o, b ∉ ch → s.heap.get? b = some o → H b = none → H' b = none)
    (there : ∀ b o, b ∉ ch → s.heap.get? b = some o → ∃ o', h'.get? b = some o')
    (tups : ∀ b xs, H b = some (.tup xs) → H' b = some (.tup xs)) (frzs : ∀ b o u, H b = some (.frz o u) → H' b = some (.frz o u)) (tbls : ∀ b ps, H b = some (.tbl ps) → ∃ more, H' b = some (.tbl (ps ++ more)))
    (ns : ∀ m, s.heap.Ns X.env.locals m → h'.Ns X.env.locals m) (hok : HOk X.prog X.w H' h') (hg : AllBare g') :
    Inv X pins σ H' { s with heap := h', gens := g', drawn := d', toks := t' } := by
  have neL : ∀ b o, X.s_0.heap.get? b = some o → b ≠ X.env.locals := fun b o e => Nat.ne_of_lt (Nat.lt_of_lt_of_le (Heap.lt_size e) I.ok.above)
  have neC : ∀ b o, X.s_0.heap.get? b = some o → b ∉ X.ex → b ∉ ch := fun b o e hx hb => by
    rcases (hch b hb).1 with z | z
    · exact hx z
    · exact absurd (Nat.lt_of_lt_of_le (Heap.lt_size e) z) (Nat.lt_irrefl _)
  have cellK : ∀ x c, X.env.cells.lookup x = some c → ∀ v, s.heap.IsCell c v → h'.IsCell c v := fun x c e v ⟨o, ho, hd⟩ => by
    have nch : c ∉ ch := fun z => (hch c z).2.2.1 x c e rfl
    by_cases hc : c ∈ X.fs
    · obtain ⟨sl, q⟩ := slot c o (I.cne x c e) hc nch ho (I.freeC x c e)
      exact ⟨_, q, hd⟩
    · exact ⟨o, keep c o (I.cne x c e) hc nch ho (I.freeC x c e), hd⟩
  refine ⟨I.ok, I.os, hg, ⟨fun b o e n hb hx => ?_, fun b o e n hb hx => ?_, fun b o e n hx => ?_, fun b o e hx => ?_, fun b xs e => tups b xs (I.base.tups b xs e), fun b o xs e => frzs b o xs (I.base.frzs b o xs e), fun b ps e => ?_⟩, ?_, fun x c e => ?_, ?_, fun x c e => ?_, fun p hp => ?_, hok, I.len⟩
  · exact keep b o (neL b o e) hb (neC b o e hx) (I.base.keep b o e n hb hx) (I.base.free b o e n hx)
  · obtain ⟨sl, e1⟩ := I.base.slot b o e n hb hx
    obtain ⟨sl', e2⟩ := slot b _ (neL b o e) hb (neC b o e hx) e1 (I.base.free b o e n hx)
    exact ⟨sl', e2⟩
  · obtain ⟨o', e1⟩ := I.base.there b o e hx
    exact free b o' (neC b o e hx) e1 (I.base.free b o e n hx)
  · obtain ⟨o', e1⟩ := I.base.there b o e hx
    exact there b o' (neC b o e hx) e1
  · obtain ⟨m1, e1⟩ := I.base.tbls b ps e
    obtain ⟨m2, e2⟩ := tbls b _ e1
    exact ⟨m1 ++ m2, by rw [e2, Array.append_assoc]⟩
  · obtain ⟨m, hn, hl⟩ := I.loc
    refine ⟨m, ns m hn, fun i x v e1 e2 e3 => ?_⟩
    obtain ⟨u, r, l⟩ := hl i x v e1 e2 e3
    refine ⟨u, r, ?_⟩
    rcases l with l | ⟨k, c, e, z⟩
    · exact .inl l
    · exact .inr ⟨k, c, e, cellK x c e _ z⟩
  · obtain ⟨v, z⟩ := I.cell x c e
    exact ⟨v, cellK x c e v z⟩
  · obtain ⟨m, ⟨o, _, _, ho, _⟩, _⟩ := I.loc
    exact free _ o (fun z => (hch _ z).2.1 rfl) ho I.free
  · obtain ⟨v, o, ho, hd⟩ := I.cell x c e
    exact free c o (fun z => (hch c z).2.2.1 x c e rfl) ho (I.freeC x c e)
  · obtain ⟨e, n, ne, nf, d⟩ := I.pin p hp
    have nch : p.1 ∉ ch := fun z => (hch p.1 z).2.2.2 p hp rfl
    exact ⟨keep p.1 p.2 ne nf nch e n, free p.1 p.2 nch e n, ne, nf, d⟩
/-- .. where the frame's own object is kept too -/
theorem Inv.un {t' : Nat} (I : Inv X pins σ H s) (u : Un X.fs [] H H' s.heap h') (hok : HOk X.prog X.w H' h') : Inv X pins σ H' { s with heap := h', toks := t' } := by
  obtain ⟨m, ⟨o, es, ep, ho, r⟩, _⟩ := id I.loc
  obtain ⟨sl, hL⟩ := u.any ho I.free (by simp)
  exact I.step (g' := s.gens) (d' := s.drawn) (ch := []) (fun _ z => nomatch z) (fun b o _ hb _ e n => u.keep b o e n hb (by simp)) (fun b o _ hb _ e n => u.slot b o e n hb (by simp)) (fun b o _ e n => u.free b o e n (by simp)) (fun b o _ e => u.there b o e (by simp)) u.tups u.frzs u.tbls (fun m' hm => by
    obtain ⟨o', es', ep', ho', r'⟩ := hm
    rw [ho] at ho'; cases ho'
    exact ⟨_, es', ep', hL, r'⟩) hok I.bare
/-- behind a call (or a comprehension's block): the slots of this frame may have changed too, the records at ch may have turned -/
theorem Inv.call {g' : Array GenState} {t' : Nat} {d' : Drawn} {ch : List Addr} (I : Inv X pins σ H s) (u : Un (frs X.stack) ch H H' s.heap h') (hok : HOk X.prog X.w H' h') (hg : AllBare g')
    (hch : ∀ b ∈ ch, (b ∈ X.ex ∨ X.s_0.heap.objs.size ≤ b) ∧ b ≠ X.env.locals ∧ (∀ x c, X.env.cells.lookup x = some c → c ≠ b) ∧ ∀ p ∈ X.pn ++ pins, p.1 ≠ b) :
    Inv X pins σ H' { s with heap := h', gens := g', drawn := d', toks := t' } := by
  obtain ⟨m, ⟨o, es, ep, ho, r⟩, _⟩ := id I.loc
  obtain ⟨sl, hL⟩ := u.any ho I.free fun z => (hch _ z).2.1 rfl
  exact I.step (ch := ch) hch (fun b o hL hb hc e n => u.keep b o e n (fun z => (List.mem_cons.mp (I.stkSub b z)).elim hL hb) hc) (fun b o _ _ hc e n => u.any e n hc) (fun b o hc e n => u.free b o e n hc) (fun b o hc e => u.there b o e hc) u.tups u.frzs u.tbls (fun m' hm => by
    obtain ⟨o', es', ep', ho', r'⟩ := hm
    rw [ho] at ho'; cases ho'
    exact ⟨_, es', ep', hL, r'⟩) hok hg
/-- an untracked record of ours (an iterator) has turned -/
theorem Inv.turned {t' : Nat} {it : Addr} (I : Inv X pins σ H s) (k : ∀ b o, b ≠ it → s.heap.get? b = some o → h'.get? b = some o) (hn : H it = none) (hL : it ≠ X.env.locals)
    (h1 : it ∈ X.ex ∨ X.s_0.heap.objs.size ≤ it) (h2 : ∀ x c, X.env.cells.lookup x = some c → c ≠ it) (h3 : ∀ p ∈ X.pn ++ pins, p.1 ≠ it) : Inv X pins σ H { s with heap := h', toks := t' } := by
  have nit : ∀ b u, H b = some u → b ≠ it := fun b u e z => by rw [z, hn] at e; cases e
  refine I.step (g' := s.gens) (d' := s.drawn) (ch := [it]) (fun b hb => ?_) (fun b o _ _ hc e _ => k b o (fun z => hc (by simp [z])) e) (fun b o _ _ hc e _ => ⟨o.slots, k b o (fun z => hc (by simp [z])) e⟩) (fun _ _ _ _ n => n)
    (fun b o hc e => ⟨o, k b o (fun z => hc (by simp [z])) e⟩) (fun _ _ e => e) (fun _ _ _ e => e) (fun b ps e => ⟨#[], by rw [e]; simp⟩) (fun m hm => ?_) (fun b u e => ?_) I.bare
  · have e : b = it := by simpa using hb
    subst e
    exact ⟨h1, hL, h2, h3⟩
  · obtain ⟨o, es, ep, ho, r⟩ := hm
    exact ⟨o, es, ep, k _ o (Ne.symm hL) ho, r⟩
  · refine (I.hok b u e).stay (fun c v hc q => k c v ?_ q) (fun _ q => q) fun _ _ q => q
    rcases hc with z | z
    · rw [z]; exact nit b u e
    · exact nit c _ z
theorem Inv.tok (I : Inv X pins σ H s) (t : Nat) : Inv X pins σ H { s with toks := t } := I.un (h' := s.heap) (t' := t) Un.refl I.hok
/-- all objects kept -/
theorem Inv.kept {t' : Nat} (I : Inv X pins σ H s) (k : ∀ b u, s.heap.get? b = some u → h'.get? b = some u) : Inv X pins σ H { s with heap := h', toks := t' } := I.un (Un.kept k) (I.hok.kept k)
/-- a new object laid and tracked -/
theorem Inv.laid {a : Addr} {o : HO} {t' : Nat} (I : Inv X pins σ H s) (k : ∀ b u, s.heap.get? b = some u → h'.get? b = some u) (hp : s.heap.objs.size ≤ a) (new : ObjOk X.prog X.w (upd H a o) h' a o) :
    Inv X pins σ (upd H a o) { s with heap := h', toks := t' } := I.un (Un.laid k hp (I.hok.fresh hp)) (I.hok.laid k hp new)
/-- an object written -/
theorem Inv.write {x e : Addr} {o : HO} {t' : Nat} (I : Inv X pins σ H s) (mu : Mut (H x)) (he : e = x ∨ H e = some (.own x)) (k : ∀ b u, b ≠ e → s.heap.get? b = some u → h'.get? b = some u) (heo : ∃ u, h'.get? e = some u)
    (new : ObjOk X.prog X.w (upd H x o) h' x o) : Inv X pins σ (upd H x o) { s with heap := h', toks := t' } := I.un (Un.write mu he k heo) (I.hok.write mu he k heo new)
/-- forgetting slots, pins -/
theorem Inv.weak {σ' : List (Option V)} (I : Inv X pins σ H s) (hl : σ'.length = σ.length) (w : ∀ (i : Nat) v, σ'[i]? = some (some v) → σ[i]? = some (some v)) : Inv X pins σ' H s :=
  ⟨I.ok, I.os, I.bare, I.base, let ⟨m, hn, hl'⟩ := I.loc; ⟨m, hn, fun i x v e1 e2 e3 => hl' i x v e1 (w i v e2) e3⟩, I.cell, I.free, I.freeC, I.pin, I.hok, hl.trans I.len⟩
theorem Inv.pins_of {pins' : List (Addr × Obj)} (I : Inv X pins σ H s) (h : ∀ p ∈ pins', s.heap.get? p.1 = some p.2 ∧ H p.1 = none ∧ p.1 ≠ X.env.locals ∧ p.1 ∉ X.fs ∧ ∀ v, p.2.data ≠ .cell v) : Inv X pins' σ H s :=
  ⟨I.ok, I.os, I.bare, I.base, I.loc, I.cell, I.free, I.freeC, fun p hp => (List.mem_append.mp hp).elim (fun z => I.pin p (List.mem_append_left _ z)) (h p), I.hok, I.len⟩

theorem nodup_ix {N : List Str} (hN : N.Nodup) {i j : Nat} {x : Str} (a : N[i]? = some x) (b : N[j]? = some x) : i = j := by
  obtain ⟨h1, e1⟩ := List.getElem?_eq_some_iff.mp a
  obtain ⟨h2, e2⟩ := List.getElem?_eq_some_iff.mp b
  exact (List.getElem_inj hN).mp (e1.trans e2.symm)

/-- a name is stored; what changed -/
theorem store_ok2 {M : Model} {A : Around} {E : Value → Shared → Prop} {i : Nat} {x : Str} {v : V} {u : Value} {Q : Unit → Shared → Prop} (I : Inv X pins σ H s) (hN : X.N.Nodup) (hi : X.N[i]? = some x) (hx : Loc X.env.scope x) (r : RelV v u)
    (h : ∀ s', Inv X pins (σ.set i (some v)) H s' → (∃ a, Heap.SameBut a s.heap s'.heap ∧ (a = X.env.locals ∨ X.env.cells.lookup x = some a)) → Q () s') (hf : X.fn x = true ∨ X.env.scope.names.lookup x = some .local := by first | exact .inl rfl | exact .inr rfl | assumption) : wpAny M A (storeName X.env x u) Q E s := by
  obtain ⟨m, hn, hl⟩ := id I.loc
  have hcls : (X.env.scope.kind == .class || (X.env.scope.kind == .module && X.env.locals != X.env.globals)) = false := by rw [I.ok.kind]; rfl
  have hiσ : i < σ.length := by rw [I.len]; exact (List.getElem?_eq_some_iff.mp hi).1
  have cne := I.cne
  have tracked : ∀ {a : Addr} {h' : Heap}, (∃ o, s.heap.get? a = some o ∧ H a = none) → Heap.SameBut a s.heap h' → HOk X.prog X.w H h' := fun {a h'} ha hs b ob e => by
    obtain ⟨_, _, hfree⟩ := ha
    refine (I.hok b ob e).stay (fun c w' hc q => (hs.2 c ?_).trans q) (fun _ q => q) fun _ _ q => q
    rintro rfl
    rcases hc with rfl | hc
    · rw [hfree] at e; cases e
    · rw [hfree] at hc; cases hc
  rcases hx with hk | hk
  · refine wpAny_storeName_local hk hn (fun h' hn' hs => ?_) hcls
    obtain ⟨oL, _, _, hoL, _⟩ := id hn
    refine h _ ⟨I.ok, I.os, I.bare, ⟨fun b o e n hb hx => ?_, fun b o e n hb hx => ?_, I.base.free, fun b o e hx => ?_, I.base.tups, I.base.frzs, I.base.tbls⟩, ⟨_, hn', fun j y v' e1 e2 e3 => ?_⟩, fun y c e => ?_, I.free, I.freeC, fun p hp => ?_, tracked ⟨oL, hoL, I.free⟩ hs, by simpa using I.len⟩ ⟨_, hs, .inl rfl⟩
    · exact (hs.2 b (Nat.ne_of_lt (Nat.lt_of_lt_of_le (Heap.lt_size e) I.ok.above))).trans (I.base.keep b o e n hb hx)
    · obtain ⟨sl, e1⟩ := I.base.slot b o e n hb hx
      exact ⟨sl, (hs.2 b (Nat.ne_of_lt (Nat.lt_of_lt_of_le (Heap.lt_size e) I.ok.above))).trans e1⟩
    · obtain ⟨o', e1⟩ := I.base.there b o e hx
      exact ⟨o', (hs.2 b (Nat.ne_of_lt (Nat.lt_of_lt_of_le (Heap.lt_size e) I.ok.above))).trans e1⟩
    · by_cases hj : j = i
      · subst hj
        rw [hi] at e1; cases e1
        rw [List.getElem?_set_self hiσ] at e2
        cases e2
        exact ⟨u, r, .inl ⟨hk, by simp⟩⟩
      · rw [List.getElem?_set_ne (Ne.symm hj)] at e2
        obtain ⟨u', r', q⟩ := hl j y v' e1 e2 e3
        refine ⟨u', r', ?_⟩
        rcases q with ⟨k, e⟩ | ⟨k, c, e, z⟩
        · refine .inl ⟨k, ?_⟩
          have : y ≠ x := fun e => hj (nodup_ix hN e1 (e ▸ hi))
          simp [this, e]
        · exact .inr ⟨k, c, e, z.sameBut hs (cne y c e)⟩
    · obtain ⟨w', z⟩ := I.cell y c e
      exact ⟨w', z.sameBut hs (cne y c e)⟩
    · obtain ⟨e, n, ne, nf, d⟩ := I.pin p hp
      exact ⟨(hs.2 p.1 ne).trans e, n, ne, nf, d⟩
  · have hfn : X.fn x = true := by
      rcases hf with z | z
      · exact z
      · rw [z] at hk; cases hk
    obtain ⟨c, hc⟩ := I.ok.has x (.inl hk)
    obtain ⟨w', z⟩ := I.cell x c hc
    refine wpAny_storeName_cell I.ok.kind hk hc z (fun h' hc' hs => ?_)
    obtain ⟨oc, hoc, hocd⟩ := id z
    refine h { s with heap := h' } ⟨I.ok, I.os, I.bare, ⟨fun b o e n hb hx => ?_, fun b o e n hb hx => ?_, I.base.free, fun b o e hx => ?_, I.base.tups, I.base.frzs, I.base.tbls⟩, ⟨m, hn.sameBut hs (Ne.symm (cne x c hc)), fun j y v' e1 e2 e3 => ?_⟩, fun y c' e => ?_, I.free, I.freeC, fun p hp => ?_, tracked ⟨oc, hoc, I.freeC x c hc⟩ hs, by simpa using I.len⟩ ⟨c, hs, .inr hc⟩
    · exact (hs.2 b (Nat.ne_of_lt (Nat.lt_of_lt_of_le (Heap.lt_size e) (I.ok.cab x c hfn hc)))).trans (I.base.keep b o e n hb hx)
    · obtain ⟨sl, e1⟩ := I.base.slot b o e n hb hx
      exact ⟨sl, (hs.2 b (Nat.ne_of_lt (Nat.lt_of_lt_of_le (Heap.lt_size e) (I.ok.cab x c hfn hc)))).trans e1⟩
    · obtain ⟨o', e1⟩ := I.base.there b o e hx
      exact ⟨o', (hs.2 b (Nat.ne_of_lt (Nat.lt_of_lt_of_le (Heap.lt_size e) (I.ok.cab x c hfn hc)))).trans e1⟩
    · by_cases hj : j = i
      · subst hj
        rw [hi] at e1; cases e1
        rw [List.getElem?_set_self hiσ] at e2
        cases e2
        exact ⟨u, r, .inr ⟨.inl hk, c, hc, hc'⟩⟩
      · rw [List.getElem?_set_ne (Ne.symm hj)] at e2
        obtain ⟨u', r', q⟩ := hl j y v' e1 e2 e3
        refine ⟨u', r', ?_⟩
        rcases q with q | ⟨k, c', e, z'⟩
        · exact .inl q
        · refine .inr ⟨k, c', e, z'.sameBut hs ?_⟩
          rintro rfl
          exact hj (nodup_ix hN e1 (I.ok.inj _ _ _ e hc ▸ hi))
    · by_cases hcc : c' = c
      · subst hcc; exact ⟨_, hc'⟩
      · obtain ⟨w2, z2⟩ := I.cell y c' e
        exact ⟨w2, z2.sameBut hs hcc⟩
    · obtain ⟨e, n, ne, nf, d⟩ := I.pin p hp
      refine ⟨(hs.2 p.1 ?_).trans e, n, ne, nf, d⟩
      intro q
      rw [q, hoc] at e
      have q' : oc = p.2 := Option.some.inj e
      exact d w' (by rw [← q']; exact hocd)
theorem store_ok {M : Model} {A : Around} {E : Value → Shared → Prop} {i : Nat} {x : Str} {v : V} {u : Value} {Q : Unit → Shared → Prop} (I : Inv X pins σ H s) (hN : X.N.Nodup) (hi : X.N[i]? = some x) (hx : Loc X.env.scope x) (r : RelV v u)
    (h : ∀ s', Inv X pins (σ.set i (some v)) H s' → Q () s') (hf : X.fn x = true ∨ X.env.scope.names.lookup x = some .local := by first | exact .inl rfl | exact .inr rfl | assumption) : wpAny M A (storeName X.env x u) Q E s :=
  store_ok2 I hN hi hx r (fun s' I' _ => h s' I') hf
/-- behind a call or a block, the state as it is -/
theorem Inv.call' {s' : Shared} {ch : List Addr} (I : Inv X pins σ H s) (ho : s'.os = s.os) (u : Un (frs X.stack) ch H H' s.heap s'.heap) (hok : HOk X.prog X.w H' s'.heap) (hg : AllBare s'.gens)
    (hch : ∀ b ∈ ch, (b ∈ X.ex ∨ X.s_0.heap.objs.size ≤ b) ∧ b ≠ X.env.locals ∧ (∀ x c, X.env.cells.lookup x = some c → c ≠ b) ∧ ∀ p ∈ X.pn ++ pins, p.1 ≠ b) : Inv X pins σ H' s' := by
  obtain ⟨h', g', d', t', o'⟩ := s'
  have e : o' = s.os := ho
  subst e
  exact I.call (g' := g') (t' := t') (d' := d') u hok hg hch
end

/-! ### the judgements -/
/-- an exception: its class, its own dict's address (where it has one), the abstract heap behind it -/
abbrev XK := Value → Option Addr → Hp → Prop
abbrev St := List (Option V)
abbrev VK := V → Hp → Prop
/-- an expression's reading; a test's; an argument list's -/
abbrev TE := St → Hp → VK → Prop
abbrev TT := St → Hp → (Bool → Hp → Prop) → Prop
abbrev TA := St → Hp → (List V → Hp → Prop) → Prop
/-- what is wanted behind a statement -/
structure Ends where
  nx : St → Hp → Prop
  rt : VK
  bk : St → Hp → Prop := fun _ _ => False
  ct : St → Hp → Prop := fun _ _ => False
abbrev TS := Ends → St → Hp → Prop

def EP (X : Cx) (pins : List (Addr × Obj)) (σ : St) (Q : VK) (u : Value) (s' : Shared) : Prop := ∃ v H', Inv X pins σ H' s' ∧ RelV v u ∧ Q v H'
def TP (X : Cx) (pins : List (Addr × Obj)) (σ : St) (Q : Bool → Hp → Prop) (b : Bool) (s' : Shared) : Prop := ∃ H', Inv X pins σ H' s' ∧ Q b H'
def AP (X : Cx) (pins : List (Addr × Obj)) (σ : St) (Q : List V → Hp → Prop) (us : List Value) (s' : Shared) : Prop := ∃ vs H', Inv X pins σ H' s' ∧ Vals vs us ∧ Q vs H'
def SP (X : Cx) (pins : List (Addr × Obj)) (D : Ends) (f : Flow) (s' : Shared) : Prop :=
  match f with
  | .next => ∃ σ' H', Inv X pins σ' H' s' ∧ D.nx σ' H'
  | .brk => ∃ σ' H', Inv X pins σ' H' s' ∧ D.bk σ' H'
  | .cont => ∃ σ' H', Inv X pins σ' H' s' ∧ D.ct σ' H'
  | .ret u => ∃ v σ' H', Inv X pins σ' H' s' ∧ RelV v u ∧ D.rt v H'

def PE (X : Cx) (e : Expr) (t : TE) : Prop :=
  ∀ (pins : List (Addr × Obj)) (s : Shared) (σ : St) (H : Hp) (Q : VK), Inv X pins σ H s → t σ H Q → wpAny (model X.prog X.w) X.A (eval e X.env) (EP X pins σ Q) X.xe s
def PT (X : Cx) (e : Expr) (t : TT) : Prop :=
  ∀ (pins : List (Addr × Obj)) (s : Shared) (σ : St) (H : Hp) (Q : Bool → Hp → Prop), Inv X pins σ H s → t σ H Q → wpAny (model X.prog X.w) X.A (isTrue e X.env (eval e X.env)) (TP X pins σ Q) X.xe s
/-- a test whatever its 'whole' is (and, or) -/
def PW (X : Cx) (e : Expr) (t : TT) : Prop :=
  ∀ (whole : Sem Value) (pins : List (Addr × Obj)) (s : Shared) (σ : St) (H : Hp) (Q : Bool → Hp → Prop), Inv X pins σ H s → t σ H Q → wpAny (model X.prog X.w) X.A (isTrue e X.env whole) (TP X pins σ Q) X.xe s
theorem PW.pt {X : Cx} {e : Expr} {t : TT} (h : PW X e t) : PT X e t := h _
/-- an argument list (no star), from the left -/
def PA (X : Cx) (es : List Expr) (t : TA) : Prop :=
  ∀ (pos : Pos) (pins : List (Addr × Obj)) (s : Shared) (σ : St) (H : Hp) (Q : List V → Hp → Prop), Inv X pins σ H s → t σ H Q → wpAny (model X.prog X.w) X.A (spliced (backTo pos (starEach es X.env))) (AP X pins σ Q) X.xe s
def PS (X : Cx) (st : Stmt) (t : TS) : Prop :=
  ∀ (pins : List (Addr × Obj)) (s : Shared) (σ : St) (H : Hp) (D : Ends), Inv X pins σ H s → t D σ H → wpAny (model X.prog X.w) X.A (exec st X.env) (SP X pins D) X.xe s
def PSs (X : Cx) (st : List Stmt) (t : TS) : Prop :=
  ∀ (pins : List (Addr × Obj)) (s : Shared) (σ : St) (H : Hp) (D : Ends), Inv X pins σ H s → t D σ H → wpAny (model X.prog X.w) X.A (execs st X.env) (SP X pins D) X.xe s
/-- weaken the end -/
theorem thn {α : Type} {t : Sem α} {Q Q' : α → Shared → Prop} {M : Model} {A : Around} {E : Value → Shared → Prop} {s : Shared} (h : wpAny M A t Q E s) (hQ : ∀ a s, Q a s → Q' a s) : wpAny M A t Q' E s := wpAny_mono h hQ fun _ _ x => x
end L2

namespace L2
open PySem PySem.Spec PyProof.Rows
section
variable {X : Cx}

/-! ### names and constants -/
def tVar (i : Nat) : TE := fun σ H Q => ∃ v, σ[i]? = some (some v) ∧ Q v H
def tC (v : V) : TE := fun _ H Q => Q v H
theorem pe_var {i : Nat} {x : Str} {pos : Pos} (hN : X.N[i]? = some x) (hv : Vis X.env.scope x) (hd : (x == ("__debug__" : Str)) = false := by decide) (hcd : (x == ("__classdict__" : Str)) = false := by decide) : PE X (.Name x pos) (tVar i) := by
  intro pins s σ H Q I h
  obtain ⟨v, e, h⟩ := h
  obtain ⟨m, hn, hl⟩ := I.loc
  obtain ⟨u, r, l⟩ := hl i x v hN e hv
  have fin : EP X pins σ Q u s := ⟨v, H, I, r, h⟩
  rcases l with ⟨hk, hm⟩ | ⟨hk, c, hc, hcell⟩
  · exact wpAny_Name (wpAny_loadName_local I.ok.kind hk hn hm fin) hd
  · rcases hk with hk | hk
    · exact wpAny_Name (wpAny_loadName_cell I.ok.kind hk hc hcell fin) hd
    · exact wpAny_Name (wpAny_loadName_free I.ok.kind hk hc hcell fin hcd) hd
theorem pe_int {i j pos} : PE X (.Constant (.int i) j pos) (tC (.int i)) := fun _ _ _ H _ I h => wpAny_Constant_int ⟨.int i, H, I.tok _, ⟨_, rfl⟩, h⟩
theorem pe_bl {b j pos} : PE X (.Constant (.bool b) j pos) (tC (.bl b)) := fun _ _ _ H _ I h => Constant_bool ⟨.bl b, H, I, rfl, h⟩
theorem pe_non {j pos} : PE X (.Constant .none j pos) (tC .non) := fun _ _ _ H _ I h => Constant_none ⟨.non, H, I, rfl, h⟩
/-- a global name of the def -/
def Gl (X : Cx) (x : Str) : Prop := X.env.kindOf x = some .globalImplicit
theorem ld_glob {E : Value → Shared → Prop} {pins : List (Addr × Obj)} {s : Shared} {σ : St} {H : Hp} {x : Str} {u : Value} {pos : Pos} {Q : Value → Shared → Prop} (I : Inv X pins σ H s) (hg : Gl X x) (hm : X.mg x = some u) (h : Q u s)
    (hd : (x == ("__debug__" : Str)) = false := by decide) : wpAny (model X.prog X.w) X.A (eval (.Name x pos) X.env) Q E s :=
  Calls.Name_function_global I.ok.kind hg (Calls.loadGlobal_global (by rw [I.ok.glob]; exact I.mod.glob.keeps I.bk) hm h) hd
theorem ld_blt {E : Value → Shared → Prop} {pins : List (Addr × Obj)} {s : Shared} {σ : St} {H : Hp} {x : Str} {u : Value} {pos : Pos} {Q : Value → Shared → Prop} (I : Inv X pins σ H s) (hg : Gl X x) (hm : X.mg x = none) (hv : bootBuiltins x = some u) (h : Q u s)
    (hn : x ≠ "__name__" := by decide) (hd : (x == ("__debug__" : Str)) = false := by decide) : wpAny (model X.prog X.w) X.A (eval (.Name x pos) X.env) Q E s := by
  obtain ⟨mb, h1, h2⟩ := I.mod.blt
  exact Calls.Name_function_global I.ok.kind hg (Calls.loadGlobal_builtin (by rw [I.ok.glob]; exact I.mod.glob.keeps I.bk) hm (by rw [I.ok.blt]; exact h1.keeps I.bk) ((h2 x hn).trans hv) h) hd
/-- a module's constant, a class, a function, as a value -/
theorem pe_glob {x : Str} {v : V} {u : Value} {pos : Pos} (hg : Gl X x) (hm : X.mg x = some u) (r : RelV v u) (hd : (x == ("__debug__" : Str)) = false := by decide) : PE X (.Name x pos) (tC v) :=
  fun _ _ _ H _ I h => ld_glob I hg hm ⟨v, H, I, r, h⟩ hd
/-! ### arithmetic -/
variable {a b : Expr} {ta tb : TE} {pos : Pos}
/-! ### comparisons -/
/-- a comparison as a value, as a test -/
def tB (t : TE) : TT := fun σ H Q => t σ H fun x H1 => ∃ c, x = .bl c ∧ Q c H1
/-- an expression whose value is a bool, as a test -/
theorem pt_val {e : Expr} {t : TE} (h : PE X e t) (he : ∀ whole, isTrue e X.env whole = (do let v ← whole; standAt e.pos; holding [v] (truthy v)) := by intro _; rfl) : PT X e (tB t) := by
  intro pins s σ H Q I hw
  refine isTrue_plain (thn (h pins s σ H _ I hw) fun v s1 ⟨x, H1, I1, r1, q1⟩ => ?_) (he _)
  obtain ⟨d, rfl, q⟩ := q1
  cases r1
  exact wpAny_truthy_bool ⟨H1, I1, q⟩

/-! ### and, or, not -/
variable {tA tB' : TT} {rest : List Expr}
def tAnd (t u : TT) : TT := fun σ H Q => t σ H fun c H1 => if c = true then u σ H1 Q else Q false H1
def tOr (t u : TT) : TT := fun σ H Q => t σ H fun c H1 => if c = true then Q true H1 else u σ H1 Q
def tNot (t : TT) : TT := fun σ H Q => t σ H fun c H1 => Q (!c) H1
theorem pw_and1 (ha : PT X a tA) : PW X (.BoolOp .And [a] pos) tA := by
  intro wh pins s σ H Q I h
  refine isTrue_and (thn (ha pins s σ H Q I h) fun c s1 e => ?_)
  cases c with
  | true => exact isTrue_and_nil e
  | false => exact e
theorem pw_or1 (ha : PT X a tA) : PW X (.BoolOp .Or [a] pos) tA := by
  intro wh pins s σ H Q I h
  refine isTrue_or (thn (ha pins s σ H Q I h) fun c s1 e => ?_)
  cases c with
  | false => exact isTrue_or_nil e
  | true => exact e
theorem pw_and (ha : PT X a tA) (hb : PW X (.BoolOp .And (b :: rest) pos) tB') : PW X (.BoolOp .And (a :: b :: rest) pos) (tAnd tA tB') := by
  intro wh pins s σ H Q I h
  refine isTrue_and (thn (ha pins s σ H _ I h) fun c s1 ⟨H1, I1, q1⟩ => ?_)
  cases c with
  | true => exact hb wh pins s1 σ H1 Q I1 q1
  | false => exact ⟨H1, I1, q1⟩
theorem pw_or (ha : PT X a tA) (hb : PW X (.BoolOp .Or (b :: rest) pos) tB') : PW X (.BoolOp .Or (a :: b :: rest) pos) (tOr tA tB') := by
  intro wh pins s σ H Q I h
  refine isTrue_or (thn (ha pins s σ H _ I h) fun c s1 ⟨H1, I1, q1⟩ => ?_)
  cases c with
  | true => exact ⟨H1, I1, q1⟩
  | false => exact hb wh pins s1 σ H1 Q I1 q1
theorem pt_not (ha : PT X a tA) : PT X (.UnaryOp .Not a pos) (tNot tA) := by
  intro pins s σ H Q I h
  exact isTrue_not (ha pins s σ H (fun c H1 => Q (!c) H1) I h)
/-- .. as values (bools) -/
def tAndV (ta tb : TE) : TE := fun σ H Q => ta σ H fun x H1 => ∃ c, x = .bl c ∧ if c = true then tb σ H1 Q else Q (.bl false) H1
theorem pe_one {op} {t : TE} (h : PE X a t) : PE X (.BoolOp op [a] pos) t := fun pins s σ H Q I hw => BoolOp_one (h pins s σ H Q I hw)
theorem pe_and (ha : PE X a ta) (hb : PE X (.BoolOp .And (b :: rest) pos) tb) : PE X (.BoolOp .And (a :: b :: rest) pos) (tAndV ta tb) := by
  intro pins s σ H Q I h
  refine BoolOp_and (thn (ha pins s σ H _ I h) fun v s1 ⟨x, H1, I1, r1, q1⟩ => ?_)
  obtain ⟨c, rfl, q1⟩ := q1
  cases r1
  refine wpAny_truthy_bool ?_
  cases c with
  | true => exact hb pins s1 σ H1 Q I1 q1
  | false => exact ⟨.bl false, H1, I1, rfl, q1⟩
/-- a if t else b -/
def tIf (t : TT) (ta tb : TE) : TE := fun σ H Q => t σ H fun c H1 => if c = true then ta σ H1 Q else tb σ H1 Q
theorem pe_ifExp {c : Expr} (hc : PT X c tA) (ha : PE X a ta) (hb : PE X b tb) : PE X (.IfExp c a b pos) (tIf tA ta tb) := by
  intro pins s σ H Q I h
  refine wpAny_IfExp (thn (hc pins s σ H _ I h) fun d s1 ⟨H1, I1, q1⟩ => ?_)
  cases d with
  | true => exact ha pins s1 σ H1 Q I1 q1
  | false => exact hb pins s1 σ H1 Q I1 q1
end
end L2

namespace L2
open PySem PySem.Spec PyProof.Rows

/-! ### a list, a tuple that is read: tracked, frozen, or an object of the module -/
def SqL (K : PySem.W.Frag) (H : Hp) (a : Addr) (xs : List V) : Prop :=
  Rd H a (.lst xs) ∨
    ∃ (o : Obj) (its : Array Value) (n : Nat), K.lookup a = some o ∧ o.cls = .type "list" ∧ o.dict = none ∧ o.data = .seq its n ∧ its.size ≤ sizeLine ∧ Vals xs its.toList
def SqT (K : PySem.W.Frag) (H : Hp) (a : Addr) (xs : List V) : Prop :=
  Rd H a (.tup xs) ∨
    ∃ (o : Obj) (its : Array Value) (n : Nat), K.lookup a = some o ∧ o.cls = .type "tuple" ∧ o.data = .seq its n ∧ its.size ≤ sizeLine ∧ Vals xs its.toList
def absV : Value → Option V
  | .none => some .non
  | .bool b => some (.bl b)
  | .int i _ => some (.int i)
  | .str x _ => some (.str x)
  | .bytes b _ => some (.byt b)
  | .float b _ => some (.flt b)
  | .ref a => some (.ref a)
  | .type n => some (.ty n)
  | _ => none
theorem RelV.abs {x : V} {u : Value} (r : RelV x u) : absV u = some x := by
  cases x with
  | non => cases r; rfl
  | bl _ => cases r; rfl
  | int _ => obtain ⟨t, rfl⟩ := r; rfl
  | str _ => obtain ⟨t, rfl⟩ := r; rfl
  | byt _ => obtain ⟨t, rfl⟩ := r; rfl
  | flt _ => obtain ⟨t, rfl⟩ := r; rfl
  | ref _ => cases r; rfl
  | ty _ => cases r; rfl
theorem RelV.inj {x y : V} {u : Value} (r : RelV x u) (q : RelV y u) : x = y := Option.some.inj (r.abs.symm.trans q.abs)
theorem Vals.inj : ∀ {xs ys : List V} {us : List Value}, Vals xs us → Vals ys us → xs = ys
  | _, _, _, .nil, .nil => rfl
  | _, _, _, .cons r t, .cons r' t' => by rw [r.inj r', Vals.inj t t']
section
variable {X : Cx} {pins : List (Addr × Obj)} {σ : St} {H : Hp} {s : Shared} {a : Addr} {xs ys : List V}
theorem SqL.of {K : PySem.W.Frag} (h : H a = some (.lst xs)) : SqL K H a xs := .inl (.inl h)
theorem SqT.of {K : PySem.W.Frag} (h : H a = some (.tup xs)) : SqT K H a xs := .inl (.inl h)
theorem Inv.list (I : Inv X pins σ H s) (h : SqL X.K H a xs) : ∃ its : List Value, Vals xs its ∧ PlainL s.heap a its.toArray ∧ xs.length ≤ sizeLine := by
  rcases h with h | ⟨o, its, n, hk, hc, hd, hs, hz, r⟩
  · obtain ⟨z, its, n, r, e⟩ := h.ok I.hok
    exact ⟨its, r, ⟨_, n, e, rfl, rfl, rfl⟩, z⟩
  · refine ⟨its.toList, r, ⟨o, n, I.kIn a o hk, hc, hd, by simpa using hs⟩, ?_⟩
    have e := r.length
    simp only [Array.length_toList] at e
    omega
theorem Inv.tuple (I : Inv X pins σ H s) (h : SqT X.K H a xs) : ∃ its : List Value, Vals xs its ∧ IsTup s.heap a its.toArray ∧ xs.length ≤ sizeLine := by
  rcases h with h | ⟨o, its, n, hk, hc, hs, hz, r⟩
  · obtain ⟨z, its, r, p⟩ := h.ok I.hok
    exact ⟨its, r, p, z⟩
  · refine ⟨its.toList, r, ⟨o, I.kIn a o hk, hc, n, by simpa using hs⟩, ?_⟩
    have e := r.length
    simp only [Array.length_toList] at e
    omega
theorem Inv.list_inj (I : Inv X pins σ H s) (h : SqL X.K H a xs) (h' : SqL X.K H a ys) : xs = ys := by
  obtain ⟨its, r, ⟨o, n, e, _, _, d⟩, _⟩ := I.list h
  obtain ⟨its', r', ⟨o', n', e', _, _, d'⟩, _⟩ := I.list h'
  rw [e] at e'; cases e'
  rw [d] at d'
  injection d' with d1 _
  have : its = its' := by simpa using congrArg Array.toList d1
  subst this
  exact r.inj r'
end

/-! ### another wish about exceptions -/
abbrev Cx.wish (X : Cx) (E : Value → Shared → Prop) : Cx := { X with xe := E }
/-- no exception leaves -/
abbrev Cx.nox (X : Cx) : Cx := X.wish fun _ _ => False
theorem Cx.Ok.wish {X : Cx} (ok : X.Ok) (E : Value → Shared → Prop) : (X.wish E).Ok :=
  ⟨ok.mod, ok.kind, ok.glob, ok.blt, ok.above, ok.inj, ok.has, ok.cab, ok.hd, ok.frames, ok.stk, ok.exf, ok.bs, ok.bsz, ok.noex, ok.exfs, ok.funs, ok.frf⟩
theorem Cx.Ok.unwish {X : Cx} {E : Value → Shared → Prop} (ok : (X.wish E).Ok) : X.Ok :=
  ⟨ok.mod, ok.kind, ok.glob, ok.blt, ok.above, ok.inj, ok.has, ok.cab, ok.hd, ok.frames, ok.stk, ok.exf, ok.bs, ok.bsz, ok.noex, ok.exfs, ok.funs, ok.frf⟩
section
variable {X : Cx} {pins : List (Addr × Obj)} {σ : St} {H : Hp} {s : Shared} {E : Value → Shared → Prop}
theorem Inv.wish (I : Inv X pins σ H s) (E : Value → Shared → Prop) : Inv (X.wish E) pins σ H s := ⟨I.ok.wish E, I.os, I.bare, I.base, I.loc, I.cell, I.free, I.freeC, I.pin, I.hok, I.len⟩
theorem Inv.unwish (I : Inv (X.wish E) pins σ H s) : Inv X pins σ H s := ⟨I.ok.unwish, I.os, I.bare, I.base, I.loc, I.cell, I.free, I.freeC, I.pin, I.hok, I.len⟩
theorem SP.unwish {D : Ends} {f : Flow} {s' : Shared} (h : SP (X.wish E) pins D f s') : SP X pins D f s' := by
  cases f with
  | next => obtain ⟨σ', H', I, q⟩ := h; exact ⟨σ', H', I.unwish, q⟩
  | brk => obtain ⟨σ', H', I, q⟩ := h; exact ⟨σ', H', I.unwish, q⟩
  | cont => obtain ⟨σ', H', I, q⟩ := h; exact ⟨σ', H', I.unwish, q⟩
  | ret u => obtain ⟨v, σ', H', I, r, q⟩ := h; exact ⟨v, σ', H', I.unwish, r, q⟩
theorem PE.nox {e : Expr} {t : TE} (h : PE X.nox e t) : PE X e t := fun pins s σ H Q I hw =>
  wpAny_mono (h pins s σ H Q (I.wish _) hw) (fun _ _ ⟨v, H', I', r, q⟩ => ⟨v, H', I'.unwish, r, q⟩) fun _ _ z => False.elim z
theorem PT.nox {e : Expr} {t : TT} (h : PT X.nox e t) : PT X e t := fun pins s σ H Q I hw =>
  wpAny_mono (h pins s σ H Q (I.wish _) hw) (fun _ _ ⟨H', I', q⟩ => ⟨H', I'.unwish, q⟩) fun _ _ z => False.elim z
theorem PSs.nox {st : List Stmt} {t : TS} (h : PSs X.nox st t) : PSs X st t := fun pins s σ H D I hw =>
  wpAny_mono (h pins s σ H D (I.wish _) hw) (fun _ _ q => q.unwish) fun _ _ z => False.elim z
end

/-! ### blocks and small statements -/
section
variable {X : Cx} {st : Stmt} {rest : List Stmt} {t u : TS} {e : Expr} {te : TE} {pos : Pos}
def tNext : TS := fun D σ H => D.nx σ H
def tSeq (t u : TS) : TS := fun D σ H => t { D with nx := u D } σ H
theorem pss_nil : PSs X [] tNext := fun _ _ σ H _ I h => wpAny_execs_nil ⟨σ, H, I, h⟩
theorem pss_cons (h1 : PS X st t) (h2 : PSs X rest u) : PSs X (st :: rest) (tSeq t u) := by
  intro pins s σ H D I h
  refine wpAny_execs_cons (thn (h1 pins s σ H { D with nx := u D } I h) fun f s1 q => ?_)
  cases f with
  | next =>
    obtain ⟨σ', H', I', q⟩ := q
    exact h2 pins s1 σ' H' D I' q
  | ret v => exact q
  | brk => exact q
  | cont => exact q
theorem pss_one (h1 : PS X st t) : PSs X [st] t := by
  intro pins s σ H D I h
  refine wpAny_execs_cons (thn (h1 pins s σ H D I h) fun f s1 q => ?_)
  cases f with
  | next => exact wpAny_execs_nil q
  | ret v => exact q
  | brk => exact q
  | cont => exact q
/-- in a def's body nothing is shown -/
theorem Inv.quiet {pins : List (Addr × Obj)} {σ : St} {H : Hp} {s : Shared} (I : Inv X pins σ H s) : interactive X.env = false := by simp [interactive, I.ok.kind]
/-- an expression whose value is dropped -/
def tDrop (te : TE) : TS := fun D σ H => te σ H fun _ H1 => D.nx σ H1
theorem ps_expr (he : PE X e te) (hs : swapsWith e none pos.line X.env = pure false := by rfl) : PS X (.Expr e pos) (tDrop te) := by
  intro pins s σ H D I h
  exact wpAny_Expr_any (thn (he pins s σ H _ I h) fun v s1 ⟨x, H1, I1, r1, q1⟩ => ⟨σ, H1, I1, q1⟩) I.quiet hs
def tRet (te : TE) : TS := fun D σ H => te σ H D.rt
theorem ps_ret (he : PE X e te) : PS X (.Return (some e) pos) (tRet te) := by
  intro pins s σ H D I h
  exact wpAny_Return_some (thn (he pins s σ H _ I h) fun v s1 ⟨x, H1, I1, r1, q1⟩ => ⟨x, σ, H1, I1, r1, q1⟩)
def tIfS (c : TT) (t u : TS) : TS := fun D σ H => c σ H fun b H1 => if b = true then t D σ H1 else u D σ H1
theorem ps_if {c : Expr} {a b : List Stmt} {tc : TT} (hc : PT X c tc) (ha : PSs X a t) (hb : PSs X b u) : PS X (.If c a b pos) (tIfS tc t u) := by
  intro pins s σ H D I h
  refine wpAny_If (thn (hc pins s σ H _ I h) fun d s1 ⟨H1, I1, q1⟩ => ?_)
  cases d with
  | true => exact ha pins s1 σ H1 D I1 q1
  | false => exact hb pins s1 σ H1 D I1 q1
end

/-! ### targets -/
abbrev TG := V → St → Hp → (St → Hp → Prop) → Prop
abbrev TGs := List V → St → Hp → (St → Hp → Prop) → Prop
def PG (X : Cx) (target : Expr) (t : TG) : Prop :=
  ∀ (pins : List (Addr × Obj)) (s : Shared) (σ : St) (H : Hp) (v : V) (u : Value) (Q : St → Hp → Prop), Inv X pins σ H s → RelV v u → t v σ H Q →
    wpAny (model X.prog X.w) X.A (assign target X.env u) (fun _ s' => ∃ σ' H', Inv X pins σ' H' s' ∧ Q σ' H') X.xe s
/-- several targets, one after another -/
def PGs (X : Cx) (ts : List Expr) (t : TGs) : Prop :=
  ∀ (pins : List (Addr × Obj)) (s : Shared) (σ : St) (H : Hp) (vs : List V) (us : List Value) (Q : St → Hp → Prop), Inv X pins σ H s → Vals vs us → t vs σ H Q →
    wpAny (model X.prog X.w) X.A (assignInOrder ((assignEach ts X.env).map (·.2)) us) (fun _ s' => ∃ σ' H', Inv X pins σ' H' s' ∧ Q σ' H') X.xe s
/-- o[i] = v, by values -/
abbrev TSet := V → V → V → Hp → (Hp → Prop) → Prop
def PSet (X : Cx) (t : TSet) : Prop :=
  ∀ (pins : List (Addr × Obj)) (s : Shared) (σ : St) (H : Hp) (o i v : V) (ov iv u : Value) (Q : Hp → Prop), Inv X pins σ H s → RelV o ov → RelV i iv → RelV v u → t o i v H Q →
    wpAny (model X.prog X.w) X.A (setItem ov iv u) (fun _ s' => ∃ H', Inv X pins σ H' s' ∧ Q H') X.xe s
/-- a op= b, by values -/
abbrev TIp := V → V → Hp → VK → Prop
def PIp (X : Cx) (op : Operator) (t : TIp) : Prop :=
  ∀ (pins : List (Addr × Obj)) (s : Shared) (σ : St) (H : Hp) (x y : V) (v u : Value) (Q : VK), Inv X pins σ H s → RelV x v → RelV y u → t x y H Q →
    wpAny (model X.prog X.w) X.A (inplaceOp op v u) (EP X pins σ Q) X.xe s
section
variable {X : Cx} {pos : Pos}
def gName (i : Nat) : TG := fun v σ H Q => Q (σ.set i (some v)) H
theorem pg_name {i : Nat} {x : Str} (hN : X.N.Nodup) (hi : X.N[i]? = some x) (hx : Loc X.env.scope x) (hf : X.fn x = true ∨ X.env.scope.names.lookup x = some .local := by first | exact .inl rfl | exact .inr rfl | assumption) : PG X (.Name x pos) (gName i) := by
  intro pins s σ H v u Q I r h
  exact wpAny_assign_Name (store_ok I hN hi hx r (fun s' I' => ⟨_, H, I', h⟩) hf)
def gNil : TGs := fun vs σ H Q => vs = [] ∧ Q σ H
def gCons (t : TG) (u : TGs) : TGs := fun vs σ H Q => ∃ v r, vs = v :: r ∧ t v σ H fun σ' H' => u r σ' H' Q
theorem pgs_nil : PGs X [] gNil := by
  intro pins s σ H vs us Q I r h
  obtain ⟨e, h⟩ := h
  subst e
  cases r
  exact assignInOrder_nil ⟨σ, H, I, h⟩
theorem pgs_cons {e : Expr} {es : List Expr} {t : TG} {u : TGs} (h1 : PG X e t) (h2 : PGs X es u)
    (hs : (assignEach (e :: es) X.env).map (·.2) = assign e X.env :: (assignEach es X.env).map (·.2) := by rfl) : PGs X (e :: es) (gCons t u) := by
  intro pins s σ H vs us Q I r h
  obtain ⟨v, vr, e1, h⟩ := h
  subst e1
  cases r with
  | cons r rr =>
    rw [hs]
    refine assignInOrder_cons (thn (h1 pins s σ H _ _ _ I r h) fun _ s1 ⟨σ1, H1, I1, q1⟩ => ?_)
    exact h2 pins s1 σ1 H1 _ _ Q I1 rr q1
/-- (a, b, ..) = a tuple of that length -/
def gTup (K : PySem.W.Frag) (n : Nat) (t : TGs) : TG := fun v σ H Q => ∃ a xs, v = .ref a ∧ SqT K H a xs ∧ xs.length = n ∧ t xs σ H Q
theorem pg_tup {es : List Expr} {k : Nat} {t : TGs} {n : Nat} (hc : X.calm = true) (h : PGs X es t)
    (hn : (assignEach es X.env).length = n := by rfl) (hst : (assignEach es X.env).findIdx? (·.1) = none := by rfl) : PG X (.Tuple es k pos) (gTup X.K n t) := by
  intro pins s σ H v u Q I r hw
  obtain ⟨a, xs, e1, hq, hl, hw⟩ := hw
  subst e1
  cases r
  obtain ⟨its, rv, ht, hz⟩ := I.tuple hq
  refine assign_Tuple_tuple (I.ok.hd hc) ht (by simp [hn, ← hl, rv.length]) hst fun h' hx => ?_
  have I1 : Inv X pins σ H { s with heap := h' } := I.kept (t' := s.toks) fun b o e => hx b o (Nat.ne_of_lt (Heap.lt_size e)) e
  exact h pins _ σ H xs _ Q I1 (by simpa using rv) hw
/-- o[i] = .. -/
def gSub (to ti : TE) (t : TSet) : TG := fun v σ H Q => to σ H fun o H1 => ti σ H1 fun i H2 => t o i v H2 fun H3 => Q σ H3
theorem pg_sub {o i : Expr} {to ti : TE} {t : TSet} (ho : PE X o to) (hi : PE X i ti) (hs : PSet X t)
    (ha : ∀ v, assign (.Subscript o i pos) X.env v = (do
      let ov ← holding [v] (eval o X.env)
      let iv ← holding [v, ov] (eval i X.env)
      standAt pos
      holding [v, ov, iv] (setItem ov iv v)
      release [v, ov, iv] []) := by intro _; rfl) : PG X (.Subscript o i pos) (gSub to ti t) := by
  intro pins s σ H v u Q I r h
  rw [ha]
  refine wpAny_bind (wpAny_holding (thn (ho pins s σ H _ I h) fun ov s1 ⟨x, H1, I1, r1, q1⟩ => ?_))
  refine wpAny_bind (wpAny_holding (thn (hi pins s1 σ H1 _ I1 q1) fun iv s2 ⟨y, H2, I2, r2, q2⟩ => ?_))
  refine wpAny_bind (wpAny_standAt (wpAny_bind (wpAny_holding (thn (hs pins s2 σ H2 x y v ov iv u _ I2 r1 r2 r q2) fun _ s3 ⟨H3, I3, q3⟩ => ?_))))
  exact wpAny_release ⟨σ, H3, I3, q3⟩
/-- target = value -/
def tAsg (te : TE) (g : TG) : TS := fun D σ H => te σ H fun x H1 => g x σ H1 D.nx
theorem ps_asg {tg e : Expr} {te : TE} {g : TG} (he : PE X e te) (hg : PG X tg g) (hs : swapsWithSole [tg] e pos.line X.env = pure false := by rfl) (hw : swappedStores [tg] e X.env = pure none := by rfl)
    (h1 : (assignEach [tg] X.env).map (·.2) = [assign tg X.env] := by rfl) : PS X (.Assign [tg] e pos) (tAsg te g) := by
  intro pins s σ H D I h
  refine wpAny_Assign_stores (thn (he pins s σ H _ I h) fun v s1 ⟨x, H1, I1, r1, q1⟩ => ?_) hs hw
  rw [h1]
  exact thn (hg pins s1 σ H1 x v _ I1 r1 q1) fun _ s2 q => q
/-- name = value -/
theorem ps_set {i : Nat} {x : Str} {e : Expr} {te : TE} {pos' : Pos} (hN : X.N.Nodup) (hi : X.N[i]? = some x) (hx : Loc X.env.scope x) (he : PE X e te) (hs : swapsWith e (some (.Name x pos')) pos.line X.env = pure false := by rfl) (hf : X.fn x = true ∨ X.env.scope.names.lookup x = some .local := by first | exact .inl rfl | exact .inr rfl | assumption) :
    PS X (.Assign [.Name x pos'] e pos) (tAsg te (gName i)) := by
  intro pins s σ H D I h
  refine wpAny_Assign_Name (thn (he pins s σ H _ I h) fun v s1 ⟨y, H1, I1, r1, q1⟩ => ?_) hs
  exact store_ok I1 hN hi hx r1 (fun s2 I2 => ⟨_, H1, I2, q1⟩) hf
/-- name op= e -/
def tAug (i : Nat) (te : TE) (ti : TIp) : TS := fun D σ H => ∃ x, σ[i]? = some (some x) ∧ te σ H fun y H1 => ti x y H1 fun z H2 => D.nx (σ.set i (some z)) H2
theorem ps_aug {i : Nat} {x : Str} {e : Expr} {te : TE} {op : Operator} {ti : TIp} {pos' : Pos} (hN : X.N.Nodup) (hi : X.N[i]? = some x) (hx : Loc X.env.scope x) (he : PE X e te) (ho : PIp X op ti) (hf : X.fn x = true ∨ X.env.scope.names.lookup x = some .local := by first | exact .inl rfl | exact .inr rfl | assumption) :
    PS X (.AugAssign (.Name x pos') op e pos) (tAug i te ti) := by
  intro pins s σ H D I h
  obtain ⟨v, e1, h⟩ := h
  obtain ⟨m, hn, hl⟩ := I.loc
  have vis : Vis X.env.scope x := by rcases hx with k | k; exact .inl k; exact .inr (.inl k)
  obtain ⟨u, r, l⟩ := hl i x v hi e1 vis
  refine wpAny_AugAssign_Name ?_
  have go : wpAny (model X.prog X.w) X.A (eval e X.env) (fun w s₂ => wpAny (model X.prog X.w) X.A (inplaceOp op u w) (fun r s₃ => wpAny (model X.prog X.w) X.A (storeName X.env x r) (fun _ => SP X pins D .next) X.xe s₃) X.xe s₂) X.xe s := by
    refine thn (he pins s σ H _ I h) fun w s1 ⟨y, H1, I1, r1, q1⟩ => ?_
    refine thn (ho pins s1 σ H1 v y u w _ I1 r r1 q1) fun z s2 ⟨zv, H2, I2, r2, q2⟩ => ?_
    exact store_ok I2 hN hi hx r2 (fun s3 I3 => ⟨_, H2, I3, q2⟩) hf
  rcases l with ⟨hk, hm⟩ | ⟨hk, c, hc, hcell⟩
  · exact wpAny_loadName_local I.ok.kind hk hn hm go
  · rcases hk with hk | hk
    · exact wpAny_loadName_cell I.ok.kind hk hc hcell go
    · rcases hx with k | k
      · have : X.env.scope.names.lookup x = some .free := hk
        rw [k] at this; cases this
      · have : X.env.scope.names.lookup x = some .free := hk
        rw [k] at this; cases this
/-- o[i] op= e -/
def tAugS (to ti te : TE) (tget : V → V → Hp → VK → Prop) (tip : TIp) (tset : TSet) : TS := fun D σ H => to σ H fun o H1 => ti σ H1 fun i H2 => tget o i H2 fun x H3 => te σ H3 fun y H4 => tip x y H4 fun z H5 => tset o i z H5 fun H6 => D.nx σ H6
/-- o[i], by values -/
def PGet (X : Cx) (t : V → V → Hp → VK → Prop) : Prop :=
  ∀ (pins : List (Addr × Obj)) (s : Shared) (σ : St) (H : Hp) (o i : V) (ov iv : Value) (Q : VK), Inv X pins σ H s → RelV o ov → RelV i iv → t o i H Q →
    wpAny (model X.prog X.w) X.A (getItem ov iv) (EP X pins σ Q) X.xe s
theorem ps_augS {o i e : Expr} {to ti te : TE} {tget : V → V → Hp → VK → Prop} {tip : TIp} {tset : TSet} {op : Operator} {tpos : Pos} (ho : PE X o to) (hi : PE X i ti) (hg : PGet X tget) (he : PE X e te) (hp : PIp X op tip) (hs : PSet X tset)
    (ha : ∀ ov iv new, augStore i ov iv new = (do holding [new, ov, iv] (setItem ov iv new); release [new, ov, iv] []; pure .next) := by intros; rfl) : PS X (.AugAssign (.Subscript o i tpos) op e pos) (tAugS to ti te tget tip tset) := by
  intro pins s σ H D I h
  refine wpAny_AugAssign_SubscriptAny (thn (ho pins s σ H _ I h) fun ov s1 ⟨x1, H1, I1, r1, q1⟩ => ?_) ha
  refine thn (hi pins s1 σ H1 _ I1 q1) fun iv s2 ⟨x2, H2, I2, r2, q2⟩ => ?_
  refine thn (hg pins s2 σ H2 x1 x2 ov iv _ I2 r1 r2 q2) fun old s3 ⟨x3, H3, I3, r3, q3⟩ => ?_
  refine thn (he pins s3 σ H3 _ I3 q3) fun v s4 ⟨x4, H4, I4, r4, q4⟩ => ?_
  refine thn (hp pins s4 σ H4 x3 x4 old v _ I4 r3 r4 q4) fun new s5 ⟨x5, H5, I5, r5, q5⟩ => ?_
  exact thn (hs pins s5 σ H5 x1 x2 x5 ov iv new _ I5 r1 r2 r5 q5) fun _ s6 ⟨H6, I6, q6⟩ => ⟨σ, H6, I6, q6⟩
/-- ints -/
def ipI (f : Int → Int → Int) : TIp := fun x y H Q => ∃ i j, x = .int i ∧ y = .int j ∧ Q (.int (f i j)) H
theorem ip_add : PIp X .Add (ipI fun i j => i + j) := by
  intro pins s σ H x y v u Q I r1 r2 h
  obtain ⟨i, j, e1, e2, q⟩ := h
  subst e1; subst e2
  obtain ⟨t, rfl⟩ := r1
  obtain ⟨t', rfl⟩ := r2
  exact iadd_int ⟨.int _, H, I.tok _, ⟨_, rfl⟩, q⟩
theorem ip_sub : PIp X .Sub (ipI fun i j => i - j) := by
  intro pins s σ H x y v u Q I r1 r2 h
  obtain ⟨i, j, e1, e2, q⟩ := h
  subst e1; subst e2
  obtain ⟨t, rfl⟩ := r1
  obtain ⟨t', rfl⟩ := r2
  exact isub_int ⟨.int _, H, I.tok _, ⟨_, rfl⟩, q⟩
end

/-! ### while -/
section
variable {X : Cx} {pos : Pos}
/-- the invariant W with its measure -/
def tWhile (c : TT) (tb : TS) : TS := fun D σ H => ∃ W : Nat → St → Hp → Prop, (∃ m, W m σ H) ∧ ∀ m σ H, W m σ H →
  c σ H fun b H1 => if b = true then ∃ N : St → Hp → Prop, (∀ σ' H', N σ' H' → ∃ m', m' < m ∧ W m' σ' H') ∧ tb { D with nx := N, ct := N, bk := D.nx } σ H1 else D.nx σ H1
theorem ps_while {c : Expr} {body : List Stmt} {tc : TT} {tb : TS} (hp : PassesOwn (model X.prog X.w) X.A X.env X.xe) (hc : PT X c tc) (hb : PSs X body tb) : PS X (.While c body [] pos) (tWhile tc tb) := by
  intro pins s σ H D I h
  obtain ⟨W, ⟨m0, w0⟩, turn⟩ := h
  refine wpAny_While (codeAny_whileLoop (fun n s' => ∃ σ' H', Inv X pins σ' H' s' ∧ W n σ' H') ?_ m0 ⟨σ, H, I, w0⟩)
  rintro n s1 ⟨σ1, H1, I1, w1⟩
  refine wpAny_passesOwn hp (thn (hc pins s1 σ1 H1 _ I1 (turn n σ1 H1 w1)) fun b s2 ⟨H2, I2, q2⟩ => ?_)
  cases b with
  | true =>
    obtain ⟨N, hN, q2⟩ := q2
    rw [if_pos rfl]
    refine wpAny_passesOwn hp (thn (hb pins s2 σ1 H2 _ I2 q2) fun f s3 q3 => ?_)
    cases f with
    | next =>
      obtain ⟨σ3, H3, I3, n3⟩ := q3
      obtain ⟨m', hm, w3⟩ := hN σ3 H3 n3
      exact ⟨m', hm, σ3, H3, I3, w3⟩
    | cont =>
      obtain ⟨σ3, H3, I3, n3⟩ := q3
      obtain ⟨m', hm, w3⟩ := hN σ3 H3 n3
      exact ⟨m', hm, σ3, H3, I3, w3⟩
    | brk => exact q3
    | ret v => exact q3
  | false =>
    rw [if_neg Bool.false_ne_true]
    exact wpAny_execs_nil ⟨σ1, H2, I2, q2⟩
end

/-! ### what a loop or a comprehension walks -/
/-- at turn i: it yields x (the heap may grow), or it stops -/
structure It where
  go : Nat → Hp → Prop
  yld : Nat → Hp → V → Hp → Prop
  stop : Nat → Hp → Prop
/-- the iterator's own objects may turn: they are not the frame's, not pinned, younger than the entry (or a comprehension's own) -/
def FpOk (X : Cx) (pins : List (Addr × Obj)) (H : Hp) (b : Addr) : Prop :=
  H b = none ∧ b ≠ X.env.locals ∧ b ∉ X.fs ∧ (b ∈ X.ex ∨ X.s_0.heap.objs.size ≤ b) ∧ (∀ x c, X.env.cells.lookup x = some c → c ≠ b) ∧ ∀ p ∈ X.pn ++ pins, p.1 ≠ b
theorem Inv.fpOk {X : Cx} {pins : List (Addr × Obj)} {σ : St} {H H' : Hp} {s : Shared} {b : Addr} (I : Inv X pins σ H s) (hb : s.heap.objs.size ≤ b) (hn : H' b = none) : FpOk X pins H' b := by
  refine ⟨hn, Nat.ne_of_gt (Nat.lt_of_lt_of_le I.lt hb), I.nofs hb, .inr (Nat.le_trans I.sz hb), fun x c e z => ?_, fun p hp z => ?_⟩
  · obtain ⟨v, q⟩ := I.cell x c e
    exact absurd (Nat.lt_of_lt_of_le q.lt (by rw [z]; exact hb)) (Nat.lt_irrefl _)
  · exact absurd (Nat.lt_of_lt_of_le (Heap.lt_size (I.pin p hp).1) (by rw [z]; exact hb)) (Nat.lt_irrefl _)
structure Turn (P : Program) (w : World) (K : PySem.W.Frag) (tg : Expr) (J : It) (fp : List Addr) (it : Addr) (tn : Nat → Heap → Prop) : Prop where
  mem : it ∈ fp
  obj : ∀ i h, tn i h → ∀ b ∈ fp, ∃ o, h.get? b = some o ∧ ∀ v, o.data ≠ .cell v
  keep : ∀ i h h', tn i h → (∀ b ∈ fp, ∀ o, h.get? b = some o → h'.get? b = some o) → tn i h'
  item : ∀ (X : Cx), X.prog = P → X.w = w → X.K = K → X.calm = true → ∀ (i : Nat) (pins : List (Addr × Obj)) (s : Shared) (σ : St) (H : Hp) (E : Value → Shared → Prop), Inv X pins σ H s → (∀ b ∈ fp, FpOk X pins H b) → tn i s.heap → J.go i H →
    wpAny (model P w) X.A (pyNext (.ref it)) (fun r s1 => ∃ u, r = some u ∧
      wpAny (model P w) X.A (letOwnedTupleGo tg (.ref it) u) (fun _ s2 => ∃ x H', Inv X pins σ H' s2 ∧ RelV x u ∧ J.yld i H x H' ∧ tn (i + 1) s2.heap ∧ ∀ b ∈ fp, H' b = none) E s1) E s
  done : ∀ (X : Cx), X.prog = P → X.w = w → X.K = K → X.calm = true → ∀ (i : Nat) (pins : List (Addr × Obj)) (s : Shared) (σ : St) (H : Hp) (E : Value → Shared → Prop), Inv X pins σ H s → (∀ b ∈ fp, FpOk X pins H b) → tn i s.heap → J.stop i H →
    wpAny (model P w) X.A (pyNext (.ref it)) (fun r s1 => r = none ∧ Inv X pins σ H s1) E s
  self : ∀ (A : Around) (i : Nat) (s : Shared) (Q : Value → Shared → Prop) (E : Value → Shared → Prop), tn i s.heap → Q (.ref it) s → wpAny (model P w) A (pyIter (.ref it)) Q E s
abbrev TI := St → Hp → (It → Hp → Prop) → Prop
/-- an iterator has come -/
def PIE (X : Cx) (pins : List (Addr × Obj)) (σ : St) (tg : Expr) (R : It → Hp → Prop) (itv : Value) (s2 : Shared) : Prop :=
  ∃ (it : Addr) (fp : List Addr) (tn : Nat → Heap → Prop) (J : It) (H' : Hp), itv = .ref it ∧ Inv X pins σ H' s2 ∧ Turn X.prog X.w X.K tg J fp it tn ∧ tn 0 s2.heap ∧ (∀ b ∈ fp, FpOk X pins H' b) ∧ R J H'
def PI (X : Cx) (tg iter : Expr) (wi : TI) : Prop :=
  ∀ (pins : List (Addr × Obj)) (s : Shared) (σ : St) (H : Hp) (R : It → Hp → Prop), Inv X pins σ H s → wi σ H R →
    wpAny (model X.prog X.w) X.A (eval iter X.env) (fun v s1 => wpAny (model X.prog X.w) X.A (pyIter v) (PIE X pins σ tg R) X.xe s1) X.xe s

/-- the step ahead of the store is nothing for an iterator that keeps no tuple -/
theorem go_of {M : Model} {A : Around} {E : Value → Shared → Prop} {s : Shared} {tg : Expr} {it : Addr} {u : Value} {o : Obj} {n : String} {vs : Array Value} {Q : Unit → Shared → Prop} (ho : s.heap.get? it = some o) (hc : o.cls = .type n) (hd : o.data = .fields vs)
    (hn : ["enumerate", "zip", "dict_itemiterator", "dict_reverseitemiterator", "odict_iterator", "itertools.zip_longest", "itertools.pairwise"].contains n = false) (hQ : Q () s) : wpAny M A (letOwnedTupleGo tg (.ref it) u) Q E s := by
  unfold letOwnedTupleGo
  cases tg <;> first
    | exact wpAny_pure hQ
    | (cases u <;> first
        | exact wpAny_pure hQ
        | (refine wpAny_bind (wpAny_load ho ?_)
           rw [hc, hd]
           show wpAny M A (if (["enumerate", "zip", "dict_itemiterator", "dict_reverseitemiterator", "odict_iterator", "itertools.zip_longest", "itertools.pairwise"].contains n && vs[0]? == some (rawInt _)) = true then _ else _) Q E s
           rw [if_neg (by intro h; rw [hn, Bool.false_and] at h; cases h)]
           exact wpAny_pure hQ))

/-- the list at a, as it stands at each turn (a loop may append to it) -/
def Itl (K : PySem.W.Frag) (a : Addr) : It :=
  ⟨fun i H => ∃ xs x, SqL K H a xs ∧ xs[i]? = some x, fun i H x H' => H' = H ∧ ∀ xs, SqL K H a xs → xs[i]? = some x, fun i H => ∃ xs, SqL K H a xs ∧ xs.length ≤ i⟩
theorem turn_list {P : Program} {w : World} {K : PySem.W.Frag} {tg : Expr} (a it : Addr) : Turn P w K tg (Itl K a) [it] it (fun i h => h.IsListIter it a i) where
  mem := by simp
  obj := fun i h st b hb => by
    have e : b = it := by simpa using hb
    subst e
    obtain ⟨o, e, c, d⟩ := st
    exact ⟨o, e, fun v z => by rw [d] at z; cases z⟩
  keep := fun i h h' st k => st.at fun o e => k it (by simp) o e
  item := by
    intro X hP hw hK hc i pins s σ H E I hf st hg
    subst hP hw hK
    obtain ⟨xs, x, hq, hx⟩ := hg
    obtain ⟨its, rv, p, hz⟩ := I.list hq
    obtain ⟨u, hu, ru⟩ := rv.get hx
    obtain ⟨f0, f1, f2, f3, f4, f5⟩ := hf it (by simp)
    refine wpAny_pyNext_list_item st p.isList (x := u) (by simpa using hu) fun h' st' sb => ?_
    have I1 : Inv X pins σ H { s with heap := h' } := I.turned (t' := s.toks) (fun b o hb e => (sb.2 b hb).trans e) f0 f1 f3 f4 f5
    obtain ⟨o, e, c, d⟩ := id st'
    exact ⟨u, rfl, go_of (s := { s with heap := h' }) e c d (by decide) ⟨x, H, I1, ru, ⟨rfl, fun ys hy => by rw [I.list_inj hy hq]; exact hx⟩, st', fun b hb => (hf b hb).1⟩⟩
  done := by
    intro X hP hw hK hc i pins s σ H E I hf st hg
    subst hP hw hK
    obtain ⟨xs, hq, hx⟩ := hg
    obtain ⟨its, rv, p, hz⟩ := I.list hq
    obtain ⟨f0, f1, f2, f3, f4, f5⟩ := hf it (by simp)
    have hl := rv.length
    exact wpAny_pyNext_list_end (I.ok.hd hc) st p.isList (by simp; omega) fun h' eb => ⟨rfl, I.turned (t' := s.toks) (fun b o hb e => eb b o hb e) f0 f1 f3 f4 f5⟩
  self := fun _ _ _ _ _ st h => wpAny_pyIter_listiter st h
end L2

namespace L2
open PySem PySem.Spec PyProof.Rows
section
variable {X : Cx} {tg : Expr}
def iList (K : PySem.W.Frag) (tl : TE) : TI := fun σ H R => tl σ H fun x H1 => ∃ a, x = .ref a ∧ (∃ xs, SqL K H1 a xs) ∧ R (Itl K a) H1
theorem pi_list {l : Expr} {tl : TE} (hl : PE X l tl) : PI X tg l (iList X.K tl) := by
  intro pins s σ H R I h
  refine thn (hl pins s σ H _ I h) fun v s1 ⟨x, H1, I1, r1, q1⟩ => ?_
  obtain ⟨a, e, ⟨xs, hq⟩, q⟩ := q1
  subst e
  cases r1
  obtain ⟨its, rv, p, hz⟩ := I1.list hq
  refine wpAny_pyIter_list p.isList ?_
  refine ⟨s1.heap.objs.size, [s1.heap.objs.size], _, _, H1, rfl, I1.kept (t' := s1.toks) fun b o e => Heap.get?_push_of_some _ e, turn_list a _, ⟨_, Heap.get?_push_size _ rfl, rfl, rfl⟩, fun b hb => ?_, q⟩
  have e : b = s1.heap.objs.size := by simpa using hb
  subst e
  exact I1.fpOk (Nat.le_refl _) (I1.hok.fresh (Nat.le_refl _))
/-! ### for -/
/-- W: the invariant by the turn and a measure; N: what the body is to reach -/
def tFor (wi : TI) (g : TG) (tb : TS) : TS := fun D σ H => wi σ H fun J H1 => ∃ W : Nat → Nat → St → Hp → Prop, (∃ m, W 0 m σ H1) ∧ ∀ i m σ H, W i m σ H →
  (J.stop i H ∧ D.nx σ H) ∨ (J.go i H ∧ ∃ N : St → Hp → Prop, (∀ σ' H', N σ' H' → ∃ m', m' < m ∧ W (i + 1) m' σ' H') ∧ ∀ x H', J.yld i H x H' → g x σ H' fun σ2 H2 => tb { D with nx := N, ct := N, bk := D.nx } σ2 H2)
/-- the records at fp as they stand -/
def pinsAt (fp : List Addr) (h : Heap) : List (Addr × Obj) := fp.filterMap fun b => (h.get? b).map fun o => (b, o)
theorem mem_pinsAt {fp : List Addr} {h : Heap} {b : Addr} {o : Obj} (hb : b ∈ fp) (e : h.get? b = some o) : (b, o) ∈ pinsAt fp h := List.mem_filterMap.mpr ⟨b, hb, by rw [e]; rfl⟩
theorem of_pinsAt {fp : List Addr} {h : Heap} {p : Addr × Obj} (hp : p ∈ pinsAt fp h) : p.1 ∈ fp ∧ h.get? p.1 = some p.2 := by
  obtain ⟨b, hb, e⟩ := List.mem_filterMap.mp hp
  cases q : h.get? b with
  | none => rw [q] at e; cases e
  | some o =>
    rw [q] at e
    have e' : (b, o) = p := Option.some.inj e
    subst e'
    exact ⟨hb, q⟩
theorem Inv.pinned {pins : List (Addr × Obj)} {σ : St} {H : Hp} {s : Shared} {fp : List Addr} (I : Inv X pins σ H s) (hf : ∀ b ∈ fp, FpOk X pins H b) (ho : ∀ b ∈ fp, ∃ o, s.heap.get? b = some o ∧ ∀ v, o.data ≠ .cell v) : Inv X (pins ++ pinsAt fp s.heap) σ H s :=
  I.pins_of fun p hp => (List.mem_append.mp hp).elim (fun z => I.pin p (List.mem_append_right _ z)) fun z => by
    obtain ⟨hb, e⟩ := of_pinsAt z
    obtain ⟨f0, f1, f2, _⟩ := hf p.1 hb
    obtain ⟨o, e', d⟩ := ho p.1 hb
    rw [e] at e'; cases e'
    exact ⟨e, f0, f1, f2, d⟩
theorem Inv.unpinned {pins pl : List (Addr × Obj)} {σ : St} {H : Hp} {s : Shared} (I : Inv X (pins ++ pl) σ H s) : Inv X pins σ H s := I.pins_of fun p hp => I.pin p (List.mem_append_right _ (List.mem_append_left _ hp))
theorem ps_for {iter : Expr} {body : List Stmt} {wi : TI} {g : TG} {tb : TS} {pos : Pos} (hp : PassesOwn (model X.prog X.w) X.A X.env X.xe) (hc : X.calm = true) (hi : PI X tg iter wi) (hg : PG X tg g) (hb : PSs X body tb)
    (hs : ∀ x, foldedSetIterable iter X.env x = pure x := by intro _; rfl) : PS X (.For tg iter body [] pos) (tFor wi g tb) := by
  intro pins s σ H D I h
  refine wpAny_For (thn (hi pins s σ H _ I h) fun v s1 h1 => thn h1 fun itv s2 h2 => ?_) hs
  obtain ⟨it, fp, tn, J, H2, e, I2, T, st2, f2, W, ⟨m0, w0⟩, turn⟩ := h2
  subst e
  -- what stays true of the iterator's objects through the loop
  have stat : ∀ {H' : Hp}, (∀ b ∈ fp, H' b = none) → ∀ b ∈ fp, FpOk X pins H' b := fun hn b hb => ⟨hn b hb, (f2 b hb).2⟩
  refine codeAny_forLoop_any (fun n s' => ∃ i σ' H', Inv X pins σ' H' s' ∧ tn i s'.heap ∧ (∀ b ∈ fp, H' b = none) ∧ W i n σ' H') ?_ m0 ⟨0, σ, H2, I2, st2, fun b hb => (f2 b hb).1, w0⟩
  rintro n s3 ⟨i, σ3, H3, I3, st3, fr3, w3⟩
  rcases turn i n σ3 H3 w3 with ⟨stop, qn⟩ | ⟨go, N, hN, step⟩
  · refine wpAny_passesOwn hp (thn (T.done X rfl rfl rfl hc i pins s3 σ3 H3 X.xe I3 (stat fr3) st3 stop) fun r s4 ⟨hr, I4⟩ => ?_)
    subst hr
    exact wpAny_execs_nil ⟨σ3, H3, I4, qn⟩
  · refine wpAny_passesOwn hp (thn (T.item X rfl rfl rfl hc i pins s3 σ3 H3 X.xe I3 (stat fr3) st3 go) fun r s4 ⟨u, hr, h4⟩ => ?_)
    subst hr
    refine wpAny_passesOwn hp (thn h4 fun _ s5 ⟨x, H5, I5, r5, y5, st5, fr5⟩ => ?_)
    have I5' := I5.pinned (stat fr5) (T.obj _ _ st5)
    refine wpAny_passesOwn hp (thn (hg _ s5 σ3 H5 x u _ I5' r5 (step x H5 y5)) fun _ s6 ⟨σ6, H6, I6, q6⟩ => ?_)
    refine wpAny_passesOwn hp (thn (hb _ s6 σ6 H6 _ I6 q6) fun f s7 q7 => ?_)
    have again : ∀ {σ7 : St} {H7 : Hp}, Inv X (pins ++ pinsAt fp s5.heap) σ7 H7 s7 → N σ7 H7 → ∃ m, m < n ∧ ∃ i σ' H', Inv X pins σ' H' s7 ∧ tn i s7.heap ∧ (∀ b ∈ fp, H' b = none) ∧ W i m σ' H' := fun {σ7 H7} I7 n7 => by
      obtain ⟨m', hm, w7⟩ := hN σ7 H7 n7
      refine ⟨m', hm, i + 1, σ7, H7, I7.unpinned, T.keep _ _ _ st5 fun b hb o e => (I7.pin (b, o) (List.mem_append_right _ (List.mem_append_right _ (mem_pinsAt hb e)))).1, fun b hb => ?_, w7⟩
      obtain ⟨o, e, d⟩ := T.obj _ _ st5 b hb
      exact (I7.pin (b, o) (List.mem_append_right _ (List.mem_append_right _ (mem_pinsAt hb e)))).2.1
    cases f with
    | next => obtain ⟨σ7, H7, I7, n7⟩ := q7; exact again I7 n7
    | cont => obtain ⟨σ7, H7, I7, n7⟩ := q7; exact again I7 n7
    | brk => obtain ⟨σ7, H7, I7, q7⟩ := q7; exact ⟨σ7, H7, I7.unpinned, q7⟩
    | ret v => obtain ⟨x7, σ7, H7, I7, r7, q7⟩ := q7; exact ⟨x7, σ7, H7, I7.unpinned, r7, q7⟩
end

/-! ### the forms one uses -/
/-- over a list that the body leaves as it is -/
theorem for_list {K : PySem.W.Frag} {a : Addr} {xs : List V} {g : TG} {tb : TS} {D : Ends} {σ : St} {H : Hp} (Pv : Nat → St → Hp → Prop) (h0 : Pv 0 σ H) (hl : ∀ i σ H, i ≤ xs.length → Pv i σ H → SqL K H a xs)
    (hs : ∀ i x σ H, xs[i]? = some x → Pv i σ H → g x σ H fun σ2 H2 => tb { D with nx := Pv (i + 1), ct := Pv (i + 1), bk := D.nx } σ2 H2) (hd : ∀ σ H, Pv xs.length σ H → D.nx σ H) :
    ∃ W : Nat → Nat → St → Hp → Prop, (∃ m, W 0 m σ H) ∧ ∀ i m σ H, W i m σ H →
      ((Itl K a).stop i H ∧ D.nx σ H) ∨ ((Itl K a).go i H ∧ ∃ N : St → Hp → Prop, (∀ σ' H', N σ' H' → ∃ m', m' < m ∧ W (i + 1) m' σ' H') ∧ ∀ x H', (Itl K a).yld i H x H' → g x σ H' fun σ2 H2 => tb { D with nx := N, ct := N, bk := D.nx } σ2 H2) := by
  refine ⟨fun i m σ H => m = xs.length - i ∧ i ≤ xs.length ∧ Pv i σ H, ⟨xs.length, by simp, Nat.zero_le _, h0⟩, ?_⟩
  rintro i m σ H ⟨rfl, hi, p⟩
  have q := hl i σ H hi p
  by_cases hlt : i < xs.length
  · refine .inr ⟨⟨xs, xs[i], q, by simp [hlt]⟩, Pv (i + 1), fun σ' H' p' => ⟨xs.length - (i + 1), by omega, rfl, hlt, p'⟩, fun x H' y => ?_⟩
    obtain ⟨e, y⟩ := y
    subst e
    exact hs i x σ _ (y xs q) p
  · have e : i = xs.length := by omega
    subst e
    exact .inl ⟨⟨xs, q, Nat.le_refl _⟩, hd σ H p⟩
end L2

namespace L2
open PySem PySem.Spec PyProof.Rows

abbrev R2 := V → V → Hp → VK → Prop
/-- a two-place operation on values: f is binaryOp op, inplaceOp op or compareOp op -/
def OpR (X : Cx) (f : Value → Value → Sem Value) (r : R2) : Prop :=
  ∀ (pins : List (Addr × Obj)) (s : Shared) (σ : St) (H : Hp) (x y : V) (v u : Value) (Q : VK), Inv X pins σ H s → RelV x v → RelV y u → r x y H Q →
    wpAny (model X.prog X.w) X.A (f v u) (EP X pins σ Q) X.xe s
/-- a one-place operation -/
def UnR (X : Cx) (f : Value → Sem Value) (r : V → Hp → VK → Prop) : Prop :=
  ∀ (pins : List (Addr × Obj)) (s : Shared) (σ : St) (H : Hp) (x : V) (v : Value) (Q : VK), Inv X pins σ H s → RelV x v → r x H Q →
    wpAny (model X.prog X.w) X.A (f v) (EP X pins σ Q) X.xe s
/-- a call of a value that is known (a builtin, a type) with values -/
def CallR (X : Cx) (f : Value) (r : List V → Hp → VK → Prop) : Prop :=
  ∀ (pins : List (Addr × Obj)) (s : Shared) (σ : St) (H : Hp) (xs : List V) (us : List Value) (Q : VK), Inv X pins σ H s → Vals xs us → r xs H Q →
    wpAny (model X.prog X.w) X.A (call f us) (EP X pins σ Q) X.xe s
def tOp (r : R2) (ta tb : TE) : TE := fun σ H Q => ta σ H fun x H1 => tb σ H1 fun y H2 => r x y H2 Q
def tUn (r : V → Hp → VK → Prop) (ta : TE) : TE := fun σ H Q => ta σ H fun x H1 => r x H1 Q
/-- ints in, under C, and a value out -/
def rI (C : Int → Int → Prop) (g : Int → Int → V) : R2 := fun x y H Q => ∃ i j, x = .int i ∧ y = .int j ∧ C i j ∧ Q (g i j) H
def rI0 (g : Int → Int → V) : R2 := fun x y H Q => ∃ i j, x = .int i ∧ y = .int j ∧ Q (g i j) H
def rU (g : Int → V) : V → Hp → VK → Prop := fun x H Q => ∃ i, x = .int i ∧ Q (g i) H

section
variable {X : Cx} {a b c : Expr} {ta tb tc : TE} {pos : Pos}

theorem binT (ha : PE X a ta) (hb : PE X b tb) {pins : List (Addr × Obj)} {s : Shared} {σ : St} {H : Hp} {R : V → V → Hp → Prop} (I : Inv X pins σ H s)
    (h : ta σ H fun x H1 => tb σ H1 fun y H2 => R x y H2) {Q : Value → Shared → Prop} {f : Value → Value → Sem Value}
    (hf : ∀ v u s2 x y H2, Inv X pins σ H2 s2 → RelV x v → RelV y u → R x y H2 → wpAny (model X.prog X.w) X.A (f v u) Q X.xe s2) :
    wpAny (model X.prog X.w) X.A (eval a X.env) (fun v s₁ => wpAny (model X.prog X.w) X.A (eval b X.env) (fun u s₂ => wpAny (model X.prog X.w) X.A (f v u) Q X.xe s₂) X.xe s₁) X.xe s := by
  refine thn (ha pins s σ H _ I h) fun v s1 ⟨x, H1, I1, r1, q1⟩ => ?_
  refine thn (hb pins s1 σ H1 _ I1 q1) fun u s2 ⟨y, H2, I2, r2, q2⟩ => ?_
  exact hf v u s2 x y H2 I2 r1 r2 q2

theorem pe_op {op : Operator} {r : R2} (ho : OpR X (binaryOp op) r) (ha : PE X a ta) (hb : PE X b tb) : PE X (.BinOp a op b pos) (tOp r ta tb) := by
  intro pins s σ H Q I h
  exact wpAny_BinOp (binT ha hb I h fun v u s2 x y H2 I2 rx ry q => ho pins s2 σ H2 x y v u Q I2 rx ry q)
theorem pe_un {op : UnaryOp} {r : V → Hp → VK → Prop} (ho : UnR X (unaryOp op) r) (ha : PE X a ta) : PE X (.UnaryOp op a pos) (tUn r ta) := by
  intro pins s σ H Q I h
  exact UnaryOp_ (thn (ha pins s σ H _ I h) fun v s1 ⟨x, H1, I1, r1, q1⟩ => ho pins s1 σ H1 x v Q I1 r1 q1)
/-! ### ints -/
theorem opI {f : Value → Value → Sem Value} {C : Int → Int → Prop} {g : Int → Int → Int}
    (rule : ∀ (i j : Int) (t u : Tok) (s : Shared) (Q : Value → Shared → Prop) (E : Value → Shared → Prop), C i j → Q (.int (g i j) s.toks) { s with toks := s.toks + 1 } → wpAny (model X.prog X.w) X.A (f (.int i t) (.int j u)) Q E s) :
    OpR X f (rI C fun i j => .int (g i j)) := by
  intro pins s σ H x y v u Q I rx ry h
  obtain ⟨i, j, rfl, rfl, hc, q⟩ := h
  obtain ⟨t, rfl⟩ := rx
  obtain ⟨t', rfl⟩ := ry
  exact rule i j t t' s _ _ hc ⟨.int (g i j), H, I.tok _, ⟨_, rfl⟩, q⟩
theorem opI0 {f : Value → Value → Sem Value} {g : Int → Int → Int}
    (rule : ∀ (i j : Int) (t u : Tok) (s : Shared) (Q : Value → Shared → Prop) (E : Value → Shared → Prop), Q (.int (g i j) s.toks) { s with toks := s.toks + 1 } → wpAny (model X.prog X.w) X.A (f (.int i t) (.int j u)) Q E s) :
    OpR X f (rI0 fun i j => .int (g i j)) := by
  intro pins s σ H x y v u Q I rx ry h
  obtain ⟨i, j, rfl, rfl, q⟩ := h
  obtain ⟨t, rfl⟩ := rx
  obtain ⟨t', rfl⟩ := ry
  exact rule i j t t' s _ _ ⟨.int (g i j), H, I.tok _, ⟨_, rfl⟩, q⟩
theorem opB0 {f : Value → Value → Sem Value} {g : Int → Int → Bool}
    (rule : ∀ (i j : Int) (t u : Tok) (s : Shared) (Q : Value → Shared → Prop) (E : Value → Shared → Prop), Q (.bool (g i j)) s → wpAny (model X.prog X.w) X.A (f (.int i t) (.int j u)) Q E s) :
    OpR X f (rI0 fun i j => .bl (g i j)) := by
  intro pins s σ H x y v u Q I rx ry h
  obtain ⟨i, j, rfl, rfl, q⟩ := h
  obtain ⟨t, rfl⟩ := rx
  obtain ⟨t', rfl⟩ := ry
  exact rule i j t t' s _ _ ⟨.bl (g i j), H, I, rfl, q⟩

def CDiv (i j : Int) : Prop := 0 < j ∧ j < 1073741824
def CMul (i j : Int) : Prop := (-(2 ^ 64) < i ∧ i < 2 ^ 64) ∨ (-(2 ^ 64) < j ∧ j < 2 ^ 64)
theorem CMul.ok {i j : Int} (h : CMul i j) : IntMulOk i j := by
  rcases h with ⟨h1, h2⟩ | ⟨h1, h2⟩
  · exact .of_left (intBits_le_64 h1 h2)
  · exact .of_right (intBits_le_64 h1 h2)
theorem op_add : OpR X (binaryOp .Add) (rI0 fun i j => .int (i + j)) := opI0 fun _ _ _ _ _ _ _ q => add_int q
theorem op_sub : OpR X (binaryOp .Sub) (rI0 fun i j => .int (i - j)) := opI0 fun _ _ _ _ _ _ _ q => sub_int q
theorem op_mul : OpR X (binaryOp .Mult) (rI CMul fun i j => .int (i * j)) := opI fun _ _ _ _ _ _ _ hc q => mul_int q hc.ok
/-- // by a positive divisor -/
theorem op_fdiv : OpR X (binaryOp .FloorDiv) (rI CDiv fun i j => .int (i / j)) := opI fun i j _ _ _ _ _ hc q => by
  have h1 : (0 : Int) < j := hc.1
  have h2 : j < 1073741824 := hc.2
  exact floordiv_int (by omega) (by rw [Int.fdiv_eq_ediv_of_nonneg i (by omega)]; exact q) (.inl (PyProof.noPylong_small (by omega)))
/-- % by a positive divisor of any size -/
theorem op_mod : OpR X (binaryOp .Mod) (rI (fun _ j => 0 < j) fun i j => .int (i % j)) := opI fun i j _ _ _ _ _ hc q => by
  have h1 : (0 : Int) < j := hc
  exact mod_int' (by omega) (by rw [Int.fmod_eq_emod_of_nonneg i (by omega)]; exact q)
theorem unI {f : Value → Sem Value} {g : Int → Int}
    (rule : ∀ (i : Int) (t : Tok) (s : Shared) (Q : Value → Shared → Prop) (E : Value → Shared → Prop), Q (.int (g i) s.toks) { s with toks := s.toks + 1 } → wpAny (model X.prog X.w) X.A (f (.int i t)) Q E s) :
    UnR X f (rU fun i => .int (g i)) := by
  intro pins s σ H x v Q I rx h
  obtain ⟨i, rfl, q⟩ := h
  obtain ⟨t, rfl⟩ := rx
  exact rule i t s _ _ ⟨.int (g i), H, I.tok _, ⟨_, rfl⟩, q⟩
theorem un_neg : UnR X (unaryOp .USub) (rU fun i => .int (-i)) := unI fun _ _ _ _ _ q => neg_int q
/-! ### bools among ints: n += (a < b) -/
end

/-! ### comparisons -/
/-- the scalars that == tells apart as data does -/
def scal : V → V → Bool
  | .non, .non => true | .non, .int _ => true | .int _, .non => true | .non, .bl _ => true | .bl _, .non => true | .non, .str _ => true | .str _, .non => true
  | .int _, .int _ => true | .bl _, .bl _ => true | .str _, .str _ => true | .byt _, .byt _ => true
  | .int _, .str _ => true | .str _, .int _ => true | .bl _, .str _ => true | .str _, .bl _ => true
  | _, _ => false
def rEq : R2 := fun x y H Q => scal x y = true ∧ Q (.bl (decide (x = y))) H
def rNe : R2 := fun x y H Q => scal x y = true ∧ Q (.bl (!decide (x = y))) H

theorem dec_int {i j : Int} : decide (V.int i = V.int j) = (i == j) := by
  rw [Bool.eq_iff_iff]
  simp
theorem dec_bl {i j : Bool} : decide (V.bl i = V.bl j) = (i == j) := by
  rw [Bool.eq_iff_iff]
  simp
theorem dec_str {i j : Str} : decide (V.str i = V.str j) = (i == j) := by
  rw [Bool.eq_iff_iff]
  simp
theorem dec_byt {i j : Array UInt8} : decide (V.byt i = V.byt j) = (i.toList == j.toList) := by
  rw [Bool.eq_iff_iff]
  cases i
  cases j
  simp

section
variable {X : Cx} {a b c : Expr} {ta tb tc : TE} {pos : Pos}
theorem fin_bl {pins : List (Addr × Obj)} {σ : St} {H : Hp} {s : Shared} {Q : VK} {k k' : Bool} (I : Inv X pins σ H s) (q : Q (.bl k) H) (e : k = k') : EP X pins σ Q (.bool k') s := by
  subst e
  exact ⟨.bl k, H, I, rfl, q⟩
theorem op_eq : OpR X (compareOp .Eq) rEq := by
  intro pins s σ H x y v u Q I rx ry h
  obtain ⟨hs, q⟩ := h
  cases x with
  | non =>
    cases rx
    cases y with
    | non => cases ry; exact PySem.EqNone.eq_none_none (fin_bl I q (by simp))
    | bl j => cases ry; exact PySem.EqNone.eq_none_bool (fin_bl I q (by simp))
    | int j => obtain ⟨t', rfl⟩ := ry; exact PySem.EqNone.eq_none_int (fin_bl I q (by simp))
    | str j => obtain ⟨t', rfl⟩ := ry; exact PySem.EqNone.eq_none_str (fin_bl I q (by simp))
    | _ => exact absurd (show false = true from hs) Bool.false_ne_true
  | bl i =>
    cases rx
    cases y with
    | non => cases ry; exact PySem.EqNone.eq_bool_none (fin_bl I q (by simp))
    | bl j => cases ry; exact eq_bool (fin_bl I q dec_bl)
    | str j => obtain ⟨t', rfl⟩ := ry; exact PySem.EqMixed.eq_bool_str (fin_bl I q (by simp))
    | _ => exact absurd (show false = true from hs) Bool.false_ne_true
  | int i =>
    obtain ⟨t, rfl⟩ := rx
    cases y with
    | non => cases ry; exact PySem.EqNone.eq_int_none (fin_bl I q (by simp))
    | int j => obtain ⟨t', rfl⟩ := ry; exact eq_int (fin_bl I q dec_int)
    | str j => obtain ⟨t', rfl⟩ := ry; exact PySem.EqMixed.eq_int_str (fin_bl I q (by simp))
    | _ => exact absurd (show false = true from hs) Bool.false_ne_true
  | str i =>
    obtain ⟨t, rfl⟩ := rx
    cases y with
    | non => cases ry; exact PySem.EqNone.eq_str_none (fin_bl I q (by simp))
    | bl j => cases ry; exact PySem.EqMixed.eq_str_bool (fin_bl I q (by simp))
    | int j => obtain ⟨t', rfl⟩ := ry; exact PySem.EqMixed.eq_str_int (fin_bl I q (by simp))
    | str j => obtain ⟨t', rfl⟩ := ry; exact eq_str (fin_bl I q dec_str)
    | _ => exact absurd (show false = true from hs) Bool.false_ne_true
  | byt i =>
    obtain ⟨t, rfl⟩ := rx
    cases y with
    | byt j => obtain ⟨t', rfl⟩ := ry; exact PySem.W.eq_bytes (fin_bl I q dec_byt)
    | _ => exact absurd (show false = true from hs) Bool.false_ne_true
  | _ => cases y <;> exact absurd (show false = true from hs) Bool.false_ne_true
theorem op_ne : OpR X (compareOp .NotEq) rNe := by
  intro pins s σ H x y v u Q I rx ry h
  obtain ⟨hs, q⟩ := h
  cases x with
  | non =>
    cases rx
    cases y with
    | non => cases ry; exact PySem.EqNone.ne_none_none (fin_bl I q (by simp))
    | bl j => cases ry; exact PySem.EqNone.ne_none_bool (fin_bl I q (by simp))
    | int j => obtain ⟨t', rfl⟩ := ry; exact PySem.EqNone.ne_none_int (fin_bl I q (by simp))
    | str j => obtain ⟨t', rfl⟩ := ry; exact PySem.EqNone.ne_none_str (fin_bl I q (by simp))
    | _ => exact absurd (show false = true from hs) Bool.false_ne_true
  | bl i =>
    cases rx
    cases y with
    | non => cases ry; exact PySem.EqNone.ne_bool_none (fin_bl I q (by simp))
    | bl j => cases ry; exact ne_bool (fin_bl I q (congrArg not dec_bl))
    | str j => obtain ⟨t', rfl⟩ := ry; exact PySem.EqMixed.ne_bool_str (fin_bl I q (by simp))
    | _ => exact absurd (show false = true from hs) Bool.false_ne_true
  | int i =>
    obtain ⟨t, rfl⟩ := rx
    cases y with
    | non => cases ry; exact PySem.EqNone.ne_int_none (fin_bl I q (by simp))
    | int j => obtain ⟨t', rfl⟩ := ry; exact ne_int (fin_bl I q (congrArg not dec_int))
    | str j => obtain ⟨t', rfl⟩ := ry; exact PySem.EqMixed.ne_int_str (fin_bl I q (by simp))
    | _ => exact absurd (show false = true from hs) Bool.false_ne_true
  | str i =>
    obtain ⟨t, rfl⟩ := rx
    cases y with
    | non => cases ry; exact PySem.EqNone.ne_str_none (fin_bl I q (by simp))
    | bl j => cases ry; exact PySem.EqMixed.ne_str_bool (fin_bl I q (by simp))
    | int j => obtain ⟨t', rfl⟩ := ry; exact PySem.EqMixed.ne_str_int (fin_bl I q (by simp))
    | str j => obtain ⟨t', rfl⟩ := ry; exact ne_str (fin_bl I q (congrArg not dec_str))
    | _ => exact absurd (show false = true from hs) Bool.false_ne_true
  | byt i =>
    obtain ⟨t, rfl⟩ := rx
    cases y with
    | byt j => obtain ⟨t', rfl⟩ := ry; exact PySem.W.ne_bytes (fin_bl I q (congrArg not dec_byt))
    | _ => exact absurd (show false = true from hs) Bool.false_ne_true
  | _ => cases y <;> exact absurd (show false = true from hs) Bool.false_ne_true

theorem op_lt : OpR X (compareOp .Lt) (rI0 fun i j => .bl (decide (i < j))) := opB0 fun _ _ _ _ _ _ _ q => lt_int q
theorem op_le : OpR X (compareOp .LtE) (rI0 fun i j => .bl (decide (i ≤ j))) := opB0 fun _ _ _ _ _ _ _ q => le_int q
theorem op_gt : OpR X (compareOp .Gt) (rI0 fun i j => .bl (decide (j < i))) := opB0 fun _ _ _ _ _ _ _ q => gt_int q
theorem op_ge : OpR X (compareOp .GtE) (rI0 fun i j => .bl (decide (j ≤ i))) := opB0 fun _ _ _ _ _ _ _ q => ge_int q
/-- is None, is not None: the right side a value none -/
theorem op_isN : OpR X (compareOp .Is) (fun x y H Q => y = .non ∧ Q (.bl (decide (x = .non))) H) := by
  intro pins s σ H x y v u Q I rx ry h
  obtain ⟨rfl, q⟩ := h
  cases ry
  refine is_none_gen (fin_bl I q ?_)
  cases x <;> first
    | (cases rx; rfl)
    | (obtain ⟨t, rfl⟩ := rx; rfl)
theorem op_notN : OpR X (compareOp .IsNot) (fun x y H Q => y = .non ∧ Q (.bl (!decide (x = .non))) H) := by
  intro pins s σ H x y v u Q I rx ry h
  obtain ⟨rfl, q⟩ := h
  cases ry
  refine isnot_none_gen (fin_bl I q ?_)
  cases x <;> first
    | (cases rx; rfl)
    | (obtain ⟨t, rfl⟩ := rx; rfl)

/-- two rules for one operation: by cases -/
theorem OpR.or {f : Value → Value → Sem Value} {r r' : R2} (h : OpR X f r) (h' : OpR X f r') : OpR X f (fun x y H Q => r x y H Q ∨ r' x y H Q) := by
  intro pins s σ H x y v u Q I rx ry q
  rcases q with q | q
  · exact h pins s σ H x y v u Q I rx ry q
  · exact h' pins s σ H x y v u Q I rx ry q

theorem nomark (b : Expr) {op : CmpOp} (h : op ≠ .In := by decide) (h2 : op ≠ .NotIn := by decide) : behindInMarks op b = false := by
  have e1 : (op == CmpOp.In) = false := by cases op <;> first | rfl | exact absurd rfl h
  have e2 : (op == CmpOp.NotIn) = false := by cases op <;> first | rfl | exact absurd rfl h2
  cases b <;> simp [behindInMarks, e1, e2]
/-- a comparison as a value; hm: nomark b, or (for in, not in) by with_unfolding_all rfl -/
theorem pe_cmpR {op : CmpOp} {r : R2} (ho : OpR X (compareOp op) r) (ha : PE X a ta) (hb : PE X b tb) (hm : behindInMarks op b = false) : PE X (.Compare a [op] [b] pos) (tOp r ta tb) := by
  intro pins s σ H Q I h
  exact wpAny_Compare1 (binT ha hb I h fun v u s2 x y H2 I2 rx ry q => ho pins s2 σ H2 x y v u Q I2 rx ry q) hm
/-- a reading of a value as a test -/
def tTest (t : TE) : TT := fun σ H Q => t σ H fun x H' => ∃ k, x = .bl k ∧ Q k H'
theorem pt_cmpR {op : CmpOp} {r : R2} (ho : OpR X (compareOp op) r) (ha : PE X a ta) (hb : PE X b tb) (hm : behindInMarks op b = false) : PT X (.Compare a [op] [b] pos) (tTest (tOp r ta tb)) := by
  intro pins s σ H Q I h
  refine wpAny_isTrue_Compare1 (thn (ha pins s σ H _ I h) fun v s1 ⟨x, H1, I1, r1, q1⟩ => thn (hb pins s1 σ H1 _ I1 q1) fun u s2 ⟨y, H2, I2, r2, q2⟩ =>
    thn (ho pins s2 σ H2 x y v u _ I2 r1 r2 q2) fun c s3 ⟨z, H3, I3, r3, k, e, q3⟩ => ?_) hm
  subst e
  cases r3
  exact wpAny_truthy_bool ⟨H3, I3, q3⟩
/-! ### truth -/
theorem line63 : (sizeLine : Nat) < 2 ^ 63 := by rw [sizeLine_eq]; decide
/-! ### strs and bytes -/
/-! ### scalar builtins, by CallR -/
theorem vals1 {x : V} {us : List Value} (r : Vals [x] us) : ∃ u, us = [u] ∧ RelV x u := by
  cases r with
  | cons r1 r2 => cases r2; exact ⟨_, rfl, r1⟩
theorem vals2 {x y : V} {us : List Value} (r : Vals [x, y] us) : ∃ u w', us = [u, w'] ∧ RelV x u ∧ RelV y w' := by
  cases r with
  | cons r1 r2 =>
    cases r2 with
    | cons r3 r4 => cases r4; exact ⟨_, _, rfl, r1, r3⟩
theorem call_abs : CallR X (.builtin "abs") (fun xs H Q => ∃ i, xs = [.int i] ∧ Q (.int (if i < 0 then -i else i)) H) := by
  intro pins s σ H xs us Q I r h
  obtain ⟨i, rfl, q⟩ := h
  obtain ⟨u, rfl, t, rfl⟩ := vals1 r
  exact call_abs_int fun u tk => ⟨.int (if i < 0 then -i else i), H, I.tok _, ⟨_, rfl⟩, q⟩
theorem call_max2 (hc : X.calm = true) : CallR X (.builtin "max") (fun xs H Q => ∃ i j, xs = [.int i, .int j] ∧ Q (.int (if j > i then j else i)) H) := by
  intro pins s σ H xs us Q I r h
  obtain ⟨i, j, rfl, q⟩ := h
  obtain ⟨u, w', rfl, ⟨t, rfl⟩, ⟨t', rfl⟩⟩ := vals2 r
  refine max_two_ints (I.ok.hd hc) fun h' tk k => ⟨_, H, I.kept k, ?_, q⟩
  by_cases hj : j > i
  · rw [if_pos hj, if_pos hj]; exact ⟨_, rfl⟩
  · rw [if_neg hj, if_neg hj]; exact ⟨_, rfl⟩
theorem call_min2 (hc : X.calm = true) : CallR X (.builtin "min") (fun xs H Q => ∃ i j, xs = [.int i, .int j] ∧ Q (.int (if j < i then j else i)) H) := by
  intro pins s σ H xs us Q I r h
  obtain ⟨i, j, rfl, q⟩ := h
  obtain ⟨u, w', rfl, ⟨t, rfl⟩, ⟨t', rfl⟩⟩ := vals2 r
  refine min_two_ints (I.ok.hd hc) fun h' tk k => ⟨_, H, I.kept k, ?_, q⟩
  by_cases hj : j < i
  · rw [if_pos hj, if_pos hj]; exact ⟨_, rfl⟩
  · rw [if_neg hj, if_neg hj]; exact ⟨_, rfl⟩
end
end L2

namespace L2
open PySem PySem.Spec PyProof.Rows

/-! ### an instance, its attributes a map -/
structure ObjM (h : Heap) (x dx C : Addr) (mA : Str → Option Value) : Prop where
  obj : h.get? x = some (PySem.W.instObj C dx)
  ns : h.Ns1 dx mA
  ne : dx ≠ x

theorem lookIn_ns {h : Heap} {dx : Addr} {mA : Str → Option Value} (n : h.Ns1 dx mA) : ∃ od, h.get? dx = some od ∧ ∀ name, PySem.W.lookIn name od = some (mA name) := by
  obtain ⟨o, es, ep, ho, hd, hk, _, hm⟩ := n
  refine ⟨o, ho, fun name => ?_⟩
  have e := hm name
  unfold nsFind findBy at e
  rw [← Array.find?_toList] at e
  unfold PySem.W.lookIn
  rw [hd]
  dsimp only
  split
  · rename_i y q
    rw [q] at e
    exact congrArg some e
  · rename_i q
    rw [q] at e
    have a : es.toList.any (·.refKey) = false := by
      rw [List.any_eq_false]
      intro y hy
      obtain ⟨z, t, hkey⟩ := hk y (Array.mem_toList_iff.mp hy)
      simp [DictEntry.refKey, hkey]
    have a' : ¬ es.toList.any (·.refKey) = true := by rw [a]; exact Bool.false_ne_true
    rw [if_neg a']
    exact congrArg some e

theorem ObjM.look {h : Heap} {x dx C : Addr} {mA : Str → Option Value} (I : ObjM h x dx C mA) : ∃ od, PySem.W.InstAt h x (PySem.W.instObj C dx) C (some od) ∧ ∀ name, PySem.W.lookIn name od = some (mA name) :=
  let ⟨od, ho, hl⟩ := lookIn_ns I.ns
  ⟨od, ⟨I.obj, rfl, rfl, ho⟩, hl⟩

section
variable {prog : Program} {w : World} {A : Around} {E : Value → Shared → Prop} {s : Shared} {K : PySem.W.Frag} {x dx C f : Addr} {mA : Str → Option Value} {name : Str} {v : Value}

theorem get_map {expr : Bool} {Q : Value → Shared → Prop} (X : K.In s.heap) (I : ObjM s.heap x dx C mA) (hg : PySem.W.plainGet K C name = true) (hh : PySem.W.hasDictIn K C = true)
    (ha : PySem.W.findIn K (.ref C) name = some none) (hv : mA name = some v) (hv' : PySem.W.handedIn v = true) (h : Q v { s with toks := s.toks + 1 }) :
    wpAny (model prog w) A (getAttr (.ref x) name expr) Q E s := by
  obtain ⟨od, J, hl⟩ := I.look
  exact PySem.W.get_value X J (PySem.W.plainGet_of hg).1 (PySem.W.findObj_own hh ha rfl (by rw [hl, hv])) hv' h

theorem get_meth {pl : Sem Bool} {Q : Value × List Value → Shared → Prop} (X : K.In s.heap) (I : ObjM s.heap x dx C mA) (hg : PySem.W.plainGet K C name = true)
    (hf : PySem.W.findIn K (.ref C) name = some (some (.ref f))) (ht : PySem.W.isFn K (.ref f) = true) (hv : mA name = none) (h : Q (.ref f, [.ref x]) s) :
    wpAny (model prog w) A (getMethod (.ref x) name pl) Q E s := by
  obtain ⟨od, J, hl⟩ := I.look
  exact PySem.W.method_fn X J (PySem.W.plainGet_of hg).1 (PySem.W.plainGet_of hg).2 hf (beq_iff_eq.mp ht) (by show (PySem.W.lookIn name od).map (·.isSome) = some false; rw [hl, hv]; rfl) h

theorem set_map {ns : List Str} {Q : Unit → Shared → Prop} (X : K.In s.heap) (I : ObjM s.heap x dx C mA)
    (hs : PySem.W.findIn K (.ref C) "__setattr__" = some (some (.builtin "object.__setattr__"))) (hp : PySem.W.plainOver K C = true) (ht : PySem.W.takerIn K C name = some none) (hh : PySem.W.hasDictIn K C = true)
    (hw : PySem.Within mA ns) (hsz : ns.length ≤ sizeLine)
    (h : ∀ h', ObjM h' x dx C (fun y => if y = name then some v else mA y) → Heap.SameBut dx s.heap h' → Q () { s with heap := h', toks := s.toks + 2 }) :
    wpAny (model prog w) A (setAttr (.ref x) name v) Q E s := by
  obtain ⟨od, J, hl⟩ := I.look
  refine PySem.W.set_plain X J hs (PySem.W.osa_open (s := { s with toks := s.toks + 1 }) (r := none) X J hp ht fun b => ?_)
  obtain ⟨cd, hc, hd'⟩ := PySem.W.any_some hh
  have hx : s.heap.get? x = some ⟨.ref C, some dx, .plain, #[]⟩ := I.obj
  refine wpAny_bind (wpAny_pure (wpAny_bind (wpAny_bind (wpAny_loadPart hx (wpAny_bind (PySem.W.Looks.here (s := { s with toks := s.toks + 1 }) (PySem.W.looks_clsIn X hc) ?_))))))
  rw [hd']
  refine wpAny_pure (a := some dx) (wpAny_bind (wpAny_pure (wpAny_bind ?_)))
  refine wpAny_nsSet1 (s := { s with toks := s.toks + 1 }) I.ns fun h' hn2 hs2 => ?_
  obtain ⟨oD, esD, epD, hoD, hdD, hcD⟩ := hn2.count (PySem.Within.cons name v hw)
  refine wpAny_bind (wpAny_lookBehind hoD (by rw [hdD]; exact pastItsLine_dict (Nat.le_trans hcD (by rw [List.length_cons]; omega))) ?_)
  exact wpAny_pure (h _ ⟨(hs2.2 _ (Ne.symm I.ne)).trans I.obj, hn2, I.ne⟩ hs2)

/-- C(..): the dict at the heap's end, the instance behind it; then its __init__ -/
theorem make_map {R : Result → Shared → Prop} {vs : List Value} {kw : List (Str × Value)} (X : K.In s.heap) (hm : PySem.W.makesIn K C = true)
    (hi : PySem.W.findIn K (.ref C) "__init__" = some (some (.ref f))) (hf : PySem.W.typeIn K (.ref f) = some (.type "function"))
    (h : codeAny (model prog w) (A.under (.builtin "type.__call__" ⟨.ref C :: vs, kw⟩)) (.call (.ref f) ⟨.ref (s.heap.objs.size + 1) :: vs, kw⟩) (PySem.W.InitBack (s.heap.objs.size + 1) R)
      { s with heap := (s.heap.push PySem.W.emptyDict).push (PySem.W.instObj C s.heap.objs.size) }) :
    codeAny (model prog w) A (.call (.ref C) ⟨vs, kw⟩) R s := by
  obtain ⟨hh, g, d, t, os⟩ := s
  exact PySem.W.make_core (PySem.W.makes_of X hm) (PySem.W.looks_findIn X hi) (fun self => PySem.W.bind_fn X self hf) (.inl rfl) h
end

/-! ### the attributes as a list of pairs -/
def putF (f : Str) (v : V) : List (Str × V) → List (Str × V)
  | [] => [(f, v)]
  | (g, x) :: r => if g = f then (g, v) :: r else (g, x) :: putF f v r
theorem lookup_putF (f g : Str) (v : V) : ∀ fs : List (Str × V), (putF f v fs).lookup g = if g = f then some v else fs.lookup g
  | [] => by
    show List.lookup g [(f, v)] = _
    by_cases h : g = f
    · have hb : (g == f) = true := beq_iff_eq.mpr h
      simp only [List.lookup, hb, if_pos h]
    · have hb : (g == f) = false := beq_eq_false_iff_ne.mpr h
      simp only [List.lookup, hb, if_neg h]
  | (k, x) :: r => by
    have ih := lookup_putF f g v r
    rw [show putF f v ((k, x) :: r) = (if k = f then (k, v) :: r else (k, x) :: putF f v r) from rfl]
    by_cases hk : k = f
    · rw [if_pos hk]
      by_cases h : g = k
      · have hb : (g == k) = true := beq_iff_eq.mpr h
        simp only [List.lookup, hb, if_pos (h.trans hk)]
      · have hb : (g == k) = false := beq_eq_false_iff_ne.mpr h
        simp only [List.lookup, hb, if_neg (fun e : g = f => h (e.trans hk.symm))]
    · rw [if_neg hk]
      by_cases h : g = k
      · have hb : (g == k) = true := beq_iff_eq.mpr h
        simp only [List.lookup, hb, if_neg (fun e : g = f => hk (h.symm.trans e))]
      · have hb : (g == k) = false := beq_eq_false_iff_ne.mpr h
        simp only [List.lookup, hb]
        exact ih
theorem keys_putF (f : Str) (v : V) : ∀ fs : List (Str × V), f ∈ (putF f v fs).map (·.1) ∧ ∀ g, g ∈ fs.map (·.1) → g ∈ (putF f v fs).map (·.1)
  | [] => ⟨by simp [putF], fun g h => by simp at h⟩
  | (k, x) :: r => by
    obtain ⟨i1, i2⟩ := keys_putF f v r
    rw [show putF f v ((k, x) :: r) = (if k = f then (k, v) :: r else (k, x) :: putF f v r) from rfl]
    by_cases hk : k = f
    · rw [if_pos hk]
      subst hk
      exact ⟨by simp, fun g h => by simpa using h⟩
    · rw [if_neg hk]
      refine ⟨?_, fun g h => ?_⟩
      · rw [List.map_cons]
        exact List.mem_cons_of_mem _ i1
      · rw [List.map_cons] at h ⊢
        rcases List.mem_cons.mp h with e | e
        · exact List.mem_cons.mpr (.inl e)
        · exact List.mem_cons_of_mem _ (i2 g e)
theorem length_putF (f : Str) (v : V) : ∀ fs : List (Str × V), (putF f v fs).length ≤ fs.length + 1
  | [] => by simp [putF]
  | (k, x) :: r => by
    have ih := length_putF f v r
    rw [show putF f v ((k, x) :: r) = (if k = f then (k, v) :: r else (k, x) :: putF f v r) from rfl]
    by_cases hk : k = f
    · rw [if_pos hk, List.length_cons, List.length_cons]; omega
    · rw [if_neg hk, List.length_cons, List.length_cons]; omega

theorem RelO.some_of {v : V} {o : Option Value} (r : RelO (some v) o) : ∃ u, o = some u ∧ RelV v u := by
  cases o with
  | none => exact (show False from r).elim
  | some u => exact ⟨u, rfl, r⟩
theorem RelO.none_of {o : Option Value} (r : RelO none o) : o = none := by
  cases o with
  | none => rfl
  | some u => exact (show False from r).elim
theorem handed_of {v : V} {u : Value} (r : RelV v u) : PySem.W.handedIn u = true := by
  cases v with
  | non => cases (show u = Value.none from r); rfl
  | bl b => cases (show u = Value.bool b from r); rfl
  | int i => obtain ⟨t, e⟩ := (show ∃ t, u = Value.int i t from r); cases e; rfl
  | str x => obtain ⟨t, e⟩ := (show ∃ t, u = Value.str x t from r); cases e; rfl
  | byt b => obtain ⟨t, e⟩ := (show ∃ t, u = Value.bytes b t from r); cases e; rfl
  | flt b => obtain ⟨t, e⟩ := (show ∃ t, u = Value.float b t from r); cases e; rfl
  | ref a => cases (show u = Value.ref a from r); rfl
  | ty n => cases (show u = Value.type n from r); rfl

section
variable {P : Program} {w : World} {H H' : Hp} {h h' : Heap} {a C dx : Addr} {fs fs' : List (Str × V)}
theorem ins_get (hok : HOk P w H h) (e : H a = some (.ins C dx fs)) : ∃ mA, ObjM h a dx C mA ∧ (∀ f, RelO (fs.lookup f) (mA f)) ∧ PySem.Within mA (fs.map (·.1)) ∧ fs.length ≤ 1000 ∧ H dx = some (.own a) := by
  obtain ⟨d, z, ne, ob, mA, n, r, q⟩ := (show ObjOk P w H h a (.ins C dx fs) from hok a _ e)
  exact ⟨mA, ⟨ob, n, ne⟩, r, q, z, d⟩
end

/-! ### what of the text a class must have -/
structure Cls (K : PySem.W.Frag) (C : Addr) : Prop where
  pg : PySem.W.plainGet K C Str.empty = true
  hd : PySem.W.hasDictIn K C = true
  po : PySem.W.plainOver K C = true
  sa : PySem.W.findIn K (.ref C) "__setattr__" = some (some (.builtin "object.__setattr__"))
theorem Cls.get {K : PySem.W.Frag} {C : Addr} (c : Cls K C) (f : Str) : PySem.W.plainGet K C f = true := c.pg
/-- no class of it has the name -/
def NoAttr (K : PySem.W.Frag) (C : Addr) (f : Str) : Prop := PySem.W.findIn K (.ref C) f = some none
theorem NoAttr.taker {K : PySem.W.Frag} {C : Addr} {f : Str} (n : NoAttr K C f) : PySem.W.takerIn K C f = some none := by
  unfold PySem.W.takerIn
  rw [show PySem.W.findIn K (.ref C) f = some none from n]
  rfl
/-- a method: a plain def of the class or of one above it -/
structure Meth (K : PySem.W.Frag) (C : Addr) (m : Str) (f : Addr) : Prop where
  at_ : PySem.W.findIn K (.ref C) m = some (some (.ref f))
  fn : PySem.W.isFn K (.ref f) = true
  kp : PySem.W.keepIn K (.ref f) = true

section
variable {X : Cx} {pins : List (Addr × Obj)} {σ : St} {H : Hp} {s : Shared} {a C dx : Addr} {fs : List (Str × V)} {f : Str} {v : V} {A : Around} {E : Value → Shared → Prop}

theorem getattr_ok {b : Bool} {Q : Value → Shared → Prop} (I : Inv X pins σ H s) (e : H a = some (.ins C dx fs)) (c : Cls X.K C) (n : NoAttr X.K C f) (l : fs.lookup f = some v)
    (h : ∀ u s', Inv X pins σ H s' → RelV v u → Q u s') : wpAny (model X.prog X.w) A (getAttr (.ref a) f b) Q E s := by
  obtain ⟨mA, O, r, _, _, _⟩ := ins_get I.hok e
  obtain ⟨u, hu, ru⟩ := RelO.some_of (v := v) (o := mA f) (by rw [← l]; exact r f)
  exact get_map I.kIn O (c.get f) c.hd n hu (handed_of ru) (h u _ (I.tok _) ru)

theorem getmeth_ok {m : Str} {g : Addr} {pl : Sem Bool} {Q : Value × List Value → Shared → Prop} (I : Inv X pins σ H s) (e : H a = some (.ins C dx fs)) (c : Cls X.K C) (k : Meth X.K C m g) (l : fs.lookup m = none)
    (h : Q (.ref g, [.ref a]) s) : wpAny (model X.prog X.w) A (getMethod (.ref a) m pl) Q E s := by
  obtain ⟨mA, O, r, _, _, _⟩ := ins_get I.hok e
  have hn : mA m = none := RelO.none_of (by rw [← l]; exact r m)
  exact get_meth I.kIn O (c.get m) k.at_ k.fn hn h

theorem setattr_ok {y : V} {u : Value} {Q : Unit → Shared → Prop} (I : Inv X pins σ H s) (e : H a = some (.ins C dx fs)) (c : Cls X.K C) (n : NoAttr X.K C f) (hl : fs.length < 1000) (ry : RelV y u)
    (h : ∀ s', Inv X pins σ (upd H a (.ins C dx (putF f y fs))) s' → Q () s') : wpAny (model X.prog X.w) A (setAttr (.ref a) f u) Q E s := by
  obtain ⟨mA, O, r, wi, _, ho⟩ := ins_get I.hok e
  have hz : (fs.map (·.1)).length ≤ sizeLine := by rw [List.length_map, sizeLine_eq]; omega
  refine set_map I.kIn O c.sa c.po n.taker c.hd wi hz fun h' O' sb => h _ ?_
  have hd : ∃ o, h'.get? dx = some o := let ⟨o, _, _, e', _⟩ := O'.ns; ⟨o, e'⟩
  refine I.write (x := a) (e := dx) (by rw [e]; exact True.intro) (.inr ho) (fun b q hb z => (sb.2 b hb).trans z) hd ?_
  refine ⟨by rw [upd_ne O.ne]; exact ho, ?_, O.ne, O'.obj, _, O'.ns, fun g => ?_, fun g hg => ?_⟩
  · have := length_putF f y fs; omega
  · show RelO ((putF f y fs).lookup g) (if g = f then some u else mA g)
    rw [lookup_putF]
    by_cases q : g = f
    · rw [if_pos q, if_pos q]; exact ry
    · rw [if_neg q, if_neg q]; exact r g
  · by_cases q : g = f
    · rw [q]; exact (keys_putF f y fs).1
    · refine (keys_putF f y fs).2 g (wi g fun z => hg ?_)
      show (if g = f then some u else mA g) = none
      rw [if_neg q]; exact z

/-- a new instance, tracked, without attributes -/
theorem Inv.made (I : Inv X pins σ H s) : Inv X pins σ (upd (upd H s.heap.objs.size (.own (s.heap.objs.size + 1))) (s.heap.objs.size + 1) (.ins C s.heap.objs.size []))
    { s with heap := (s.heap.push PySem.W.emptyDict).push (PySem.W.instObj C s.heap.objs.size) } := by
  have e1 : (s.heap.push PySem.W.emptyDict).get? s.heap.objs.size = some PySem.W.emptyDict := Heap.get?_push_size s.heap rfl
  have e2 : ((s.heap.push PySem.W.emptyDict).push (PySem.W.instObj C s.heap.objs.size)).get? (s.heap.objs.size + 1) = some (PySem.W.instObj C s.heap.objs.size) := by
    have := Heap.get?_push_size (s.heap.push PySem.W.emptyDict) (o := PySem.W.instObj C s.heap.objs.size) rfl
    rwa [Heap.size_push] at this
  have e3 : (s.heap.push PySem.W.emptyDict).Ns s.heap.objs.size (fun _ => none) := ⟨PySem.W.emptyDict, #[], _, e1, rfl, (fun e he => absurd he (by simp)), fun _ => rfl⟩
  have I1 := I.laid (a := s.heap.objs.size) (o := .own (s.heap.objs.size + 1)) (h' := s.heap.push PySem.W.emptyDict) (t' := s.toks) (fun b u q => Heap.get?_push_of_some _ q) (Nat.le_refl _) ⟨_, e1⟩
  refine I1.laid (a := s.heap.objs.size + 1) (o := .ins C s.heap.objs.size []) (t' := s.toks) (fun b u q => Heap.get?_push_of_some _ q) (Nat.le_of_eq (Heap.size_push _ _)) ?_
  have ne : s.heap.objs.size ≠ s.heap.objs.size + 1 := Nat.ne_of_lt (Nat.lt_succ_self _)
  refine ⟨by rw [upd_ne ne, upd_same], Nat.zero_le _, ne, e2, fun _ => none, (Heap.Ns1.of_empty e3).at fun o q => Heap.get?_push_of_some _ q, fun _ => True.intro, fun y hy => absurd rfl hy⟩

/-- e.f where nothing but the object is asked: through attributeBase (super) and the last hold -/
theorem attr_of {prog : Program} {w : World} {env : Env} {e : Expr} {f : Str} {pos : Pos} {s : Shared} {Q : Value → Shared → Prop} (hb : attributeBase e f env (eval e env) = eval e env)
    (h : wpAny (model prog w) A (eval e env) (fun o s₁ => wpAny (model prog w) A (getAttr o f true) Q E s₁) E s) : wpAny (model prog w) A (eval (.Attribute e f pos) env) Q E s :=
  Attribute_any_ h (by rw [arm_eval_Attribute, hb])
end

/-! ### readings and rules -/
/-- e.f, an attribute of the instance -/
def tFld (K : PySem.W.Frag) (ta : TE) (f : Str) : TE := fun σ H Q => ta σ H fun x H1 => ∃ a C dx fs v, x = .ref a ∧ H1 a = some (.ins C dx fs) ∧ Cls K C ∧ NoAttr K C f ∧ fs.lookup f = some v ∧ Q v H1
/-- e.f = value -/
def sFld (K : PySem.W.Frag) (ta tv : TE) (f : Str) : TS := fun D σ H => tv σ H fun y H1 => ta σ H1 fun x H2 => ∃ a C dx fs, x = .ref a ∧ H2 a = some (.ins C dx fs) ∧ Cls K C ∧ NoAttr K C f ∧ fs.length < 1000 ∧
  D.nx σ (upd H2 a (.ins C dx (putF f y fs)))
/-- an augmented operator on two values -/
def InOp (X : Cx) (op : Operator) (rd : V → V → Hp → VK → Prop) : Prop :=
  ∀ (pins : List (Addr × Obj)) (s : Shared) (σ : St) (H : Hp) (x y : V) (u v : Value) (Q : VK), Inv X pins σ H s → RelV x u → RelV y v → rd x y H Q → wpAny (model X.prog X.w) X.A (inplaceOp op u v) (EP X pins σ Q) X.xe s
/-- e.f op= value -/
def sFldAug (K : PySem.W.Frag) (ta tv : TE) (rd : V → V → Hp → VK → Prop) (f : Str) : TS := fun D σ H => ta σ H fun x H1 => ∃ a C dx fs v, x = .ref a ∧ H1 a = some (.ins C dx fs) ∧ Cls K C ∧ NoAttr K C f ∧ fs.lookup f = some v ∧
  tv σ H1 fun y H2 => rd v y H2 fun z H3 => ∃ dx' fs', H3 a = some (.ins C dx' fs') ∧ fs'.length < 1000 ∧ D.nx σ (upd H3 a (.ins C dx' (putF f z fs')))

section
variable {X : Cx} {o e value : Expr} {f : Str} {pos pos' tpos : Pos} {ta tv : TE}
theorem pe_fld (he : PE X e ta) (hb : attributeBase e f X.env (eval e X.env) = eval e X.env) : PE X (.Attribute e f pos) (tFld X.K ta f) := by
  intro pins s σ H Q I h
  refine attr_of hb (thn (he pins s σ H _ I h) fun u s1 ⟨x, H1, I1, rx, a, C, dx, fs, v, ex, ea, c, n, l, q⟩ => ?_)
  subst ex
  obtain rfl : u = Value.ref a := rx
  exact getattr_ok I1 ea c n l fun u' s2 I2 ru => ⟨v, H1, I2, ru, q⟩
theorem ps_fld (ha : PE X o ta) (hv : PE X value tv) (hs : swapsWith value (some (.Attribute o f pos')) pos.line X.env = pure false) : PS X (.Assign [.Attribute o f pos'] value pos) (sFld X.K ta tv f) := by
  intro pins s σ H D I h
  refine plainObj_wpAny_Assign_Attribute (thn (hv pins s σ H _ I h) fun u s1 ⟨y, H1, I1, ry, q⟩ => thn (ha pins s1 σ H1 _ I1 q) fun ov s2 ⟨x, H2, I2, rx, a, C, dx, fs, ex, ea, c, n, l, q2⟩ => ?_) hs
  subst ex
  obtain rfl : ov = Value.ref a := rx
  exact setattr_ok I2 ea c n l ry fun s3 I3 => ⟨σ, _, I3, q2⟩
theorem ps_fldaug {op : Operator} {rd : V → V → Hp → VK → Prop} (ha : PE X o ta) (hv : PE X value tv) (hop : InOp X op rd) : PS X (.AugAssign (.Attribute o f tpos) op value pos) (sFldAug X.K ta tv rd f) := by
  intro pins s σ H D I h
  refine wpAny_AugAssign_AttributeAny (thn (ha pins s σ H _ I h) fun ov s1 ⟨x, H1, I1, rx, a, C, dx, fs, v, ex, ea, c, n, l, q⟩ => ?_)
  subst ex
  obtain rfl : ov = Value.ref a := rx
  refine getattr_ok I1 ea c n l fun u s2 I2 ru => thn (hv pins s2 σ H1 _ I2 q) fun w3 s3 ⟨y, H2, I3, ry, q3⟩ => thn (hop pins s3 σ H2 v y u w3 _ I3 ru ry q3) fun w4 s4 ⟨z, H3, I4, rz, dx', fs', ea', l', q4⟩ => ?_
  exact setattr_ok I4 ea' c n l' rz fun s5 I5 => ⟨σ, _, I5, q4⟩
def rAdd : V → V → Hp → VK → Prop := fun x y H Q => ∃ i j, x = .int i ∧ y = .int j ∧ Q (.int (i + j)) H
theorem in_add : InOp X .Add rAdd := by
  rintro pins s σ H x y u v Q I rx ry ⟨i, j, rfl, rfl, q⟩
  obtain ⟨t, rfl⟩ := (show ∃ t, u = Value.int i t from rx)
  obtain ⟨t', rfl⟩ := (show ∃ t', v = Value.int j t' from ry)
  exact PyProof.Rows.iadd_int ⟨.int (i + j), H, I.tok _, ⟨_, rfl⟩, q⟩
end

/-! ### isinstance -/
section
variable {X : Cx} {pins : List (Addr × Obj)} {σ : St} {H : Hp} {s : Shared} {A : Around} {E : Value → Shared → Prop} {Q : Value → Shared → Prop} {c : Value} {b : Bool}
end
end L2

namespace L2
open PySem PySem.Spec PyProof.Rows

/-! ### room -/
structure Room (k : Nat) (A : Around) : Prop where
  hd : A.handled = none
  dp : A.depth + 3 * k + 5 < recursionLimit
  un : A.units + 16 * k + 200 < cLine
theorem Room.mono {j k : Nat} {A : Around} (r : Room k A) (h : j ≤ k) : Room j A := ⟨r.hd, by have := r.dp; omega, by have := r.un; omega⟩
theorem Room.deeper {k : Nat} {A : Around} (r : Room (k + 1) A) (env : Env) : Room k (A.deeper env) :=
  ⟨r.hd, by have := r.dp; show A.depth + 1 + 3 * k + 5 < _; omega, by have := r.un; show A.units + 3 + 16 * k + 200 < _; omega⟩
theorem Room.in1 {k : Nat} {A : Around} (r : Room (k + 1) A) : Room k A.in1 :=
  ⟨r.hd, by have := r.dp; show A.depth + 3 * k + 5 < _; omega, by have := r.un; show A.units + 1 + 16 * k + 200 < _; omega⟩
theorem make_depth {A : Around} {C : Addr} {us : List Value} {kw : List (Str × Value)} : (A.under (.builtin "type.__call__" ⟨.ref C :: us, kw⟩)).depth = A.depth + 1 := by
  first | rfl | simp [Around.under, Code.weight, Code.isCreation, Code.isGuard, Code.isCaller, Code.frames, Code.isFrame, guardIds]
theorem make_units {A : Around} {C : Addr} {us : List Value} {kw : List (Str × Value)} : (A.under (.builtin "type.__call__" ⟨.ref C :: us, kw⟩)).units = A.units + 1 := by
  first | rfl | simp [Around.under, Code.cUnits, Code.frames, Code.isFrame]
theorem Room.make {k : Nat} {A : Around} (r : Room (k + 1) A) (C : Addr) (us : List Value) (kw : List (Str × Value)) : Room k (A.under (.builtin "type.__call__" ⟨.ref C :: us, kw⟩)) :=
  ⟨r.hd, by have := r.dp; rw [make_depth]; omega, by have := r.un; rw [make_units]; omega⟩
theorem Room.depth {k : Nat} {A : Around} (r : Room k A) : A.depth < recursionLimit := by have := r.dp; omega
theorem Room.units {k : Nat} {A : Around} (r : Room k A) : A.units + 64 < cLine := by have := r.un; omega
/-! ### argument lists and displays -/
def tNil : TA := fun _ H Q => Q [] H
def tCons (ta : TE) (tr : TA) : TA := fun σ H Q => ta σ H fun x H1 => tr σ H1 fun xs H2 => Q (x :: xs) H2
section
variable {X : Cx} {e : Expr} {es : List Expr} {te : TE} {t : TA} {pos : Pos}
theorem pa_nil : PA X [] tNil := fun _ _ _ _ H Q I h => Calls.spliced_nil ⟨[], H, I, .nil, h⟩
theorem pa_cons (ha : PE X e te) (hr : PA X es t) (hs : starEach (e :: es) X.env = (false, eval e X.env) :: starEach es X.env := by rfl) : PA X (e :: es) (tCons te t) := by
  intro pos pins s σ H Q I h
  rw [hs]
  show wpAny _ _ (spliced ((false, eval e X.env) :: backTo pos (starEach es X.env))) _ _ s
  refine Calls.spliced_cons (thn (ha pins s σ H _ I h) fun u s1 ⟨x, H1, I1, r1, q1⟩ => ?_)
  exact thn (hr pos pins s1 σ H1 _ I1 q1) fun us s2 ⟨xs, H2, I2, r2, q2⟩ => ⟨x :: xs, H2, I2, .cons r1 r2, q2⟩

/-- a tuple, a list of written items -/
def tTup (t : TA) : TE := fun σ H Q => t σ H fun xs H1 => xs.length ≤ sizeLine ∧ ∀ p, H1 p = none → Q (.ref p) (upd H1 p (.tup xs))
def tLst (t : TA) : TE := fun σ H Q => t σ H fun xs H1 => xs.length ≤ sizeLine ∧ ∀ p, H1 p = none → Q (.ref p) (upd H1 p (.lst xs))
theorem pe_tup {x1} (h : PA X es t) : PE X (.Tuple es x1 pos) (tTup t) := by
  intro pins s σ H Q I hq
  refine wpAny_Tuple_spliced (thn (h pos pins s σ H _ I hq) fun us s1 ⟨xs, H1, I1, r, z, q⟩ => ⟨by rw [← r.length]; exact z, ?_⟩)
  have hf : H1 s1.heap.objs.size = none := I1.hok.fresh (Nat.le_refl _)
  refine ⟨.ref s1.heap.objs.size, upd H1 s1.heap.objs.size (.tup xs), I1.laid (t' := s1.toks) (fun b u e => Heap.get?_push_of_some _ e) (Nat.le_refl _) ?_, rfl, q _ hf⟩
  exact ⟨z, us, r, ⟨_, Heap.get?_push_size _ rfl, rfl, _, rfl⟩⟩
theorem pe_lst (h : PA X es t) : PE X (.List es pos) (tLst t) := by
  intro pins s σ H Q I hq
  refine wpAny_List_spliced (thn (h pos pins s σ H _ I hq) fun us s1 ⟨xs, H1, I1, r, z, q⟩ => ⟨by rw [← r.length]; exact z, ?_⟩)
  have hf : H1 s1.heap.objs.size = none := I1.hok.fresh (Nat.le_refl _)
  refine ⟨.ref s1.heap.objs.size, upd H1 s1.heap.objs.size (.lst xs), I1.laid (t' := s1.toks) (fun b u e => Heap.get?_push_of_some _ e) (Nat.le_refl _) ?_, rfl, q _ hf⟩
  exact ⟨z, us, 0, r, Heap.get?_push_size _ rfl⟩
end

/-! ### what a def promises -/
/-- a def's promise: the bound arguments in the parameters' order, the heap, the wanted end, the wanted exception -/
abbrev Sp := List V → Hp → VK → XK → Prop
/-- how an exception lies behind a call (file 08 gives it): the callers' frames, abstract heap and state ahead of the call, the wish, the exception, the state -/
abbrev CXT := List Env → Hp → Shared → XK → Value → Shared → Prop

/-- the state at a call -/
structure Env0 (P : Program) (w : World) (K : PySem.W.Frag) (mg : Str → Option Value) (base : Heap) (A : Around) (outer : List Env) (s : Shared) (H : Hp) : Prop where
  frames : A.frames = some outer
  mod : Mod K mg base
  bs : ∀ b o, base.get? b = some o → s.heap.get? b = some o ∧ H b = none
  bsz : base.objs.size ≤ s.heap.objs.size
  funs : s.heap.FunFrames base outer
  frf : ∀ b ∈ frs outer, H b = none
  hok : HOk P w H s.heap
  bare : AllBare s.gens
/-- a call's end -/
def CE (outer : List Env) (P : Program) (w : World) (H : Hp) (s : Shared) (Q : VK) (u : Value) (s' : Shared) : Prop :=
  ∃ v H', s'.os = s.os ∧ AllBare s'.gens ∧ Un (frs outer) [] H H' s.heap s'.heap ∧ HOk P w H' s'.heap ∧ RelV v u ∧ Q v H'
def CR (CX : CXT) (outer : List Env) (P : Program) (w : World) (H : Hp) (s : Shared) (Q : VK) (E : XK) (r : Result) (s' : Shared) : Prop :=
  match r with
  | .ok (.ret u) => CE outer P w H s Q u s'
  | .ok _ => False
  | .error e => CX outer H s E e s'
structure FnOk (P : Program) (w : World) (K : PySem.W.Frag) (mg : Str → Option Value) (base : Heap) (CX : CXT) (k : Nat) (f : Addr) (fd : FuncData) (ps : List Str) (sp : Sp) : Prop where
  len : ∀ vs H Q E, sp vs H Q E → vs.length = ps.length
  run : ∀ (A : Around) (outer : List Env) (s : Shared) (H : Hp) (args : Args) (us : List Value) (vs : List V) (Q : VK) (E : XK), Room k A → Env0 P w K mg base A outer s H → BindsTo s fd args (ps.zip us) → Vals vs us → sp vs H Q E →
    codeAny (model P w) A (.call (.ref f) args) (CR CX outer P w H s Q E) s
theorem FnOk.mono {P : Program} {w : World} {K : PySem.W.Frag} {mg : Str → Option Value} {base : Heap} {CX : CXT} {j k : Nat} {f : Addr} {fd : FuncData} {ps : List Str} {sp : Sp} (F : FnOk P w K mg base CX j f fd ps sp) (h : j ≤ k) :
    FnOk P w K mg base CX k f fd ps sp := ⟨F.len, fun A outer s H args us vs Q E hr => F.run A outer s H args us vs Q E (hr.mono h)⟩
/-- a weaker promise -/
theorem FnOk.imp {P : Program} {w : World} {K : PySem.W.Frag} {mg : Str → Option Value} {base : Heap} {CX : CXT} {k : Nat} {f : Addr} {fd : FuncData} {ps : List Str} {sp sp' : Sp} (F : FnOk P w K mg base CX k f fd ps sp)
    (h : ∀ vs H Q E, sp' vs H Q E → sp vs H Q E) : FnOk P w K mg base CX k f fd ps sp' :=
  ⟨fun vs H Q E q => F.len vs H Q E (h _ _ _ _ q), fun A outer s H args us vs Q E hr he hb hv hs => F.run A outer s H args us vs Q E hr he hb hv (h _ _ _ _ hs)⟩

theorem Env0.make {P : Program} {w : World} {K : PySem.W.Frag} {mg : Str → Option Value} {base : Heap} {A : Around} {outer : List Env} {s : Shared} {H : Hp} (e : Env0 P w K mg base A outer s H) (C : Addr) (us : List Value) (kw : List (Str × Value)) :
    Env0 P w K mg base (A.under (.builtin "type.__call__" ⟨.ref C :: us, kw⟩)) outer s H := ⟨by first | exact e.frames | (simpa [Around.under, Code.envs, Code.isFrame, pushEnvs] using e.frames), e.mod, e.bs, e.bsz, e.funs, e.frf, e.hok, e.bare⟩
theorem Env0.in1 {P : Program} {w : World} {K : PySem.W.Frag} {mg : Str → Option Value} {base : Heap} {A : Around} {outer : List Env} {s : Shared} {H : Hp} (e : Env0 P w K mg base A outer s H) :
    Env0 P w K mg base A.in1 outer s H := ⟨e.frames, e.mod, e.bs, e.bsz, e.funs, e.frf, e.hok, e.bare⟩

section
variable {X : Cx} {pins : List (Addr × Obj)} {σ : St} {H : Hp} {s s' : Shared}
/-- from a body: what a callee wants -/
theorem Inv.env0 (I : Inv X pins σ H s) : Env0 X.prog X.w X.K X.mg X.base X.A X.stack s H :=
  ⟨I.ok.frames, I.ok.mod, I.bs, Nat.le_trans I.ok.bsz I.sz, I.stack, I.stkFree, I.hok, I.bare⟩
/-- behind a call -/
theorem Inv.after {Q : VK} {u : Value} (I : Inv X pins σ H s) (h : CE X.stack X.prog X.w H s Q u s') : EP X pins σ Q u s' := by
  obtain ⟨v, H', os, bare, un, hok, r, q⟩ := h
  obtain ⟨hh, g, d, t, os'⟩ := s'
  obtain rfl : os' = s.os := os
  exact ⟨v, H', I.call (h' := hh) (g' := g) (d' := d) (t' := t) (ch := []) un hok bare (fun b z => absurd z (by simp)), r, q⟩
end

/-! ### calls -/
/-- f(..): the written arguments, then the defaults dvs; E: what is wanted of an exception -/
def tCall (sp : Sp) (dvs : List V) (E : XK) (t : TA) : TE := fun σ H Q => t σ H fun vs H1 => sp (vs ++ dvs) H1 Q E
/-- o.m(..) of an instance of the class at C -/
def tMeth (C : Addr) (m : Str) (sp : Sp) (dvs : List V) (E : XK) (ta : TE) (t : TA) : TE := fun σ H Q => ta σ H fun x H1 => ∃ a dx fs, x = .ref a ∧ H1 a = some (.ins C dx fs) ∧ fs.lookup m = none ∧
  t σ H1 fun vs H2 => sp (x :: (vs ++ dvs)) H2 Q E
/-- C(..): a new instance and its dict, then __init__ -/
def tMake (C : Addr) (sp : Sp) (dvs : List V) (E : XK) (t : TA) : TE := fun σ H Q => t σ H fun vs H1 => ∀ x dx, H1 x = none → H1 dx = none → dx ≠ x →
  sp (.ref x :: (vs ++ dvs)) (upd (upd H1 dx (.own x)) x (.ins C dx [])) (fun v H2 => v = .non ∧ Q (.ref x) H2) E

/-- how the parameters are bound: us the positional arguments, kw the keywords' values by name, ds the defaults that fill up -/
def Binds (K : PySem.W.Frag) (fd : FuncData) (ps : List Str) (ds : List Value) : Prop :=
  ∀ (s : Shared) (us : List Value), K.In s.heap → (us ++ ds).length = ps.length → BindsTo s fd ⟨us, []⟩ (ps.zip (us ++ ds))
/-- every parameter is given -/
theorem Binds.all {K : PySem.W.Frag} {fd : FuncData} {ps : List Str} (h : ∀ us : List Value, us.length = ps.length → bindArgs fd ⟨us, []⟩ = pure (ps.zip us)) : Binds K fd ps [] := fun s us _ hl => by
  rw [List.append_nil] at hl ⊢
  exact .of_eq (h us hl)

/-- an exception of a callee reaches what this body wants of exceptions -/
def Passes (CX : CXT) (X : Cx) (E : XK) : Prop := ∀ (pins : List (Addr × Obj)) (σ : St) (H : Hp) (s : Shared) (e : Value) (s' : Shared), Inv X pins σ H s → CX X.stack H s E e s' → X.xe e s'

section
variable {X : Cx} {CX : CXT} {k : Nat} {f C : Addr} {fd : FuncData} {ps : List Str} {sp : Sp} {dvs : List V} {ds : List Value} {E : XK} {x m : Str} {p pos apos : Pos} {e o : Expr} {es : List Expr} {ta : TE} {t : TA}

/-- the callee runs -/
theorem run_fn {pins : List (Addr × Obj)} {σ : St} {H : Hp} {s : Shared} {Q : VK} {us : List Value} {vs : List V} (F : FnOk X.prog X.w X.K X.mg X.base CX k f fd ps sp) (hr : Room k X.A) (hb : Binds X.K fd ps ds) (hd : Vals dvs ds) (hx : Passes CX X E)
    (I : Inv X pins σ H s) (r : Vals vs us) (h : sp (vs ++ dvs) H Q E) : wpAny (model X.prog X.w) X.A (call (.ref f) us) (EP X pins σ Q) X.xe s := by
  have r2 : Vals (vs ++ dvs) (us ++ ds) := r.append hd
  have hl : (us ++ ds).length = ps.length := by rw [← r2.length]; exact F.len _ _ _ _ h
  refine wpAny_call (codeAny_mono (F.run X.A X.stack s H ⟨us, []⟩ (us ++ ds) (vs ++ dvs) Q E hr I.env0 (hb s us I.kIn hl) r2 h) fun r s' hq => ?_)
  cases r with
  | error e => exact hx pins σ H s e s' I hq
  | ok fl =>
    cases fl with
    | ret u => exact I.after hq
    | next => exact False.elim hq
    | brk => exact False.elim hq
    | cont => exact False.elim hq

theorem pe_call (F : FnOk X.prog X.w X.K X.mg X.base CX k f fd ps sp) (hr : Room k X.A) (hg : Gl X x) (hm : X.mg x = some (.ref f)) (hk : PySem.W.keepIn X.K (.ref f) = true) (hb : Binds X.K fd ps ds) (hd : Vals dvs ds) (hx : Passes CX X E)
    (ha : PA X (e :: es) t) (hdb : (x == ("__debug__" : Str)) = false := by decide) (he : starEach (e :: es) X.env = (false, eval e X.env) :: starEach es X.env := by rfl) (hpl : (backTo pos (starEach es X.env)).any (·.1) = false := by rfl) :
    PE X (.Call (.Name x p) (e :: es) [] pos) (tCall sp dvs E t) := by
  intro pins s σ H Q I h
  refine wpAny_Call_Name_kw (ld_glob I hg hm ?_ hdb)
  refine PySem.W.callWith_K (h₀ := X.base) I.ok.mod.kin hk (thn (ha pos pins s σ H _ I h) fun us s1 ⟨vs, H1, I1, r, q⟩ => ⟨I1.kIn, ?_⟩) he hpl
  exact run_fn F hr hb hd hx I1 r q
/-- o.m(e, ..) -/
theorem pe_meth {pl : Sem Bool} (he : PE X o ta) (c : Cls X.K C) (hm : Meth X.K C m f) (F : FnOk X.prog X.w X.K X.mg X.base CX k f fd ps sp) (hr : Room k X.A) (hb : Binds X.K fd ps ds) (hd : Vals dvs ds) (hx : Passes CX X E) (ha : PA X (e :: es) t)
    (hst : starEach (e :: es) X.env = (false, eval e X.env) :: starEach es X.env := by rfl) (hpl : (backTo pos (starEach es X.env)).any (·.1) = false := by rfl)
    (ht : eval (.Call (.Attribute o m apos) (e :: es) [] pos) X.env = (do
      let ov ← eval o X.env
      standAt apos.atName
      let (f, first) ← holding [ov] (getMethod ov m pl)
      callWith pos f first (backTo pos (starEach (e :: es) X.env)) (backToKw pos (keywordEach [] X.env))) := by rfl) :
    PE X (.Call (.Attribute o m apos) (e :: es) [] pos) (tMeth C m sp dvs E ta t) := by
  intro pins s σ H Q I h
  refine PySem.W.methodCall_KW (pl := pl) (thn (he pins s σ H _ I h) fun u s1 ⟨x, H1, I1, rx, a, dx, fs, ex, ea, l, q⟩ => ?_) ht
  subst ex
  obtain rfl : u = Value.ref a := rx
  refine getmeth_ok I1 ea c hm l ?_
  refine PySem.W.callWith_K (first := [.ref a]) (h₀ := X.base) I.ok.mod.kin hm.kp (thn (ha pos pins s1 σ H1 _ I1 q) fun us s2 ⟨vs, H2, I2, r, q2⟩ => ⟨I2.kIn, ?_⟩) hst hpl
  exact run_fn (us := .ref a :: us) (vs := .ref a :: vs) F hr hb hd hx I2 (.cons rfl r) q2
/-- o.m() -/
theorem pe_meth0 {pl : Sem Bool} (he : PE X o ta) (c : Cls X.K C) (hm : Meth X.K C m f) (F : FnOk X.prog X.w X.K X.mg X.base CX k f fd ps sp) (hr : Room k X.A) (hb : Binds X.K fd ps ds) (hd : Vals dvs ds) (hx : Passes CX X E)
    (ht : eval (.Call (.Attribute o m apos) [] [] pos) X.env = (do
      let ov ← eval o X.env
      standAt apos.atName
      let (f, first) ← holding [ov] (getMethod ov m pl)
      callWith pos f first (backTo pos (starEach [] X.env)) (backToKw pos (keywordEach [] X.env))) := by rfl) :
    PE X (.Call (.Attribute o m apos) [] [] pos) (tMeth C m sp dvs E ta tNil) := by
  intro pins s σ H Q I h
  refine PySem.W.methodCall_KW (pl := pl) (thn (he pins s σ H _ I h) fun u s1 ⟨x, H1, I1, rx, a, dx, fs, ex, ea, l, q⟩ => ?_) ht
  subst ex
  obtain rfl : u = Value.ref a := rx
  refine getmeth_ok I1 ea c hm l ?_
  exact PySem.W.callWith_K0 (first := [.ref a]) I1.kIn hm.kp (run_fn (us := [.ref a]) (vs := [.ref a]) F hr hb hd hx I1 (.cons rfl .nil) q)

/-- what a class must have to be made -/
structure Mk (K : PySem.W.Frag) (C f : Addr) : Prop where
  makes : PySem.W.makesIn K C = true
  init : PySem.W.findIn K (.ref C) "__init__" = some (some (.ref f))
  fn : PySem.W.isFn K (.ref f) = true
  kp : PySem.W.keepIn K (.ref C) = true

theorem run_make {pins : List (Addr × Obj)} {σ : St} {H : Hp} {s : Shared} {Q : VK} {us : List Value} {vs : List V} (M : Mk X.K C f) (F : FnOk X.prog X.w X.K X.mg X.base CX k f fd ps sp) (hr : Room (k + 1) X.A) (hb : Binds X.K fd ps ds) (hd : Vals dvs ds)
    (hx : Passes CX X E) (I : Inv X pins σ H s) (r : Vals vs us)
    (h : ∀ x dx, H x = none → H dx = none → dx ≠ x → sp (.ref x :: (vs ++ dvs)) (upd (upd H dx (.own x)) x (.ins C dx [])) (fun v H2 => v = .non ∧ Q (.ref x) H2) E) :
    wpAny (model X.prog X.w) X.A (call (.ref C) us) (EP X pins σ Q) X.xe s := by
  have hq := h (s.heap.objs.size + 1) s.heap.objs.size (I.hok.fresh (Nat.le_succ _)) (I.hok.fresh (Nat.le_refl _)) (Nat.ne_of_lt (Nat.lt_succ_self _))
  have I2 := Inv.made (C := C) I
  have r2 : Vals (V.ref (s.heap.objs.size + 1) :: (vs ++ dvs)) (Value.ref (s.heap.objs.size + 1) :: (us ++ ds)) := .cons rfl (r.append hd)
  have hl : (Value.ref (s.heap.objs.size + 1) :: us ++ ds).length = ps.length := by
    have e := r2.length
    rw [F.len _ _ _ _ hq] at e
    exact e.symm
  refine wpAny_call (make_map (f := f) I.kIn M.makes M.init (beq_iff_eq.mp M.fn) (codeAny_mono (F.run _ X.stack _ _ ⟨Value.ref (s.heap.objs.size + 1) :: us, []⟩ (Value.ref (s.heap.objs.size + 1) :: (us ++ ds)) _ _ E (hr.make C us [])
    (I2.env0.make C us []) (hb _ (Value.ref (s.heap.objs.size + 1) :: us) I2.kIn hl) r2 hq) fun r s' hq' => ?_))
  cases r with
  | error e => exact hx pins σ _ _ e s' I2 hq'
  | ok fl =>
    cases fl with
    | ret u =>
      obtain ⟨v, H', I3, rv, ev, q3⟩ := I2.after hq'
      subst ev
      exact ⟨rv, ⟨V.ref (s.heap.objs.size + 1), H', I3, rfl, q3⟩⟩
    | next => exact False.elim hq'
    | brk => exact False.elim hq'
    | cont => exact False.elim hq'
theorem pe_make (M : Mk X.K C f) (F : FnOk X.prog X.w X.K X.mg X.base CX k f fd ps sp) (hr : Room (k + 1) X.A) (hg : Gl X x) (hm : X.mg x = some (.ref C)) (hb : Binds X.K fd ps ds) (hd : Vals dvs ds) (hx : Passes CX X E)
    (ha : PA X (e :: es) t) (hdb : (x == ("__debug__" : Str)) = false := by decide) (he : starEach (e :: es) X.env = (false, eval e X.env) :: starEach es X.env := by rfl) (hpl : (backTo pos (starEach es X.env)).any (·.1) = false := by rfl) :
    PE X (.Call (.Name x p) (e :: es) [] pos) (tMake C sp dvs E t) := by
  intro pins s σ H Q I h
  refine wpAny_Call_Name_kw (ld_glob I hg hm ?_ hdb)
  refine PySem.W.callWith_K (h₀ := X.base) I.ok.mod.kin M.kp (thn (ha pos pins s σ H _ I h) fun us s1 ⟨vs, H1, I1, r, q⟩ => ⟨I1.kIn, ?_⟩) he hpl
  exact run_make M F hr hb hd hx I1 r q
end

/-! ### keywords -/
section
variable {X : Cx} {CX : CXT} {k : Nat} {f C : Addr} {fd : FuncData} {ps ks : List Str} {sp : Sp} {E : XK} {x m : Str} {p pos apos kpos : Pos} {e o : Expr} {es : List Expr} {kws : List Keyword} {te ta : TE} {t tk : TA} {nm : Option Str}
variable {g : List Value → List Value → List Value} {gV : List V → List V → List V}
end

/-! ### a def's body keeps its promise -/
/-- names: the parameters first -/
structure FnScope (N P : List Str) (sc : Scope) : Prop where
  kind : sc.kind = .function
  co : sc.isCoroutine = false
  gen : sc.isGenerator = false
  nd : N.Nodup
  pre : N.take P.length = P
  par : ∀ x ∈ P, sc.names.lookup x = some .local ∨ sc.names.lookup x = some .cell
  nofree : ∀ y ∈ sc.names, y.2 ≠ .free

theorem bindL_out {kindOf : Str → Option NameKind} {x : Str} : ∀ {binds : List (Str × Value)} {m : Str → Option Value}, (∀ v, (x, v) ∉ binds) → bindL kindOf binds m x = m x
  | [], _, _ => rfl
  | (n, v) :: r, m, h => by
    unfold bindL
    rw [bindL_out fun w hw => h w (List.mem_cons_of_mem _ hw)]
    split
    · have : x ≠ n := by rintro rfl; exact h v List.mem_cons_self
      simp [this]
    · rfl
theorem bindC_out {kindOf : Str → Option NameKind} {x : Str} : ∀ {binds : List (Str × Value)} {m : Str → Option Value}, (∀ v, (x, v) ∉ binds) → bindC kindOf binds m x = m x
  | [], _, _ => rfl
  | (n, v) :: r, m, h => by
    unfold bindC
    rw [bindC_out fun w hw => h w (List.mem_cons_of_mem _ hw)]
    split
    · rfl
    · have : x ≠ n := by rintro rfl; exact h v List.mem_cons_self
      simp [this]
theorem bindL_get {kindOf : Str → Option NameKind} {x : Str} {v : Value} : ∀ {P : List Str} {vs : List Value} {i : Nat} {m : Str → Option Value}, P.Nodup → P[i]? = some x → vs[i]? = some v → kindOf x = some .local →
    bindL kindOf (P.zip vs) m x = some v
  | [], _, _, _, _, h, _, _ => by simp at h
  | _ :: _, [], _, _, _, _, h, _ => by simp at h
  | p :: P, w :: vs, 0, m, nd, h1, h2, hk => by
    simp at h1 h2; subst h1; subst h2
    show bindL kindOf ((p, w) :: P.zip vs) m p = _
    unfold bindL
    rw [bindL_out fun v hv => (List.nodup_cons.mp nd).1 (List.of_mem_zip hv).1, if_pos hk]
    simp
  | p :: P, w :: vs, i + 1, m, nd, h1, h2, hk => by
    show bindL kindOf ((p, w) :: P.zip vs) m x = _
    unfold bindL
    exact bindL_get (i := i) (List.nodup_cons.mp nd).2 (by simpa using h1) (by simpa using h2) hk
theorem bindC_get {kindOf : Str → Option NameKind} {x : Str} {v : Value} : ∀ {P : List Str} {vs : List Value} {i : Nat} {m : Str → Option Value}, P.Nodup → P[i]? = some x → vs[i]? = some v → kindOf x ≠ some .local →
    bindC kindOf (P.zip vs) m x = some v
  | [], _, _, _, _, h, _, _ => by simp at h
  | _ :: _, [], _, _, _, _, h, _ => by simp at h
  | p :: P, w :: vs, 0, m, nd, h1, h2, hk => by
    simp at h1 h2; subst h1; subst h2
    show bindC kindOf ((p, w) :: P.zip vs) m p = _
    unfold bindC
    rw [bindC_out fun v hv => (List.nodup_cons.mp nd).1 (List.of_mem_zip hv).1, if_neg hk]
    simp
  | p :: P, w :: vs, i + 1, m, nd, h1, h2, hk => by
    show bindC kindOf ((p, w) :: P.zip vs) m x = _
    unfold bindC
    exact bindC_get (i := i) (List.nodup_cons.mp nd).2 (by simpa using h1) (by simpa using h2) hk

/-- the names' values at the entry -/
def start (N : List Str) (vs : List V) : St := vs.map some ++ List.replicate (N.length - vs.length) none

/-- the context of a def's body, at its entry; an exception leaves the frame, then lies as CX says -/
def cxOf (CX : CXT) (P : Program) (w : World) (K : PySem.W.Frag) (mg : Str → Option Value) (base : Heap) (N : List Str) (qual : Str) (scope : Scope) (f : Addr) (cd : Value) (A : Around) (outer : List Env) (s : Shared) (H : Hp) (E : XK) : Cx where
  prog := P
  w := w
  K := K
  mg := mg
  base := base
  A := A.deeper (envOfC qual scope s.heap.objs.size f cd)
  N := N
  s_0 := s
  H_0 := H
  env := envOfC qual scope s.heap.objs.size f cd
  outer := outer
  stack := envOfC qual scope s.heap.objs.size f cd :: outer
  ex := []
  calm := true
  fn := fun _ => true
  pn := []
  xe := fun e s' => wpAny (model P w) (A.deeper (envOfC qual scope s.heap.objs.size f cd)) (leaving (envOfC qual scope s.heap.objs.size f cd) e) (fun _ s'' => CX outer H s E e s'') (fun e' s'' => CX outer H s E e' s'') s'

theorem cell_has {sc : Scope} {n : Nat} {x : Str} (h : sc.names.lookup x = some .cell) : ∃ c, (cellsFrom n sc.names []).lookup x = some c := by
  have q := PySem.W.cellsFrom_some sc.names n [] (.inl h)
  exact Option.isSome_iff_exists.mp q

theorem inv_start {CX : CXT} {P : Program} {w : World} {K : PySem.W.Frag} {mg : Str → Option Value} {base : Heap} {N ps : List Str} {qual : Str} {scope : Scope} {f : Addr} {cd : Value} {A : Around} {outer : List Env} {s s1 : Shared} {H : Hp} {E : XK} {us : List Value} {vs : List V}
    (S : FnScope N ps scope) (hd : A.handled = none) (e0 : Env0 P w K mg base A outer s H) (hl : vs.length = ps.length) (r : Vals vs us)
    (x : InCallC s s.heap.objs.size (bindL (envOfC qual scope s.heap.objs.size f cd).kindOf (ps.zip us) fun _ => none) (cellsFrom (s.heap.objs.size + 1) scope.names []) (bindC (envOfC qual scope s.heap.objs.size f cd).kindOf (ps.zip us) fun _ => none) s1) :
    Inv (cxOf CX P w K mg base N qual scope f cd A outer s H E) [] (start N vs) H s1 := by
  have hpl : ps.length ≤ N.length := by have := congrArg List.length S.pre; rw [List.length_take] at this; omega
  obtain ⟨h1, tk, rfl, hk⟩ := x.done
  have noA : ∀ b : Addr, b ∉ (cxOf CX P w K mg base N qual scope f cd A outer s H E).ex := fun b z => absurd (show b ∈ ([] : List Addr) from z) (by simp)
  refine ⟨⟨e0.mod, S.kind, rfl, rfl, Nat.le_refl _, fun y z c h1 h2 => ?_, fun y hy => ?_, fun y c _ h => ?_, fun _ => hd, Around.frames_deeper e0.frames, .inr ⟨rfl, rfl⟩, fun b z => absurd z (noA b), e0.bs, e0.bsz, fun b _ _ => noA b, fun b z => absurd z (noA b), e0.funs, e0.frf⟩,
    rfl, e0.bare, Un.kept hk, ⟨_, x.toInCall.ns, fun i y v h1 h2 h3 => ?_⟩, fun y c h => ⟨_, x.cell y c h⟩, e0.hok.fresh (Nat.le_refl _), fun y c h => ?_, fun p hp => absurd (show p ∈ ([] : List (Addr × Obj)) from hp) (by simp), e0.hok.kept hk, ?_⟩
  · exact name_of_addr x.apart (PySem.mem_of_lookup h1) (PySem.mem_of_lookup h2)
  · have hy : scope.names.lookup y = some .cell ∨ scope.names.lookup y = some .free := hy
    rcases hy with hy | hy
    · exact cell_has hy
    · exact absurd rfl (S.nofree _ (PySem.mem_of_lookup hy))
  · exact Nat.le_of_lt (x.above y c (PySem.mem_of_lookup h))
  · have hi : i < vs.length := by
      unfold start at h2
      by_cases hi : i < vs.length
      · exact hi
      · rw [List.getElem?_append_right (by simpa using hi)] at h2
        rw [List.getElem?_replicate] at h2
        split at h2 <;> cases h2
    have ha : vs[i]? = some v := by
      unfold start at h2
      rw [List.getElem?_append_left (by simpa using hi), List.getElem?_map] at h2
      cases e : vs[i]? with
      | none => rw [e] at h2; cases h2
      | some a => rw [e] at h2; cases h2; rfl
    obtain ⟨u, hu, rv⟩ := r.get ha
    have hp : ps[i]? = some y := by
      rw [← S.pre, List.getElem?_take_of_lt (by omega)]; exact h1
    have ndP : ps.Nodup := by rw [← S.pre]; exact S.nd.sublist (List.take_sublist _ _)
    refine ⟨u, rv, ?_⟩
    rcases S.par y (List.mem_of_getElem? hp) with k | k
    · exact .inl ⟨k, bindL_get ndP hp hu k⟩
    · obtain ⟨c, e⟩ := cell_has (n := s.heap.objs.size + 1) k
      refine .inr ⟨.inl k, c, e, ?_⟩
      have q := x.cell y c e
      rw [bindC_get ndP hp hu (by show scope.names.lookup y ≠ _; rw [k]; decide)] at q
      exact q
  · exact e0.hok.fresh (Nat.le_of_lt (x.above y c (PySem.mem_of_lookup h)))
  · unfold start
    show _ = N.length
    rw [List.length_append, List.length_map, List.length_replicate]
    omega

/-- THE RULE: a def (or a method) of the text, by its body. The body's reading t is chosen for each entry; it is run at the parameters' values -/
theorem fn_of {CX : CXT} {P : Program} {w : World} {K : PySem.W.Frag} {mg : Str → Option Value} {base : Heap} {k : Nat} {f : Addr} {name qual : Str} {params : Arguments} {body : List Stmt} {scope : Scope} {dV kV doc pm cdv ct oc : Value} {an od : Option Addr}
    {osl : Array (Option Value)} {N ps : List Str} {sp : Sp} (lk : K.lookup f = some ⟨oc, od, .func (PySem.W.fnOf name qual params body scope dV kV doc pm an cdv ct), osl⟩) (hcd : PySem.W.codeIn K cdv qual = true) (S : FnScope N ps scope)
    (len : ∀ vs H Q E, sp vs H Q E → vs.length = ps.length)
    (hbody : ∀ (A : Around) (outer : List Env) (s : Shared) (H : Hp) (vs : List V) (Q : VK) (E : XK), Room k (A.deeper (envOfC qual scope s.heap.objs.size f cdv)) → sp vs H Q E →
      ∃ t, PSs (cxOf CX P w K mg base N qual scope f cdv A outer s H E) body t ∧ t { nx := fun _ H' => Q .non H', rt := Q } (start N vs) H) :
    FnOk P w K mg base CX (k + 1) f (PySem.W.fnOf name qual params body scope dV kV doc pm an cdv ct) ps sp := by
  refine ⟨len, fun A outer s H args us vs Q E hr e0 hb r hsp => ?_⟩
  have hl := len _ _ _ _ hsp
  have KX : K.In s.heap := e0.mod.kin.keeps fun b o e => (e0.bs b o e).1
  have lim : s.heap.NoLimit := e0.mod.nolimit.keeps fun b o e => (e0.bs b o e).1
  have hkind : ∀ y ∈ ps.zip us, scope.names.lookup y.1 = some .local ∨ (scope.names.lookup y.1 = some .cell ∧ ((cellsFrom (s.heap.objs.size + 1) scope.names []).lookup y.1).isSome = true) := fun ⟨n, v⟩ hy => by
    rcases S.par n (List.of_mem_zip hy).1 with q | q
    · exact .inl q
    · exact .inr ⟨q, PySem.W.cellsFrom_some _ _ _ (.inl q)⟩
  refine codeAny_call_function hr.depth (KX _ _ lk) rfl S.co S.gen rfl (PySem.W.codeRec_of KX hcd) (hb _ _ _ _ ?_)
  refine wpAny_newFunctionEnv_cells S.kind hkind fun env he s1 x => ?_
  subst he
  refine ⟨lim.keeps x.toInCall.keep, codeAny_func ?_⟩
  obtain ⟨t, ht, hq⟩ := hbody A outer s H vs Q E (hr.deeper _) hsp
  have I : Inv (cxOf CX P w K mg base N qual scope f cdv A outer s H E) [] (start N vs) H s1 := inv_start S hr.hd e0 hl r x
  refine wpAny_mono (ht [] s1 (start N vs) H _ I hq) (fun fl s' hs => ?_) fun e s' hs => hs
  have fin : ∀ {σ' : St} {H' : Hp} {v : V} {u : Value}, Inv (cxOf CX P w K mg base N qual scope f cdv A outer s H E) [] σ' H' s' → RelV v u → Q v H' → CE outer P w H s Q u s' :=
    fun {σ' H' v u} J rv q => ⟨v, H', J.os, J.bare, J.base, J.hok, rv, q⟩
  cases fl with
  | ret u =>
    obtain ⟨v, σ', H', J, rv, q⟩ := hs
    exact fin J rv q
  | next =>
    obtain ⟨σ', H', J, q⟩ := hs
    exact fin (v := V.non) (u := Value.none) J rfl q
  | brk =>
    obtain ⟨_, _, _, q⟩ := hs
    exact False.elim q
  | cont =>
    obtain ⟨_, _, _, q⟩ := hs
    exact False.elim q
end L2

namespace L2
open PySem PySem.Spec PyProof.Rows
section
variable {X : Cx} {x : Str} {p pos : Pos} {e : Expr} {es : List Expr} {t : TA} {id T : String} {r : List V → Hp → VK → Prop}

def tCB (r : List V → Hp → VK → Prop) (t : TA) : TE := fun σ H Q => t σ H fun vs H1 => r vs H1 Q
/-- f(e, ..), f a built-in function -/
theorem pe_callB (hc : CallR X (.builtin id) r) (hg : Gl X x) (hm : X.mg x = none) (hv : bootBuiltins x = some (.builtin id)) (ha : PA X (e :: es) t) (hn : x ≠ "__name__" := by decide) (hdb : (x == ("__debug__" : Str)) = false := by decide)
    (he : starEach (e :: es) X.env = (false, eval e X.env) :: starEach es X.env := by rfl) (hpl : (backTo pos (starEach es X.env)).any (·.1) = false := by rfl) : PE X (.Call (.Name x p) (e :: es) [] pos) (tCB r t) := by
  intro pins s σ H Q I h
  refine wpAny_Call_Name_kw (ld_blt I hg hm hv ?_ hn hdb)
  exact PyProof.Rows.callWith_builtin1 (thn (ha pos pins s σ H _ I h) fun us s1 ⟨vs, H1, I1, r1, q1⟩ => hc pins s1 σ H1 vs us Q I1 r1 q1) he hpl
/-- T(e, ..), T a built-in type -/
theorem pe_callTy (hc : CallR X (.type T) r) (hg : Gl X x) (hm : X.mg x = none) (hv : bootBuiltins x = some (.type T)) (ha : PA X (e :: es) t) (hn : x ≠ "__name__" := by decide) (hdb : (x == ("__debug__" : Str)) = false := by decide)
    (he : starEach (e :: es) X.env = (false, eval e X.env) :: starEach es X.env := by rfl) (hpl : (backTo pos (starEach es X.env)).any (·.1) = false := by rfl) : PE X (.Call (.Name x p) (e :: es) [] pos) (tCB r t) := by
  intro pins s σ H Q I h
  refine wpAny_Call_Name_kw (ld_blt I hg hm hv ?_ hn hdb)
  exact PyProof.Rows.callWith_type1 (thn (ha pos pins s σ H _ I h) fun us s1 ⟨vs, H1, I1, r1, q1⟩ => hc pins s1 σ H1 vs us Q I1 r1 q1) he hpl
end
end L2

namespace HT
open PySem PyProof.Rows

/-- t < u of tuples of ints -/
def lexLt : List Int → List Int → Bool
  | [], [] => false
  | [], _ :: _ => true
  | _ :: _, [] => false
  | x :: xs, y :: ys => if x = y then lexLt xs ys else decide (x < y)
theorem lexLt_cons (x y : Int) (xs ys : List Int) : lexLt (x :: xs) (y :: ys) = if x = y then lexLt xs ys else decide (x < y) := rfl
theorem eqAt_int (A : Around) (s : Shared) (a : Int) (t : Tok) (c : Int) (u : Tok) : ∃ e, SeqAt.EqAt A s (.int a t) (.int c u) e ∧ (e = true ↔ a = c) :=
  ⟨(a == c), SeqAt.EqAt.int_int a t c u, by simp⟩
theorem rcLt_int (A : Around) (s : Shared) (a : Int) (t : Tok) (c : Int) (u : Tok) (prog : Program) (w : World) (E : Value → Shared → Prop) (Q : Value → Shared → Prop) (h : Q (.bool (decide (a < c))) s) :
    wpAny (model prog w) A (richCompare .Lt (.int a t) (.int c u)) Q E s :=
  (PyProof.Rows.lt_int h : wpAny (model prog w) A (compareOp .Lt (.int a t) (.int c u)) Q E s)

section
open PySem.SeqAt
open PySem.AutoSeq1 (wpAny_loadPart')
open PySem.MeetsSeq PySem.MeetsSeq2 PySem.MeetsSeq3

end

section
variable {prog : Program} {w : World} {A : Around} {E : Value → Shared → Prop} {s : Shared}

/-! ### t[a:b], not the whole -/
/-- a slice's bound as a place among n (d where it is left out) -/
def sIx (n d : Nat) : Option Int → Nat
  | none => d
  | some v => if v < 0 then (v + (n : Int)).toNat else min v.toNat n
theorem sIx_none (n d : Nat) : sIx n d none = d := rfl
theorem sIx_nat (n d k : Nat) : sIx n d (some (k : Int)) = min k n := by
  show (if (k : Int) < 0 then ((k : Int) + (n : Int)).toNat else min (k : Int).toNat n) = min k n
  rw [if_neg (by omega), Int.toNat_natCast]
end
end HT

namespace L2
open PySem PySem.Spec PyProof.Rows

/-! ### the parts of a slice -/
abbrev TO := St → Hp → (Option Int → Hp → Prop) → Prop
/-- a slice's part (left out, or an int) -/
def PO (X : Cx) (e : Option Expr) (t : TO) : Prop :=
  ∀ (pins : List (Addr × Obj)) (s : Shared) (σ : St) (H : Hp) (Q : Option Int → Hp → Prop), Inv X pins σ H s → t σ H Q →
    wpAny (model X.prog X.w) X.A (evalPart e X.env) (fun u s' => ∃ o H', Inv X pins σ H' s' ∧ IsPart u o ∧ Q o H') X.xe s
def tNoPart : TO := fun _ H Q => Q none H
def tPart (t : TE) : TO := fun σ H Q => t σ H fun x H1 => ∃ i, x = .int i ∧ Q (some i) H1

theorem intsAre_of {ns : List Int} : ∀ {us : List Value}, Vals (ns.map V.int) us → IntsAre us ns := by
  induction ns with
  | nil => intro us r; rw [List.map_nil] at r; cases r; exact .nil
  | cons n ns ih =>
    intro us r
    rw [List.map_cons] at r
    cases r with
    | cons r1 r2 =>
      obtain ⟨t, e⟩ := r1
      subst e
      exact .cons n t (ih r2)

section
variable {X : Cx} {e : Expr} {te : TE} {lo hi : Option Expr} {tl th : TO} {pos p2 : Pos}

theorem po_none : PO X none tNoPart := by
  intro pins s σ H Q I h
  rw [evalPart_none]
  exact wpAny_pure ⟨none, H, I, .none, h⟩
theorem po_some (h : PE X e te) : PO X (some e) (tPart te) := by
  intro pins s σ H Q I hw
  rw [evalPart_some]
  refine thn (h pins s σ H _ I hw) fun u s1 ⟨x, H1, I1, r1, q1⟩ => ?_
  obtain ⟨i, rfl, q⟩ := q1
  obtain ⟨t, rfl⟩ := r1
  exact ⟨some i, H1, I1, .int i t, q⟩

/-- what a slice of a value is, by values: the slice object stands at sl -/
def SlR (X : Cx) (r : V → Option Int → Option Int → Hp → VK → Prop) : Prop :=
  ∀ (pins : List (Addr × Obj)) (s : Shared) (σ : St) (H : Hp) (x : V) (v vl vu : Value) (lo hi : Option Int) (sl : Addr) (Q : VK), Inv X pins σ H s → RelV x v → s.heap.IsSliceOf sl vl vu .none → IsPart vl lo → IsPart vu hi → r x lo hi H Q →
    ∃ T id, typeLookup (.type T) "__getitem__" = pure (some (.builtin id)) ∧ s.TypeIs v T ∧ wpAny (model X.prog X.w) X.A (getItem v (.ref sl)) (EP X pins σ Q) X.xe s
theorem SlR.or {r r' : V → Option Int → Option Int → Hp → VK → Prop} (h : SlR X r) (h' : SlR X r') : SlR X (fun x lo hi H Q => r x lo hi H Q ∨ r' x lo hi H Q) := by
  intro pins s σ H x v vl vu lo hi sl Q I rx hs pl pu q
  rcases q with q | q
  · exact h pins s σ H x v vl vu lo hi sl Q I rx hs pl pu q
  · exact h' pins s σ H x v vl vu lo hi sl Q I rx hs pl pu q
def tSl (r : V → Option Int → Option Int → Hp → VK → Prop) (te : TE) (tl th : TO) : TE := fun σ H Q => te σ H fun x H1 => tl σ H1 fun l H2 => th σ H2 fun u H3 => r x l u H3 Q
/-- a[lo:hi], any a -/
theorem pe_slice {r : V → Option Int → Option Int → Hp → VK → Prop} (hr : SlR X r) (he : PE X e te) (hl : PO X lo tl) (hu : PO X hi th) : PE X (.Subscript e (.Slice lo hi none p2) pos) (tSl r te tl th) := by
  intro pins s σ H Q I h
  refine Subscript_ (thn (he pins s σ H _ I h) fun v s1 ⟨x, H1, I1, r1, q1⟩ => ?_)
  refine wpAny_Slice (thn (hl pins s1 σ H1 _ I1 q1) fun vl s2 ⟨l, H2, I2, pl, q2⟩ => thn (hu pins s2 σ H2 _ I2 q2) fun vu s3 ⟨u, H3, I3, pu, q3⟩ => ?_)
  rw [evalPart_none]
  refine wpAny_pure ?_
  have I4 : Inv X pins σ H3 { s3 with heap := s3.heap.push { cls := .type "slice", data := .fields #[vl, vu, .none] } } := I3.kept (t' := s3.toks) fun b ob q => Heap.get?_push_of_some _ q
  obtain ⟨T, id, hT, ht, hg⟩ := hr pins { s3 with heap := s3.heap.push { cls := .type "slice", data := .fields #[vl, vu, .none] } } σ H3 x v vl vu l u s3.heap.objs.size Q I4 r1 (Heap.IsSliceOf.new ..) pl pu q3
  show wpAny (model X.prog X.w) X.A (subscriptTail e (.Slice lo hi none p2) v (.ref s3.heap.objs.size)) (EP X pins σ Q) X.xe { s3 with heap := s3.heap.push { cls := .type "slice", data := .fields #[vl, vu, .none] } }
  exact tail_any (ops := [.ref s3.heap.objs.size, v]) ht hT hg (by with_unfolding_all rfl)

/-- the items of xs[lo:hi] -/
def cutV (xs : List V) (lo hi : Option Int) : List V := (xs.drop (HT.sIx xs.length 0 lo)).take (HT.sIx xs.length xs.length hi - HT.sIx xs.length 0 lo)
theorem cutV_length (xs : List V) (lo hi : Option Int) : (cutV xs lo hi).length ≤ xs.length := by
  unfold cutV
  rw [List.length_take, List.length_drop]
  omega
/-! ### t < u, t + u -/
end
end L2

namespace L2
open PySem PySem.Spec PyProof.Rows

/-! ### places -/
/-- the place that an index of any sign means -/
def ixN (n : Nat) (i : Int) : Option Nat := if 0 ≤ i then (if i < n then some i.toNat else none) else if -(n : Int) ≤ i then some (i + n).toNat else none
def atI {α : Type} (xs : List α) (i : Int) : Option α := (ixN xs.length i).bind fun j => xs[j]?
theorem ixN_seq {n : Nat} {i : Int} {j : Nat} (h : ixN n i = some j) : seqIndex? i n = some j ∧ j < n ∧ -(n : Int) ≤ i ∧ i < n := by
  unfold ixN at h
  by_cases h0 : 0 ≤ i
  · rw [if_pos h0] at h
    by_cases h1 : i < n
    · rw [if_pos h1] at h
      have e : i.toNat = j := Option.some.inj h
      exact ⟨by rw [seqIndex_of h0 h1, e], by omega, by omega, h1⟩
    · rw [if_neg h1] at h; cases h
  · rw [if_neg h0] at h
    by_cases h1 : -(n : Int) ≤ i
    · rw [if_pos h1] at h
      have e : (i + n).toNat = j := Option.some.inj h
      exact ⟨by rw [seqIndex_neg (by omega) h1, e], by omega, h1, by omega⟩
    · rw [if_neg h1] at h; cases h
theorem atI_get {α : Type} {xs : List α} {i : Int} {v : α} (h : atI xs i = some v) : ∃ j, seqIndex? i xs.length = some j ∧ xs[j]? = some v ∧ j < xs.length ∧ -(xs.length : Int) ≤ i ∧ i < xs.length := by
  unfold atI at h
  cases e : ixN xs.length i with
  | none => rw [e] at h; cases h
  | some j =>
    rw [e] at h
    obtain ⟨h1, h2, h3, h4⟩ := ixN_seq e
    exact ⟨j, h1, h, h2, h3, h4⟩
theorem atI_nat {α : Type} {xs : List α} {j : Nat} {v : α} (h : xs[j]? = some v) : atI xs (j : Int) = some v := by
  have hj : j < xs.length := (List.getElem?_eq_some_iff.mp h).1
  have e : ixN xs.length (j : Int) = some j := by
    unfold ixN
    rw [if_pos (by omega), if_pos (by omega)]; simp
  unfold atI; rw [e]; exact h
theorem atI_last {α : Type} (xs : List α) (v : α) : atI (xs ++ [v]) (-1) = some v := by
  have hl : (xs ++ [v]).length = xs.length + 1 := by simp
  have e : ixN (xs ++ [v]).length (-1) = some xs.length := by
    unfold ixN
    rw [hl, if_neg (by decide), if_pos (by omega)]
    congr 1
    omega
  unfold atI
  rw [e]
  show (xs ++ [v])[xs.length]? = some v
  simp

/-! ### what may be subscripted -/
/-- what stands as an index of a plain subscript -/
def PlainIx (b : Expr) : Prop := ∀ o i, subscripted b false o i = operate [o, i] (getItem o i)
/-- a subscript by values -/
def IxR (X : Cx) (r : R2) : Prop :=
  ∀ (value slice : Expr) (pins : List (Addr × Obj)) (s : Shared) (σ : St) (H : Hp) (x y : V) (v u : Value) (Q : VK), Inv X pins σ H s → RelV x v → RelV y u → r x y H Q →
    subscripted slice false v u = operate [v, u] (getItem v u) → wpAny (model X.prog X.w) X.A (subscriptTail value slice v u) (EP X pins σ Q) X.xe s
/-- a call of a builtin's method by values: the receiver, the arguments -/
def MtR (X : Cx) (id : String) (r : V → List V → Hp → VK → Prop) : Prop :=
  ∀ (pins : List (Addr × Obj)) (s : Shared) (σ : St) (H : Hp) (x : V) (xs : List V) (v : Value) (us : List Value) (Q : VK), Inv X pins σ H s → RelV x v → Vals xs us → r x xs H Q →
    wpAny (model X.prog X.w) X.A (call (.builtin id) (v :: us)) (EP X pins σ Q) X.xe s
section
variable {X : Cx} {a b : Expr} {ta tb : TE} {pos : Pos}
theorem IxR.or {r r' : R2} (h : IxR X r) (h' : IxR X r') : IxR X (fun x y H Q => r x y H Q ∨ r' x y H Q) := by
  intro value slice pins s σ H x y v u Q I rx ry q hs
  rcases q with q | q
  · exact h value slice pins s σ H x y v u Q I rx ry q hs
  · exact h' value slice pins s σ H x y v u Q I rx ry q hs
theorem MtR.or {id : String} {r r' : V → List V → Hp → VK → Prop} (h : MtR X id r) (h' : MtR X id r') : MtR X id (fun x xs H Q => r x xs H Q ∨ r' x xs H Q) := by
  intro pins s σ H x xs v us Q I rx rs q
  rcases q with q | q
  · exact h pins s σ H x xs v us Q I rx rs q
  · exact h' pins s σ H x xs v us Q I rx rs q
/-- a[b] -/
theorem pe_ix {r : R2} (hr : IxR X r) (ha : PE X a ta) (hb : PE X b tb) (hs : PlainIx b) : PE X (.Subscript a b pos) (tOp r ta tb) := by
  intro pins s σ H Q I h
  exact Subscript_ (binT ha hb I h fun v u s2 x y H2 I2 rx ry q => hr a b pins s2 σ H2 x y v u Q I2 rx ry q (hs _ _))

def rIxL (K : PySem.W.Frag) : R2 := fun x y H Q => ∃ p xs i v, x = .ref p ∧ y = .int i ∧ SqL K H p xs ∧ atI xs i = some v ∧ Q v H
def rIxT (K : PySem.W.Frag) : R2 := fun x y H Q => ∃ p xs i v, x = .ref p ∧ y = .int i ∧ SqT K H p xs ∧ atI xs i = some v ∧ Q v H
def rIxS : R2 := fun x y H Q => ∃ z i c, x = .str z ∧ y = .int i ∧ z.length ≤ sizeLine ∧ atI z.cps.toList i = some c ∧ Q (.str ⟨#[c]⟩) H
theorem ix_list : IxR X (rIxL X.K) := by
  intro value slice pins s σ H x y v u Q I rx ry h hs
  obtain ⟨p, xs, i, z, rfl, rfl, hq, he, q⟩ := h
  cases rx
  obtain ⟨t, rfl⟩ := ry
  obtain ⟨its, r, pl, hz⟩ := I.list hq
  obtain ⟨j, h1, h2, h3, h4, h5⟩ := atI_get he
  obtain ⟨w, ew, rw'⟩ := r.get h2
  have hl := r.length
  have hn := line63
  have fin : EP X pins σ Q w s := ⟨z, H, I, rw', q⟩
  by_cases h0 : 0 ≤ i
  · have hj : i.toNat = j := by
      rw [seqIndex_of h0 h5] at h1
      exact Option.some.inj h1
    exact item_listR pl.isList h0 (by omega) (by rw [hj]; simpa using ew) fin hs
  · have hj : (i + (its.toArray.size : Int)).toNat = j := by
      rw [seqIndex_neg (by omega) h4] at h1
      rw [List.size_toArray, ← hl]
      exact Option.some.inj h1
    exact subscriptTail_builtinR (x := w) pl.isList.typeIs slot_list_getitem.lookup
      (wpAny_getItem_list_neg (Q := fun r s' => r = w ∧ EP X pins σ Q r s') pl.isList (by omega) (by rw [List.size_toArray] <;> omega) (by omega) (by rw [hj]; simpa using ew) ⟨rfl, fin⟩) hs
theorem ix_tup : IxR X (rIxT X.K) := by
  intro value slice pins s σ H x y v u Q I rx ry h hs
  obtain ⟨p, xs, i, z, rfl, rfl, hq, he, q⟩ := h
  cases rx
  obtain ⟨t, rfl⟩ := ry
  obtain ⟨its, r, pl, hz⟩ := I.tuple hq
  obtain ⟨j, h1, h2, h3, h4, h5⟩ := atI_get he
  obtain ⟨w, ew, rw'⟩ := r.get h2
  have hl := r.length
  have hn := line63
  have fin : EP X pins σ Q w s := ⟨z, H, I, rw', q⟩
  exact subscriptTail_builtinR (x := w) pl.typeIs slot_tuple_getitem.lookup
    (getItem_tuple (j := j) (Q := fun r s' => r = w ∧ EP X pins σ Q r s') pl (by omega) (by omega) (by rw [List.size_toArray, ← hl]; exact h1) (by simpa using ew) ⟨rfl, fin⟩) hs
theorem ix_str : IxR X rIxS := by
  intro value slice pins s σ H x y v u Q I rx ry h hs
  obtain ⟨z, i, c, rfl, rfl, hz, he, q⟩ := h
  obtain ⟨t, rfl⟩ := rx
  obtain ⟨t', rfl⟩ := ry
  obtain ⟨j, h1, h2, h3, h4, h5⟩ := atI_get he
  have hl : z.cps.toList.length = z.length := by simp [Str.length]
  rw [hl] at h1 h4 h5
  have hn := line63
  exact tail_any (typeIs_str s z t) slot_str_getitem.lookup (getItem_str (c := c) (by
    have e1 : decide (i < -(2 ^ 63 : Int)) = false := decide_eq_false (by omega)
    have e2 : decide (i ≥ 2 ^ 63) = false := decide_eq_false (by omega)
    rw [e1, e2, Bool.or_false]) (by rw [h1]; simpa using h2) ⟨.str ⟨#[c]⟩, H, I.tok _, ⟨_, rfl⟩, q⟩) hs
/-- list, tuple or str -/
def rIx (K : PySem.W.Frag) : R2 := fun x y H Q => rIxL K x y H Q ∨ rIxT K x y H Q ∨ rIxS x y H Q
theorem ix_seq : IxR X (rIx X.K) := ix_list.or (ix_tup.or ix_str)

/-! ### xs[i] = v, any sign -/
/-- the list's object behind a store -/
theorem mapSeq_set (its : List Value) (n j : Nat) (u : Value) : Obj.mapSeq (·.setIfInBounds j u) { cls := .type "list", data := .seq its.toArray n } = { cls := .type "list", data := .seq (its.set j u).toArray n } := by
  simp [Obj.mapSeq]
theorem Inv.lst {pins : List (Addr × Obj)} {σ : St} {H : Hp} {s : Shared} {p : Addr} {xs : List V} (I : Inv X pins σ H s) (h : H p = some (.lst xs)) :
    ∃ (its : List Value) (n : Nat), Vals xs its ∧ s.heap.get? p = some { cls := .type "list", data := .seq its.toArray n } ∧ xs.length ≤ sizeLine := by
  obtain ⟨z, its, n, r, e⟩ := I.hok p _ h
  exact ⟨its, n, r, e, z⟩
/-- the list at p is written by an update of its object -/
theorem Inv.lstUpd {pins : List (Addr × Obj)} {σ : St} {H : Hp} {s : Shared} {p : Addr} {xs ys : List V} {its its' : List Value} {n n' : Nat} {f : Obj → Obj} (I : Inv X pins σ H s) (h : H p = some (.lst xs))
    (ho : s.heap.get? p = some { cls := .type "list", data := .seq its.toArray n }) (hf : f { cls := .type "list", data := .seq its.toArray n } = { cls := .type "list", data := .seq its'.toArray n' }) (r : Vals ys its') (hz : ys.length ≤ sizeLine) (t : Nat) :
    Inv X pins σ (upd H p (.lst ys)) { s with heap := s.heap.update p f, toks := t } := by
  have e : (s.heap.update p f).get? p = some { cls := .type "list", data := .seq its'.toArray n' } := by
    rw [Heap.get?_update_self f ho (by rw [hf] <;> rfl), hf]
  refine I.write (x := p) (e := p) (by rw [h]; trivial) (.inl rfl) (fun b u hb q => (Heap.get?_update_other _ _ (Ne.symm hb)).trans q) ⟨_, e⟩ ?_
  exact ⟨hz, its', n', r, e⟩
def rSetL : V → V → V → Hp → (Hp → Prop) → Prop := fun o i v H Q => ∃ p xs k j, o = .ref p ∧ i = .int k ∧ H p = some (.lst xs) ∧ ixN xs.length k = some j ∧ Q (upd H p (.lst (xs.set j v)))
theorem set_list : PSet X rSetL := by
  intro pins s σ H o i v ov iv u Q I ro ri rv h
  obtain ⟨p, xs, k, j, rfl, rfl, hp, hj, q⟩ := h
  cases ro
  obtain ⟨t, rfl⟩ := ri
  obtain ⟨its, n, r, ho, hz⟩ := I.lst hp
  obtain ⟨h1, h2, h3, h4⟩ := ixN_seq hj
  have hl := r.length
  have hn := line63
  have I' : Inv X pins σ (upd H p (.lst (xs.set j v))) { s with heap := s.heap.update p (Obj.mapSeq (·.setIfInBounds j u)) } :=
    I.lstUpd hp ho (mapSeq_set its n j u) (r.set rv j) (by rw [List.length_set]; exact hz) s.toks
  by_cases h0 : 0 ≤ k
  · have hk : k.toNat = j := by
      rw [seqIndex_of h0 h4] at h1
      exact Option.some.inj h1
    exact PySem.W.ki_setAt ho h0 (by omega) (by rw [List.size_toArray, ← hl]; exact h4) (by rw [hk]; exact ⟨_, I', q⟩)
  · have hk : (k + (its.toArray.size : Int)).toNat = j := by
      rw [seqIndex_neg (by omega) h3] at h1
      rw [List.size_toArray, ← hl]
      exact Option.some.inj h1
    exact PySem.W.ki_setBack ho (by omega) (by rw [List.size_toArray, ← hl]; exact h3) (by omega) (by rw [hk]; exact ⟨_, I', q⟩)

/-! ### slices -/
theorem slice_bounds (lo hi : Option Int) (n : Nat) : (sliceBounds lo hi none n).1 = ((HT.sIx n 0 lo : Nat) : Int) ∧ (sliceBounds lo hi none n).2.1 = ((HT.sIx n n hi : Nat) : Int) ∧ (sliceBounds lo hi none n).2.2 = 1 := by
  refine ⟨?_, ?_, rfl⟩
  · cases lo with
    | none => simp [sliceBounds, HT.sIx]
    | some i =>
      simp only [sliceBounds, HT.sIx, Option.getD_none, show (1 : Int) > 0 by decide, if_true]
      by_cases h : i < 0
      · simp only [h, if_true] <;> omega
      · simp only [h, if_false] <;> omega
  · cases hi with
    | none => simp [sliceBounds, HT.sIx]
    | some i =>
      simp only [sliceBounds, HT.sIx, Option.getD_none, show (1 : Int) > 0 by decide, if_true]
      by_cases h : i < 0
      · simp only [h, if_true] <;> omega
      · simp only [h, if_false] <;> omega
theorem slicePick_cut (its : List Value) (lo hi : Option Int) : slicePick its.toArray lo hi none = ((its.drop (HT.sIx its.length 0 lo)).take (HT.sIx its.length its.length hi - HT.sIx its.length 0 lo)).toArray := by
  obtain ⟨h1, h2, h3⟩ := slice_bounds lo hi its.toArray.size
  unfold slicePick
  rw [h1, h2, h3]
  simp only [sliceRange_one, pick_run, List.size_toArray] <;> rfl
/-- xs[lo:hi] of a list: a new list -/
def rSlL (K : PySem.W.Frag) : V → Option Int → Option Int → Hp → VK → Prop := fun x lo hi H Q => ∃ a xs, x = .ref a ∧ SqL K H a xs ∧ ∀ p, H p = none → Q (.ref p) (upd H p (.lst (cutV xs lo hi)))
theorem sl_list : SlR X (rSlL X.K) := by
  intro pins s σ H x v vl vu lo hi sl Q I rx hs pl pu h
  obtain ⟨a, xs, rfl, hx, q⟩ := h
  cases rx
  obtain ⟨its, r, ht, hz⟩ := I.list hx
  have hlen := r.length
  refine ⟨"list", _, slot_list_getitem.lookup, ht.isList.typeIs, ?_⟩
  refine wpAny_getItem_list_slice ht.isList hs pl pu .none (by simp) ?_ (by rw [List.size_toArray] <;> omega)
  rw [slicePick_cut, ← hlen]
  refine ⟨.ref s.heap.objs.size, _, I.laid (t' := s.toks) (o := .lst (cutV xs lo hi)) (fun b ob q => Heap.get?_push_of_some _ q) (Nat.le_refl _) ?_, rfl, q _ (I.hok.fresh (Nat.le_refl _))⟩
  exact ⟨Nat.le_trans (cutV_length xs lo hi) hz, _, 0, (r.drop (HT.sIx xs.length 0 lo)).take (HT.sIx xs.length xs.length hi - HT.sIx xs.length 0 lo), Heap.get?_push_size _ rfl⟩

/-! ### in, not in: flat items -/
def flatV : V → Bool
  | .non => true
  | .bl _ => true
  | .int _ => true
  | .str _ => true
  | _ => false
/-- == of flat values -/
def eqV : V → V → Bool
  | .non, .non => true
  | .bl a, .bl b => a == b
  | .bl a, .int b => (if a then 1 else 0) == b
  | .int a, .bl b => a == (if b then 1 else 0)
  | .int a, .int b => a == b
  | .str a, .str b => a == b
  | _, _ => false
theorem eqAt_V {A : Around} {s : Shared} {y x : V} {u v : Value} (ry : RelV y u) (rx : RelV x v) (fy : flatV y = true) (fx : flatV x = true) : SeqAt.EqAt A s u v (eqV y x) := by
  cases y with
  | non =>
    cases ry
    cases x with
    | non => cases rx; exact SeqAt.EqAt.same _
    | bl b => cases rx; exact SeqAt.EqAt.none_bool b
    | int b => obtain ⟨t, rfl⟩ := rx; exact SeqAt.EqAt.none_int b t
    | str b => obtain ⟨t, rfl⟩ := rx; exact SeqAt.EqAt.none_str b t
    | _ => exact absurd (show false = true from fx) Bool.false_ne_true
  | bl a =>
    cases ry
    cases x with
    | non => cases rx; exact SeqAt.EqAt.bool_none a
    | bl b => cases rx; exact SeqAt.EqAt.bool_bool a b
    | int b => obtain ⟨t, rfl⟩ := rx; exact SeqAt.EqAt.bool_int a b t
    | str b => obtain ⟨t, rfl⟩ := rx; exact SeqAt.EqAt.bool_str a b t
    | _ => exact absurd (show false = true from fx) Bool.false_ne_true
  | int a =>
    obtain ⟨t', rfl⟩ := ry
    cases x with
    | non => cases rx; exact SeqAt.EqAt.int_none a t'
    | bl b => cases rx; exact SeqAt.EqAt.int_bool a t' b
    | int b => obtain ⟨t, rfl⟩ := rx; exact SeqAt.EqAt.int_int a t' b t
    | str b => obtain ⟨t, rfl⟩ := rx; exact SeqAt.EqAt.int_str a t' b t
    | _ => exact absurd (show false = true from fx) Bool.false_ne_true
  | str a =>
    obtain ⟨t', rfl⟩ := ry
    cases x with
    | non => cases rx; exact SeqAt.EqAt.str_none a t'
    | bl b => cases rx; exact SeqAt.EqAt.str_bool a t' b
    | int b => obtain ⟨t, rfl⟩ := rx; exact SeqAt.EqAt.str_int a t' b t
    | str b => obtain ⟨t, rfl⟩ := rx; exact SeqAt.EqAt.str_str a t' b t
    | _ => exact absurd (show false = true from fx) Bool.false_ne_true
  | _ => exact absurd (show false = true from fy) Bool.false_ne_true
/-- the items' answers, read off the values (a value's own answer does not lean on its token) -/
def eqU (x : V) (u : Value) : Bool := match u with
  | .none => eqV .non x
  | .bool b => eqV (.bl b) x
  | .int i _ => eqV (.int i) x
  | .str z _ => eqV (.str z) x
  | _ => false
theorem eqU_of {x y : V} {u : Value} (r : RelV y u) (f : flatV y = true) : eqU x u = eqV y x := by
  cases y with
  | non => cases r; rfl
  | bl b => cases r; rfl
  | int i => obtain ⟨t, rfl⟩ := r; rfl
  | str z => obtain ⟨t, rfl⟩ := r; rfl
  | _ => exact absurd (show false = true from f) Bool.false_ne_true
theorem any_eqU {x : V} : ∀ {xs : List V} {us : List Value}, Vals xs us → xs.all flatV = true → us.any (eqU x) = xs.any fun y => eqV y x
  | _, _, .nil, _ => rfl
  | y :: xs, u :: us, .cons r t, f => by
    rw [List.all_cons, Bool.and_eq_true] at f
    rw [List.any_cons, List.any_cons, eqU_of r f.1, any_eqU t f.2]
theorem mem_eqAt {A : Around} {s : Shared} {x : V} {v : Value} (rx : RelV x v) (fx : flatV x = true) : ∀ {xs : List V} {us : List Value}, Vals xs us → xs.all flatV = true → ∀ u ∈ us, SeqAt.EqAt A s u v (eqU x u)
  | _, _, .nil, _ => fun u hu => by cases hu
  | y :: xs, u :: us, .cons r t, f => fun u' hu => by
    rw [List.all_cons, Bool.and_eq_true] at f
    rcases List.mem_cons.mp hu with rfl | hu
    · rw [eqU_of r f.1]; exact eqAt_V r rx f.1 fx
    · exact mem_eqAt rx fx t f.2 u' hu
def inV (x : V) (xs : List V) : Bool := xs.any fun y => eqV y x
/-- x in a list or tuple of flat items -/
def rIn (K : PySem.W.Frag) (neg : Bool) : R2 := fun x y H Q => ∃ p xs, y = .ref p ∧ (SqL K H p xs ∨ SqT K H p xs) ∧ flatV x = true ∧ xs.all flatV = true ∧ Q (.bl (if neg then !inV x xs else inV x xs)) H
theorem op_in_seq : OpR X (compareOp .In) (rIn X.K false) := by
  intro pins s σ H x y v u Q I rx ry h
  obtain ⟨p, xs, rfl, hq, fx, fs, q⟩ := h
  cases ry
  rcases hq with hq | hq
  · obtain ⟨its, r, pl, hz⟩ := I.list hq
    refine SeqAt.in_listAt (eqU x) pl.isList (fun w hw => mem_eqAt rx fx r fs w (by simpa using hw)) ⟨.bl _, H, I, rfl, ?_⟩
    rw [show its.toArray.any (eqU x) = its.any (eqU x) by simp, any_eqU r fs]
    exact q
  · obtain ⟨its, r, pl, hz⟩ := I.tuple hq
    refine SeqAt.in_tupleAt (eqU x) pl (fun w hw => mem_eqAt rx fx r fs w (by simpa using hw)) ⟨.bl _, H, I, rfl, ?_⟩
    rw [show its.toArray.any (eqU x) = its.any (eqU x) by simp, any_eqU r fs]
    exact q
theorem op_notIn_seq : OpR X (compareOp .NotIn) (rIn X.K true) := by
  intro pins s σ H x y v u Q I rx ry h
  obtain ⟨p, xs, rfl, hq, fx, fs, q⟩ := h
  cases ry
  rcases hq with hq | hq
  · obtain ⟨its, r, pl, hz⟩ := I.list hq
    refine SeqAt.notIn_listAt (eqU x) pl.isList (fun w hw => mem_eqAt rx fx r fs w (by simpa using hw)) ⟨.bl _, H, I, rfl, ?_⟩
    rw [show its.toArray.any (eqU x) = its.any (eqU x) by simp, any_eqU r fs]
    exact q
  · obtain ⟨its, r, pl, hz⟩ := I.tuple hq
    refine SeqAt.notIn_tupleAt (eqU x) pl (fun w hw => mem_eqAt rx fx r fs w (by simpa using hw)) ⟨.bl _, H, I, rfl, ?_⟩
    rw [show its.toArray.any (eqU x) = its.any (eqU x) by simp, any_eqU r fs]
    exact q
/-! ### len, list(x), tuple(x) of any list or tuple that is read -/
theorem call_len_seq : CallR X (.builtin "len") (fun xs H Q => ∃ p ys, xs = [.ref p] ∧ (SqL X.K H p ys ∨ SqT X.K H p ys) ∧ Q (.int ys.length) H) := by
  intro pins s σ H xs us Q I r h
  obtain ⟨p, ys, rfl, hq, q⟩ := h
  obtain ⟨u, rfl, rx⟩ := vals1 r
  cases rx
  have hn := line63
  rcases hq with hq | hq
  · obtain ⟨its, r', pl, hz⟩ := I.list hq
    have hlen := r'.length
    exact Calls.call_len_list pl.isList (by simp only [List.size_toArray] <;> omega) ⟨.int ys.length, H, I.tok _, ⟨s.toks + 1, by rw [List.size_toArray, hlen]⟩, q⟩
  · obtain ⟨its, r', pl, hz⟩ := I.tuple hq
    have hlen := r'.length
    exact len_tuple pl (by simp only [List.size_toArray] <;> omega) ⟨.int ys.length, H, I.tok _, ⟨s.toks + 1, by rw [List.size_toArray, hlen]⟩, q⟩
theorem CallR.or {f : Value} {r r' : List V → Hp → VK → Prop} (h : CallR X f r) (h' : CallR X f r') : CallR X f (fun xs H Q => r xs H Q ∨ r' xs H Q) := by
  intro pins s σ H xs us Q I rs q
  rcases q with q | q
  · exact h pins s σ H xs us Q I rs q
  · exact h' pins s σ H xs us Q I rs q
theorem call_list_of : CallR X (.type "list") (fun xs H Q => ∃ p ys, xs = [.ref p] ∧ (SqL X.K H p ys ∨ SqT X.K H p ys) ∧ ∀ l, H l = none → Q (.ref l) (upd H l (.lst ys))) := by
  intro pins s σ H xs us Q I r h
  obtain ⟨p, ys, rfl, hq, q⟩ := h
  obtain ⟨u, rfl, rx⟩ := vals1 r
  cases rx
  have fin : ∀ (its : List Value), Vals ys its → ys.length ≤ sizeLine → ∀ (h' : Heap) (c' : Nat), (∀ b o', s.heap.get? b = some o' → h'.get? b = some o') →
      h'.get? s.heap.objs.size = some { cls := .type "list", dict := none, data := .seq its.toArray c', slots := #[] } → EP X pins σ Q (.ref s.heap.objs.size) { s with heap := h' } := fun its r' hz h' c' kp e =>
    ⟨.ref s.heap.objs.size, _, I.laid (t' := s.toks) kp (Nat.le_refl _) (show ObjOk X.prog X.w _ h' _ (.lst ys) from ⟨hz, its, c', r', e⟩), rfl, q _ (I.hok.fresh (Nat.le_refl _))⟩
  rcases hq with hq | hq
  · obtain ⟨its, r', pl, hz⟩ := I.list hq
    have hlen := r'.length
    obtain ⟨o, ho, hc, n, hd⟩ := pl.isList
    exact call_list_seq p (.inl rfl) ho hc hd (fun h' c' kp e => fin its r' hz h' c' kp e) (by simp only [List.size_toArray] <;> omega)
  · obtain ⟨its, r', pl, hz⟩ := I.tuple hq
    have hlen := r'.length
    obtain ⟨o, ho, hc, n, hd⟩ := pl
    exact call_list_seq p (.inr rfl) ho hc hd (fun h' c' kp e => fin its r' hz h' c' kp e) (by simp only [List.size_toArray] <;> omega)
/-! ### the call of a builtin's method: o.m(..) -/
/-- the value is of that builtin type -/
def tyV (K : PySem.W.Frag) (T : String) (x : V) (H : Hp) : Prop := match x with
  | .str _ => T = "str"
  | .int _ => T = "int"
  | .ref p => (T = "list" ∧ ∃ xs, SqL K H p xs) ∨ (T = "tuple" ∧ ∃ o, K.lookup p = some o ∧ o.cls = .type "tuple" ∧ o.dict = none) ∨
      (T = "dict" ∧ ((∃ kvs, H p = some (.dK kvs)) ∨ ∃ kvs, H p = some (.dT kvs))) ∨ (T = "set" ∧ ∃ S n, H p = some (.set S n))
  | _ => False
theorem tyV_is {pins : List (Addr × Obj)} {σ : St} {H : Hp} {s : Shared} {T : String} {x : V} {v : Value} (I : Inv X pins σ H s) (r : RelV x v) (ty : tyV X.K T x H) :
    s.TypeIs v T ∧ ∀ a, v = .ref a → ∃ ob, s.heap.get? a = some ob ∧ ob.dict = none := by
  cases x with
  | str z =>
    obtain ⟨t, rfl⟩ := r
    cases (show T = "str" from ty)
    exact ⟨typeIs_str s z t, fun _ e => nomatch e⟩
  | int i =>
    obtain ⟨t, rfl⟩ := r
    cases (show T = "int" from ty)
    exact ⟨typeIs_int s i t, fun _ e => nomatch e⟩
  | ref p =>
    cases r
    rcases ty with ⟨rfl, xs, hq⟩ | ⟨rfl, o, hk, hc, hd⟩ | ⟨rfl, hk⟩ | ⟨rfl, S, n, hk⟩
    · obtain ⟨its, _, pl, _⟩ := I.list hq
      refine ⟨pl.isList.typeIs, fun a e => ?_⟩
      cases e
      obtain ⟨o, n, e, c, hd, _⟩ := pl
      exact ⟨o, e, hd⟩
    · refine ⟨⟨o, I.kIn p o hk, hc⟩, fun a e => ?_⟩
      cases e
      exact ⟨o, I.kIn _ o hk, hd⟩
    · have z : ∃ o, s.heap.get? p = some o ∧ o.ExactDict := by
        rcases hk with ⟨kvs, hk⟩ | ⟨kvs, hk⟩
        · obtain ⟨_, _, _, _, o, _, _, e, ex, _⟩ := I.hok p _ hk
          exact ⟨o, e, ex⟩
        · obtain ⟨_, _, _, _, o, _, _, e, ex, _⟩ := I.hok p _ hk
          exact ⟨o, e, ex⟩
      obtain ⟨o, e, ex⟩ := z
      refine ⟨⟨o, e, ex.1⟩, fun a e2 => ?_⟩
      cases e2
      exact ⟨o, e, ex.2.1⟩
    · obtain ⟨o, _, _, _, e, ex, _⟩ := I.hok p _ hk
      refine ⟨⟨o, e, ex.1⟩, fun a e2 => ?_⟩
      cases e2
      exact ⟨o, e, ex.2.1⟩
  | _ => exact False.elim ty
def tBM (K : PySem.W.Frag) (T : String) (r : V → List V → Hp → VK → Prop) (to : TE) (t : TA) : TE := fun σ H Q => to σ H fun x H1 => tyV K T x H1 ∧ t σ H1 fun xs H2 => r x xs H2 Q
variable {o e : Expr} {es : List Expr} {to : TE} {t : TA} {name : Str} {apos cpos : Pos} {T id : String} {r : V → List V → Hp → VK → Prop}
theorem pe_bm (pa : PlainAttrs T) (slot : Slot T name id) (hty : typeOf (.builtin id) = pure (.type "method_descriptor")) (hm : MtR X id r) (ho : PE X o to) (ha : PA X (e :: es) t)
    (hbase : attributeBase o name X.env (eval o X.env) = eval o X.env := by rfl)
    (hfew : ((backTo cpos (starEach (e :: es) X.env)).all (fun x => !x.1) && (backToKw cpos (keywordEach [] X.env)).all (fun x => x.1.isSome)
      && decide ((e :: es).length + ([] : List Keyword).length + (if ([] : List Keyword).isEmpty then 0 else 1) < 30)) = true := by rfl)
    (hline : (apos.endLine == cpos.line) = true := by rfl) (hs : starEach (e :: es) X.env = (false, eval e X.env) :: starEach es X.env := by rfl) (hplain : (backTo cpos (starEach es X.env)).any (·.1) = false := by rfl) :
    PE X (.Call (.Attribute o name apos) (e :: es) [] cpos) (tBM X.K T r to t) := by
  intro pins s σ H Q I h
  refine wpAny_Call_method_late hbase hfew hline rfl (thn (ho pins s σ H _ I h) fun v s1 ⟨x, H1, I1, r1, ty, q1⟩ => ?_)
  obtain ⟨h1, h2⟩ := tyV_is I1 r1 ty
  refine ⟨T, id, pa, slot, hty, h1, h2, ?_⟩
  have hA := ha cpos pins s1 σ H1 _ I1 q1
  rw [hs] at hA ⊢
  refine Calls.callWith_builtin (by show (false || (backTo cpos (starEach es X.env)).any (·.1)) = false; rw [hplain] <;> rfl) (Calls.evalArgs_plain ?_)
  exact thn hA fun us s2 ⟨vs, H2, I2, r2, q2⟩ => hm pins s2 σ H2 x vs v us Q I2 r1 r2 q2
end
end L2

namespace L2
open PySem PySem.Spec PyProof.Rows

def MtM (X : Cx) (id : String) (r : V → List V → Hp → VK → Prop) : Prop :=
  ∀ (pins : List (Addr × Obj)) (s : Shared) (σ : St) (H : Hp) (x : V) (xs : List V) (v : Value) (us : List Value) (Q : VK), Inv X pins σ H s → RelV x v → Vals xs us → r x xs H Q →
    wpAny (model X.prog X.w) X.A (call (.builtin id) (v :: us)) (EP X pins σ Q) X.xe s

/-! ### lists of values -/
theorem Vals.one : ∀ {x : V} {us : List Value}, Vals [x] us → ∃ u, us = [u] ∧ RelV x u
  | _, _, .cons r .nil => ⟨_, rfl, r⟩
theorem Vals.two : ∀ {x y : V} {us : List Value}, Vals [x, y] us → ∃ u v, us = [u, v] ∧ RelV x u ∧ RelV y v
  | _, _, _, .cons r (.cons q .nil) => ⟨_, _, rfl, r, q⟩
theorem Vals.zero : ∀ {us : List Value}, Vals [] us → us = []
  | _, .nil => rfl
theorem Vals.dropLast {xs : List V} {us : List Value} (h : Vals xs us) : Vals xs.dropLast us.dropLast := by
  induction h with
  | nil => exact .nil
  | cons r t ih =>
    cases t with
    | nil => exact .nil
    | cons q t' => exact .cons r ih
section
variable {X : Cx} {pins : List (Addr × Obj)} {σ : St} {H : Hp} {s : Shared} {l b : Addr} {xs ys zs : List V}

/-! ### the two steps: a tracked list is rewritten, a new list is laid -/
theorem Inv.lset {its its' : List Value} {n : Nat} {f : Array Value → Array Value} {t' : Nat} (I : Inv X pins σ H s) (hH : H l = some (.lst xs))
    (e : s.heap.get? l = some { cls := .type "list", data := .seq its.toArray n }) (hf : f its.toArray = its'.toArray) (hv : Vals ys its') (hz : ys.length ≤ sizeLine) :
    Inv X pins σ (upd H l (.lst ys)) { s with heap := s.heap.update l (Obj.mapSeq f), toks := t' } := by
  have q := PySem.IsL.update e f
  rw [hf] at q
  refine I.write (x := l) (e := l) (by rw [hH]; exact trivial) (.inl rfl) (fun b' u hb hu => (Heap.get?_update_other s.heap (Obj.mapSeq f) (Ne.symm hb)).trans hu) ⟨_, q⟩ ?_
  exact ⟨hz, its', _, hv, q⟩
theorem Inv.lnew {its : List Value} {t' : Nat} (I : Inv X pins σ H s) (hv : Vals ys its) (hz : ys.length ≤ sizeLine) :
    Inv X pins σ (upd H s.heap.objs.size (.lst ys)) { s with heap := s.heap.push { cls := .type "list", data := .seq its.toArray }, toks := t' } :=
  I.laid (fun _ _ q => Heap.get?_push_of_some _ q) (Nat.le_refl _) ⟨hz, its, 0, hv, Heap.get?_push_size _ rfl⟩
theorem Inv.fresh (I : Inv X pins σ H s) : H s.heap.objs.size = none := I.hok.fresh (Nat.le_refl _)
theorem Inv.lstM (I : Inv X pins σ H s) (hH : H l = some (.lst xs)) : xs.length ≤ sizeLine ∧ ∃ (its : List Value) (n : Nat), Vals xs its ∧ xs.length = its.length ∧ s.heap.get? l = some { cls := .type "list", data := .seq its.toArray n } := by
  obtain ⟨z, its, n, r, e⟩ := I.hok l _ hH
  exact ⟨z, its, n, r, r.length, e⟩

theorem notLongL {n : Nat} (h : n ≤ sizeLine) : Builtin.List.listTooLong n = false := by
  unfold Builtin.List.listTooLong
  exact decide_eq_false (by omega)
end

section
variable {X : Cx}

/-! ### methods -/
def rAppend : V → List V → Hp → VK → Prop := fun x vs H Q => ∃ l xs y, x = .ref l ∧ vs = [y] ∧ H l = some (.lst xs) ∧ xs.length < sizeLine ∧ Q .non (upd H l (.lst (xs ++ [y])))
theorem mt_append : MtM X "list.append" rAppend := by
  intro pins s σ H x vs v us Q I rx rv h
  obtain ⟨l, xs, y, rfl, rfl, hH, hz, q⟩ := h
  cases rx
  obtain ⟨u, rfl, ru⟩ := rv.one
  obtain ⟨z, its, n, r, hl, e⟩ := I.lstM hH
  refine call_meets F.slot_list_append ⟨_, e, rfl⟩ F.entry_list_append (F.args_list_append_2 _ _) (PySem.list_append l its.toArray n u (by rw [List.size_toArray]; omega)) ⟨e, ?_⟩
  refine ⟨.non, _, I.lset (its' := its ++ [u]) hH e (by simp) (r.append (.cons ru .nil)) ?_, rfl, q⟩
  rw [List.length_append, List.length_singleton]
  omega

def rExtend : V → List V → Hp → VK → Prop := fun x vs H Q => ∃ l b xs zs, x = .ref l ∧ vs = [.ref b] ∧ H l = some (.lst xs) ∧ H b = some (.lst zs) ∧ xs.length + zs.length ≤ sizeLine ∧ Q .non (upd H l (.lst (xs ++ zs)))
theorem mt_extend : MtM X "list.extend" rExtend := by
  intro pins s σ H x vs v us Q I rx rv h
  obtain ⟨l, b, xs, zs, rfl, rfl, hH, hB, hz, q⟩ := h
  cases rx
  obtain ⟨u, rfl, ru⟩ := rv.one
  cases ru
  obtain ⟨z, its, n, r, hl, e⟩ := I.lstM hH
  obtain ⟨z2, its2, n2, r2, hl2, e2⟩ := I.lstM hB
  have hsz : its.toArray.size + its2.toArray.size ≤ sizeLine := by rw [List.size_toArray, List.size_toArray]; omega
  have hlong : ¬ (!its.toArray.isEmpty && Builtin.List.listTooLong (its.toArray.size + its2.toArray.size)) = true := by
    rw [notLongL hsz, Bool.and_false]
    exact Bool.false_ne_true
  refine call_meets F.slot_list_extend ⟨_, e, rfl⟩ F.entry_list_extend (F.args_list_extend_2 _ _)
    (AutoSeq1.list_extend_list_list_0 l its.toArray n b its2.toArray n2 hlong (by rw [List.size_toArray]; omega) (by omega)) ⟨e, e2, ?_⟩
  refine ⟨.non, _, I.lset (its' := its ++ its2) hH e (by simp) (r.append r2) ?_, rfl, q⟩
  rw [List.length_append]
  omega

/-! ### list + list, list += list, list * int -/
def rCat : R2 := fun x y H Q => ∃ l b xs zs, x = .ref l ∧ y = .ref b ∧ H l = some (.lst xs) ∧ H b = some (.lst zs) ∧ xs.length + zs.length ≤ sizeLine ∧ ∀ p, H p = none → Q (.ref p) (upd H p (.lst (xs ++ zs)))
theorem op_cat : OpR X (binaryOp .Add) rCat := by
  intro pins s σ H x y v u Q I rx ry h
  obtain ⟨l, b, xs, zs, rfl, rfl, hH, hB, hz, q⟩ := h
  cases rx
  cases ry
  obtain ⟨z, its, n, r, hl, e⟩ := I.lstM hH
  obtain ⟨z2, its2, n2, r2, hl2, e2⟩ := I.lstM hB
  refine PySem.P.add_list e e2 ?_ (by rw [List.size_toArray, List.size_toArray]; omega)
  have ea : its.toArray ++ its2.toArray = (its ++ its2).toArray := by simp
  rw [ea]
  exact ⟨.ref _, _, I.lnew (t' := s.toks) (r.append r2) (by rw [List.length_append]; omega), rfl, q _ I.fresh⟩
/-! ### del xs[i] -/
end

/-! ### xs[a:b] = ys -/
section
variable {prog : Program} {w : World} {A : Around} {E : Value → Shared → Prop} {s : Shared}
end

section
variable {X : Cx}
end
end L2

namespace L2
open PySem PySem.Spec PyProof.Rows

theorem Vals.ints : ∀ {ns : List Int} {us : List Value}, Vals (ns.map V.int) us → IntsAre us ns
  | [], us, h => by
    rw [List.map_nil] at h
    cases h
    exact IntsAre.nil
  | n :: ns, us, h => by
    rw [List.map_cons] at h
    cases h with
    | cons r t =>
      obtain ⟨k, rfl⟩ := r
      exact IntsAre.cons n k (Vals.ints t)
theorem Vals.strs : ∀ {xs : List Str} {us : List Value}, Vals (xs.map V.str) us → StrsAre us xs
  | [], us, h => by
    rw [List.map_nil] at h
    cases h
    exact StrsAre.nil
  | x :: xs, us, h => by
    rw [List.map_cons] at h
    cases h with
    | cons r t =>
      obtain ⟨k, rfl⟩ := r
      exact StrsAre.cons x k (Vals.strs t)
theorem Vals.bls : ∀ {bs : List Bool} {us : List Value}, Vals (bs.map V.bl) us → us = bs.map Value.bool
  | [], us, h => by
    rw [List.map_nil] at h
    cases h
    rfl
  | b :: bs, us, h => by
    rw [List.map_cons] at h
    cases h with
    | cons r t =>
      cases r
      rw [Vals.bls t, List.map_cons]
theorem Vals.ref1 {a : Addr} {us : List Value} (r : Vals [V.ref a] us) : us = [Value.ref a] := by
  cases r with
  | cons r t =>
    cases t
    cases r
    rfl
/-! ### the library's walks over a list of ints, kept objects alone -/
section
variable {prog : Program} {w : World} {A : Around} {E : Value → Shared → Prop} {s : Shared} {l : Addr} {its : List Value} {ns : List Int} {Q : Value → Shared → Prop}
theorem sum_raw (hh : A.handled = none) (hl : s.heap.IsList l its.toArray) (hi : IntsAre its ns)
    (h : ∀ h' tk t', (∀ b o, s.heap.get? b = some o → h'.get? b = some o) → Q (.int ns.sum t') { s with heap := h', toks := tk }) : wpAny (model prog w) A (call (.builtin "sum") [.ref l]) Q E s := by
  obtain ⟨xs, e⟩ := hi.allInts.items
  have hn : numsOf (intItems xs).toList = ns := by rw [← e]; exact hi.numsOf
  rw [nums_intItems] at hn
  rw [e] at hl
  refine PySem.sum_intListG hh hl fun h' tk t' hk => ?_
  have := h h' tk t' hk
  rw [preSum_eq, List.take_of_length_le (by simp), hn]; exact this
end

/-! ### the calls, by values (CallR of 03t; MtR of 06l) -/
section
variable {X : Cx}
/-- sum(xs) of a list of ints -/
def rSum (K : PySem.W.Frag) : List V → Hp → VK → Prop := fun vs H Q => ∃ (a : Addr) (ns : List Int), vs = [V.ref a] ∧ SqL K H a (ns.map V.int) ∧ Q (.int ns.sum) H
theorem cr_sum (hc : X.calm = true) : CallR X (.builtin "sum") (rSum X.K) := by
  intro pins s σ H vs us Q I r h
  obtain ⟨a, ns, rfl, hs, q⟩ := h
  obtain ⟨its, rv, hl, _⟩ := I.list hs
  rw [Vals.ref1 r]
  exact sum_raw (I.ok.hd hc) hl.isList rv.ints fun h' tk t' hk => ⟨.int _, H, I.kept hk, ⟨_, rfl⟩, q⟩
/-! sorted, sort (fewer than 64 items: the library's own bound) -/
end

/-! ### list.index, flat items -/
section
variable {X : Cx}
end

/-! ### type(x) of an own instance; is, is not of a module's class -/
section
variable {X : Cx}
end

/-! ### any(xs), all(xs) of a list of bools -/
theorem iter_any {prog : Program} {w : World} {A : Around} {E : Value → Shared → Prop} {s : Shared} {l : Addr} {items : Array Value} {Q : Value → Shared → Prop} (hl : s.heap.IsList l items)
    (h : ∀ s₂ : Shared, s₂ = { s with heap := s.heap.push { cls := .type "list_iterator", data := .fields #[.ref l, .int 0 0] } } →
      (s₂.heap.IsListIter s.heap.objs.size l 0 ∧ s₂.heap.IsList l items) → l ≠ s.heap.objs.size → Q (.ref s.heap.objs.size) s₂) : wpAny (model prog w) A (pyIter (.ref l)) Q E s := by
  have hlt : l < s.heap.objs.size := by obtain ⟨_, e, _⟩ := hl; exact Heap.lt_size e
  exact wpAny_pyIter_list hl (h _ rfl ⟨⟨_, Heap.get?_push_size _ rfl, rfl, rfl⟩, hl.push _⟩ (Nat.ne_of_lt hlt))
theorem truth_bools {prog : Program} {w : World} {A : Around} {bs : List Bool} {its : List Value} (e : its = bs.map Value.bool) :
    TruthOf prog w A (fun i v => its.toArray[i]? = some v) (fun i => bs.getD i false) := fun i v s Q E hv hq => by
  have hv' : its[i]? = some v := by simpa using hv
  rw [e, List.getElem?_map] at hv'
  obtain ⟨b, hb, rfl⟩ := Option.map_eq_some_iff.mp hv'
  have hg : bs.getD i false = b := by rw [List.getD_eq_getElem?_getD, hb] <;> rfl
  have hq' : Q (bs.getD i false) s := hq
  rw [hg] at hq'
  exact wpAny_truthy_bool hq'
theorem any_range : ∀ bs : List Bool, (List.range bs.length).any (fun i => bs.getD i false) = bs.any id
  | [] => rfl
  | b :: bs => by
    rw [List.length_cons, List.range_succ_eq_map, List.any_cons, List.any_map, List.any_cons, ← any_range bs]
    all_goals rfl
theorem all_range : ∀ bs : List Bool, (List.range bs.length).all (fun i => bs.getD i false) = bs.all id
  | [] => rfl
  | b :: bs => by
    rw [List.length_cons, List.range_succ_eq_map, List.all_cons, List.all_map, List.all_cons, ← all_range bs]
    all_goals rfl
section
variable {X : Cx}
def rAny (K : PySem.W.Frag) : List V → Hp → VK → Prop := fun vs H Q => ∃ (a : Addr) (bs : List Bool), vs = [V.ref a] ∧ SqL K H a (bs.map V.bl) ∧ Q (.bl (bs.any id)) H
def rAll (K : PySem.W.Frag) : List V → Hp → VK → Prop := fun vs H Q => ∃ (a : Addr) (bs : List Bool), vs = [V.ref a] ∧ SqL K H a (bs.map V.bl) ∧ Q (.bl (bs.all id)) H
theorem cr_any (hc : X.calm = true) : CallR X (.builtin "any") (rAny X.K) := by
  intro pins s σ H vs us Q I r h
  obtain ⟨a, bs, rfl, hs, q⟩ := h
  obtain ⟨its, rv, hl, _⟩ := I.list hs
  rw [Vals.ref1 r]
  have hb := rv.bls
  refine call_any_walk (iter_any hl.isList fun s₂ e2 st hne => ?_)
  subst e2
  refine ⟨_, _, _, _, _, _, _, rfl, Walks.list (A := X.A.in1) (I.ok.hd hc) _ a hne its.toArray, st, truth_bools hb, fun h' tk hk => ?_⟩
  refine ⟨.bl _, H, I.kept fun b o eo => hk b o (fun hmem => ?_) (Heap.get?_push_of_some _ eo), ?_, q⟩
  · rcases List.mem_cons.mp hmem with e1 | hmem
    · exact absurd (e1 ▸ Heap.lt_size eo) (Nat.lt_irrefl _)
    · cases hmem
  · show Value.bool _ = Value.bool _
    rw [← any_range, hb, List.size_toArray, List.length_map]
theorem cr_all (hc : X.calm = true) : CallR X (.builtin "all") (rAll X.K) := by
  intro pins s σ H vs us Q I r h
  obtain ⟨a, bs, rfl, hs, q⟩ := h
  obtain ⟨its, rv, hl, _⟩ := I.list hs
  rw [Vals.ref1 r]
  have hb := rv.bls
  refine call_all_walk (iter_any hl.isList fun s₂ e2 st hne => ?_)
  subst e2
  refine ⟨_, _, _, _, _, _, _, rfl, Walks.list (A := X.A.in1) (I.ok.hd hc) _ a hne its.toArray, st, truth_bools hb, fun h' tk hk => ?_⟩
  refine ⟨.bl _, H, I.kept fun b o eo => hk b o (fun hmem => ?_) (Heap.get?_push_of_some _ eo), ?_, q⟩
  · rcases List.mem_cons.mp hmem with e1 | hmem
    · exact absurd (e1 ▸ Heap.lt_size eo) (Nat.lt_irrefl _)
    · cases hmem
  · show Value.bool _ = Value.bool _
    rw [← all_range, hb, List.size_toArray, List.length_map]
end

/-! ### == and != of data at any depth: none, bools, ints, texts, lists, tuples -/
mutual
inductive Dp (K : PySem.W.Frag) (H : Hp) : V → PyData → Prop
  | non : Dp K H .non .none
  | bl (b : Bool) : Dp K H (.bl b) (.bool b)
  | int (i : Int) : Dp K H (.int i) (.int i)
  | str (x : Str) : Dp K H (.str x) (.str x)
  | lst {a : Addr} {xs : List V} {ds : List PyData} : SqL K H a xs → DpAll K H xs ds → Dp K H (.ref a) (.list ds)
  | tup {a : Addr} {xs : List V} {ds : List PyData} : SqT K H a xs → DpAll K H xs ds → Dp K H (.ref a) (.tuple ds)
inductive DpAll (K : PySem.W.Frag) (H : Hp) : List V → List PyData → Prop
  | nil : DpAll K H [] []
  | cons {v : V} {vs : List V} {d : PyData} {ds : List PyData} : Dp K H v d → DpAll K H vs ds → DpAll K H (v :: vs) (d :: ds)
end
section
variable {X : Cx} {pins : List (Addr × Obj)} {σ : St} {H : Hp} {s : Shared}
mutual
theorem Dp.reads (I : Inv X pins σ H s) : ∀ (d : PyData) (v : V) (u : Value), Dp X.K H v d → RelV v u → ∃ as, Reads s.heap u d as
  | .none, _, _, h, r => by
    cases h
    cases r
    exact ⟨_, Reads.none⟩
  | .bool b, _, _, h, r => by
    cases h
    cases r
    exact ⟨_, Reads.bool b⟩
  | .int i, _, _, h, r => by
    cases h
    obtain ⟨t, rfl⟩ := r
    exact ⟨_, Reads.int i t⟩
  | .str x, _, _, h, r => by
    cases h
    obtain ⟨t, rfl⟩ := r
    exact ⟨_, Reads.str x t⟩
  | .list ds, _, _, h, r => by
    cases h with
    | lst hs ha =>
      cases r
      obtain ⟨its, rv, ⟨o, n, ho, hc, _, hd⟩, _⟩ := I.list hs
      obtain ⟨as, hr⟩ := Dp.readsAll I ds _ its ha rv
      exact ⟨_, Reads.list ho hc hd hr⟩
  | .tuple ds, _, _, h, r => by
    cases h with
    | tup hs ha =>
      cases r
      obtain ⟨its, rv, ⟨o, ho, hc, n, hd⟩, _⟩ := I.tuple hs
      obtain ⟨as, hr⟩ := Dp.readsAll I ds _ its ha rv
      exact ⟨_, Reads.tuple ho hc hd hr⟩
  | .dict _, _, _, h, _ => by cases h
theorem Dp.readsAll (I : Inv X pins σ H s) : ∀ (ds : List PyData) (vs : List V) (us : List Value), DpAll X.K H vs ds → Vals vs us → ∃ as, ReadsAll s.heap us ds as
  | [], _, _, h, r => by
    cases h
    cases r
    exact ⟨_, ReadsAll.nil⟩
  | d :: ds, _, _, h, r => by
    cases h with
    | cons h1 h2 =>
      cases r with
      | cons r1 r2 =>
        obtain ⟨as, q1⟩ := Dp.reads I d _ _ h1 r1
        obtain ⟨bs, q2⟩ := Dp.readsAll I ds _ _ h2 r2
        exact ⟨_, ReadsAll.cons q1 q2⟩
end
end
section
variable {X : Cx}
end
end L2

namespace L2
open PySem PySem.Spec PyProof.Rows
abbrev CellAt (h : Heap) (c : Addr) (v : Option Value) : Prop := h.IsCell c v
def relS (scope sc : Scope) : Scope :=
  { scope with names := scope.names.map fun (n, k) => if (k == .free && sc.kind == .function && sc.names.lookup n == some .cell) then (n, .cell) else (n, k) }

def cloFrom (cells : List (Str × Addr)) : List (Str × NameKind) → List (Str × Addr) → List (Str × Addr)
  | [], acc => acc
  | (n, k) :: r, acc => if k == .free then cloFrom cells r ((n, (cells.lookup n).getD 0) :: acc) else cloFrom cells r acc

theorem closure_loop (env : Env) (f : Str × NameKind → List (Str × Addr) → Sem (ForInStep (List (Str × Addr))))
    (hf : ∀ n k c, f (n, k) c = if k == .free then (do let a ← cellOf env n; pure (.yield ((n, a) :: c))) else pure (.yield c)) :
    ∀ (names : List (Str × NameKind)) (acc : List (Str × Addr)), (∀ y ∈ names, y.2 = .free → ∃ c, env.cells.lookup y.1 = some c) → forIn names acc f = pure (cloFrom env.cells names acc)
  | [], acc, _ => by rw [List.forIn_nil]; rfl
  | (n, k) :: r, acc, h => by
    rw [List.forIn_cons, hf]
    have ih := fun acc => closure_loop env f hf r acc fun y hy => h y (List.mem_cons_of_mem _ hy)
    unfold cloFrom
    by_cases hk : (k == NameKind.free) = true
    · rw [if_pos hk, if_pos hk]
      obtain ⟨c, hc⟩ := h (n, k) List.mem_cons_self (by simpa using hk)
      have e : cellOf env n = pure c := by unfold cellOf; rw [hc]
      rw [e]
      have e2 : (env.cells.lookup n).getD 0 = c := by rw [hc]; rfl
      rw [e2]
      exact ih _
    · rw [if_neg hk, if_neg hk]
      exact ih _
theorem closure_ok {scope : Scope} {env : Env} (h : ∀ y ∈ scope.names, y.2 = .free → ∃ c, env.cells.lookup y.1 = some c) : closureFor scope env = pure (cloFrom env.cells scope.names []) := by
  simp only [closureFor]
  rw [closure_loop env _ (fun n k c => rfl) scope.names [] h]
  rfl

theorem mem_lookup {α : Type} : ∀ {l : List (Str × α)} {n : Str} {c : α}, (n, c) ∈ l → ∃ c', l.lookup n = some c'
  | (k, v) :: r, n, c, h => by
    rw [List.lookup_cons]
    cases hb : n == k with
    | true => exact ⟨_, rfl⟩
    | false =>
      rcases List.mem_cons.mp h with e | h
      · cases e; simp at hb
      · exact mem_lookup h

theorem cloFrom_mem {cells : List (Str × Addr)} : ∀ {names : List (Str × NameKind)} {acc : List (Str × Addr)} {n : Str} {c : Addr}, (n, c) ∈ cloFrom cells names acc → (n, c) ∈ acc ∨ ((n, .free) ∈ names ∧ c = (cells.lookup n).getD 0)
  | [], _, _, _, h => .inl h
  | (m, k) :: r, acc, n, c, h => by
    unfold cloFrom at h
    split at h
    · rename_i hk
      have hk : k = .free := by simpa using hk
      rcases cloFrom_mem h with h | ⟨h1, h2⟩
      · rcases List.mem_cons.mp h with e | h
        · cases e; exact .inr ⟨hk ▸ List.mem_cons_self, rfl⟩
        · exact .inl h
      · exact .inr ⟨List.mem_cons_of_mem _ h1, h2⟩
    · rcases cloFrom_mem h with h | ⟨h1, h2⟩
      · exact .inl h
      · exact .inr ⟨List.mem_cons_of_mem _ h1, h2⟩
theorem cloFrom_acc {cells : List (Str × Addr)} : ∀ {names : List (Str × NameKind)} {acc : List (Str × Addr)} {p : Str × Addr}, p ∈ acc → p ∈ cloFrom cells names acc
  | [], _, _, h => h
  | (m, k) :: r, acc, p, h => by
    unfold cloFrom
    split
    · exact cloFrom_acc (List.mem_cons_of_mem _ h)
    · exact cloFrom_acc h
theorem cloFrom_has {cells : List (Str × Addr)} : ∀ {names : List (Str × NameKind)} {acc : List (Str × Addr)} {n : Str}, (n, .free) ∈ names → (n, (cells.lookup n).getD 0) ∈ cloFrom cells names acc
  | (m, k) :: r, acc, n, h => by
    unfold cloFrom
    rcases List.mem_cons.mp h with e | h
    · cases e
      exact cloFrom_acc List.mem_cons_self
    · split
      · exact cloFrom_has h
      · exact cloFrom_has h

theorem cells_mem : ∀ {names : List (Str × NameKind)} {h : Heap} {acc : List (Str × Addr)} {x : Str} {c : Addr}, (x, c) ∈ cellsFrom h.objs.size names acc →
    (x, c) ∈ acc ∨ ((x, .cell) ∈ names ∧ h.objs.size ≤ c ∧ CellAt (pushCells h names) c none)
  | [], _, _, _, _, h => .inl h
  | (n, k) :: r, h, acc, x, c, hm => by
    unfold cellsFrom at hm
    unfold pushCells
    split at hm
    · rename_i hk
      rw [if_pos hk]
      have hk : k = .cell := by simpa using hk
      rw [← Heap.size_push h { cls := .type "cell", data := .cell none }] at hm
      rcases cells_mem hm with hm | ⟨h1, h2, h3⟩
      · rcases List.mem_cons.mp hm with e | hm
        · cases e
          exact .inr ⟨hk ▸ List.mem_cons_self, Nat.le_refl _, _, pushCells_keeps r _ _ _ (Heap.get?_push_size _ rfl), rfl⟩
        · exact .inl hm
      · rw [Heap.size_push] at h2
        exact .inr ⟨List.mem_cons_of_mem _ h1, Nat.le_of_succ_le h2, h3⟩
    · rename_i hk
      rw [if_neg hk]
      rcases cells_mem hm with hm | ⟨h1, h2, h3⟩
      · exact .inl hm
      · exact .inr ⟨List.mem_cons_of_mem _ h1, h2, h3⟩
theorem cells_acc : ∀ {names : List (Str × NameKind)} {n : Nat} {acc : List (Str × Addr)} {p : Str × Addr}, p ∈ acc → p ∈ cellsFrom n names acc
  | [], _, _, _, h => h
  | (m, k) :: r, n, acc, p, h => by
    unfold cellsFrom
    split
    · exact cells_acc (List.mem_cons_of_mem _ h)
    · exact cells_acc h
theorem cells_has : ∀ {names : List (Str × NameKind)} {n : Nat} {acc : List (Str × Addr)} {x : Str}, (x, .cell) ∈ names → ∃ c, (x, c) ∈ cellsFrom n names acc
  | (m, k) :: r, n, acc, x, h => by
    unfold cellsFrom
    rcases List.mem_cons.mp h with e | h
    · cases e
      exact ⟨n, cells_acc List.mem_cons_self⟩
    · split
      · exact cells_has h
      · exact cells_has h
theorem cells_inj : ∀ {names : List (Str × NameKind)} {h : Heap} {acc : List (Str × Addr)} {x y : Str} {c : Addr}, (∀ p ∈ acc, p.2 < h.objs.size) → (∀ x y c, (x, c) ∈ acc → (y, c) ∈ acc → x = y) →
    (x, c) ∈ cellsFrom h.objs.size names acc → (y, c) ∈ cellsFrom h.objs.size names acc → x = y
  | [], _, _, _, _, _, _, hi, h1, h2 => hi _ _ _ h1 h2
  | (n, k) :: r, h, acc, x, y, c, hl, hi, h1, h2 => by
    unfold cellsFrom at h1 h2
    split at h1
    · rename_i hk
      rw [if_pos hk] at h2
      rw [← Heap.size_push h { cls := .type "cell", data := .cell none }] at h1 h2
      refine cells_inj (h := h.push _) (fun p hp => ?_) (fun x y c a b => ?_) h1 h2
      · rw [Heap.size_push]
        rcases List.mem_cons.mp hp with rfl | hp
        · exact Nat.lt_succ_self _
        · exact Nat.lt_succ_of_lt (hl p hp)
      · rcases List.mem_cons.mp a with e | a <;> rcases List.mem_cons.mp b with e' | b
        · cases e; cases e'; rfl
        · cases e; exact absurd (hl _ b) (Nat.lt_irrefl _)
        · cases e'; exact absurd (hl _ a) (Nat.lt_irrefl _)
        · exact hi _ _ _ a b
    · rename_i hk
      rw [if_neg hk] at h2
      exact cells_inj hl hi h1 h2

theorem newEnv_comp {M : Model} {A : Around} {E : Value → Shared → Prop} {s : Shared} {scope : Scope} {globals : Addr} {closure : List (Str × Addr)} {qual : Str} {func : Option Addr} {code : Value} {around : Env} {builtins : Addr} {Q : Env → Shared → Prop}
    (h : Q (newEnv scope s.heap.objs.size globals (cellsFrom (s.heap.objs.size + 1) scope.names closure) qual func code (some around) builtins)
      { s with heap := pushCells (s.heap.push { cls := .type "dict", data := .dict #[] }) scope.names }) :
    wpAny M A (newFunctionEnv scope globals closure [] qual func code (some around) builtins) Q E s := by
  simp only [newFunctionEnv, Option.isSome_some, if_true]
  refine wpAny_bind (wpAny_alloc ?_)
  refine wpAny_bind (wpAny_layCells _ (fun n k c => rfl) scope.names closure _ _ ?_)
  rw [show ({ s with heap := s.heap.push { cls := .type "dict", data := .dict #[] } } : Shared).heap.objs.size = s.heap.objs.size + 1 from Heap.size_push ..]
  rw [List.forIn_nil]
  exact wpAny_bind (wpAny_pure (wpAny_pure h))

/-- every name of the written scope, in the scope that runs -/
theorem lookup_relS {sc : Scope} : ∀ {names : List (Str × NameKind)} {x : Str} {k : NameKind},
    (names.map fun (n, k) => if (k == NameKind.free && sc.kind == .function && sc.names.lookup n == some .cell) then (n, NameKind.cell) else (n, k)).lookup x = some k →
    ∃ k', names.lookup x = some k' ∧ (k = k' ∨ (k' = .free ∧ k = .cell))
  | [], _, _, h => by simp at h
  | (n, k₀) :: r, x, k, h => by
    have ih := @lookup_relS sc r x k
    have h' : List.lookup x ((if (k₀ == NameKind.free && sc.kind == .function && sc.names.lookup n == some .cell) = true then (n, NameKind.cell) else (n, k₀)) :: (r.map _)) = some k := h
    cases hx : x == n with
    | true =>
      simp only [List.lookup_cons, hx]
      by_cases hc : (k₀ == NameKind.free && sc.kind == .function && sc.names.lookup n == some .cell) = true
      · rw [if_pos hc] at h'
        simp only [List.lookup_cons, hx] at h'
        cases h'
        simp only [Bool.and_eq_true, beq_iff_eq] at hc
        exact ⟨k₀, rfl, .inr ⟨hc.1.1, rfl⟩⟩
      · rw [if_neg hc] at h'
        simp only [List.lookup_cons, hx] at h'
        cases h'
        exact ⟨_, rfl, .inl rfl⟩
    | false =>
      simp only [List.lookup_cons, hx]
      by_cases hc : (k₀ == NameKind.free && sc.kind == .function && sc.names.lookup n == some .cell) = true
      · rw [if_pos hc] at h'
        simp only [List.lookup_cons, hx] at h'
        exact ih h'
      · rw [if_neg hc] at h'
        simp only [List.lookup_cons, hx] at h'
        exact ih h'
/-- the names of a comprehension's block: its own (with their places in N), or captured -/
structure BlkOk (N : List Str) (sc scope : Scope) (own : List (Str × Nat)) : Prop where
  kind : scope.kind = .function
  uniq : ∀ y ∈ scope.names, scope.names.lookup y.1 = some y.2
  ix : ∀ p ∈ own, N[p.2]? = some p.1
  free : ∀ y ∈ scope.names, y.2 = .free → sc.names.lookup y.1 = some .cell ∨ sc.names.lookup y.1 = some .free
  own : ∀ y ∈ scope.names, y.2 = .local ∨ y.2 = .cell → y.1 ∈ own.map (·.1) ∨ y.1 ∉ N
/-- the slots of the block's own names forgotten -/
def wipe (σ : St) : List Nat → St
  | [] => σ
  | v :: vs => (wipe σ vs).set v none
theorem wipe_length (σ : St) : ∀ vs : List Nat, (wipe σ vs).length = σ.length
  | [] => rfl
  | v :: vs => by unfold wipe; rw [List.length_set, wipe_length σ vs]
theorem wipe_some {σ : St} {i : Nat} {x : V} : ∀ {vs : List Nat}, (wipe σ vs)[i]? = some (some x) → σ[i]? = some (some x) ∧ i ∉ vs
  | [], h => ⟨h, by simp⟩
  | v :: vs, h => by
    unfold wipe at h
    by_cases hi : v = i
    · subst hi
      by_cases hv : v < (wipe σ vs).length
      · rw [List.getElem?_set_self hv] at h; cases h
      · rw [List.getElem?_eq_none (by simpa using hv)] at h; cases h
    · rw [List.getElem?_set_ne hi] at h
      obtain ⟨h1, h2⟩ := wipe_some h
      exact ⟨h1, by simp only [List.mem_cons, not_or]; exact ⟨fun e => hi e.symm, h2⟩⟩

/-- the context of a block that starts at s, its iterator's objects at fp -/
abbrev Cx.blk (X : Cx) (s : Shared) (H : Hp) (scope : Scope) (cenv : Env) (fp : List Addr) : Cx := { X with s_0 := s, H_0 := H, env := cenv, outer := X.stack, ex := fp, fn := fun x => scope.names.lookup x == some .cell, pn := [], xe := fun _ _ => False }
section
variable {X : Cx} {pins : List (Addr × Obj)} {σ : St} {H : Hp} {s : Shared}
theorem block_start {scope : Scope} {own : List (Str × Nat)} {fp : List Addr} (I : Inv X pins σ H s) (ok : BlkOk X.N X.env.scope scope own) (hN : X.N.Nodup) (hfp : ∀ b ∈ fp, FpOk X pins H b ∧ b < s.heap.objs.size) :
    Inv (X.blk s H scope (compEnvC scope (cellsFrom (s.heap.objs.size + 1) scope.names (cloFrom X.env.cells scope.names [])) s.heap.objs.size X.env) fp) [] (wipe σ (own.map (·.2))) H { s with heap := pushCells (s.heap.push { cls := .type "dict", data := .dict #[] }) scope.names } := by
  have hfree : ∀ y ∈ scope.names, y.2 = .free → ∃ c, X.env.cells.lookup y.1 = some c := fun y hy e => by
    rcases ok.free y hy e with k | k
    · exact I.ok.has _ (.inl k)
    · exact I.ok.has _ (.inr k)
  generalize hcenv : compEnvC scope (cellsFrom (s.heap.objs.size + 1) scope.names (cloFrom X.env.cells scope.names [])) s.heap.objs.size X.env = cenv
  have kp : ∀ b o, s.heap.get? b = some o → (pushCells (s.heap.push { cls := .type "dict", data := .dict #[] }) scope.names).get? b = some o := fun b o e => pushCells_keeps _ _ _ _ (Heap.get?_push_of_some _ e)
  have hL : cenv.locals = s.heap.objs.size := by rw [← hcenv]; rfl
  have hcl : cenv.cells = cellsFrom (s.heap.objs.size + 1) scope.names (cloFrom X.env.cells scope.names []) := by rw [← hcenv]; rfl
  have hsc : cenv.scope = relS scope X.env.scope := by rw [← hcenv]; rfl
  rw [← Heap.size_push s.heap { cls := .type "dict", data := .dict #[] }] at hcl
  have cm : ∀ {y c}, (y, c) ∈ cloFrom X.env.cells scope.names [] → X.env.cells.lookup y = some c ∧ c < s.heap.objs.size := fun {y c} hm => by
    rcases cloFrom_mem hm with hm | ⟨h1, rfl⟩
    · cases hm
    · obtain ⟨c, hc⟩ := hfree _ h1 rfl
      rw [hc]
      obtain ⟨w, z⟩ := I.cell _ _ hc
      exact ⟨rfl, z.lt⟩
  have mem : ∀ {y c}, cenv.cells.lookup y = some c → (X.env.cells.lookup y = some c ∧ c < s.heap.objs.size) ∨ (s.heap.objs.size + 1 ≤ c ∧ CellAt (pushCells (s.heap.push { cls := .type "dict", data := .dict #[] }) scope.names) c none) := fun {y c} e => by
    rw [hcl] at e
    rcases cells_mem (PySem.mem_of_lookup e) with hm | ⟨_, h2, h3⟩
    · exact .inl (cm hm)
    · rw [Heap.size_push] at h2; exact .inr ⟨h2, h3⟩
  have look : ∀ {y}, scope.names.lookup y = some .free → ∃ c, cenv.cells.lookup y = some c ∧ X.env.cells.lookup y = some c := fun {y} hl => by
    have hy : (y, NameKind.free) ∈ scope.names := PySem.mem_of_lookup hl
    obtain ⟨c', e'⟩ := mem_lookup (cells_acc (names := scope.names) (n := (s.heap.push { cls := .type "dict", data := .dict #[] }).objs.size) (cloFrom_has (cells := X.env.cells) (acc := []) hy))
    rw [← hcl] at e'
    refine ⟨c', e', ?_⟩
    rw [hcl] at e'
    rcases cells_mem (PySem.mem_of_lookup e') with hm | ⟨h1, _, _⟩
    · exact (cm hm).1
    · have := ok.uniq _ h1
      rw [hl] at this; cases this
  have okB : (X.blk s H scope cenv fp).Ok := by
    refine ⟨I.ok.mod, by show cenv.scope.kind = _; rw [hsc]; exact ok.kind, by show cenv.globals = _; rw [← hcenv]; exact I.ok.glob, by show cenv.builtins = _; rw [← hcenv]; exact I.ok.blt, by show s.heap.objs.size ≤ cenv.locals; rw [hL]; exact Nat.le_refl _,
      fun y z c e1 e2 => ?_, fun y hy => ?_, fun y c z e => ?_, I.ok.hd, I.ok.frames, .inl rfl, fun b hb => ⟨?_, fun y c e z => ?_⟩, I.bs, Nat.le_trans I.ok.bsz I.sz, fun b o e hb => ?_, fun b hb z => ?_, I.stack, I.stkFree⟩
    · have e1 : cenv.cells.lookup y = some c := e1
      have e2 : cenv.cells.lookup z = some c := e2
      rw [hcl] at e1 e2
      refine cells_inj (fun p hp => ?_) (fun y z c a b => I.ok.inj y z c (cm a).1 (cm b).1) (PySem.mem_of_lookup e1) (PySem.mem_of_lookup e2)
      rw [Heap.size_push]
      exact Nat.lt_succ_of_lt (cm (y := p.1) (c := p.2) hp).2
    · show ∃ c, cenv.cells.lookup y = some c
      have key : ∀ k, cenv.kindOf y = some k → (k = .cell ∨ k = .free) → ∃ c, cenv.cells.lookup y = some c := fun k hk hk' => by
        unfold Env.kindOf at hk
        rw [hsc] at hk
        obtain ⟨k', e, r⟩ := lookup_relS hk
        have : k' = .cell ∨ k' = .free := by
          rcases r with rfl | ⟨rfl, _⟩
          · exact hk'
          · exact .inr rfl
        rcases this with rfl | rfl
        · obtain ⟨c, hm⟩ := cells_has (n := (s.heap.push { cls := .type "dict", data := .dict #[] }).objs.size) (acc := cloFrom X.env.cells scope.names []) (PySem.mem_of_lookup e)
          obtain ⟨c', e'⟩ := mem_lookup hm
          exact ⟨c', by rw [hcl]; exact e'⟩
        · obtain ⟨c, h1, _⟩ := look e
          exact ⟨c, h1⟩
      rcases hy with hy | hy
      · exact key _ hy (.inl rfl)
      · exact key _ hy (.inr rfl)
    · have z : (scope.names.lookup y == some NameKind.cell) = true := z
      have z : scope.names.lookup y = some .cell := by simpa using z
      have e : cenv.cells.lookup y = some c := e
      rw [hcl] at e
      rcases cells_mem (PySem.mem_of_lookup e) with hm | ⟨_, h2, _⟩
      · rcases cloFrom_mem hm with hm | ⟨h1, _⟩
        · cases hm
        · have q := ok.uniq _ h1
          rw [z] at q; cases q
      · rw [Heap.size_push] at h2
        exact Nat.le_of_succ_le h2
    · show b ≠ cenv.locals
      rw [hL]; exact Nat.ne_of_lt (hfp b hb).2
    · have e : cenv.cells.lookup y = some c := e
      rcases mem e with ⟨h1, _⟩ | ⟨h1, _⟩
      · exact (hfp b hb).1.2.2.2.2.1 y c h1 z
      · have h2 : s.heap.objs.size + 1 ≤ b := by rw [← z]; exact h1
        exact absurd (Nat.lt_of_lt_of_le (hfp b hb).2 (Nat.le_of_succ_le h2)) (Nat.lt_irrefl _)
    · rcases (hfp b hb).1.2.2.2.1 with z | z
      · exact I.ok.noex b o e z
      · exact absurd (Nat.lt_of_lt_of_le (Heap.lt_size e) (Nat.le_trans I.ok.bsz z)) (Nat.lt_irrefl _)
    · rcases List.mem_cons.mp (I.stkSub b z) with z | z
      · exact (hfp b hb).1.2.1 z
      · exact (hfp b hb).1.2.2.1 z
  refine ⟨okB, rfl, I.bare, Un.kept kp, ⟨fun _ => none, ?_, fun i y av e1 e2 e3 => ?_⟩, fun y c e => ?_, ?_, fun y c e => ?_, fun p hp => ?_, I.hok.kept kp, by rw [wipe_length]; exact I.len⟩
  · show Heap.Ns _ cenv.locals _
    rw [hL]
    exact Heap.Ns.keeps (Heap.Ns.new ..) fun b o e => pushCells_keeps _ _ _ _ e
  · obtain ⟨e2, hne⟩ := wipe_some e2
    have hfr : scope.names.lookup y = some .free ∧ (cenv.kindOf y = some .cell ∨ cenv.kindOf y = some .free) := by
      have key : ∀ k, cenv.scope.names.lookup y = some k → k = .local ∨ k = .cell ∨ k = .free → scope.names.lookup y = some .free ∧ (cenv.kindOf y = some .cell ∨ cenv.kindOf y = some .free) := fun k hk hk' => by
        have hk0 := hk
        rw [hsc] at hk
        obtain ⟨k', e, r⟩ := lookup_relS hk
        have no : ¬ (k' = .local ∨ k' = .cell) := fun hh => by
          rcases ok.own _ (PySem.mem_of_lookup e) hh with e' | e'
          · obtain ⟨p, hp, hpy⟩ := List.mem_map.mp e'
            have e3 := ok.ix p hp
            have : p.1 = y := hpy
            rw [this] at e3
            exact hne (List.mem_map.mpr ⟨p, hp, nodup_ix hN e3 e1⟩)
          · exact e' (List.mem_of_getElem? e1)
        rcases r with rfl | ⟨rfl, rfl⟩
        · rcases hk' with rfl | rfl | rfl
          · exact absurd (.inl rfl) no
          · exact absurd (.inr rfl) no
          · exact ⟨e, .inr hk0⟩
        · exact ⟨e, .inl hk0⟩
      have e3 : Vis cenv.scope y := e3
      rcases e3 with e3 | e3 | e3
      · exact key _ e3 (.inl rfl)
      · exact key _ e3 (.inr (.inl rfl))
      · exact key _ e3 (.inr (.inr rfl))
    obtain ⟨m, hn, hl⟩ := I.loc
    have hvis : Vis X.env.scope y := (ok.free _ (PySem.mem_of_lookup hfr.1) rfl).elim (fun k => .inr (.inl k)) (fun k => .inr (.inr k))
    obtain ⟨w, r, q⟩ := hl i y av e1 e2 hvis
    refine ⟨w, r, .inr ⟨hfr.2, ?_⟩⟩
    obtain ⟨c, h1, h2⟩ := look hfr.1
    rcases q with ⟨k, _⟩ | ⟨_, c', e', z⟩
    · have k : X.env.scope.names.lookup y = some .local := k
      rcases ok.free _ (PySem.mem_of_lookup hfr.1) rfl with k' | k' <;> rw [show X.env.scope.names.lookup y = _ from k'] at k <;> cases k
    · rw [h2] at e'; cases e'
      exact ⟨c, h1, z.keeps kp⟩
  · have e : cenv.cells.lookup y = some c := e
    rcases mem e with ⟨h1, _⟩ | ⟨_, z⟩
    · obtain ⟨w, z⟩ := I.cell y c h1
      exact ⟨w, z.keeps kp⟩
    · exact ⟨_, z⟩
  · show H cenv.locals = none
    rw [hL]; exact I.hok.fresh (Nat.le_refl _)
  · have e : cenv.cells.lookup y = some c := e
    rcases mem e with ⟨h1, _⟩ | ⟨h1, _⟩
    · exact I.freeC y c h1
    · exact I.hok.fresh (Nat.le_of_succ_le h1)
  · exact absurd (show p ∈ ([] : List (Addr × Obj)) ++ [] from hp) (by simp)

/-- an item appended to a tracked list -/
theorem app_ok {E : Value → Shared → Prop} {D : Addr} {xs : List V} {y : V} {v : Value} {Q : Value → Shared → Prop} (I : Inv X pins σ H s) (hD : H D = some (.lst xs)) (hz : xs.length < sizeLine) (r : RelV y v)
    (h : ∀ s', Inv X pins σ (upd H D (.lst (xs ++ [y]))) s' → Q .none s') : wpAny (model X.prog X.w) X.A (call (.builtin "list.append") [.ref D, v]) Q E s := by
  obtain ⟨hz', its, n, ri, e⟩ := I.hok D _ hD
  have hl := ri.length
  refine append_at (hsz := by rw [List.size_toArray]; omega) e fun h' sb ho' => ?_
  refine h { s with heap := h' } (I.write (t' := s.toks) (by rw [hD]; trivial) (.inl rfl) (fun b u hb q => (sb.2 b hb).trans q) ⟨_, ho'⟩ ⟨by rw [List.length_append]; exact hz, its ++ [v], n + 1, ri.append (.cons r .nil), ?_⟩)
  rw [ho']
  simp

/-- a clause's tests -/
def PTs (X : Cx) (ifs : List Expr) (t : TT) : Prop :=
  ∀ (pins : List (Addr × Obj)) (s : Shared) (σ : St) (H : Hp) (Q : Bool → Hp → Prop), Inv X pins σ H s → t σ H Q →
    wpAny (model X.prog X.w) X.A (forIn ifs true fun c r => if r = true then do let ok ← isTrue c X.env (eval c X.env); pure (ForInStep.yield ok) else pure (ForInStep.yield r)) (TP X pins σ Q) X.xe s
def tYes : TT := fun _ H Q => Q true H
theorem pts_nil : PTs X [] tYes := fun _ _ _ H _ I h => wpAny_tests_nil ⟨H, I, h⟩
theorem pts_one {c : Expr} {t : TT} (h : PT X c t) : PTs X [c] t := fun pins s σ H Q I hw => wpAny_tests_one (h pins s σ H Q I hw)
end

theorem thnF {α : Type} {t : Sem α} {Q Q' : α → Shared → Prop} {M : Model} {A : Around} {E : Value → Shared → Prop} {s : Shared} (h : wpAny M A t Q (fun _ _ => False) s) (hQ : ∀ a s, Q a s → Q' a s) : wpAny M A t Q' E s := wpAny_mono h hQ fun _ _ z => False.elim z

/-- the loop of a list comprehension's block, the target of any form (codeAny_compLoop_tests asks a target that no tuple goes to; statement and proof follow it, PyProof/CompMap.lean:41-61, with the step letOwnedTupleGo kept) -/
theorem compLoop_any {prog : Program} {w : World} {A : Around} {R : Result → Shared → Prop} {s : Shared} {elt target iter : Expr} {ifs : List Expr} {scope : Scope} {pos : Pos} {it acc : Value} {env : Env} (I : Nat → Shared → Prop)
    (turn : ∀ n s, I n s → wpAny (model prog w) A (pyNext it) (fun r s₁ => match r with
      | none => R (.ok .next) s₁
      | some v => wpAny (model prog w) A (letOwnedTupleGo target it v) (fun _ s₁' => wpAny (model prog w) A (assign target env v) (fun _ s₂ =>
          wpAny (model prog w) A (forIn ifs true fun c r => if r = true then do let ok ← isTrue c env (eval c env); pure (ForInStep.yield ok) else pure (ForInStep.yield r)) (fun ok s₃ =>
            if ok = true then wpAny (model prog w) A (eval elt env) (fun x s₄ =>
              wpAny (model prog w) A (call (.builtin "list.append") [acc, x]) (fun _ s₅ => ∃ m, m < n ∧ I m s₅) (notedBy (model prog w) A env fun e s' => R (.error e) s') s₄) (notedBy (model prog w) A env fun e s' => R (.error e) s') s₃
            else ∃ m, m < n ∧ I m s₃) (notedBy (model prog w) A env fun e s' => R (.error e) s') s₂) (notedBy (model prog w) A env fun e s' => R (.error e) s') s₁') (notedBy (model prog w) A env fun e s' => R (.error e) s') s₁) (notedBy (model prog w) A env fun e s' => R (.error e) s') s)
    (n : Nat) (h : I n s) :
    codeAny (model prog w) A (.compLoop (.ListComp elt [⟨target, iter, ifs, 0⟩] scope pos) 0 it acc env) R s := by
  refine codeAny_loop rfl I (fun n s hI => ?_) n h
  show wpAny _ A ((compTurn (.ListComp elt [⟨target, iter, ifs, 0⟩] scope pos) 0 it acc env).onRaise (fun x => do noteFrame x env; theTreesLotGoes x)) _ _ s
  refine wpAny_noted ?_
  rw [compTurn_list]
  refine wpAny_bind (wpAny_standAt (wpAny_bind (wpAny_mono (turn n s hI) (fun r s₁ h₁ => ?_) fun _ _ h' => h')))
  cases r with
  | none => exact wpAny_pure h₁
  | some v =>
    refine wpAny_bind (wpAny_mono h₁ (fun _ s₁' h₁' => ?_) fun _ _ h' => h')
    refine wpAny_bind (wpAny_mono h₁' (fun _ s₂ h₂ => wpAny_bind (wpAny_mono h₂ (fun ok s₃ h₃ => ?_) fun _ _ h' => h')) fun _ _ h' => h')
    cases ok with
    | false => exact wpAny_pure ⟨rfl, h₃⟩
    | true =>
      exact wpAny_bind (wpAny_bind (wpAny_mono h₃ (fun x s₄ h₄ => wpAny_bind (wpAny_mono h₄ (fun _ s₅ h₅ => wpAny_pure (wpAny_pure ⟨rfl, h₅⟩)) fun _ _ h' => h')) fun _ _ h' => h'))

section
variable {X : Cx}
/-- [elt for target in iter if ..]: D the new list; W by the turn and a measure, Nx what a turn is to reach -/
def tLc (wi : TI) (g : TG) (tt : TT) (te : TE) (vs : List Nat) : TE := fun σ H Q => wi σ H fun J H1 => ∀ D, H1 D = none → ∃ W : Nat → Nat → Hp → Prop, (∃ m, W 0 m (upd H1 D (.lst []))) ∧ ∀ i m H, W i m H →
  (J.stop i H ∧ Q (.ref D) H) ∨ (J.go i H ∧ ∃ Nx : Hp → Prop, (∀ H', Nx H' → ∃ m', m' < m ∧ W (i + 1) m' H') ∧ ∀ x H', J.yld i H x H' → g x (wipe σ vs) H' fun σ2 H2 => wipe σ2 vs = wipe σ vs ∧ tt σ2 H2 fun b H3 =>
    if b = true then te σ2 H3 fun y H4 => ∃ acc, H4 D = some (.lst acc) ∧ acc.length < sizeLine ∧ Nx (upd H4 D (.lst (acc ++ [y]))) else Nx H3)
theorem lc_core {pins : List (Addr × Obj)} {s : Shared} {σ : St} {H : Hp} {Q : VK} {elt tg iter : Expr} {ifs : List Expr} {scope : Scope} {own : List (Str × Nat)} {pos pos' : Pos} {wi : TI} {g : TG} {tt : TT} {te : TE} {use : Option (Value → Sem Unit)} {Qf : Value → Shared → Prop}
    (hc : X.calm = true) (hN : X.N.Nodup) (I : Inv X pins σ H s) (hi : PI X tg iter wi) (ok : BlkOk X.N X.env.scope scope own)
    (hg : ∀ (s : Shared) (H : Hp) (C : Addr) (cl : List (Str × Addr)) (fp : List Addr), PG (X.blk s H scope (compEnvC scope cl C X.env) fp) tg g) (ht : ∀ (s : Shared) (H : Hp) (C : Addr) (cl : List (Str × Addr)) (fp : List Addr), PTs (X.blk s H scope (compEnvC scope cl C X.env) fp) ifs tt)
    (he : ∀ (s : Shared) (H : Hp) (C : Addr) (cl : List (Str × Addr)) (fp : List Addr), PE (X.blk s H scope (compEnvC scope cl C X.env) fp) elt te) (hs : ∀ x, foldedSetIterable iter X.env x = pure x)
    (h : tLc wi g tt te (own.map (·.2)) σ H Q)
    (hRR : ∀ D C s' m H', Inv X pins σ H' s' → Q (.ref D) H' → s'.heap.Ns C m → FpOk X pins H' C → compPost (model X.prog X.w) X.A X.xe use Qf (.ref D) C (.ok .next) s') :
    wpAny (model X.prog X.w) X.A (comprehension (.ListComp elt [⟨tg, iter, ifs, 0⟩] scope pos) scope X.env pos' (newList []) false (eval iter X.env) use) Qf X.xe s := by
  have hfree : ∀ y ∈ scope.names, y.2 = .free → ∃ c, X.env.cells.lookup y.1 = some c := fun y hy e => by
    rcases ok.free y hy e with k | k
    · exact I.ok.has _ (.inl k)
    · exact I.ok.has _ (.inr k)
  refine wpAny_comprehension_free (use := use) rfl hs (closure_ok hfree) ok.kind (fun y hy e => by rw [ok.uniq y hy, e])
    (thn (hi pins s σ H _ I h) fun xv s1 hx => thn hx fun itv s2 h2 => ?_)
  obtain ⟨it, fp, tn, J, H2, e, I2, T, st2, f2, q⟩ := h2
  subst e
  refine wpAny_newObj_type (newEnv_comp ?_) (by show 0 ≤ sizeLine; decide)
  generalize hD : s2.heap.objs.size = D
  have hDn : H2 D = none := I2.hok.fresh (Nat.le_of_eq hD)
  obtain ⟨W, ⟨m0, w0⟩, turn⟩ := q D hDn
  -- the new list
  generalize hs3 : ({ s2 with heap := s2.heap.push { cls := .type "list", data := .seq ([] : List Value).toArray } } : Shared) = s3
  have I3 : Inv X pins σ (upd H2 D (.lst [])) s3 := by
    rw [← hs3]
    refine I2.laid (t' := s2.toks) (fun b o e => Heap.get?_push_of_some _ e) (Nat.le_of_eq hD) ⟨Nat.zero_le _, [], 0, .nil, ?_⟩
    rw [← hD]
    exact Heap.get?_push_size _ rfl
  have h3 : s3.heap = s2.heap.push { cls := .type "list", data := .seq ([] : List Value).toArray } := by rw [← hs3]
  have sz : ∀ b ∈ fp, b < s2.heap.objs.size := fun b hb => by
    obtain ⟨o, e, _⟩ := T.obj _ _ st2 b hb
    exact Heap.lt_size e
  have f3 : ∀ b ∈ fp, FpOk X pins (upd H2 D (.lst [])) b ∧ b < s3.heap.objs.size := fun b hb => by
    have hlt := sz b hb
    refine ⟨⟨?_, (f2 b hb).2⟩, by rw [h3, Heap.size_push]; exact Nat.lt_succ_of_lt hlt⟩
    rw [upd_ne (by rw [← hD]; exact Nat.ne_of_lt hlt)]
    exact (f2 b hb).1
  have st3 : tn 0 s3.heap := T.keep _ _ _ st2 fun b _ o e => by rw [h3]; exact Heap.get?_push_of_some _ e
  have I4 := block_start I3 ok hN f3
  have pg := hg s3 (upd H2 D (.lst [])) s3.heap.objs.size (cellsFrom (s3.heap.objs.size + 1) scope.names (cloFrom X.env.cells scope.names [])) fp
  have pt := ht s3 (upd H2 D (.lst [])) s3.heap.objs.size (cellsFrom (s3.heap.objs.size + 1) scope.names (cloFrom X.env.cells scope.names [])) fp
  have pe := he s3 (upd H2 D (.lst [])) s3.heap.objs.size (cellsFrom (s3.heap.objs.size + 1) scope.names (cloFrom X.env.cells scope.names [])) fp
  show codeAny _ _ (.compStart (.ListComp elt [⟨tg, iter, ifs, 0⟩] scope pos) 0 (.ref it) (.ref D) (compEnvC scope (cellsFrom (s3.heap.objs.size + 1) scope.names (cloFrom X.env.cells scope.names [])) s3.heap.objs.size X.env)) (compPost (model X.prog X.w) X.A X.xe use Qf (.ref D) s3.heap.objs.size) { s3 with heap := pushCells (s3.heap.push { cls := .type "dict", data := .dict #[] }) scope.names }
  have nfp : ∀ b ∈ fp, (upd H2 D (.lst [])) b = none := fun b hb => (f3 b hb).1.1
  generalize hce : compEnvC scope (cellsFrom (s3.heap.objs.size + 1) scope.names (cloFrom X.env.cells scope.names [])) s3.heap.objs.size X.env = ce at I4 pg pt pe ⊢
  have cL : ce.locals = s3.heap.objs.size := by subst hce; rfl
  generalize hH3 : upd H2 D (.lst []) = H3 at I3 I4 pg pt pe w0 nfp f3
  generalize hs4 : ({ s3 with heap := pushCells (s3.heap.push { cls := .type "dict", data := .dict #[] }) scope.names } : Shared) = s4 at I4 ⊢
  have st4 : tn 0 s4.heap := T.keep _ _ _ st3 fun b _ o e => by rw [← hs4]; exact pushCells_keeps _ _ _ _ (Heap.get?_push_of_some _ e)
  have stat : ∀ {σ' : St} {H' : Hp} {s' : Shared}, Inv (X.blk s3 H3 scope ce fp) [] σ' H' s' → (∀ b ∈ fp, H' b = none) → ∀ b ∈ fp, FpOk (X.blk s3 H3 scope ce fp) [] H' b := fun {σ' H' s'} I' hn b hb =>
    ⟨hn b hb, (I'.ok.exf b hb).1, I'.ok.exfs b hb, .inl hb, fun x c e => (I'.ok.exf b hb).2 x c e, fun p hp => absurd (show p ∈ ([] : List (Addr × Obj)) ++ [] from hp) (by simp)⟩
  have loop : codeAny (model X.prog X.w) X.A (.compLoop (.ListComp elt [⟨tg, iter, ifs, 0⟩] scope pos) 0 (.ref it) (.ref D) ce) (compPost (model X.prog X.w) X.A X.xe use Qf (.ref D) s3.heap.objs.size) s4 := by
    refine compLoop_any (fun n s' => ∃ i H', Inv (X.blk s3 H3 scope ce fp) [] (wipe σ (own.map (·.2))) H' s' ∧ tn i s'.heap ∧ (∀ b ∈ fp, H' b = none) ∧ W i n H') ?_ m0 ⟨0, H3, I4, st4, nfp, w0⟩
    rintro n s5 ⟨i, H5, I5, st5, n5, w5⟩
    rcases turn i n H5 w5 with ⟨stop, qq⟩ | ⟨go, Nx, hNx, step⟩
    · have td := T.done (X.blk s3 H3 scope ce fp) rfl rfl rfl hc i [] s5 _ H5 (fun _ _ => False) I5 (stat I5 n5) st5 stop
      refine thnF td fun r s6 ⟨hr, I6⟩ => ?_
      subst hr
      -- back in the def's context
      have I7 : Inv X pins σ H5 s6 := I3.call' (ch := fp) I6.os I6.base I6.hok I6.bare fun b hb => ⟨(f3 b hb).1.2.2.2.1, (f3 b hb).1.2.1, (f3 b hb).1.2.2.2.2.1, (f3 b hb).1.2.2.2.2.2⟩
      have nC : H5 s3.heap.objs.size = none := by
        have z : H5 ce.locals = none := I6.free
        rw [cL] at z
        exact z
      obtain ⟨m, hn, _⟩ := I6.loc
      have hn : s6.heap.Ns ce.locals m := hn
      rw [cL] at hn
      exact hRR D s3.heap.objs.size s6 m H5 I7 qq hn (I3.fpOk (Nat.le_refl _) nC)
    · have ti := T.item (X.blk s3 H3 scope ce fp) rfl rfl rfl hc i [] s5 _ H5 (fun _ _ => False) I5 (stat I5 n5) st5 go
      refine thnF ti fun r s6 ⟨u, hr, h6⟩ => ?_
      subst hr
      refine thnF h6 fun _ s7 ⟨x, H7, I7, r7, y7, st7, n7⟩ => ?_
      have I7' := I7.pinned (stat I7 n7) (T.obj _ _ st7)
      refine thnF (pg _ s7 _ H7 x u _ I7' r7 (step x H7 y7)) fun _ s8 ⟨σ8, H8, I8, hw8, q8⟩ => ?_
      refine thnF (pt _ s8 σ8 H8 _ I8 q8) fun b s9 ⟨H9, I9, q9⟩ => ?_
      -- the turn's end
      have fin : ∀ {s' : Shared} {H' : Hp}, Inv (X.blk s3 H3 scope ce fp) ([] ++ pinsAt fp s7.heap) σ8 H' s' → Nx H' → ∃ m, m < n ∧ ∃ i H', Inv (X.blk s3 H3 scope ce fp) [] (wipe σ (own.map (·.2))) H' s' ∧ tn i s'.heap ∧ (∀ b ∈ fp, H' b = none) ∧ W i m H' := fun {s' H'} I' nx => by
        obtain ⟨m', hm, w'⟩ := hNx H' nx
        have pin' : ∀ b ∈ fp, ∀ o, s7.heap.get? b = some o → s'.heap.get? b = some o ∧ H' b = none := fun b hb o e =>
          let z := I'.pin (b, o) (List.mem_append_right _ (List.mem_append_right _ (mem_pinsAt hb e)))
          ⟨z.1, z.2.1⟩
        have hl : (wipe σ (own.map (·.2))).length = σ8.length := by rw [← hw8, wipe_length]
        refine ⟨m', hm, i + 1, H', (I'.unpinned (pins := [])).weak hl (fun j v e => ?_), T.keep _ _ _ st7 fun b hb o e => (pin' b hb o e).1, fun b hb => ?_, w'⟩
        · rw [← hw8] at e
          exact (wipe_some e).1
        · obtain ⟨o, e, _⟩ := T.obj _ _ st7 b hb
          exact (pin' b hb o e).2
      cases b with
      | false =>
        simp only [Bool.false_eq_true, if_false] at q9 ⊢
        exact fin I9 q9
      | true =>
        simp only [if_true] at q9 ⊢
        refine thnF (pe _ s9 σ8 H9 _ I9 q9) fun z s10 ⟨yv, H10, I10, r10, acc, hD10, hz10, nx⟩ => ?_
        exact app_ok (X := X.blk s3 H3 scope ce fp) I10 hD10 hz10 r10 fun s11 I11 => fin I11 nx
  exact codeAny_compStart_list loop (T.self X.A 0 _ _ _ st4 loop)
/-- as a value -/
theorem pe_lc {elt tg iter : Expr} {ifs : List Expr} {scope : Scope} {own : List (Str × Nat)} {pos : Pos} {wi : TI} {g : TG} {tt : TT} {te : TE} (hc : X.calm = true) (hN : X.N.Nodup) (hi : PI X tg iter wi) (ok : BlkOk X.N X.env.scope scope own)
    (hg : ∀ (s : Shared) (H : Hp) (C : Addr) (cl : List (Str × Addr)) (fp : List Addr), PG (X.blk s H scope (compEnvC scope cl C X.env) fp) tg g) (ht : ∀ (s : Shared) (H : Hp) (C : Addr) (cl : List (Str × Addr)) (fp : List Addr), PTs (X.blk s H scope (compEnvC scope cl C X.env) fp) ifs tt)
    (he : ∀ (s : Shared) (H : Hp) (C : Addr) (cl : List (Str × Addr)) (fp : List Addr), PE (X.blk s H scope (compEnvC scope cl C X.env) fp) elt te) (hs : ∀ x, foldedSetIterable iter X.env x = pure x := by intro _; rfl) :
    PE X (.ListComp elt [⟨tg, iter, ifs, 0⟩] scope pos) (tLc wi g tt te (own.map (·.2))) := by
  intro pins s σ H Q I h
  rw [eval_ListComp]
  refine lc_core hc hN I hi ok hg ht he hs h fun D C s' m H' I' q hn f => ⟨m, hn, fun h'' sb => ?_⟩
  obtain ⟨f0, f1, f2, f3, f4, f5⟩ := f
  exact ⟨.ref D, H', I'.turned (t' := s'.toks) (fun b o hb e => (sb.2 b hb).trans e) f0 f1 f3 f4 f5, rfl, q⟩
/-- name = [..] on one line, the name a local -/
theorem ps_setLc {i : Nat} {y : Str} {py : Pos} {elt tg iter : Expr} {ifs : List Expr} {scope : Scope} {own : List (Str × Nat)} {pos spos : Pos} {wi : TI} {g : TG} {tt : TT} {te : TE} (hc : X.calm = true) (hN : X.N.Nodup) (hy : X.N[i]? = some y) (hyl : X.env.scope.names.lookup y = some .local)
    (hsw : swapsWith (.ListComp elt [⟨tg, iter, ifs, 0⟩] scope pos) (some (.Name y py)) spos.line X.env = pure true) (hi : PI X tg iter wi) (ok : BlkOk X.N X.env.scope scope own)
    (hg : ∀ (s : Shared) (H : Hp) (C : Addr) (cl : List (Str × Addr)) (fp : List Addr), PG (X.blk s H scope (compEnvC scope cl C X.env) fp) tg g) (ht : ∀ (s : Shared) (H : Hp) (C : Addr) (cl : List (Str × Addr)) (fp : List Addr), PTs (X.blk s H scope (compEnvC scope cl C X.env) fp) ifs tt)
    (he : ∀ (s : Shared) (H : Hp) (C : Addr) (cl : List (Str × Addr)) (fp : List Addr), PE (X.blk s H scope (compEnvC scope cl C X.env) fp) elt te) (hs : ∀ x, foldedSetIterable iter X.env x = pure x := by intro _; rfl) :
    PS X (.Assign [.Name y py] (.ListComp elt [⟨tg, iter, ifs, 0⟩] scope pos) spos) (tAsg (tLc wi g tt te (own.map (·.2))) (gName i)) := by
  intro pins s σ H D I h
  rw [exec_Assign_Name_used _ _ _ _ hsw]
  refine wpAny_bind (wpAny_standAt (wpAny_bind ?_))
  show wpAny _ X.A (do let _ ← comprehension (.ListComp elt [⟨tg, iter, ifs, 0⟩] scope pos) scope X.env (firstIterPos [⟨tg, iter, ifs, 0⟩] pos) (newList []) false (eval iter X.env) (some (assign (.Name y py) X.env))) _ _ s
  have h : tLc wi g tt te (own.map (·.2)) σ H (fun x H1 => gName i x σ H1 D.nx) := h
  refine wpAny_bind (thn (lc_core (Qf := fun _ s' => SP X pins D .next s') hc hN I hi ok hg ht he hs h fun L C s' m H' I' q hn f => ?_) fun _ s' hq => wpAny_pure (wpAny_pure hq))
  show wpAny _ _ (assign (.Name y py) X.env (.ref L)) _ _ _
  refine wpAny_assign_Name (store_ok2 (v := V.ref L) I' hN hy (.inl hyl) rfl (fun s2 I2 ⟨a, sb, ha⟩ => ?_) (.inr hyl))
  obtain ⟨f0, f1, f2, f3, f4, f5⟩ := f
  have haC : C ≠ a := by
    rcases ha with z | z
    · rw [z]; exact f1
    · exact fun e => f4 y a z e.symm
  refine ⟨m, hn.sameBut sb haC, fun h3 sb3 => ?_⟩
  exact ⟨_, H', I2.turned (t' := s2.toks) (fun b o hb e => (sb3.2 b hb).trans e) f0 f1 f3 f4 f5, q⟩
theorem sw_true {elt : Expr} {gs : List Comprehension} {scope : Scope} {pos py : Pos} {y : Str} {l : Nat} {env : Env} (hk : env.scope.kind = .function) (hy : env.scope.names.lookup y = some .local) (hl : (py.line == pos.line) = true)
    (ha : (scope.names.any fun (n, k) => n == y && (k == .local || k == .cell)) = false) : swapsWith (.ListComp elt gs scope pos) (some (.Name y py)) l env = pure true := by
  have ky : env.kindOf y = some .local := hy
  have hb : env.blockKind = .function := by unfold Env.blockKind; rw [hk]; rfl
  unfold swapsWith
  simp only [hb, ky, ha, Expr.pos, hl]
  rfl
end

/-! ### the forms one uses -/
/-- over a list that the block leaves as it is -/
theorem lc_list {K : PySem.W.Frag} {a : Addr} {xs : List V} {g : TG} {tt : TT} {te : TE} {vs : List Nat} {σ : St} {H1 : Hp} {D : Addr} {Qd : Hp → Prop} (Pv : Nat → Hp → Prop) (h0 : Pv 0 (upd H1 D (.lst []))) (hl : ∀ i H, i ≤ xs.length → Pv i H → SqL K H a xs)
    (hs : ∀ i x H, xs[i]? = some x → Pv i H → g x (wipe σ vs) H fun σ2 H2 => wipe σ2 vs = wipe σ vs ∧ tt σ2 H2 fun b H3 =>
      if b = true then te σ2 H3 fun y H4 => ∃ acc, H4 D = some (.lst acc) ∧ acc.length < sizeLine ∧ Pv (i + 1) (upd H4 D (.lst (acc ++ [y]))) else Pv (i + 1) H3) (hd : ∀ H, Pv xs.length H → Qd H) :
    ∃ W : Nat → Nat → Hp → Prop, (∃ m, W 0 m (upd H1 D (.lst []))) ∧ ∀ i m H, W i m H →
      ((Itl K a).stop i H ∧ Qd H) ∨ ((Itl K a).go i H ∧ ∃ Nx : Hp → Prop, (∀ H', Nx H' → ∃ m', m' < m ∧ W (i + 1) m' H') ∧ ∀ x H', (Itl K a).yld i H x H' → g x (wipe σ vs) H' fun σ2 H2 => wipe σ2 vs = wipe σ vs ∧ tt σ2 H2 fun b H3 =>
        if b = true then te σ2 H3 fun y H4 => ∃ acc, H4 D = some (.lst acc) ∧ acc.length < sizeLine ∧ Nx (upd H4 D (.lst (acc ++ [y]))) else Nx H3) := by
  refine ⟨fun i m H => m = xs.length - i ∧ i ≤ xs.length ∧ Pv i H, ⟨xs.length, by simp, Nat.zero_le _, h0⟩, ?_⟩
  rintro i m H ⟨rfl, hi, p⟩
  have q := hl i H hi p
  by_cases hlt : i < xs.length
  · refine .inr ⟨⟨xs, xs[i], q, by simp [hlt]⟩, Pv (i + 1), fun H' p' => ⟨xs.length - (i + 1), by omega, rfl, hlt, p'⟩, fun x H' y => ?_⟩
    obtain ⟨e, y⟩ := y
    subst e
    exact hs i x _ (y xs q) p
  · have e : i = xs.length := by omega
    subst e
    exact .inl ⟨⟨xs, q, Nat.le_refl _⟩, hd H p⟩
def blkC (N : List Str) (sc scope : Scope) (own : List (Str × Nat)) : Bool :=
  (match scope.kind with | .function => true | _ => false) && (scope.names.all fun y => decide (scope.names.lookup y.1 = some y.2)) && (own.all fun p => decide (N[p.2]? = some p.1)) &&
    (scope.names.all fun y => match y.2 with
      | .free => (match sc.names.lookup y.1 with | some .cell => true | some .free => true | _ => false)
      | .local => decide (y.1 ∈ own.map (·.1)) || decide (y.1 ∉ N)
      | .cell => decide (y.1 ∈ own.map (·.1)) || decide (y.1 ∉ N)
      | _ => true)
theorem blkOk_by {N : List Str} {sc scope : Scope} {own : List (Str × Nat)} (h : blkC N sc scope own = true) : BlkOk N sc scope own := by
  unfold blkC at h
  simp only [Bool.and_eq_true, List.all_eq_true, decide_eq_true_eq] at h
  obtain ⟨⟨⟨h1, h2⟩, h3⟩, h4⟩ := h
  refine ⟨?_, h2, h3, fun y hy e => ?_, fun y hy e => ?_⟩
  · split at h1
    · assumption
    · cases h1
  · have q := h4 y hy
    simp only [e] at q
    split at q <;> first | exact .inl (by assumption) | exact .inr (by assumption) | cases q
  · have q := h4 y hy
    rcases e with e | e <;> (simp only [e, Bool.or_eq_true, decide_eq_true_eq] at q; exact q)
end L2

namespace L2
open PySem PySem.Spec PyProof.Rows

section
variable {prog : Program} {w : World} {A : Around} {R : Result → Shared → Prop} {s : Shared} {elt t0 i0 t1 i1 : Expr} {ifs0 ifs1 : List Expr} {scope : Scope} {pos : Pos} {it acc : Value} {env : Env}
end

section
variable {X : Cx}
end
end L2

namespace L2
open PySem PySem.Spec PyProof.Rows

/-! ### lists of pairs as tables -/
section
variable {κ : Type} [DecidableEq κ]
def valV (kvs : List (κ × V)) (k : κ) : Option V := (kvs.find? fun kv => decide (kv.1 = k)).map (·.2)
/-- in its place, or at the end -/
def putK (kvs : List (κ × V)) (k : κ) (v : V) : List (κ × V) :=
  if (kvs.any fun kv => decide (kv.1 = k)) = true then kvs.map (fun kv => if kv.1 = k then (kv.1, v) else kv) else kvs ++ [(k, v)]
def dropK (kvs : List (κ × V)) (k : κ) : List (κ × V) := kvs.filter fun kv => decide (kv.1 ≠ k)

theorem valV_pos {p : κ × V} {r : List (κ × V)} {k : κ} (e : p.1 = k) : valV (p :: r) k = some p.2 := by simp [valV, List.find?_cons, e]
theorem valV_neg {p : κ × V} {r : List (κ × V)} {k : κ} (e : ¬ p.1 = k) : valV (p :: r) k = valV r k := by simp [valV, List.find?_cons, e]
theorem valV_any (k : κ) : ∀ kvs : List (κ × V), (kvs.any fun kv => decide (kv.1 = k)) = (valV kvs k).isSome
  | [] => rfl
  | p :: r => by
    rw [List.any_cons]
    by_cases e : p.1 = k
    · simp only [valV_pos e, decide_eq_true e, Bool.true_or, Option.isSome_some]
    · rw [valV_neg e, decide_eq_false e, Bool.false_or]; exact valV_any k r
theorem RelO.isSome_eq {o : Option V} {u : Option Value} (r : RelO o u) : o.isSome = u.isSome := by
  cases o with
  | none => cases u with
    | none => rfl
    | some _ => exact (show False from r).elim
  | some _ => cases u with
    | none => exact (show False from r).elim
    | some _ => rfl
theorem RelO.getD {o : Option V} {u : Option Value} {d : V} {d' : Value} (r : RelO o u) (rd : RelV d d') : RelV (o.getD d) (u.getD d') := by
  cases o with
  | none => cases u with
    | none => exact rd
    | some _ => exact (show False from r).elim
  | some _ => cases u with
    | none => exact (show False from r).elim
    | some _ => exact r

/-- raw tables of the same keys -/
theorem KV.val {kvs : List (κ × V)} {vs : List (κ × Value)} (r : KV kvs vs) (k : κ) : RelO (valV kvs k) (valueAt vs k) := by
  unfold KV at r
  induction r with
  | nil => exact True.intro
  | @cons p q ps qs h t ih =>
    obtain ⟨h1, h2⟩ := h
    by_cases e : p.1 = k
    · have e' : q.1 = k := h1.symm.trans e
      have b : valueAt (q :: qs) k = some q.2 := by simp [valueAt, List.find?_cons, e']
      rw [valV_pos e, b]; exact h2
    · have e' : ¬ q.1 = k := fun z => e (h1.trans z)
      have b : valueAt (q :: qs) k = valueAt qs k := by simp [valueAt, List.find?_cons, e']
      rw [valV_neg e, b]; exact ih
theorem KV.any {kvs : List (κ × V)} {vs : List (κ × Value)} (r : KV kvs vs) (k : κ) : (kvs.any fun kv => decide (kv.1 = k)) = vs.any fun kv => decide (kv.1 = k) := by
  unfold KV at r
  induction r with
  | nil => rfl
  | cons h t ih => rw [List.any_cons, List.any_cons, ih, h.1]
theorem KV.repl {kvs : List (κ × V)} {vs : List (κ × Value)} (r : KV kvs vs) (k : κ) {y : V} {u : Value} (ry : RelV y u) :
    KV (kvs.map fun kv => if kv.1 = k then (kv.1, y) else kv) (vs.map fun kv => if kv.1 = k then (kv.1, u) else kv) := by
  unfold KV at r ⊢
  induction r with
  | nil => exact .nil
  | @cons p q ps qs h t ih =>
    rw [List.map_cons, List.map_cons]
    refine .cons ?_ ih
    obtain ⟨h1, h2⟩ := h
    by_cases e : p.1 = k
    · rw [if_pos e, if_pos (h1.symm.trans e)]; exact ⟨h1, ry⟩
    · rw [if_neg e, if_neg (fun z => e (h1.trans z))]; exact ⟨h1, h2⟩
theorem KV.put {kvs : List (κ × V)} {vs : List (κ × Value)} (r : KV kvs vs) (k : κ) {y : V} {u : Value} (ry : RelV y u) : KV (putK kvs k y) (stored vs k u) := by
  unfold putK stored
  rw [r.any k]
  by_cases e : (vs.any fun kv => decide (kv.1 = k)) = true
  · rw [if_pos e, if_pos e]; exact r.repl k ry
  · rw [if_neg e, if_neg e]; exact Paired.snoc r ⟨rfl, ry⟩
theorem KV.drop {kvs : List (κ × V)} {vs : List (κ × Value)} (r : KV kvs vs) (k : κ) : KV (dropK kvs k) (without vs k) := by
  unfold KV at r ⊢
  unfold dropK without
  induction r with
  | nil => exact .nil
  | @cons p q ps qs h t ih =>
    obtain ⟨h1, h2⟩ := h
    rw [List.filter_cons, List.filter_cons]
    by_cases e : p.1 = k
    · have a : ¬ decide (p.1 ≠ k) = true := by simp [e]
      have b : ¬ decide (q.1 ≠ k) = true := by simp [h1.symm.trans e]
      rw [if_neg a, if_neg b]; exact ih
    · have e' : ¬ q.1 = k := fun z => e (h1.trans z)
      have a : decide (p.1 ≠ k) = true := by simp [e]
      have b : decide (q.1 ≠ k) = true := by simp [e']
      rw [if_pos a, if_pos b]; exact .cons ⟨h1, h2⟩ ih
theorem KV.keys {kvs : List (κ × V)} {vs : List (κ × Value)} (r : KV kvs vs) : kvs.map (·.1) = vs.map (·.1) := by
  unfold KV at r
  induction r with
  | nil => rfl
  | cons h t ih => rw [List.map_cons, List.map_cons, ih, h.1]
theorem KV.length {kvs : List (κ × V)} {vs : List (κ × Value)} (r : KV kvs vs) : kvs.length = vs.length := Paired.length r
end


/-! ### a tracked dict, its keys ints and texts or tuples of these -/
/-- raw entries of a dict with tuple keys -/
abbrev KT (H : Hp) : List (List Key × V) → List (List Key × Addr × Value) → Prop := Paired fun p q => p.1 = q.1 ∧ H q.2.1 = some (.tup (p.1.map kV)) ∧ RelV p.2 q.2.2
theorem KT.val {H : Hp} {kvs : List (List Key × V)} {xs : List (List Key × Addr × Value)} (r : KT H kvs xs) (k : List Key) : RelO (valV kvs k) ((atKey xs k).map (·.2)) := by
  induction r with
  | nil => exact True.intro
  | @cons p q ps qs h t ih =>
    obtain ⟨h1, _, h2⟩ := h
    by_cases e : p.1 = k
    · have e' : q.1 = k := h1.symm.trans e
      have b : atKey (q :: qs) k = some q.2 := by simp [atKey, List.find?_cons, e']
      rw [valV_pos e, b]; exact h2
    · have e' : ¬ q.1 = k := fun z => e (h1.trans z)
      have b : atKey (q :: qs) k = atKey qs k := by simp [atKey, List.find?_cons, e']
      rw [valV_neg e, b]; exact ih
theorem KT.repl {H : Hp} {kvs : List (List Key × V)} {xs : List (List Key × Addr × Value)} (r : KT H kvs xs) (k : List Key) {y : V} {u : Value} (ry : RelV y u) :
    KT H (kvs.map fun kv => if kv.1 = k then (kv.1, y) else kv) (xs.map (putAt k u)) := by
  induction r with
  | nil => exact .nil
  | @cons p q ps qs h t ih =>
    rw [List.map_cons, List.map_cons]
    refine .cons ?_ ih
    obtain ⟨h1, h2, h3⟩ := h
    unfold putAt
    by_cases e : p.1 = k
    · rw [if_pos e, if_pos (h1.symm.trans e)]; exact ⟨h1, h2, ry⟩
    · rw [if_neg e, if_neg (fun z => e (h1.trans z))]; exact ⟨h1, h2, h3⟩
theorem KT.put {H : Hp} {kvs : List (List Key × V)} {xs : List (List Key × Addr × Value)} (r : KT H kvs xs) (k : List Key) {b : Addr} {y : V} {u : Value} (hb : H b = some (.tup (k.map kV))) (ry : RelV y u) :
    KT H (putK kvs k y) (storedH xs k b u) := by
  have e : (kvs.any fun kv => decide (kv.1 = k)) = (atKey xs k).isSome := by
    rw [valV_any, (r.val k).isSome_eq, Option.isSome_map]
  unfold putK storedH
  rw [e]
  by_cases q : (atKey xs k).isSome = true
  · rw [if_pos q, if_pos q]; exact r.repl k ry
  · rw [if_neg q, if_neg q]; exact Paired.snoc r ⟨rfl, hb, ry⟩
theorem KT.keeps {H H' : Hp} {kvs : List (List Key × V)} {xs : List (List Key × Addr × Value)} (r : KT H kvs xs) (ht : ∀ b ys, H b = some (.tup ys) → H' b = some (.tup ys)) : KT H' kvs xs :=
  Paired.mapP r fun _ _ z => ⟨z.1, ht _ _ z.2.1, z.2.2⟩

section
variable {P : Program} {w : World} {H : Hp} {h : Heap} {a : Addr}
end

/-- what the dict at a holds at the key y -/
def DGet (H : Hp) (a : Addr) (y : V) (r : Option V) : Prop :=
  (∃ kvs k, Rd H a (.dK kvs) ∧ y = kV k ∧ r = valV kvs k) ∨ ∃ kvs k b, Rd H a (.dT kvs) ∧ y = .ref b ∧ H b = some (.tup (k.map kV)) ∧ r = valV kvs k
/-- the heap behind a[y] = v -/
def DPut (H : Hp) (a : Addr) (y v : V) (H' : Hp) : Prop :=
  (∃ kvs k, H a = some (.dK kvs) ∧ y = kV k ∧ kvs.length < sizeLine ∧ H' = upd H a (.dK (putK kvs k v))) ∨
  ∃ kvs k b, H a = some (.dT kvs) ∧ y = .ref b ∧ H b = some (.tup (k.map kV)) ∧ kvs.length < sizeLine ∧ H' = upd H a (.dT (putK kvs k v))
theorem DGet.k {H : Hp} {a : Addr} {kvs : List (Key × V)} {k : Key} (e : H a = some (.dK kvs)) : DGet H a (kV k) (valV kvs k) := .inl ⟨kvs, k, .inl e, rfl, rfl⟩
theorem DGet.t {H : Hp} {a b : Addr} {kvs : List (List Key × V)} {k : List Key} (e : H a = some (.dT kvs)) (eb : H b = some (.tup (k.map kV))) : DGet H a (.ref b) (valV kvs k) := .inr ⟨kvs, k, b, .inl e, rfl, eb, rfl⟩
theorem DPut.k {H : Hp} {a : Addr} {kvs : List (Key × V)} {k : Key} {v : V} (e : H a = some (.dK kvs)) (hl : kvs.length < sizeLine) : DPut H a (kV k) v (upd H a (.dK (putK kvs k v))) := .inl ⟨kvs, k, e, rfl, hl, rfl⟩
theorem DPut.t {H : Hp} {a b : Addr} {kvs : List (List Key × V)} {k : List Key} {v : V} (e : H a = some (.dT kvs)) (eb : H b = some (.tup (k.map kV))) (hl : kvs.length < sizeLine) :
    DPut H a (.ref b) v (upd H a (.dT (putK kvs k v))) := .inr ⟨kvs, k, b, e, rfl, eb, hl, rfl⟩


section
variable {X : Cx} {pins : List (Addr × Obj)} {σ : St} {H : Hp} {s : Shared} {a : Addr} {y v : V} {u r : Value} {o : Option V} {A : Around} {E : Value → Shared → Prop}

end

section
variable {X : Cx} {pins : List (Addr × Obj)} {σ : St} {H : Hp} {s : Shared} {a : Addr} {kvs : List (Key × V)} {k : Key} {u : Value} {A : Around} {E : Value → Shared → Prop}
end


/-! ### readings and rules -/
section
variable {X : Cx} {o i e value : Expr} {pos pos' tpos : Pos} {td ty tv : TE}
end


/-! ### displays -/
section
variable {X : Cx} {pos : Pos}
end

/-! ### methods -/
section
variable {X : Cx} {pins : List (Addr × Obj)} {σ : St} {H : Hp} {s : Shared} {a : Addr} {y d : V} {u r : Value} {o : Option V} {A : Around} {E : Value → Shared → Prop}
end

section
variable {X : Cx} {o e f : Expr} {apos cpos : Pos} {td ty tx : TE}
end

/-! ### dict(d): a copy -/
section
variable {X : Cx} {pins : List (Addr × Obj)} {σ : St} {H : Hp} {s : Shared} {a : Addr} {kvs : List (Key × V)} {A : Around} {E : Value → Shared → Prop}
end


section
variable {X : Cx} {pins : List (Addr × Obj)} {σ : St} {H : Hp} {s : Shared} {a : Addr} {y : V} {u : Value} {A : Around} {E : Value → Shared → Prop}
end
end L2

namespace L2
open PySem PySem.Spec PyProof.Rows

section
variable {prog : Program} {w : World} {A : Around} {E : Value → Shared → Prop}
end

section
variable {X : Cx}
end
end L2

namespace L2
open PySem PySem.Spec PyProof.Rows

section
variable {X : Cx} {pins : List (Addr × Obj)} {σ : St} {H : Hp} {s : Shared} {h' : Heap}
/-- several records of ours have turned -/
theorem Inv.turnedL {t' : Nat} {ch : List Addr} (I : Inv X pins σ H s) (k : ∀ b o, b ∉ ch → s.heap.get? b = some o → h'.get? b = some o) (hf : ∀ b ∈ ch, FpOk X pins H b) : Inv X pins σ H { s with heap := h', toks := t' } := by
  have nit : ∀ b u, H b = some u → b ∉ ch := fun b u e z => by
    have q := (hf b z).1
    rw [q] at e; cases e
  refine I.step (g' := s.gens) (d' := s.drawn) (ch := ch) (fun b hb => ⟨(hf b hb).2.2.2.1, (hf b hb).2.1, (hf b hb).2.2.2.2.1, (hf b hb).2.2.2.2.2⟩) (fun b o _ _ hc e _ => k b o hc e) (fun b o _ _ hc e _ => ⟨o.slots, k b o hc e⟩)
    (fun _ _ _ _ n => n) (fun b o hc e => ⟨o, k b o hc e⟩) (fun _ _ e => e) (fun _ _ _ e => e) (fun b ps e => ⟨#[], by rw [e]; simp⟩) (fun m hm => ?_) (fun b u e => ?_) I.bare
  · obtain ⟨o, es, ep, ho, r⟩ := hm
    exact ⟨o, es, ep, k _ o (fun z => (hf _ z).2.1 rfl) ho, r⟩
  · refine (I.hok b u e).stay (fun c v hc q => k c v ?_ q) (fun _ q => q) fun _ _ q => q
    rcases hc with z | z
    · rw [z]; exact nit b u e
    · exact nit c _ z
/-- .. and one new object is laid -/
theorem Inv.turnedNew {t' : Nat} {ch : List Addr} {T : Addr} {ob : HO} (I : Inv X pins σ H s) (k : ∀ b o, b ∉ ch → s.heap.get? b = some o → h'.get? b = some o) (hf : ∀ b ∈ ch, FpOk X pins H b) (hT : s.heap.objs.size ≤ T)
    (new : ObjOk X.prog X.w (upd H T ob) h' T ob) : Inv X pins σ (upd H T ob) { s with heap := h', toks := t' } := by
  have hn : H T = none := I.hok.fresh hT
  have nit : ∀ b u, H b = some u → b ∉ ch := fun b u e z => by
    have q := (hf b z).1
    rw [q] at e; cases e
  refine I.step (g' := s.gens) (d' := s.drawn) (ch := ch) (fun b hb => ⟨(hf b hb).2.2.2.1, (hf b hb).2.1, (hf b hb).2.2.2.2.1, (hf b hb).2.2.2.2.2⟩) (fun b o _ _ hc e _ => k b o hc e) (fun b o _ _ hc e _ => ⟨o.slots, k b o hc e⟩)
    (fun b o _ e n => ?_) (fun b o hc e => ⟨o, k b o hc e⟩) (fun b xs e => ?_) (fun b o u e => ?_) (fun b ps e => ⟨#[], ?_⟩) (fun m hm => ?_) (fun b u e => ?_) I.bare
  · rw [upd_ne (Nat.ne_of_lt (Nat.lt_of_lt_of_le (Heap.lt_size e) hT))]; exact n
  · rw [upd_ne (ne_of_none e hn)]; exact e
  · rw [upd_ne (ne_of_none e hn)]; exact e
  · rw [upd_ne (ne_of_none e hn), e]; simp
  · obtain ⟨o, es, ep, ho, r⟩ := hm
    exact ⟨o, es, ep, k _ o (fun z => (hf _ z).2.1 rfl) ho, r⟩
  · by_cases hb : b = T
    · subst hb
      rw [upd_same] at e
      cases e
      exact new
    · rw [upd_ne hb] at e
      refine (I.hok b u e).stay (fun c v hc q => k c v ?_ q) (fun c q => by rw [upd_ne (ne_of_none q hn)]; exact q) fun c xs q => by rw [upd_ne (ne_of_none q hn)]; exact q
      rcases hc with z | z
      · rw [z]; exact nit b u e
      · exact nit c _ z

/-! ### locking a thing while a statement runs -/
end
section
variable {X : Cx}
/-! ### one iterator just laid -/
end

/-! ### range with a step -/
/-- range(i, j, c): small bounds, n items -/
def RgC (i j c : Int) (n : Nat) : Prop := c ≠ 0 ∧ c.natAbs < 1073741824 ∧ Builtin.Range.small i j c = true ∧ Builtin.Range.rangeSize i j c = n
theorem RgC.neg {i j : Int} (ha : -(2 ^ 62) ≤ i) (ha' : i < 2 ^ 62) (hb : -(2 ^ 62) ≤ j) (hb' : j < 2 ^ 62) : RgC i j (-1) (i - j).toNat :=
  ⟨by decide, by decide, PySem.W.small_down ha ha' hb hb', PySem.W.rangeSize_downNat i j⟩
section
variable {X : Cx} {tg : Expr}
end
/-! ### reversed(list) -/
section
variable {X : Cx} {tg : Expr}
end

/-! ### a str -/
/-! ### a dict's keys: any dict's entries -/
section
variable {prog : Program} {w : World} {A : Around} {E : Value → Shared → Prop} {s : Shared}
end

/-! ### a locked dict -/
section
variable {X : Cx} {pins : List (Addr × Obj)} {σ : St} {H : Hp} {s : Shared} {d : Addr} {o : Obj}
end

section
variable {P : Program} {w : World} {K : PySem.W.Frag} {tg : Expr} {d : Addr} {o : Obj} {es : Array DictEntry} {ep : Nat}
end

/-! ### for k in d, d.keys(), d.values(), d.items() -/
section
variable {X : Cx} {tg e : Expr} {td : TE} {apos cpos : Pos}
end

/-! ### enumerate(list) -/
/-- the list at a as it stands at each turn, each item in a new pair -/
def Ite (K : PySem.W.Frag) (a : Addr) : It :=
  ⟨fun i H => ∃ (xs : List V) (x : V), SqL K H a xs ∧ xs[i]? = some x, fun i H v H' => ∃ T x, v = .ref T ∧ H T = none ∧ H' = upd H T (.tup [.int (i : Nat), x]) ∧ ∀ xs, SqL K H a xs → xs[i]? = some x, fun i H => ∃ xs : List V, SqL K H a xs ∧ xs.length ≤ i⟩
theorem turn_enum {P : Program} {w : World} {K : PySem.W.Frag} {elts : List Expr} {kk : Nat} {tpos : Pos} (a e it : Addr) :
    Turn P w K (.Tuple elts kk tpos) (Ite K a) [e, it] e (fun i h => (∃ old, IsEnum h e it ((i : Nat) : Int) old) ∧ h.IsListIter it a i ∧ e ≠ it) where
  mem := by simp
  obj := fun i h st b hb => by
    obtain ⟨⟨old, he⟩, ⟨o, ho, hc, hd⟩, _⟩ := st
    have e' : b = e ∨ b = it := by simpa using hb
    rcases e' with z | z
    · rw [z]; exact ⟨_, he, fun v q => nomatch q⟩
    · rw [z]; exact ⟨o, ho, fun v q => by rw [hd] at q; cases q⟩
  keep := fun i h h' st k => let ⟨⟨old, he⟩, hi, hne⟩ := st; ⟨⟨old, k e (by simp) _ he⟩, hi.at fun o q => k it (by simp) o q, hne⟩
  item := by
    intro X hP hw hK hc i pins s σ H E I hf st hg
    subst hP hw hK
    obtain ⟨⟨old, he⟩, hit, hne⟩ := st
    obtain ⟨xs, x, hq, hx⟩ := hg
    obtain ⟨its, rv, p, hz⟩ := I.list hq
    obtain ⟨u, hu, ru⟩ := rv.get hx
    have hel : e < s.heap.objs.size := Heap.lt_size he
    have hil : it < s.heap.objs.size := by obtain ⟨_, q, _⟩ := hit; exact Heap.lt_size q
    refine wpAny_pyNext_enum_item he hit p.isList (x := u) (by simpa using hu) hne fun h' ho hit' hT hsz hk => ?_
    refine ⟨_, rfl, wpAny_letOwnedTupleGo_enum (s := { s with heap := h', toks := s.toks + 1 }) ho fun h'' he' sb => ?_⟩
    have hT2 : h''.get? s.heap.objs.size = some { cls := .type "tuple", data := .seq #[.int i s.toks, u] } := (sb.2 _ (Nat.ne_of_gt hel)).trans hT
    have new : ObjOk X.prog X.w (upd H s.heap.objs.size (.tup [.int (i : Nat), x])) h'' s.heap.objs.size (.tup [.int (i : Nat), x]) :=
      ⟨by show 2 ≤ sizeLine; decide, [.int i s.toks, u], .cons ⟨_, rfl⟩ (.cons ru .nil), ⟨_, hT2, rfl, _, rfl⟩⟩
    have I1 : Inv X pins σ (upd H s.heap.objs.size (.tup [.int (i : Nat), x])) { s with heap := h'', toks := s.toks + 1 } :=
      I.turnedNew (ch := [e, it]) (fun b ob hb q => (sb.2 b (fun z => hb (by simp [z]))).trans (hk b ob (fun z => hb (by simp [z])) (fun z => hb (by simp [z])) q)) hf (Nat.le_refl _) new
    refine ⟨.ref s.heap.objs.size, _, I1, rfl, ⟨_, x, rfl, I.hok.fresh (Nat.le_refl _), rfl, fun ys hy => by rw [I.list_inj hy hq]; exact hx⟩, ⟨⟨u, ?_⟩, hit'.at fun o q => (sb.2 it (Ne.symm hne)).trans q, hne⟩, fun b hb => ?_⟩
    · have e1 : ((i + 1 : Nat) : Int) = (i : Int) + 1 := by omega
      rw [e1]; exact he'
    · have hb' : b < s.heap.objs.size := by
        have e' : b = e ∨ b = it := by simpa using hb
        rcases e' with z | z
        · rw [z]; exact hel
        · rw [z]; exact hil
      rw [upd_ne (Nat.ne_of_lt hb')]
      exact (hf b hb).1
  done := by
    intro X hP hw hK hc i pins s σ H E I hf st hg
    subst hP hw hK
    obtain ⟨⟨old, he⟩, hit, hne⟩ := st
    obtain ⟨xs, hq, hx⟩ := hg
    obtain ⟨its, rv, p, hz⟩ := I.list hq
    obtain ⟨f0, f1, f2, f3, f4, f5⟩ := hf it (by simp)
    have hl := rv.length
    exact wpAny_pyNext_enum_end (I.ok.hd hc) he hit p.isList (by simp; omega) fun h' eb => ⟨rfl, I.turned (t' := s.toks) (fun b o hb q => eb b o hb q) f0 f1 f3 f4 f5⟩
  self := fun A i s Q E st h => let ⟨⟨_, he⟩, _⟩ := st; wpAny_pyIter_enum he h
def iEnum (K : PySem.W.Frag) (ta : TA) : TI := fun σ H R => ta σ H fun vs H1 => ∃ a xs, vs = [.ref a] ∧ SqL K H1 a xs ∧ R (Ite K a) H1
theorem pi_enum {X : Cx} {e : Expr} {ta : TA} {p pos tpos : Pos} {elts : List Expr} {kk : Nat} (hg : Gl X "enumerate") (hm : X.mg "enumerate" = none) (ha : PA X [e] ta) (hs : starEach [e] X.env = [(false, eval e X.env)] := by rfl) :
    PI X (.Tuple elts kk tpos) (.Call (.Name "enumerate" p) [e] [] pos) (iEnum X.K ta) := by
  intro pins s σ H R I h
  refine Call_ (ld_blt I hg hm boot_enumerate (PyProof.Rows.callWith_type1 (thn (ha pos pins s σ H _ I h) fun us s1 ⟨vs, H1, I1, r1, q1⟩ => ?_) hs rfl))
  obtain ⟨a, xs, ex, hq, q⟩ := q1
  subst ex
  cases r1 with
  | cons r rr =>
    cases rr
    cases r
    obtain ⟨its, rv, p', hz⟩ := I1.list hq
    refine call_enumerate_list p'.isList fun h' he hit hsz hk => wpAny_pyIter_enum he ?_
    have I2 : Inv X pins σ H1 { s1 with heap := h' } := I1.kept (t' := s1.toks) hk
    refine ⟨s1.heap.objs.size + 1, [s1.heap.objs.size + 1, s1.heap.objs.size], _, _, H1, rfl, I2, turn_enum a (s1.heap.objs.size + 1) s1.heap.objs.size, ⟨⟨.none, he⟩, hit, Nat.succ_ne_self _⟩, fun b hb => ?_, q⟩
    have e' : b = s1.heap.objs.size + 1 ∨ b = s1.heap.objs.size := by simpa using hb
    have hle : s1.heap.objs.size ≤ b := by
      rcases e' with z | z
      · rw [z]; exact Nat.le_add_right _ _
      · rw [z]; exact Nat.le_refl _
    exact I1.fpOk hle (I1.hok.fresh hle)
/-! ### zip(list, list) -/
theorem boot_zip5 : bootBuiltins "zip" = some (.type "zip") := by decide +kernel
/-- the lists at a and b as they stand at each turn, the items in new pairs -/
def Itz (K : PySem.W.Frag) (a b : Addr) : It :=
  ⟨fun i H => ∃ (xs ys : List V) (x y : V), SqL K H a xs ∧ SqL K H b ys ∧ xs[i]? = some x ∧ ys[i]? = some y,
    fun i H v H' => ∃ T x y, v = .ref T ∧ H T = none ∧ H' = upd H T (.tup [x, y]) ∧ (∀ xs, SqL K H a xs → xs[i]? = some x) ∧ ∀ ys, SqL K H b ys → ys[i]? = some y,
    fun i H => ∃ xs ys : List V, SqL K H a xs ∧ SqL K H b ys ∧ (xs.length ≤ i ∨ ys.length ≤ i)⟩
theorem turn_zip {P : Program} {w : World} {K : PySem.W.Frag} {elts : List Expr} {kk : Nat} {tpos : Pos} {a b z TI TO i1 i2 : Addr} (D : ZipApart z TI TO i1 i2 a b) :
    Turn P w K (.Tuple elts kk tpos) (Itz K a b) [z, TI, TO, i1, i2] z (fun i h => IsZip h z TI TO .none ∧ IsPair h TI (.ref i1) (.ref i2) ∧ (∃ x y, IsPair h TO x y) ∧ h.IsListIter i1 a i ∧ h.IsListIter i2 b i) where
  mem := by simp
  obj := fun i h st c hc => by
    obtain ⟨hz, hTI, ⟨x, y, hTO⟩, ⟨o1, e1, _, d1⟩, ⟨o2, e2, _, d2⟩⟩ := st
    have e' : c = z ∨ c = TI ∨ c = TO ∨ c = i1 ∨ c = i2 := by simpa using hc
    rcases e' with q | q | q | q | q
    · rw [q]; exact ⟨_, hz, fun v q => nomatch q⟩
    · rw [q]; exact ⟨_, hTI, fun v q => nomatch q⟩
    · rw [q]; exact ⟨_, hTO, fun v q => nomatch q⟩
    · rw [q]; exact ⟨o1, e1, fun v q => by rw [d1] at q; cases q⟩
    · rw [q]; exact ⟨o2, e2, fun v q => by rw [d2] at q; cases q⟩
  keep := fun i h h' st k => by
    obtain ⟨hz, hTI, ⟨x, y, hTO⟩, h1, h2⟩ := st
    exact ⟨k z (by simp) _ hz, k TI (by simp) _ hTI, ⟨x, y, k TO (by simp) _ hTO⟩, h1.at fun o q => k i1 (by simp) o q, h2.at fun o q => k i2 (by simp) o q⟩
  item := by
    intro X hP hw hK hc i pins s σ H E I hf st hg
    subst hP hw hK
    obtain ⟨hz, hTI, ⟨x0, y0, hTO⟩, h1, h2⟩ := st
    obtain ⟨xs, ys, x, y, hqx, hqy, hx, hy⟩ := hg
    obtain ⟨its, rv, p, _⟩ := I.list hqx
    obtain ⟨its2, rv2, p2, _⟩ := I.list hqy
    obtain ⟨u, hu, ru⟩ := rv.get hx
    obtain ⟨u2, hu2, ru2⟩ := rv2.get hy
    have hzl : z < s.heap.objs.size := Heap.lt_size hz
    refine wpAny_pyNext_zip_item D hz hTI hTO h1 h2 p.isList p2.isList (x := u) (y := u2) (by simpa using hu) (by simpa using hu2) fun h' z' TO' h1' h2' hT hsz hk => ?_
    refine ⟨_, rfl, wpAny_letOwnedTupleGo_zip (s := { s with heap := h' }) z' fun h'' z'' sb => ?_⟩
    have hT2 : h''.get? s.heap.objs.size = some { cls := .type "tuple", data := .seq #[u, u2] } := (sb.2 _ (Nat.ne_of_gt hzl)).trans hT
    have new : ObjOk X.prog X.w (upd H s.heap.objs.size (.tup [x, y])) h'' s.heap.objs.size (.tup [x, y]) :=
      ⟨by show 2 ≤ sizeLine; decide, [u, u2], .cons ru (.cons ru2 .nil), ⟨_, hT2, rfl, _, rfl⟩⟩
    have I1 : Inv X pins σ (upd H s.heap.objs.size (.tup [x, y])) { s with heap := h'' } :=
      I.turnedNew (t' := s.toks) (ch := [z, TI, TO, i1, i2]) (fun c o hb q => (sb.2 c (fun q' => hb (by simp [q']))).trans (hk c o (fun q' => hb (by simp [q'])) (fun q' => hb (by simp [q'])) (fun q' => hb (by simp [q'])) (fun q' => hb (by simp [q'])) q)) hf (Nat.le_refl _) new
    refine ⟨.ref s.heap.objs.size, _, I1, rfl, ⟨_, x, y, rfl, I.hok.fresh (Nat.le_refl _), rfl, fun l hl => by rw [I.list_inj hl hqx]; exact hx, fun l hl => by rw [I.list_inj hl hqy]; exact hy⟩, ⟨z'', ?_, ⟨u, u2, ?_⟩, ?_, ?_⟩, fun c hcm => ?_⟩
    · exact (sb.2 _ D.TIz).trans (hk _ _ D.TIz D.TITO D.TIi1 D.TIi2 hTI)
    · exact (sb.2 _ D.TOz).trans TO'
    · exact h1'.at fun o q => (sb.2 _ D.i1z).trans q
    · exact h2'.at fun o q => (sb.2 _ D.i2z).trans q
    · have hlt : c < s.heap.objs.size := by
        have e' : c = z ∨ c = TI ∨ c = TO ∨ c = i1 ∨ c = i2 := by simpa using hcm
        rcases e' with q | q | q | q | q
        · rw [q]; exact hzl
        · rw [q]; exact Heap.lt_size hTI
        · rw [q]; exact Heap.lt_size hTO
        · rw [q]; obtain ⟨_, e1, _⟩ := h1; exact Heap.lt_size e1
        · rw [q]; obtain ⟨_, e2, _⟩ := h2; exact Heap.lt_size e2
      rw [upd_ne (Nat.ne_of_lt hlt)]
      exact (hf c hcm).1
  done := by
    intro X hP hw hK hc i pins s σ H E I hf st hg
    subst hP hw hK
    obtain ⟨hz, hTI, ⟨x0, y0, hTO⟩, h1, h2⟩ := st
    obtain ⟨xs, ys, hqx, hqy, hend⟩ := hg
    obtain ⟨its, rv, p, _⟩ := I.list hqx
    obtain ⟨its2, rv2, p2, _⟩ := I.list hqy
    have l1 := rv.length
    have l2 := rv2.length
    have he : its.toArray[i]? = none ∨ its2.toArray[i]? = none := by
      rcases hend with q | q
      · exact .inl (by simp; omega)
      · exact .inr (by simp; omega)
    exact wpAny_pyNext_zip_end (I.ok.hd hc) D hz hTI hTO h1 h2 p.isList p2.isList he fun h' hk => ⟨rfl, I.turnedL (t' := s.toks) (ch := [z, TI, TO, i1, i2]) (fun c o hb q =>
      hk c o (fun q' => hb (by simp [q'])) (fun q' => hb (by simp [q'])) (fun q' => hb (by simp [q'])) (fun q' => hb (by simp [q'])) q) hf⟩
  self := fun A i s Q E st h => wpAny_pyIter_zip st.1 h
def iZip (K : PySem.W.Frag) (ta : TA) : TI := fun σ H R => ta σ H fun vs H1 => ∃ a b xs ys, vs = [.ref a, .ref b] ∧ SqL K H1 a xs ∧ SqL K H1 b ys ∧ R (Itz K a b) H1
theorem pi_zip {X : Cx} {e e2 : Expr} {ta : TA} {p pos tpos : Pos} {elts : List Expr} {kk : Nat} (hg : Gl X "zip") (hm : X.mg "zip" = none) (ha : PA X [e, e2] ta)
    (hs : starEach [e, e2] X.env = (false, eval e X.env) :: starEach [e2] X.env := by rfl) (hpl : (backTo pos (starEach [e2] X.env)).any (·.1) = false := by rfl) :
    PI X (.Tuple elts kk tpos) (.Call (.Name "zip" p) [e, e2] [] pos) (iZip X.K ta) := by
  intro pins s σ H R I h
  refine Call_ (ld_blt I hg hm boot_zip5 (PyProof.Rows.callWith_type1 (thn (ha pos pins s σ H _ I h) fun us s1 ⟨vs, H1, I1, r1, q1⟩ => ?_) hs hpl))
  obtain ⟨a, b, xs, ys, ex, hqx, hqy, q⟩ := q1
  subst ex
  cases r1 with
  | cons r rr =>
    cases rr with
    | cons r' rr =>
      cases rr
      cases r
      cases r'
      obtain ⟨its, rv, p1, _⟩ := I1.list hqx
      obtain ⟨its2, rv2, p2, _⟩ := I1.list hqy
      have la : a < s1.heap.objs.size := p1.lt
      have lb : b < s1.heap.objs.size := p2.lt
      refine call_zip_2 p1.isList p2.isList fun h' hz hTI hTO h1 h2 hsz hk => wpAny_pyIter_zip hz ?_
      have I2 : Inv X pins σ H1 { s1 with heap := h' } := I1.kept (t' := s1.toks) hk
      refine ⟨s1.heap.objs.size + 4, [s1.heap.objs.size + 4, s1.heap.objs.size + 2, s1.heap.objs.size + 3, s1.heap.objs.size, s1.heap.objs.size + 1], _, _, H1, rfl, I2, turn_zip (PySem.W.ktu_apart s1.heap.objs.size a b la lb), ⟨hz, hTI, ⟨_, _, hTO⟩, h1, h2⟩, fun c hcm => ?_, q⟩
      have e' : c = s1.heap.objs.size + 4 ∨ c = s1.heap.objs.size + 2 ∨ c = s1.heap.objs.size + 3 ∨ c = s1.heap.objs.size ∨ c = s1.heap.objs.size + 1 := by simpa using hcm
      have hle : s1.heap.objs.size ≤ c := by
        rcases e' with z | z | z | z | z
        · rw [z]; exact Nat.le_add_right _ _
        · rw [z]; exact Nat.le_add_right _ _
        · rw [z]; exact Nat.le_add_right _ _
        · rw [z]; exact Nat.le_refl _
        · rw [z]; exact Nat.le_add_right _ _
      exact I1.fpOk hle (I1.hok.fresh hle)
end L2

section 
namespace Bits
open PySem PyProof.Rows

end Bits
end 

section 
namespace TL
open PySem PySem.Builtin PySem.Builtin.Str PySem.StrLaws

abbrev tl (x : Str) : List Nat := x.cps.toList
/-! ### the list functions -/
/-- S stands at the head of l -/
def pre (S l : List Nat) : Bool := l.take S.length == S
/-- l cut at each S from the left; k signs are still to be passed over -/
def spl (S : List Nat) : Nat → List Nat → List Nat → List (List Nat)
  | _, acc, [] => [acc]
  | 0, acc, c :: r => if pre S (c :: r) = true then acc :: spl S (S.length - 1) [] r else spl S 0 (acc ++ [c]) r
  | k + 1, acc, _ :: r => spl S k acc r
/-- what stands before the first S, and behind it -/
def par (S : List Nat) : List Nat → List Nat → Option (List Nat × List Nat)
  | _, [] => none
  | acc, c :: r => if pre S (c :: r) = true then some (acc, (c :: r).drop S.length) else par S (acc ++ [c]) r

/-! ### the model's split and partition are these -/
/-! ### computing spl and par -/
/-! ### digits -/
/-! ### words: x.split() -/
end TL
end 

namespace L2
open PySem PySem.Spec PyProof.Rows

section
variable {X : Cx} {pins : List (Addr × Obj)} {σ : St} {H : Hp} {s : Shared} {Q : VK}
end

section
variable {X : Cx}

/-! ### of a text alone -/
/-! ### of a text and a text -/
end

section
variable {X : Cx} {o e : Expr} {to te : TE}
end
end L2

namespace L2
open PySem PySem.Spec PyProof.Rows

section
variable {X : Cx}
end

/-! ### slices of a text -/
theorem IsPart.raw {v : Value} {o : Option Int} (p : IsPart v o) : ∃ l : Option (Int × Tok), v = partValue l ∧ l.map (·.1) = o := by
  cases p with
  | none => exact ⟨none, rfl, rfl⟩
  | int i t => exact ⟨some (i, t), rfl, rfl⟩

end L2

namespace Att
open PySem PySem.W PySem.Calls PyProof.Rows

/-! ### the script -/
/-! ### the attachment: holds_open's last premise (the goal 'hc' behind k_head) from a wpAny of the law's body -/
/-! ### rules over ANY heap (no ledger) from facts about the written part K: the library's own take a ledger (News) for what they write -/
section
variable {prog : Program} {w : World} {A : Around} {E : Value → Shared → Prop} {s : Shared} {K : Frag}

/-! the whole heap as the ledger: makes every rule that writes through a ledger a rule over any heap -/
def ledger (h : Heap) (L d : Addr) : List (Addr × Obj) := (List.range h.objs.size).filterMap fun a => if a = L ∨ a = d then none else (h.get? a).map fun o => (a, o)
end
end Att

namespace L2
open PySem PySem.Spec PyProof.Rows

end L2

namespace L2
open PySem PySem.Spec PyProof.Rows

end L2


/-! SHORT WORDS over the layer: a def of the text, its body, what a loop and a test want. -/
namespace L2
open PySem PySem.Spec PyProof.Rows

/-! ### the text by places -/
/-- the j-th statement of a class's body -/
def inClass (s : Stmt) (j : Nat) : Stmt := match s with
  | .ClassDef _ _ _ body _ _ _ _ _ _ _ => body.getD j (.Pass ⟨0, 0, 0, 0⟩)
  | _ => .Pass ⟨0, 0, 0, 0⟩
def defArgs (s : Stmt) : Arguments := match s with
  | .FunctionDef _ a _ _ _ _ _ _ _ _ => a
  | _ => { posonlyargs := [], args := [], vararg := none, kwonlyargs := [], kw_defaults := [], kwarg := none, defaults := [] }
def defBody (s : Stmt) : List Stmt := match s with
  | .FunctionDef _ _ b _ _ _ _ _ _ _ => b
  | _ => []
def defScope (s : Stmt) : Scope := match s with
  | .FunctionDef _ _ _ _ _ _ sc _ _ _ => sc
  | _ => { kind := .function, names := [], isGenerator := false, isCoroutine := false }

/-! ### no exception leaves a def -/
abbrev CX0 : CXT := fun _ _ _ _ _ _ => False
abbrev E0 : XK := fun _ _ _ => False
theorem pass0 {X : Cx} : Passes CX0 X E0 := fun _ _ _ _ _ _ _ h => h.elim

/-! ### a def (or method) of the text as it stands behind the top -/
structure Fun (K : PySem.W.Frag) (x qual : Str) (st : Stmt) (f : Addr) (fd : FuncData) : Prop where
  ex : ∃ (oc : Value) (od : Option Addr) (kV doc pm : Value) (an : Option Addr) (cdv ct : Value) (osl : Array (Option Value)),
    fd = PySem.W.fnOf x qual (defArgs st) (defBody st) (defScope st) .none kV doc pm an cdv ct ∧ K.lookup f = some ⟨oc, od, .func fd, osl⟩ ∧ PySem.W.codeIn K cdv qual = true
  kp : PySem.W.keepIn K (.ref f) = true
section
variable {P : Program} {w : World} {K : PySem.W.Frag} {mg : Str → Option Value} {base : Heap}
/-- THE RULE for a def: its body as a term of rules, and the reading of that term -/
theorem Fun.ok {x qual : Str} {st : Stmt} {f : Addr} {fd : FuncData} {N ps : List Str} {k : Nat} {sp : Sp} (F : Fun K x qual st f fd) (S : FnScope N ps (defScope st)) (len : ∀ vs H Q E, sp vs H Q E → vs.length = ps.length)
    (hbody : ∀ (cdv : Value) (A : Around) (outer : List Env) (s : Shared) (H : Hp) (vs : List V) (Q : VK) (E : XK), Room k (A.deeper (envOfC qual (defScope st) s.heap.objs.size f cdv)) → sp vs H Q E →
      ∃ t, PSs (cxOf CX0 P w K mg base N qual (defScope st) f cdv A outer s H E).nox (defBody st) t ∧ t { nx := fun _ H' => Q .non H', rt := Q } (start N vs) H) : FnOk P w K mg base CX0 (k + 1) f fd ps sp := by
  obtain ⟨oc, od, kV, doc, pm, an, cdv, ct, osl, rfl, lk, hcd⟩ := F.ex
  refine fn_of lk hcd S len fun A outer s H vs Q E hr hsp => ?_
  obtain ⟨t, h, q⟩ := hbody cdv A outer s H vs Q E hr hsp
  exact ⟨t, h.nox, q⟩
/-- how its arguments bind (no defaults): h is «fun _ _ _ _ _ _ us hl => match us, hl with | [_, _], _ => rfl», one _ a parameter -/
theorem Fun.binds {x qual : Str} {st : Stmt} {f : Addr} {fd : FuncData} {ps : List Str} (F : Fun K x qual st f fd)
    (h : ∀ (kV doc pm : Value) (an : Option Addr) (cdv ct : Value) (us : List Value), us.length = ps.length → bindArgs (PySem.W.fnOf x qual (defArgs st) (defBody st) (defScope st) .none kV doc pm an cdv ct) ⟨us, []⟩ = pure (ps.zip us)) : Binds K fd ps [] := by
  obtain ⟨oc, od, kV, doc, pm, an, cdv, ct, osl, rfl, lk, hcd⟩ := F.ex
  exact .all (h kV doc pm an cdv ct)
theorem fun_mk {x qual : Str} {st : Stmt} {f : Addr} {oc : Value} {od an : Option Addr} {osl : Array (Option Value)} {kV doc pm cdv ct : Value} (l : K.lookup f = some ⟨oc, od, .func (PySem.W.fnOf x qual (defArgs st) (defBody st) (defScope st) .none kV doc pm an cdv ct), osl⟩)
    (c : PySem.W.codeIn K cdv qual = true) (k : PySem.W.keepIn K (.ref f) = true) : Fun K x qual st f (PySem.W.fnOf x qual (defArgs st) (defBody st) (defScope st) .none kV doc pm an cdv ct) := ⟨⟨oc, od, kV, doc, pm, an, cdv, ct, osl, rfl, l, c⟩, k⟩
end
theorem hu_of {A : Around} {k : Nat} (hr : Room k A) : A.units + 1 < cLine := Nat.lt_of_le_of_lt (Nat.add_le_add_left (by decide : 1 ≤ 64) _) hr.units
/-! ### expressions in short: the name that stands in the i-th slot -/
section
variable {X : Cx}
theorem pv (i : Nat) {x : Str} {pos : Pos} (hN : X.N[i]? = some x := by rfl) (hv : Vis X.env.scope x := by first | exact Or.inl rfl | exact Or.inr (Or.inl rfl) | exact Or.inr (Or.inr rfl)) (hd : (x == ("__debug__" : Str)) = false := by decide)
    (hcd : (x == ("__classdict__" : Str)) = false := by decide) : PE X (.Name x pos) (tVar i) := pe_var hN hv hd hcd
end

/-! ### tests -/
theorem iteF {A B : Prop} (h : B) : if false = true then A else B := by
  rw [if_neg Bool.false_ne_true]
  exact h
theorem iteT {A B : Prop} (h : A) : if true = true then A else B := by
  rw [if_pos rfl]
  exact h
/-! ### heaps -/
/-- all that was tracked is as it was -/
def Same (H H' : Hp) : Prop := ∀ b o, H b = some o → H' b = some o
theorem Same.refl (H : Hp) : Same H H := fun _ _ h => h
theorem Same.trans {H H1 H2 : Hp} (a : Same H H1) (b : Same H1 H2) : Same H H2 := fun c o h => b c o (a c o h)
theorem Same.free {H H' : Hp} (e : Same H H') {l : Addr} (h : H' l = Option.none) : H l = Option.none := by
  cases q : H l with
  | none => rfl
  | some o =>
    rw [e l o q] at h
    cases h
theorem Same.seq {K : PySem.W.Frag} {H H' : Hp} {a : Addr} {xs : List V} (e : Same H H') (h : SqL K H a xs) : SqL K H' a xs := by
  rcases h with (h | ⟨o, h⟩) | h
  · exact .inl (.inl (e _ _ h))
  · exact .inl (.inr ⟨o, e _ _ h⟩)
  · exact .inr h

/-! ### a dict's pairs: keys that differ -/
section
variable {κ : Type} [DecidableEq κ]
end
/-! ### lists -/
theorem sum_set : ∀ {l : List Int} {j : Nat} {z y : Int}, l[j]? = some z → (l.set j y).sum = l.sum - z + y
  | [], j, z, y, h => by simp at h
  | a :: r, 0, z, y, h => by
    have e : a = z := Option.some.inj h
    subst e
    show (y :: r).sum = (a :: r).sum - a + y
    rw [List.sum_cons, List.sum_cons]
    omega
  | a :: r, j + 1, z, y, h => by
    have ih := sum_set (l := r) (j := j) (z := z) (y := y) h
    show (a :: r.set j y).sum = (a :: r).sum - z + y
    rw [List.sum_cons, List.sum_cons, ih]
    omega
/-- a new instance and its __init__ leave all that was tracked as it was -/
theorem Same.made {H H1 : Hp} {x dx C : Addr} (nx : H x = Option.none) (nd : H dx = Option.none) (k : ∀ b o, (upd (upd H dx (.own x)) x (.ins C dx [])) b = some o → b ≠ x → H1 b = some o) : Same H H1 := fun b o e =>
  k b o (by rw [upd_ne (ne_of_none e nx), upd_ne (ne_of_none e nd)]; exact e) (ne_of_none e nx)
end L2

section
set_option Elab.async false
set_option linter.all false
set_option maxRecDepth 100000
set_option maxHeartbeats 2000000
namespace L2
open PySem PySem.Spec PyProof.Rows
open PySem.W (WData Codec OpenSpec Well WellAll ReadsW ReadsAllW)
/-! ### an answer as data -/
mutual
/-- x stands for the datum d, lists and tuples all the way -/
inductive Dw (K : PySem.W.Frag) (H : Hp) : V → WData → Prop
  | non : Dw K H .non .none
  | bl (b : Bool) : Dw K H (.bl b) (.bool b)
  | int (i : Int) : Dw K H (.int i) (.int i)
  | str (x : Str) : Dw K H (.str x) (.str x)
  | byt (b : Array UInt8) : Dw K H (.byt b) (.bytes b.toList)
  | lst {a : Addr} {xs : List V} {ds : List WData} : SqL K H a xs → DwAll K H xs ds → Dw K H (.ref a) (.list ds)
  | tup {a : Addr} {xs : List V} {ds : List WData} : SqT K H a xs → DwAll K H xs ds → Dw K H (.ref a) (.tuple ds)
inductive DwAll (K : PySem.W.Frag) (H : Hp) : List V → List WData → Prop
  | nil : DwAll K H [] []
  | cons {v : V} {vs : List V} {d : WData} {ds : List WData} : Dw K H v d → DwAll K H vs ds → DwAll K H (v :: vs) (d :: ds)
end
theorem dw_ints {K : PySem.W.Frag} {H : Hp} : ∀ ns : List Int, DwAll K H (ns.map V.int) (ns.map WData.int)
  | [] => .nil
  | n :: r => .cons (.int n) (dw_ints r)
theorem ints_dw {K : PySem.W.Frag} {H : Hp} : ∀ (ns : List Int) (xs : List V), DwAll K H xs (ns.map WData.int) → xs = ns.map V.int
  | [], xs, h => by
    cases h
    rfl
  | n :: r, xs, h => by
    cases h with
    | cons h1 h2 =>
      cases h1
      rw [ints_dw r _ h2] <;> rfl
section
variable {P : Program} {w : World} {K : PySem.W.Frag} {H : Hp} {h : Heap} {R : PySem.W.WRecords} {cl : Str → Option Addr}
theorem sqL_at {a : Addr} {xs : List V} (hok : HOk P w H h) (KX : K.In h) (q : SqL K H a xs) : ∃ (its : List Value) (o : Obj) (n : Nat), Vals xs its ∧ h.get? a = some o ∧ o.cls = .type "list" ∧ o.data = .seq its.toArray n := by
  rcases q with q | ⟨o, its, n, e, hc, _, hd, _, hv⟩
  · obtain ⟨_, its, n, hv, e⟩ := (show ObjOk P w H h a (.lst xs) from q.ok hok)
    exact ⟨its, _, n, hv, e, rfl, rfl⟩
  · exact ⟨its.toList, o, n, hv, KX _ _ e, hc, by simp [hd]⟩
theorem sqT_at {a : Addr} {xs : List V} (hok : HOk P w H h) (KX : K.In h) (q : SqT K H a xs) : ∃ (its : List Value) (o : Obj) (n : Nat), Vals xs its ∧ h.get? a = some o ∧ o.cls = .type "tuple" ∧ o.data = .seq its.toArray n := by
  rcases q with q | ⟨o, its, n, e, hc, hd, _, hv⟩
  · obtain ⟨_, its, hv, o, e, hc, n, hd⟩ := (show ObjOk P w H h a (.tup xs) from q.ok hok)
    exact ⟨its, o, n, hv, e, hc, hd⟩
  · exact ⟨its.toList, o, n, hv, KX _ _ e, hc, by simp [hd]⟩
mutual
theorem Dw.reads (hok : HOk P w H h) (KX : K.In h) : ∀ (d : WData) (v : V) (u : Value), Dw K H v d → RelV v u → ∃ as, ReadsW R cl h u d as
  | .none, _, _, x, r => by
    cases x
    cases r
    exact ⟨_, ReadsW.none⟩
  | .bool b, _, _, x, r => by
    cases x
    cases r
    exact ⟨_, ReadsW.bool b⟩
  | .int i, _, _, x, r => by
    cases x
    obtain ⟨t, rfl⟩ := r
    exact ⟨_, ReadsW.int i t⟩
  | .str s, _, _, x, r => by
    cases x
    obtain ⟨t, rfl⟩ := r
    exact ⟨_, ReadsW.str s t⟩
  | .bytes b, _, _, x, r => by
    cases x
    obtain ⟨t, rfl⟩ := r
    exact ⟨_, ReadsW.bytes _ t⟩
  | .list ds, _, _, x, r => by
    cases x with
    | lst hs ha =>
      cases r
      obtain ⟨its, o, n, rv, ho, hc, hd⟩ := sqL_at hok KX hs
      obtain ⟨as, hr⟩ := Dw.readsAll hok KX ds _ its ha rv
      exact ⟨_, ReadsW.list ho hc hd hr⟩
  | .tuple ds, _, _, x, r => by
    cases x with
    | tup hs ha =>
      cases r
      obtain ⟨its, o, n, rv, ho, hc, hd⟩ := sqT_at hok KX hs
      obtain ⟨as, hr⟩ := Dw.readsAll hok KX ds _ its ha rv
      exact ⟨_, ReadsW.tuple ho hc hd hr⟩
  | .float _, _, _, x, _ => by cases x
  | .dict _, _, _, x, _ => by cases x
  | .bytearray _, _, _, x, _ => by cases x
  | .set _, _, _, x, _ => by cases x
  | .frozenset _, _, _, x, _ => by cases x
  | .obj _ _, _, _, x, _ => by cases x
theorem Dw.readsAll (hok : HOk P w H h) (KX : K.In h) : ∀ (ds : List WData) (vs : List V) (us : List Value), DwAll K H vs ds → Vals vs us → ∃ as, ReadsAllW R cl h us ds as
  | [], _, _, x, r => by
    cases x
    cases r
    exact ⟨_, ReadsAllW.nil⟩
  | d :: ds, _, _, x, r => by
    cases x with
    | cons h1 h2 =>
      cases r with
      | cons r1 r2 =>
        obtain ⟨as, q1⟩ := Dw.reads hok KX d _ _ h1 r1
        obtain ⟨bs, q2⟩ := Dw.readsAll hok KX ds _ _ h2 r2
        exact ⟨_, ReadsAllW.cons q1 q2⟩
end
end
/-! ### the arguments -/
mutual
/-- data that a codec tells -/
def plW : WData → Bool
  | .none => true
  | .bool _ => true
  | .int _ => true
  | .str _ => true
  | .bytes _ => true
  | .list xs => plWs xs
  | .tuple xs => plWs xs
  | _ => false
def plWs : List WData → Bool
  | [] => true
  | x :: r => plW x && plWs r
end
theorem plWs_map {α : Type} {f : α → WData} (h : ∀ a, plW (f a) = true) : ∀ l : List α, plWs (l.map f) = true
  | [] => rfl
  | x :: r => by
    show (plW (f x) && plWs (r.map f)) = true
    rw [h x, plWs_map h r] <;> rfl
theorem pl_enc : ∀ (c : Codec) (a : c.denote), plW (c.enc a) = true
  | .unit, _ => rfl
  | .bool, _ => rfl
  | .int _ _, _ => rfl
  | .nat _ _, _ => rfl
  | .u8, _ => rfl
  | .bytes _ _, _ => rfl
  | .text _ _ _ _, _ => rfl
  | .list _ _ c, a => plWs_map (fun x => pl_enc c x) a
  | .pair c d, a => by
    show (plW (c.enc a.1) && (plW (d.enc a.2) && true)) = true
    rw [pl_enc c a.1, pl_enc d a.2] <;> rfl
  | .triple c d e, a => by
    show (plW (c.enc a.1) && (plW (d.enc a.2.1) && (plW (e.enc a.2.2) && true))) = true
    rw [pl_enc c a.1, pl_enc d a.2.1, pl_enc e a.2.2] <;> rfl
  | .option c, none => rfl
  | .option c, some x => pl_enc c x
theorem pl_encAll : ∀ (cs : List Codec) (a : Codec.denoteAll cs), plWs (Codec.encAll cs a) = true
  | [], _ => rfl
  | c :: cs, a => by
    show (plW (c.enc a.1) && plWs (Codec.encAll cs a.2)) = true
    rw [pl_enc c a.1, pl_encAll cs a.2] <;> rfl
theorem weight_mem : ∀ {xs : List WData} {d : WData}, d ∈ xs → d.weight ≤ WData.weightAll xs
  | [], d, h => absurd h (by simp)
  | x :: r, d, h => by
    show d.weight ≤ x.weight + 1 + WData.weightAll r
    rcases List.mem_cons.mp h with e | m
    · rw [e]
      omega
    · have z := weight_mem m
      omega
def toV : Value → V
  | .none => .non
  | .bool b => .bl b
  | .int i _ => .int i
  | .str x _ => .str x
  | .bytes b _ => .byt b
  | .ref a => .ref a
  | _ => .non
/-- a value of the arguments, its objects among A -/
def OkU (A : List Addr) : Value → Prop
  | .none => True
  | .bool _ => True
  | .int _ _ => True
  | .str _ _ => True
  | .bytes _ _ => True
  | .ref a => a ∈ A
  | _ => False
theorem OkU.mono {A B : List Addr} (h : ∀ a ∈ A, a ∈ B) : ∀ {u : Value}, OkU A u → OkU B u := fun {u} x => by
  cases u with
  | ref a => exact h a x
  | none => trivial
  | bool b => trivial
  | int i t => trivial
  | str s t => trivial
  | bytes b t => trivial
  | _ => exact False.elim x
theorem relV_toV {A : List Addr} {u : Value} (x : OkU A u) : RelV (toV u) u := by
  cases u with
  | ref a => rfl
  | none => rfl
  | bool b => rfl
  | int i t => exact ⟨t, rfl⟩
  | str s t => exact ⟨t, rfl⟩
  | bytes b t => exact ⟨t, rfl⟩
  | _ => exact False.elim x
theorem vals_toV {A : List Addr} : ∀ {vs : List Value}, (∀ u ∈ vs, OkU A u) → Vals (vs.map toV) vs
  | [], _ => .nil
  | u :: r, h => .cons (relV_toV (h u (List.mem_cons_self ..))) (vals_toV fun x hx => h x (List.mem_cons_of_mem _ hx))
/-- an object of the arguments -/
def ArgOb (h : Heap) (A : List Addr) (a : Addr) : Prop := ∃ vs : List Value, vs.length ≤ sizeLine ∧ (∀ u ∈ vs, OkU A u) ∧
  (h.get? a = some { cls := .type "list", data := .seq vs.toArray } ∨ h.get? a = some { cls := .type "tuple", data := .seq vs.toArray })
theorem ArgOb.mono {h : Heap} {A B : List Addr} {a : Addr} (k : ∀ a ∈ A, a ∈ B) (x : ArgOb h A a) : ArgOb h B a := by
  obtain ⟨vs, h1, h2, h3⟩ := x
  exact ⟨vs, h1, fun u hu => (h2 u hu).mono k, h3⟩
theorem wellAll_len {P : Params} {h : Heap} : ∀ {vs : List Value} {ds : List WData}, WellAll P h vs ds → vs.length = ds.length
  | _, _, .nil => rfl
  | _, _, .cons _ b => by
    show _ + 1 = _ + 1
    rw [wellAll_len b]
theorem well_list {P : Params} {h : Heap} {v : Value} {ds : List WData} (x : Well P h v (.list ds)) : ∃ (a : Addr) (vs : List Value), v = .ref a ∧ h.get? a = some { cls := .type "list", data := .seq vs.toArray } ∧ WellAll P h vs ds := by
  cases x with
  | list ho hall => exact ⟨_, _, rfl, ho, hall⟩
theorem well_tuple {P : Params} {h : Heap} {v : Value} {ds : List WData} (x : Well P h v (.tuple ds)) : ∃ (a : Addr) (vs : List Value), v = .ref a ∧ h.get? a = some { cls := .type "tuple", data := .seq vs.toArray } ∧ WellAll P h vs ds := by
  cases x with
  | tuple ho hall => exact ⟨_, _, rfl, ho, hall⟩
theorem well_cons {P : Params} {h : Heap} {us : List Value} {d : WData} {ds : List WData} (x : WellAll P h us (d :: ds)) : ∃ (v : Value) (vs : List Value), us = v :: vs ∧ Well P h v d ∧ WellAll P h vs ds := by
  cases x with
  | cons a b => exact ⟨_, _, rfl, a, b⟩
theorem line_of {n : Nat} (h : n ≤ 1048576) : n ≤ sizeLine := Nat.le_trans h (by decide)
section
variable {P : Params} {h : Heap}
mutual
theorem area_one : ∀ (d : WData) (v : Value), Well P h v d → plW d = true → d.weight ≤ 1048576 → ∃ A : List Addr, OkU A v ∧ ∀ a ∈ A, ArgOb h A a
  | .none, _, x, _, _ => by
    cases x
    exact ⟨[], trivial, fun a m => absurd m (by simp)⟩
  | .bool b, _, x, _, _ => by
    cases x
    exact ⟨[], trivial, fun a m => absurd m (by simp)⟩
  | .int i, _, x, _, _ => by
    cases x
    exact ⟨[], trivial, fun a m => absurd m (by simp)⟩
  | .str s, _, x, _, _ => by
    cases x
    exact ⟨[], trivial, fun a m => absurd m (by simp)⟩
  | .bytes b, _, x, _, _ => by
    cases x
    exact ⟨[], trivial, fun a m => absurd m (by simp)⟩
  | .list ds, _, x, p, z => by
    obtain ⟨a, vs, rfl, ho, hall⟩ := well_list x
    have z2 : WData.weightAll ds ≤ 1048576 := z
    obtain ⟨A, h1, h2⟩ := area_all ds _ hall p fun d hd => Nat.le_trans (weight_mem hd) z2
    have k : ∀ b ∈ A, b ∈ a :: A := fun b hb => List.mem_cons_of_mem _ hb
    refine ⟨a :: A, List.mem_cons_self .., fun b hb => ?_⟩
    rcases List.mem_cons.mp hb with e | m
    · rw [e]
      exact ⟨vs, line_of (by rw [wellAll_len hall]; exact Nat.le_trans (PySem.W.length_le_weightAllW ds) z2), fun u hu => (h1 u hu).mono k, .inl ho⟩
    · exact (h2 b m).mono k
  | .tuple ds, _, x, p, z => by
    obtain ⟨a, vs, rfl, ho, hall⟩ := well_tuple x
    have z2 : WData.weightAll ds ≤ 1048576 := z
    obtain ⟨A, h1, h2⟩ := area_all ds _ hall p fun d hd => Nat.le_trans (weight_mem hd) z2
    have k : ∀ b ∈ A, b ∈ a :: A := fun b hb => List.mem_cons_of_mem _ hb
    refine ⟨a :: A, List.mem_cons_self .., fun b hb => ?_⟩
    rcases List.mem_cons.mp hb with e | m
    · rw [e]
      exact ⟨vs, line_of (by rw [wellAll_len hall]; exact Nat.le_trans (PySem.W.length_le_weightAllW ds) z2), fun u hu => (h1 u hu).mono k, .inr ho⟩
    · exact (h2 b m).mono k
  | .float _, _, _, p, _ => Bool.noConfusion (show false = true from p)
  | .dict _, _, _, p, _ => Bool.noConfusion (show false = true from p)
  | .bytearray _, _, _, p, _ => Bool.noConfusion (show false = true from p)
  | .set _, _, _, p, _ => Bool.noConfusion (show false = true from p)
  | .frozenset _, _, _, p, _ => Bool.noConfusion (show false = true from p)
  | .obj _ _, _, _, p, _ => Bool.noConfusion (show false = true from p)
theorem area_all : ∀ (ds : List WData) (vs : List Value), WellAll P h vs ds → plWs ds = true → (∀ d ∈ ds, d.weight ≤ 1048576) → ∃ A : List Addr, (∀ u ∈ vs, OkU A u) ∧ ∀ a ∈ A, ArgOb h A a
  | [], _, x, _, _ => by
    cases x
    exact ⟨[], fun u m => absurd m (by simp), fun a m => absurd m (by simp)⟩
  | d :: ds, _, x, p, z => by
    obtain ⟨v, vs, rfl, x1, x2⟩ := well_cons x
    have q : plW d = true ∧ plWs ds = true := Bool.and_eq_true_iff.mp p
    obtain ⟨A, a1, a2⟩ := area_one d v x1 q.1 (z d (List.mem_cons_self ..))
    obtain ⟨B, b1, b2⟩ := area_all ds vs x2 q.2 fun e he => z e (List.mem_cons_of_mem _ he)
    have kA : ∀ b ∈ A, b ∈ A ++ B := fun b hb => List.mem_append.mpr (.inl hb)
    have kB : ∀ b ∈ B, b ∈ A ++ B := fun b hb => List.mem_append.mpr (.inr hb)
    refine ⟨A ++ B, fun u hu => ?_, fun b hb => ?_⟩
    · rcases List.mem_cons.mp hu with e | m
      · rw [e]
        exact a1.mono kA
      · exact (b1 u m).mono kB
    · rcases List.mem_append.mp hb with m | m
      · exact (a2 b m).mono kA
      · exact (b2 b m).mono kB
end
end
/-- what is tracked of an argument's object -/
def hoOf (o : Obj) : Option HO := match o.data with
  | .seq vs _ => if (o.cls == Value.type "list") = true then some (.frz o (.lst (vs.toList.map toV))) else some (.frz o (.tup (vs.toList.map toV)))
  | _ => none
def argH (K : PySem.W.Frag) (h : Heap) (A : List Addr) : Hp := fun b => if b ∈ A then (if (K.lookup b).isNone = true then (h.get? b).bind hoOf else none) else none
/-- nothing is tracked but what is known to the object -/
def OnlyF (H : Hp) : Prop := ∀ b, H b = none ∨ ∃ o u, H b = some (.frz o u)
theorem hoOf_lst (vs : List Value) : hoOf { cls := .type "list", data := .seq vs.toArray } = some (.frz { cls := .type "list", data := .seq vs.toArray } (.lst (vs.map toV))) := by
  show (if (Value.type "list" == Value.type "list") = true then some (HO.frz { cls := .type "list", data := .seq vs.toArray } (.lst (vs.toArray.toList.map toV))) else some (HO.frz { cls := .type "list", data := .seq vs.toArray } (.tup (vs.toArray.toList.map toV)))) = _
  rw [if_pos (beq_self_eq_true _)]
theorem hoOf_tup (vs : List Value) : hoOf { cls := .type "tuple", data := .seq vs.toArray } = some (.frz { cls := .type "tuple", data := .seq vs.toArray } (.tup (vs.map toV))) := by
  show (if (Value.type "tuple" == Value.type "list") = true then some (HO.frz { cls := .type "tuple", data := .seq vs.toArray } (.lst (vs.toArray.toList.map toV))) else some (HO.frz { cls := .type "tuple", data := .seq vs.toArray } (.tup (vs.toArray.toList.map toV)))) = _
  rw [if_neg (by decide)]
section
variable {P : Program} {w : World} {K : PySem.W.Frag} {h : Heap} {A : List Addr}
theorem argH_at {b : Addr} {o : Obj} (hb : b ∈ A) (hk : K.lookup b = none) (e : h.get? b = some o) : argH K h A b = hoOf o := by
  unfold argH
  rw [if_pos hb, hk, if_pos (show (none : Option Obj).isNone = true from rfl), e] <;> rfl
theorem of_argH {b : Addr} {u : HO} (q : argH K h A b = some u) : b ∈ A ∧ K.lookup b = none := by
  unfold argH at q
  by_cases hb : b ∈ A
  · rw [if_pos hb] at q
    cases hk : K.lookup b with
    | none => exact ⟨hb, rfl⟩
    | some o =>
      rw [hk, if_neg (by simp)] at q
      cases q
  · rw [if_neg hb] at q
    cases q
/-- what stands tracked -/
theorem argH_is (ar : ∀ a ∈ A, ArgOb h A a) {b : Addr} {u : HO} (q : argH K h A b = some u) : K.lookup b = none ∧ ∃ vs : List Value, vs.length ≤ sizeLine ∧ (∀ u ∈ vs, OkU A u) ∧
    ((h.get? b = some { cls := .type "list", data := .seq vs.toArray } ∧ u = .frz { cls := .type "list", data := .seq vs.toArray } (.lst (vs.map toV))) ∨
     (h.get? b = some { cls := .type "tuple", data := .seq vs.toArray } ∧ u = .frz { cls := .type "tuple", data := .seq vs.toArray } (.tup (vs.map toV)))) := by
  obtain ⟨hb, hk⟩ := of_argH q
  obtain ⟨vs, h1, h2, h3⟩ := ar b hb
  refine ⟨hk, vs, h1, h2, ?_⟩
  rcases h3 with e | e
  · rw [argH_at hb hk e, hoOf_lst] at q
    exact .inl ⟨e, (Option.some.inj q).symm⟩
  · rw [argH_at hb hk e, hoOf_tup] at q
    exact .inr ⟨e, (Option.some.inj q).symm⟩
theorem argH_only (ar : ∀ a ∈ A, ArgOb h A a) : OnlyF (argH K h A) := fun b => by
  cases q : argH K h A b with
  | none => exact .inl rfl
  | some u =>
    obtain ⟨_, vs, _, _, ⟨_, e⟩ | ⟨_, e⟩⟩ := argH_is ar q
    · exact .inr ⟨_, _, by rw [e]⟩
    · exact .inr ⟨_, _, by rw [e]⟩
theorem argH_ok (ar : ∀ a ∈ A, ArgOb h A a) : HOk P w (argH K h A) h := fun b u q => by
  obtain ⟨_, vs, h1, h2, ⟨e, rfl⟩ | ⟨e, rfl⟩⟩ := argH_is ar q
  · exact ⟨e, by rw [List.length_map]; exact h1, vs, _, vals_toV h2, e⟩
  · exact ⟨e, by rw [List.length_map]; exact h1, vs, vals_toV h2, _, e, rfl, _, rfl⟩
theorem seq_inj {c c' : Value} {vs us : List Value} (e : (some { cls := c, data := .seq vs.toArray } : Option Obj) = some { cls := c', data := .seq us.toArray }) : c = c' ∧ vs = us := by
  have e1 := Option.some.inj e
  have e2 : c = c' := congrArg Obj.cls e1
  have e3 : Data.seq vs.toArray = Data.seq us.toArray := congrArg Obj.data e1
  injection e3 with e4
  refine ⟨e2, ?_⟩
  have e5 := congrArg Array.toList e4
  simpa using e5
/-- a list argument -/
theorem argL (KX : K.In h) (ar : ∀ a ∈ A, ArgOb h A a) {a : Addr} {vs : List Value} (ha : a ∈ A) (e : h.get? a = some { cls := .type "list", data := .seq vs.toArray }) : (∀ u ∈ vs, OkU A u) ∧ SqL K (argH K h A) a (vs.map toV) := by
  obtain ⟨us, h1, h2, h3⟩ := ar a ha
  have hu : us = vs := by
    rcases h3 with q | q
    · rw [e] at q
      exact (seq_inj q).2.symm
    · rw [e] at q
      exact absurd (Value.type.inj (seq_inj q).1) (by decide)
  subst hu
  refine ⟨h2, ?_⟩
  cases hk : K.lookup a with
  | none => exact .inl (.inr ⟨_, by rw [argH_at ha hk e, hoOf_lst]⟩)
  | some o =>
    have e2 := KX a o hk
    rw [e] at e2
    obtain rfl := Option.some.inj e2
    exact .inr ⟨_, us.toArray, _, hk, rfl, rfl, rfl, by rw [List.size_toArray]; exact h1, by simpa using vals_toV h2⟩
theorem argT (KX : K.In h) (ar : ∀ a ∈ A, ArgOb h A a) {a : Addr} {vs : List Value} (ha : a ∈ A) (e : h.get? a = some { cls := .type "tuple", data := .seq vs.toArray }) : (∀ u ∈ vs, OkU A u) ∧ SqT K (argH K h A) a (vs.map toV) := by
  obtain ⟨us, h1, h2, h3⟩ := ar a ha
  have hu : us = vs := by
    rcases h3 with q | q
    · rw [e] at q
      exact absurd (Value.type.inj (seq_inj q).1) (by decide)
    · rw [e] at q
      exact (seq_inj q).2.symm
  subst hu
  refine ⟨h2, ?_⟩
  cases hk : K.lookup a with
  | none => exact .inl (.inr ⟨_, by rw [argH_at ha hk e, hoOf_tup]⟩)
  | some o =>
    have e2 := KX a o hk
    rw [e] at e2
    obtain rfl := Option.some.inj e2
    exact .inr ⟨_, us.toArray, _, hk, rfl, rfl, by rw [List.size_toArray]; exact h1, by simpa using vals_toV h2⟩
mutual
theorem dw_one {Pm : Params} (KX : K.In h) (ar : ∀ a ∈ A, ArgOb h A a) : ∀ (d : WData) (v : Value), Well Pm h v d → plW d = true → OkU A v → Dw K (argH K h A) (toV v) d
  | .none, _, x, _, _ => by
    cases x
    exact .non
  | .bool b, _, x, _, _ => by
    cases x
    exact .bl b
  | .int i, _, x, _, _ => by
    cases x
    exact .int i
  | .str s, _, x, _, _ => by
    cases x
    exact .str s
  | .bytes b, _, x, _, _ => by
    cases x
    have z := Dw.byt (K := K) (H := argH K h A) b.toArray
    exact z
  | .list ds, _, x, p, hu => by
    obtain ⟨a, vs, rfl, ho, hall⟩ := well_list x
    obtain ⟨h2, hs⟩ := argL KX ar hu ho
    exact .lst hs (dw_all KX ar ds _ hall p h2)
  | .tuple ds, _, x, p, hu => by
    obtain ⟨a, vs, rfl, ho, hall⟩ := well_tuple x
    obtain ⟨h2, hs⟩ := argT KX ar hu ho
    exact .tup hs (dw_all KX ar ds _ hall p h2)
  | .float _, _, _, p, _ => Bool.noConfusion (show false = true from p)
  | .dict _, _, _, p, _ => Bool.noConfusion (show false = true from p)
  | .bytearray _, _, _, p, _ => Bool.noConfusion (show false = true from p)
  | .set _, _, _, p, _ => Bool.noConfusion (show false = true from p)
  | .frozenset _, _, _, p, _ => Bool.noConfusion (show false = true from p)
  | .obj _ _, _, _, p, _ => Bool.noConfusion (show false = true from p)
theorem dw_all {Pm : Params} (KX : K.In h) (ar : ∀ a ∈ A, ArgOb h A a) : ∀ (ds : List WData) (vs : List Value), WellAll Pm h vs ds → plWs ds = true → (∀ u ∈ vs, OkU A u) → DwAll K (argH K h A) (vs.map toV) ds
  | [], _, x, _, _ => by
    cases x
    exact .nil
  | d :: ds, _, x, p, hu => by
    obtain ⟨v, vs, rfl, x1, x2⟩ := well_cons x
    have q : plW d = true ∧ plWs ds = true := Bool.and_eq_true_iff.mp p
    exact .cons (dw_one KX ar d v x1 q.1 (hu _ (List.mem_cons_self ..))) (dw_all KX ar ds vs x2 q.2 fun u m => hu u (List.mem_cons_of_mem _ m))
end
end
/-! ### the call -/
theorem spec_call {P : Program} {w : World} {K : PySem.W.Frag} {mg mb : Str → Option Value} {CX : CXT} {k : Nat} {fa : Addr} {fd : FuncData} {ps : List Str} {sp : Sp} {s₁ : Shared} {vals : List Value} {ds : List WData} {R : PySem.W.WRecords} {cl : Str → Option Addr} {d0 : WData}
    (KX : K.In s₁.heap) (hns : s₁.heap.Ns mainGlobals mg) (hb : s₁.heap.Ns builtinsNs mb) (hbb : ∀ x : Str, x ≠ "__name__" → mb x = bootBuiltins x) (hlim : s₁.heap.NoLimit) (hg : s₁.gens = #[])
    (hwl : WellAll w.params s₁.heap vals ds) (hpl : plWs ds = true) (hwt : ∀ d ∈ ds, d.weight ≤ 1048576) (hr : Room k callerA)
    (F : ∀ base : Heap, K.In base → base.Ns mainGlobals mg → FnOk P w K mg base CX k fa fd ps sp) (hbind : ∀ (s : Shared) (us : List Value), us.length = ps.length → BindsTo s fd ⟨us, []⟩ (ps.zip us)) (hlen : ds.length = ps.length)
    (hsp : ∀ (H : Hp) (xs : List V), OnlyF H → DwAll K H xs ds → sp xs H (fun v H' => Dw K H' v d0) fun _ _ _ => False)
    (hCX : ∀ H e s', CX [] H s₁ (fun _ _ _ => False) e s' → False) :
    codeAny (model P w) callerA (.call (.ref fa) ⟨vals, []⟩) (fun r s' => ∃ u as, r = .ok (.ret u) ∧ ReadsW R cl s'.heap u d0 as ∧ OldK s₁.heap s'.heap ∧ s'.os = s₁.os ∧ AllBare s'.gens) s₁ := by
  obtain ⟨A, ho, ar⟩ := area_all ds vals hwl hpl hwt
  have hO : OnlyF (argH K s₁.heap A) := argH_only ar
  have hok : HOk P w (argH K s₁.heap A) s₁.heap := argH_ok ar
  have hS := dw_all KX ar ds vals hwl hpl ho
  have hV := vals_toV ho
  have hK : ∀ b u, argH K s₁.heap A b = some u → K.lookup b = none := fun b u q => (argH_is ar q).1
  have noA : ∀ {b : Addr} {o : Obj} {es : Array DictEntry} {ep : Nat}, s₁.heap.get? b = some o → o.data = .dict es ep → argH K s₁.heap A b = none := fun {b o es ep} e d => by
    cases q : argH K s₁.heap A b with
    | none => rfl
    | some u =>
      obtain ⟨_, vs, _, _, ⟨e2, _⟩ | ⟨e2, _⟩⟩ := argH_is ar q
      · rw [e2] at e
        cases e
        have d' : Data.seq vs.toArray _ = Data.dict es ep := d
        cases d'
      · rw [e2] at e
        cases e
        have d' : Data.seq vs.toArray _ = Data.dict es ep := d
        cases d'
  generalize argH K s₁.heap A = H at hO hok hS hK noA
  have base_of : ∀ {b : Addr} {o : Obj}, s₁.heap.get? b = some o → H b = none → (hidT s₁.heap H).get? b = some o := fun e n => hidT_get e n
  have nsK : ∀ {b : Addr} {m : Str → Option Value}, s₁.heap.Ns b m → (hidT s₁.heap H).Ns b m := fun {b m} ⟨o, es, ep, e, d, r⟩ => ⟨o, es, ep, base_of e (noA e d), d, r⟩
  have nK : ∀ b o, K.lookup b = some o → H b = none := fun b o e => by
    cases q : H b with
    | none => rfl
    | some u =>
      rw [hK b u q] at e
      cases e
  have hKb : K.In (hidT s₁.heap H) := fun b o e => base_of (KX b o e) (nK b o e)
  have hM : Mod K mg (hidT s₁.heap H) := ⟨hKb, nsK hns, ⟨mb, nsK hb, hbb⟩, let ⟨mc, h1, h2⟩ := hlim; ⟨mc, nsK h1, h2⟩⟩
  have e0 : Env0 P w K mg (hidT s₁.heap H) callerA [] s₁ H := ⟨rfl, hM, fun b o e => of_hidT e, Nat.le_of_eq (hidT_size _ _), trivial, fun b hb => absurd (show b ∈ ([] : List Addr) from hb) (by simp), hok, .of_eq hg⟩
  have hl : vals.length = ps.length := by rw [wellAll_len hwl]; exact hlen
  refine codeAny_mono ((F _ hKb (nsK hns)).run callerA [] s₁ H ⟨vals, []⟩ vals (vals.map toV) _ _ hr e0 (hbind s₁ vals hl) hV (hsp H _ hO hS)) fun r s' x => ?_
  cases r with
  | error e => exact (hCX H e s' x).elim
  | ok fl =>
    cases fl with
    | next => exact False.elim x
    | brk => exact False.elim x
    | cont => exact False.elim x
    | ret u =>
      obtain ⟨v, H', os, bare, un, hok', r', q⟩ := x
      have kept : ∀ b o, s₁.heap.get? b = some o → s'.heap.get? b = some o := fun b o e => by
        cases q2 : H b with
        | none => exact un.keep b o e q2 (by intro z; exact absurd (show b ∈ ([] : List Addr) from z) (by simp)) (by simp)
        | some u2 =>
          rcases hO b with z | ⟨ob, u3, z⟩
          · rw [q2] at z
            cases z
          · have z2 := un.frzs b ob _ z
            obtain ⟨e1, _⟩ := hok b _ z
            obtain ⟨e2, _⟩ := hok' b _ z2
            rw [e] at e1
            cases e1
            exact e2
      have KX' : K.In s'.heap := fun b o e => kept b o (KX b o e)
      obtain ⟨as, hrd⟩ := Dw.reads (R := R) (cl := cl) hok' KX' d0 v u q r'
      exact ⟨u, as, rfl, hrd, OldK.of_keep kept, os, bare⟩
/-! ### the row -/
theorem layable_weight {ds : List WData} (h : WData.layableAll ds = true) : ∀ d ∈ ds, d.weight ≤ 1048576 := fun d hd =>
  (PySem.W.layableW_iff.mp (List.all_eq_true.mp h d hd)).2.2
theorem encAll_len : ∀ (cs : List Codec) (a : Codec.denoteAll cs), (Codec.encAll cs a).length = cs.length
  | [], _ => rfl
  | c :: cs, a => by
    show (Codec.encAll cs a.2).length + 1 = cs.length + 1
    rw [encAll_len cs a.2]
/-- the goal that k_headS leaves (case hc), from the promise of the row's def: whatever the arguments that the codecs let and the row asks for, the def gives what stands for enc (f ..) -/
theorem walk_spec {r : OpenSpec} {k : Nat} {q : Program} {loose : List Str} {XP : (Str → Option Value) → Heap → Prop} {YP : World → Heap → Prop} {d : DefRec} {K : Params → PySem.W.Frag} {CX : World → CXT} {ps : List Str} {sp : World → Sp}
    (hwell : r.wellSaid = true) (hdf : d.params.defaults = []) (hlen : r.args.length = ps.length) (hr : Room k callerA)
    (hY : ∀ (w : World) (h : Heap), YP w h → (K w.params).In h)
    (F : ∀ (w : World) (mg : Str → Option Value) (fa : Addr) (h : Heap), YP w h → (K w.params).In h → h.Ns mainGlobals mg → mg d.name = some (.ref fa) →
      ∃ fd : FuncData, (∀ (s : Shared) (us : List Value), us.length = ps.length → BindsTo s fd ⟨us, []⟩ (ps.zip us)) ∧
        ∀ base : Heap, (K w.params).In base → base.Ns mainGlobals mg → FnOk r.prog w (K w.params) mg base (CX w) k fa fd ps (sp w))
    (hsp : ∀ (w : World) (H : Hp) (xs : List V) (a : Codec.denoteAll r.args), OnlyF H → Codec.withinAll r.args a = true → Codec.app r.args r.asked a = true → DwAll (K w.params) H xs (Codec.encAll r.args a) →
      sp w xs H (fun v H' => Dw (K w.params) H' v (r.ret.enc (Codec.app r.args r.f a))) fun _ _ _ => False)
    (hCX : ∀ (w : World) (H : Hp) (s : Shared) (e : Value) (s' : Shared), CX w [] H s (fun _ _ _ => False) e s' → False) :
    PySem.W.WalkOS q loose XP YP r d [] (fun f vs => PySem.call f vs) := by
  intro w s_0 s₁ mg mb G Y fa o pm cd doc dV kV ho hd hcd hD hmg hg args vals as hpre hlay hrd hwl hlo
  obtain ⟨a, e1, e2⟩ := PySem.W.os_pre_some hpre
  obtain ⟨e3, hwi⟩ := Codec.encAll_of_decAll r.args args a e1
  subst e3
  have KX := hY w _ Y
  obtain ⟨fd, hb, hF⟩ := F w mg fa _ Y KX G.T.g hmg
  refine PySem.W.enter_call (codeAny_mono (spec_call (R := []) (cl := classAt s_0.heap) (d0 := r.ret.enc (Codec.app r.args r.f a)) KX G.T.g G.T.b G.T.builtins G.T.nolimit hg hwl (pl_encAll _ _) (layable_weight hlay) hr hF hb (by rw [encAll_len]; exact hlen)
    (fun H xs hO hS => hsp w H xs a hO hwi e2 hS) fun H e s' => hCX w H s₁ e s') fun r' s' hq => ?_)
  obtain ⟨u, as', rfl, h1, h2, h3, h4⟩ := hq
  exact ⟨.inl ⟨u, _, as', rfl, fun _ => rfl, h1, (OpenSpec.post_iff hwell hwi _ _).mpr rfl, fun z => Bool.noConfusion (show false = true from z)⟩, h2, h3, h4⟩
/-- the same where the promise hangs on the written part alone -/
theorem walk_specK {r : OpenSpec} {k : Nat} {q : Program} {loose : List Str} {XP : (Str → Option Value) → Heap → Prop} {YP : World → Heap → Prop} {d : DefRec} {K : Params → PySem.W.Frag} {CX : CXT} {ps : List Str} {sp : PySem.W.Frag → Sp}
    (hwell : r.wellSaid = true) (hdf : d.params.defaults = []) (hlen : r.args.length = ps.length) (hr : Room k callerA)
    (hY : ∀ (w : World) (h : Heap), YP w h → (K w.params).In h)
    (F : ∀ (w : World) (mg : Str → Option Value) (fa : Addr) (h : Heap), YP w h → (K w.params).In h → h.Ns mainGlobals mg → mg d.name = some (.ref fa) →
      ∃ fd : FuncData, (∀ (s : Shared) (us : List Value), us.length = ps.length → BindsTo s fd ⟨us, []⟩ (ps.zip us)) ∧
        ∀ base : Heap, (K w.params).In base → base.Ns mainGlobals mg → FnOk r.prog w (K w.params) mg base CX k fa fd ps (sp (K w.params)))
    (hsp : ∀ (K : PySem.W.Frag) (H : Hp) (xs : List V) (a : Codec.denoteAll r.args), OnlyF H → Codec.withinAll r.args a = true → Codec.app r.args r.asked a = true → DwAll K H xs (Codec.encAll r.args a) →
      sp K xs H (fun v H' => Dw K H' v (r.ret.enc (Codec.app r.args r.f a))) fun _ _ _ => False)
    (hCX : ∀ (H : Hp) (s : Shared) (e : Value) (s' : Shared), CX [] H s (fun _ _ _ => False) e s' → False) :
    PySem.W.WalkOS q loose XP YP r d [] (fun f vs => PySem.call f vs) :=
  walk_spec (K := K) (CX := fun _ => CX) (sp := fun w => sp (K w.params)) hwell hdf hlen hr hY F (fun w H xs a h1 h2 h3 h4 => hsp (K w.params) H xs a h1 h2 h3 h4) fun _ H s e s' => hCX H s e s'
end L2
-- rests on (row put in by the clerk, for the bench that shows a file only what it spells): KE.SpHead KE.OsShapes
end


namespace Hb
open PySem PySem.Spec PyProof.Rows L2
abbrev s_end_by : Stmt := top 2
abbrev s_filled_at : Stmt := top 3
abbrev s_hours_late : Stmt := top 4
abbrev s_Boat_init : Stmt := inClass (top 6) 0
abbrev s_Cage_init : Stmt := inClass (top 7) 0
abbrev s_Course_init : Stmt := inClass (top 8) 0
abbrev s_Course_twin : Stmt := inClass (top 8) 1
abbrev s_Harvest_init : Stmt := inClass (top 9) 0
abbrev s_divided_up : Stmt := top 11
abbrev s_Plant_init : Stmt := inClass (top 14) 0
abbrev s_Plant_first_open_hour : Stmt := inClass (top 14) 1
abbrev s_Plant_unloaded_at : Stmt := inClass (top 14) 2
abbrev s_one_longer : Stmt := top 23
abbrev s_all_rows : Stmt := top 24
abbrev s_sailing : Stmt := top 27
abbrev s_fetch : Stmt := top 28
abbrev s_make_trip : Stmt := top 29
abbrev s_parted_by_zone : Stmt := top 30
abbrev s_bring_all : Stmt := top 31
abbrev s_end_of : Stmt := top 32
abbrev s_within : Stmt := top 37
abbrev s_begin : Stmt := top 38
abbrev s_cage : Stmt := top 39
abbrev s_fish : Stmt := top 40
abbrev s_order : Stmt := top 41
abbrev s_wait : Stmt := top 42
abbrev s_far : Stmt := top 43
abbrev s_unloads : Stmt := top 44
abbrev s_is_row_of_cages : Stmt := top 45
abbrev s_trip_refusal : Stmt := top 46
abbrev s_trip : Stmt := top 47
abbrev s_run : Stmt := top 48
abbrev s_with_count : Stmt := top 49
abbrev s_bring : Stmt := top 50
abbrev s_rows_to_bring : Stmt := top 51
abbrev s_soonest : Stmt := top 52
abbrev s_late_and_end : Stmt := top 53
abbrev s_late : Stmt := top 54
abbrev s_kept : Stmt := top 55
abbrev s_washes : Stmt := top 56
abbrev s_by_when : Stmt := top 57
abbrev s_brought : Stmt := top 58
abbrev s_filled : Stmt := top 59
abbrev s_look : Stmt := top 60
abbrev s_state : Stmt := top 61
abbrev s_parted : Stmt := top 65
abbrev s_begun : Stmt := top 66
abbrev s_asked : Stmt := top 67
abbrev s_answers : Stmt := top 68
end Hb

/-! The mathematics of the program against the specification: whole numbers and lists alone. -/
namespace HM
open Kh332

theorem up_int {x y : Nat} (hy : 0 < y) : ((x : Int) + (y : Int) - 1) / (y : Int) = ((up x y : Nat) : Int) := by
  unfold up
  have e : ((x : Int) + (y : Int) - 1) = (((x + y - 1 : Nat)) : Int) := by omega
  rw [e, Int.natCast_ediv]

theorem up_zero {y : Nat} (hy : 0 < y) : up 0 y = 0 := by
  unfold up
  exact Nat.div_eq_of_lt (by omega)
theorem up_pos {x y : Nat} (hx : 0 < x) (hy : 0 < y) : 0 < up x y := by
  unfold up
  exact Nat.div_pos (by omega) hy

/-- |x - y| as Python's abs has it -/
theorem abs_int (x y : Nat) : (if (x : Int) - (y : Int) < 0 then -((x : Int) - (y : Int)) else (x : Int) - (y : Int)) = (((x - y) + (y - x) : Nat) : Int) := by
  split <;> omega

/-- the first open hour, as the program has it -/
def opensZ (o c t : Int) : Int := if t % 24 < o then t - t % 24 + o else if c ≤ t % 24 then t - t % 24 + 24 + o else t
theorem opens_int (b : Boat) (t : Nat) : opensZ b.open_ b.close t = ((opens b t : Nat) : Int) := by
  unfold opensZ opens
  have e : ((t : Int) % 24) = ((t % 24 : Nat) : Int) := by omega
  rw [e]
  dsimp only
  by_cases h1 : t % 24 < b.open_
  · rw [if_pos (by omega), if_pos h1]
    omega
  · rw [if_neg (by omega), if_neg h1]
    by_cases h2 : t % 24 < b.close
    · rw [if_neg (by omega), if_pos h2]
    · rw [if_pos (by omega), if_neg h2]
      omega
theorem opens_day {b : Boat} (ho : b.open_ < b.close) (hc : b.close ≤ 24) (t : Nat) : b.open_ ≤ opens b t % 24 ∧ opens b t % 24 < b.close := by
  unfold opens
  dsimp only
  by_cases h1 : t % 24 < b.open_
  · rw [if_pos h1]; omega
  · rw [if_neg h1]
    by_cases h2 : t % 24 < b.close
    · rw [if_pos h2]; omega
    · rw [if_neg h2]; omega

/-- when all is unloaded, as the program has it: s the first open hour, n hours -/
theorem unl_core {o c s n : Nat} (ho : o ≤ s % 24) (hs : s % 24 < c) (hc : c ≤ 24) (hn : 0 < n) :
    (s - s % 24) + (s % 24 - o + n - 1) / (c - o) * 24 + o + (s % 24 - o + n - 1) % (c - o) + 1
      = if n ≤ c - s % 24 then s + n else s - s % 24 + 24 * ((n - (c - s % 24) - 1) / (c - o) + 1) + o + (n - (c - s % 24) - (n - (c - s % 24) - 1) / (c - o) * (c - o)) := by
  by_cases h : n ≤ c - s % 24
  · rw [if_pos h]
    have e1 : (s % 24 - o + n - 1) / (c - o) = 0 := Nat.div_eq_of_lt (by omega)
    have e2 : (s % 24 - o + n - 1) % (c - o) = s % 24 - o + n - 1 := Nat.mod_eq_of_lt (by omega)
    rw [e1, e2]
    omega
  · rw [if_neg h]
    obtain ⟨m, hm⟩ : ∃ m, n - (c - s % 24) = m + 1 := ⟨n - (c - s % 24) - 1, by omega⟩
    have e0 : s % 24 - o + n - 1 = (c - o) + m := by omega
    have e1 : (s % 24 - o + n - 1) / (c - o) = m / (c - o) + 1 := by
      rw [e0, Nat.add_comm, Nat.add_div_right _ (by omega)]
    have e2 : (s % 24 - o + n - 1) % (c - o) = m % (c - o) := by
      rw [e0, Nat.add_comm, Nat.add_mod_right]
    rw [e1, e2, hm]
    have e3 : m + 1 - 1 = m := by omega
    rw [e3]
    have e4 : m % (c - o) + (c - o) * (m / (c - o)) = m := Nat.mod_add_div m (c - o)
    have e5 : m / (c - o) * (c - o) = (c - o) * (m / (c - o)) := Nat.mul_comm _ _
    rw [e5]
    generalize (c - o) * (m / (c - o)) = q at e4 ⊢
    omega
theorem unl_nat {b : Boat} (ho : b.open_ < b.close) (hc : b.close ≤ 24) (hu : 0 < b.unload) (t kg : Nat) (hk : 0 < kg) :
    unloaded b t kg = (opens b t - opens b t % 24) + (opens b t % 24 - b.open_ + up kg b.unload - 1) / (b.close - b.open_) * 24 + b.open_ + (opens b t % 24 - b.open_ + up kg b.unload - 1) % (b.close - b.open_) + 1 := by
  obtain ⟨h1, h2⟩ := opens_day ho hc t
  have hn := up_pos hk hu
  rw [unl_core h1 h2 hc hn]
  unfold unloaded
  dsimp only
  rw [if_neg (by omega)]
theorem unl_zero {b : Boat} (hu : 0 < b.unload) (t : Nat) : unloaded b t 0 = t := by
  unfold unloaded
  dsimp only
  rw [up_zero hu, if_pos rfl]
theorem unl_int {b : Boat} (ho : b.open_ < b.close) (hc : b.close ≤ 24) (hu : 0 < b.unload) (t kg : Nat) (hk : 0 < kg) :
    let s : Int := ((opens b t : Nat) : Int)
    let last : Int := s % 24 - b.open_ + ((up kg b.unload : Nat) : Int) - 1
    (s - s % 24) + last / ((b.close : Int) - b.open_) * 24 + b.open_ + last % ((b.close : Int) - b.open_) + 1 = ((unloaded b t kg : Nat) : Int) := by
  intro s last
  obtain ⟨h1, h2⟩ := opens_day ho hc t
  have hn := up_pos hk hu
  have e0 : last = ((opens b t % 24 - b.open_ + up kg b.unload - 1 : Nat) : Int) := by
    show ((opens b t : Nat) : Int) % 24 - b.open_ + ((up kg b.unload : Nat) : Int) - 1 = _
    omega
  have e1 : ((b.close : Int) - b.open_) = ((b.close - b.open_ : Nat) : Int) := by omega
  rw [unl_nat ho hc hu t kg hk, e0, e1, ← Int.natCast_ediv, ← Int.natCast_emod]
  show ((opens b t : Nat) : Int) - ((opens b t : Nat) : Int) % 24 + _ * 24 + _ + _ + 1 = _
  generalize (opens b t % 24 - b.open_ + up kg b.unload - 1) / (b.close - b.open_) = q
  generalize (opens b t % 24 - b.open_ + up kg b.unload - 1) % (b.close - b.open_) = r
  omega
end HM

set_option Elab.async false
set_option linter.all false
set_option maxRecDepth 100000
set_option maxHeartbeats 2000000
/-! What is common: the classes' addresses, what of the text is known, how an object of each class stands on the heap. -/
namespace Hb
open PySem PySem.Spec PyProof.Rows L2
/-- the classes -/
structure Cs where
  boat : Addr
  cage : Addr
  course : Addr
  harvest : Addr
  plant : Addr
/-- what the text's top has written that the defs read -/
structure Tx (K : PySem.W.Frag) (mg : Str → Option Value) (c : Cs) : Prop where
  boat : Cls K c.boat
  cage : Cls K c.cage
  course : Cls K c.course
  harvest : Cls K c.harvest
  plant : Cls K c.plant
  aWell : NoAttr K c.boat "well"
  aSpeed : NoAttr K c.boat "speed"
  aLoad : NoAttr K c.boat "load"
  aWash : NoAttr K c.boat "wash"
  aAt : NoAttr K c.cage "at"
  aCZone : NoAttr K c.cage "zone"
  aHour : NoAttr K c.course "hour"
  aZone : NoAttr K c.course "zone"
  aLeft : NoAttr K c.course "left"
  aPlant : NoAttr K c.harvest "plant"
  aBoat : NoAttr K c.harvest "boat"
  aCages : NoAttr K c.harvest "cages"
  aOrders : NoAttr K c.harvest "orders"
  aCourse : NoAttr K c.harvest "course"
  aTrips : NoAttr K c.harvest "trips"
  aAll : NoAttr K c.harvest "brought_in_all"
  aOpens : NoAttr K c.plant "opens"
  aCloses : NoAttr K c.plant "closes"
  aUnload : NoAttr K c.plant "unload"
  day : ∃ t, mg "DAY" = some (.int 24 t)
  plantAt : ∃ t, mg "PLANT_AT" = some (.int 0 t)
  mostCages : ∃ t, mg "MOST_CAGES" = some (.int 5 t)
  mostOrders : ∃ t, mg "MOST_ORDERS" = some (.int 5 t)
  mostFish : ∃ t, mg "MOST_FISH" = some (.int 20000 t)
  rNoCage : ∃ t, mg "NO_SUCH_CAGE" = some (.int (-2) t)
  rNothing : ∃ t, mg "NOTHING_FETCHED" = some (.int (-6) t)
  rNotTold : ∃ t, mg "NOT_AS_TOLD" = some (.int (-22) t)
  rNoMore : ∃ t, mg "NO_MORE_FIT" = some (.int (-28) t)
  rZone : ∃ t, mg "NOT_ONE_ZONE" = some (.int (-33) t)
  rNotBegun : ∃ t, mg "NOT_BEGUN" = some (.int (-61) t)
  gBegin : ∃ t, mg "BEGIN" = some (.int 0 t)
  rNever : ∃ t, mg "NEVER" = some (.int (-33) t)
  notFilled : ∃ t, mg "NOT_FILLED_COUNTS" = some (.int 1000 t)
  len : mg "len" = none
  abs : mg "abs" = none
  min : mg "min" = none
  any : mg "any" = none
  all : mg "all" = none
  list : mg "list" = none
  enumerate : mg "enumerate" = none
  max : mg "max" = none
  sum : mg "sum" = none
  zip : mg "zip" = none
section
variable (P : Program) (w : World) (K : PySem.W.Frag) (mg : Str → Option Value) (base : Heap)
/-- a def that is called by its name: its promise -/
def Cl (x : Str) (ps : List Str) (k : Nat) (sp : Sp) : Prop :=
  ∃ (f : Addr) (fd : FuncData), FnOk P w K mg base CX0 k f fd ps sp ∧ Binds K fd ps [] ∧ mg x = some (.ref f) ∧ PySem.W.keepIn K (.ref f) = true
/-- a method -/
def ClM (C : Addr) (m : Str) (ps : List Str) (k : Nat) (sp : Sp) : Prop :=
  ∃ (f : Addr) (fd : FuncData), FnOk P w K mg base CX0 k f fd ps sp ∧ Binds K fd ps [] ∧ Meth K C m f
/-- a class that is made: its __init__'s promise -/
def ClN (x : Str) (C : Addr) (ps : List Str) (k : Nat) (sp : Sp) : Prop :=
  ∃ (f : Addr) (fd : FuncData), FnOk P w K mg base CX0 k f fd ps sp ∧ Binds K fd ps [] ∧ Mk K C f ∧ mg x = some (.ref C)
/-- a def as it stands behind the top -/
def Dn (x : Str) (st : Stmt) (ps : List Str) : Prop := ∃ (f : Addr) (fd : FuncData), Fun K x x st f fd ∧ Binds K fd ps [] ∧ mg x = some (.ref f)
def DnM (C : Addr) (m qual : Str) (st : Stmt) (ps : List Str) : Prop := ∃ (f : Addr) (fd : FuncData), Fun K m qual st f fd ∧ Binds K fd ps [] ∧ Meth K C m f
def DnN (x : Str) (C : Addr) (qual : Str) (st : Stmt) (ps : List Str) : Prop := ∃ (f : Addr) (fd : FuncData), Fun K "__init__" qual st f fd ∧ Binds K fd ps [] ∧ Mk K C f ∧ mg x = some (.ref C)
end
section
variable {P : Program} {w : World} {K : PySem.W.Frag} {mg : Str → Option Value} {base : Heap}
/-- THE RULE for a def -/
theorem Dn.ok {x : Str} {st : Stmt} {N ps : List Str} {k : Nat} {sp : Sp} (D : Dn K mg x st ps) (S : FnScope N ps (defScope st)) (len : ∀ vs H Q E, sp vs H Q E → vs.length = ps.length)
    (hbody : ∀ (f : Addr) (cdv : Value) (A : Around) (outer : List Env) (s : Shared) (H : Hp) (vs : List V) (Q : VK) (E : XK), Room k (A.deeper (envOfC x (defScope st) s.heap.objs.size f cdv)) → sp vs H Q E →
      ∃ t, PSs (cxOf CX0 P w K mg base N x (defScope st) f cdv A outer s H E).nox (defBody st) t ∧ t { nx := fun _ H' => Q .non H', rt := Q } (start N vs) H) : Cl P w K mg base x ps (k + 1) sp := by
  obtain ⟨f, fd, F, b, g⟩ := D
  exact ⟨f, fd, F.ok S len (hbody f), b, g, F.kp⟩
theorem DnM.ok {C : Addr} {m qual : Str} {st : Stmt} {N ps : List Str} {k : Nat} {sp : Sp} (D : DnM K C m qual st ps) (S : FnScope N ps (defScope st)) (len : ∀ vs H Q E, sp vs H Q E → vs.length = ps.length)
    (hbody : ∀ (f : Addr) (cdv : Value) (A : Around) (outer : List Env) (s : Shared) (H : Hp) (vs : List V) (Q : VK) (E : XK), Room k (A.deeper (envOfC qual (defScope st) s.heap.objs.size f cdv)) → sp vs H Q E →
      ∃ t, PSs (cxOf CX0 P w K mg base N qual (defScope st) f cdv A outer s H E).nox (defBody st) t ∧ t { nx := fun _ H' => Q .non H', rt := Q } (start N vs) H) : ClM P w K mg base C m ps (k + 1) sp := by
  obtain ⟨f, fd, F, b, g⟩ := D
  exact ⟨f, fd, F.ok S len (hbody f), b, g⟩
theorem DnN.ok {x : Str} {C : Addr} {qual : Str} {st : Stmt} {N ps : List Str} {k : Nat} {sp : Sp} (D : DnN K mg x C qual st ps) (S : FnScope N ps (defScope st)) (len : ∀ vs H Q E, sp vs H Q E → vs.length = ps.length)
    (hbody : ∀ (f : Addr) (cdv : Value) (A : Around) (outer : List Env) (s : Shared) (H : Hp) (vs : List V) (Q : VK) (E : XK), Room k (A.deeper (envOfC qual (defScope st) s.heap.objs.size f cdv)) → sp vs H Q E →
      ∃ t, PSs (cxOf CX0 P w K mg base N qual (defScope st) f cdv A outer s H E).nox (defBody st) t ∧ t { nx := fun _ H' => Q .non H', rt := Q } (start N vs) H) : ClN P w K mg base x C ps (k + 1) sp := by
  obtain ⟨f, fd, F, b, g⟩ := D
  exact ⟨f, fd, F.ok S len (hbody f), b, g⟩
end
section
variable {X : Cx}
/-- a global that is a whole number -/
theorem pg_int {x : Str} {i : Int} {pos : Pos} (hm : ∃ t, X.mg x = some (.int i t)) (hg : Gl X x := by rfl) (hd : (x == ("__debug__" : Str)) = false := by decide) : PE X (.Name x pos) (tC (.int i)) := by
  intro pins s σ H Q I h
  obtain ⟨t, e⟩ := hm
  exact pe_glob (v := .int i) hg e ⟨t, rfl⟩ hd pins s σ H Q I h
end
theorem q_int {Q : VK} {H : Hp} {i j : Int} (q : Q (.int j) H) (e : i = j) : Q (.int i) H := by
  rw [e]
  exact q
theorem q_bl {Q : VK} {H : Hp} {i j : Bool} (q : Q (.bl j) H) (e : i = j) : Q (.bl i) H := by
  rw [e]
  exact q
theorem if_d {c A B : Prop} [Decidable c] (h1 : c → A) (h2 : ¬ c → B) : if decide c = true then A else B := by
  by_cases h : c
  · rw [if_pos (decide_eq_true h)]
    exact h1 h
  · rw [if_neg (by rw [decide_eq_false h]; exact Bool.false_ne_true)]
    exact h2 h
theorem if_nd {c A B : Prop} [Decidable c] (h1 : ¬ c → A) (h2 : c → B) : if (!decide c) = true then A else B := by
  by_cases h : c
  · rw [decide_eq_true h]
    exact iteF (h2 h)
  · rw [decide_eq_false h]
    exact iteT (h1 h)
/-! ### heaps -/
/-- what was there stands as it was, but at S -/
def Keep (S : List Addr) (H H' : Hp) : Prop := ∀ b o, H b = some o → b ∉ S → H' b = some o
theorem Keep.refl {S : List Addr} {H : Hp} : Keep S H H := fun _ _ h _ => h
theorem Keep.trans {S : List Addr} {H H1 H2 : Hp} (a : Keep S H H1) (b : Keep S H1 H2) : Keep S H H2 := fun c o h n => b c o (a c o h n) n
theorem Keep.set {S : List Addr} {H H' : Hp} {a : Addr} {o : HO} (k : Keep S H H') (ha : a ∈ S) : Keep S H (L2.upd H' a o) := fun b u h n => by
  rw [upd_ne (show b ≠ a from fun e => n (by rw [e]; exact ha))]
  exact k b u h n
/-- an address that is new -/
theorem Keep.new {S : List Addr} {H H' : Hp} {a : Addr} {o : HO} (k : Keep S H H') (ha : H' a = none) : Keep S H (L2.upd H' a o) := fun b u h n => by
  rw [upd_ne (ne_of_none (k b u h n) ha)]
  exact k b u h n
theorem Keep.mono {S S' : List Addr} {H H' : Hp} (k : Keep S H H') (h : ∀ a ∈ S, a ∈ S') : Keep S' H H' := fun b u e n => k b u e fun m => n (h b m)
theorem Keep.same {H H' : Hp} (k : Keep [] H H') : Same H H' := fun b o e => k b o e (by simp)
/-! ### objects -/
def boatF (b : Kh332.Boat) : List (Str × V) := [("well", .int b.well), ("speed", .int b.speed), ("load", .int b.load), ("wash", .int b.wash)]
def plantF (b : Kh332.Boat) : List (Str × V) := [("opens", .int b.open_), ("closes", .int b.close), ("unload", .int b.unload)]
def cageF (x : Kh332.Cage) : List (Str × V) := [("at", .int x.at_), ("zone", .int x.zone)]
def zV : Option Nat → V
  | none => .non
  | some z => .int z
def courseF (t : Nat) (z : Option Nat) (ll : Addr) : List (Str × V) := [("hour", .int t), ("zone", zV z), ("left", .ref ll)]
theorem boatF_well (b : Kh332.Boat) : (boatF b).lookup ("well" : Str) = some (.int b.well) := rfl
theorem boatF_speed (b : Kh332.Boat) : (boatF b).lookup ("speed" : Str) = some (.int b.speed) := rfl
theorem boatF_load (b : Kh332.Boat) : (boatF b).lookup ("load" : Str) = some (.int b.load) := rfl
theorem boatF_wash (b : Kh332.Boat) : (boatF b).lookup ("wash" : Str) = some (.int b.wash) := rfl
theorem plantF_opens (b : Kh332.Boat) : (plantF b).lookup ("opens" : Str) = some (.int b.open_) := rfl
theorem plantF_closes (b : Kh332.Boat) : (plantF b).lookup ("closes" : Str) = some (.int b.close) := rfl
theorem plantF_unload (b : Kh332.Boat) : (plantF b).lookup ("unload" : Str) = some (.int b.unload) := rfl
theorem cageF_at (x : Kh332.Cage) : (cageF x).lookup ("at" : Str) = some (.int x.at_) := rfl
theorem cageF_zone (x : Kh332.Cage) : (cageF x).lookup ("zone" : Str) = some (.int x.zone) := rfl
theorem courseF_hour (t : Nat) (z : Option Nat) (ll : Addr) : (courseF t z ll).lookup ("hour" : Str) = some (.int t) := rfl
theorem courseF_zone (t : Nat) (z : Option Nat) (ll : Addr) : (courseF t z ll).lookup ("zone" : Str) = some (zV z) := rfl
theorem courseF_left (t : Nat) (z : Option Nat) (ll : Addr) : (courseF t z ll).lookup ("left" : Str) = some (.ref ll) := rfl
/-- a boat, a plant as told -/
structure BoatOk (b : Kh332.Boat) : Prop where
  well : 1000 ≤ b.well ∧ b.well ≤ 99999
  speed : 1 ≤ b.speed ∧ b.speed ≤ 50
  load : 100 ≤ b.load ∧ b.load ≤ 99999
  unload : 100 ≤ b.unload ∧ b.unload ≤ 99999
  wash : b.wash ≤ 48
  day : b.open_ < b.close ∧ b.close ≤ 24
end Hb

set_option Elab.async false
set_option linter.all false
set_option maxRecDepth 100000
set_option maxHeartbeats 2000000
/-! divided_up, sailing, first_open_hour, unloaded_at -/
namespace Hb
open PySem PySem.Spec PyProof.Rows L2
section
variable {P : Program} {w : World} {K : PySem.W.Frag} {mg : Str → Option Value} {base : Heap} {c : Cs}
def spDiv : Sp := fun vs H Q _ => ∃ x y : Nat, vs = [.int x, .int y] ∧ 0 < y ∧ y < 1073741824 ∧ Q (.int (Kh332.up x y : Nat)) H
theorem scDiv : FnScope ["number", "by"] ["number", "by"] (defScope s_divided_up) := ⟨rfl, rfl, rfl, by decide +kernel, rfl, by decide +kernel, by decide +kernel⟩
theorem ok_div (D : Dn K mg "divided_up" s_divided_up ["number", "by"]) : Cl P w K mg base "divided_up" ["number", "by"] 1 spDiv := by
  refine D.ok scDiv (fun vs H Q E h => ?_) (fun f cdv A outer s H vs Q E hr h => ?_)
  · obtain ⟨x, y, rfl, _⟩ := h
    rfl
  · obtain ⟨x, y, rfl, h1, h2, q⟩ := h
    refine ⟨_, pss_one (ps_ret (pe_op op_fdiv (pe_op op_sub (pe_op op_add (pv 0) (pv 1)) pe_int) (pv 1))), ?_⟩
    refine ⟨_, rfl, _, rfl, _, _, rfl, rfl, _, _, rfl, rfl, _, rfl, _, _, rfl, rfl, ⟨by omega, by omega⟩, ?_⟩
    exact q_int q (HM.up_int h1)
/-- sailing: reads the boat's speed -/
def spSail (c : Cs) : Sp := fun vs H Q _ => ∃ (p dx : Addr) (b : Kh332.Boat) (x y : Nat), vs = [.ref p, .int x, .int y] ∧ H p = some (.ins c.boat dx (boatF b)) ∧ BoatOk b ∧ Q (.int (Kh332.sail b x y : Nat)) H
theorem scSail : FnScope ["boat", "start", "goal"] ["boat", "start", "goal"] (defScope s_sailing) := ⟨rfl, rfl, rfl, by decide +kernel, rfl, by decide +kernel, by decide +kernel⟩
theorem ok_sail (T : Tx K mg c) (D : Dn K mg "sailing" s_sailing ["boat", "start", "goal"]) (C1 : Cl P w K mg base "divided_up" ["number", "by"] 1 spDiv) : Cl P w K mg base "sailing" ["boat", "start", "goal"] 2 (spSail c) := by
  refine D.ok scSail (fun vs H Q E h => ?_) (fun f cdv A outer s H vs Q E hr h => ?_)
  · obtain ⟨p, dx, b, x, y, rfl, _⟩ := h
    rfl
  · obtain ⟨p, dx, b, x, y, rfl, hp, B, q⟩ := h
    obtain ⟨f1, fd1, G1, b1, m1, k1⟩ := C1
    refine ⟨_, pss_one (ps_ret (pe_call G1 hr rfl m1 k1 b1 .nil pass0 (pa_cons (pe_callB call_abs rfl T.abs (by rfl) (pa_cons (pe_op op_sub (pv 1) (pv 2)) pa_nil)) (pa_cons (pe_fld (pv 0) rfl) pa_nil)))), ?_⟩
    refine ⟨_, rfl, _, rfl, _, _, rfl, rfl, _, rfl, _, rfl, p, _, dx, _, _, rfl, hp, T.boat, T.aSpeed, boatF_speed _, (x - y) + (y - x), b.speed, ?_, ?_⟩
    · rw [HM.abs_int]
      rfl
    · have := B.speed
      exact ⟨by omega, by omega, q⟩
/-- first_open_hour -/
def spOpen (c : Cs) : Sp := fun vs H Q _ => ∃ (p dx : Addr) (b : Kh332.Boat) (t : Nat), vs = [.ref p, .int t] ∧ H p = some (.ins c.plant dx (plantF b)) ∧ Q (.int (Kh332.opens b t : Nat)) H
theorem scOpen : FnScope ["self", "hour", "hour_of_day", "midnight"] ["self", "hour"] (defScope s_Plant_first_open_hour) := ⟨rfl, rfl, rfl, by decide +kernel, rfl, by decide +kernel, by decide +kernel⟩
theorem ok_open (T : Tx K mg c) (D : DnM K c.plant "first_open_hour" "Plant.first_open_hour" s_Plant_first_open_hour ["self", "hour"]) : ClM P w K mg base c.plant "first_open_hour" ["self", "hour"] 1 (spOpen c) := by
  refine D.ok scOpen (fun vs H Q E h => ?_) (fun f cdv A outer s H vs Q E hr h => ?_)
  · obtain ⟨p, dx, b, t, rfl, _⟩ := h
    rfl
  · obtain ⟨p, dx, b, t, rfl, hp, q⟩ := h
    refine ⟨_, pss_cons (ps_set (i := 2) scOpen.nd rfl (Or.inl rfl) (pe_op op_mod (pv 1) (pg_int T.day)))
      (pss_cons (ps_set (i := 3) scOpen.nd rfl (Or.inl rfl) (pe_op op_sub (pv 1) (pv 2)))
      (pss_cons (ps_if (pt_cmpR op_lt (pv 2) (pe_fld (pv 0) rfl) (nomark _)) (pss_one (ps_ret (pe_op op_add (pv 3) (pe_fld (pv 0) rfl)))) pss_nil)
      (pss_cons (ps_if (pt_cmpR op_ge (pv 2) (pe_fld (pv 0) rfl) (nomark _)) (pss_one (ps_ret (pe_op op_add (pe_op op_add (pv 3) (pg_int T.day)) (pe_fld (pv 0) rfl)))) pss_nil)
      (pss_one (ps_ret (pv 1)))))), ?_⟩
    have e := HM.opens_int b t
    unfold HM.opensZ at e
    refine ⟨_, rfl, _, _, rfl, rfl, (by show (0 : Int) < 24; decide), ?_⟩
    refine ⟨_, rfl, _, rfl, _, _, rfl, rfl, ?_⟩
    refine ⟨_, rfl, _, rfl, p, _, dx, _, _, rfl, hp, T.plant, T.aOpens, plantF_opens _, _, _, rfl, rfl, _, rfl, ?_⟩
    refine if_d (fun h1 => ?_) (fun h1 => ?_)
    · rw [if_pos h1] at e
      refine ⟨_, rfl, _, rfl, p, _, dx, _, _, rfl, hp, T.plant, T.aOpens, plantF_opens _, _, _, rfl, rfl, ?_⟩
      exact q_int q e
    · rw [if_neg h1] at e
      refine ⟨_, rfl, _, rfl, p, _, dx, _, _, rfl, hp, T.plant, T.aCloses, plantF_closes _, _, _, rfl, rfl, _, rfl, ?_⟩
      refine if_d (fun h2 => ?_) (fun h2 => ?_)
      · rw [if_pos h2] at e
        refine ⟨_, rfl, _, _, rfl, rfl, _, rfl, p, _, dx, _, _, rfl, hp, T.plant, T.aOpens, plantF_opens _, _, _, rfl, rfl, ?_⟩
        exact q_int q e
      · rw [if_neg h2] at e
        refine ⟨_, rfl, ?_⟩
        exact q_int q e
/-- unloaded_at -/
def spUnl (c : Cs) : Sp := fun vs H Q _ => ∃ (p dx : Addr) (b : Kh332.Boat) (t kg : Nat), vs = [.ref p, .int t, .int kg] ∧ H p = some (.ins c.plant dx (plantF b)) ∧ BoatOk b ∧ Q (.int (Kh332.unloaded b t kg : Nat)) H
theorem scUnl : FnScope ["self", "hour", "kg", "first", "midnight", "open_a_day", "last"] ["self", "hour", "kg"] (defScope s_Plant_unloaded_at) := ⟨rfl, rfl, rfl, by decide +kernel, rfl, by decide +kernel, by decide +kernel⟩
theorem ok_unl (T : Tx K mg c) (D : DnM K c.plant "unloaded_at" "Plant.unloaded_at" s_Plant_unloaded_at ["self", "hour", "kg"]) (C1 : Cl P w K mg base "divided_up" ["number", "by"] 1 spDiv)
    (C2 : ClM P w K mg base c.plant "first_open_hour" ["self", "hour"] 1 (spOpen c)) : ClM P w K mg base c.plant "unloaded_at" ["self", "hour", "kg"] 2 (spUnl c) := by
  refine D.ok scUnl (fun vs H Q E h => ?_) (fun f cdv A outer s H vs Q E hr h => ?_)
  · obtain ⟨p, dx, b, t, kg, rfl, _⟩ := h
    rfl
  · obtain ⟨p, dx, b, t, kg, rfl, hp, B, q⟩ := h
    obtain ⟨f1, fd1, G1, b1, m1, k1⟩ := C1
    obtain ⟨f2, fd2, G2, b2, m2⟩ := C2
    have hu := B.unload
    have hd := B.day
    refine ⟨_, pss_cons (ps_if (pt_cmpR op_eq (pv 2) pe_int (nomark _)) (pss_one (ps_ret (pv 1))) pss_nil)
      (pss_cons (ps_set (i := 3) scUnl.nd rfl (Or.inl rfl) (pe_meth (pv 0) T.plant m2 G2 hr b2 .nil pass0 (pa_cons (pv 1) pa_nil)))
      (pss_cons (ps_set (i := 4) scUnl.nd rfl (Or.inl rfl) (pe_op op_sub (pv 3) (pe_op op_mod (pv 3) (pg_int T.day))))
      (pss_cons (ps_set (i := 5) scUnl.nd rfl (Or.inl rfl) (pe_op op_sub (pe_fld (pv 0) rfl) (pe_fld (pv 0) rfl)))
      (pss_cons (ps_set (i := 6) scUnl.nd rfl (Or.inl rfl) (pe_op op_sub (pe_op op_add (pe_op op_sub (pe_op op_mod (pv 3) (pg_int T.day)) (pe_fld (pv 0) rfl)) (pe_call G1 hr rfl m1 k1 b1 .nil pass0 (pa_cons (pv 2) (pa_cons (pe_fld (pv 0) rfl) pa_nil)))) pe_int))
      (pss_one (ps_ret (pe_op op_add (pe_op op_add (pe_op op_add (pe_op op_add (pv 4) (pe_op op_mul (pe_op op_fdiv (pv 6) (pv 5)) (pg_int T.day))) (pe_fld (pv 0) rfl)) (pe_op op_mod (pv 6) (pv 5))) pe_int))))))), ?_⟩
    refine ⟨_, rfl, rfl, _, rfl, ?_⟩
    refine if_d (fun h1 => ?_) (fun h1 => ?_)
    · have e : kg = 0 := by
        have := V.int.inj h1
        omega
      subst e
      refine ⟨_, rfl, q_int q ?_⟩
      rw [HM.unl_zero (by omega)]
    · have hk : 0 < kg := by
        rcases Nat.eq_zero_or_pos kg with e | e
        · subst e
          exact absurd rfl h1
        · exact e
      -- first
      refine ⟨_, rfl, p, dx, _, rfl, hp, rfl, _, rfl, p, dx, b, t, rfl, hp, ?_⟩
      -- midnight
      refine ⟨_, rfl, _, rfl, _, _, rfl, rfl, (by show (0 : Int) < 24; decide), _, _, rfl, rfl, ?_⟩
      -- open_a_day
      refine ⟨_, rfl, p, _, dx, _, _, rfl, hp, T.plant, T.aCloses, plantF_closes _, _, rfl, p, _, dx, _, _, rfl, hp, T.plant, T.aOpens, plantF_opens _, _, _, rfl, rfl, ?_⟩
      -- last
      refine ⟨_, rfl, _, _, rfl, rfl, (by show (0 : Int) < 24; decide), _, rfl, p, _, dx, _, _, rfl, hp, T.plant, T.aOpens, plantF_opens _, _, _, rfl, rfl, _, rfl, _, rfl, p, _, dx, _, _, rfl, hp, T.plant, T.aUnload, plantF_unload _,
        kg, b.unload, rfl, by omega, by omega, _, _, rfl, rfl, _, _, rfl, rfl, ?_⟩
      refine ⟨_, rfl, _, rfl, _, rfl, _, _, rfl, rfl, ⟨by omega, by omega⟩, _, _, rfl, rfl, .inr ⟨by decide, by decide⟩, _, _, rfl, rfl, _, rfl, p, _, dx, _, _, rfl, hp, T.plant, T.aOpens, plantF_opens _, _, _, rfl, rfl,
        _, rfl, _, rfl, _, _, rfl, rfl, (by omega), _, _, rfl, rfl, _, _, rfl, rfl, ?_⟩
      exact q_int q (HM.unl_int hd.1 hd.2 (by omega) t kg hk)
end
end Hb

set_option Elab.async false
set_option linter.all false
set_option maxRecDepth 100000
set_option maxHeartbeats 2000000
/-! The harvest that is read (plant, boat, cages), the course that is changed; fetch -/
namespace Hb
open PySem PySem.Spec PyProof.Rows L2
abbrev vN : Nat → V := fun n => .int n
/-- addresses -/
structure Ra where
  h : Addr
  dh : Addr
  pl : Addr
  dpl : Addr
  bo : Addr
  dbo : Addr
  lc : Addr
  lo : Addr
  co : Addr
  lt : Addr
  cs : List Addr
def hvF (A : Ra) (n : Nat) : List (Str × V) := [("plant", .ref A.pl), ("boat", .ref A.bo), ("cages", .ref A.lc), ("orders", .ref A.lo), ("course", .ref A.co), ("trips", .ref A.lt), ("brought_in_all", .int n)]
theorem hvF_plant (A : Ra) (n : Nat) : (hvF A n).lookup ("plant" : Str) = some (.ref A.pl) := rfl
theorem hvF_boat (A : Ra) (n : Nat) : (hvF A n).lookup ("boat" : Str) = some (.ref A.bo) := rfl
theorem hvF_cages (A : Ra) (n : Nat) : (hvF A n).lookup ("cages" : Str) = some (.ref A.lc) := rfl
theorem hvF_orders (A : Ra) (n : Nat) : (hvF A n).lookup ("orders" : Str) = some (.ref A.lo) := rfl
theorem hvF_course (A : Ra) (n : Nat) : (hvF A n).lookup ("course" : Str) = some (.ref A.co) := rfl
theorem hvF_trips (A : Ra) (n : Nat) : (hvF A n).lookup ("trips" : Str) = some (.ref A.lt) := rfl
theorem hvF_all (A : Ra) (n : Nat) : (hvF A n).lookup ("brought_in_all" : Str) = some (.int n) := rfl
/-- what a trip reads of a harvest -/
structure Ro (c : Cs) (H : Hp) (A : Ra) (a : Kh332.Abs) : Prop where
  h : ∃ n : Nat, H A.h = some (.ins c.harvest A.dh (hvF A n))
  pl : H A.pl = some (.ins c.plant A.dpl (plantF a.boat))
  bo : H A.bo = some (.ins c.boat A.dbo (boatF a.boat))
  lc : H A.lc = some (.lst (A.cs.map V.ref))
  len : A.cs.length = a.cages.length
  cage : ∀ (i : Nat) (x : Addr) (g : Kh332.Cage), A.cs[i]? = some x → a.cages[i]? = some g → ∃ d, H x = some (.ins c.cage d (cageF g))
  ok : BoatOk a.boat
/-- a course -/
structure Co (c : Cs) (H : Hp) (co dco ll : Addr) (t : Nat) (z : Option Nat) (left : List Nat) : Prop where
  co : H co = some (.ins c.course dco (courseF t z ll))
  ll : H ll = some (.lst (left.map vN))
theorem hv_co {C C' d d' : Addr} {A : Ra} {n t : Nat} {z : Option Nat} {ll : Addr} : HO.ins C d (hvF A n) ≠ HO.ins C' d' (courseF t z ll) := by
  intro e
  have e2 := (HO.ins.inj e).2.2
  unfold hvF courseF at e2
  injection e2 with e3 _
  exact absurd (show ("plant" : Str) = "hour" from congrArg Prod.fst e3) (by decide +kernel)
theorem pl_co {C C' d d' : Addr} {b : Kh332.Boat} {t : Nat} {z : Option Nat} {ll : Addr} : HO.ins C d (plantF b) ≠ HO.ins C' d' (courseF t z ll) := by
  intro e
  have e2 := (HO.ins.inj e).2.2
  unfold plantF courseF at e2
  injection e2 with e3 _
  exact absurd (show ("opens" : Str) = "hour" from congrArg Prod.fst e3) (by decide +kernel)
theorem bo_co {C C' d d' : Addr} {b : Kh332.Boat} {t : Nat} {z : Option Nat} {ll : Addr} : HO.ins C d (boatF b) ≠ HO.ins C' d' (courseF t z ll) := by
  intro e
  have e2 := (HO.ins.inj e).2.2
  unfold boatF courseF at e2
  injection e2 with e3 _
  exact absurd (show ("well" : Str) = "hour" from congrArg Prod.fst e3) (by decide +kernel)
theorem cg_co {C C' d d' : Addr} {b : Kh332.Cage} {t : Nat} {z : Option Nat} {ll : Addr} : HO.ins C d (cageF b) ≠ HO.ins C' d' (courseF t z ll) := by
  intro e
  have e2 := (HO.ins.inj e).2.2
  unfold cageF courseF at e2
  injection e2 with e3 _
  exact absurd (show ("at" : Str) = "hour" from congrArg Prod.fst e3) (by decide +kernel)
theorem ins_lst {C d : Addr} {fs : List (Str × V)} {xs : List V} : HO.ins C d fs ≠ HO.lst xs := by
  intro e
  cases e
section
variable {c : Cs} {H H' : Hp} {A : Ra} {a : Kh332.Abs} {co dco ll : Addr} {t t' : Nat} {z z' : Option Nat} {left : List Nat}
theorem Co.ne (C : Co c H co dco ll t z left) : co ≠ ll := ne_of C.co C.ll ins_lst
/-- a trip's changes leave what is read of a harvest -/
theorem Ro.keep (R : Ro c H A a) (C : Co c H co dco ll t z left) (hl : A.lc ≠ ll) (k : Keep [co, ll] H H') : Ro c H' A a := by
  have no : ∀ {b : Addr} {o : HO}, H b = some o → b ≠ co → b ≠ ll → H' b = some o := fun {b o} e h1 h2 => k b o e (by
    intro m
    rcases List.mem_cons.mp m with m | m
    · exact h1 m
    · exact h2 (by simpa using m))
  obtain ⟨n, hh⟩ := R.h
  refine ⟨⟨n, no hh (ne_of hh C.co hv_co) (ne_of hh C.ll ins_lst)⟩, no R.pl (ne_of R.pl C.co pl_co) (ne_of R.pl C.ll ins_lst), no R.bo (ne_of R.bo C.co bo_co) (ne_of R.bo C.ll ins_lst), no R.lc (ne_of R.lc C.co (Ne.symm ins_lst)) hl, R.len,
    fun i x g hx hg => ?_, R.ok⟩
  obtain ⟨d, hd⟩ := R.cage i x g hx hg
  exact ⟨d, no hd (ne_of hd C.co cg_co) (ne_of hd C.ll ins_lst)⟩
theorem put_hour (v : V) (t : Nat) (z : Option Nat) (ll : Addr) : putF "hour" v (courseF t z ll) = ([("hour", v), ("zone", zV z), ("left", .ref ll)] : List (Str × V)) := rfl
theorem put_zone (v : V) (t : Nat) (z : Option Nat) (ll : Addr) : putF "zone" v (courseF t z ll) = ([("hour", .int t), ("zone", v), ("left", .ref ll)] : List (Str × V)) := rfl
theorem Co.hour (C : Co c H co dco ll t z left) {v : V} (hv : v = .int t') : Co c (upd H co (.ins c.course dco (putF "hour" v (courseF t z ll)))) co dco ll t' z left := by
  subst hv
  refine ⟨?_, ?_⟩
  · rw [upd_same, put_hour]
    rfl
  · rw [upd_ne C.ne.symm]
    exact C.ll
theorem Co.zone (C : Co c H co dco ll t z left) {v : V} (hv : v = zV z') : Co c (upd H co (.ins c.course dco (putF "zone" v (courseF t z ll)))) co dco ll t z' left := by
  subst hv
  refine ⟨?_, ?_⟩
  · rw [upd_same, put_zone]
    rfl
  · rw [upd_ne C.ne.symm]
    exact C.ll
theorem Co.setl (C : Co c H co dco ll t z left) {xs : List V} {left' : List Nat} (hv : xs = left'.map vN) : Co c (upd H ll (.lst xs)) co dco ll t z left' := by
  subst hv
  refine ⟨?_, upd_same⟩
  rw [upd_ne C.ne]
  exact C.co
end
section
variable {X : Cx}
/-- xs[k], by values -/
def rGet (K : PySem.W.Frag) : V → V → Hp → VK → Prop := fun x y H Q => ∃ (p : Addr) (xs : List V) (k : Nat) (v : V), x = .ref p ∧ y = .int k ∧ SqL K H p xs ∧ xs[k]? = some v ∧ Q v H
theorem get_list : PGet X (rGet X.K) := by
  intro pins s σ H o i ov iv Q I ro ri h
  obtain ⟨p, xs, k, v, rfl, rfl, hq, he, q⟩ := h
  cases ro
  obtain ⟨t, rfl⟩ := ri
  obtain ⟨its, r, pl, hz⟩ := I.list hq
  obtain ⟨w, ew, rw'⟩ := r.get he
  have hk : k < xs.length := (List.getElem?_eq_some_iff.mp he).1
  have hn := line63
  exact wpAny_getItem_list pl.isList (by omega) (by omega) (by simpa using ew) ⟨v, H, I, rw', q⟩
end
theorem get_map {α β : Type} {f : α → β} {l : List α} {i : Nat} {x : α} (h : l[i]? = some x) : (l.map f)[i]? = some (f x) := by
  rw [List.getElem?_map, h]
  rfl
theorem ixN_nat {n k : Nat} (h : k < n) : ixN n (k : Int) = some k := by
  unfold ixN
  rw [if_pos (by omega), if_pos (by omega)]
  simp
end Hb

set_option Elab.async false
set_option linter.all false
set_option maxRecDepth 100000
set_option maxHeartbeats 2000000
namespace HM
open Kh332
theorem goes_inv {a : Abs} {w : Way} {i : Nat} (h : w.load ≤ a.boat.well) : (goes a w i).load ≤ a.boat.well ∧ (goes a w i).left.length = w.left.length := by
  unfold goes
  dsimp only
  split
  · exact ⟨h, rfl⟩
  · exact ⟨by show w.load + _ ≤ _; omega, by show (w.left.set _ _).length = _; rw [List.length_set]⟩
theorem fold_inv {a : Abs} : ∀ (l : List Nat) {w : Way}, w.load ≤ a.boat.well → (l.foldl (goes a) w).load ≤ a.boat.well ∧ (l.foldl (goes a) w).left.length = w.left.length
  | [], w, h => ⟨h, rfl⟩
  | i :: l, w, h => by
    obtain ⟨h1, h2⟩ := goes_inv (i := i) h
    obtain ⟨h3, h4⟩ := fold_inv l h1
    exact ⟨h3, h4.trans h2⟩
theorem take_snoc {α : Type} : ∀ {l : List α} {i : Nat} {x : α}, l[i]? = some x → l.take (i + 1) = l.take i ++ [x]
  | [], i, x, h => by simp at h
  | a :: l, 0, x, h => by
    have e : a = x := Option.some.inj h
    subst e
    rfl
  | a :: l, i + 1, x, h => by
    have ih := take_snoc (l := l) (i := i) (x := x) h
    show a :: l.take (i + 1) = a :: l.take i ++ [x]
    rw [ih]
    rfl
theorem fold_take {α β : Type} {f : β → α → β} {l : List α} {i : Nat} {x : α} {b : β} (h : l[i]? = some x) : (l.take (i + 1)).foldl f b = f ((l.take i).foldl f b) x := by
  rw [take_snoc h, List.foldl_append]
  rfl
end HM
namespace Hb
open PySem PySem.Spec PyProof.Rows L2
section
variable {P : Program} {w : World} {K : PySem.W.Frag} {mg : Str → Option Value} {base : Heap} {c : Cs}
def fetched (a : Kh332.Abs) (t : Nat) (left row : List Nat) : Kh332.Way := row.foldl (Kh332.goes a) ⟨t, 0, 0, left⟩
def spFetch (c : Cs) : Sp := fun vs H Q _ => ∃ (A : Ra) (a : Kh332.Abs) (co dco ll r : Addr) (t : Nat) (z : Option Nat) (left row : List Nat), vs = [.ref A.h, .ref co, .ref r] ∧ Ro c H A a ∧ Co c H co dco ll t z left ∧ A.lc ≠ ll ∧
  H r = some (.lst (row.map vN)) ∧ r ≠ ll ∧ (∀ i ∈ row, i < a.cages.length) ∧ left.length = a.cages.length ∧
  ∀ H', Co c H' co dco ll ((fetched a t left row).time + Kh332.sail a.boat (fetched a t left row).at_ 0) z (fetched a t left row).left → Keep [co, ll] H H' → Q (.int ((fetched a t left row).load : Nat)) H'
theorem scFetch : FnScope ["harvest", "course", "row", "boat", "at", "room", "i", "taken"] ["harvest", "course", "row"] (defScope s_fetch) := ⟨rfl, rfl, rfl, by decide +kernel, rfl, by decide +kernel, by decide +kernel⟩
theorem ok_fetch (T : Tx K mg c) (D : Dn K mg "fetch" s_fetch ["harvest", "course", "row"]) (C1 : Cl P w K mg base "divided_up" ["number", "by"] 1 spDiv) (C2 : Cl P w K mg base "sailing" ["boat", "start", "goal"] 2 (spSail c)) :
    Cl P w K mg base "fetch" ["harvest", "course", "row"] 3 (spFetch c) := by
  refine D.ok scFetch (fun vs H Q E h => ?_) (fun f cdv A outer s H vs Q E hr h => ?_)
  · obtain ⟨A, a, co, dco, ll, r, t, z, left, row, rfl, _⟩ := h
    rfl
  · obtain ⟨A, a, co, dco, ll, r, t, z, left, row, rfl, R, C, hll, hrow, hrl, hin, hlen, q⟩ := h
    obtain ⟨f1, fd1, G1, b1, m1, k1⟩ := C1
    obtain ⟨f2, fd2, G2, b2, m2, k2⟩ := C2
    have hr1 : Room 1 _ := hr.mono (by decide)
    have nd := scFetch.nd
    refine ⟨_, pss_cons (ps_set (i := 3) nd rfl (Or.inl rfl) (pe_fld (pv 0) rfl))
      (pss_cons (ps_set (i := 4) nd rfl (Or.inl rfl) (pg_int T.plantAt))
      (pss_cons (ps_set (i := 5) nd rfl (Or.inl rfl) (pe_fld (pv 3) rfl))
      (pss_cons (ps_for PassesOwn.never rfl (pi_list (pv 2)) (pg_name (i := 6) nd rfl (Or.inl rfl))
        (pss_cons (ps_set (i := 7) nd rfl (Or.inl rfl) (pe_callB (call_min2 rfl) rfl T.min (by rfl) (pa_cons (pe_ix ix_list (pe_fld (pv 1) rfl) (pv 6) (fun _ _ => rfl)) (pa_cons (pv 5) pa_nil))))
        (pss_one (ps_if (pt_cmpR op_gt (pv 7) pe_int (nomark _))
          (pss_cons (ps_fldaug (pv 1) (pe_op op_add (pe_call G2 hr rfl m2 k2 b2 .nil pass0 (pa_cons (pv 3) (pa_cons (pv 4) (pa_cons (pe_fld (pe_ix ix_list (pe_fld (pv 0) rfl) (pv 6) (fun _ _ => rfl)) rfl) pa_nil))))
            (pe_call G1 hr1 rfl m1 k1 b1 .nil pass0 (pa_cons (pv 7) (pa_cons (pe_fld (pv 3) rfl) pa_nil)))) in_add)
          (pss_cons (ps_augS (pe_fld (pv 1) rfl) (pv 6) get_list (pv 7) ip_sub set_list)
          (pss_cons (ps_set (i := 4) nd rfl (Or.inl rfl) (pe_fld (pe_ix ix_list (pe_fld (pv 0) rfl) (pv 6) (fun _ _ => rfl)) rfl))
          (pss_one (ps_aug (i := 5) nd rfl (Or.inl rfl) (pv 7) ip_sub)))))
          pss_nil))))
      (pss_cons (ps_fldaug (pv 1) (pe_call G2 hr rfl m2 k2 b2 .nil pass0 (pa_cons (pv 3) (pa_cons (pv 4) (pa_cons (pg_int T.plantAt) pa_nil)))) in_add)
      (pss_one (ps_ret (pe_op op_sub (pe_fld (pv 3) rfl) (pv 5)))))))), ?_⟩
    obtain ⟨nA, hh⟩ := R.h
    refine ⟨_, rfl, A.h, _, A.dh, _, _, rfl, hh, T.harvest, T.aBoat, hvF_boat _ _, ?_⟩
    refine ⟨_, rfl, A.bo, _, A.dbo, _, _, rfl, R.bo, T.boat, T.aWell, boatF_well _, ?_⟩
    -- the loop
    refine ⟨_, rfl, r, rfl, ⟨_, SqL.of hrow⟩, for_list (K := K) (a := r) (xs := row.map vN) (fun i σ H' => ∃ (v6 v7 : Option V), σ = [some (.ref A.h), some (.ref co), some (.ref r), some (.ref A.bo), some (.int ((fetched a t left (row.take i)).at_ : Nat)), some (.int ((a.boat.well - (fetched a t left (row.take i)).load : Nat))), v6, v7] ∧
        Co c H' co dco ll (fetched a t left (row.take i)).time z (fetched a t left (row.take i)).left ∧ Keep [co, ll] H H')
      ⟨none, none, rfl, C, Keep.refl⟩ (fun i σ H' _ ⟨_, _, _, _, k⟩ => SqL.of (k _ _ hrow (by
        intro m
        rcases List.mem_cons.mp m with m | m
        · exact ne_of hrow C.co (Ne.symm ins_lst) m
        · exact hrl (by simpa using m)))) ?_ ?_⟩
    · rintro i y σ H' hi ⟨v6, v7, rfl, C', kp⟩
      obtain ⟨n, hn, rfl⟩ : ∃ n, row[i]? = some n ∧ y = vN n := by
        rw [List.getElem?_map] at hi
        cases e : row[i]? with
        | none =>
          rw [e] at hi
          cases hi
        | some n =>
          rw [e] at hi
          exact ⟨n, rfl, (Option.some.inj hi).symm⟩
      have hnl : n < a.cages.length := hin n (List.mem_of_getElem? hn)
      obtain ⟨hload, hl2⟩ := HM.fold_inv (a := a) (row.take i) (w := ⟨t, 0, 0, left⟩) (Nat.zero_le _)
      have efold : fetched a t left (row.take (i + 1)) = Kh332.goes a (fetched a t left (row.take i)) n := HM.fold_take hn
      rw [efold]
      change (fetched a t left (row.take i)).load ≤ a.boat.well at hload
      change (fetched a t left (row.take i)).left.length = left.length at hl2
      generalize fetched a t left (row.take i) = wy at C' hload hl2 ⊢
      obtain ⟨g, hg⟩ : ∃ g, a.cages[n]? = some g := ⟨_, List.getElem?_eq_getElem hnl⟩
      obtain ⟨x, hx⟩ : ∃ x, A.cs[n]? = some x := ⟨_, List.getElem?_eq_getElem (by rw [R.len]; exact hnl)⟩
      obtain ⟨y, hy⟩ : ∃ y, wy.left[n]? = some y := ⟨_, List.getElem?_eq_getElem (by omega)⟩
      have ey : wy.left.getD n 0 = y := by rw [List.getD_eq_getElem?_getD, hy]; rfl
      have eg : a.cages.getD n ⟨0, 0, 0⟩ = g := by rw [List.getD_eq_getElem?_getD, hg]; rfl
      have R' := R.keep C hll kp
      obtain ⟨dg, hdg⟩ := R'.cage n x g hx hg
      obtain ⟨nA', hh'⟩ := R'.h
      -- taken
      refine ⟨_, rfl, co, _, dco, _, _, rfl, C'.co, T.course, T.aLeft, courseF_left _ _ _, _, rfl, ll, _, _, _, rfl, rfl, SqL.of C'.ll, atI_nat (get_map hy), _, rfl, _, _, rfl, ?_⟩
      have emin : (if ((a.boat.well - wy.load : Nat) : Int) < (y : Int) then ((a.boat.well - wy.load : Nat) : Int) else (y : Int)) = ((Min.min y (a.boat.well - wy.load) : Nat) : Int) := by
        split <;> omega
      rw [emin]
      refine ⟨_, rfl, _, _, rfl, rfl, _, rfl, ?_⟩
      refine if_d (fun h1 => ?_) (fun h1 => ?_)
      · have hq : ¬ Min.min y (a.boat.well - wy.load) = 0 := by omega
        have egoes : Kh332.goes a wy n = ⟨wy.time + Kh332.sail a.boat wy.at_ g.at_ + Kh332.up (Min.min y (a.boat.well - wy.load)) a.boat.load, g.at_, wy.load + Min.min y (a.boat.well - wy.load), wy.left.set n (y - Min.min y (a.boat.well - wy.load))⟩ := by
          unfold Kh332.goes
          dsimp only
          rw [ey, eg, if_neg hq]
        rw [egoes]
        generalize hqq : Min.min y (a.boat.well - wy.load) = qn at *
        have hb := R.ok.load
        -- course.hour += ..
        refine ⟨_, rfl, co, _, dco, _, _, rfl, C'.co, T.course, T.aHour, courseF_hour _ _ _, ?_⟩
        refine ⟨_, rfl, _, rfl, _, rfl, A.h, _, A.dh, _, _, rfl, hh', T.harvest, T.aCages, hvF_cages _ _, _, rfl, A.lc, _, _, _, rfl, rfl, SqL.of R'.lc, atI_nat (get_map hx), x, _, dg, _, _, rfl, hdg, T.cage, T.aAt, cageF_at _,
          A.bo, A.dbo, a.boat, wy.at_, g.at_, rfl, R'.bo, R'.ok, ?_⟩
        refine ⟨_, rfl, _, rfl, A.bo, _, A.dbo, _, _, rfl, R'.bo, T.boat, T.aLoad, boatF_load _, qn, a.boat.load, rfl, by omega, by omega, _, _, rfl, rfl, _, _, rfl, rfl, dco, _, C'.co, (by show 3 < 1000; decide), ?_⟩
        have C2 := C'.hour (t' := wy.time + Kh332.sail a.boat wy.at_ g.at_ + Kh332.up qn a.boat.load) (v := V.int ((wy.time : Int) + (((Kh332.sail a.boat wy.at_ g.at_ : Nat) : Int) + ((Kh332.up qn a.boat.load : Nat) : Int)))) (congrArg V.int (by omega))
        have kp2 := kp.set (a := co) (o := .ins c.course dco (putF "hour" (V.int ((wy.time : Int) + (((Kh332.sail a.boat wy.at_ g.at_ : Nat) : Int) + ((Kh332.up qn a.boat.load : Nat) : Int)))) (courseF wy.time z ll))) (by simp)
        -- course.left[i] -= taken
        refine ⟨_, rfl, co, _, dco, _, _, rfl, C2.co, T.course, T.aLeft, courseF_left _ _ _, _, rfl, ll, _, n, _, rfl, rfl, SqL.of C2.ll, get_map hy, _, rfl, _, _, rfl, rfl, ll, _, _, n, rfl, rfl, C2.ll, ixN_nat (by rw [List.length_map]; omega), ?_⟩
        have eset : (wy.left.map vN).set n (V.int ((y : Int) - (qn : Int))) = (wy.left.set n (y - qn)).map vN := by
          rw [List.map_set]
          refine congrArg _ (congrArg V.int ?_)
          omega
        have C3 := C2.setl eset
        have kp3 := kp2.set (a := ll) (o := .lst ((wy.left.map vN).set n (V.int ((y : Int) - (qn : Int))))) (by simp)
        have R3 := R.keep C hll kp3
        obtain ⟨dg3, hdg3⟩ := R3.cage n x g hx hg
        obtain ⟨nA3, hh3⟩ := R3.h
        -- at = ..
        refine ⟨_, rfl, A.h, _, A.dh, _, _, rfl, hh3, T.harvest, T.aCages, hvF_cages _ _, _, rfl, A.lc, _, _, _, rfl, rfl, SqL.of R3.lc, atI_nat (get_map hx), x, _, dg3, _, _, rfl, hdg3, T.cage, T.aAt, cageF_at _, ?_⟩
        -- room -= taken
        refine ⟨_, rfl, _, rfl, _, _, rfl, rfl, ?_⟩
        have e5 : ((a.boat.well - wy.load : Nat) : Int) - (qn : Int) = ((a.boat.well - (wy.load + qn) : Nat) : Int) := by omega
        refine ⟨some (vN n), some (V.int qn), ?_, C3, kp3⟩
        dsimp only
        rw [← e5]
        rfl
      · have hq : Min.min y (a.boat.well - wy.load) = 0 := by omega
        have egoes : Kh332.goes a wy n = wy := by
          unfold Kh332.goes
          dsimp only
          rw [ey, eg, if_pos hq]
        rw [egoes]
        exact ⟨_, _, rfl, C', kp⟩
    · rintro σ H' ⟨v6, v7, rfl, C', kp⟩
      rw [List.length_map, List.take_length] at C' ⊢
      obtain ⟨hload, hl2⟩ := HM.fold_inv (a := a) row (w := ⟨t, 0, 0, left⟩) (Nat.zero_le _)
      change (fetched a t left row).load ≤ a.boat.well at hload
      generalize fetched a t left row = wy at C' hload q ⊢
      have R' := R.keep C hll kp
      refine ⟨_, rfl, co, _, dco, _, _, rfl, C'.co, T.course, T.aHour, courseF_hour _ _ _, ?_⟩
      refine ⟨_, rfl, _, rfl, A.bo, A.dbo, a.boat, wy.at_, 0, rfl, R'.bo, R'.ok, _, _, rfl, rfl, dco, _, C'.co, (by show 3 < 1000; decide), ?_⟩
      have C2 := C'.hour (t' := wy.time + Kh332.sail a.boat wy.at_ 0) (v := V.int ((wy.time : Int) + ((Kh332.sail a.boat wy.at_ 0 : Nat) : Int))) (congrArg V.int (by omega))
      have kp2 := kp.set (a := co) (o := .ins c.course dco (putF "hour" (V.int ((wy.time : Int) + ((Kh332.sail a.boat wy.at_ 0 : Nat) : Int))) (courseF wy.time z ll))) (by simp)
      have R2 := R.keep C hll kp2
      refine ⟨_, rfl, A.bo, _, A.dbo, _, _, rfl, R2.bo, T.boat, T.aWell, boatF_well _, _, rfl, _, _, rfl, rfl, ?_⟩
      exact q_int (q _ C2 kp2) (by omega)
end
end Hb

set_option Elab.async false
set_option linter.all false
set_option maxRecDepth 100000
set_option maxHeartbeats 2000000
namespace Hb
open PySem PySem.Spec PyProof.Rows L2
/-- what is wanted behind a statement, said in one's own words -/
def tCut (t : TS) : TS := fun D σ H => ∃ N : L2.St → Hp → Prop, t { D with nx := N } σ H ∧ ∀ σ' H', N σ' H' → D.nx σ' H'
theorem ps_cut {X : Cx} {st : Stmt} {t : TS} (h : PS X st t) : PS X st (tCut t) := by
  intro pins s σ H D I hw
  obtain ⟨N, hw, hN⟩ := hw
  refine thn (h pins s σ H _ I hw) fun f s1 q => ?_
  cases f with
  | next => obtain ⟨σ', H', I2, q⟩ := q; exact ⟨σ', H', I2, hN _ _ q⟩
  | brk => exact q
  | cont => exact q
  | ret v => exact q
def tCutE (t : TE) : TE := fun σ H Q => ∃ N : VK, t σ H N ∧ ∀ v H', N v H' → Q v H'
theorem pe_cut {X : Cx} {e : Expr} {t : TE} (h : PE X e t) : PE X e (tCutE t) := by
  intro pins s σ H Q I hw
  obtain ⟨N, hw, hN⟩ := hw
  exact thn (h pins s σ H _ I hw) fun v s1 ⟨x, H1, I1, r, q⟩ => ⟨x, H1, I1, r, hN _ _ q⟩
theorem zoneOf_at {a : Kh332.Abs} {i : Nat} {g : Kh332.Cage} (h : a.cages[i]? = some g) : Kh332.zoneOf a i = g.zone := by
  unfold Kh332.zoneOf
  rw [h]
  rfl
section
variable {P : Program} {w : World} {K : PySem.W.Frag} {mg : Str → Option Value} {base : Heap} {c : Cs}
def spTrip (c : Cs) : Sp := fun vs H Q _ => ∃ (A : Ra) (a : Kh332.Abs) (co dco ll r : Addr) (t : Nat) (z : Option Nat) (left row : List Nat), vs = [.ref A.h, .ref co, .ref r] ∧ Ro c H A a ∧ Co c H co dco ll t z left ∧ A.lc ≠ ll ∧
  H r = some (.lst (row.map vN)) ∧ r ≠ ll ∧ row ≠ [] ∧ (∀ i ∈ row, i < a.cages.length) ∧ left.length = a.cages.length ∧
  ∀ H', Co c H' co dco ll (Kh332.trip a t z left row).1 (some (Kh332.zoneOf a (row.headD 0))) (Kh332.trip a t z left row).2.2 → Keep [co, ll] H H' → Q (.int ((Kh332.trip a t z left row).2.1 : Nat)) H'
theorem scTrip : FnScope ["harvest", "course", "row", "zone", "fetched"] ["harvest", "course", "row"] (defScope s_make_trip) := ⟨rfl, rfl, rfl, by decide +kernel, rfl, by decide +kernel, by decide +kernel⟩
theorem ok_trip (T : Tx K mg c) (D : Dn K mg "make_trip" s_make_trip ["harvest", "course", "row"]) (C1 : Cl P w K mg base "fetch" ["harvest", "course", "row"] 3 (spFetch c)) (C2 : ClM P w K mg base c.plant "unloaded_at" ["self", "hour", "kg"] 2 (spUnl c)) :
    Cl P w K mg base "make_trip" ["harvest", "course", "row"] 4 (spTrip c) := by
  refine D.ok scTrip (fun vs H Q E h => ?_) (fun f cdv A outer s H vs Q E hr h => ?_)
  · obtain ⟨A, a, co, dco, ll, r, t, z, left, row, rfl, _⟩ := h
    rfl
  · obtain ⟨A, a, co, dco, ll, r, t, z, left, row, rfl, R, C, hll, hrow, hrl, hne, hin, hlen, q⟩ := h
    obtain ⟨f1, fd1, G1, b1, m1, k1⟩ := C1
    obtain ⟨f2, fd2, G2, b2, m2⟩ := C2
    have hr2 : Room 2 _ := hr.mono (by decide)
    have nd := scTrip.nd
    refine ⟨_, pss_cons (ps_set (i := 3) nd rfl (Or.inl rfl) (pe_fld (pe_ix ix_list (pe_fld (pv 0) rfl) (pe_ix ix_list (pv 2) pe_int (fun _ _ => rfl)) (fun _ _ => rfl)) rfl))
      (pss_cons (ps_cut (ps_if (pw_and (pt_cmpR op_notN (pe_fld (pv 1) rfl) pe_non (nomark _)) (pw_and1 (pt_cmpR op_ne (pe_fld (pv 1) rfl) (pv 3) (nomark _)))).pt
        (pss_one (ps_fldaug (pv 1) (pe_fld (pe_fld (pv 0) rfl) rfl) in_add)) pss_nil))
      (pss_cons (ps_set (i := 4) nd rfl (Or.inl rfl) (pe_call G1 hr rfl m1 k1 b1 .nil pass0 (pa_cons (pv 0) (pa_cons (pv 1) (pa_cons (pv 2) pa_nil)))))
      (pss_cons (ps_fld (pv 1) (pe_meth (pe_fld (pv 0) rfl) T.plant m2 G2 hr2 b2 .nil pass0 (pa_cons (pe_fld (pv 1) rfl) (pa_cons (pv 4) pa_nil))) rfl)
      (pss_cons (ps_fld (pv 1) (pv 3) rfl)
      (pss_one (ps_ret (pv 4))))))), ?_⟩
    obtain ⟨i0, row', rfl⟩ : ∃ i0 row', row = i0 :: row' := by
      cases row with
      | nil => exact absurd rfl hne
      | cons x y => exact ⟨x, y, rfl⟩
    have hi0 : i0 < a.cages.length := hin i0 (by simp)
    obtain ⟨g, hg⟩ : ∃ g, a.cages[i0]? = some g := ⟨_, List.getElem?_eq_getElem hi0⟩
    obtain ⟨x, hx⟩ : ∃ x, A.cs[i0]? = some x := ⟨_, List.getElem?_eq_getElem (by rw [R.len]; exact hi0)⟩
    obtain ⟨dg, hdg⟩ := R.cage i0 x g hx hg
    obtain ⟨nA, hh⟩ := R.h
    have ez : Kh332.zoneOf a ((i0 :: row').headD 0) = g.zone := zoneOf_at hg
    refine ⟨_, rfl, A.h, _, A.dh, _, _, rfl, hh, T.harvest, T.aCages, hvF_cages _ _, _, rfl, r, _, _, _, rfl, rfl, SqL.of hrow, atI_nat (j := 0) rfl, A.lc, _, _, _, rfl, rfl, SqL.of R.lc, atI_nat (get_map hx), x, _, dg, _, _, rfl, hdg, T.cage, T.aCZone, cageF_zone _, ?_⟩
    refine ⟨fun σ' H1 => σ' = [some (.ref A.h), some (.ref co), some (.ref r), some (.int g.zone), none] ∧ Co c H1 co dco ll (Kh332.leaves a t z g.zone) z left ∧ Keep [co, ll] H H1, ?_, ?_⟩
    · refine ⟨_, rfl, co, _, dco, _, _, rfl, C.co, T.course, T.aZone, courseF_zone _ _ _, rfl, _, rfl, ?_⟩
      refine if_nd (fun h1 => ?_) (fun h1 => ?_)
      · cases z with
        | none => exact absurd rfl h1
        | some y =>
          refine ⟨_, rfl, co, _, dco, _, _, rfl, C.co, T.course, T.aZone, courseF_zone _ _ _, _, rfl, rfl, _, rfl, ?_⟩
          refine if_nd (fun h2 => ?_) (fun h2 => ?_)
          · have hy : ¬ y = g.zone := fun e => h2 (by rw [e]; rfl)
            refine ⟨_, rfl, co, _, dco, _, _, rfl, C.co, T.course, T.aHour, courseF_hour _ _ _, _, rfl, A.h, _, A.dh, _, _, rfl, hh, T.harvest, T.aBoat, hvF_boat _ _, A.bo, _, A.dbo, _, _, rfl, R.bo, T.boat, T.aWash, boatF_wash _,
              _, _, rfl, rfl, dco, _, C.co, (by show 3 < 1000; decide), rfl, ?_, ?_⟩
            · refine C.hour ?_
              unfold Kh332.leaves
              dsimp only
              rw [if_neg hy]
              exact congrArg V.int (by omega)
            · exact Keep.refl.set (by simp)
          · have hy : y = g.zone := by
              have := V.int.inj h2
              omega
            refine ⟨rfl, ?_, Keep.refl⟩
            unfold Kh332.leaves
            dsimp only
            rw [if_pos hy]
            exact C
      · cases z with
        | none => exact ⟨rfl, C, Keep.refl⟩
        | some y => cases h1
    · rintro σ' H1 ⟨rfl, C1, kp⟩
      have R1 := R.keep C hll kp
      have hrow1 : H1 r = some (.lst ((i0 :: row').map vN)) := kp _ _ hrow (by
        intro m
        rcases List.mem_cons.mp m with m | m
        · exact ne_of hrow C.co (Ne.symm ins_lst) m
        · exact hrl (by simpa using m))
      refine ⟨_, rfl, _, rfl, _, rfl, A, a, co, dco, ll, r, _, z, left, i0 :: row', rfl, R1, C1, hll, hrow1, hrl, hin, hlen, fun H2 C2 kp2 => ?_⟩
      have kpa := kp.trans kp2
      have R2 := R.keep C hll kpa
      obtain ⟨n2, hh2⟩ := R2.h
      refine ⟨_, rfl, A.h, _, A.dh, _, _, rfl, hh2, T.harvest, T.aPlant, hvF_plant _ _, A.pl, A.dpl, _, rfl, R2.pl, rfl, _, rfl, co, _, dco, _, _, rfl, C2.co, T.course, T.aHour, courseF_hour _ _ _, _, rfl, A.pl, A.dpl, a.boat, _, _, rfl, R2.pl, R2.ok,
        _, rfl, co, _, dco, _, rfl, C2.co, T.course, T.aHour, (by show 3 < 1000; decide), ?_⟩
      have C3 := C2.hour (v := V.int (Kh332.unloaded a.boat ((fetched a (Kh332.leaves a t z g.zone) left (i0 :: row')).time + Kh332.sail a.boat (fetched a (Kh332.leaves a t z g.zone) left (i0 :: row')).at_ 0) (fetched a (Kh332.leaves a t z g.zone) left (i0 :: row')).load : Nat)) rfl
      refine ⟨_, rfl, _, rfl, co, _, dco, _, rfl, C3.co, T.course, T.aZone, (by show 3 < 1000; decide), ?_⟩
      have C4 := C3.zone (v := V.int g.zone) (z' := some g.zone) rfl
      refine ⟨_, rfl, ?_⟩
      rw [ez] at q
      have et : Kh332.trip a t z left (i0 :: row') = (Kh332.unloaded a.boat ((fetched a (Kh332.leaves a t z g.zone) left (i0 :: row')).time + Kh332.sail a.boat (fetched a (Kh332.leaves a t z g.zone) left (i0 :: row')).at_ 0) (fetched a (Kh332.leaves a t z g.zone) left (i0 :: row')).load, (fetched a (Kh332.leaves a t z g.zone) left (i0 :: row')).load, (fetched a (Kh332.leaves a t z g.zone) left (i0 :: row')).left) := by
        unfold Kh332.trip fetched
        rw [ez]
      rw [et] at q
      exact q _ C4 ((kpa.set (by simp)).set (by simp))
end
end Hb

set_option linter.all false
/-! Groups of cages; the trips come to an end. -/
namespace HM
open Kh332
def nz (left : List Nat) : Nat → Bool := fun i => left.getD i 0 != 0
theorem group_def (a : Abs) (left l : List Nat) : group a left l = match l.filter (nz left) with
  | [] => []
  | i :: r => i :: r.takeWhile fun j => zoneOf a j == zoneOf a i := rfl
theorem takeWhile_all {α : Type} {p : α → Bool} : ∀ {l : List α}, (∀ x ∈ l, p x = true) → l.takeWhile p = l
  | [], _ => rfl
  | x :: l, h => by
    rw [List.takeWhile_cons, if_pos (h x (by simp)), takeWhile_all fun y hy => h y (by simp [hy])]
theorem takeWhile_break {α : Type} {p : α → Bool} : ∀ {l : List α} {x : α} {r : List α}, (∀ y ∈ l, p y = true) → p x = false → (l ++ x :: r).takeWhile p = l
  | [], x, r, _, h => by
    rw [List.nil_append, List.takeWhile_cons, if_neg (by rw [h]; exact Bool.false_ne_true)]
  | y :: l, x, r, h, h2 => by
    rw [List.cons_append, List.takeWhile_cons, if_pos (h y (by simp)), takeWhile_break (fun z hz => h z (by simp [hz])) h2]
theorem group_full {a : Abs} {left l : List Nat} (h : ∀ j ∈ l.filter (nz left), zoneOf a j = zoneOf a ((l.filter (nz left)).headD 0)) : group a left l = l.filter (nz left) := by
  rw [group_def]
  cases e : l.filter (nz left) with
  | nil => rfl
  | cons i r =>
    rw [e] at h
    show i :: r.takeWhile _ = i :: r
    exact congrArg (i :: ·) (takeWhile_all (p := fun j => zoneOf a j == zoneOf a i) (l := r) fun x hx => beq_iff_eq.mpr (h x (List.mem_cons_of_mem _ hx)))
theorem group_break {a : Abs} {left l : List Nat} {pre post : List Nat} {x : Nat} (hl : l.filter (nz left) = pre ++ x :: post) (hp : pre ≠ []) (h : ∀ j ∈ pre, zoneOf a j = zoneOf a (pre.headD 0)) (hx : zoneOf a x ≠ zoneOf a (pre.headD 0)) : group a left l = pre := by
  rw [group_def, hl]
  cases pre with
  | nil => exact absurd rfl hp
  | cons i r =>
    show i :: (r ++ x :: post).takeWhile _ = i :: r
    exact congrArg (i :: ·) (takeWhile_break (p := fun j => zoneOf a j == zoneOf a i) (l := r) (fun y hy => beq_iff_eq.mpr (h y (List.mem_cons_of_mem _ hy))) (beq_eq_false_iff_ne.mpr hx))
theorem group_mem {a : Abs} {left l : List Nat} {i : Nat} (h : i ∈ group a left l) : i ∈ l ∧ nz left i = true := by
  have h2 : i ∈ l.filter (nz left) := by
    rw [group_def] at h
    cases e : l.filter (nz left) with
    | nil =>
      rw [e] at h
      simp at h
    | cons j r =>
      rw [e] at h
      rcases List.mem_cons.mp h with h | h
      · rw [h]; simp
      · exact List.mem_cons_of_mem _ ((List.takeWhile_subset _) h)
  exact ⟨(List.mem_filter.mp h2).1, (List.mem_filter.mp h2).2⟩
theorem filter_at {α : Type} {p : α → Bool} {l : List α} {i : Nat} {x : α} (h : l[i]? = some x) (hp : p x = true) : l.filter p = (l.take i).filter p ++ x :: (l.drop (i + 1)).filter p := by
  have e : l = l.take i ++ x :: l.drop (i + 1) := by
    obtain ⟨h1, h2⟩ := List.getElem?_eq_some_iff.mp h
    rw [← h2, List.getElem_cons_drop, List.take_append_drop]
  conv => lhs; rw [e]
  rw [List.filter_append, List.filter_cons, if_pos hp]
/-! ### the measure -/
def phi (w : Nat) (left : List Nat) : Nat := (left.map fun x => up x w).sum
theorem sum_set : ∀ (l : List Nat) (i x y : Nat), l[i]? = some x → (l.set i y).sum + x = l.sum + y
  | [], i, x, y, h => by simp at h
  | b :: l, 0, x, y, h => by
    have e : b = x := Option.some.inj h
    subst e
    simp
    omega
  | b :: l, i + 1, x, y, h => by
    have ih := sum_set l i x y h
    simp
    omega
theorem phi_set {w : Nat} {left : List Nat} {i x y : Nat} (h : left[i]? = some x) : phi w (left.set i y) + up x w = phi w left + up y w := by
  unfold phi
  rw [List.map_set]
  exact sum_set _ i (up x w) (up y w) (by rw [List.getElem?_map, h]; rfl)
theorem up_mono {x y w : Nat} (h : x ≤ y) : up x w ≤ up y w := by
  unfold up
  exact Nat.div_le_div_right (by omega)
theorem up_less {x w : Nat} (hx : 0 < x) (hw : 0 < w) : up (x - min x w) w < up x w := by
  by_cases h : x ≤ w
  · rw [Nat.min_eq_left h, Nat.sub_self, up_zero hw]
    exact up_pos hx hw
  · rw [Nat.min_eq_right (by omega)]
    unfold up
    have e1 : x - w + w - 1 = x - 1 := by omega
    have e2 : x + w - 1 = (x - 1) + w := by omega
    rw [e1, e2, Nat.add_div_right _ hw]
    omega
theorem phi_goes {a : Abs} {w : Way} {i : Nat} : phi a.boat.well (goes a w i).left ≤ phi a.boat.well w.left := by
  unfold goes
  dsimp only
  split
  · exact Nat.le_refl _
  · show phi a.boat.well (w.left.set i _) ≤ _
    cases e : w.left[i]? with
    | none =>
      rw [List.set_eq_of_length_le (List.getElem?_eq_none_iff.mp e)]
      exact Nat.le_refl _
    | some x =>
      have h1 := phi_set (w := a.boat.well) (y := w.left.getD i 0 - min (w.left.getD i 0) (a.boat.well - w.load)) e
      have e2 : w.left.getD i 0 = x := by rw [List.getD_eq_getElem?_getD, e]; rfl
      have h2 : up (w.left.getD i 0 - min (w.left.getD i 0) (a.boat.well - w.load)) a.boat.well ≤ up x a.boat.well := up_mono (by rw [e2]; omega)
      omega
theorem phi_fold {a : Abs} : ∀ (l : List Nat) (w : Way), phi a.boat.well (l.foldl (goes a) w).left ≤ phi a.boat.well w.left
  | [], w => Nat.le_refl _
  | i :: l, w => Nat.le_trans (phi_fold l _) phi_goes
theorem phi_first {a : Abs} {w : Way} {i x : Nat} (hw : 0 < a.boat.well) (h0 : w.load = 0) (hx : w.left[i]? = some x) (hp : 0 < x) : phi a.boat.well (goes a w i).left < phi a.boat.well w.left := by
  have e2 : w.left.getD i 0 = x := by rw [List.getD_eq_getElem?_getD, hx]; rfl
  unfold goes
  dsimp only
  rw [e2, h0, Nat.sub_zero, if_neg (by omega)]
  show phi a.boat.well (w.left.set i _) < _
  have h1 := phi_set (w := a.boat.well) (y := x - min x a.boat.well) hx
  have h2 := up_less (w := a.boat.well) hp hw
  omega
/-- each trip to a group brings something -/
theorem phi_trip {a : Abs} {t : Nat} {z : Option Nat} {left l : List Nat} (hw : 0 < a.boat.well) (hg : group a left l ≠ []) (hin : ∀ i ∈ l, i < left.length) : phi a.boat.well (trip a t z left (group a left l)).2.2 < phi a.boat.well left := by
  cases e : group a left l with
  | nil => exact absurd e hg
  | cons i r =>
    obtain ⟨h1, h2⟩ := group_mem (a := a) (left := left) (l := l) (i := i) (by rw [e]; simp)
    have hlt := hin i h1
    obtain ⟨x, hx⟩ : ∃ x, left[i]? = some x := ⟨_, List.getElem?_eq_getElem hlt⟩
    have hp : 0 < x := by
      have e2 : left.getD i 0 = x := by rw [List.getD_eq_getElem?_getD, hx]; rfl
      unfold nz at h2
      rw [e2] at h2
      have : x ≠ 0 := by simpa using h2
      omega
    unfold trip
    dsimp only
    rw [List.foldl_cons]
    exact Nat.lt_of_le_of_lt (phi_fold r _) (phi_first hw rfl hx hp)
theorem trip_len {a : Abs} {t : Nat} {z : Option Nat} {left l : List Nat} : (trip a t z left l).2.2.length = left.length := by
  unfold trip
  dsimp only
  have : ∀ (l : List Nat) (w : Way), (l.foldl (goes a) w).left.length = w.left.length := by
    intro l
    induction l with
    | nil => intro w; rfl
    | cons i l ih =>
      intro w
      rw [List.foldl_cons, ih]
      unfold goes
      dsimp only
      split
      · rfl
      · show (w.left.set _ _).length = _
        rw [List.length_set]
  exact this l _
theorem bring_stop {a : Abs} {t : Nat} {z : Option Nat} {left l : List Nat} (hg : group a left l = []) : ∀ f, bring a f t z left l = []
  | 0 => rfl
  | f + 1 => by
    unfold bring
    dsimp only
    rw [if_pos hg]
theorem bring_go {a : Abs} {f t : Nat} {z : Option Nat} {left l : List Nat} (hg : group a left l ≠ []) : bring a (f + 1) t z left l =
    ((trip a t z left (group a left l)).1, (trip a t z left (group a left l)).2.1) :: bring a f (trip a t z left (group a left l)).1 (some (zoneOf a ((group a left l).headD 0))) (trip a t z left (group a left l)).2.2 l := by
  rw [bring]
  rw [if_neg hg]
theorem up_20 {x w : Nat} (hx : x ≤ 20000) (hw : 1000 ≤ w) : up x w ≤ 20 := by
  unfold up
  exact Nat.le_of_lt_succ (Nat.div_lt_of_lt_mul (by omega))
theorem phi_le {w : Nat} (hw : 1000 ≤ w) : ∀ {left : List Nat}, (∀ x ∈ left, x ≤ 20000) → phi w left ≤ 20 * left.length
  | [], _ => by simp [phi]
  | x :: l, h => by
    have ih := phi_le hw (left := l) fun y hy => h y (by simp [hy])
    have h1 := up_20 (h x (by simp)) hw
    have e : phi w (x :: l) = up x w + phi w l := by simp [phi]
    rw [e, List.length_cons]
    omega
end HM

set_option linter.all false
/-! All brought, part by part; orders; rows of cages in every order. -/
namespace HM
open Kh332
/-! ### parts -/
structure Parts (a : Abs) (ps : List (List Nat)) (l : List Nat) : Prop where
  flat : ps.flatten = l
  one : ∀ p ∈ ps, p ≠ [] ∧ ∀ j ∈ p, zoneOf a j = zoneOf a (p.headD 0)
  apart : ∀ (k : Nat) (p q : List Nat), ps[k]? = some p → ps[k + 1]? = some q → zoneOf a (p.headD 0) ≠ zoneOf a (q.headD 0)
theorem Parts.nil (a : Abs) : Parts a [] [] := ⟨rfl, fun _ h => (nomatch h), fun _ _ _ h => (nomatch h)⟩
theorem head_grow {p : List Nat} (h : p ≠ []) (i : Nat) : (p ++ [i]).headD 0 = p.headD 0 := by
  cases p with
  | nil => exact absurd rfl h
  | cons x r => rfl
theorem Parts.grow {a : Abs} {init : List (List Nat)} {p l : List Nat} {i : Nat} (P : Parts a (init ++ [p]) l) (h : zoneOf a i = zoneOf a (p.headD 0)) : Parts a (init ++ [p ++ [i]]) (l ++ [i]) := by
  have hp : p ≠ [] := (P.one p (by simp)).1
  refine ⟨?_, fun q hq => ?_, fun k x y hx hy => ?_⟩
  · rw [← P.flat]
    simp
  · rcases List.mem_append.mp hq with hq | hq
    · exact P.one q (by simp [hq])
    · rw [List.mem_singleton.mp hq, head_grow hp]
      refine ⟨by simp, fun j hj => ?_⟩
      rcases List.mem_append.mp hj with hj | hj
      · exact (P.one p (by simp)).2 j hj
      · rw [List.mem_singleton.mp hj]
        exact h
  · have hk : k + 1 < (init ++ [p ++ [i]]).length := (List.getElem?_eq_some_iff.mp hy).1
    rw [List.length_append, List.length_singleton] at hk
    rw [List.getElem?_append_left (by omega)] at hx
    by_cases e : k + 1 < init.length
    · rw [List.getElem?_append_left e] at hy
      exact P.apart k x y (by rw [List.getElem?_append_left (by omega)]; exact hx) (by rw [List.getElem?_append_left e]; exact hy)
    · have e2 : k + 1 = init.length := by omega
      have ey : y = p ++ [i] := by
        rw [List.getElem?_append_right (by omega), e2, Nat.sub_self] at hy
        exact (Option.some.inj hy).symm
      rw [ey, head_grow hp]
      exact P.apart k x p (by rw [List.getElem?_append_left (by omega)]; exact hx) (by rw [List.getElem?_append_right (by omega), e2, Nat.sub_self]; rfl)
theorem Parts.new {a : Abs} {ps : List (List Nat)} {l : List Nat} {i : Nat} (P : Parts a ps l) (h : ∀ p, ps.getLast? = some p → zoneOf a i ≠ zoneOf a (p.headD 0)) : Parts a (ps ++ [[i]]) (l ++ [i]) := by
  refine ⟨?_, fun q hq => ?_, fun k x y hx hy => ?_⟩
  · rw [← P.flat]
    simp
  · rcases List.mem_append.mp hq with hq | hq
    · exact P.one q hq
    · rw [List.mem_singleton.mp hq]
      exact ⟨by simp, fun j hj => by rw [List.mem_singleton.mp hj]; rfl⟩
  · have hk : k + 1 < (ps ++ [[i]]).length := (List.getElem?_eq_some_iff.mp hy).1
    rw [List.length_append, List.length_singleton] at hk
    rw [List.getElem?_append_left (by omega)] at hx
    by_cases e : k + 1 < ps.length
    · rw [List.getElem?_append_left e] at hy
      exact P.apart k x y hx hy
    · have e2 : k + 1 = ps.length := by omega
      have ey : y = [i] := by
        rw [List.getElem?_append_right (by omega), e2, Nat.sub_self] at hy
        exact (Option.some.inj hy).symm
      rw [ey]
      refine fun z => h x ?_ z.symm
      rw [List.getLast?_eq_getElem?, show ps.length - 1 = k by omega]
      exact hx
theorem group_part {a : Abs} {ps : List (List Nat)} {F l left p : List Nat} {k : Nat} (P : Parts a ps F) (hk : ps[k]? = some p) (hl : l.filter (nz left) = p.filter (nz left) ++ (ps.drop (k + 1)).flatten) (hne : p.filter (nz left) ≠ []) :
    group a left l = p.filter (nz left) := by
  have hz : ∀ j ∈ p.filter (nz left), zoneOf a j = zoneOf a (p.headD 0) := fun j hj => (P.one p (List.mem_of_getElem? hk)).2 j (List.mem_filter.mp hj).1
  have hh : zoneOf a ((p.filter (nz left)).headD 0) = zoneOf a (p.headD 0) := by
    cases e : p.filter (nz left) with
    | nil => exact absurd e hne
    | cons x r => exact hz x (by rw [e]; simp)
  cases e : ps.drop (k + 1) with
  | nil =>
    rw [e, List.flatten_nil, List.append_nil] at hl
    rw [← hl]
    refine group_full (l := l) (left := left) (a := a) ?_
    rw [hl, hh]
    exact hz
  | cons q r =>
    have hq : ps[k + 1]? = some q := by
      have := List.getElem?_drop (xs := ps) (i := k + 1) (j := 0)
      rw [e] at this
      exact this.symm
    obtain ⟨q1, q2⟩ := P.one q (List.mem_of_getElem? hq)
    have ha := P.apart k p q hk hq
    cases q with
    | nil => exact absurd rfl q1
    | cons x q' =>
      rw [e, List.flatten_cons, List.cons_append] at hl
      exact group_break hl hne (fun j hj => (hz j hj).trans hh.symm) (by rw [hh]; exact fun z => ha z.symm)
/-! ### a trip to a part: what is empty is passed over -/
theorem getD_set_ne {l : List Nat} {i j y : Nat} (h : j ≠ i) : (l.set i y).getD j 0 = l.getD j 0 := by
  rw [List.getD_eq_getElem?_getD, List.getD_eq_getElem?_getD, List.getElem?_set_ne (Ne.symm h)]
theorem nz_less {l1 l2 : List Nat} {j : Nat} (h : l1.getD j 0 ≤ l2.getD j 0) : (nz l1 j && nz l2 j) = nz l1 j := by
  unfold nz
  generalize l1.getD j 0 = x at *
  generalize l2.getD j 0 = y at *
  cases x with
  | zero => rfl
  | succ n =>
    have : y ≠ 0 := by omega
    simp [this]
theorem goes_other {a : Abs} {w : Way} {i j : Nat} (h : j ≠ i) : (goes a w i).left.getD j 0 = w.left.getD j 0 := by
  unfold goes
  dsimp only
  split
  · rfl
  · exact getD_set_ne h
theorem goes_le {a : Abs} {w : Way} {i j : Nat} : (goes a w i).left.getD j 0 ≤ w.left.getD j 0 := by
  by_cases h : j = i
  · subst h
    unfold goes
    dsimp only
    split
    · exact Nat.le_refl _
    · show (w.left.set j _).getD j 0 ≤ _
      rw [List.getD_eq_getElem?_getD, List.getElem?_set_self']
      cases e : w.left[j]? with
      | none => exact Nat.zero_le _
      | some x =>
        show w.left.getD j 0 - _ ≤ _
        omega
  · rw [goes_other h]
    exact Nat.le_refl _
theorem goes_none {a : Abs} {w : Way} {i : Nat} (h : nz w.left i = false) : goes a w i = w := by
  have h0 : w.left.getD i 0 = 0 := by
    unfold nz at h
    simpa using h
  unfold goes
  dsimp only
  rw [h0, Nat.zero_min, if_pos rfl]
theorem fold_other {a : Abs} : ∀ (l : List Nat) (w : Way) {j : Nat}, ¬ j ∈ l → (l.foldl (goes a) w).left.getD j 0 = w.left.getD j 0
  | [], w, j, _ => rfl
  | i :: l, w, j, h => by
    rw [List.foldl_cons, fold_other l _ (fun m => h (by simp [m])), goes_other (fun e => h (by simp [e]))]
theorem fold_le {a : Abs} : ∀ (l : List Nat) (w : Way) {j : Nat}, (l.foldl (goes a) w).left.getD j 0 ≤ w.left.getD j 0
  | [], w, j => Nat.le_refl _
  | i :: l, w, j => Nat.le_trans (fold_le l _) goes_le
theorem fold_filter {a : Abs} : ∀ (l : List Nat) (w : Way), l.Nodup → l.foldl (goes a) w = (l.filter (nz w.left)).foldl (goes a) w
  | [], w, _ => rfl
  | i :: l, w, h => by
    obtain ⟨h1, h2⟩ := List.nodup_cons.mp h
    rw [List.foldl_cons]
    cases e : nz w.left i with
    | false =>
      rw [goes_none e, List.filter_cons, if_neg (by rw [e]; exact Bool.false_ne_true)]
      exact fold_filter l w h2
    | true =>
      rw [List.filter_cons, if_pos e, List.foldl_cons, fold_filter l _ h2]
      congr 1
      refine List.filter_congr fun j hj => ?_
      unfold nz
      rw [goes_other (fun z => h1 (by rw [← z]; exact hj))]
theorem head_zone {a : Abs} {left p : List Nat} (hz : ∀ j ∈ p, zoneOf a j = zoneOf a (p.headD 0)) (hne : p.filter (nz left) ≠ []) : zoneOf a ((p.filter (nz left)).headD 0) = zoneOf a (p.headD 0) := by
  cases e : p.filter (nz left) with
  | nil => exact absurd e hne
  | cons x r => exact hz x (List.mem_filter.mp (show x ∈ p.filter (nz left) by rw [e]; simp)).1
theorem trip_filter {a : Abs} {t : Nat} {z : Option Nat} {left p : List Nat} (hn : p.Nodup) (hz : ∀ j ∈ p, zoneOf a j = zoneOf a (p.headD 0)) (hne : p.filter (nz left) ≠ []) : trip a t z left (p.filter (nz left)) = trip a t z left p := by
  unfold trip
  dsimp only
  rw [head_zone hz hne, fold_filter p ⟨_, 0, 0, left⟩ hn]
/-! ### what a part still holds -/
def sumAt (left p : List Nat) : Nat := (p.map fun i => left.getD i 0).sum
theorem sumAt_cons (left p : List Nat) (i : Nat) : sumAt left (i :: p) = left.getD i 0 + sumAt left p := by
  unfold sumAt
  rw [List.map_cons, List.sum_cons]
theorem sumAt_out {left : List Nat} {i y : Nat} : ∀ {p : List Nat}, ¬ i ∈ p → sumAt (left.set i y) p = sumAt left p
  | [], _ => rfl
  | j :: p, h => by
    rw [sumAt_cons, sumAt_cons, getD_set_ne (fun e => h (by simp [e])), sumAt_out (fun m => h (by simp [m]))]
theorem sumAt_set {left : List Nat} {i y : Nat} (hi : i < left.length) : ∀ {p : List Nat}, p.Nodup → i ∈ p → sumAt (left.set i y) p + left.getD i 0 = sumAt left p + y
  | [], _, h => (nomatch h)
  | j :: p, hn, h => by
    obtain ⟨h1, h2⟩ := List.nodup_cons.mp hn
    rw [sumAt_cons, sumAt_cons]
    by_cases e : i = j
    · subst e
      rw [sumAt_out h1]
      have : (left.set i y).getD i 0 = y := by
        rw [List.getD_eq_getElem?_getD, List.getElem?_set_self hi]
        rfl
      omega
    · have hm : i ∈ p := by
        rcases List.mem_cons.mp h with m | m
        · exact absurd m e
        · exact m
      have ih := sumAt_set (y := y) hi h2 hm
      rw [getD_set_ne (Ne.symm e)]
      omega
theorem goes_sum {a : Abs} {w : Way} {i : Nat} {p : List Nat} (hp : p.Nodup) (hm : i ∈ p) (hi : i < w.left.length) : sumAt (goes a w i).left p + (goes a w i).load = sumAt w.left p + w.load := by
  unfold goes
  dsimp only
  split
  · rfl
  · have := sumAt_set (left := w.left) (y := w.left.getD i 0 - min (w.left.getD i 0) (a.boat.well - w.load)) hi hp hm
    show sumAt (w.left.set i _) p + (w.load + _) = _
    omega
theorem goes_len {a : Abs} {w : Way} {i : Nat} : (goes a w i).left.length = w.left.length := by
  unfold goes
  dsimp only
  split
  · rfl
  · exact List.length_set ..
theorem fold_sum {a : Abs} {p : List Nat} (hp : p.Nodup) : ∀ (l : List Nat) (w : Way), (∀ i ∈ l, i ∈ p) → (∀ i ∈ l, i < w.left.length) → sumAt (l.foldl (goes a) w).left p + (l.foldl (goes a) w).load = sumAt w.left p + w.load
  | [], w, _, _ => rfl
  | i :: l, w, h1, h2 => by
    rw [List.foldl_cons, fold_sum hp l _ (fun j hj => h1 j (by simp [hj])) (fun j hj => by rw [goes_len]; exact h2 j (by simp [hj])), goes_sum hp (h1 i (by simp)) (h2 i (by simp))]
theorem trip_sum {a : Abs} {t : Nat} {z : Option Nat} {left p : List Nat} (hp : p.Nodup) (hi : ∀ i ∈ p, i < left.length) : sumAt (trip a t z left p).2.2 p + (trip a t z left p).2.1 = sumAt left p := by
  unfold trip
  dsimp only
  exact fold_sum hp p _ (fun _ h => h) hi
theorem sumAt_zero {left : List Nat} : ∀ {p : List Nat}, sumAt left p = 0 ↔ p.filter (nz left) = []
  | [] => ⟨fun _ => rfl, fun _ => rfl⟩
  | i :: p => by
    rw [sumAt_cons, List.filter_cons]
    cases e : nz left i with
    | true =>
      have : left.getD i 0 ≠ 0 := by
        unfold nz at e
        simpa using e
      rw [if_pos rfl]
      exact ⟨fun h => absurd h (by omega), fun h => absurd h (by simp)⟩
    | false =>
      have : left.getD i 0 = 0 := by
        unfold nz at e
        simpa using e
      rw [if_neg Bool.false_ne_true, ← sumAt_zero (p := p), this, Nat.zero_add]
/-! ### all brought, part by part -/
def lastOr (d : List (Nat × Nat)) (t : Nat) : Nat := ((d.getLast?).map fun x => x.1).getD t
theorem lastOr_snoc (d : List (Nat × Nat)) (x : Nat × Nat) (t : Nat) : lastOr (d ++ [x]) t = x.1 := by
  unfold lastOr
  rw [List.getLast?_concat]
  rfl
structure Bg (a : Abs) (t : Nat) (z : Option Nat) (left l : List Nat) (ps : List (List Nat)) (k t' : Nat) (z' : Option Nat) (left' : List Nat) (done : List (Nat × Nat)) : Prop where
  br : ∀ f, phi a.boat.well left ≤ f → bring a f t z left l = done ++ bring a (f - done.length) t' z' left' l
  ph : done.length + phi a.boat.well left' ≤ phi a.boat.well left
  len : left'.length = left.length
  tm : t' = lastOr done t
  fil : l.filter (nz left') = (ps.getD k []).filter (nz left') ++ (ps.drop (k + 1)).flatten
section
variable {a : Abs} {t : Nat} {z : Option Nat} {left l : List Nat} {ps : List (List Nat)} {k t' : Nat} {z' : Option Nat} {left' : List Nat} {done : List (Nat × Nat)}
theorem fil_part {left' : List Nat} {ps : List (List Nat)} {k : Nat} (h : ∀ i ∈ (ps.drop k).flatten, nz left' i = true) : (ps.drop k).flatten = (ps.getD k []).filter (nz left') ++ (ps.drop (k + 1)).flatten := by
  cases e : ps[k]? with
  | none =>
    have hk := List.getElem?_eq_none_iff.mp e
    rw [List.getD_eq_getElem?_getD, e, List.drop_eq_nil_of_le hk, List.drop_eq_nil_of_le (by omega)]
    rfl
  | some p =>
    obtain ⟨hk, hp⟩ := List.getElem?_eq_some_iff.mp e
    have ed : ps.drop k = p :: ps.drop (k + 1) := by rw [← hp, List.getElem_cons_drop]
    rw [ed, List.flatten_cons] at h ⊢
    rw [List.getD_eq_getElem?_getD, e]
    show p ++ _ = p.filter (nz left') ++ _
    rw [List.filter_eq_self.mpr fun i hi => h i (by simp [hi])]
theorem Bg.start (P : Parts a ps (l.filter (nz left))) : Bg a t z left l ps 0 t z left [] := by
  refine ⟨fun f _ => rfl, by simp, rfl, rfl, ?_⟩
  rw [← P.flat]
  refine fil_part (k := 0) (ps := ps) fun i hi => ?_
  rw [List.drop_zero, P.flat] at hi
  exact (List.mem_filter.mp hi).2
theorem Bg.next (B : Bg a t z left l ps k t' z' left' done) (h : sumAt left' (ps.getD k []) = 0) : Bg a t z left l ps (k + 1) t' z' left' done := by
  refine ⟨B.br, B.ph, B.len, B.tm, ?_⟩
  have e := B.fil
  rw [sumAt_zero.mp h, List.nil_append] at e
  rw [e]
  refine fil_part fun i hi => ?_
  rw [← e] at hi
  exact (List.mem_filter.mp hi).2
theorem Bg.fin (B : Bg a t z left l ps k t' z' left' done) (h : ps.length ≤ k) {f : Nat} (hf : phi a.boat.well left ≤ f) : bring a f t z left l = done := by
  have e := B.fil
  rw [List.getD_eq_getElem?_getD, List.getElem?_eq_none_iff.mpr h, List.drop_eq_nil_of_le (by omega)] at e
  rw [B.br f hf, bring_stop, List.append_nil]
  rw [group_def, e]
  rfl
theorem part_nodup {F : List Nat} (P : Parts a ps F) (hn : F.Nodup) {p : List Nat} (hp : p ∈ ps) : p.Nodup := by
  rw [← P.flat] at hn
  exact (List.pairwise_flatten.mp hn).1 p hp
theorem part_mem {F : List Nat} (P : Parts a ps F) {p : List Nat} (hp : p ∈ ps) {i : Nat} (hi : i ∈ p) : i ∈ F := by
  rw [← P.flat]
  exact List.mem_flatten.mpr ⟨p, hp, hi⟩
theorem Bg.trip {p : List Nat} (P : Parts a ps (l.filter (nz left))) (hn : l.Nodup) (hin : ∀ i ∈ l, i < left.length) (hw : 0 < a.boat.well) (B : Bg a t z left l ps k t' z' left' done) (hk : ps[k]? = some p) (h : sumAt left' p ≠ 0) :
    Bg a t z left l ps k (Kh332.trip a t' z' left' p).1 (some (zoneOf a (p.headD 0))) (Kh332.trip a t' z' left' p).2.2 (done ++ [((Kh332.trip a t' z' left' p).1, (Kh332.trip a t' z' left' p).2.1)]) := by
  have ek : ps.getD k [] = p := by rw [List.getD_eq_getElem?_getD, hk]; rfl
  have hpm := List.mem_of_getElem? hk
  have hz := (P.one p hpm).2
  have hpn := part_nodup P (hn.filter _) hpm
  have hne : p.filter (nz left') ≠ [] := fun e => h (sumAt_zero.mpr e)
  have hfil := B.fil
  rw [ek] at hfil
  have hg := group_part P hk hfil hne
  have et := trip_filter (a := a) (t := t') (z := z') hpn hz hne
  have hph := phi_trip (a := a) (t := t') (z := z') (left := left') (l := l) hw (by rw [hg]; exact hne) (by rw [B.len]; exact hin)
  rw [hg, et] at hph
  have hlen : (Kh332.trip a t' z' left' p).2.2.length = left'.length := trip_len
  have hoth : ∀ j, ¬ j ∈ p → (Kh332.trip a t' z' left' p).2.2.getD j 0 = left'.getD j 0 := fun j hj => by
    unfold Kh332.trip
    dsimp only
    exact fold_other p _ hj
  have hle : ∀ j, (Kh332.trip a t' z' left' p).2.2.getD j 0 ≤ left'.getD j 0 := fun j => by
    unfold Kh332.trip
    dsimp only
    exact fold_le p _
  refine ⟨fun f hf => ?_, ?_, hlen.trans B.len, (lastOr_snoc done ((Kh332.trip a t' z' left' p).1, (Kh332.trip a t' z' left' p).2.1) t).symm, ?_⟩
  · have hb := B.ph
    rw [B.br f hf, show f - done.length = (f - (done.length + 1)) + 1 by omega, bring_go (by rw [hg]; exact hne), hg, et, head_zone hz hne, List.length_append, List.append_assoc]
    rfl
  · rw [List.length_append]
    have := B.ph
    show done.length + 1 + _ ≤ _
    omega
  · rw [ek]
    have e1 : l.filter (nz (Kh332.trip a t' z' left' p).2.2) = (l.filter (nz left')).filter (nz (Kh332.trip a t' z' left' p).2.2) := by
      rw [List.filter_filter]
      exact List.filter_congr fun j _ => (nz_less (hle j)).symm
    rw [e1, hfil, List.filter_append, List.filter_filter]
    congr 1
    · exact List.filter_congr fun j _ => nz_less (hle j)
    · have hdis : ∀ j ∈ (ps.drop (k + 1)).flatten, ¬ j ∈ p := by
        have hn2 := hn.filter (nz left)
        rw [← P.flat] at hn2
        obtain ⟨hk1, hk2⟩ := List.getElem?_eq_some_iff.mp hk
        have es : ps = ps.take k ++ p :: ps.drop (k + 1) := by
          rw [← hk2, List.getElem_cons_drop, List.take_append_drop]
        rw [es, List.flatten_append, List.flatten_cons] at hn2
        have hn3 := (List.nodup_append.mp hn2).2.1
        have hn4 := (List.nodup_append.mp hn3).2.2
        exact fun j hj hjp => hn4 j hjp j hj rfl
      refine List.filter_eq_self.mpr fun j hj => ?_
      have hm : j ∈ l.filter (nz left') := by
        rw [hfil]
        exact List.mem_append_right _ hj
      have h2 := (List.mem_filter.mp hm).2
      unfold nz at h2 ⊢
      rw [hoth j (hdis j hj)]
      exact h2
end
/-! ### orders -/
def sum2 (d : List (Nat × Nat)) : Nat := (d.map fun x => x.2).sum
theorem byWhen_go {need s i : Nat} {d : List (Nat × Nat)} {x : Nat × Nat} (h : d[i]? = some x) : byWhen need s (d.drop i) = if need ≤ s + x.2 then some x.1 else byWhen need (s + x.2) (d.drop (i + 1)) := by
  obtain ⟨h1, h2⟩ := List.getElem?_eq_some_iff.mp h
  rw [← List.getElem_cons_drop h1, h2]
  rfl
def kgs (l : List Order) : Nat := (l.map Order.kg).sum
theorem sums_at : ∀ (l : List Order) (s i : Nat) (o : Order), l[i]? = some o → (sums s l)[i]? = some (s + kgs (l.take i) + o.kg, o)
  | [], _, _, _, h => (nomatch h)
  | x :: l, s, 0, o, h => by
    have e : x = o := Option.some.inj h
    subst e
    rfl
  | x :: l, s, i + 1, o, h => by
    have ih := sums_at l (s + x.kg) i o h
    show (sums (s + x.kg) l)[i]? = _
    rw [ih, List.take_succ_cons]
    unfold kgs
    rw [List.map_cons, List.sum_cons]
    congr 2
    omega
theorem sums_len : ∀ (l : List Order) (s : Nat), (sums s l).length = l.length
  | [], _ => rfl
  | x :: l, s => congrArg (· + 1) (sums_len l _)
theorem kgs_snoc {l : List Order} {i : Nat} {o : Order} (h : l[i]? = some o) : kgs (l.take (i + 1)) = kgs (l.take i) + o.kg := by
  unfold kgs
  rw [List.take_add_one, h, List.map_append, List.sum_append]
  simp
/-- of each order when it is filled -/
def fills (os : List Order) (d : List (Nat × Nat)) : List (Option Nat) := (sums 0 os).map fun x => byWhen x.1 0 d
theorem fills_len (os : List Order) (d : List (Nat × Nat)) : (fills os d).length = os.length := by
  unfold fills
  rw [List.length_map, sums_len]
theorem fills_at {os : List Order} {d : List (Nat × Nat)} {i : Nat} {o : Order} (h : os[i]? = some o) : (fills os d)[i]? = some (byWhen (kgs (os.take (i + 1))) 0 d) := by
  unfold fills
  rw [List.getElem?_map, sums_at os 0 i o h, kgs_snoc h, Nat.zero_add]
  rfl
def lateOf (e : Option Nat) (due : Nat) : Nat := match e with
  | some t => t - due
  | none => 1000
def lates (os : List Order) (d : List (Nat × Nat)) : List Nat := (sums 0 os).map fun x => lateOf (byWhen x.1 0 d) x.2.due
theorem late_eq (a : Abs) (d : List (Nat × Nat)) : late a d = (lates a.orders (a.brought ++ d)).sum := rfl
theorem lates_at {os : List Order} {d : List (Nat × Nat)} {i : Nat} {o : Order} {e : Option Nat} (h : os[i]? = some o) (h2 : (fills os d)[i]? = some e) : (lates os d)[i]? = some (lateOf e o.due) := by
  rw [fills_at h] at h2
  unfold lates
  rw [List.getElem?_map, sums_at os 0 i o h, ← Option.some.inj h2, kgs_snoc h, Nat.zero_add]
  rfl
theorem lates_len (os : List Order) (d : List (Nat × Nat)) : (lates os d).length = os.length := by
  unfold lates
  rw [List.length_map, sums_len]
theorem sum_snoc {l : List Nat} {i x : Nat} (h : l[i]? = some x) : (l.take (i + 1)).sum = (l.take i).sum + x := by
  rw [List.take_add_one, h, List.sum_append]
  simp
/-- filled, as the program tells it -/
def hourOf (e : Option Nat) : Nat := e.elim 0 fun t => t + 1
theorem filled_out (os : List Order) (d : List (Nat × Nat)) : (sums 0 os).map (fun x => (byWhen x.1 0 d).elim 0 (fun t => t + 1)) = (fills os d).map hourOf := by
  unfold fills
  rw [List.map_map]
  rfl
theorem filled_ret (os : List Order) (d : List (Nat × Nat)) : ((sums 0 os).filter fun x => (byWhen x.1 0 d).isSome).length = ((fills os d).filter Option.isSome).length := by
  unfold fills
  rw [List.filter_map, List.length_map]
  rfl
theorem zeros : ∀ (l : List (Option Nat)), (l.filter Option.isSome).length + (l.map hourOf).count 0 = l.length
  | [] => rfl
  | none :: l => by
    have ih := zeros l
    rw [List.filter_cons, if_neg (by simp), List.map_cons, show hourOf none = 0 from rfl, List.count_cons_self, List.length_cons]
    omega
  | some t :: l => by
    have ih := zeros l
    rw [List.filter_cons, if_pos (show (some t).isSome = true from rfl), List.map_cons, List.count_cons_of_ne (by simp [hourOf]), List.length_cons, List.length_cons]
    omega
/-! ### rows of cages in every order -/
theorem erase_len : ∀ {l : List Nat} {x : Nat}, l.Nodup → x ∈ l → (l.filter fun y => y != x).length + 1 = l.length
  | [], x, _, h => (nomatch h)
  | y :: l, x, hn, h => by
    obtain ⟨h1, h2⟩ := List.nodup_cons.mp hn
    rw [List.filter_cons]
    by_cases e : y = x
    · subst e
      rw [if_neg (by simp), List.filter_eq_self.mpr fun z hz => bne_iff_ne.mpr fun q => h1 (by rw [← q]; exact hz)]
      rfl
    · rw [if_pos (bne_iff_ne.mpr e), List.length_cons, List.length_cons, erase_len h2 (by
        rcases List.mem_cons.mp h with m | m
        · exact absurd m.symm e
        · exact m)]
/-- each row with each cage that isn't in it behind it -/
def longer1 (cs r : List Nat) : List (List Nat) := (cs.filter fun i => !decide (i ∈ r)).map fun i => r ++ [i]
def longer (cs : List Nat) (rs : List (List Nat)) : List (List Nat) := rs.flatMap (longer1 cs)
def rowsUp (cs : List Nat) : Nat → List (List Nat)
  | 0 => [[]]
  | k + 1 => longer cs (rowsUp cs k)
def below (cs r : List Nat) : Nat → List (List Nat)
  | 0 => [r]
  | k + 1 => longer cs (below cs r k)
theorem flat_congr {α β : Type} {f g : α → List β} : ∀ {l : List α}, (∀ x ∈ l, f x = g x) → l.flatMap f = l.flatMap g
  | [], _ => rfl
  | x :: l, h => by
    rw [List.flatMap_cons, List.flatMap_cons, h x (by simp), flat_congr fun y hy => h y (by simp [hy])]
theorem longer_flat (cs : List Nat) {α : Type} (f : α → List (List Nat)) (l : List α) : longer cs (l.flatMap f) = l.flatMap fun x => longer cs (f x) := by
  unfold longer
  rw [List.flatMap_assoc]
theorem below_in (cs : List Nat) : ∀ (k : Nat) (r : List Nat), below cs r (k + 1) = (longer1 cs r).flatMap fun r' => below cs r' k
  | 0, r => by
    show longer cs [r] = _
    unfold longer
    rw [List.flatMap_cons, List.flatMap_nil, List.append_nil]
    exact (List.flatMap_singleton' _).symm
  | k + 1, r => by
    show longer cs (below cs r (k + 1)) = _
    rw [below_in cs k r, longer_flat]
    rfl
theorem below_perms (cs : List Nat) : ∀ (k : Nat) (r : List Nat), (cs.filter fun i => !decide (i ∈ r)).length = k → cs.Nodup → below cs r k = (perms k (cs.filter fun i => !decide (i ∈ r))).map fun p => r ++ p
  | 0, r, h, _ => by
    show [r] = _
    unfold perms
    rw [List.map_cons, List.map_nil, List.append_nil]
  | k + 1, r, h, hn => by
    have hne : (cs.filter fun i => !decide (i ∈ r)) ≠ [] := fun e => by
      rw [e] at h
      cases h
    rw [below_in, perms, if_neg hne, List.map_flatMap]
    unfold longer1
    rw [List.flatMap_map]
    refine flat_congr fun x hx => ?_
    have hf : (cs.filter fun i => !decide (i ∈ r ++ [x])) = (cs.filter fun i => !decide (i ∈ r)).filter fun y => y != x := by
      rw [List.filter_filter]
      refine List.filter_congr fun y _ => ?_
      by_cases h1 : y ∈ r
      · simp [h1]
      · by_cases h2 : y = x
        · simp [h2]
        · simp [h1, h2]
    have hl : ((cs.filter fun i => !decide (i ∈ r)).filter fun y => y != x).length = k := by
      have hnd : (cs.filter fun i => !decide (i ∈ r)).Nodup := hn.filter _
      have := erase_len hnd hx
      omega
    rw [below_perms cs k (r ++ [x]) (by rw [hf]; exact hl) hn, hf, List.map_map]
    refine List.map_congr_left fun p _ => ?_
    show r ++ [x] ++ p = r ++ (x :: p)
    rw [List.append_assoc]
    rfl
theorem rowsUp_perms (cs : List Nat) (hn : cs.Nodup) : rowsUp cs cs.length = perms cs.length cs := by
  have e : ∀ k, rowsUp cs k = below cs [] k := fun k => by
    induction k with
    | zero => rfl
    | succ k ih => show longer cs _ = longer cs _; rw [ih]
  have hf : (cs.filter fun i => !decide (i ∈ ([] : List Nat))) = cs := List.filter_eq_self.mpr fun i _ => by simp
  rw [e, below_perms cs cs.length [] (by rw [hf]) hn, hf]
  exact List.map_id' _
theorem perms_mem : ∀ (k : Nat) {l r : List Nat}, l.Nodup → r ∈ perms k l → r.Nodup ∧ (∀ i ∈ r, i ∈ l) ∧ r.length ≤ k
  | 0, l, r, _, h => by
    rw [perms, List.mem_singleton] at h
    subst h
    exact ⟨List.nodup_nil, fun _ h => (nomatch h), Nat.le_refl _⟩
  | k + 1, l, r, hn, h => by
    rw [perms] at h
    by_cases e : l = []
    · rw [if_pos e, List.mem_singleton] at h
      subst h
      exact ⟨List.nodup_nil, fun _ h => (nomatch h), Nat.zero_le _⟩
    · rw [if_neg e] at h
      obtain ⟨x, hx, h⟩ := List.mem_flatMap.mp h
      obtain ⟨p, hp, rfl⟩ := List.mem_map.mp h
      obtain ⟨h1, h2, h3⟩ := perms_mem k (hn.filter _) hp
      refine ⟨List.nodup_cons.mpr ⟨fun m => ?_, h1⟩, fun i hi => ?_, Nat.succ_le_succ h3⟩
      · exact bne_iff_ne.mp (List.mem_filter.mp (h2 x m)).2 rfl
      · rcases List.mem_cons.mp hi with m | m
        · rw [m]; exact hx
        · exact (List.mem_filter.mp (h2 i m)).1
theorem rowsUp_len (cs : List Nat) : ∀ k, (rowsUp cs k).length ≤ cs.length ^ k
  | 0 => Nat.le_refl _
  | k + 1 => by
    have ih := rowsUp_len cs k
    have h : ∀ rs : List (List Nat), (longer cs rs).length ≤ rs.length * cs.length := fun rs => by
      induction rs with
      | nil => exact Nat.zero_le _
      | cons r rs ih2 =>
        unfold longer at ih2 ⊢
        rw [List.flatMap_cons, List.length_append, List.length_cons, Nat.succ_mul]
        have : (longer1 cs r).length ≤ cs.length := by
          unfold longer1
          rw [List.length_map]
          exact List.length_filter_le _ _
        omega
    refine Nat.le_trans (h _) ?_
    rw [Nat.pow_succ]
    exact Nat.mul_le_mul_right _ ih
theorem rowsUp_row (cs : List Nat) : ∀ (k : Nat) {r : List Nat}, r ∈ rowsUp cs k → r.length = k
  | 0, r, h => by rw [rowsUp, List.mem_singleton] at h; rw [h]; rfl
  | k + 1, r, h => by
    obtain ⟨r0, h0, h⟩ := List.mem_flatMap.mp h
    obtain ⟨i, _, rfl⟩ := List.mem_map.mp h
    rw [List.length_append, rowsUp_row cs k h0]
    rfl
theorem sub_len : ∀ {l r : List Nat}, l.Nodup → (∀ i ∈ l, i ∈ r) → l.length ≤ r.length
  | [], r, _, _ => Nat.zero_le _
  | x :: l, r, hn, h => by
    obtain ⟨h1, h2⟩ := List.nodup_cons.mp hn
    have hx := h x (by simp)
    have := sub_len (l := l) (r := r.erase x) h2 fun i hi => (List.mem_erase_of_ne (fun e => h1 (by rw [← e]; exact hi))).mpr (h i (by simp [hi]))
    rw [List.length_erase_of_mem hx] at this
    have : 0 < r.length := List.length_pos_of_mem hx
    rw [List.length_cons]
    omega
theorem rowsUp_ne (cs : List Nat) (hn : cs.Nodup) : ∀ (k : Nat), k ≤ cs.length → rowsUp cs k ≠ []
  | 0, _ => by simp [rowsUp]
  | k + 1, hk => by
    have ih := rowsUp_ne cs hn k (by omega)
    cases e : rowsUp cs k with
    | nil => exact absurd e ih
    | cons r rs =>
      have hr := rowsUp_row cs k (show r ∈ rowsUp cs k by rw [e]; simp)
      obtain ⟨i, hi, hir⟩ : ∃ i ∈ cs, ¬ i ∈ r := by
        refine Classical.byContradiction fun q => ?_
        have hs : ∀ i ∈ cs, i ∈ r := fun i hi => Classical.byContradiction fun m => q ⟨i, hi, m⟩
        have := sub_len hn hs
        omega
      intro e2
      rw [rowsUp, e] at e2
      have hm : (r ++ [i]) ∈ longer cs (r :: rs) := List.mem_flatMap.mpr ⟨r, by simp, List.mem_map.mpr ⟨i, List.mem_filter.mpr ⟨hi, by simpa using hir⟩, rfl⟩⟩
      rw [e2] at hm
      cases hm
/-! ### the first of the least -/
def lx : List Nat → List Nat → Bool
  | [], [] => false
  | [], _ :: _ => true
  | _ :: _, [] => false
  | x :: xs, y :: ys => if x = y then lx xs ys else decide (x < y)
theorem lx_asym : ∀ {x y : List Nat}, lx x y = true → lx y x = false
  | [], [], h => Bool.noConfusion (h : false = true)
  | [], _ :: _, _ => rfl
  | _ :: _, [], h => Bool.noConfusion (h : false = true)
  | a :: x, b :: y, h => by
    rw [lx] at h ⊢
    by_cases e : a = b
    · rw [if_pos e] at h
      rw [if_pos e.symm]
      exact lx_asym h
    · rw [if_neg e] at h
      rw [if_neg (Ne.symm e)]
      have := of_decide_eq_true h
      exact decide_eq_false (by omega)
theorem perms_sorted : ∀ (k : Nat) {l : List Nat}, l.Pairwise (· < ·) → (perms k l).Pairwise fun r s => lx r s = true
  | 0, l, _ => by
    rw [perms]
    exact List.pairwise_singleton _ _
  | k + 1, l, h => by
    rw [perms]
    by_cases e : l = []
    · rw [if_pos e]
      exact List.pairwise_singleton _ _
    · rw [if_neg e, List.pairwise_flatMap]
      refine ⟨fun x hx => ?_, ?_⟩
      · rw [List.pairwise_map]
        refine (perms_sorted k (h.filter _)).imp fun {r s} q => ?_
        rw [lx, if_pos rfl]
        exact q
      · refine h.imp fun {x y} hxy => ?_
        intro r hr s hs
        obtain ⟨r', _, rfl⟩ := List.mem_map.mp hr
        obtain ⟨s', _, rfl⟩ := List.mem_map.mp hs
        rw [lx, if_neg (by omega)]
        exact decide_eq_true hxy
def best (bt : Nat → Nat → Bool) : Nat → Nat
  | 0 => 0
  | k + 1 => if bt (k + 1) (best bt k) then k + 1 else best bt k
theorem best_le (bt : Nat → Nat → Bool) : ∀ k, best bt k ≤ k
  | 0 => Nat.le_refl _
  | k + 1 => by
    have := best_le bt k
    rw [best]
    split <;> omega
def less (p q : Nat × Nat) : Prop := p.1 < q.1 ∨ (p.1 = q.1 ∧ p.2 < q.2)
instance (p q : Nat × Nat) : Decidable (less p q) := by unfold less; infer_instance
theorem least_best {f : List Nat → Nat × Nat} {rows : List (List Nat)} {bt : Nat → Nat → Bool} (h : ∀ i j x y, j < i → rows[i]? = some x → rows[j]? = some y → bt i j = decide (less (f x) (f y))) (hne : 0 < rows.length) :
    rows[best bt (rows.length - 1)]? = some (least f rows) := by
  have key : ∀ k, k < rows.length → (rows.take (k + 1)).foldl (fun (o : Option (List Nat)) x => match o with
      | none => some x
      | some y => if (f x).1 < (f y).1 ∨ ((f x).1 = (f y).1 ∧ (f x).2 < (f y).2) then some x else some y) none = rows[best bt k]? := by
    intro k
    induction k with
    | zero =>
      intro hk
      obtain ⟨r, hr⟩ : ∃ r, rows[0]? = some r := ⟨_, List.getElem?_eq_getElem hk⟩
      rw [List.take_add_one, hr]
      show _ = rows[0]?
      rw [hr]
      rfl
    | succ k ih =>
      intro hk
      obtain ⟨x, hx⟩ : ∃ x, rows[k + 1]? = some x := ⟨_, List.getElem?_eq_getElem hk⟩
      have hb := best_le bt k
      obtain ⟨y, hy⟩ : ∃ y, rows[best bt k]? = some y := ⟨_, List.getElem?_eq_getElem (by omega)⟩
      rw [List.take_add_one, hx, List.foldl_append, ih (by omega), hy, best, h (k + 1) (best bt k) x y (by omega) hx hy]
      show (if (f x).1 < (f y).1 ∨ ((f x).1 = (f y).1 ∧ (f x).2 < (f y).2) then some x else some y) = _
      by_cases q : less (f x) (f y)
      · rw [decide_eq_true q, if_pos rfl, hx]
        exact if_pos q
      · rw [decide_eq_false q, if_neg Bool.false_ne_true, hy]
        exact if_neg q
  have h1 := key (rows.length - 1) (by omega)
  rw [show rows.length - 1 + 1 = rows.length by omega, List.take_length] at h1
  have hb := best_le bt (rows.length - 1)
  obtain ⟨y, hy⟩ : ∃ y, rows[best bt (rows.length - 1)]? = some y := ⟨_, List.getElem?_eq_getElem (by omega)⟩
  rw [hy] at h1 ⊢
  exact congrArg (fun o => some (Option.getD o [])) h1.symm
theorem pair_at {α : Type} {R : α → α → Prop} {l : List α} (h : l.Pairwise R) {i j : Nat} {x y : α} (hij : j < i) (hx : l[i]? = some x) (hy : l[j]? = some y) : R y x := by
  obtain ⟨h1, rfl⟩ := List.getElem?_eq_some_iff.mp hx
  obtain ⟨h2, rfl⟩ := List.getElem?_eq_some_iff.mp hy
  exact List.pairwise_iff_getElem.mp h j i h2 h1 hij
theorem lx1 {p q : Nat} {x y : List Nat} (h : lx y x = true) : lx (p :: x) (q :: y) = decide (less (p, 0) (q, 0)) := by
  rw [lx]
  unfold less
  by_cases e : p = q
  · rw [if_pos e, lx_asym h]
    exact (decide_eq_false (by simp [e])).symm
  · rw [if_neg e]
    simp
theorem lx2 {p p' q q' : Nat} {x y : List Nat} (h : lx y x = true) : lx (p :: p' :: x) (q :: q' :: y) = decide (less (p, p') (q, q')) := by
  rw [lx]
  unfold less
  by_cases e : p = q
  · rw [if_pos e, lx]
    by_cases e2 : p' = q'
    · rw [if_pos e2, lx_asym h]
      exact (decide_eq_false (by simp [e, e2])).symm
    · rw [if_neg e2]
      simp [e]
  · rw [if_neg e]
    simp [e]
/-! ### cages in which something is left -/
theorem kg_at (a : Abs) (i : Nat) : ((a.cages[i]?).map Cage.kg).getD 0 = (a.cages.map Cage.kg).getD i 0 := by
  rw [List.getD_eq_getElem?_getD, List.getElem?_map]
theorem full_eq (a : Abs) : full a = (List.range a.cages.length).filter (nz (a.cages.map Cage.kg)) := by
  unfold full
  refine List.filter_congr fun i _ => ?_
  unfold nz
  rw [kg_at]
theorem full_nodup (a : Abs) : (full a).Nodup := by
  rw [full_eq]
  exact List.nodup_range.filter _
theorem full_sorted (a : Abs) : (full a).Pairwise (· < ·) := by
  rw [full_eq]
  exact List.pairwise_lt_range.filter _
theorem full_len (a : Abs) : (full a).length ≤ a.cages.length := by
  rw [full_eq]
  have := List.length_filter_le (nz (a.cages.map Cage.kg)) (List.range a.cages.length)
  rw [List.length_range] at this
  exact this
theorem full_lt {a : Abs} {i : Nat} (h : i ∈ full a) : i < a.cages.length := by
  rw [full_eq] at h
  exact List.mem_range.mp (List.mem_filter.mp h).1
theorem row_ok {a : Abs} {r : List Nat} (h : r ∈ perms (full a).length (full a)) : r.Nodup ∧ (∀ i ∈ r, i < a.cages.length) ∧ r.length ≤ a.cages.length := by
  obtain ⟨h1, h2, h3⟩ := perms_mem _ (full_nodup a) h
  exact ⟨h1, fun i hi => full_lt (h2 i hi), Nat.le_trans h3 (full_len a)⟩
/-! ### washes -/
def washed (z : Option Nat) (y : Nat) : Nat := match z with
  | none => 0
  | some x => if y = x then 0 else 1
theorem washes_go (a : Abs) (z : Option Nat) (i : Nat) (l : List Nat) : washes a z (i :: l) = washed z (zoneOf a i) + washes a (some (zoneOf a i)) l := by
  cases z with
  | none => rw [washes]; exact (Nat.zero_add _).symm
  | some y => rw [washes]; rfl
theorem wash_filter (a : Abs) (l : List Nat) : (l.filter fun i => ((a.cages[i]?).map Cage.kg).getD 0 != 0) = l.filter (nz (a.cages.map Cage.kg)) := by
  refine List.filter_congr fun i _ => ?_
  unfold nz
  rw [kg_at]
theorem drop_filter {l : List Nat} {m : Nat → Bool} {i x : Nat} (h : l[i]? = some x) : (l.drop i).filter m = if m x = true then x :: (l.drop (i + 1)).filter m else (l.drop (i + 1)).filter m := by
  obtain ⟨h1, h2⟩ := List.getElem?_eq_some_iff.mp h
  rw [← List.getElem_cons_drop h1, h2, List.filter_cons]
end HM

set_option Elab.async false
set_option linter.all false
set_option maxRecDepth 100000
set_option maxHeartbeats 2000000
namespace Hb
open PySem PySem.Spec PyProof.Rows L2
theorem Ro.same {c : Cs} {H H' : Hp} {A : Ra} {a : Kh332.Abs} (R : Ro c H A a) (k : Keep [] H H') : Ro c H' A a := by
  have k' := k.same
  obtain ⟨n, hh⟩ := R.h
  exact ⟨⟨n, k' _ _ hh⟩, k' _ _ R.pl, k' _ _ R.bo, k' _ _ R.lc, R.len, fun i x g hx hg => (R.cage i x g hx hg).imp fun d h => k' _ _ h, R.ok⟩
theorem Co.same {c : Cs} {H H' : Hp} {co dco ll : Addr} {t : Nat} {z : Option Nat} {left : List Nat} (C : Co c H co dco ll t z left) (k : Keep [] H H') : Co c H' co dco ll t z left :=
  ⟨k.same _ _ C.co, k.same _ _ C.ll⟩
theorem map_at {α : Type} {f : α → V} {l : List α} {i : Nat} {y : V} (hi : (l.map f)[i]? = some y) : ∃ n, l[i]? = some n ∧ y = f n := by
  rw [List.getElem?_map] at hi
  cases e : l[i]? with
  | none =>
    rw [e] at hi
    cases hi
  | some n =>
    rw [e] at hi
    exact ⟨n, rfl, (Option.some.inj hi).symm⟩
theorem size_of {n : Nat} (h : n ≤ 10000) : n < sizeLine := Nat.lt_of_le_of_lt h (by decide)
/-- a change of what is new -/
theorem Keep.new' {S : List Addr} {H H' : Hp} {a : Addr} {o : HO} (k : Keep S H H') (ha : H a = none) : Keep S H (L2.upd H' a o) := fun b u h n => by
  rw [upd_ne (ne_of_none h ha)]
  exact k b u h n
/-- a list of pairs of whole numbers -/
structure Prs (H : Hp) (p : Addr) (d : List (Nat × Nat)) : Prop where
  ex : ∃ ps : List Addr, H p = some (.lst (ps.map V.ref)) ∧ ps.length = d.length ∧ ∀ (i : Nat) (x : Addr) (e : Nat × Nat), ps[i]? = some x → d[i]? = some e → H x = some (.tup [.int e.1, .int e.2])
theorem Prs.keep {S : List Addr} {H H' : Hp} {p : Addr} {d : List (Nat × Nat)} (B : Prs H p d) (k : Keep S H H') (hp : p ∉ S) (ht : ∀ x xs, H x = some (.tup xs) → x ∉ S) : Prs H' p d := by
  obtain ⟨ps, h1, h2, h3⟩ := B.ex
  exact ⟨ps, k _ _ h1 hp, h2, fun i x e hx he => k _ _ (h3 i x e hx he) (ht x _ (h3 i x e hx he))⟩
theorem Prs.nil {H : Hp} {p : Addr} (h : H p = some (.lst [])) : Prs H p [] := ⟨[], h, rfl, fun i x e hx _ => by simp at hx⟩
/-- xs.append(t), t a new pair -/
theorem Prs.push {H : Hp} {p x : Addr} {d : List (Nat × Nat)} {e : Nat × Nat} (B : Prs H p d) (hx : H x = none) {ps : List Addr} (hps : H p = some (.lst (ps.map V.ref))) :
    Prs (upd (upd H x (.tup [.int e.1, .int e.2])) p (.lst (ps.map V.ref ++ [.ref x]))) p (d ++ [e]) := by
  obtain ⟨ps', h1, h2, h3⟩ := B.ex
  have ep : ps' = ps := by
    have := h1.symm.trans hps
    have := HO.lst.inj (Option.some.inj this)
    exact (List.map_inj_right (fun a b h => V.ref.inj h)).mp this
  subst ep
  refine ⟨ps' ++ [x], ?_, by simp [h2], fun i y u hy hu => ?_⟩
  · rw [upd_same, List.map_append]
    rfl
  · by_cases hi : i < ps'.length
    · rw [List.getElem?_append_left hi] at hy
      rw [List.getElem?_append_left (by omega)] at hu
      have h4 := h3 i y u hy hu
      have n1 : y ≠ x := ne_of_none h4 hx
      have n2 : y ≠ p := ne_of h4 h1 (by intro z; cases z)
      rw [upd_ne n2, upd_ne n1]
      exact h4
    · rw [List.getElem?_append_right (by omega)] at hy hu
      rw [h2] at hy
      have e0 : i - d.length = 0 := by
        rcases Nat.eq_zero_or_pos (i - d.length) with h | h
        · exact h
        · rw [List.getElem?_eq_none_iff.mpr (by simp; omega)] at hu
          cases hu
      rw [e0] at hy hu
      have ey : x = y := Option.some.inj hy
      have eu : e = u := Option.some.inj hu
      subst ey eu
      have n2 : x ≠ p := fun h => by
        rw [h, h1] at hx
        cases hx
      rw [upd_ne n2, upd_same]
/-! ### readings, each said once -/
theorem rV {σ : L2.St} {i : Nat} {v : V} {R : V → Prop} (h : σ[i]? = some (some v)) (q : R v) : ∃ v', σ[i]? = some (some v') ∧ R v' := ⟨v, h, q⟩
theorem rF {K : PySem.W.Frag} {n : Str} {H : Hp} {p C d : Addr} {fs : List (Str × V)} {v : V} {R : V → Prop} (h1 : H p = some (.ins C d fs)) (h2 : Cls K C) (h3 : NoAttr K C n) (h4 : fs.lookup n = some v) (q : R v) :
    ∃ p' C' d' fs' v', V.ref p = .ref p' ∧ H p' = some (.ins C' d' fs') ∧ Cls K C' ∧ NoAttr K C' n ∧ fs'.lookup n = some v' ∧ R v' := ⟨p, C, d, fs, v, rfl, h1, h2, h3, h4, q⟩
theorem rX {K : PySem.W.Frag} {H : Hp} {p : Addr} {xs : List V} {i : Int} {v : V} {R : V → Prop} (h1 : SqL K H p xs) (h2 : atI xs i = some v) (q : R v) :
    ∃ p' xs' i' v', V.ref p = .ref p' ∧ V.int i = .int i' ∧ SqL K H p' xs' ∧ atI xs' i' = some v' ∧ R v' := ⟨p, xs, i, v, rfl, rfl, h1, h2, q⟩
theorem rI2 {i j : Int} {R : Int → Int → Prop} (q : R i j) : ∃ i' j', V.int i = .int i' ∧ V.int j = .int j' ∧ R i' j' := ⟨i, j, rfl, rfl, q⟩
theorem rB {b : Bool} {R : Bool → Prop} (q : R b) : ∃ c, V.bl b = .bl c ∧ R c := ⟨b, rfl, q⟩
theorem rLen {K : PySem.W.Frag} {H : Hp} {p : Addr} {ys : List V} {R : List V → Prop} (h : SqL K H p ys) (q : R ys) : ∃ p' ys', [V.ref p] = [.ref p'] ∧ (SqL K H p' ys' ∨ SqT K H p' ys') ∧ R ys' := ⟨p, ys, rfl, .inl h, q⟩
end Hb

set_option Elab.async false
set_option linter.all false
set_option maxRecDepth 100000
set_option maxHeartbeats 2000000
namespace Hb
open PySem PySem.Spec PyProof.Rows L2
theorem for_enum {K : PySem.W.Frag} {a : Addr} {xs : List V} {g : TG} {tb : TS} {D : Ends} {σ : L2.St} {H : Hp} (Pv : Nat → L2.St → Hp → Prop) (h0 : Pv 0 σ H) (hl : ∀ i σ H, i ≤ xs.length → Pv i σ H → SqL K H a xs)
    (hs : ∀ i x σ H T, xs[i]? = some x → Pv i σ H → H T = none → g (.ref T) σ (upd H T (.tup [.int (i : Nat), x])) fun σ2 H2 => tb { D with nx := Pv (i + 1), ct := Pv (i + 1), bk := D.nx } σ2 H2) (hd : ∀ σ H, Pv xs.length σ H → D.nx σ H) :
    ∃ W : Nat → Nat → L2.St → Hp → Prop, (∃ m, W 0 m σ H) ∧ ∀ i m σ H, W i m σ H →
      ((Ite K a).stop i H ∧ D.nx σ H) ∨ ((Ite K a).go i H ∧ ∃ N : L2.St → Hp → Prop, (∀ σ' H', N σ' H' → ∃ m', m' < m ∧ W (i + 1) m' σ' H') ∧ ∀ x H', (Ite K a).yld i H x H' → g x σ H' fun σ2 H2 => tb { D with nx := N, ct := N, bk := D.nx } σ2 H2) := by
  refine ⟨fun i m σ H => m = xs.length - i ∧ i ≤ xs.length ∧ Pv i σ H, ⟨xs.length, by simp, Nat.zero_le _, h0⟩, ?_⟩
  rintro i m σ H ⟨rfl, hi, p⟩
  have q := hl i σ H hi p
  by_cases hlt : i < xs.length
  · refine .inr ⟨⟨xs, xs[i], q, by simp [hlt]⟩, Pv (i + 1), fun σ' H' p' => ⟨xs.length - (i + 1), by omega, rfl, hlt, p'⟩, fun x H' y => ?_⟩
    obtain ⟨T, v, e1, e2, e3, y⟩ := y
    subst e1 e3
    exact hs i v σ H T (y xs q) p e2
  · have e : i = xs.length := by omega
    subst e
    exact .inl ⟨⟨xs, q, Nat.le_refl _⟩, hd σ H p⟩
theorem cutV_take {xs : List V} {k : Nat} (h : k ≤ xs.length) : cutV xs none (some (k : Int)) = xs.take k := by
  unfold cutV
  rw [HT.sIx_none, HT.sIx_nat, Nat.min_eq_left h]
  rfl
theorem inV_nat (n : Nat) (l : List Nat) : inV (vN n) (l.map vN) = decide (n ∈ l) := by
  unfold inV
  rw [List.any_map]
  by_cases h : n ∈ l
  · rw [decide_eq_true h, List.any_eq_true]
    exact ⟨n, h, by show ((n : Int) == (n : Int)) = true; simp⟩
  · rw [decide_eq_false h, List.any_eq_false]
    intro x hx e
    have e2 : ((x : Int) == (n : Int)) = true := e
    have e3 : (x : Int) = (n : Int) := by simpa using e2
    exact h (by rw [show n = x by omega]; exact hx)
theorem flat_nat (l : List Nat) : (l.map vN).all flatV = true := by
  rw [List.all_map, List.all_eq_true]
  intro x _
  rfl
section
variable {P : Program} {w : World} {K : PySem.W.Frag} {mg : Str → Option Value} {base : Heap} {c : Cs}
def spRow (c : Cs) : Sp := fun vs H Q _ => ∃ (A : Ra) (a : Kh332.Abs) (r : Addr) (row : List Nat), vs = [.ref A.h, .ref r] ∧ Ro c H A a ∧ H r = some (.lst (row.map vN)) ∧
  ∀ H', Keep [] H H' → Q (.bl (Kh332.okRow a row)) H'
theorem scRow : FnScope ["harvest", "row", "place", "i"] ["harvest", "row"] (defScope s_is_row_of_cages) := ⟨rfl, rfl, rfl, by decide +kernel, rfl, by decide +kernel, by decide +kernel⟩
theorem ok_row (T : Tx K mg c) (D : Dn K mg "is_row_of_cages" s_is_row_of_cages ["harvest", "row"]) : Cl P w K mg base "is_row_of_cages" ["harvest", "row"] 1 (spRow c) := by
  refine D.ok scRow (fun vs H Q E h => ?_) (fun f cdv A outer s H vs Q E hr h => ?_)
  · obtain ⟨A, a, r, row, rfl, _⟩ := h
    rfl
  · obtain ⟨A, a, r, row, rfl, R, hrow, q⟩ := h
    have nd := scRow.nd
    refine ⟨_, pss_cons (ps_for PassesOwn.never rfl (pi_enum (by rfl) T.enumerate (pa_cons (pv 1) pa_nil)) (pg_tup rfl (pgs_cons (pg_name (i := 2) nd rfl (Or.inl rfl)) (pgs_cons (pg_name (i := 3) nd rfl (Or.inl rfl)) pgs_nil)))
        (pss_one (ps_if (pw_or (pt_cmpR op_ge (pv 3) (pe_callB call_len_seq (by rfl) T.len (by rfl) (pa_cons (pe_fld (pv 0) rfl) pa_nil)) (nomark _)) (pw_or1 (pt_cmpR op_in_seq (pv 3) (pe_slice sl_list (pv 1) po_none (po_some (pv 2))) (by with_unfolding_all rfl)))).pt
          (pss_one (ps_ret pe_bl)) pss_nil)))
      (pss_one (ps_ret pe_bl)), ?_⟩
    refine ⟨_, rfl, r, _, rfl, SqL.of hrow, for_enum (K := K) (a := r) (xs := row.map vN) (fun i σ H' => ∃ (v2 v3 : Option V), σ = [some (.ref A.h), some (.ref r), v2, v3] ∧ Keep [] H H' ∧ (∀ j ∈ row.take i, j < a.cages.length) ∧ (row.take i).Nodup)
      ⟨none, none, rfl, Keep.refl, by simp, by simp⟩ (fun i σ H' _ ⟨_, _, _, k, _⟩ => SqL.of (k.same _ _ hrow)) ?_ ?_⟩
    · rintro i y σ H' tp hi ⟨v2, v3, rfl, kp, hlt, hnd⟩ htp
      obtain ⟨n, hn, rfl⟩ := map_at hi
      have hil : i < row.length := (List.getElem?_eq_some_iff.mp hn).1
      have et : row.take (i + 1) = row.take i ++ [n] := HM.take_snoc hn
      have hmem : n ∈ row := List.mem_of_getElem? hn
      have kp1 := kp.new (o := .tup [.int (i : Nat), vN n]) htp
      have R1 := R.same kp1
      obtain ⟨nA, hh1⟩ := R1.h
      refine ⟨tp, _, rfl, SqT.of upd_same, rfl, _, _, rfl, _, _, rfl, rfl, ?_⟩
      refine ⟨_, rfl, _, rfl, A.h, _, A.dh, _, _, rfl, hh1, T.harvest, T.aCages, hvF_cages _ _, A.lc, _, rfl, .inl (SqL.of R1.lc), _, _, rfl, rfl, _, rfl, ?_⟩
      have el : ((A.cs.map V.ref).length : Int) = (a.cages.length : Int) := by rw [List.length_map, R.len]
      refine if_d (fun h1 => ?_) (fun h1 => ?_)
      · refine (q _ kp1 : Q _ _) |> fun q' => ?_
        have e : Kh332.okRow a row = false := by
          unfold Kh332.okRow
          rw [Bool.and_eq_false_iff]
          left
          rw [List.all_eq_false]
          exact ⟨n, hmem, by simp; omega⟩
        rw [e] at q'
        exact q'
      · refine ⟨_, rfl, _, rfl, _, rfl, _, rfl, r, _, rfl, SqL.of (kp1.same _ _ hrow), fun p2 hp2 => ?_⟩
        have kp2 := kp1.new (o := .lst (cutV (row.map vN) none (some (i : Int)))) hp2
        refine ⟨p2, _, rfl, .inl (SqL.of upd_same), rfl, ?_, _, rfl, ?_⟩
        · rw [cutV_take (by rw [List.length_map]; omega), ← List.map_take]
          exact flat_nat _
        · rw [cutV_take (by rw [List.length_map]; omega), ← List.map_take]
          rw [if_neg Bool.false_ne_true, inV_nat]
          refine if_d (fun h2 => ?_) (fun h2 => ?_)
          · have q' := q _ kp2
            have e : Kh332.okRow a row = false := by
              unfold Kh332.okRow
              rw [Bool.and_eq_false_iff]
              right
              rw [decide_eq_false_iff_not]
              intro hN
              have hN2 : (row.take (i + 1)).Nodup := List.Sublist.nodup (List.take_sublist _ _) hN
              rw [et, List.nodup_append] at hN2
              exact hN2.2.2 n h2 n (by simp) rfl
            rw [e] at q'
            rw [cutV_take (by rw [List.length_map]; omega), ← List.map_take] at q'
            exact q'
          · refine ⟨_, _, rfl, ?_, ?_, ?_⟩
            · rw [cutV_take (by rw [List.length_map]; omega), ← List.map_take] at kp2
              exact kp2
            · rw [et]
              intro j hj
              rcases List.mem_append.mp hj with hj | hj
              · exact hlt j hj
              · rw [List.mem_singleton.mp hj]
                omega
            · rw [et, List.nodup_append]
              refine ⟨hnd, by simp, fun x hx y hy e => ?_⟩
              rw [List.mem_singleton.mp hy] at e
              subst e
              exact h2 hx
    · rintro σ H' ⟨v2, v3, rfl, kp, hlt, hnd⟩
      rw [List.length_map, List.take_length] at hlt hnd
      have e : Kh332.okRow a row = true := by
        unfold Kh332.okRow
        rw [Bool.and_eq_true, List.all_eq_true]
        exact ⟨fun j hj => decide_eq_true (hlt j hj), decide_eq_true hnd⟩
      have q' := q _ kp
      rw [e] at q'
      exact q'
theorem okRow_lt {a : Kh332.Abs} {row : List Nat} (h : Kh332.okRow a row = true) : ∀ i ∈ row, i < a.cages.length := by
  unfold Kh332.okRow at h
  rw [Bool.and_eq_true, List.all_eq_true] at h
  exact fun i hi => of_decide_eq_true (h.1 i hi)
theorem okRow_nd {a : Kh332.Abs} {row : List Nat} (h : Kh332.okRow a row = true) : row.Nodup := by
  unfold Kh332.okRow at h
  rw [Bool.and_eq_true] at h
  exact of_decide_eq_true h.2
end
end Hb

set_option Elab.async false
set_option linter.all false
set_option maxRecDepth 100000
set_option maxHeartbeats 2000000
namespace Hb
open PySem PySem.Spec PyProof.Rows L2
/-- what trip_refusal gives back -/
def refV (a : Kh332.Abs) (left row : List Nat) : V :=
  if Kh332.okRow a row = false ∨ row = [] then .int (-22) else if Kh332.oneZone a row = false then .int (-33) else if (row.all fun i => left.getD i 0 == 0) = true then .int (-6) else .non
section
variable {P : Program} {w : World} {K : PySem.W.Frag} {mg : Str → Option Value} {base : Heap} {c : Cs}
def spRefusal (c : Cs) : Sp := fun vs H Q _ => ∃ (A : Ra) (a : Kh332.Abs) (dco ll r : Addr) (t : Nat) (z : Option Nat) (left row : List Nat), vs = [.ref A.h, .ref r] ∧ Ro c H A a ∧ Co c H A.co dco ll t z left ∧ H r = some (.lst (row.map vN)) ∧ row.length ≤ 10000 ∧ left.length = a.cages.length ∧
  ∀ H', Keep [] H H' → Q (refV a left row) H'
theorem scRefusal : FnScope ["harvest", "row", "zone", "i"] ["harvest", "row"] (defScope s_trip_refusal) := ⟨rfl, rfl, rfl, by decide +kernel, rfl, by decide +kernel, by decide +kernel⟩
theorem ok_refusal (T : Tx K mg c) (D : Dn K mg "trip_refusal" s_trip_refusal ["harvest", "row"]) (C1 : Cl P w K mg base "is_row_of_cages" ["harvest", "row"] 1 (spRow c)) : Cl P w K mg base "trip_refusal" ["harvest", "row"] 2 (spRefusal c) := by
  refine D.ok scRefusal (fun vs H Q E h => ?_) (fun f cdv A outer s H vs Q E hr h => ?_)
  · obtain ⟨A, a, dco, ll, r, t, z, left, row, rfl, _⟩ := h
    rfl
  · obtain ⟨A, a, dco, ll, r, t, z, left, row, rfl, R, C, hrow, hsz, hlen, q⟩ := h
    obtain ⟨f1, fd1, G1, b1, m1, k1⟩ := C1
    have nd := scRefusal.nd
    refine ⟨_, pss_cons (ps_cut (ps_if (pw_or (pt_cmpR op_eq (pe_callB call_len_seq (by rfl) T.len (by rfl) (pa_cons (pv 1) pa_nil)) pe_int (nomark _)) (pw_or1 (pt_not (pt_val (pe_call G1 hr (by rfl) m1 k1 b1 .nil pass0 (pa_cons (pv 0) (pa_cons (pv 1) pa_nil))))))).pt
        (pss_one (ps_ret (pg_int T.rNotTold))) pss_nil))
      (pss_cons (ps_set (i := 2) nd rfl (Or.inr rfl) (pe_fld (pe_ix ix_list (pe_fld (pv 0) rfl) (pe_ix ix_list (pv 1) pe_int (fun _ _ => rfl)) (fun _ _ => rfl)) rfl))
      (pss_cons (ps_if (pt_val (pe_callB (cr_any rfl) (by rfl) T.any (by rfl) (pa_cons (pe_lc (te := tOp rNe (tFld K (tOp (rIxL K) (tFld K (tVar 0) "cages") (tVar 3)) "zone") (tVar 2)) rfl nd (pi_list (pv 1)) (blkOk_by (own := [("i", 3)]) (by refine (show blkC ["harvest", "row", "zone", "i"] (defScope s_trip_refusal) _ [("i", 3)] = true from ?_); decide +kernel)) (fun _ _ _ _ _ => pg_name (i := 3) nd rfl (Or.inl rfl)) (fun _ _ _ _ _ => pts_nil)
          (fun _ _ _ _ _ => pe_cmpR op_ne (pe_fld (pe_ix ix_list (pe_fld (pv 0) rfl) (pv 3) (fun _ _ => rfl)) rfl) (pv 2) (nomark _))) pa_nil)))
        (pss_one (ps_ret (pg_int T.rZone))) pss_nil)
      (pss_cons (ps_if (pt_val (pe_callB (cr_all rfl) (by rfl) T.all (by rfl) (pa_cons (pe_lc (te := tOp rEq (tOp (rIxL K) (tFld K (tFld K (tVar 0) "course") "left") (tVar 3)) (tC (.int 0))) rfl nd (pi_list (pv 1)) (blkOk_by (own := [("i", 3)]) (by refine (show blkC ["harvest", "row", "zone", "i"] (defScope s_trip_refusal) _ [("i", 3)] = true from ?_); decide +kernel)) (fun _ _ _ _ _ => pg_name (i := 3) nd rfl (Or.inl rfl)) (fun _ _ _ _ _ => pts_nil)
          (fun _ _ _ _ _ => pe_cmpR op_eq (pe_ix ix_list (pe_fld (pe_fld (pv 0) rfl) rfl) (pv 3) (fun _ _ => rfl)) pe_int (nomark _))) pa_nil)))
        (pss_one (ps_ret (pg_int T.rNothing))) pss_nil)
      (pss_one (ps_ret pe_non))))), ?_⟩
    refine ⟨fun σ' H1 => σ' = [some (V.ref A.h), some (.ref r), none, none] ∧ Keep [] H H1 ∧ Kh332.okRow a row = true ∧ row ≠ [], ?_, ?_⟩
    · refine ⟨_, rfl, r, _, rfl, .inl (SqL.of hrow), rfl, _, rfl, ?_⟩
      refine if_d (fun h1 => ?_) (fun h1 => ?_)
      · have e : row = [] := by
          have := V.int.inj h1
          rw [List.length_map] at this
          exact List.length_eq_zero_iff.mp (by omega)
        refine iteT ?_
        have q' := q _ Keep.refl
        unfold refV at q'
        rw [if_pos (.inr e)] at q'
        exact q'
      · have e : row ≠ [] := by
          intro e
          subst e
          exact h1 rfl
        refine ⟨_, rfl, _, rfl, A, a, r, row, rfl, R, hrow, fun H1 kp => ⟨_, rfl, ?_⟩⟩
        cases ho : Kh332.okRow a row with
        | false =>
          refine iteT ?_
          have q' := q _ kp
          unfold refV at q'
          rw [if_pos (.inl ho)] at q'
          exact q'
        | true => exact iteF ⟨rfl, kp, rfl, e⟩
    · rintro σ' H1 ⟨rfl, kp, hok, hne⟩
      have hin := okRow_lt hok
      obtain ⟨i0, row', rfl⟩ : ∃ i0 row', row = i0 :: row' := by
        cases row with
        | nil => exact absurd rfl hne
        | cons x y => exact ⟨x, y, rfl⟩
      have hi0 : i0 < a.cages.length := hin i0 (by simp)
      obtain ⟨g0, hg0⟩ : ∃ g, a.cages[i0]? = some g := ⟨_, List.getElem?_eq_getElem hi0⟩
      obtain ⟨x0, hx0⟩ : ∃ x, A.cs[i0]? = some x := ⟨_, List.getElem?_eq_getElem (by rw [R.len]; exact hi0)⟩
      have R1 := R.same kp
      obtain ⟨dg0, hdg0⟩ := R1.cage i0 x0 g0 hx0 hg0
      obtain ⟨nA, hh⟩ := R1.h
      have ez : Kh332.zoneOf a i0 = g0.zone := zoneOf_at hg0
      have hrow1 := kp.same _ _ hrow
      refine ⟨_, rfl, A.h, _, A.dh, _, _, rfl, hh, T.harvest, T.aCages, hvF_cages _ _, _, rfl, r, _, _, _, rfl, rfl, SqL.of hrow1, atI_nat (j := 0) rfl, A.lc, _, _, _, rfl, rfl, SqL.of R1.lc, atI_nat (get_map hx0), x0, _, dg0, _, _, rfl, hdg0, T.cage, T.aCZone, cageF_zone _, ?_⟩
      generalize hrw : i0 :: row' = row at *
      have hz0 : Kh332.zoneOf a (row.headD 0) = g0.zone := by rw [← hrw]; exact ez
      -- any
      refine ⟨_, rfl, r, rfl, ⟨_, SqL.of hrow1⟩, fun L hL => lc_list (K := K) (a := r) (xs := row.map vN) (fun i H' => H' L = some (.lst (((row.take i).map fun j => !decide (Kh332.zoneOf a j = g0.zone)).map V.bl)) ∧ Keep [] H1 H')
        ⟨upd_same, Keep.refl.new hL⟩ (fun i H' _ ⟨_, k⟩ => SqL.of (k.same _ _ hrow1)) ?_ ?_⟩
      · rintro i y H' hi ⟨hD, kp2⟩
        obtain ⟨n, hn, rfl⟩ := map_at hi
        have hnl : n < a.cages.length := hin n (List.mem_of_getElem? hn)
        obtain ⟨g, hg⟩ : ∃ g, a.cages[n]? = some g := ⟨_, List.getElem?_eq_getElem hnl⟩
        obtain ⟨x, hx⟩ : ∃ x, A.cs[n]? = some x := ⟨_, List.getElem?_eq_getElem (by rw [R.len]; exact hnl)⟩
        have R2 := R1.same kp2
        obtain ⟨dg, hdg⟩ := R2.cage n x g hx hg
        obtain ⟨nA2, hh2⟩ := R2.h
        refine ⟨rfl, _, rfl, A.h, _, A.dh, _, _, rfl, hh2, T.harvest, T.aCages, hvF_cages _ _, _, rfl, A.lc, _, _, _, rfl, rfl, SqL.of R2.lc, atI_nat (get_map hx), x, _, dg, _, _, rfl, hdg, T.cage, T.aCZone, cageF_zone _, _, rfl, rfl, _, hD,
          (by rw [List.length_map, List.length_map, List.length_take]; exact size_of (by omega)), ?_, kp2.new' hL⟩
        rw [upd_same, HM.take_snoc hn, List.map_append, List.map_append]
        have e : (decide (V.int (g.zone : Int) = V.int (g0.zone : Int))) = decide (Kh332.zoneOf a n = g0.zone) := by
          rw [zoneOf_at hg]
          by_cases h : g.zone = g0.zone
          · rw [decide_eq_true h, decide_eq_true (by rw [h])]
          · rw [decide_eq_false h, decide_eq_false (fun e => h (by have := V.int.inj e; omega))]
        rw [e]
        rfl
      · rintro H2 ⟨hD, kp2⟩
        rw [List.length_map, List.take_length] at hD
        have kpb := kp.trans kp2
        refine ⟨L, _, rfl, SqL.of hD, _, rfl, ?_⟩
        have eany : ((row.map fun j => !decide (Kh332.zoneOf a j = g0.zone)).any id) = !Kh332.oneZone a row := by
          unfold Kh332.oneZone
          rw [List.any_map, hz0]
          have : ∀ l : List Nat, (l.any (id ∘ fun j => !decide (Kh332.zoneOf a j = g0.zone))) = !(l.all fun i => Kh332.zoneOf a i == g0.zone) := by
            intro l
            induction l with
            | nil => rfl
            | cons x l ih =>
              rw [List.any_cons, List.all_cons, ih]
              show ((!decide (Kh332.zoneOf a x = g0.zone)) || _) = _
              rw [Bool.not_and, Bool.beq_eq_decide_eq]
          exact this row
        rw [eany]
        cases ho : Kh332.oneZone a row with
        | false =>
          refine iteT ?_
          have q' := q _ kpb
          unfold refV at q'
          rw [if_neg (by rw [hok]; simp [hne]), if_pos ho] at q'
          exact q'
        | true =>
          refine iteF ?_
          have hrow2 := kpb.same _ _ hrow
          have R2 := R.same kpb
          have C2 := C.same kpb
          refine ⟨_, rfl, r, rfl, ⟨_, SqL.of hrow2⟩, fun L2 hL2 => lc_list (K := K) (a := r) (xs := row.map vN) (fun i H' => H' L2 = some (.lst (((row.take i).map fun j => decide (left.getD j 0 = 0)).map V.bl)) ∧ Keep [] H2 H')
            ⟨upd_same, Keep.refl.new hL2⟩ (fun i H' _ ⟨_, k⟩ => SqL.of (k.same _ _ hrow2)) ?_ ?_⟩
          · rintro i y H' hi ⟨hD2, kp3⟩
            obtain ⟨n, hn, rfl⟩ := map_at hi
            have hnl : n < a.cages.length := hin n (List.mem_of_getElem? hn)
            obtain ⟨y, hy⟩ : ∃ y, left[n]? = some y := ⟨_, List.getElem?_eq_getElem (by omega)⟩
            have ey : left.getD n 0 = y := by rw [List.getD_eq_getElem?_getD, hy]; rfl
            have R3 := R2.same kp3
            have C3 := C2.same kp3
            obtain ⟨nA3, hh3⟩ := R3.h
            refine ⟨rfl, _, rfl, A.h, _, A.dh, _, _, rfl, hh3, T.harvest, T.aCourse, hvF_course _ _, A.co, _, dco, _, _, rfl, C3.co, T.course, T.aLeft, courseF_left _ _ _, _, rfl, ll, _, _, _, rfl, rfl, SqL.of C3.ll, atI_nat (get_map hy), rfl, _, hD2,
              (by rw [List.length_map, List.length_map, List.length_take]; exact size_of (by omega)), ?_, kp3.new' hL2⟩
            rw [upd_same, HM.take_snoc hn, List.map_append, List.map_append]
            have e : (decide (V.int (y : Int) = V.int 0)) = decide (left.getD n 0 = 0) := by
              rw [ey]
              by_cases h : y = 0
              · rw [decide_eq_true h, decide_eq_true (by rw [h]; rfl)]
              · rw [decide_eq_false h, decide_eq_false (fun e => h (by have := V.int.inj e; omega))]
            show some (HO.lst (_ ++ [V.bl (decide (V.int (y : Int) = V.int 0))])) = _
            rw [e]
            rfl
          · rintro H3 ⟨hD2, kp3⟩
            rw [List.length_map, List.take_length] at hD2
            have kpc := kpb.trans kp3
            refine ⟨L2, _, rfl, SqL.of hD2, _, rfl, ?_⟩
            have eall : ((row.map fun j => decide (left.getD j 0 = 0)).all id) = row.all fun i => left.getD i 0 == 0 := by
              rw [List.all_map]
              have : ∀ l : List Nat, (l.all (id ∘ fun j => decide (left.getD j 0 = 0))) = (l.all fun i => left.getD i 0 == 0) := by
                intro l
                induction l with
                | nil => rfl
                | cons x l ih =>
                  rw [List.all_cons, List.all_cons, ih]
                  show (decide (left.getD x 0 = 0) && _) = _
                  rw [Bool.beq_eq_decide_eq]
              exact this row
            rw [eall]
            have q' := q _ kpc
            unfold refV at q'
            rw [if_neg (by rw [hok]; simp [hne]), if_neg (by rw [ho]; simp)] at q'
            cases hz : row.all fun i => left.getD i 0 == 0 with
            | true =>
              rw [hz, if_pos rfl] at q'
              exact iteT q'
            | false =>
              rw [hz, if_neg Bool.false_ne_true] at q'
              exact iteF q'
end
end Hb

set_option Elab.async false
set_option linter.all false
set_option maxRecDepth 100000
set_option maxHeartbeats 2000000
namespace Hb
open PySem PySem.Spec PyProof.Rows L2
/-- a harvest that stands for a -/
structure Hv (c : Cs) (H : Hp) (A : Ra) (dco ll : Addr) (a : Kh332.Abs) : Prop where
  ro : Ro c H A a
  h : H A.h = some (.ins c.harvest A.dh (hvF A ((a.brought.map fun x => x.2).sum)))
  co : Co c H A.co dco ll a.time a.zone (a.cages.map Kh332.Cage.kg)
  lo : Prs H A.lo (a.orders.map fun o => (o.kg, o.due))
  lt : Prs H A.lt a.brought
  nCO : A.lc ≠ A.lo
  nCT : A.lc ≠ A.lt
  nCL : A.lc ≠ ll
  nOT : A.lo ≠ A.lt
  nOL : A.lo ≠ ll
  nTL : A.lt ≠ ll
  nc : a.cages.length ≤ 5
  no : a.orders.length ≤ 5
  kg : ∀ g ∈ a.cages, g.kg ≤ 20000
/-- what the calls change -/
def muts (A : Ra) (ll : Addr) : List Addr := [A.h, A.co, ll, A.lc, A.lo, A.lt]
def ansV (x : Kh332.Ans) : List V := .int x.ret :: x.out.map vN
/-- the promise of a call: rel tells what is handed in -/
def spC (c : Cs) (rel : Hp → List Addr → List V → Kh332.Call → Prop) : Sp := fun vs H Q _ => ∃ (A : Ra) (dco ll : Addr) (a : Kh332.Abs) (args : List V) (cl : Kh332.Call), vs = .ref A.h :: args ∧ rel H (muts A ll) args cl ∧ Hv c H A dco ll a ∧ a.brought.length ≤ 5000 ∧
  ∀ (H' : Hp) (p : Addr) (cs : List Addr) (a' : Kh332.Abs) (ans : Kh332.Ans), Kh332.doing (some a) cl = (some a', ans) → Hv c H' { A with cs := cs } dco ll a' → H p = none → H' p = some (.lst (ansV ans)) → Keep (muts A ll) H H' → Q (.ref p) H'
theorem Prs.same {H H' : Hp} {p : Addr} {d : List (Nat × Nat)} (B : Prs H p d) (k : Keep [] H H') : Prs H' p d := B.keep k (by simp) (by simp)
theorem Hv.same {c : Cs} {H H' : Hp} {A : Ra} {dco ll : Addr} {a : Kh332.Abs} (V : Hv c H A dco ll a) (k : Keep [] H H') : Hv c H' A dco ll a :=
  ⟨V.ro.same k, k.same _ _ V.h, V.co.same k, V.lo.same k, V.lt.same k, V.nCO, V.nCT, V.nCL, V.nOT, V.nOL, V.nTL, V.nc, V.no, V.kg⟩
/-- a call that changes nothing -/
theorem Hv.told {c : Cs} {H H1 : Hp} {A : Ra} {dco ll : Addr} {a : Kh332.Abs} {cl : Kh332.Call} {Q : VK} {p : Addr} {xs : List V} {ans : Kh332.Ans} (V : Hv c H A dco ll a)
    (q : ∀ (H' : Hp) (p : Addr) (cs : List Addr) (a' : Kh332.Abs) (ans : Kh332.Ans), Kh332.doing (some a) cl = (some a', ans) → Hv c H' { A with cs := cs } dco ll a' → H p = none → H' p = some (.lst (ansV ans)) → Keep (muts A ll) H H' → Q (.ref p) H')
    (k : Keep [] H H1) (hp : H1 p = none) (e : Kh332.doing (some a) cl = (some a, ans)) (hx : xs = ansV ans) : Q (.ref p) (upd H1 p (.lst xs)) := by
  have k2 := k.new (o := .lst xs) hp
  refine q _ p A.cs a ans e (V.same k2) ?_ (by rw [upd_same, hx]) (k2.mono (by simp))
  cases e2 : H p with
  | none => rfl
  | some o =>
    rw [k.same _ _ e2] at hp
    cases hp
/-- the two ways from a harvest's lists to its numbers -/
theorem Hv.cs_len {c : Cs} {H : Hp} {A : Ra} {dco ll : Addr} {a : Kh332.Abs} (Z : Hv c H A dco ll a) : (A.cs.map V.ref).length = a.cages.length := by
  rw [List.length_map, Z.ro.len]
section
variable {P : Program} {w : World} {K : PySem.W.Frag} {mg : Str → Option Value} {base : Heap} {c : Cs}
/-! ### within -/
def spWithin : Sp := fun vs H Q _ => ∃ x l m : Int, vs = [.int x, .int l, .int m] ∧ Q (.bl (decide (l ≤ x ∧ x ≤ m))) H
theorem scWithin : FnScope ["number", "least", "most"] ["number", "least", "most"] (defScope s_within) := ⟨rfl, rfl, rfl, by decide +kernel, rfl, by decide +kernel, by decide +kernel⟩
theorem ok_within (D : Dn K mg "within" s_within ["number", "least", "most"]) : Cl P w K mg base "within" ["number", "least", "most"] 1 spWithin := by
  refine D.ok scWithin (fun vs H Q E h => ?_) (fun f cdv A outer s H vs Q E hr h => ?_)
  · obtain ⟨x, l, m, rfl, _⟩ := h
    rfl
  · obtain ⟨x, l, m, rfl, q⟩ := h
    refine ⟨_, pss_one (ps_ret (pe_and (pe_cmpR op_le (pv 1) (pv 0) (nomark _)) (pe_one (pe_cmpR op_le (pv 0) (pv 2) (nomark _))))), ?_⟩
    refine ⟨_, rfl, _, rfl, _, _, rfl, rfl, _, rfl, ?_⟩
    refine if_d (fun h1 => ?_) (fun h1 => ?_)
    · refine ⟨_, rfl, _, rfl, _, _, rfl, rfl, q_bl q ?_⟩
      by_cases h2 : x ≤ m
      · rw [decide_eq_true h2, decide_eq_true ⟨h1, h2⟩]
      · rw [decide_eq_false h2, decide_eq_false (fun h => h2 h.2)]
    · exact q_bl q (decide_eq_false (fun h => h1 h.1)).symm
/-! ### the classes -/
def spCageInit (c : Cs) : Sp := fun vs H Q _ => ∃ (p dx : Addr) (v1 v2 : V), vs = [.ref p, v1, v2] ∧ H p = some (.ins c.cage dx []) ∧ Q .non (upd H p (.ins c.cage dx [("at", v1), ("zone", v2)]))
theorem scCageInit : FnScope ["self", "at", "zone"] ["self", "at", "zone"] (defScope s_Cage_init) := ⟨rfl, rfl, rfl, by decide +kernel, rfl, by decide +kernel, by decide +kernel⟩
theorem ok_cageInit (T : Tx K mg c) (D : DnN K mg "Cage" c.cage "Cage.__init__" s_Cage_init ["self", "at", "zone"]) : ClN P w K mg base "Cage" c.cage ["self", "at", "zone"] 1 (spCageInit c) := by
  refine D.ok scCageInit (fun vs H Q E h => ?_) (fun f cdv A outer s H vs Q E hr h => ?_)
  · obtain ⟨p, dx, v1, v2, rfl, _⟩ := h
    rfl
  · obtain ⟨p, dx, v1, v2, rfl, hp, q⟩ := h
    refine ⟨_, pss_cons (ps_fld (pv 0) (pv 1) rfl) (pss_one (ps_fld (pv 0) (pv 2) rfl)), ?_⟩
    refine ⟨_, rfl, _, rfl, p, _, dx, _, rfl, hp, T.cage, T.aAt, (by show 0 < 1000; decide), ?_⟩
    refine ⟨_, rfl, _, rfl, p, _, dx, _, rfl, upd_same, T.cage, T.aCZone, (by show 1 < 1000; decide), ?_⟩
    rw [upd_upd]
    exact q
def spCourseInit (c : Cs) : Sp := fun vs H Q _ => ∃ (p dx : Addr) (v1 v2 v3 : V), vs = [.ref p, v1, v2, v3] ∧ H p = some (.ins c.course dx []) ∧ Q .non (upd H p (.ins c.course dx [("hour", v1), ("zone", v2), ("left", v3)]))
theorem scCourseInit : FnScope ["self", "hour", "zone", "left"] ["self", "hour", "zone", "left"] (defScope s_Course_init) := ⟨rfl, rfl, rfl, by decide +kernel, rfl, by decide +kernel, by decide +kernel⟩
theorem ok_courseInit (T : Tx K mg c) (D : DnN K mg "Course" c.course "Course.__init__" s_Course_init ["self", "hour", "zone", "left"]) : ClN P w K mg base "Course" c.course ["self", "hour", "zone", "left"] 1 (spCourseInit c) := by
  refine D.ok scCourseInit (fun vs H Q E h => ?_) (fun f cdv A outer s H vs Q E hr h => ?_)
  · obtain ⟨p, dx, v1, v2, v3, rfl, _⟩ := h
    rfl
  · obtain ⟨p, dx, v1, v2, v3, rfl, hp, q⟩ := h
    refine ⟨_, pss_cons (ps_fld (pv 0) (pv 1) rfl) (pss_cons (ps_fld (pv 0) (pv 2) rfl) (pss_one (ps_fld (pv 0) (pv 3) rfl))), ?_⟩
    refine ⟨_, rfl, _, rfl, p, _, dx, _, rfl, hp, T.course, T.aHour, (by show 0 < 1000; decide), ?_⟩
    refine ⟨_, rfl, _, rfl, p, _, dx, _, rfl, upd_same, T.course, T.aZone, (by show 1 < 1000; decide), ?_⟩
    refine ⟨_, rfl, _, rfl, p, _, dx, _, rfl, upd_same, T.course, T.aLeft, (by show 2 < 1000; decide), ?_⟩
    rw [upd_upd, upd_upd]
    exact q
/-- a new course that stands where one does -/
def spTwin (c : Cs) : Sp := fun vs H Q _ => ∃ (co dco ll : Addr) (t : Nat) (z : Option Nat) (left : List Nat), vs = [.ref co] ∧ Co c H co dco ll t z left ∧
  ∀ (H' : Hp) (x dx l : Addr), H x = none → H l = none → Co c H' x dx l t z left → Keep [] H H' → Q (.ref x) H'
theorem scTwin : FnScope ["self"] ["self"] (defScope s_Course_twin) := ⟨rfl, rfl, rfl, by decide +kernel, rfl, by decide +kernel, by decide +kernel⟩
theorem ok_twin (T : Tx K mg c) (D : DnM K c.course "twin" "Course.twin" s_Course_twin ["self"]) (C1 : ClN P w K mg base "Course" c.course ["self", "hour", "zone", "left"] 1 (spCourseInit c)) : ClM P w K mg base c.course "twin" ["self"] 3 (spTwin c) := by
  refine D.ok scTwin (fun vs H Q E h => ?_) (fun f cdv A outer s H vs Q E hr h => ?_)
  · obtain ⟨co, dco, ll, t, z, left, rfl, _⟩ := h
    rfl
  · obtain ⟨co, dco, ll, t, z, left, rfl, C, q⟩ := h
    obtain ⟨f1, fd1, G1, b1, m1, g1⟩ := C1
    refine ⟨_, pss_one (ps_ret (pe_make m1 G1 hr rfl g1 b1 .nil pass0 (pa_cons (pe_fld (pv 0) rfl) (pa_cons (pe_fld (pv 0) rfl) (pa_cons (pe_callTy call_list_of (by rfl) T.list (by rfl) (pa_cons (pe_fld (pv 0) rfl) pa_nil)) pa_nil))))), ?_⟩
    refine ⟨_, rfl, co, _, dco, _, _, rfl, C.co, T.course, T.aHour, courseF_hour _ _ _, _, rfl, co, _, dco, _, _, rfl, C.co, T.course, T.aZone, courseF_zone _ _ _, _, rfl, co, _, dco, _, _, rfl, C.co, T.course, T.aLeft, courseF_left _ _ _, ll, _, rfl, .inl (SqL.of C.ll), fun l hl => ?_⟩
    intro x dx hx hdx hne
    refine ⟨x, dx, _, _, _, rfl, upd_same, rfl, ?_⟩
    have kp : Keep [] H (upd H l (.lst (left.map vN))) := Keep.refl.new hl
    have hxl : x ≠ l := fun e => by
      rw [e, upd_same] at hx
      cases hx
    have hdl : dx ≠ l := fun e => by
      rw [e, upd_same] at hdx
      cases hdx
    rw [upd_upd]
    have hx0 : H x = none := by
      rw [upd_ne hxl] at hx
      exact hx
    refine q _ x dx l hx0 hl ⟨?_, ?_⟩ ?_
    · rw [upd_same]
      rfl
    · rw [upd_ne (Ne.symm hxl), upd_ne (Ne.symm hdl), upd_same]
    · exact (kp.new hdx).new (by rw [upd_ne (Ne.symm hne)]; exact hx)
end
end Hb

set_option Elab.async false
set_option linter.all false
set_option maxRecDepth 100000
set_option maxHeartbeats 2000000
/-! wait, far, unloads, fish, order -/
namespace Hb
open PySem PySem.Spec PyProof.Rows L2
section
variable {P : Program} {w : World} {K : PySem.W.Frag} {mg : Str → Option Value} {base : Heap} {c : Cs}
/-- [x], x one whole number of the text -/
theorem tell1 {c : Cs} {H H1 : Hp} {A : Ra} {dco ll : Addr} {a : Kh332.Abs} {cl : Kh332.Call} {Q : VK} {z : Int} (Z : Hv c H A dco ll a)
    (q : ∀ (H' : Hp) (p : Addr) (cs : List Addr) (a' : Kh332.Abs) (ans : Kh332.Ans), Kh332.doing (some a) cl = (some a', ans) → Hv c H' { A with cs := cs } dco ll a' → H p = none → H' p = some (.lst (ansV ans)) → Keep (muts A ll) H H' → Q (.ref p) H')
    (k : Keep [] H H1) (e : Kh332.doing (some a) cl = (some a, Kh332.say z)) : ([V.int z].length ≤ sizeLine) ∧ ∀ p, H1 p = none → Q (.ref p) (upd H1 p (.lst [.int z])) :=
  ⟨by show 1 ≤ sizeLine; decide, fun p hp => Z.told q k hp e rfl⟩
/-! ### wait -/
def relWait : Hp → List Addr → List V → Kh332.Call → Prop := fun _ _ args cl => ∃ n : Nat, args = [vN n] ∧ cl = .wait n
theorem scWait : FnScope ["harvest", "n"] ["harvest", "n"] (defScope s_wait) := ⟨rfl, rfl, rfl, by decide +kernel, rfl, by decide +kernel, by decide +kernel⟩
theorem Hv.ne_co {c : Cs} {H : Hp} {A : Ra} {dco ll : Addr} {a : Kh332.Abs} (Z : Hv c H A dco ll a) : A.lc ≠ A.co ∧ A.lo ≠ A.co ∧ A.lt ≠ A.co ∧ A.h ≠ A.co := by
  obtain ⟨_, h1, _⟩ := Z.lo.ex
  obtain ⟨_, h2, _⟩ := Z.lt.ex
  exact ⟨ne_of Z.ro.lc Z.co.co (Ne.symm ins_lst), ne_of h1 Z.co.co (Ne.symm ins_lst), ne_of h2 Z.co.co (Ne.symm ins_lst), ne_of Z.h Z.co.co hv_co⟩
/-- a change of the course alone -/
theorem Hv.course {c : Cs} {H H' : Hp} {A : Ra} {dco ll : Addr} {a a' : Kh332.Abs} (Z : Hv c H A dco ll a) (k : Keep [A.co, ll] H H') (hb : a'.boat = a.boat) (hc : a'.cages.length = a.cages.length)
    (hcg : ∀ (i : Nat) (g : Kh332.Cage), a'.cages[i]? = some g → ∃ g' : Kh332.Cage, a.cages[i]? = some g' ∧ g'.at_ = g.at_ ∧ g'.zone = g.zone) (hbr : a'.brought = a.brought) (ho : a'.orders = a.orders) (hk : ∀ g ∈ a'.cages, g.kg ≤ 20000)
    (C : Co c H' A.co dco ll a'.time a'.zone (a'.cages.map Kh332.Cage.kg)) : Hv c H' A dco ll a' := by
  have R := Z.ro.keep Z.co Z.nCL k
  obtain ⟨n1, n2, n3, n4⟩ := Z.ne_co
  have tp : ∀ x xs, H x = some (.tup xs) → x ∉ [A.co, ll] := fun x xs hx hm => by
    rcases List.mem_cons.mp hm with hm | hm
    · exact ne_of hx Z.co.co (by intro z; cases z) hm
    · exact ne_of hx Z.co.ll (by intro z; cases z) (by simpa using hm)
  refine ⟨⟨R.h, by rw [hb]; exact R.pl, by rw [hb]; exact R.bo, R.lc, by rw [hc]; exact R.len, fun i x g hx hg => ?_, by rw [hb]; exact R.ok⟩, ?_, C, by rw [ho]; exact Z.lo.keep k (by simp [n2, Z.nOL]) tp, by rw [hbr]; exact Z.lt.keep k (by simp [n3, Z.nTL]) tp,
    Z.nCO, Z.nCT, Z.nCL, Z.nOT, Z.nOL, Z.nTL, by rw [hc]; exact Z.nc, by rw [ho]; exact Z.no, hk⟩
  · obtain ⟨g', hg', e1, e2⟩ := hcg i g hg
    obtain ⟨d, hd⟩ := R.cage i x g' hx hg'
    refine ⟨d, ?_⟩
    have e : cageF g' = cageF g := by
      unfold cageF
      rw [e1, e2]
    rw [← e]
    exact hd
  · rw [hbr]
    exact k _ _ Z.h (by simp [n4, ne_of Z.h Z.co.ll ins_lst])
theorem ok_wait (T : Tx K mg c) (D : Dn K mg "wait" s_wait ["harvest", "n"]) (C1 : Cl P w K mg base "within" ["number", "least", "most"] 1 spWithin) : Cl P w K mg base "wait" ["harvest", "n"] 2 (spC c relWait) := by
  refine D.ok scWait (fun vs H Q E h => ?_) (fun f cdv A outer s H vs Q E hr h => ?_)
  · obtain ⟨A, dco, ll, a, args, cl, rfl, ⟨n, rfl, rfl⟩, _⟩ := h
    rfl
  · obtain ⟨A, dco, ll, a, args, cl, rfl, ⟨n, rfl, rfl⟩, Z, hbr, q⟩ := h
    obtain ⟨f1, fd1, G1, b1, m1, k1⟩ := C1
    refine ⟨_, pss_cons (ps_if (pt_not (pt_val (pe_call G1 hr (by rfl) m1 k1 b1 .nil pass0 (pa_cons (pv 1) (pa_cons pe_int (pa_cons pe_int pa_nil)))))) (pss_one (ps_ret (pe_lst (pa_cons (pg_int T.rNotTold) pa_nil)))) pss_nil)
      (pss_cons (ps_fldaug (pe_fld (pv 0) rfl) (pv 1) in_add)
      (pss_one (ps_ret (pe_lst (pa_cons (pe_fld (pe_fld (pv 0) rfl) rfl) pa_nil))))), ?_⟩
    refine ⟨_, rfl, _, _, _, rfl, _, rfl, ?_⟩
    have ed : ∀ h : ¬ ((1 : Int) ≤ n ∧ (n : Int) ≤ 500), Kh332.doing (some a) (.wait n) = (some a, Kh332.say (-22)) := fun h => by
      unfold Kh332.doing
      dsimp only
      rw [if_pos (by omega)]
    refine if_nd (fun h1 => ?_) (fun h1 => ?_)
    · exact tell1 Z q Keep.refl (ed h1)
    · refine ⟨_, rfl, A.h, _, A.dh, _, _, rfl, Z.h, T.harvest, T.aCourse, hvF_course _ _, A.co, _, dco, _, _, rfl, Z.co.co, T.course, T.aHour, courseF_hour _ _ _, _, rfl, _, _, rfl, rfl, dco, _, Z.co.co, (by show 3 < 1000; decide), ?_⟩
      have C2 := Z.co.hour (t' := a.time + n) (v := V.int ((a.time : Int) + (n : Int))) (congrArg V.int (by omega))
      have kp : Keep [A.co, ll] H (upd H A.co (.ins c.course dco (putF "hour" (V.int ((a.time : Int) + (n : Int))) (courseF a.time a.zone ll)))) := Keep.refl.set (by simp)
      have Z2 : Hv c (upd H A.co (.ins c.course dco (putF "hour" (V.int ((a.time : Int) + (n : Int))) (courseF a.time a.zone ll)))) A dco ll { a with time := a.time + n } := Z.course kp rfl rfl (fun i g hg => ⟨g, hg, rfl, rfl⟩) rfl rfl Z.kg C2
      refine ⟨_, rfl, A.h, _, A.dh, _, _, rfl, Z2.h, T.harvest, T.aCourse, hvF_course _ _, A.co, _, dco, _, _, rfl, C2.co, T.course, T.aHour, courseF_hour _ _ _, (by show 1 ≤ sizeLine; decide), fun p hp => ?_⟩
      have kp2 := Keep.refl (S := []).new (o := .lst [V.int ((a.time + n : Nat) : Int)]) hp
      refine q _ p A.cs { a with time := a.time + n } (Kh332.say (a.time + n : Nat)) ?_ (Z2.same kp2) ?_ upd_same ((kp.mono (by simp [muts])).trans (kp2.mono (by simp)))
      · unfold Kh332.doing
        dsimp only
        rw [if_neg (by omega)]
      · by_cases e : p = A.co
        · rw [e, upd_same] at hp
          cases hp
        · rw [upd_ne e] at hp
          exact hp
/-! ### far -/
def relFar : Hp → List Addr → List V → Kh332.Call → Prop := fun _ _ args cl => ∃ i j : Nat, args = [vN i, vN j] ∧ cl = .far i j
theorem scFar : FnScope ["harvest", "i", "j", "boat", "first", "second"] ["harvest", "i", "j"] (defScope s_far) := ⟨rfl, rfl, rfl, by decide +kernel, rfl, by decide +kernel, by decide +kernel⟩
theorem ok_far (T : Tx K mg c) (D : Dn K mg "far" s_far ["harvest", "i", "j"]) (C1 : Cl P w K mg base "sailing" ["boat", "start", "goal"] 2 (spSail c)) : Cl P w K mg base "far" ["harvest", "i", "j"] 3 (spC c relFar) := by
  refine D.ok scFar (fun vs H Q E h => ?_) (fun f cdv A outer s H vs Q E hr h => ?_)
  · obtain ⟨A, dco, ll, a, args, cl, rfl, ⟨i, j, rfl, rfl⟩, _⟩ := h
    rfl
  · obtain ⟨A, dco, ll, a, args, cl, rfl, ⟨i, j, rfl, rfl⟩, Z, hbr, q⟩ := h
    obtain ⟨f1, fd1, G1, b1, m1, k1⟩ := C1
    have nd := scFar.nd
    refine ⟨_, pss_cons (ps_cut (ps_if (pw_or (pt_cmpR op_ge (pv 1) (pe_callB call_len_seq (by rfl) T.len (by rfl) (pa_cons (pe_fld (pv 0) rfl) pa_nil)) (nomark _)) (pw_or1 (pt_cmpR op_ge (pv 2) (pe_callB call_len_seq (by rfl) T.len (by rfl) (pa_cons (pe_fld (pv 0) rfl) pa_nil)) (nomark _)))).pt
        (pss_one (ps_ret (pe_lst (pa_cons (pg_int T.rNoCage) pa_nil)))) pss_nil))
      (pss_cons (ps_set (i := 3) nd rfl (Or.inl rfl) (pe_fld (pv 0) rfl))
      (pss_cons (ps_set (i := 4) nd rfl (Or.inl rfl) (pe_fld (pe_ix ix_list (pe_fld (pv 0) rfl) (pv 1) (fun _ _ => rfl)) rfl))
      (pss_cons (ps_set (i := 5) nd rfl (Or.inl rfl) (pe_fld (pe_ix ix_list (pe_fld (pv 0) rfl) (pv 2) (fun _ _ => rfl)) rfl))
      (pss_one (ps_ret (pe_lst (pa_cons (pe_call G1 hr (by rfl) m1 k1 b1 .nil pass0 (pa_cons (pv 3) (pa_cons (pv 4) (pa_cons (pv 5) pa_nil)))) (pa_cons (pe_call G1 hr (by rfl) m1 k1 b1 .nil pass0 (pa_cons (pv 3) (pa_cons (pg_int T.plantAt) (pa_cons (pv 4) pa_nil))))
        (pa_cons (pe_call G1 hr (by rfl) m1 k1 b1 .nil pass0 (pa_cons (pv 3) (pa_cons (pg_int T.plantAt) (pa_cons (pv 5) pa_nil)))) pa_nil))))))))), ?_⟩
    have el : ((A.cs.map V.ref).length : Int) = (a.cages.length : Int) := by rw [Z.cs_len]
    have ed : ∀ h : ¬ (i < a.cages.length ∧ j < a.cages.length), Kh332.doing (some a) (.far i j) = (some a, Kh332.say (-2)) := fun h => by
      unfold Kh332.doing
      dsimp only
      by_cases h1 : i < a.cages.length
      · rw [List.getElem?_eq_none_iff.mpr (show a.cages.length ≤ j by omega)]
        cases a.cages[i]? <;> rfl
      · rw [List.getElem?_eq_none_iff.mpr (show a.cages.length ≤ i by omega)]
    refine ⟨fun σ' H1 => σ' = [some (V.ref A.h), some (.int i), some (.int j), none, none, none] ∧ H1 = H ∧ i < a.cages.length ∧ j < a.cages.length, ?_, ?_⟩
    · refine ⟨_, rfl, _, rfl, A.h, _, A.dh, _, _, rfl, Z.h, T.harvest, T.aCages, hvF_cages _ _, A.lc, _, rfl, .inl (SqL.of Z.ro.lc), _, _, rfl, rfl, _, rfl, ?_⟩
      refine if_d (fun h1 => ?_) (fun h1 => ?_)
      · exact iteT (tell1 Z q Keep.refl (ed (by omega)))
      · refine ⟨_, rfl, _, rfl, A.h, _, A.dh, _, _, rfl, Z.h, T.harvest, T.aCages, hvF_cages _ _, A.lc, _, rfl, .inl (SqL.of Z.ro.lc), _, _, rfl, rfl, _, rfl, ?_⟩
        refine if_d (fun h2 => ?_) (fun h2 => ?_)
        · exact tell1 Z q Keep.refl (ed (by omega))
        · exact ⟨rfl, rfl, by omega, by omega⟩
    · rintro σ' H1 ⟨rfl, rfl, hi, hj⟩
      obtain ⟨gi, hgi⟩ : ∃ g, a.cages[i]? = some g := ⟨_, List.getElem?_eq_getElem hi⟩
      obtain ⟨xi, hxi⟩ : ∃ x, A.cs[i]? = some x := ⟨_, List.getElem?_eq_getElem (by rw [Z.ro.len]; exact hi)⟩
      obtain ⟨di, hdi⟩ := Z.ro.cage i xi gi hxi hgi
      obtain ⟨gj, hgj⟩ : ∃ g, a.cages[j]? = some g := ⟨_, List.getElem?_eq_getElem hj⟩
      obtain ⟨xj, hxj⟩ : ∃ x, A.cs[j]? = some x := ⟨_, List.getElem?_eq_getElem (by rw [Z.ro.len]; exact hj)⟩
      obtain ⟨dj, hdj⟩ := Z.ro.cage j xj gj hxj hgj
      refine ⟨_, rfl, A.h, _, A.dh, _, _, rfl, Z.h, T.harvest, T.aBoat, hvF_boat _ _, ?_⟩
      refine ⟨_, rfl, A.h, _, A.dh, _, _, rfl, Z.h, T.harvest, T.aCages, hvF_cages _ _, _, rfl, A.lc, _, _, _, rfl, rfl, SqL.of Z.ro.lc, atI_nat (get_map hxi), xi, _, di, _, _, rfl, hdi, T.cage, T.aAt, cageF_at _, ?_⟩
      refine ⟨_, rfl, A.h, _, A.dh, _, _, rfl, Z.h, T.harvest, T.aCages, hvF_cages _ _, _, rfl, A.lc, _, _, _, rfl, rfl, SqL.of Z.ro.lc, atI_nat (get_map hxj), xj, _, dj, _, _, rfl, hdj, T.cage, T.aAt, cageF_at _, ?_⟩
      refine ⟨_, rfl, _, rfl, _, rfl, A.bo, A.dbo, a.boat, gi.at_, gj.at_, rfl, Z.ro.bo, Z.ro.ok, _, rfl, _, rfl, A.bo, A.dbo, a.boat, 0, gi.at_, rfl, Z.ro.bo, Z.ro.ok, _, rfl, _, rfl, A.bo, A.dbo, a.boat, 0, gj.at_, rfl, Z.ro.bo, Z.ro.ok, (by show 3 ≤ sizeLine; decide), fun p hp => ?_⟩
      refine Z.told q Keep.refl hp (ans := ⟨Kh332.sail a.boat gi.at_ gj.at_, [Kh332.sail a.boat 0 gi.at_, Kh332.sail a.boat 0 gj.at_]⟩) ?_ rfl
      unfold Kh332.doing
      dsimp only
      rw [hgi, hgj]
/-! ### unloads -/
def relUnloads : Hp → List Addr → List V → Kh332.Call → Prop := fun _ _ args cl => ∃ i j : Nat, args = [vN i, vN j] ∧ cl = .unloads i j
theorem scUnloads : FnScope ["harvest", "t", "kg"] ["harvest", "t", "kg"] (defScope s_unloads) := ⟨rfl, rfl, rfl, by decide +kernel, rfl, by decide +kernel, by decide +kernel⟩
theorem ok_unloads (T : Tx K mg c) (D : Dn K mg "unloads" s_unloads ["harvest", "t", "kg"]) (C1 : Cl P w K mg base "within" ["number", "least", "most"] 1 spWithin)
    (C2 : ClM P w K mg base c.plant "first_open_hour" ["self", "hour"] 1 (spOpen c)) (C3 : ClM P w K mg base c.plant "unloaded_at" ["self", "hour", "kg"] 2 (spUnl c)) : Cl P w K mg base "unloads" ["harvest", "t", "kg"] 3 (spC c relUnloads) := by
  refine D.ok scUnloads (fun vs H Q E h => ?_) (fun f cdv A outer s H vs Q E hr h => ?_)
  · obtain ⟨A, dco, ll, a, args, cl, rfl, ⟨i, j, rfl, rfl⟩, _⟩ := h
    rfl
  · obtain ⟨A, dco, ll, a, args, cl, rfl, ⟨i, j, rfl, rfl⟩, Z, hbr, q⟩ := h
    obtain ⟨f1, fd1, G1, b1, m1, k1⟩ := C1
    obtain ⟨f2, fd2, G2, b2, m2⟩ := C2
    obtain ⟨f3, fd3, G3, b3, m3⟩ := C3
    have hr1 : Room 1 _ := hr.mono (by decide)
    refine ⟨_, pss_cons (ps_cut (ps_if (pw_or (pt_not (pt_val (pe_call G1 hr1 (by rfl) m1 k1 b1 .nil pass0 (pa_cons (pv 1) (pa_cons pe_int (pa_cons pe_int pa_nil)))))) (pw_or1 (pt_not (pt_val (pe_call G1 hr1 (by rfl) m1 k1 b1 .nil pass0 (pa_cons (pv 2) (pa_cons pe_int (pa_cons pe_int pa_nil)))))))).pt
        (pss_one (ps_ret (pe_lst (pa_cons (pg_int T.rNotTold) pa_nil)))) pss_nil))
      (pss_one (ps_ret (pe_lst (pa_cons (pe_meth (pe_fld (pv 0) rfl) T.plant m2 G2 hr1 b2 .nil pass0 (pa_cons (pv 1) pa_nil)) (pa_cons (pe_meth (pe_fld (pv 0) rfl) T.plant m3 G3 hr b3 .nil pass0 (pa_cons (pv 1) (pa_cons (pv 2) pa_nil))) pa_nil))))), ?_⟩
    have ed : ∀ h : ¬ (i ≤ 99999 ∧ j ≤ 99999), Kh332.doing (some a) (.unloads i j) = (some a, Kh332.say (-22)) := fun h => by
      unfold Kh332.doing
      dsimp only
      rw [if_pos (by omega)]
    refine ⟨fun σ' H1 => σ' = [some (V.ref A.h), some (.int i), some (.int j)] ∧ H1 = H ∧ i ≤ 99999 ∧ j ≤ 99999, ?_, ?_⟩
    · refine ⟨_, rfl, _, _, _, rfl, _, rfl, ?_⟩
      refine if_nd (fun h1 => ?_) (fun h1 => ?_)
      · exact iteT (tell1 Z q Keep.refl (ed (by omega)))
      · refine ⟨_, rfl, _, _, _, rfl, _, rfl, ?_⟩
        refine if_nd (fun h2 => ?_) (fun h2 => ?_)
        · exact tell1 Z q Keep.refl (ed (by omega))
        · exact ⟨rfl, rfl, by omega, by omega⟩
    · rintro σ' H1 ⟨rfl, rfl, hi, hj⟩
      refine ⟨_, rfl, A.h, _, A.dh, _, _, rfl, Z.h, T.harvest, T.aPlant, hvF_plant _ _, A.pl, A.dpl, _, rfl, Z.ro.pl, rfl, _, rfl, A.pl, A.dpl, a.boat, i, rfl, Z.ro.pl,
        _, rfl, A.h, _, A.dh, _, _, rfl, Z.h, T.harvest, T.aPlant, hvF_plant _ _, A.pl, A.dpl, _, rfl, Z.ro.pl, rfl, _, rfl, _, rfl, A.pl, A.dpl, a.boat, i, j, rfl, Z.ro.pl, Z.ro.ok, (by show 2 ≤ sizeLine; decide), fun p hp => ?_⟩
      refine Z.told q Keep.refl hp (ans := ⟨Kh332.opens a.boat i, [Kh332.unloaded a.boat i j]⟩) ?_ rfl
      unfold Kh332.doing
      dsimp only
      rw [if_neg (by omega)]
end
end Hb

set_option Elab.async false
set_option linter.all false
set_option maxRecDepth 100000
set_option maxHeartbeats 2000000
/-! fish, order, cage -/
namespace Hb
open PySem PySem.Spec PyProof.Rows L2
theorem Ro.lists {c : Cs} {H H' : Hp} {A : Ra} {a : Kh332.Abs} {S : List Addr} (R : Ro c H A a) (k : Keep S H H') (hS : ∀ s ∈ S, ∃ xs, H s = some (.lst xs)) (hlc : A.lc ∉ S) : Ro c H' A a := by
  have no : ∀ {b C d : Addr} {fs : List (Str × V)}, H b = some (.ins C d fs) → H' b = some (.ins C d fs) := fun {b C d fs} e => k _ _ e fun m => by
    obtain ⟨xs, hx⟩ := hS _ m
    rw [e] at hx
    cases hx
  obtain ⟨n, hh⟩ := R.h
  exact ⟨⟨n, no hh⟩, no R.pl, no R.bo, k _ _ R.lc hlc, R.len, fun i x g hx hg => (R.cage i x g hx hg).imp fun d h => no h, R.ok⟩
theorem Prs.lists {H H' : Hp} {S : List Addr} {p : Addr} {d : List (Nat × Nat)} (B : Prs H p d) (k : Keep S H H') (hS : ∀ s ∈ S, ∃ xs, H s = some (.lst xs)) (hp : p ∉ S) : Prs H' p d :=
  B.keep k hp fun x xs hx m => by
    obtain ⟨ys, hy⟩ := hS _ m
    rw [hx] at hy
    cases hy
theorem keep_ins {H H' : Hp} {S : List Addr} {b C d : Addr} {fs : List (Str × V)} (k : Keep S H H') (hS : ∀ s ∈ S, ∃ xs, H s = some (.lst xs)) (e : H b = some (.ins C d fs)) : H' b = some (.ins C d fs) := k _ _ e fun m => by
  obtain ⟨xs, hx⟩ := hS _ m
  rw [e] at hx
  cases hx
theorem ne_new {H : Hp} {a p : Addr} {o u : HO} (h : H a = some u) (hp : upd H a o p = none) : H p = none := by
  by_cases e : p = a
  · rw [e, upd_same] at hp
    cases hp
  · rw [upd_ne e] at hp
    exact hp
section
variable {P : Program} {w : World} {K : PySem.W.Frag} {mg : Str → Option Value} {base : Heap} {c : Cs}
/-! ### fish -/
def relFish : Hp → List Addr → List V → Kh332.Call → Prop := fun _ _ args cl => ∃ i j : Nat, args = [vN i, vN j] ∧ cl = .fish i j
theorem scFish : FnScope ["harvest", "i", "kg", "before"] ["harvest", "i", "kg"] (defScope s_fish) := ⟨rfl, rfl, rfl, by decide +kernel, rfl, by decide +kernel, by decide +kernel⟩
theorem ok_fish (T : Tx K mg c) (D : Dn K mg "fish" s_fish ["harvest", "i", "kg"]) (C1 : Cl P w K mg base "within" ["number", "least", "most"] 1 spWithin) : Cl P w K mg base "fish" ["harvest", "i", "kg"] 2 (spC c relFish) := by
  refine D.ok scFish (fun vs H Q E h => ?_) (fun f cdv A outer s H vs Q E hr h => ?_)
  · obtain ⟨A, dco, ll, a, args, cl, rfl, ⟨i, j, rfl, rfl⟩, _⟩ := h
    rfl
  · obtain ⟨A, dco, ll, a, args, cl, rfl, ⟨i, j, rfl, rfl⟩, Z, hbr, q⟩ := h
    obtain ⟨f1, fd1, G1, b1, m1, k1⟩ := C1
    have nd := scFish.nd
    refine ⟨_, pss_cons (ps_if (pt_cmpR op_ge (pv 1) (pe_callB call_len_seq (by rfl) T.len (by rfl) (pa_cons (pe_fld (pv 0) rfl) pa_nil)) (nomark _)) (pss_one (ps_ret (pe_lst (pa_cons (pg_int T.rNoCage) pa_nil)))) pss_nil)
      (pss_cons (ps_if (pt_not (pt_val (pe_call G1 hr (by rfl) m1 k1 b1 .nil pass0 (pa_cons (pv 2) (pa_cons pe_int (pa_cons (pg_int T.mostFish) pa_nil)))))) (pss_one (ps_ret (pe_lst (pa_cons (pg_int T.rNotTold) pa_nil)))) pss_nil)
      (pss_cons (ps_set (i := 3) nd rfl (Or.inl rfl) (pe_ix ix_list (pe_fld (pe_fld (pv 0) rfl) rfl) (pv 1) (fun _ _ => rfl)))
      (pss_cons (ps_asg (pv 2) (pg_sub (pe_fld (pe_fld (pv 0) rfl) rfl) (pv 1) set_list))
      (pss_one (ps_ret (pe_lst (pa_cons (pv 3) pa_nil))))))), ?_⟩
    have el : ((A.cs.map V.ref).length : Int) = (a.cages.length : Int) := by rw [Z.cs_len]
    refine ⟨_, rfl, _, rfl, A.h, _, A.dh, _, _, rfl, Z.h, T.harvest, T.aCages, hvF_cages _ _, A.lc, _, rfl, .inl (SqL.of Z.ro.lc), _, _, rfl, rfl, _, rfl, ?_⟩
    refine if_d (fun h1 => ?_) (fun h1 => ?_)
    · refine tell1 Z q Keep.refl ?_
      unfold Kh332.doing
      dsimp only
      rw [List.getElem?_eq_none_iff.mpr (show a.cages.length ≤ i by omega)]
    · have hi : i < a.cages.length := by omega
      obtain ⟨g, hg⟩ : ∃ g, a.cages[i]? = some g := ⟨_, List.getElem?_eq_getElem hi⟩
      refine ⟨_, rfl, _, _, _, rfl, _, rfl, ?_⟩
      refine if_nd (fun h2 => ?_) (fun h2 => ?_)
      · refine tell1 Z q Keep.refl ?_
        unfold Kh332.doing
        dsimp only
        rw [hg]
        dsimp only
        rw [if_pos (by omega)]
      · have hk : (a.cages.map Kh332.Cage.kg)[i]? = some g.kg := get_map hg
        refine ⟨_, rfl, A.h, _, A.dh, _, _, rfl, Z.h, T.harvest, T.aCourse, hvF_course _ _, A.co, _, dco, _, _, rfl, Z.co.co, T.course, T.aLeft, courseF_left _ _ _, _, rfl, ll, _, _, _, rfl, rfl, SqL.of Z.co.ll, atI_nat (get_map hk), ?_⟩
        refine ⟨_, rfl, _, rfl, A.h, _, A.dh, _, _, rfl, Z.h, T.harvest, T.aCourse, hvF_course _ _, A.co, _, dco, _, _, rfl, Z.co.co, T.course, T.aLeft, courseF_left _ _ _, _, rfl, ll, _, _, i, rfl, rfl, Z.co.ll, ixN_nat (by rw [List.length_map, List.length_map]; exact hi), ?_⟩
        refine ⟨_, rfl, (by show 1 ≤ sizeLine; decide), fun p hp => ?_⟩
        have eset : ((a.cages.map Kh332.Cage.kg).map vN).set i (V.int (j : Nat)) = ((a.cages.set i { g with kg := j }).map Kh332.Cage.kg).map vN := by
          rw [List.map_set, List.map_set]
        have C2 := Z.co.setl eset
        have kp : Keep [A.co, ll] H (upd H ll (.lst (((a.cages.map Kh332.Cage.kg).map vN).set i (V.int (j : Nat))))) := Keep.refl.set (by simp)
        have hset : ∀ (i' : Nat) (g' : Kh332.Cage), (a.cages.set i { g with kg := j })[i']? = some g' → ∃ g2 : Kh332.Cage, a.cages[i']? = some g2 ∧ g2.at_ = g'.at_ ∧ g2.zone = g'.zone := by
          intro i' g' hg'
          by_cases e : i = i'
          · subst e
            rw [List.getElem?_set_self hi] at hg'
            cases hg'
            exact ⟨g, hg, rfl, rfl⟩
          · rw [List.getElem?_set_ne e] at hg'
            exact ⟨g', hg', rfl, rfl⟩
        have Z2 : Hv c (upd H ll (.lst (((a.cages.map Kh332.Cage.kg).map vN).set i (V.int (j : Nat))))) A dco ll { a with cages := a.cages.set i { g with kg := j } } :=
          Z.course kp rfl (by simp) hset rfl rfl (fun g' hg' => by
            obtain ⟨i', hi'⟩ := List.mem_iff_getElem?.mp hg'
            by_cases e : i = i'
            · subst e
              rw [List.getElem?_set_self hi] at hi'
              cases hi'
              show j ≤ 20000
              omega
            · rw [List.getElem?_set_ne e] at hi'
              exact Z.kg g' (List.mem_of_getElem? hi')) C2
        have kp2 := Keep.refl (S := []).new (o := .lst [V.int (g.kg : Nat)]) hp
        refine q _ p A.cs _ (Kh332.say g.kg) ?_ (Z2.same kp2) (ne_new Z.co.ll hp) upd_same ((kp.mono (by simp [muts])).trans (kp2.mono (by simp)))
        unfold Kh332.doing
        dsimp only
        rw [hg]
        dsimp only
        rw [if_neg (by omega)]
/-! ### order -/
def relOrder : Hp → List Addr → List V → Kh332.Call → Prop := fun _ _ args cl => ∃ i j : Nat, args = [vN i, vN j] ∧ cl = .order i j
theorem scOrder : FnScope ["harvest", "kg", "due"] ["harvest", "kg", "due"] (defScope s_order) := ⟨rfl, rfl, rfl, by decide +kernel, rfl, by decide +kernel, by decide +kernel⟩
theorem ok_order (T : Tx K mg c) (D : Dn K mg "order" s_order ["harvest", "kg", "due"]) (C1 : Cl P w K mg base "within" ["number", "least", "most"] 1 spWithin) : Cl P w K mg base "order" ["harvest", "kg", "due"] 2 (spC c relOrder) := by
  refine D.ok scOrder (fun vs H Q E h => ?_) (fun f cdv A outer s H vs Q E hr h => ?_)
  · obtain ⟨A, dco, ll, a, args, cl, rfl, ⟨i, j, rfl, rfl⟩, _⟩ := h
    rfl
  · obtain ⟨A, dco, ll, a, args, cl, rfl, ⟨i, j, rfl, rfl⟩, Z, hbr, q⟩ := h
    obtain ⟨f1, fd1, G1, b1, m1, k1⟩ := C1
    refine ⟨_, pss_cons (ps_cut (ps_if (pw_or (pt_not (pt_val (pe_call G1 hr (by rfl) m1 k1 b1 .nil pass0 (pa_cons (pv 1) (pa_cons pe_int (pa_cons pe_int pa_nil)))))) (pw_or1 (pt_not (pt_val (pe_call G1 hr (by rfl) m1 k1 b1 .nil pass0 (pa_cons (pv 2) (pa_cons pe_int (pa_cons pe_int pa_nil)))))))).pt
        (pss_one (ps_ret (pe_lst (pa_cons (pg_int T.rNotTold) pa_nil)))) pss_nil))
      (pss_cons (ps_if (pt_cmpR op_eq (pe_callB call_len_seq (by rfl) T.len (by rfl) (pa_cons (pe_fld (pv 0) rfl) pa_nil)) (pg_int T.mostOrders) (nomark _)) (pss_one (ps_ret (pe_lst (pa_cons (pg_int T.rNoMore) pa_nil)))) pss_nil)
      (pss_cons (ps_expr (pe_bm PySem.F.plainAttrs_list PySem.F.slot_list_append PySem.F.type_list_append mt_append (pe_fld (pv 0) rfl) (pa_cons (pe_tup (pa_cons (pv 1) (pa_cons (pv 2) pa_nil))) pa_nil)))
      (pss_one (ps_ret (pe_lst (pa_cons (pe_op op_sub (pe_callB call_len_seq (by rfl) T.len (by rfl) (pa_cons (pe_fld (pv 0) rfl) pa_nil)) pe_int) pa_nil)))))), ?_⟩
    have ed : ∀ h : ¬ (1 ≤ i ∧ i ≤ 99999 ∧ j ≤ 9999), Kh332.doing (some a) (.order i j) = (some a, Kh332.say (-22)) := fun h => by
      unfold Kh332.doing
      dsimp only
      rw [if_pos (by omega)]
    refine ⟨fun σ' H1 => σ' = [some (V.ref A.h), some (.int i), some (.int j)] ∧ H1 = H ∧ 1 ≤ i ∧ i ≤ 99999 ∧ j ≤ 9999, ?_, ?_⟩
    · refine ⟨_, rfl, _, _, _, rfl, _, rfl, ?_⟩
      refine if_nd (fun h1 => ?_) (fun h1 => ?_)
      · exact iteT (tell1 Z q Keep.refl (ed (by omega)))
      · refine ⟨_, rfl, _, _, _, rfl, _, rfl, ?_⟩
        refine if_nd (fun h2 => ?_) (fun h2 => ?_)
        · exact tell1 Z q Keep.refl (ed (by omega))
        · exact ⟨rfl, rfl, by omega, by omega, by omega⟩
    · rintro σ' H1 ⟨rfl, rfl, h1, h2, h3⟩
      obtain ⟨ps, hps, hpl, hpt⟩ := Z.lo.ex
      have hol : ps.length = a.orders.length := by rw [hpl, List.length_map]
      refine ⟨_, rfl, A.h, _, A.dh, _, _, rfl, Z.h, T.harvest, T.aOrders, hvF_orders _ _, A.lo, _, rfl, .inl (SqL.of hps), rfl, _, rfl, ?_⟩
      refine if_d (fun h4 => ?_) (fun h4 => ?_)
      · refine tell1 Z q Keep.refl ?_
        have := V.int.inj h4
        rw [List.length_map] at this
        unfold Kh332.doing
        dsimp only
        rw [if_neg (by omega), if_pos (show Kh332.ORDERS ≤ a.orders.length by show 5 ≤ a.orders.length; omega)]
      · have h5 : ¬ 5 ≤ a.orders.length := fun h => h4 (by
          have := Z.no
          rw [List.length_map, hol, show a.orders.length = 5 by omega]
          rfl)
        refine ⟨_, rfl, A.h, _, A.dh, _, _, rfl, Z.h, T.harvest, T.aOrders, hvF_orders _ _, .inl ⟨rfl, _, SqL.of hps⟩, _, rfl, _, rfl, (by show 2 ≤ sizeLine; decide), fun tp htp => ?_⟩
        have hps2 : upd H1 tp (.tup [V.int i, V.int j]) A.lo = some (.lst (ps.map V.ref)) := by
          rw [upd_ne (ne_of_none hps htp)]
          exact hps
        refine ⟨A.lo, _, _, rfl, rfl, hps2, (by rw [List.length_map]; exact size_of (by omega)), ?_⟩
        have B3 := Z.lo.push (e := (i, j)) htp hps
        have kp : Keep [A.lo] H1 (upd (upd H1 tp (.tup [V.int i, V.int j])) A.lo (.lst (ps.map V.ref ++ [.ref tp]))) := (Keep.refl.new htp).set (by simp)
        have hS : ∀ s ∈ [A.lo], ∃ xs, H1 s = some (.lst xs) := fun s hs => by
          rw [List.mem_singleton.mp hs]
          exact ⟨_, hps⟩
        have R3 := Z.ro.lists kp hS (by simp [Z.nCO])
        have h3' := keep_ins kp hS Z.h
        have C3 : Co c (upd (upd H1 tp (.tup [V.int i, V.int j])) A.lo (.lst (ps.map V.ref ++ [.ref tp]))) A.co dco ll a.time a.zone (a.cages.map Kh332.Cage.kg) := ⟨keep_ins kp hS Z.co.co, kp _ _ Z.co.ll (by simp [Ne.symm Z.nOL])⟩
        have Z3 : Hv c (upd (upd H1 tp (.tup [V.int i, V.int j])) A.lo (.lst (ps.map V.ref ++ [.ref tp]))) A dco ll { a with orders := a.orders ++ [⟨i, j⟩] } :=
          ⟨⟨R3.h, R3.pl, R3.bo, R3.lc, R3.len, R3.cage, R3.ok⟩, h3', C3, by
            show Prs _ _ (List.map _ (a.orders ++ [⟨i, j⟩]))
            rw [List.map_append]
            exact B3, Z.lt.lists kp hS (by simp [Ne.symm Z.nOT]), Z.nCO, Z.nCT, Z.nCL, Z.nOT, Z.nOL, Z.nTL, Z.nc, by
            show (a.orders ++ [_]).length ≤ 5
            rw [List.length_append]
            show a.orders.length + 1 ≤ 5
            omega, Z.kg⟩
        refine ⟨_, rfl, A.h, _, A.dh, _, _, rfl, h3', T.harvest, T.aOrders, hvF_orders _ _, A.lo, _, rfl, .inl (SqL.of upd_same), _, _, rfl, rfl, (by show 1 ≤ sizeLine; decide), fun p hp => ?_⟩
        have kp2 := Keep.refl (S := []).new (o := .lst [V.int ((((ps.map V.ref ++ [V.ref tp]).length : Nat) : Int) - 1)]) hp
        refine q _ p A.cs _ (Kh332.say a.orders.length) ?_ (Z3.same kp2) ?_ ?_ ((kp.mono (by simp [muts])).trans (kp2.mono (by simp)))
        · unfold Kh332.doing
          dsimp only
          rw [if_neg (by omega), if_neg (show ¬ Kh332.ORDERS ≤ a.orders.length from h5)]
        · cases e : H1 p with
          | none => rfl
          | some o =>
            by_cases ep : p = A.lo
            · rw [ep, upd_same] at hp
              cases hp
            · rw [kp _ _ e (by simp [ep])] at hp
              cases hp
        · rw [upd_same]
          unfold ansV Kh332.say
          simp [hol]
/-! ### cage -/
def relCage : Hp → List Addr → List V → Kh332.Call → Prop := fun _ _ args cl => ∃ x z k : Nat, args = [vN x, vN z, vN k] ∧ cl = .cage x z k
theorem scCage : FnScope ["harvest", "at", "zone", "kg"] ["harvest", "at", "zone", "kg"] (defScope s_cage) := ⟨rfl, rfl, rfl, by decide +kernel, rfl, by decide +kernel, by decide +kernel⟩
theorem ok_cage (T : Tx K mg c) (D : Dn K mg "cage" s_cage ["harvest", "at", "zone", "kg"]) (C1 : Cl P w K mg base "within" ["number", "least", "most"] 1 spWithin) (C2 : ClN P w K mg base "Cage" c.cage ["self", "at", "zone"] 1 (spCageInit c)) :
    Cl P w K mg base "cage" ["harvest", "at", "zone", "kg"] 3 (spC c relCage) := by
  refine D.ok scCage (fun vs H Q E h => ?_) (fun f cdv A outer s H vs Q E hr h => ?_)
  · obtain ⟨A, dco, ll, a, args, cl, rfl, ⟨x, z, k, rfl, rfl⟩, _⟩ := h
    rfl
  · obtain ⟨A, dco, ll, a, args, cl, rfl, ⟨x, z, k, rfl, rfl⟩, Z, hbr, q⟩ := h
    obtain ⟨f1, fd1, G1, b1, m1, k1⟩ := C1
    obtain ⟨f2, fd2, G2, b2, m2, g2⟩ := C2
    have hr1 : Room 1 _ := hr.mono (by decide)
    refine ⟨_, pss_cons (ps_cut (ps_if (pw_or (pt_not (pt_val (pe_call G1 hr1 (by rfl) m1 k1 b1 .nil pass0 (pa_cons (pv 1) (pa_cons pe_int (pa_cons pe_int pa_nil)))))) (pw_or (pt_not (pt_val (pe_call G1 hr1 (by rfl) m1 k1 b1 .nil pass0 (pa_cons (pv 2) (pa_cons pe_int (pa_cons pe_int pa_nil))))))
          (pw_or1 (pt_not (pt_val (pe_call G1 hr1 (by rfl) m1 k1 b1 .nil pass0 (pa_cons (pv 3) (pa_cons pe_int (pa_cons (pg_int T.mostFish) pa_nil))))))))).pt
        (pss_one (ps_ret (pe_lst (pa_cons (pg_int T.rNotTold) pa_nil)))) pss_nil))
      (pss_cons (ps_if (pt_cmpR op_eq (pe_callB call_len_seq (by rfl) T.len (by rfl) (pa_cons (pe_fld (pv 0) rfl) pa_nil)) (pg_int T.mostCages) (nomark _)) (pss_one (ps_ret (pe_lst (pa_cons (pg_int T.rNoMore) pa_nil)))) pss_nil)
      (pss_cons (ps_expr (pe_bm PySem.F.plainAttrs_list PySem.F.slot_list_append PySem.F.type_list_append mt_append (pe_fld (pv 0) rfl) (pa_cons (pe_make m2 G2 hr (by rfl) g2 b2 .nil pass0 (pa_cons (pv 1) (pa_cons (pv 2) pa_nil))) pa_nil)))
      (pss_cons (ps_expr (pe_bm PySem.F.plainAttrs_list PySem.F.slot_list_append PySem.F.type_list_append mt_append (pe_fld (pe_fld (pv 0) rfl) rfl) (pa_cons (pv 3) pa_nil)))
      (pss_one (ps_ret (pe_lst (pa_cons (pe_op op_sub (pe_callB call_len_seq (by rfl) T.len (by rfl) (pa_cons (pe_fld (pv 0) rfl) pa_nil)) pe_int) pa_nil))))))), ?_⟩
    have ed : ∀ h : ¬ (x ≤ 500 ∧ z ≤ 3 ∧ k ≤ 20000), Kh332.doing (some a) (.cage x z k) = (some a, Kh332.say (-22)) := fun h => by
      unfold Kh332.doing
      dsimp only
      rw [if_pos (by omega)]
    refine ⟨fun σ' H1 => σ' = [some (V.ref A.h), some (.int x), some (.int z), some (.int k)] ∧ H1 = H ∧ x ≤ 500 ∧ z ≤ 3 ∧ k ≤ 20000, ?_, ?_⟩
    · refine ⟨_, rfl, _, _, _, rfl, _, rfl, ?_⟩
      refine if_nd (fun h1 => ?_) (fun h1 => ?_)
      · exact iteT (tell1 Z q Keep.refl (ed (by omega)))
      · refine ⟨_, rfl, _, _, _, rfl, _, rfl, ?_⟩
        refine if_nd (fun h2 => ?_) (fun h2 => ?_)
        · exact iteT (tell1 Z q Keep.refl (ed (by omega)))
        · refine ⟨_, rfl, _, _, _, rfl, _, rfl, ?_⟩
          refine if_nd (fun h3 => ?_) (fun h3 => ?_)
          · exact tell1 Z q Keep.refl (ed (by omega))
          · exact ⟨rfl, rfl, by omega, by omega, by omega⟩
    · rintro σ' H1 ⟨rfl, rfl, h1, h2, h3⟩
      have el : (A.cs.map V.ref).length = a.cages.length := Z.cs_len
      refine ⟨_, rfl, A.h, _, A.dh, _, _, rfl, Z.h, T.harvest, T.aCages, hvF_cages _ _, A.lc, _, rfl, .inl (SqL.of Z.ro.lc), rfl, _, rfl, ?_⟩
      refine if_d (fun h4 => ?_) (fun h4 => ?_)
      · refine tell1 Z q Keep.refl ?_
        have := V.int.inj h4
        rw [el] at this
        unfold Kh332.doing
        dsimp only
        rw [if_neg (by omega), if_pos (show Kh332.CAGES ≤ a.cages.length by show 5 ≤ a.cages.length; omega)]
      · have h5 : ¬ 5 ≤ a.cages.length := fun h => h4 (by
          have := Z.nc
          rw [el, show a.cages.length = 5 by omega]
          rfl)
        refine ⟨_, rfl, A.h, _, A.dh, _, _, rfl, Z.h, T.harvest, T.aCages, hvF_cages _ _, .inl ⟨rfl, _, SqL.of Z.ro.lc⟩, _, rfl, _, rfl, ?_⟩
        intro y dy hy hdy hne
        refine ⟨y, dy, _, _, rfl, upd_same, rfl, ?_⟩
        rw [upd_upd]
        have hy1 : upd H1 dy (.own y) y = none := by rw [upd_ne (Ne.symm hne)]; exact hy
        have kpa : Keep [] H1 (upd (upd H1 dy (.own y)) y (.ins c.cage dy [("at", V.int x), ("zone", V.int z)])) := (Keep.refl.new hdy).new hy1
        have hlc1 := kpa.same _ _ Z.ro.lc
        refine ⟨A.lc, _, _, rfl, rfl, hlc1, (by rw [el]; exact size_of (by omega)), ?_⟩
        have nyc : y ≠ A.lc := (ne_of_none Z.ro.lc hy).symm
        have nyl : y ≠ ll := (ne_of_none Z.co.ll hy).symm
        have kpb : Keep [A.lc, ll] H1 (upd (upd (upd H1 dy (.own y)) y (.ins c.cage dy [("at", V.int x), ("zone", V.int z)])) A.lc (.lst (A.cs.map V.ref ++ [.ref y]))) := (kpa.mono (by simp)).set (by simp)
        have hS : ∀ s ∈ [A.lc, ll], ∃ xs, H1 s = some (.lst xs) := fun s hs => by
          rcases List.mem_cons.mp hs with e | e
          · rw [e]; exact ⟨_, Z.ro.lc⟩
          · rw [List.mem_singleton.mp e]; exact ⟨_, Z.co.ll⟩
        have hll1 : upd (upd (upd H1 dy (.own y)) y (.ins c.cage dy [("at", V.int x), ("zone", V.int z)])) A.lc (.lst (A.cs.map V.ref ++ [.ref y])) ll = some (.lst ((a.cages.map Kh332.Cage.kg).map vN)) := by
          rw [upd_ne (Ne.symm Z.nCL)]
          exact kpa.same _ _ Z.co.ll
        refine ⟨_, rfl, A.h, _, A.dh, _, _, rfl, keep_ins kpb hS Z.h, T.harvest, T.aCourse, hvF_course _ _, A.co, _, dco, _, _, rfl, keep_ins kpb hS Z.co.co, T.course, T.aLeft, courseF_left _ _ _, .inl ⟨rfl, _, SqL.of hll1⟩, _, rfl, ll, _, _, rfl, rfl, hll1,
          (by rw [List.length_map, List.length_map]; exact size_of (by omega)), ?_⟩
        have kpc := kpb.set (a := ll) (o := .lst ((a.cages.map Kh332.Cage.kg).map vN ++ [V.int k])) (by simp)
        generalize hH3 : upd (upd (upd (upd H1 dy (.own y)) y (.ins c.cage dy [("at", V.int x), ("zone", V.int z)])) A.lc (.lst (A.cs.map V.ref ++ [.ref y]))) ll (.lst ((a.cages.map Kh332.Cage.kg).map vN ++ [V.int k])) = H3 at kpc ⊢
        have hlc3 : H3 A.lc = some (.lst (A.cs.map V.ref ++ [.ref y])) := by
          rw [← hH3, upd_ne Z.nCL, upd_same]
        have hll3 : H3 ll = some (.lst ((a.cages.map Kh332.Cage.kg).map vN ++ [V.int k])) := by
          rw [← hH3, upd_same]
        have hy3 : H3 y = some (.ins c.cage dy (cageF ⟨x, z, k⟩)) := by
          rw [← hH3, upd_ne nyl, upd_ne nyc, upd_same]
          rfl
        have Z3 : Hv c H3 { A with cs := A.cs ++ [y] } dco ll { a with cages := a.cages ++ [⟨x, z, k⟩] } := by
          refine ⟨⟨⟨_, keep_ins kpc hS Z.h⟩, keep_ins kpc hS Z.ro.pl, keep_ins kpc hS Z.ro.bo, ?_, ?_, ?_, Z.ro.ok⟩, keep_ins kpc hS Z.h, ⟨keep_ins kpc hS Z.co.co, ?_⟩, Z.lo.lists kpc hS (by simp [Ne.symm Z.nCO, Z.nOL]), Z.lt.lists kpc hS (by simp [Ne.symm Z.nCT, Z.nTL]),
            Z.nCO, Z.nCT, Z.nCL, Z.nOT, Z.nOL, Z.nTL, ?_, Z.no, ?_⟩
          · show H3 A.lc = some (.lst ((A.cs ++ [y]).map V.ref))
            rw [hlc3, List.map_append]
            rfl
          · show (A.cs ++ [y]).length = (a.cages ++ [_]).length
            rw [List.length_append, List.length_append, Z.ro.len]
            rfl
          · intro i x' g hx hg
            change (A.cs ++ [y])[i]? = some x' at hx
            change (a.cages ++ [_])[i]? = some g at hg
            by_cases hi : i < a.cages.length
            · rw [List.getElem?_append_left (by rw [Z.ro.len]; exact hi)] at hx
              rw [List.getElem?_append_left hi] at hg
              exact (Z.ro.cage i x' g hx hg).imp fun d hd => keep_ins kpc hS hd
            · rw [List.getElem?_append_right (by rw [Z.ro.len]; omega), Z.ro.len] at hx
              rw [List.getElem?_append_right (by omega)] at hg
              have e0 : i - a.cages.length = 0 := by
                rcases Nat.eq_zero_or_pos (i - a.cages.length) with h | h
                · exact h
                · rw [List.getElem?_eq_none_iff.mpr (by simp; omega)] at hg
                  cases hg
              rw [e0] at hx hg
              cases hx
              cases hg
              exact ⟨dy, hy3⟩
          · show H3 ll = some (.lst (((a.cages ++ [_]).map Kh332.Cage.kg).map vN))
            rw [hll3, List.map_append, List.map_append]
            rfl
          · show (a.cages ++ [_]).length ≤ 5
            rw [List.length_append]
            show a.cages.length + 1 ≤ 5
            omega
          · intro g hg
            rcases List.mem_append.mp hg with hg | hg
            · exact Z.kg g hg
            · rw [List.mem_singleton.mp hg]
              exact h3
        refine ⟨_, rfl, A.h, _, A.dh, _, _, rfl, keep_ins kpc hS Z.h, T.harvest, T.aCages, hvF_cages _ _, A.lc, _, rfl, .inl (SqL.of hlc3), _, _, rfl, rfl, (by show 1 ≤ sizeLine; decide), fun p hp => ?_⟩
        have kp2 := Keep.refl (S := []).new (o := .lst [V.int ((((A.cs.map V.ref ++ [V.ref y]).length : Nat) : Int) - 1)]) hp
        refine q _ p (A.cs ++ [y]) _ (Kh332.say a.cages.length) ?_ (Z3.same kp2) ?_ ?_ ((kpc.mono (by simp [muts])).trans (kp2.mono (by simp)))
        · unfold Kh332.doing
          dsimp only
          rw [if_neg (by omega), if_neg (show ¬ Kh332.CAGES ≤ a.cages.length from h5)]
        · cases e : H1 p with
          | none => rfl
          | some o =>
            by_cases ep : p = A.lc
            · rw [ep, hlc3] at hp
              cases hp
            · by_cases ep2 : p = ll
              · rw [ep2, hll3] at hp
                cases hp
              · rw [kpc _ _ e (by simp [ep, ep2])] at hp
                cases hp
        · rw [upd_same]
          unfold ansV Kh332.say
          rw [List.length_append, el]
          simp
end
end Hb

set_option Elab.async false
set_option linter.all false
set_option maxRecDepth 100000
set_option maxHeartbeats 2000000
/-! trip, run, bring -/
namespace HM
open Kh332
theorem goes_load {a : Abs} {w : Way} {i : Nat} : w.load ≤ (goes a w i).load := by
  unfold goes
  dsimp only
  split
  · exact Nat.le_refl _
  · exact Nat.le_add_right _ _
theorem fold_load {a : Abs} : ∀ (l : List Nat) (w : Way), w.load ≤ (l.foldl (goes a) w).load
  | [], w => Nat.le_refl _
  | i :: l, w => Nat.le_trans goes_load (fold_load l _)
theorem fold_zero {a : Abs} (hw : 0 < a.boat.well) : ∀ (l : List Nat) (w : Way), w.load = 0 → ((l.foldl (goes a) w).load = 0 ↔ (l.all fun i => w.left.getD i 0 == 0) = true)
  | [], w, h => by simp [h]
  | i :: l, w, h => by
    rw [List.foldl_cons, List.all_cons]
    by_cases hz : w.left.getD i 0 = 0
    · have e : goes a w i = w := by
        unfold goes
        dsimp only
        rw [hz, Nat.zero_min, if_pos rfl]
      rw [e, fold_zero hw l w h, hz]
      simp
    · have h1 : 0 < (goes a w i).load := by
        unfold goes
        dsimp only
        rw [if_neg (by omega)]
        show 0 < w.load + _
        omega
      have h2 := fold_load (a := a) l (goes a w i)
      constructor
      · intro h3
        omega
      · intro h3
        rw [Bool.and_eq_true] at h3
        have := h3.1
        simp at this
        rw [List.getD_eq_getElem?_getD] at hz
        exact absurd this hz
theorem trip_zero {a : Abs} (hw : 0 < a.boat.well) (t : Nat) (z : Option Nat) (left l : List Nat) : (trip a t z left l).2.1 = 0 ↔ (l.all fun i => left.getD i 0 == 0) = true := fold_zero hw l _ rfl
theorem goes_kg {a : Abs} {w : Way} {i B : Nat} (h : ∀ x ∈ w.left, x ≤ B) : ∀ x ∈ (goes a w i).left, x ≤ B := by
  unfold goes
  dsimp only
  split
  · exact h
  · intro x hx
    change x ∈ w.left.set i _ at hx
    rcases List.mem_or_eq_of_mem_set hx with hx | hx
    · exact h x hx
    · by_cases hi : i < w.left.length
      · have e : w.left.getD i 0 = w.left[i] := by rw [List.getD_eq_getElem?_getD, List.getElem?_eq_getElem hi]; rfl
        have := h _ (List.getElem_mem hi)
        rw [hx, e]
        omega
      · have e : w.left.getD i 0 = 0 := by rw [List.getD_eq_getElem?_getD, List.getElem?_eq_none_iff.mpr (by omega)]; rfl
        rw [hx, e]
        omega
theorem trip_kg {a : Abs} {t : Nat} {z : Option Nat} {left l : List Nat} {B : Nat} (h : ∀ x ∈ left, x ≤ B) : ∀ x ∈ (trip a t z left l).2.2, x ≤ B := by
  have : ∀ (l : List Nat) (w : Way), (∀ x ∈ w.left, x ≤ B) → ∀ x ∈ (l.foldl (goes a) w).left, x ≤ B := by
    intro l
    induction l with
    | nil => intro w h; exact h
    | cons i l ih => intro w h; exact ih _ (goes_kg h)
  exact this l _ h
end HM
namespace Hb
open PySem PySem.Spec PyProof.Rows L2
theorem Keep.drop {S : List Addr} {H H1 H2 : Hp} (k : Keep [] H H1) (k2 : Keep S H1 H2) (hS : ∀ s ∈ S, H s = none) : Keep [] H H2 := fun b o e _ => k2 b o (k.same _ _ e) fun m => by
  rw [hS b m] at e
  cases e
theorem put_all (A : Ra) (n m : Nat) : putF "brought_in_all" (V.int ((n : Int) + (m : Int))) (hvF A n) = hvF A (n + m) := rfl
/-- what trip_refusal means -/
theorem refV_cases {a : Kh332.Abs} (hw : 0 < a.boat.well) (row : List Nat) :
    (refV a (a.cages.map Kh332.Cage.kg) row = .non ∧ Kh332.okRow a row = true ∧ row ≠ [] ∧ Kh332.oneZone a row = true ∧ (Kh332.trip a a.time a.zone (a.cages.map Kh332.Cage.kg) row).2.1 ≠ 0) ∨
    (∃ z : Int, refV a (a.cages.map Kh332.Cage.kg) row = .int z ∧ Kh332.doing (some a) (.trip row) = (some a, Kh332.say z) ∧ Kh332.doing (some a) (.run row) = (some a, Kh332.say z)) := by
  unfold refV Kh332.doing
  dsimp only
  by_cases h1 : Kh332.okRow a row = false ∨ row = []
  · rw [if_pos h1, if_pos h1, if_pos h1]
    exact .inr ⟨_, rfl, rfl, rfl⟩
  · rw [if_neg h1, if_neg h1, if_neg h1]
    by_cases h2 : Kh332.oneZone a row = false
    · rw [if_pos h2, if_pos h2, if_pos h2]
      exact .inr ⟨_, rfl, rfl, rfl⟩
    · rw [if_neg h2, if_neg h2, if_neg h2]
      have tz := HM.trip_zero hw a.time a.zone (a.cages.map Kh332.Cage.kg) row
      by_cases h3 : (row.all fun i => (a.cages.map Kh332.Cage.kg).getD i 0 == 0) = true
      · rw [if_pos h3, if_pos (tz.mpr h3), if_pos (tz.mpr h3)]
        exact .inr ⟨_, rfl, rfl, rfl⟩
      · rw [if_neg h3]
        refine .inl ⟨rfl, ?_, fun e => h1 (.inr e), ?_, fun e => h3 (tz.mp e)⟩
        · cases e : Kh332.okRow a row with
          | true => rfl
          | false => exact absurd (.inl e) h1
        · cases e : Kh332.oneZone a row with
          | true => rfl
          | false => exact absurd e h2
section
variable {P : Program} {w : World} {K : PySem.W.Frag} {mg : Str → Option Value} {base : Heap} {c : Cs}
def relRow (mk : List Nat → Kh332.Call) : Hp → List Addr → List V → Kh332.Call → Prop := fun H S args cl => ∃ (r : Addr) (row : List Nat), args = [.ref r] ∧ H r = some (.lst (row.map vN)) ∧ r ∉ S ∧ row.length ≤ 5000 ∧ cl = mk row
/-! ### trip -/
theorem scTripC : FnScope ["harvest", "row", "refusal", "course", "fetched"] ["harvest", "row"] (defScope s_trip) := ⟨rfl, rfl, rfl, by decide +kernel, rfl, by decide +kernel, by decide +kernel⟩
theorem ok_tripC (T : Tx K mg c) (D : Dn K mg "trip" s_trip ["harvest", "row"]) (C1 : Cl P w K mg base "trip_refusal" ["harvest", "row"] 2 (spRefusal c)) (C2 : ClM P w K mg base c.course "twin" ["self"] 3 (spTwin c))
    (C3 : Cl P w K mg base "make_trip" ["harvest", "course", "row"] 4 (spTrip c)) : Cl P w K mg base "trip" ["harvest", "row"] 5 (spC c (relRow .trip)) := by
  refine D.ok scTripC (fun vs H Q E h => ?_) (fun f cdv A outer s H vs Q E hr h => ?_)
  · obtain ⟨A, dco, ll, a, args, cl, rfl, ⟨r, row, rfl, _⟩, _⟩ := h
    rfl
  · obtain ⟨A, dco, ll, a, args, cl, rfl, ⟨r, row, rfl, hrow, hrs, hr8, rfl⟩, Z, hbr, q⟩ := h
    obtain ⟨f1, fd1, G1, b1, m1, k1⟩ := C1
    obtain ⟨f2, fd2, G2, b2, m2⟩ := C2
    obtain ⟨f3, fd3, G3, b3, m3, k3⟩ := C3
    have hr2 : Room 2 _ := hr.mono (by decide)
    have hr3 : Room 3 _ := hr.mono (by decide)
    have nd := scTripC.nd
    refine ⟨_, pss_cons (ps_set (i := 2) nd rfl (Or.inl rfl) (pe_call G1 hr2 (by rfl) m1 k1 b1 .nil pass0 (pa_cons (pv 0) (pa_cons (pv 1) pa_nil))))
      (pss_cons (ps_if (pt_cmpR op_notN (pv 2) pe_non (nomark _)) (pss_one (ps_ret (pe_lst (pa_cons (pv 2) pa_nil)))) pss_nil)
      (pss_cons (ps_set (i := 3) nd rfl (Or.inl rfl) (pe_meth0 (pe_fld (pv 0) rfl) T.course m2 G2 hr3 b2 .nil pass0))
      (pss_cons (ps_set (i := 4) nd rfl (Or.inl rfl) (pe_call G3 hr (by rfl) m3 k3 b3 .nil pass0 (pa_cons (pv 0) (pa_cons (pv 3) (pa_cons (pv 1) pa_nil)))))
      (pss_one (ps_ret (pe_op op_cat (pe_lst (pa_cons (pe_fld (pv 3) rfl) (pa_cons (pv 4) pa_nil))) (pe_fld (pv 3) rfl))))))), ?_⟩
    have hl : (a.cages.map Kh332.Cage.kg).length = a.cages.length := List.length_map ..
    refine ⟨_, rfl, _, rfl, A, a, dco, ll, r, a.time, a.zone, a.cages.map Kh332.Cage.kg, row, rfl, Z.ro, Z.co, hrow, by omega, hl, fun H1 kp1 => ?_⟩
    refine ⟨_, rfl, rfl, _, rfl, ?_⟩
    rcases refV_cases (a := a) (by have := Z.ro.ok.well; omega) row with ⟨e1, hok, hne, hz, hld⟩ | ⟨z, e1, e2, _⟩
    · rw [e1]
      refine if_nd (fun h => absurd rfl h) (fun _ => ?_)
      have Z1 := Z.same kp1
      refine ⟨_, rfl, A.h, _, A.dh, _, _, rfl, Z1.h, T.harvest, T.aCourse, hvF_course _ _, A.co, dco, _, rfl, Z1.co.co, rfl, A.co, dco, ll, a.time, a.zone, _, rfl, Z1.co, fun H2 x dx l hx hl2 Cx kp2 => ?_⟩
      have kp12 := kp1.trans kp2
      have hx0 : H x = none := by
        cases e : H x with
        | none => rfl
        | some o => rw [kp1.same _ _ e] at hx; cases hx
      have hl0 : H l = none := by
        cases e : H l with
        | none => rfl
        | some o => rw [kp1.same _ _ e] at hl2; cases hl2
      have Z2 := Z.same kp12
      refine ⟨_, rfl, _, rfl, _, rfl, A, a, x, dx, l, r, _, _, _, row, rfl, Z2.ro, Cx, ne_of_none Z.ro.lc hl0, kp12.same _ _ hrow, ne_of_none hrow hl0, hne, okRow_lt hok, hl, fun H3 C3 kp3 => ?_⟩
      have kp13 := kp12.drop kp3 (fun s hs => by
        rcases List.mem_cons.mp hs with e | e
        · rw [e]; exact hx0
        · rw [List.mem_singleton.mp e]; exact hl0)
      have htl := HM.trip_len (a := a) (t := a.time) (z := a.zone) (left := a.cages.map Kh332.Cage.kg) (l := row)
      have edo : Kh332.doing (some a) (.trip row) = (some a, ⟨(Kh332.trip a a.time a.zone (a.cages.map Kh332.Cage.kg) row).1, (Kh332.trip a a.time a.zone (a.cages.map Kh332.Cage.kg) row).2.1 :: (Kh332.trip a a.time a.zone (a.cages.map Kh332.Cage.kg) row).2.2⟩) := by
        unfold Kh332.doing
        dsimp only
        rw [if_neg (by rw [hok]; simp [hne]), if_neg (by rw [hz]; simp), if_neg hld]
      generalize Kh332.trip a a.time a.zone (a.cages.map Kh332.Cage.kg) row = X at *
      refine ⟨_, rfl, x, _, dx, _, _, rfl, C3.co, T.course, T.aHour, courseF_hour _ _ _, _, rfl, (by show 2 ≤ sizeLine; decide), fun l1 hl1 => ?_⟩
      have kp4 : Keep [] H3 (upd H3 l1 (.lst [V.int X.1, V.int X.2.1])) := Keep.refl.new hl1
      have C4 := C3.same kp4
      refine ⟨_, rfl, x, _, dx, _, _, rfl, C4.co, T.course, T.aLeft, courseF_left _ _ _, l1, l, _, _, rfl, rfl, upd_same, C4.ll, ?_, fun p hp => ?_⟩
      · rw [List.length_map, htl, hl]
        have := Z.nc
        show 2 + _ ≤ sizeLine
        exact Nat.le_of_lt (size_of (by omega))
      · exact Z.told q (kp13.trans kp4) hp edo rfl
    · rw [e1]
      refine if_nd (fun _ => ?_) (fun h => by cases h)
      exact ⟨_, rfl, tell1 Z q kp1 e2⟩
/-! ### run -/
theorem scRun : FnScope ["harvest", "row", "refusal", "fetched"] ["harvest", "row"] (defScope s_run) := ⟨rfl, rfl, rfl, by decide +kernel, rfl, by decide +kernel, by decide +kernel⟩
theorem ok_run (T : Tx K mg c) (D : Dn K mg "run" s_run ["harvest", "row"]) (C1 : Cl P w K mg base "trip_refusal" ["harvest", "row"] 2 (spRefusal c))
    (C3 : Cl P w K mg base "make_trip" ["harvest", "course", "row"] 4 (spTrip c)) : Cl P w K mg base "run" ["harvest", "row"] 5 (spC c (relRow .run)) := by
  refine D.ok scRun (fun vs H Q E h => ?_) (fun f cdv A outer s H vs Q E hr h => ?_)
  · obtain ⟨A, dco, ll, a, args, cl, rfl, ⟨r, row, rfl, _⟩, _⟩ := h
    rfl
  · obtain ⟨A, dco, ll, a, args, cl, rfl, ⟨r, row, rfl, hrow, hrs, hr8, rfl⟩, Z, hbr, q⟩ := h
    obtain ⟨f1, fd1, G1, b1, m1, k1⟩ := C1
    obtain ⟨f3, fd3, G3, b3, m3, k3⟩ := C3
    have hr2 : Room 2 _ := hr.mono (by decide)
    have nd := scRun.nd
    refine ⟨_, pss_cons (ps_set (i := 2) nd rfl (Or.inl rfl) (pe_call G1 hr2 (by rfl) m1 k1 b1 .nil pass0 (pa_cons (pv 0) (pa_cons (pv 1) pa_nil))))
      (pss_cons (ps_if (pt_cmpR op_notN (pv 2) pe_non (nomark _)) (pss_one (ps_ret (pe_lst (pa_cons (pv 2) pa_nil)))) pss_nil)
      (pss_cons (ps_set (i := 3) nd rfl (Or.inl rfl) (pe_call G3 hr (by rfl) m3 k3 b3 .nil pass0 (pa_cons (pv 0) (pa_cons (pe_fld (pv 0) rfl) (pa_cons (pv 1) pa_nil)))))
      (pss_cons (ps_expr (pe_bm PySem.F.plainAttrs_list PySem.F.slot_list_append PySem.F.type_list_append mt_append (pe_fld (pv 0) rfl) (pa_cons (pe_tup (pa_cons (pe_fld (pe_fld (pv 0) rfl) rfl) (pa_cons (pv 3) pa_nil))) pa_nil)))
      (pss_cons (ps_fldaug (pv 0) (pv 3) in_add)
      (pss_one (ps_ret (pe_lst (pa_cons (pe_fld (pe_fld (pv 0) rfl) rfl) (pa_cons (pv 3) pa_nil))))))))), ?_⟩
    have hl : (a.cages.map Kh332.Cage.kg).length = a.cages.length := List.length_map ..
    refine ⟨_, rfl, _, rfl, A, a, dco, ll, r, a.time, a.zone, a.cages.map Kh332.Cage.kg, row, rfl, Z.ro, Z.co, hrow, by omega, hl, fun H1 kp1 => ?_⟩
    refine ⟨_, rfl, rfl, _, rfl, ?_⟩
    rcases refV_cases (a := a) (by have := Z.ro.ok.well; omega) row with ⟨e1, hok, hne, hz, hld⟩ | ⟨z, e1, _, e2⟩
    · rw [e1]
      refine if_nd (fun h => absurd rfl h) (fun _ => ?_)
      have Z1 := Z.same kp1
      have hrll : r ≠ ll := fun e => hrs (by rw [e]; simp [muts])
      refine ⟨_, rfl, _, rfl, A.h, _, A.dh, _, _, rfl, Z1.h, T.harvest, T.aCourse, hvF_course _ _, _, rfl, A, a, A.co, dco, ll, r, _, _, _, row, rfl, Z1.ro, Z1.co, Z.nCL, kp1.same _ _ hrow, hrll, hne, okRow_lt hok, hl, fun H2 C2 kp2 => ?_⟩
      have htl := HM.trip_len (a := a) (t := a.time) (z := a.zone) (left := a.cages.map Kh332.Cage.kg) (l := row)
      have hkg := HM.trip_kg (a := a) (t := a.time) (z := a.zone) (left := a.cages.map Kh332.Cage.kg) (l := row) (B := 20000) (fun y hy => by
          obtain ⟨g, hg, e⟩ := List.mem_map.mp hy
          rw [← e]
          exact Z.kg g hg)
      have edo : Kh332.doing (some a) (.run row) = (some { a with cages := (a.cages.zip (Kh332.trip a a.time a.zone (a.cages.map Kh332.Cage.kg) row).2.2).map (fun y => { y.1 with kg := y.2 }), time := (Kh332.trip a a.time a.zone (a.cages.map Kh332.Cage.kg) row).1, zone := some (Kh332.zoneOf a (row.headD 0)), brought := a.brought ++ [((Kh332.trip a a.time a.zone (a.cages.map Kh332.Cage.kg) row).1, (Kh332.trip a a.time a.zone (a.cages.map Kh332.Cage.kg) row).2.1)] },
          ⟨(Kh332.trip a a.time a.zone (a.cages.map Kh332.Cage.kg) row).1, [(Kh332.trip a a.time a.zone (a.cages.map Kh332.Cage.kg) row).2.1]⟩) := by
        unfold Kh332.doing
        dsimp only
        rw [if_neg (by rw [hok]; simp [hne]), if_neg (by rw [hz]; simp), if_neg hld]
      generalize Kh332.trip a a.time a.zone (a.cages.map Kh332.Cage.kg) row = X at *
      obtain ⟨n1, n2, n3, n4⟩ := Z.ne_co
      have hnl : A.h ≠ ll := ne_of Z.h Z.co.ll ins_lst
      have tpn : ∀ x xs, H1 x = some (.tup xs) → x ∉ [A.co, ll] := fun x xs hx hm => by
        rcases List.mem_cons.mp hm with hm | hm
        · exact ne_of hx Z1.co.co (by intro z; cases z) hm
        · exact ne_of hx Z1.co.ll (by intro z; cases z) (by simpa using hm)
      have R2 := Z1.ro.keep Z1.co Z.nCL kp2
      have h2 := kp2 _ _ Z1.h (by simp [n4, hnl])
      have L2 := Z1.lt.keep kp2 (by simp [n3, Z.nTL]) tpn
      have O2 := Z1.lo.keep kp2 (by simp [n2, Z.nOL]) tpn
      obtain ⟨ps, hps, hpl, hpt⟩ := id L2.ex
      refine ⟨_, rfl, A.h, _, A.dh, _, _, rfl, h2, T.harvest, T.aTrips, hvF_trips _ _, .inl ⟨rfl, _, SqL.of hps⟩, _, rfl, A.h, _, A.dh, _, _, rfl, h2, T.harvest, T.aCourse, hvF_course _ _, A.co, _, dco, _, _, rfl, C2.co, T.course, T.aHour, courseF_hour _ _ _, _, rfl, (by show 2 ≤ sizeLine; decide), fun tp htp => ?_⟩
      have hps2 : upd H2 tp (.tup [V.int X.1, V.int X.2.1]) A.lt = some (.lst (ps.map V.ref)) := by
        rw [upd_ne (ne_of_none hps htp)]
        exact hps
      refine ⟨A.lt, _, _, rfl, rfl, hps2, (by rw [List.length_map, hpl]; exact size_of (by omega)), ?_⟩
      have B3 := L2.push (e := (X.1, X.2.1)) htp hps
      have kp3 : Keep [A.lt] H2 (upd (upd H2 tp (.tup [V.int X.1, V.int X.2.1])) A.lt (.lst (ps.map V.ref ++ [.ref tp]))) := (Keep.refl.new htp).set (by simp)
      have hS : ∀ s ∈ [A.lt], ∃ xs, H2 s = some (.lst xs) := fun s hs => by
        rw [List.mem_singleton.mp hs]
        exact ⟨_, hps⟩
      have R3 := R2.lists kp3 hS (by simp [Z.nCT])
      have h3 := keep_ins kp3 hS h2
      have O3 := O2.lists kp3 hS (by simp [Z.nOT])
      have C3 : Co c (upd (upd H2 tp (.tup [V.int X.1, V.int X.2.1])) A.lt (.lst (ps.map V.ref ++ [.ref tp]))) A.co dco ll X.1 (some (Kh332.zoneOf a (row.headD 0))) X.2.2 := ⟨keep_ins kp3 hS C2.co, kp3 _ _ C2.ll (by simp [Ne.symm Z.nTL])⟩
      refine ⟨_, rfl, A.h, _, A.dh, _, _, rfl, h3, T.harvest, T.aAll, hvF_all _ _, _, rfl, _, _, rfl, rfl, A.dh, _, h3, (by show 7 < 1000; decide), ?_⟩
      generalize hH3 : upd (upd H2 tp (.tup [V.int X.1, V.int X.2.1])) A.lt (.lst (ps.map V.ref ++ [.ref tp])) = H3 at *
      generalize hH4 : upd H3 A.h (.ins c.harvest A.dh (putF "brought_in_all" (V.int ((((a.brought.map fun x => x.2).sum : Nat) : Int) + ((X.2.1 : Nat) : Int))) (hvF A ((a.brought.map fun x => x.2).sum)))) = H4
      have kp4 : Keep [A.h] H3 H4 := by
        rw [← hH4]
        exact Keep.refl.set (by simp)
      have esum : ((a.brought ++ [(X.1, X.2.1)]).map fun x => x.2).sum = (a.brought.map fun x => x.2).sum + X.2.1 := by
        rw [List.map_append, List.sum_append]
        simp
      have h4 : H4 A.h = some (.ins c.harvest A.dh (hvF A (((a.brought ++ [(X.1, X.2.1)]).map fun x => x.2).sum))) := by
        rw [← hH4, upd_same, esum, put_all]
      have nh : ∀ {b : Addr} {o : HO}, H3 b = some o → (∀ C d fs, o = .ins C d fs → fs.lookup ("plant" : Str) = none) → b ≠ A.h := fun {b o} e hn eq => by
        rw [eq, h3] at e
        have := hn _ _ _ (Option.some.inj e).symm
        rw [hvF_plant] at this
        cases this
      have k4 : ∀ {b : Addr} {o : HO}, H3 b = some o → (∀ C d fs, o = .ins C d fs → fs.lookup ("plant" : Str) = none) → H4 b = some o := fun {b o} e hn => kp4 _ _ e (by simp [nh e hn])
      have Z4 : Hv c H4 A dco ll { a with cages := (a.cages.zip X.2.2).map (fun y => { y.1 with kg := y.2 }), time := X.1, zone := some (Kh332.zoneOf a (row.headD 0)), brought := a.brought ++ [(X.1, X.2.1)] } := by
        have lst : ∀ {xs : List V} {C d : Addr} {fs : List (Str × V)}, HO.lst xs = .ins C d fs → fs.lookup ("plant" : Str) = none := fun e => by cases e
        have tup : ∀ {xs : List V} {C d : Addr} {fs : List (Str × V)}, HO.tup xs = .ins C d fs → fs.lookup ("plant" : Str) = none := fun e => by cases e
        have prs : ∀ {p : Addr} {d : List (Nat × Nat)}, Prs H3 p d → Prs H4 p d := fun {p d} B => by
          obtain ⟨ps, g1, g2, g3⟩ := B.ex
          exact ⟨ps, k4 g1 (fun _ _ _ => lst), g2, fun i x e hx he => k4 (g3 i x e hx he) (fun _ _ _ => tup)⟩
        refine ⟨⟨⟨_, h4⟩, k4 R3.pl ?_, k4 R3.bo ?_, k4 R3.lc (fun _ _ _ => lst), ?_, ?_, R3.ok⟩, h4, ⟨k4 C3.co ?_, ?_⟩, prs O3, prs B3, Z.nCO, Z.nCT, Z.nCL, Z.nOT, Z.nOL, Z.nTL, ?_, Z.no, ?_⟩
        · intro C d fs e
          cases e
          rfl
        · intro C d fs e
          cases e
          rfl
        · show A.cs.length = ((a.cages.zip X.2.2).map _).length
          rw [List.length_map, List.length_zip, htl, hl, Nat.min_self]
          exact R3.len
        · intro i x g hx hg
          change ((a.cages.zip X.2.2).map _)[i]? = some g at hg
          rw [List.getElem?_map] at hg
          obtain ⟨y, hy, rfl⟩ := Option.map_eq_some_iff.mp hg
          obtain ⟨hy1, hy2⟩ := List.getElem?_zip_eq_some.mp hy
          obtain ⟨d, hd⟩ := R3.cage i x y.1 hx hy1
          refine ⟨d, k4 hd ?_⟩
          intro C d fs e
          cases e
          rfl
        · intro C d fs e
          cases e
          rfl
        · have e : ((a.cages.zip X.2.2).map (fun y => ({ y.1 with kg := y.2 } : Kh332.Cage))).map Kh332.Cage.kg = X.2.2 := by
            rw [List.map_map]
            show (a.cages.zip X.2.2).map Prod.snd = X.2.2
            exact List.map_snd_zip (by rw [htl, hl]; exact Nat.le_refl _)
          show H4 ll = some (.lst ((((a.cages.zip X.2.2).map (fun y => ({ y.1 with kg := y.2 } : Kh332.Cage))).map Kh332.Cage.kg).map vN))
          rw [e]
          exact k4 C3.ll (fun _ _ _ => lst)
        · show ((a.cages.zip X.2.2).map _).length ≤ 5
          rw [List.length_map, List.length_zip, htl, hl, Nat.min_self]
          exact Z.nc
        · intro g hg
          obtain ⟨y, hy, rfl⟩ := List.mem_map.mp hg
          exact hkg y.2 (List.of_mem_zip hy).2
      refine ⟨_, rfl, A.h, _, A.dh, _, _, rfl, h4, T.harvest, T.aCourse, hvF_course _ _, A.co, _, dco, _, _, rfl, Z4.co.co, T.course, T.aHour, courseF_hour _ _ _, _, rfl, (by show 2 ≤ sizeLine; decide), fun p hp => ?_⟩
      have kp5 := Keep.refl (S := []).new (o := .lst [V.int X.1, V.int X.2.1]) hp
      have kpall : Keep (muts A ll) H H4 := (((kp1.mono (by simp)).trans (kp2.mono (by simp [muts]))).trans (kp3.mono (by simp [muts]))).trans (kp4.mono (by simp [muts]))
      refine q _ p A.cs _ _ edo (Z4.same kp5) ?_ upd_same (kpall.trans (kp5.mono (by simp)))
      cases e : H p with
      | none => rfl
      | some o =>
        exfalso
        have hm : p ∈ muts A ll := by
          refine Classical.byContradiction fun hm => ?_
          rw [kpall _ _ e hm] at hp
          cases hp
        obtain ⟨_, g1, _⟩ := Z4.lo.ex
        obtain ⟨_, g2, _⟩ := Z4.lt.ex
        simp only [muts, List.mem_cons, List.not_mem_nil, or_false] at hm
        rcases hm with hm | hm | hm | hm | hm | hm
        · rw [hm, h4] at hp; cases hp
        · rw [hm, Z4.co.co] at hp; cases hp
        · rw [hm, Z4.co.ll] at hp; cases hp
        · rw [hm, Z4.ro.lc] at hp; cases hp
        · rw [hm, g1] at hp; cases hp
        · rw [hm, g2] at hp; cases hp
    · rw [e1]
      refine if_nd (fun _ => ?_) (fun h => by cases h)
      exact ⟨_, rfl, tell1 Z q kp1 e2⟩
end
end Hb

set_option Elab.async false
set_option linter.all false
set_option maxRecDepth 100000
set_option maxHeartbeats 2000000
/-! begin -/
namespace Hb
open PySem PySem.Spec PyProof.Rows L2
section
variable {P : Program} {w : World} {K : PySem.W.Frag} {mg : Str → Option Value} {base : Heap} {c : Cs}
def spBoatInit (c : Cs) : Sp := fun vs H Q _ => ∃ (p dx : Addr) (v1 v2 v3 v4 : V), vs = [.ref p, v1, v2, v3, v4] ∧ H p = some (.ins c.boat dx []) ∧ Q .non (upd H p (.ins c.boat dx [("well", v1), ("speed", v2), ("load", v3), ("wash", v4)]))
theorem scBoatInit : FnScope ["self", "well", "speed", "load", "wash"] ["self", "well", "speed", "load", "wash"] (defScope s_Boat_init) := ⟨rfl, rfl, rfl, by decide +kernel, rfl, by decide +kernel, by decide +kernel⟩
theorem ok_boatInit (T : Tx K mg c) (D : DnN K mg "Boat" c.boat "Boat.__init__" s_Boat_init ["self", "well", "speed", "load", "wash"]) : ClN P w K mg base "Boat" c.boat ["self", "well", "speed", "load", "wash"] 1 (spBoatInit c) := by
  refine D.ok scBoatInit (fun vs H Q E h => ?_) (fun f cdv A outer s H vs Q E hr h => ?_)
  · obtain ⟨p, dx, v1, v2, v3, v4, rfl, _⟩ := h
    rfl
  · obtain ⟨p, dx, v1, v2, v3, v4, rfl, hp, q⟩ := h
    refine ⟨_, pss_cons (ps_fld (pv 0) (pv 1) rfl) (pss_cons (ps_fld (pv 0) (pv 2) rfl) (pss_cons (ps_fld (pv 0) (pv 3) rfl) (pss_one (ps_fld (pv 0) (pv 4) rfl)))), ?_⟩
    refine ⟨_, rfl, _, rfl, p, _, dx, _, rfl, hp, T.boat, T.aWell, (by show 0 < 1000; decide), ?_⟩
    refine ⟨_, rfl, _, rfl, p, _, dx, _, rfl, upd_same, T.boat, T.aSpeed, (by show 1 < 1000; decide), ?_⟩
    refine ⟨_, rfl, _, rfl, p, _, dx, _, rfl, upd_same, T.boat, T.aLoad, (by show 2 < 1000; decide), ?_⟩
    refine ⟨_, rfl, _, rfl, p, _, dx, _, rfl, upd_same, T.boat, T.aWash, (by show 3 < 1000; decide), ?_⟩
    rw [upd_upd, upd_upd, upd_upd]
    exact q
def spPlantInit (c : Cs) : Sp := fun vs H Q _ => ∃ (p dx : Addr) (v1 v2 v3 : V), vs = [.ref p, v1, v2, v3] ∧ H p = some (.ins c.plant dx []) ∧ Q .non (upd H p (.ins c.plant dx [("opens", v1), ("closes", v2), ("unload", v3)]))
theorem scPlantInit : FnScope ["self", "opens", "closes", "unload"] ["self", "opens", "closes", "unload"] (defScope s_Plant_init) := ⟨rfl, rfl, rfl, by decide +kernel, rfl, by decide +kernel, by decide +kernel⟩
theorem ok_plantInit (T : Tx K mg c) (D : DnN K mg "Plant" c.plant "Plant.__init__" s_Plant_init ["self", "opens", "closes", "unload"]) : ClN P w K mg base "Plant" c.plant ["self", "opens", "closes", "unload"] 1 (spPlantInit c) := by
  refine D.ok scPlantInit (fun vs H Q E h => ?_) (fun f cdv A outer s H vs Q E hr h => ?_)
  · obtain ⟨p, dx, v1, v2, v3, rfl, _⟩ := h
    rfl
  · obtain ⟨p, dx, v1, v2, v3, rfl, hp, q⟩ := h
    refine ⟨_, pss_cons (ps_fld (pv 0) (pv 1) rfl) (pss_cons (ps_fld (pv 0) (pv 2) rfl) (pss_one (ps_fld (pv 0) (pv 3) rfl))), ?_⟩
    refine ⟨_, rfl, _, rfl, p, _, dx, _, rfl, hp, T.plant, T.aOpens, (by show 0 < 1000; decide), ?_⟩
    refine ⟨_, rfl, _, rfl, p, _, dx, _, rfl, upd_same, T.plant, T.aCloses, (by show 1 < 1000; decide), ?_⟩
    refine ⟨_, rfl, _, rfl, p, _, dx, _, rfl, upd_same, T.plant, T.aUnload, (by show 2 < 1000; decide), ?_⟩
    rw [upd_upd, upd_upd]
    exact q
/-- a harvest's lists and its course, all new -/
structure New (c : Cs) (H H' : Hp) (A : Ra) (dco ll : Addr) : Prop where
  h : H' A.h = some (.ins c.harvest A.dh (hvF A 0))
  lc : H' A.lc = some (.lst [])
  lo : H' A.lo = some (.lst [])
  lt : H' A.lt = some (.lst [])
  co : H' A.co = some (.ins c.course dco (courseF 0 none ll))
  l0 : H' ll = some (.lst [])
  nCO : A.lc ≠ A.lo
  nCT : A.lc ≠ A.lt
  nCL : A.lc ≠ ll
  nOT : A.lo ≠ A.lt
  nOL : A.lo ≠ ll
  nTL : A.lt ≠ ll
  flc : H A.lc = none
  flo : H A.lo = none
  flt : H A.lt = none
  fco : H A.co = none
  fll : H ll = none
def spHarvestInit (c : Cs) : Sp := fun vs H Q _ => ∃ (p dx pl bo dpl dbo : Addr), vs = [.ref p, .ref pl, .ref bo] ∧ H p = some (.ins c.harvest dx []) ∧
  ∀ (H' : Hp) (lc lo co dco ll lt : Addr), New c H H' ⟨p, dx, pl, dpl, bo, dbo, lc, lo, co, lt, []⟩ dco ll → Keep [p] H H' → Q .non H'
theorem scHarvestInit : FnScope ["self", "plant", "boat"] ["self", "plant", "boat"] (defScope s_Harvest_init) := ⟨rfl, rfl, rfl, by decide +kernel, rfl, by decide +kernel, by decide +kernel⟩
theorem ok_harvestInit (T : Tx K mg c) (D : DnN K mg "Harvest" c.harvest "Harvest.__init__" s_Harvest_init ["self", "plant", "boat"]) (C1 : ClN P w K mg base "Course" c.course ["self", "hour", "zone", "left"] 1 (spCourseInit c)) :
    ClN P w K mg base "Harvest" c.harvest ["self", "plant", "boat"] 3 (spHarvestInit c) := by
  refine D.ok scHarvestInit (fun vs H Q E h => ?_) (fun f cdv A outer s H vs Q E hr h => ?_)
  · obtain ⟨p, dx, pl, bo, dpl, dbo, rfl, _⟩ := h
    rfl
  · obtain ⟨p, dx, pl, bo, dpl, dbo, rfl, hp, q⟩ := h
    obtain ⟨f1, fd1, G1, b1, m1, g1⟩ := C1
    refine ⟨_, pss_cons (ps_fld (pv 0) (pv 1) rfl) (pss_cons (ps_fld (pv 0) (pv 2) rfl) (pss_cons (ps_fld (pv 0) (pe_lst pa_nil) rfl) (pss_cons (ps_fld (pv 0) (pe_lst pa_nil) rfl)
      (pss_cons (ps_fld (pv 0) (pe_make m1 G1 hr (by rfl) g1 b1 .nil pass0 (pa_cons pe_int (pa_cons pe_non (pa_cons (pe_lst pa_nil) pa_nil)))) rfl) (pss_cons (ps_fld (pv 0) (pe_lst pa_nil) rfl) (pss_one (ps_fld (pv 0) pe_int rfl))))))), ?_⟩
    refine ⟨_, rfl, _, rfl, p, _, dx, _, rfl, hp, T.harvest, T.aPlant, (by show 0 < 1000; decide), ?_⟩
    refine ⟨_, rfl, _, rfl, p, _, dx, _, rfl, upd_same, T.harvest, T.aBoat, (by show 1 < 1000; decide), ?_⟩
    rw [upd_upd]
    -- cages
    have k1 : Keep [p] H (upd H p (.ins c.harvest dx (putF "boat" (V.ref bo) (putF "plant" (V.ref pl) [])))) := Keep.refl.set (by simp)
    have p1 : upd H p (.ins c.harvest dx (putF "boat" (V.ref bo) (putF "plant" (V.ref pl) []))) p = some (.ins c.harvest dx [("plant", .ref pl), ("boat", .ref bo)]) := upd_same
    generalize upd H p (.ins c.harvest dx (putF "boat" (V.ref bo) (putF "plant" (V.ref pl) []))) = H1 at k1 p1 ⊢
    refine ⟨Nat.zero_le _, fun lc hlc => ?_⟩
    have npc : p ≠ lc := ne_of_none p1 hlc
    refine ⟨_, rfl, p, _, dx, _, rfl, (by rw [upd_ne npc]; exact p1), T.harvest, T.aCages, (by show 2 < 1000; decide), ?_⟩
    have k2 : Keep [p] H (upd (upd H1 lc (.lst [])) p (.ins c.harvest dx (putF "cages" (V.ref lc) [("plant", .ref pl), ("boat", .ref bo)]))) := (k1.new hlc).set (by simp)
    have p2 : upd (upd H1 lc (.lst [])) p (.ins c.harvest dx (putF "cages" (V.ref lc) [("plant", .ref pl), ("boat", .ref bo)])) p = some (.ins c.harvest dx [("plant", .ref pl), ("boat", .ref bo), ("cages", .ref lc)]) := upd_same
    have c2 : upd (upd H1 lc (.lst [])) p (.ins c.harvest dx (putF "cages" (V.ref lc) [("plant", .ref pl), ("boat", .ref bo)])) lc = some (.lst []) := by rw [upd_ne (Ne.symm npc), upd_same]
    have fn : ∀ {Hx : Hp} {x : Addr}, Keep [p] H Hx → (∃ o, Hx p = some o) → Hx x = none → H x = none := fun {Hx x} k hpx hx => by
      cases e : H x with
      | none => rfl
      | some o =>
        by_cases ep : x = p
        · obtain ⟨o2, ho2⟩ := hpx
          rw [ep, ho2] at hx
          cases hx
        · rw [k _ _ e (by simp [ep])] at hx
          cases hx
    have flc := fn k1 ⟨_, p1⟩ hlc
    generalize upd (upd H1 lc (.lst [])) p (.ins c.harvest dx (putF "cages" (V.ref lc) [("plant", .ref pl), ("boat", .ref bo)])) = H2 at k2 p2 c2 ⊢
    -- orders
    refine ⟨Nat.zero_le _, fun lo hlo => ?_⟩
    have npo : p ≠ lo := ne_of_none p2 hlo
    have nco : lc ≠ lo := ne_of_none c2 hlo
    refine ⟨_, rfl, p, _, dx, _, rfl, (by rw [upd_ne npo]; exact p2), T.harvest, T.aOrders, (by show 3 < 1000; decide), ?_⟩
    have k3 : Keep [p] H (upd (upd H2 lo (.lst [])) p (.ins c.harvest dx (putF "orders" (V.ref lo) [("plant", .ref pl), ("boat", .ref bo), ("cages", .ref lc)]))) := (k2.new hlo).set (by simp)
    have p3 : upd (upd H2 lo (.lst [])) p (.ins c.harvest dx (putF "orders" (V.ref lo) [("plant", .ref pl), ("boat", .ref bo), ("cages", .ref lc)])) p = some (.ins c.harvest dx [("plant", .ref pl), ("boat", .ref bo), ("cages", .ref lc), ("orders", .ref lo)]) := upd_same
    have c3 : upd (upd H2 lo (.lst [])) p (.ins c.harvest dx (putF "orders" (V.ref lo) [("plant", .ref pl), ("boat", .ref bo), ("cages", .ref lc)])) lc = some (.lst []) := by rw [upd_ne (Ne.symm npc), upd_ne nco]; exact c2
    have o3 : upd (upd H2 lo (.lst [])) p (.ins c.harvest dx (putF "orders" (V.ref lo) [("plant", .ref pl), ("boat", .ref bo), ("cages", .ref lc)])) lo = some (.lst []) := by rw [upd_ne (Ne.symm npo), upd_same]
    have flo := fn k2 ⟨_, p2⟩ hlo
    generalize upd (upd H2 lo (.lst [])) p (.ins c.harvest dx (putF "orders" (V.ref lo) [("plant", .ref pl), ("boat", .ref bo), ("cages", .ref lc)])) = H3 at k3 p3 c3 o3 ⊢
    -- course
    refine ⟨Nat.zero_le _, fun ll hll => ?_⟩
    have npl : p ≠ ll := ne_of_none p3 hll
    have ncl : lc ≠ ll := ne_of_none c3 hll
    have nol : lo ≠ ll := ne_of_none o3 hll
    have fll := fn k3 ⟨_, p3⟩ hll
    have k4 : Keep [p] H (upd H3 ll (.lst [])) := k3.new hll
    have k34 : Keep [] H3 (upd H3 ll (.lst [])) := Keep.refl.new hll
    have l4 : upd H3 ll (.lst []) ll = some (.lst []) := upd_same
    have p4 := k34.same _ _ p3
    have c4 := k34.same _ _ c3
    have o4 := k34.same _ _ o3
    generalize upd H3 ll (.lst []) = H4 at k4 l4 p4 c4 o4 ⊢
    intro co dco hco hdco hne
    refine ⟨co, dco, _, _, _, rfl, upd_same, rfl, ?_⟩
    rw [upd_upd]
    have fco := fn k4 ⟨_, p4⟩ hco
    have hco1 : upd H4 dco (.own co) co = none := by rw [upd_ne (Ne.symm hne)]; exact hco
    have k45 : Keep [] H4 (upd (upd H4 dco (.own co)) co (.ins c.course dco [("hour", V.int 0), ("zone", V.non), ("left", V.ref ll)])) := (Keep.refl.new hdco).new hco1
    have k5 := k4.trans (k45.mono (S' := [p]) (by simp))
    have co5 : upd (upd H4 dco (.own co)) co (.ins c.course dco [("hour", V.int 0), ("zone", V.non), ("left", V.ref ll)]) co = some (.ins c.course dco (courseF 0 none ll)) := upd_same
    have l5 := k45.same _ _ l4
    have p5 := k45.same _ _ p4
    have c5 := k45.same _ _ c4
    have o5 := k45.same _ _ o4
    generalize upd (upd H4 dco (.own co)) co (.ins c.course dco [("hour", V.int 0), ("zone", V.non), ("left", V.ref ll)]) = H5 at k5 co5 l5 p5 c5 o5 ⊢
    have npco : p ≠ co := ne_of_none p4 hco
    refine ⟨_, rfl, p, _, dx, _, rfl, p5, T.harvest, T.aCourse, (by show 4 < 1000; decide), ?_⟩
    have k56 : Keep [p] H5 (upd H5 p (.ins c.harvest dx (putF "course" (V.ref co) [("plant", .ref pl), ("boat", .ref bo), ("cages", .ref lc), ("orders", .ref lo)]))) := Keep.refl.set (by simp)
    have p6 : upd H5 p (.ins c.harvest dx (putF "course" (V.ref co) [("plant", .ref pl), ("boat", .ref bo), ("cages", .ref lc), ("orders", .ref lo)])) p = some (.ins c.harvest dx [("plant", .ref pl), ("boat", .ref bo), ("cages", .ref lc), ("orders", .ref lo), ("course", .ref co)]) := upd_same
    have k6 := k5.trans k56
    have co6 := k56 _ _ co5 (by simp [Ne.symm npco])
    have l6 := k56 _ _ l5 (by simp [Ne.symm npl])
    have c6 := k56 _ _ c5 (by simp [Ne.symm npc])
    have o6 := k56 _ _ o5 (by simp [Ne.symm npo])
    generalize upd H5 p (.ins c.harvest dx (putF "course" (V.ref co) [("plant", .ref pl), ("boat", .ref bo), ("cages", .ref lc), ("orders", .ref lo)])) = H6 at k6 p6 co6 l6 c6 o6 ⊢
    -- trips
    refine ⟨Nat.zero_le _, fun lt hlt => ?_⟩
    have npt : p ≠ lt := ne_of_none p6 hlt
    have nct : lc ≠ lt := ne_of_none c6 hlt
    have not : lo ≠ lt := ne_of_none o6 hlt
    have nlt : ll ≠ lt := ne_of_none l6 hlt
    have flt := fn k6 ⟨_, p6⟩ hlt
    refine ⟨_, rfl, p, _, dx, _, rfl, (by rw [upd_ne npt]; exact p6), T.harvest, T.aTrips, (by show 5 < 1000; decide), ?_⟩
    refine ⟨_, rfl, p, _, dx, _, rfl, upd_same, T.harvest, T.aAll, (by show 6 < 1000; decide), ?_⟩
    rw [upd_upd]
    have k7 : Keep [p] H (upd (upd H6 lt (.lst [])) p (.ins c.harvest dx (putF "brought_in_all" (V.int 0) (putF "trips" (V.ref lt) [("plant", .ref pl), ("boat", .ref bo), ("cages", .ref lc), ("orders", .ref lo), ("course", .ref co)])))) := (k6.new hlt).set (by simp)
    have k67 : Keep [p] H6 (upd (upd H6 lt (.lst [])) p (.ins c.harvest dx (putF "brought_in_all" (V.int 0) (putF "trips" (V.ref lt) [("plant", .ref pl), ("boat", .ref bo), ("cages", .ref lc), ("orders", .ref lo), ("course", .ref co)])))) := (Keep.refl.new hlt).set (by simp)
    refine q _ lc lo co dco ll lt ⟨upd_same, k67 _ _ c6 (by simp [Ne.symm npc]), k67 _ _ o6 (by simp [Ne.symm npo]), (by rw [upd_ne (Ne.symm npt), upd_same]), k67 _ _ co6 (by simp [Ne.symm npco]), k67 _ _ l6 (by simp [Ne.symm npl]), nco, nct, ncl, not, nol, Ne.symm nlt, flc, flo, flt, fco, fll⟩ k7
def begun0 (w v l u h o k : Nat) : Kh332.Abs := ⟨⟨w, v, l, u, h, o, k⟩, [], [], 0, none, []⟩
def badBegin (w v l u h o k : Nat) : Prop := w < 1000 ∨ 99999 < w ∨ v < 1 ∨ 50 < v ∨ l < 100 ∨ 99999 < l ∨ u < 100 ∨ 99999 < u ∨ 48 < h ∨ 24 < k ∨ k ≤ o
/-- begin -/
def spBegin (c : Cs) : Sp := fun vs H Q _ => ∃ (w v l u h o k : Nat), vs = [vN w, vN v, vN l, vN u, vN h, vN o, vN k] ∧ (badBegin w v l u h o k → Q .non H) ∧
  (¬ badBegin w v l u h o k → ∀ (H' : Hp) (A : Ra) (dco ll : Addr), Hv c H' A dco ll (begun0 w v l u h o k) → (∀ x ∈ muts A ll, H x = none) → Keep [] H H' → Q (.ref A.h) H')
theorem scBegin : FnScope ["well", "speed", "load", "unload", "wash", "opens", "closes", "boat_as_told", "rest_as_told"] ["well", "speed", "load", "unload", "wash", "opens", "closes"] (defScope s_begin) := ⟨rfl, rfl, rfl, by decide +kernel, rfl, by decide +kernel, by decide +kernel⟩
theorem ok_begin (T : Tx K mg c) (D : Dn K mg "begin" s_begin ["well", "speed", "load", "unload", "wash", "opens", "closes"]) (C1 : Cl P w K mg base "within" ["number", "least", "most"] 1 spWithin) (C2 : ClN P w K mg base "Harvest" c.harvest ["self", "plant", "boat"] 3 (spHarvestInit c))
    (C3 : ClN P w K mg base "Plant" c.plant ["self", "opens", "closes", "unload"] 1 (spPlantInit c)) (C4 : ClN P w K mg base "Boat" c.boat ["self", "well", "speed", "load", "wash"] 1 (spBoatInit c)) :
    Cl P w K mg base "begin" ["well", "speed", "load", "unload", "wash", "opens", "closes"] 5 (spBegin c) := by
  refine D.ok scBegin (fun vs H Q E h => ?_) (fun f cdv A outer s H vs Q E hr h => ?_)
  · obtain ⟨w', v, l, u, h, o, k, rfl, _⟩ := h
    rfl
  · obtain ⟨w', v, l, u, h, o, k, rfl, q1, q2⟩ := h
    obtain ⟨f1, fd1, G1, b1, m1, k1⟩ := C1
    obtain ⟨f2, fd2, G2, b2, m2, g2⟩ := C2
    obtain ⟨f3, fd3, G3, b3, m3, g3⟩ := C3
    obtain ⟨f4, fd4, G4, b4, m4, g4⟩ := C4
    have hr1 : Room 1 _ := hr.mono (by decide)
    have hr2 : Room 2 _ := hr.mono (by decide)
    have nd := scBegin.nd
    refine ⟨_, pss_cons (ps_set (i := 7) nd rfl (Or.inl rfl) (pe_cut (pe_and (pe_call G1 hr1 (by rfl) m1 k1 b1 .nil pass0 (pa_cons (pv 0) (pa_cons pe_int (pa_cons pe_int pa_nil)))) (pe_and (pe_call G1 hr1 (by rfl) m1 k1 b1 .nil pass0 (pa_cons (pv 1) (pa_cons pe_int (pa_cons pe_int pa_nil))))
        (pe_one (pe_call G1 hr1 (by rfl) m1 k1 b1 .nil pass0 (pa_cons (pv 2) (pa_cons pe_int (pa_cons pe_int pa_nil)))))))))
      (pss_cons (ps_set (i := 8) nd rfl (Or.inl rfl) (pe_cut (pe_and (pe_call G1 hr1 (by rfl) m1 k1 b1 .nil pass0 (pa_cons (pv 3) (pa_cons pe_int (pa_cons pe_int pa_nil)))) (pe_and (pe_call G1 hr1 (by rfl) m1 k1 b1 .nil pass0 (pa_cons (pv 4) (pa_cons pe_int (pa_cons pe_int pa_nil))))
        (pe_and (pe_cmpR op_le (pv 6) (pg_int T.day) (nomark _)) (pe_one (pe_cmpR op_lt (pv 5) (pv 6) (nomark _))))))))
      (pss_cons (ps_if (pw_and (pt_val (pv 7)) (pw_and1 (pt_val (pv 8)))).pt
        (pss_one (ps_ret (pe_make m2 G2 hr (by rfl) g2 b2 .nil pass0 (pa_cons (pe_make m3 G3 hr2 (by rfl) g3 b3 .nil pass0 (pa_cons (pv 5) (pa_cons (pv 6) (pa_cons (pv 3) pa_nil)))) (pa_cons (pe_make m4 G4 hr2 (by rfl) g4 b4 .nil pass0 (pa_cons (pv 0) (pa_cons (pv 1) (pa_cons (pv 2) (pa_cons (pv 4) pa_nil))))) pa_nil)))))
        pss_nil)
      (pss_one (ps_ret pe_non)))), ?_⟩
    refine ⟨fun x H' => x = .bl (decide (1000 ≤ w' ∧ w' ≤ 99999 ∧ 1 ≤ v ∧ v ≤ 50 ∧ 100 ≤ l ∧ l ≤ 99999)) ∧ H' = H, ?_, ?_⟩
    · refine ⟨_, rfl, _, _, _, rfl, _, rfl, ?_⟩
      refine if_d (fun h1 => ?_) (fun h1 => ⟨by rw [decide_eq_false (by omega)], rfl⟩)
      refine ⟨_, rfl, _, _, _, rfl, _, rfl, ?_⟩
      refine if_d (fun h2 => ?_) (fun h2 => ⟨by rw [decide_eq_false (by omega)], rfl⟩)
      refine ⟨_, rfl, _, _, _, rfl, ?_, rfl⟩
      refine congrArg V.bl ?_
      by_cases h3 : (100 : Int) ≤ l ∧ (l : Int) ≤ 99999
      · rw [decide_eq_true h3, decide_eq_true (by omega)]
      · rw [decide_eq_false h3, decide_eq_false (by omega)]
    · rintro x H' ⟨rfl, rfl⟩
      refine ⟨fun x H2 => x = .bl (decide (100 ≤ u ∧ u ≤ 99999 ∧ h ≤ 48 ∧ k ≤ 24 ∧ o < k)) ∧ H2 = H', ?_, ?_⟩
      · refine ⟨_, rfl, _, _, _, rfl, _, rfl, ?_⟩
        refine if_d (fun h1 => ?_) (fun h1 => ⟨by rw [decide_eq_false (by omega)], rfl⟩)
        refine ⟨_, rfl, _, _, _, rfl, _, rfl, ?_⟩
        refine if_d (fun h2 => ?_) (fun h2 => ⟨by rw [decide_eq_false (by omega)], rfl⟩)
        refine ⟨_, rfl, _, _, rfl, rfl, _, rfl, ?_⟩
        refine if_d (fun h3 => ?_) (fun h3 => ⟨by rw [decide_eq_false (by omega)], rfl⟩)
        refine ⟨_, rfl, _, rfl, _, _, rfl, rfl, ?_, rfl⟩
        refine congrArg V.bl ?_
        by_cases h4 : (o : Int) < k
        · rw [decide_eq_true h4, decide_eq_true (by omega)]
        · rw [decide_eq_false h4, decide_eq_false (by omega)]
      · rintro x H2 ⟨rfl, rfl⟩
        refine ⟨_, rfl, _, rfl, ?_⟩
        refine if_d (fun h1 => ?_) (fun h1 => ?_)
        · refine ⟨_, rfl, _, rfl, ?_⟩
          refine if_d (fun h2 => ?_) (fun h2 => ?_)
          · refine ⟨_, rfl, _, rfl, _, rfl, ?_⟩
            intro pl dpl hpl hdpl hne1
            refine ⟨pl, dpl, _, _, _, rfl, upd_same, rfl, ?_⟩
            rw [upd_upd]
            have hpl1 : upd H2 dpl (.own pl) pl = none := by rw [upd_ne (Ne.symm hne1)]; exact hpl
            have ka : Keep [] H2 (upd (upd H2 dpl (.own pl)) pl (.ins c.plant dpl [("opens", vN o), ("closes", vN k), ("unload", vN u)])) := (Keep.refl.new hdpl).new hpl1
            have pla : upd (upd H2 dpl (.own pl)) pl (.ins c.plant dpl [("opens", vN o), ("closes", vN k), ("unload", vN u)]) pl = some (.ins c.plant dpl (plantF ⟨w', v, l, u, h, o, k⟩)) := upd_same
            generalize upd (upd H2 dpl (.own pl)) pl (.ins c.plant dpl [("opens", vN o), ("closes", vN k), ("unload", vN u)]) = Ha at ka pla ⊢
            refine ⟨_, rfl, _, rfl, _, rfl, _, rfl, ?_⟩
            intro bo dbo hbo hdbo hne2
            refine ⟨bo, dbo, _, _, _, _, rfl, upd_same, rfl, ?_⟩
            rw [upd_upd]
            have hbo1 : upd Ha dbo (.own bo) bo = none := by rw [upd_ne (Ne.symm hne2)]; exact hbo
            have kab : Keep [] Ha (upd (upd Ha dbo (.own bo)) bo (.ins c.boat dbo [("well", vN w'), ("speed", vN v), ("load", vN l), ("wash", vN h)])) := (Keep.refl.new hdbo).new hbo1
            have kb := ka.trans kab
            have plb := kab.same _ _ pla
            have bob : upd (upd Ha dbo (.own bo)) bo (.ins c.boat dbo [("well", vN w'), ("speed", vN v), ("load", vN l), ("wash", vN h)]) bo = some (.ins c.boat dbo (boatF ⟨w', v, l, u, h, o, k⟩)) := upd_same
            generalize upd (upd Ha dbo (.own bo)) bo (.ins c.boat dbo [("well", vN w'), ("speed", vN v), ("load", vN l), ("wash", vN h)]) = Hb at kb plb bob ⊢
            intro hv dh hhv hdh hne3
            have hhv1 : upd Hb dh (.own hv) hv = none := by rw [upd_ne (Ne.symm hne3)]; exact hhv
            have kbc : Keep [] Hb (upd (upd Hb dh (.own hv)) hv (.ins c.harvest dh [])) := (Keep.refl.new hdh).new hhv1
            have kc := kb.trans kbc
            refine ⟨hv, dh, pl, bo, dpl, dbo, rfl, upd_same, fun H' lc lo co dco ll lt N kd => ⟨rfl, ?_⟩⟩
            have plc := kbc.same _ _ plb
            have boc := kbc.same _ _ bob
            have hvn : hv ≠ pl := (ne_of_none plb hhv).symm
            have hvb : hv ≠ bo := (ne_of_none bob hhv).symm
            have nb : ¬ badBegin w' v l u h o k := by
              unfold badBegin
              omega
            have bok : BoatOk (begun0 w' v l u h o k).boat := by
              have e : (begun0 w' v l u h o k).boat = ⟨w', v, l, u, h, o, k⟩ := rfl
              rw [e]
              exact ⟨⟨by show 1000 ≤ w'; omega, by show w' ≤ 99999; omega⟩, ⟨by show 1 ≤ v; omega, by show v ≤ 50; omega⟩, ⟨by show 100 ≤ l; omega, by show l ≤ 99999; omega⟩, ⟨by show 100 ≤ u; omega, by show u ≤ 99999; omega⟩, by show h ≤ 48; omega, ⟨by show o < k; omega, by show k ≤ 24; omega⟩⟩
            have up : ∀ {x : Addr}, upd (upd Hb dh (.own hv)) hv (.ins c.harvest dh []) x = none → H2 x = none := fun {x} e => by
              cases e2 : H2 x with
              | none => rfl
              | some y => rw [kc.same _ _ e2] at e; cases e
            have hv0 : H2 hv = none := by
              cases e2 : H2 hv with
              | none => rfl
              | some y => rw [kb.same _ _ e2] at hhv; cases hhv
            refine q2 nb H' ⟨hv, dh, pl, dpl, bo, dbo, lc, lo, co, lt, []⟩ dco ll ⟨⟨⟨0, N.h⟩, kd _ _ plc (by simp [Ne.symm hvn]), kd _ _ boc (by simp [Ne.symm hvb]), N.lc, rfl, (fun i x g hx _ => by simp at hx), bok⟩, N.h, ⟨N.co, N.l0⟩, Prs.nil N.lo, Prs.nil N.lt,
              N.nCO, N.nCT, N.nCL, N.nOT, N.nOL, N.nTL, by simp [begun0], by simp [begun0], by simp [begun0]⟩ ?_ ?_
            · intro x hx
              simp only [muts, List.mem_cons, List.not_mem_nil, or_false] at hx
              rcases hx with hx | hx | hx | hx | hx | hx
              · rw [hx]; exact hv0
              · rw [hx]; exact up N.fco
              · rw [hx]; exact up N.fll
              · rw [hx]; exact up N.flc
              · rw [hx]; exact up N.flo
              · rw [hx]; exact up N.flt
            · exact kc.drop kd (fun s hs => by rw [List.mem_singleton.mp hs]; exact hv0)
          · exact q1 (by unfold badBegin; omega)
        · exact q1 (by unfold badBegin; omega)
end
end Hb

set_option Elab.async false
set_option linter.all false
set_option maxRecDepth 100000
set_option maxHeartbeats 2000000
/-! the list of calls, parted -/
namespace HM
/-- one call read off a list: the numbers of its first row, and its row if it has one -/
theorem calls_cons {shape : Int → Option (Nat × Nat)} {f : Nat} {p : Int} {r : List Int} {raw : List (List (List Int))} (h : PyFlat.calls shape f (p :: r) = some raw) :
    ∃ (g n k : Nat) (xs : List (List Int)) (t : List Int) (rest : List (List (List Int))), f = g + 1 ∧ shape p = some (n, k) ∧ n ≤ r.length ∧ PyFlat.rows k (r.drop n) = some (xs, t) ∧ PyFlat.calls shape g t = some rest ∧ raw = ((p :: r.take n) :: xs) :: rest := by
  cases f with
  | zero => simp [PyFlat.calls] at h
  | succ g =>
    unfold PyFlat.calls at h
    unfold PyFlat.call at h
    dsimp only at h
    cases hs : shape p with
    | none => rw [hs] at h; simp at h
    | some nk =>
      obtain ⟨n, k⟩ := nk
      rw [hs] at h
      dsimp only at h
      by_cases hn : r.length < n
      · rw [if_pos hn] at h
        simp at h
      · rw [if_neg hn] at h
        cases hr : PyFlat.rows k (r.drop n) with
        | none => rw [hr] at h; simp at h
        | some xt =>
          obtain ⟨xs, t⟩ := xt
          rw [hr] at h
          dsimp only at h
          cases hc : PyFlat.calls shape g t with
          | none => rw [hc] at h; simp at h
          | some rest =>
            rw [hc] at h
            exact ⟨g, n, k, xs, t, rest, rfl, rfl, by omega, hr, hc, (Option.some.inj h).symm⟩
theorem rows0 {r : List Int} {xs : List (List Int)} {t : List Int} (h : PyFlat.rows 0 r = some (xs, t)) : xs = [] ∧ t = r := by
  unfold PyFlat.rows at h
  have := Option.some.inj h
  exact ⟨(congrArg Prod.fst this).symm, (congrArg Prod.snd this).symm⟩
theorem rows1 {r : List Int} {xs : List (List Int)} {t : List Int} (h : PyFlat.rows 1 r = some (xs, t)) : ∃ (m : Int) (s : List Int), r = m :: s ∧ 0 ≤ m ∧ m.toNat ≤ s.length ∧ xs = [s.take m.toNat] ∧ t = s.drop m.toNat := by
  unfold PyFlat.rows at h
  cases r with
  | nil => simp [PyFlat.row] at h
  | cons m s =>
    unfold PyFlat.row at h
    dsimp only at h
    by_cases hm : 0 ≤ m ∧ m.toNat ≤ s.length
    · rw [if_pos hm] at h
      dsimp only at h
      unfold PyFlat.rows at h
      dsimp only at h
      have := Option.some.inj h
      exact ⟨m, s, rfl, hm.1, hm.2, (congrArg Prod.fst this).symm, (congrArg Prod.snd this).symm⟩
    · rw [if_neg hm] at h
      simp at h
end HM
namespace Hb
open PySem PySem.Spec PyProof.Rows L2
/-- how many numbers a call has, and whether a row -/
def shp : Nat → Nat × Bool
  | 0 => (7, false) | 1 => (3, false) | 2 => (2, false) | 3 => (2, false) | 4 => (1, false) | 5 => (2, false) | 6 => (2, false) | 7 => (0, true) | 8 => (0, true) | 9 => (0, true)
  | 10 => (0, false) | 11 => (0, true) | 12 => (0, false) | 13 => (0, true) | 14 => (1, true) | 15 => (0, false) | 16 => (0, false) | 17 => (1, false) | _ => (0, false)
theorem shape_shp {p : Int} {n k : Nat} (h : PyKh332.shape p = some (n, k)) : ∃ q : Nat, p = (q : Int) ∧ q < 19 ∧ n = (shp q).1 ∧ k = if (shp q).2 = true then 1 else 0 := by
  unfold PyKh332.shape at h
  by_cases e0 : p = 0
  · subst e0; cases h; exact ⟨0, rfl, by decide, rfl, rfl⟩
  rw [if_neg e0] at h
  by_cases e1 : p = 1
  · subst e1; cases h; exact ⟨1, rfl, by decide, rfl, rfl⟩
  rw [if_neg e1] at h
  by_cases e2 : p = 2
  · subst e2; cases h; exact ⟨2, rfl, by decide, rfl, rfl⟩
  rw [if_neg e2] at h
  by_cases e3 : p = 3
  · subst e3; cases h; exact ⟨3, rfl, by decide, rfl, rfl⟩
  rw [if_neg e3] at h
  by_cases e4 : p = 4
  · subst e4; cases h; exact ⟨4, rfl, by decide, rfl, rfl⟩
  rw [if_neg e4] at h
  by_cases e5 : p = 5
  · subst e5; cases h; exact ⟨5, rfl, by decide, rfl, rfl⟩
  rw [if_neg e5] at h
  by_cases e6 : p = 6
  · subst e6; cases h; exact ⟨6, rfl, by decide, rfl, rfl⟩
  rw [if_neg e6] at h
  by_cases e7 : p = 7
  · subst e7; cases h; exact ⟨7, rfl, by decide, rfl, rfl⟩
  rw [if_neg e7] at h
  by_cases e8 : p = 8
  · subst e8; cases h; exact ⟨8, rfl, by decide, rfl, rfl⟩
  rw [if_neg e8] at h
  by_cases e9 : p = 9
  · subst e9; cases h; exact ⟨9, rfl, by decide, rfl, rfl⟩
  rw [if_neg e9] at h
  by_cases e10 : p = 10
  · subst e10; cases h; exact ⟨10, rfl, by decide, rfl, rfl⟩
  rw [if_neg e10] at h
  by_cases e11 : p = 11
  · subst e11; cases h; exact ⟨11, rfl, by decide, rfl, rfl⟩
  rw [if_neg e11] at h
  by_cases e12 : p = 12
  · subst e12; cases h; exact ⟨12, rfl, by decide, rfl, rfl⟩
  rw [if_neg e12] at h
  by_cases e13 : p = 13
  · subst e13; cases h; exact ⟨13, rfl, by decide, rfl, rfl⟩
  rw [if_neg e13] at h
  by_cases e14 : p = 14
  · subst e14; cases h; exact ⟨14, rfl, by decide, rfl, rfl⟩
  rw [if_neg e14] at h
  by_cases e15 : p = 15
  · subst e15; cases h; exact ⟨15, rfl, by decide, rfl, rfl⟩
  rw [if_neg e15] at h
  by_cases e16 : p = 16
  · subst e16; cases h; exact ⟨16, rfl, by decide, rfl, rfl⟩
  rw [if_neg e16] at h
  by_cases e17 : p = 17
  · subst e17; cases h; exact ⟨17, rfl, by decide, rfl, rfl⟩
  rw [if_neg e17] at h
  by_cases e18 : p = 18
  · subst e18; cases h; exact ⟨18, rfl, by decide, rfl, rfl⟩
  rw [if_neg e18] at h
  cases h
/-- a call of the list, parted: its number and its arguments -/
inductive PartAt (H : Hp) (x : Addr) : List (List Int) → Prop
  | num {p : Int} {ns : List Int} (ar : Addr) (h1 : H x = some (.tup [.int p, .ref ar])) (h2 : H ar = some (.lst (ns.map V.int))) : PartAt H x [p :: ns]
  | row {p : Int} {ns rs : List Int} (ar ra : Addr) (h1 : H x = some (.tup [.int p, .ref ar])) (h2 : H ar = some (.lst (ns.map V.int ++ [.ref ra]))) (h3 : H ra = some (.lst (rs.map V.int))) : PartAt H x [p :: ns, rs]
theorem PartAt.same {H H' : Hp} {x : Addr} {c : List (List Int)} (B : PartAt H x c) (k : Keep [] H H') : PartAt H' x c := by
  cases B with
  | num ar h1 h2 => exact .num ar (k.same _ _ h1) (k.same _ _ h2)
  | row ar ra h1 h2 h3 => exact .row ar ra (k.same _ _ h1) (k.same _ _ h2) (k.same _ _ h3)
/-- a heap without one address -/
def hide (H : Hp) (p : Addr) : Hp := fun b => if b = p then none else H b
theorem hide_ne {H : Hp} {p b : Addr} (h : b ≠ p) : hide H p b = H b := by
  unfold hide
  rw [if_neg h]
theorem hide_some {H : Hp} {p b : Addr} {o : HO} (h : hide H p b = some o) : b ≠ p ∧ H b = some o := by
  by_cases e : b = p
  · unfold hide at h
    rw [if_pos e] at h
    cases h
  · rw [hide_ne e] at h
    exact ⟨e, h⟩
theorem hide_keep {H H' : Hp} {p : Addr} (k : Keep [p] H H') : Keep [] (hide H p) (hide H' p) := fun b o h _ => by
  obtain ⟨h1, h2⟩ := hide_some h
  rw [hide_ne h1]
  exact k _ _ h2 (by simp [h1])
theorem hide_in {H : Hp} {p : Addr} : Keep [] (hide H p) H := fun b o h _ => (hide_some h).2
/-- what is new since G, but at p -/
def only (G : Hp) (p : Addr) (H : Hp) : Hp := fun b => if b = p ∨ (G b).isSome = true then none else H b
theorem only_new {G H : Hp} {p b : Addr} (h : b ≠ p) (hg : G b = none) : only G p H b = H b := by
  unfold only
  rw [if_neg (by rw [hg]; simp [h])]
theorem only_some {G H : Hp} {p b : Addr} {o : HO} (h : only G p H b = some o) : b ≠ p ∧ G b = none ∧ H b = some o := by
  unfold only at h
  by_cases e : b = p ∨ (G b).isSome = true
  · rw [if_pos e] at h
    cases h
  · rw [if_neg e] at h
    refine ⟨fun q => e (.inl q), ?_, h⟩
    cases e2 : G b with
    | none => rfl
    | some o => exact absurd (.inr (by rw [e2]; rfl)) e
theorem only_keep {G H H' : Hp} {p : Addr} (k : Keep [p] H H') : Keep [] (only G p H) (only G p H') := fun b o h _ => by
  obtain ⟨h1, h2, h3⟩ := only_some h
  rw [only_new h1 h2]
  exact k _ _ h3 (by simp [h1])
structure Parts (G H : Hp) (p : Addr) (raw : List (List (List Int))) : Prop where
  ex : ∃ ps : List Addr, H p = some (.lst (ps.map V.ref)) ∧ ps.length = raw.length ∧ ∀ (i : Nat) (x : Addr) (c : List (List Int)), ps[i]? = some x → raw[i]? = some c → PartAt (only G p H) x c
/-- a tuple that the top has written -/
structure TupK (K : PySem.W.Frag) (a : Addr) (xs : List V) : Prop where
  ex : ∃ (o : Obj) (its : Array Value) (n : Nat), K.lookup a = some o ∧ o.cls = .type "tuple" ∧ o.data = .seq its n ∧ its.size ≤ sizeLine ∧ Vals xs its.toList
theorem TupK.at {K : PySem.W.Frag} {a : Addr} {xs : List V} (t : TupK K a xs) {H : Hp} : SqT K H a xs := .inr t.ex
/-- the table of calls: each row's numbers and what is called -/
structure Tab (K : PySem.W.Frag) (mg : Str → Option Value) (fs : List V) : Prop where
  ex : ∃ (t : Addr) (rows : List Addr), mg "CALLS" = some (.ref t) ∧ TupK K t (rows.map V.ref) ∧ rows.length = 19 ∧ fs.length = 19 ∧ ∀ (q : Nat) (r : Addr) (v : V), rows[q]? = some r → fs[q]? = some v → TupK K r [.int (shp q).1, .bl (shp q).2, v]
theorem cutV_mid {xs : List V} {i j : Nat} (h : i ≤ j) (hj : j ≤ xs.length) : cutV xs (some (i : Int)) (some (j : Int)) = (xs.drop i).take (j - i) := by
  unfold cutV
  rw [HT.sIx_nat, HT.sIx_nat, Nat.min_eq_left hj, Nat.min_eq_left (Nat.le_trans h hj)]
section
variable {P : Program} {w : World} {K : PySem.W.Frag} {mg : Str → Option Value} {base : Heap} {c : Cs}
def spParted (K : PySem.W.Frag) : Sp := fun vs H Q _ => ∃ (r : Addr) (ns : List Int) (raw : List (List (List Int))), vs = [.ref r] ∧ SqL K H r (ns.map V.int) ∧ ns.length ≤ 1100 ∧ PyFlat.calls PyKh332.shape ns.length ns = some raw ∧
  ∀ (H' : Hp) (p : Addr), H p = none → Parts H H' p raw → Keep [] H H' → Q (.ref p) H'
theorem scParted : FnScope ["calls", "parts", "place", "number", "end", "arguments", "start"] ["calls"] (defScope s_parted) := ⟨rfl, rfl, rfl, by decide +kernel, rfl, by decide +kernel, by decide +kernel⟩
theorem Keep.seq {H H' : Hp} {r : Addr} {xs : List V} (k : Keep [] H H') (h : SqL K H r xs) : SqL K H' r xs := k.same.seq h
theorem ok_parted {fs : List V} (T : Tx K mg c) (TB : Tab K mg fs) (D : Dn K mg "parted" s_parted ["calls"]) : Cl P w K mg base "parted" ["calls"] 1 (spParted K) := by
  refine D.ok scParted (fun vs H Q E h => ?_) (fun f cdv A outer s H vs Q E hr h => ?_)
  · obtain ⟨r, ns, raw, rfl, _⟩ := h
    rfl
  · obtain ⟨r, ns, raw, rfl, hS, hlen, hraw, q⟩ := h
    obtain ⟨ta, rows, hmg, ht, hrl, hfl, hrows⟩ := TB.ex
    have nd := scParted.nd
    refine ⟨_, pss_cons (ps_set (i := 1) nd rfl (Or.inl rfl) (pe_lst pa_nil))
      (pss_cons (ps_set (i := 2) nd rfl (Or.inl rfl) pe_int)
      (pss_cons (ps_while PassesOwn.never (pt_cmpR op_lt (pv 2) (pe_callB call_len_seq (by rfl) T.len (by rfl) (pa_cons (pv 0) pa_nil)) (nomark _))
        (pss_cons (ps_set (i := 3) nd rfl (Or.inl rfl) (pe_ix ix_list (pv 0) (pv 2) (fun _ _ => rfl)))
        (pss_cons (ps_set (i := 4) nd rfl (Or.inl rfl) (pe_op op_add (pe_op op_add (pv 2) pe_int) (pe_ix ix_tup (pe_ix ix_tup (pe_glob (v := .ref ta) (by rfl) hmg rfl) (pv 3) (fun _ _ => rfl)) pe_int (fun _ _ => rfl))))
        (pss_cons (ps_set (i := 5) nd rfl (Or.inl rfl) (pe_slice sl_list (pv 0) (po_some (pe_op op_add (pv 2) pe_int)) (po_some (pv 4))))
        (pss_cons (ps_cut (ps_if (pt_val (pe_ix ix_tup (pe_ix ix_tup (pe_glob (v := .ref ta) (by rfl) hmg rfl) (pv 3) (fun _ _ => rfl)) pe_int (fun _ _ => rfl)))
          (pss_cons (ps_set (i := 6) nd rfl (Or.inl rfl) (pe_op op_add (pv 4) pe_int))
          (pss_cons (ps_set (i := 4) nd rfl (Or.inl rfl) (pe_op op_add (pv 6) (pe_ix ix_list (pv 0) (pv 4) (fun _ _ => rfl))))
          (pss_one (ps_expr (pe_bm PySem.F.plainAttrs_list PySem.F.slot_list_append PySem.F.type_list_append mt_append (pv 5) (pa_cons (pe_slice sl_list (pv 0) (po_some (pv 6)) (po_some (pv 4))) pa_nil))))))
          pss_nil))
        (pss_cons (ps_expr (pe_bm PySem.F.plainAttrs_list PySem.F.slot_list_append PySem.F.type_list_append mt_append (pv 1) (pa_cons (pe_tup (pa_cons (pv 3) (pa_cons (pv 5) pa_nil))) pa_nil)))
        (pss_one (ps_set (i := 2) nd rfl (Or.inl rfl) (pv 4)))))))))
      (pss_one (ps_ret (pv 1))))), ?_⟩
    refine ⟨Nat.zero_le _, fun p hp => ?_⟩
    have kp0 : Keep [] H (upd H p (.lst [])) := Keep.refl.new hp
    refine ⟨fun m σ H' => ∃ (place g : Nat) (done rest : List (List (List Int))) (v3 v4 v5 v6 : Option V), m = ns.length - place ∧ place ≤ ns.length ∧ σ = [some (V.ref r), some (.ref p), some (.int place), v3, v4, v5, v6] ∧ PyFlat.calls PyKh332.shape g (ns.drop place) = some rest ∧ raw = done ++ rest ∧ done.length ≤ place ∧ Parts H H' p done ∧ Keep [] H H',
      ⟨_, 0, ns.length, [], raw, none, none, none, none, rfl, Nat.zero_le _, rfl, hraw, rfl, Nat.le_refl _, ⟨[], upd_same, rfl, fun i x c hx _ => by simp at hx⟩, kp0⟩, ?_⟩
    rintro m σ H' ⟨place, g, done, rest, v3, v4, v5, v6, rfl, hpl, rfl, hcs, hrr, hdl, B, kp⟩
    refine ⟨_, rfl, _, rfl, r, _, rfl, .inl (kp.seq hS), _, _, rfl, rfl, _, rfl, ?_⟩
    refine if_d (fun h1 => ?_) (fun h1 => ?_)
    · rw [List.length_map] at h1
      have hlt : place < ns.length := by omega
      obtain ⟨v, hv⟩ : ∃ v, ns[place]? = some v := ⟨_, List.getElem?_eq_getElem hlt⟩
      have edrop : ns.drop place = v :: ns.drop (place + 1) := by
        obtain ⟨_, e⟩ := List.getElem?_eq_some_iff.mp hv
        rw [← e]
        exact List.drop_eq_getElem_cons hlt
      rw [edrop] at hcs
      obtain ⟨g', n, k, xs, t, rest', rfl, hsh, hnl, hrw, hcs', rfl⟩ := HM.calls_cons hcs
      obtain ⟨qn, rfl, hq19, rfl, hk⟩ := shape_shp hsh
      obtain ⟨rw_, hrw_⟩ : ∃ x, rows[qn]? = some x := ⟨_, List.getElem?_eq_getElem (by omega)⟩
      obtain ⟨fv, hfv⟩ : ∃ x, fs[qn]? = some x := ⟨_, List.getElem?_eq_getElem (by omega)⟩
      have hrow := hrows qn rw_ fv hrw_ hfv
      have hdl2 : (ns.drop (place + 1)).length = ns.length - (place + 1) := List.length_drop ..
      refine ⟨fun σ' H2 => ∃ m', m' < ns.length - place ∧ ∃ (place g : Nat) (done rest : List (List (List Int))) (v3 v4 v5 v6 : Option V), m' = ns.length - place ∧ place ≤ ns.length ∧ σ' = [some (V.ref r), some (.ref p), some (.int place), v3, v4, v5, v6] ∧ PyFlat.calls PyKh332.shape g (ns.drop place) = some rest ∧ raw = done ++ rest ∧ done.length ≤ place ∧ Parts H H2 p done ∧ Keep [] H H2, fun σ' H2 h => h, ?_⟩
      -- number
      refine ⟨_, rfl, _, rfl, r, _, _, _, rfl, rfl, kp.seq hS, atI_nat (get_map hv), ?_⟩
      -- end
      refine ⟨_, rfl, _, _, rfl, rfl, _, rfl, ta, _, _, _, rfl, rfl, ht.at, atI_nat (get_map hrw_), rw_, _, _, _, rfl, rfl, hrow.at, atI_nat (j := 0) rfl, _, _, rfl, rfl, ?_⟩
      -- arguments
      refine ⟨_, rfl, _, rfl, _, _, rfl, rfl, _, rfl, _, rfl, _, rfl, r, _, rfl, kp.seq hS, fun ar har => ?_⟩
      have e1 : (place : Int) + 1 = ((place + 1 : Nat) : Int) := by omega
      have e2 : (place : Int) + 1 + (((shp qn).1 : Nat) : Int) = ((place + 1 + (shp qn).1 : Nat) : Int) := by omega
      have ecut : cutV (ns.map V.int) (some ((place : Int) + 1)) (some ((place : Int) + 1 + (((shp qn).1 : Nat) : Int))) = ((ns.drop (place + 1)).take (shp qn).1).map V.int := by
        rw [e1, show ((place + 1 : Nat) : Int) + (((shp qn).1 : Nat) : Int) = ((place + 1 + (shp qn).1 : Nat) : Int) by omega, cutV_mid (by omega) (by rw [List.length_map]; omega), List.map_take, List.map_drop]
        congr 1
        omega
      have kpa := kp.new (o := .lst (cutV (ns.map V.int) (some ((place : Int) + 1)) (some ((place : Int) + 1 + (((shp qn).1 : Nat) : Int))))) har
      have kpa' : Keep [] H' (upd H' ar (.lst (cutV (ns.map V.int) (some ((place : Int) + 1)) (some ((place : Int) + 1 + (((shp qn).1 : Nat) : Int)))))) := Keep.refl.new har
      have hara : upd H' ar (.lst (cutV (ns.map V.int) (some ((place : Int) + 1)) (some ((place : Int) + 1 + (((shp qn).1 : Nat) : Int))))) ar = some (.lst (((ns.drop (place + 1)).take (shp qn).1).map V.int)) := by rw [upd_same, ecut]
      obtain ⟨ps, hps, hpsl, hpt⟩ := B.ex
      have hpar : p ≠ ar := ne_of_none hps har
      have hpsa := kpa'.same _ _ hps
      generalize upd H' ar (.lst (cutV (ns.map V.int) (some ((place : Int) + 1)) (some ((place : Int) + 1 + (((shp qn).1 : Nat) : Int))))) = Ha at kpa kpa' hara hpsa ⊢
      refine ⟨fun σ' H2 => ∃ (place2 : Nat) (v6 : Option V), place < place2 ∧ place2 ≤ ns.length ∧ t = ns.drop place2 ∧ σ' = [some (V.ref r), some (.ref p), some (.int place), some (.int qn), some (.int place2), some (.ref ar), v6] ∧ Keep [] H' H2 ∧ Keep [] H H2 ∧
        (xs = [] ∧ H2 ar = some (.lst (((ns.drop (place + 1)).take (shp qn).1).map V.int)) ∨ ∃ (rs : List Int) (ra : Addr), ra ≠ p ∧ H ra = none ∧ xs = [rs] ∧ H2 ar = some (.lst (((ns.drop (place + 1)).take (shp qn).1).map V.int ++ [.ref ra])) ∧ H2 ra = some (.lst (rs.map V.int))), ?_, ?_⟩
      · refine ⟨_, rfl, ta, _, _, _, rfl, rfl, ht.at, atI_nat (get_map hrw_), rw_, _, _, _, rfl, rfl, hrow.at, atI_nat (j := 1) rfl, _, rfl, ?_⟩
        cases hb : (shp qn).2 with
        | false =>
          rw [hb, if_neg Bool.false_ne_true] at hk
          subst hk
          obtain ⟨rfl, rfl⟩ := HM.rows0 hrw
          refine iteF ?_
          refine ⟨place + 1 + (shp qn).1, v6, by omega, by omega, by rw [List.drop_drop], ?_, kpa', kpa, .inl ⟨rfl, hara⟩⟩
          rw [← e2]
          rfl
        | true =>
          rw [hb, if_pos rfl] at hk
          subst hk
          obtain ⟨mm, ss, hms, hm0, hml, rfl, rfl⟩ := HM.rows1 hrw
          obtain ⟨mn, rfl⟩ : ∃ mn : Nat, mm = (mn : Int) := ⟨mm.toNat, by omega⟩
          rw [Int.toNat_natCast] at hml ⊢
          rw [List.drop_drop] at hms
          have hlen2 : (ns.drop (place + 1 + (shp qn).1)).length = ss.length + 1 := by rw [hms]; rfl
          rw [List.length_drop] at hlen2
          have hat : ns[place + 1 + (shp qn).1]? = some ((mn : Nat) : Int) := by
            have := List.getElem?_drop (xs := ns) (i := place + 1 + (shp qn).1) (j := 0)
            rw [hms] at this
            simpa using this.symm
          have ess : ss = ns.drop (place + 1 + (shp qn).1 + 1) := by
            have := congrArg List.tail hms
            rw [List.tail_drop] at this
            exact this.symm
          refine iteT ?_
          refine ⟨_, rfl, _, _, rfl, rfl, ?_⟩
          refine ⟨_, rfl, _, rfl, _, rfl, r, _, _, _, rfl, rfl, kpa.seq hS, (by rw [e2]; exact atI_nat (get_map hat)), _, _, rfl, rfl, ?_⟩
          refine ⟨_, rfl, .inl ⟨rfl, _, SqL.of hara⟩, _, rfl, _, rfl, _, rfl, _, rfl, _, rfl, r, _, rfl, kpa.seq hS, fun ra hra => ?_⟩
          have e3 : (place : Int) + 1 + (((shp qn).1 : Nat) : Int) + 1 = ((place + 1 + (shp qn).1 + 1 : Nat) : Int) := by omega
          have ecut2 : cutV (ns.map V.int) (some ((place : Int) + 1 + (((shp qn).1 : Nat) : Int) + 1)) (some ((place : Int) + 1 + (((shp qn).1 : Nat) : Int) + 1 + ((mn : Nat) : Int))) = (ss.take mn).map V.int := by
            rw [e3, show ((place + 1 + (shp qn).1 + 1 : Nat) : Int) + ((mn : Nat) : Int) = ((place + 1 + (shp qn).1 + 1 + mn : Nat) : Int) by omega, cutV_mid (by omega) (by rw [List.length_map]; omega), ess, List.map_take, List.map_drop]
            congr 1
            omega
          rw [ecut2]
          have nra : ar ≠ ra := ne_of_none hara hra
          have hara2 : upd Ha ra (.lst ((ss.take mn).map V.int)) ar = some (.lst (((ns.drop (place + 1)).take (shp qn).1).map V.int)) := by rw [upd_ne nra]; exact hara
          refine ⟨ar, _, _, rfl, rfl, hara2, (by rw [List.length_map, List.length_take]; exact size_of (by omega)), ?_⟩
          have hra0 : H' ra = none := by
            cases e : H' ra with
            | none => rfl
            | some o => rw [kpa'.same _ _ e] at hra; cases hra
          have hra00 : H ra = none := by
            cases e : H ra with
            | none => rfl
            | some o => rw [kpa.same _ _ e] at hra; cases hra
          have har00 : H ar = none := by
            cases e : H ar with
            | none => rfl
            | some o => rw [kp.same _ _ e] at har; cases har
          refine ⟨place + 1 + (shp qn).1 + 1 + mn, some (V.int ((place : Int) + 1 + (((shp qn).1 : Nat) : Int) + 1)), by omega, by omega, by rw [ess, List.drop_drop], ?_, (kpa'.new hra).new' har, (kpa.new hra).new' har00, .inr ⟨_, ra, (ne_of_none hpsa hra).symm, hra00, rfl, upd_same, by rw [upd_ne (Ne.symm nra), upd_same]⟩⟩
          rw [show ((place + 1 + (shp qn).1 + 1 + mn : Nat) : Int) = (place : Int) + 1 + (((shp qn).1 : Nat) : Int) + 1 + ((mn : Nat) : Int) by omega]
          rfl
      · rintro σ' H2 ⟨place2, v6, hp1, hp2, rfl, rfl, kp12, kp2, hx⟩
        have hps2 := kp12.same _ _ hps
        refine ⟨_, rfl, .inl ⟨rfl, _, SqL.of hps2⟩, _, rfl, _, rfl, (by show 2 ≤ sizeLine; decide), fun tp htp => ?_⟩
        have kpt : Keep [] H2 (upd H2 tp (.tup [V.int qn, .ref ar])) := Keep.refl.new htp
        refine ⟨p, _, _, rfl, rfl, kpt.same _ _ hps2, (by rw [List.length_map, hpsl]; exact size_of (by omega)), ?_⟩
        refine ⟨_, rfl, ?_⟩
        have hp0 : H p = none := hp
        have ntp : p ≠ tp := ne_of_none hps2 htp
        have htp00 : H tp = none := by
          cases e : H tp with
          | none => rfl
          | some o => rw [kp2.same _ _ e] at htp; cases htp
        have har00 : H ar = none := by
          cases e : H ar with
          | none => rfl
          | some o => rw [kp.same _ _ e] at har; cases har
        have pa : PartAt (only H p (upd (upd H2 tp (.tup [V.int qn, .ref ar])) p (.lst (ps.map V.ref ++ [.ref tp])))) tp (((qn : Int) :: (ns.drop (place + 1)).take (shp qn).1) :: xs) := by
          have h1 : only H p (upd (upd H2 tp (.tup [V.int qn, .ref ar])) p (.lst (ps.map V.ref ++ [.ref tp]))) tp = some (.tup [V.int qn, .ref ar]) := by rw [only_new (Ne.symm ntp) htp00, upd_ne (Ne.symm ntp), upd_same]
          have kk : ∀ {b : Addr} {o : HO}, H2 b = some o → b ≠ p → H b = none → only H p (upd (upd H2 tp (.tup [V.int qn, .ref ar])) p (.lst (ps.map V.ref ++ [.ref tp]))) b = some o := fun {b o} e hb hn => by
            rw [only_new hb hn, upd_ne hb]
            exact kpt.same _ _ e
          rcases hx with ⟨rfl, ha⟩ | ⟨rs, ra, nrp, hra00, rfl, ha, hr2⟩
          · exact .num ar h1 (kk ha (Ne.symm hpar) har00)
          · exact .row ar ra h1 (kk ha (Ne.symm hpar) har00) (kk hr2 nrp hra00)
        have kfin : Keep [] H (upd (upd H2 tp (.tup [V.int qn, .ref ar])) p (.lst (ps.map V.ref ++ [.ref tp]))) := (kp2.new htp).new' hp
        have kpart : Keep [p] H' (upd (upd H2 tp (.tup [V.int qn, .ref ar])) p (.lst (ps.map V.ref ++ [.ref tp]))) := ((kp12.mono (by simp)).new htp).set (by simp)
        refine ⟨ns.length - place2, by omega, place2, g', done ++ [((qn : Int) :: (ns.drop (place + 1)).take (shp qn).1) :: xs], rest', some (.int qn), some (.int place2), some (.ref ar), v6, rfl, hp2, rfl, hcs', ?_, ?_, ⟨ps ++ [tp], ?_, ?_, ?_⟩, kfin⟩
        · rw [hrr, List.append_assoc]
          rfl
        · rw [List.length_append]
          show done.length + 1 ≤ place2
          omega
        · rw [upd_same, List.map_append]
          rfl
        · rw [List.length_append, List.length_append, hpsl]
          rfl
        · intro i x c hx hc
          by_cases hi : i < ps.length
          · rw [List.getElem?_append_left hi] at hx
            rw [List.getElem?_append_left (by omega)] at hc
            exact (hpt i x c hx hc).same (only_keep kpart)
          · rw [List.getElem?_append_right (by omega)] at hx hc
            rw [hpsl] at hx
            have e0 : i - done.length = 0 := by
              rcases Nat.eq_zero_or_pos (i - done.length) with h | h
              · exact h
              · rw [List.getElem?_eq_none_iff.mpr (by simp; omega)] at hc
                cases hc
            rw [e0] at hx hc
            cases hx
            cases hc
            exact pa
    · rw [List.length_map] at h1
      have e : place = ns.length := by omega
      subst e
      rw [List.drop_length] at hcs
      have er : rest = [] := by
        cases g with
        | zero => simp [PyFlat.calls] at hcs; exact hcs
        | succ g => simp [PyFlat.calls] at hcs; exact hcs
      subst er
      rw [List.append_nil] at hrr
      subst hrr
      exact ⟨_, rfl, q H' p hp B kp⟩
end
end Hb

set_option Elab.async false
set_option linter.all false
set_option maxRecDepth 100000
set_option maxHeartbeats 2000000
/-! begun, answers -/
namespace HM
/-- a call as it stands in the list -/
def toRaw (q : Nat) (ms : List Nat) (rs : Option (List Nat)) : List (List Int) := ((q :: ms).map Int.ofNat) :: (match rs with
  | none => []
  | some r => [r.map Int.ofNat])
structure GoodRaw (q : Nat) (ms : List Nat) (rs : Option (List Nat)) : Prop where
  lt : q < 19
  nums : ms.length = (Hb.shp q).1
  rows : rs.isSome = (Hb.shp q).2
  few : ∀ r : List Nat, rs = some r → r.length ≤ 5000
theorem to_nats : ∀ {l : List Int}, (∀ x ∈ l, 0 ≤ x) → ∃ ms : List Nat, l = ms.map Int.ofNat
  | [], _ => ⟨[], rfl⟩
  | x :: l, h => by
    obtain ⟨ms, e⟩ := to_nats (l := l) fun y hy => h y (List.mem_cons_of_mem _ hy)
    obtain ⟨n, hn⟩ : ∃ n : Nat, x = (n : Int) := ⟨x.toNat, by have := h x (by simp); omega⟩
    exact ⟨n :: ms, by rw [e, hn]; rfl⟩
theorem good_raw : ∀ (f : Nat) (l : List Int) (raw : List (List (List Int))), PyFlat.calls PyKh332.shape f l = some raw → (∀ x ∈ l, 0 ≤ x) → l.length ≤ 5000 → ∀ c ∈ raw, ∃ q ms rs, GoodRaw q ms rs ∧ c = toRaw q ms rs
  | f, [], raw, h, _, _ => by
    have e : raw = [] := by
      cases f with
      | zero => simp [PyFlat.calls] at h; exact h
      | succ g => simp [PyFlat.calls] at h; exact h
    subst e
    intro c hc
    simp at hc
  | f, p :: r, raw, h, hp, hl => by
    obtain ⟨g, n, k, xs, t, rest, rfl, hs, hn, hr, hc, rfl⟩ := calls_cons h
    obtain ⟨q, rfl, hq, rfl, hk⟩ := Hb.shape_shp hs
    have hpr : ∀ x ∈ r, 0 ≤ x := fun x hx => hp x (List.mem_cons_of_mem _ hx)
    obtain ⟨ms, hms⟩ := to_nats (l := r.take (Hb.shp q).1) fun x hx => hpr x (List.mem_of_mem_take hx)
    have hml : ms.length = (Hb.shp q).1 := by
      have := congrArg List.length hms
      rw [List.length_take, List.length_map] at this
      omega
    rw [List.length_cons] at hl
    have tail : ∀ (x : Int), x ∈ t → x ∈ r := by
      intro x hx
      cases hb : (Hb.shp q).2 with
      | false =>
        rw [hb, if_neg Bool.false_ne_true] at hk
        subst hk
        obtain ⟨_, rfl⟩ := rows0 hr
        exact List.mem_of_mem_drop hx
      | true =>
        rw [hb, if_pos rfl] at hk
        subst hk
        obtain ⟨m, s, e, _, _, _, rfl⟩ := rows1 hr
        exact List.mem_of_mem_drop (by rw [e]; exact List.mem_cons_of_mem _ (List.mem_of_mem_drop hx))
    have tlen : t.length ≤ r.length := by
      cases hb : (Hb.shp q).2 with
      | false =>
        rw [hb, if_neg Bool.false_ne_true] at hk
        subst hk
        obtain ⟨_, rfl⟩ := rows0 hr
        rw [List.length_drop]
        omega
      | true =>
        rw [hb, if_pos rfl] at hk
        subst hk
        obtain ⟨m, s, e, _, _, _, rfl⟩ := rows1 hr
        have := congrArg List.length e
        rw [List.length_drop, List.length_cons] at this
        rw [List.length_drop]
        omega
    have ih := good_raw g t rest hc (fun x hx => hpr x (tail x hx)) (by omega)
    intro c hcm
    rcases List.mem_cons.mp hcm with hcm | hcm
    · subst hcm
      cases hb : (Hb.shp q).2 with
      | false =>
        rw [hb, if_neg Bool.false_ne_true] at hk
        subst hk
        obtain ⟨rfl, _⟩ := rows0 hr
        refine ⟨q, ms, none, ⟨hq, hml, by rw [hb]; rfl, fun r hr => by cases hr⟩, ?_⟩
        rw [hms]
        rfl
      | true =>
        rw [hb, if_pos rfl] at hk
        subst hk
        obtain ⟨m, s, e, _, hm2, rfl, _⟩ := rows1 hr
        obtain ⟨rs, hrs⟩ := to_nats (l := s.take m.toNat) fun x hx => hpr x (List.mem_of_mem_drop (by rw [e]; exact List.mem_cons_of_mem _ (List.mem_of_mem_take hx)))
        refine ⟨q, ms, some rs, ⟨hq, hml, by rw [hb]; rfl, fun r' hr' => ?_⟩, ?_⟩
        · cases hr'
          have h1 := congrArg List.length hrs
          have h2 := congrArg List.length e
          rw [List.length_take, List.length_map] at h1
          rw [List.length_drop, List.length_cons] at h2
          omega
        · rw [hms, hrs]
          rfl
    · exact ih c hcm
termination_by f => f
decreasing_by all_goals omega
/-! ### the machine, call by call -/
abbrev St := Kh332Neutral.S
def after (s : St) (l : List (List (List Int))) : St := l.foldl (fun s c => (Kh332Neutral.step s c).1) s
theorem played_snoc : ∀ (l : List (List (List Int))) (s : St) (c : List (List Int)), PyFlat.played Kh332Neutral.step s (l ++ [c]) = PyFlat.played Kh332Neutral.step s l ++ [(Kh332Neutral.step (after s l) c).2]
  | [], s, c => rfl
  | x :: l, s, c => by
    show (Kh332Neutral.step s x).2 :: PyFlat.played Kh332Neutral.step (Kh332Neutral.step s x).1 (l ++ [c]) = _
    rw [played_snoc l]
    rfl
theorem after_snoc (l : List (List (List Int))) (s : St) (c : List (List Int)) : after s (l ++ [c]) = (Kh332Neutral.step (after s l) c).1 := by
  unfold after
  rw [List.foldl_append]
  rfl
theorem told_snoc (l : List (List Int)) (a : List Int) : PyFlat.told (l ++ [a]) = PyFlat.told l ++ (a.length : Int) :: a := by
  unfold PyFlat.told
  rw [List.flatMap_append]
  simp
theorem told_prefix : ∀ (l l2 : List (List (List Int))) (s : St), (PyFlat.told (PyFlat.played Kh332Neutral.step s l)).length ≤ (PyFlat.told (PyFlat.played Kh332Neutral.step s (l ++ l2))).length
  | [], l2, s => Nat.zero_le _
  | x :: l, l2, s => by
    have ih := told_prefix l l2 (Kh332Neutral.step s x).1
    show (PyFlat.told ((Kh332Neutral.step s x).2 :: PyFlat.played Kh332Neutral.step (Kh332Neutral.step s x).1 l)).length ≤ (PyFlat.told ((Kh332Neutral.step s x).2 :: PyFlat.played Kh332Neutral.step (Kh332Neutral.step s x).1 (l ++ l2))).length
    unfold PyFlat.told at ih ⊢
    rw [List.flatMap_cons, List.flatMap_cons, List.length_append, List.length_append]
    omega
theorem whole_id (c : List (List Int)) : PyKh332.whole c = c := by
  unfold PyKh332.whole
  split <;> rfl
end HM
namespace Hb
open PySem PySem.Spec PyProof.Rows L2
/-- a call by a value: what is called is known where it is called -/
def tCallV (X : Cx) (tf : TE) (t : TA) : TE := fun σ H Q => tf σ H fun v H1 => ∃ (f : Addr) (fd : FuncData) (ps : List Str) (k : Nat) (sp : Sp), v = .ref f ∧ FnOk X.prog X.w X.K X.mg X.base CX0 k f fd ps sp ∧ Room k X.A ∧ PySem.W.keepIn X.K (.ref f) = true ∧ L2.Binds X.K fd ps [] ∧ t σ H1 fun vs H2 => sp vs H2 Q E0
theorem pe_callV {X : Cx} {x : Str} {p pos : Pos} {e : Expr} {es : List Expr} {tf : TE} {t : TA} (hf : PE X (.Name x p) tf) (ha : PA X (e :: es) t)
    (he : starEach (e :: es) X.env = (false, eval e X.env) :: starEach es X.env := by rfl) (hpl : (backTo pos (starEach es X.env)).any (·.1) = false := by rfl) : PE X (.Call (.Name x p) (e :: es) [] pos) (tCallV X tf t) := by
  intro pins s σ H Q I h
  refine wpAny_Call_Name_kw (thn (hf pins s σ H _ I h) fun u s1 ⟨v, H1, I1, r1, f, fd, ps, k, sp, ev, F, hr, hk, hb, q⟩ => ?_)
  subst ev
  obtain rfl : u = Value.ref f := r1
  refine PySem.W.callWith_K (h₀ := X.base) I.ok.mod.kin hk (thn (ha pos pins s1 σ H1 _ I1 q) fun us s2 ⟨vs, H2, I2, r, q2⟩ => ⟨I2.kIn, ?_⟩) he hpl
  exact run_fn (dvs := []) F hr hb .nil pass0 I2 r (by rw [List.append_nil]; exact q2)
/-- the arguments of a call as they lie: S what they are apart from -/
inductive ArgsAt (H : Hp) (S : List Addr) (ar : Addr) (ms : List Nat) : Option (List Nat) → Prop
  | num (h : H ar = some (.lst (ms.map vN))) : ArgsAt H S ar ms none
  | row {r : List Nat} (ra : Addr) (h : H ar = some (.lst (ms.map vN ++ [.ref ra]))) (h2 : H ra = some (.lst (r.map vN))) (h3 : ra ∉ S) : ArgsAt H S ar ms (some r)
def relAsked : Hp → List Addr → List V → Kh332.Call → Prop := fun H S args cl => ∃ (q : Nat) (ar : Addr) (ms : List Nat) (rs : Option (List Nat)), args = [vN q, .ref ar] ∧ 0 < q ∧ HM.GoodRaw q ms rs ∧ ArgsAt H S ar ms rs ∧ cl = Kh332Neutral.callOf1 (HM.toRaw q ms rs)
theorem part_args {H : Hp} {x : Addr} {q : Nat} {ms : List Nat} {rs : Option (List Nat)} (B : PartAt H x (HM.toRaw q ms rs)) (S : List Addr) (hS : ∀ s ∈ S, H s = none) : ∃ ar, H x = some (.tup [vN q, .ref ar]) ∧ ArgsAt H S ar ms rs := by
  have eq : ∀ l : List Nat, (l.map Int.ofNat).map V.int = l.map vN := fun l => by
    rw [List.map_map]
    rfl
  cases rs with
  | none =>
    unfold HM.toRaw at B
    cases B with
    | num ar h1 h2 =>
      rw [eq] at h2
      exact ⟨ar, h1, .num h2⟩
  | some r =>
    unfold HM.toRaw at B
    cases B with
    | row ar ra h1 h2 h3 =>
      rw [eq] at h2 h3
      refine ⟨ar, h1, .row ra h2 h3 fun m => ?_⟩
      rw [hS _ m] at h3
      cases h3
theorem ansV_eq (x : Kh332.Ans) : ansV x = (x.ret :: x.out.map Int.ofNat).map V.int := by
  unfold ansV
  rw [List.map_cons, List.map_map]
  rfl
/-- a change of one list that is not the harvest's -/
theorem Hv.other {c : Cs} {H H' : Hp} {A : Ra} {dco ll tl : Addr} {a : Kh332.Abs} {xs : List V} (Z : Hv c H A dco ll a) (k : Keep [tl] H H') (ht : H tl = some (.lst xs)) (hn : tl ∉ muts A ll) : Hv c H' A dco ll a := by
  have hS : ∀ s ∈ [tl], ∃ xs, H s = some (.lst xs) := fun s hs => by
    rw [List.mem_singleton.mp hs]
    exact ⟨_, ht⟩
  simp only [muts, List.mem_cons, List.not_mem_nil, or_false, not_or] at hn
  obtain ⟨n1, n2, n3, n4, n5, n6⟩ := hn
  exact ⟨Z.ro.lists k hS (by simp [Ne.symm n4]), keep_ins k hS Z.h, ⟨keep_ins k hS Z.co.co, k _ _ Z.co.ll (by simp [Ne.symm n3])⟩, Z.lo.lists k hS (by simp [Ne.symm n5]), Z.lt.lists k hS (by simp [Ne.symm n6]),
    Z.nCO, Z.nCT, Z.nCL, Z.nOT, Z.nOL, Z.nTL, Z.nc, Z.no, Z.kg⟩
section
variable {P : Program} {w : World} {K : PySem.W.Frag} {mg : Str → Option Value} {base : Heap} {c : Cs}
/-! ### begun -/
def spBegun (c : Cs) : Sp := fun vs H Q _ => ∃ (ar : Addr) (w v l u h o k : Nat), vs = [.ref ar] ∧ H ar = some (.lst ([w, v, l, u, h, o, k].map vN)) ∧ (badBegin w v l u h o k → Q .non H) ∧
  (¬ badBegin w v l u h o k → ∀ (H' : Hp) (A : Ra) (dco ll : Addr), Hv c H' A dco ll (begun0 w v l u h o k) → (∀ x ∈ muts A ll, H x = none) → Keep [] H H' → Q (.ref A.h) H')
theorem scBegun : FnScope ["arguments"] ["arguments"] (defScope s_begun) := ⟨rfl, rfl, rfl, by decide +kernel, rfl, by decide +kernel, by decide +kernel⟩
theorem ok_begun (D : Dn K mg "begun" s_begun ["arguments"]) (C1 : Cl P w K mg base "begin" ["well", "speed", "load", "unload", "wash", "opens", "closes"] 5 (spBegin c)) : Cl P w K mg base "begun" ["arguments"] 6 (spBegun c) := by
  refine D.ok scBegun (fun vs H Q E h => ?_) (fun f cdv A outer s H vs Q E hr h => ?_)
  · obtain ⟨ar, w', v, l, u, h, o, k, rfl, _⟩ := h
    rfl
  · obtain ⟨ar, w', v, l, u, h, o, k, rfl, har, q1, q2⟩ := h
    obtain ⟨f1, fd1, G1, b1, m1, k1⟩ := C1
    refine ⟨_, pss_one (ps_ret (pe_call G1 hr (by rfl) m1 k1 b1 .nil pass0 (pa_cons (pe_ix ix_list (pv 0) pe_int (fun _ _ => rfl)) (pa_cons (pe_ix ix_list (pv 0) pe_int (fun _ _ => rfl)) (pa_cons (pe_ix ix_list (pv 0) pe_int (fun _ _ => rfl)) (pa_cons (pe_ix ix_list (pv 0) pe_int (fun _ _ => rfl))
      (pa_cons (pe_ix ix_list (pv 0) pe_int (fun _ _ => rfl)) (pa_cons (pe_ix ix_list (pv 0) pe_int (fun _ _ => rfl)) (pa_cons (pe_ix ix_list (pv 0) pe_int (fun _ _ => rfl)) pa_nil))))))))), ?_⟩
    refine ⟨_, rfl, ar, _, _, _, rfl, rfl, SqL.of har, atI_nat (j := 0) rfl, _, rfl, ar, _, _, _, rfl, rfl, SqL.of har, atI_nat (j := 1) rfl, _, rfl, ar, _, _, _, rfl, rfl, SqL.of har, atI_nat (j := 2) rfl, _, rfl, ar, _, _, _, rfl, rfl, SqL.of har, atI_nat (j := 3) rfl,
      _, rfl, ar, _, _, _, rfl, rfl, SqL.of har, atI_nat (j := 4) rfl, _, rfl, ar, _, _, _, rfl, rfl, SqL.of har, atI_nat (j := 5) rfl, _, rfl, ar, _, _, _, rfl, rfl, SqL.of har, atI_nat (j := 6) rfl, w', v, l, u, h, o, k, rfl, q1, q2⟩
end
end Hb

set_option Elab.async false
set_option linter.all false
set_option maxRecDepth 100000
set_option maxHeartbeats 2000000
namespace Hb
open PySem PySem.Spec PyProof.Rows L2
theorem doing_brought {a a' : Kh332.Abs} {cl : Kh332.Call} {ans : Kh332.Ans} (h : Kh332.doing (some a) cl = (some a', ans)) : a'.brought.length ≤ a.brought.length + 1 := by
  cases cl <;> simp only [Kh332.doing] at h <;> (repeat' split at h) <;> first | (cases h; simp) | (cases h; omega) | (cases h)
theorem not_begun {q : Nat} (h0 : 0 < q) (h1 : q < 19) (ms : List Nat) (rs : Option (List Nat)) : Kh332Neutral.step none (HM.toRaw q ms rs) = (none, [-61]) := by
  match q, h0, h1 with
  | 1, _, _ => rfl
  | 2, _, _ => rfl
  | 3, _, _ => rfl
  | 4, _, _ => rfl
  | 5, _, _ => rfl
  | 6, _, _ => rfl
  | 7, _, _ => rfl
  | 8, _, _ => rfl
  | 9, _, _ => rfl
  | 10, _, _ => rfl
  | 11, _, _ => rfl
  | 12, _, _ => rfl
  | 13, _, _ => rfl
  | 14, _, _ => rfl
  | 15, _, _ => rfl
  | 16, _, _ => rfl
  | 17, _, _ => rfl
  | 18, _, _ => rfl
  | n + 19, _, h => exact absurd h (by omega)
/-- the object, as the loop's name holds it -/
def HvOpt (c : Cs) (H0 H : Hp) (tl : Addr) (i : Nat) (vh : V) (s : Kh332Neutral.S) : Prop :=
  (s = none ∧ vh = .non) ∨ ∃ (A : Ra) (dco ll : Addr) (a : Kh332.Abs), s = some a ∧ vh = .ref A.h ∧ Hv c H A dco ll a ∧ (∀ x ∈ muts A ll, H0 x = none) ∧ tl ∉ muts A ll ∧ a.brought.length ≤ i
theorem HvOpt.other {c : Cs} {H0 H H' : Hp} {tl : Addr} {i : Nat} {vh : V} {s : Kh332Neutral.S} {xs : List V} (Z : HvOpt c H0 H tl i vh s) (k : Keep [tl] H H') (ht : H tl = some (.lst xs)) : HvOpt c H0 H' tl i vh s := by
  rcases Z with ⟨e1, e2⟩ | ⟨A, dco, ll, a, e1, e2, Z, h1, h2, h3⟩
  · exact .inl ⟨e1, e2⟩
  · exact .inr ⟨A, dco, ll, a, e1, e2, Z.other k ht h2, h1, h2, h3⟩
theorem HvOpt.same {c : Cs} {H0 H H' : Hp} {tl : Addr} {i j : Nat} {vh : V} {s : Kh332Neutral.S} (Z : HvOpt c H0 H tl i vh s) (k : Keep [] H H') (hij : i ≤ j) : HvOpt c H0 H' tl j vh s := by
  rcases Z with ⟨e1, e2⟩ | ⟨A, dco, ll, a, e1, e2, Z, h1, h2, h3⟩
  · exact .inl ⟨e1, e2⟩
  · exact .inr ⟨A, dco, ll, a, e1, e2, Z.same k, h1, h2, Nat.le_trans h3 hij⟩
section
variable {P : Program} {w : World} {K : PySem.W.Frag} {mg : Str → Option Value} {base : Heap} {c : Cs}
def spAnswers (K : PySem.W.Frag) : Sp := fun vs H Q _ => ∃ (r : Addr) (ns : List Int) (raw : List (List (List Int))), vs = [.ref r] ∧ SqL K H r (ns.map V.int) ∧ ns.length ≤ 1100 ∧ (∀ x ∈ ns, 0 ≤ x) ∧ PyFlat.calls PyKh332.shape ns.length ns = some raw ∧
  (PyFlat.told (PyFlat.played Kh332Neutral.step Kh332Neutral.start raw)).length ≤ 10000000 ∧
  ∀ (H' : Hp) (p : Addr), H' p = some (.lst ((PyFlat.told (PyFlat.played Kh332Neutral.step Kh332Neutral.start raw)).map V.int)) → Q (.ref p) H'
theorem scAnswers : FnScope ["calls", "told", "harvest", "number", "arguments", "made", "answer"] ["calls"] (defScope s_answers) := ⟨rfl, rfl, rfl, by decide +kernel, rfl, by decide +kernel, by decide +kernel⟩
theorem raw_len : ∀ (f : Nat) (l : List Int) (raw : List (List (List Int))), PyFlat.calls PyKh332.shape f l = some raw → raw.length ≤ f
  | f, [], raw, h => by
    have e : raw = [] := by
      cases f with
      | zero => simp [PyFlat.calls] at h; exact h
      | succ g => simp [PyFlat.calls] at h; exact h
    subst e
    exact Nat.zero_le _
  | f, p :: r, raw, h => by
    obtain ⟨g, n, k, xs, t, rest, rfl, hs, hn, hr, hc, rfl⟩ := HM.calls_cons h
    have := raw_len g t rest hc
    rw [List.length_cons]
    omega
termination_by f => f
decreasing_by all_goals omega
theorem ok_answers {ka : Nat} {fa : Addr} {fda : FuncData} (hka : 6 ≤ ka) (T : Tx K mg c) (F : Fun K "answers" "answers" s_answers fa fda) (C1 : Cl P w K mg base "parted" ["calls"] 1 (spParted K)) (C2 : Cl P w K mg base "begun" ["arguments"] 6 (spBegun c))
    (C3 : Cl P w K mg base "asked" ["harvest", "number", "arguments"] ka (spC c relAsked)) : FnOk P w K mg base CX0 (ka + 1) fa fda ["calls"] (spAnswers K) := by
  refine F.ok scAnswers (fun vs H Q E h => ?_) (fun cdv A outer s H vs Q E hr h => ?_)
  · obtain ⟨r, ns, raw, rfl, _⟩ := h
    rfl
  · obtain ⟨r, ns, raw, rfl, hS, hlen, hnn, hraw, hbig, q⟩ := h
    obtain ⟨f1, fd1, G1, b1, m1, k1⟩ := C1
    obtain ⟨f2, fd2, G2, b2, m2, k2⟩ := C2
    obtain ⟨f3, fd3, G3, b3, m3, k3⟩ := C3
    have hr1 : Room 1 _ := hr.mono (by omega)
    have hr6 : Room 6 _ := hr.mono hka
    have nd := scAnswers.nd
    refine ⟨_, pss_cons (ps_set (i := 1) nd rfl (Or.inl rfl) (pe_lst pa_nil))
      (pss_cons (ps_set (i := 2) nd rfl (Or.inl rfl) pe_non)
      (pss_cons (ps_for PassesOwn.never rfl (pi_list (pe_call G1 hr1 (by rfl) m1 k1 b1 .nil pass0 (pa_cons (pv 0) pa_nil))) (pg_tup rfl (pgs_cons (pg_name (i := 3) nd rfl (Or.inl rfl)) (pgs_cons (pg_name (i := 4) nd rfl (Or.inl rfl)) pgs_nil)))
        (pss_cons (ps_cut (ps_if (pt_cmpR op_eq (pv 3) (pg_int T.gBegin) (nomark _))
          (pss_cons (ps_set (i := 5) nd rfl (Or.inl rfl) (pe_call G2 hr6 (by rfl) m2 k2 b2 .nil pass0 (pa_cons (pv 4) pa_nil)))
          (pss_one (ps_if (pt_cmpR op_isN (pv 5) pe_non (nomark _)) (pss_one (ps_set (i := 6) nd rfl (Or.inl rfl) (pe_lst (pa_cons (pg_int T.rNotTold) pa_nil)))) (pss_cons (ps_set (i := 2) nd rfl (Or.inl rfl) (pv 5)) (pss_one (ps_set (i := 6) nd rfl (Or.inl rfl) (pe_lst (pa_cons pe_int pa_nil))))))))
          (pss_one (ps_if (pt_cmpR op_isN (pv 2) pe_non (nomark _)) (pss_one (ps_set (i := 6) nd rfl (Or.inl rfl) (pe_lst (pa_cons (pg_int T.rNotBegun) pa_nil)))) (pss_one (ps_set (i := 6) nd rfl (Or.inl rfl) (pe_call G3 hr (by rfl) m3 k3 b3 .nil pass0 (pa_cons (pv 2) (pa_cons (pv 3) (pa_cons (pv 4) pa_nil))))))))))
        (pss_cons (ps_expr (pe_bm PySem.F.plainAttrs_list PySem.F.slot_list_append PySem.F.type_list_append mt_append (pv 1) (pa_cons (pe_callB call_len_seq (by rfl) T.len (by rfl) (pa_cons (pv 6) pa_nil)) pa_nil)))
        (pss_one (ps_expr (pe_bm PySem.F.plainAttrs_list PySem.F.slot_list_extend PySem.F.type_list_extend mt_extend (pv 1) (pa_cons (pv 6) pa_nil)))))))
      (pss_one (ps_ret (pv 1))))), ?_⟩
    refine ⟨Nat.zero_le _, fun tl htl => ?_⟩
    have kp0 : Keep [] H (upd H tl (.lst [])) := Keep.refl.new htl
    refine ⟨_, rfl, r, ns, raw, rfl, kp0.seq hS, hlen, hraw, fun H0 pp hpp B kp1 => ?_⟩
    have hgood := HM.good_raw _ _ _ hraw hnn (by omega)
    have hrl := raw_len _ _ _ hraw
    obtain ⟨ps, hps, hpsl, hpt⟩ := B.ex
    have htl0 : H0 tl = some (.lst []) := kp1.same _ _ upd_same
    have ntp : tl ≠ pp := ne_of_none (show upd H tl (.lst []) tl = some _ from upd_same) hpp
    -- the parts, apart from the told list
    have hptl : ∀ (i : Nat) (x : Addr) (c : List (List Int)), ps[i]? = some x → raw[i]? = some c → PartAt (hide H0 tl) x c := fun i x c hx hc => (hpt i x c hx hc).same fun b o h _ => by
        obtain ⟨h1, h2, h3⟩ := only_some h
        have hb : b ≠ tl := fun e => by
          rw [e, upd_same] at h2
          cases h2
        rw [hide_ne hb]
        exact h3
    refine ⟨pp, rfl, ⟨_, SqL.of hps⟩, for_list (K := K) (a := pp) (xs := ps.map V.ref) (fun i σ H' => ∃ (vh : V) (v3 v4 v5 v6 : Option V), σ = [some (V.ref r), some (.ref tl), some vh, v3, v4, v5, v6] ∧
        H' tl = some (.lst ((PyFlat.told (PyFlat.played Kh332Neutral.step Kh332Neutral.start (raw.take i))).map V.int)) ∧ Keep [tl] H0 H' ∧ HvOpt c H0 H' tl i vh (HM.after Kh332Neutral.start (raw.take i)))
      ⟨.non, none, none, none, none, rfl, htl0, Keep.refl, .inl ⟨rfl, rfl⟩⟩ (fun i σ H' _ ⟨_, _, _, _, _, _, _, k, _⟩ => SqL.of (k _ _ hps (by simp [Ne.symm ntp]))) ?_ ?_⟩
    · rintro i y σ H' hi ⟨vh, v3, v4, v5, v6, rfl, htl', kp, ZZ⟩
      obtain ⟨x, hx, rfl⟩ := map_at hi
      have hil : i < raw.length := by
        have := (List.getElem?_eq_some_iff.mp hx).1
        omega
      obtain ⟨rc, hrc⟩ : ∃ rc, raw[i]? = some rc := ⟨_, List.getElem?_eq_getElem hil⟩
      obtain ⟨qn, ms, rs, GR, rfl⟩ := hgood rc (List.mem_of_getElem? hrc)
      have et := HM.take_snoc hrc
      have kh : Keep [] (hide H0 tl) H' := fun b o h _ => by
        obtain ⟨h1, h2⟩ := hide_some h
        exact kp _ _ h2 (by simp [h1])
      have PA := hptl i x _ hx hrc
      generalize hst : HM.after Kh332Neutral.start (raw.take i) = st at *
      have eafter : HM.after Kh332Neutral.start (raw.take (i + 1)) = (Kh332Neutral.step st (HM.toRaw qn ms rs)).1 := by rw [et, HM.after_snoc, hst]
      have etold : PyFlat.told (PyFlat.played Kh332Neutral.step Kh332Neutral.start (raw.take (i + 1))) = PyFlat.told (PyFlat.played Kh332Neutral.step Kh332Neutral.start (raw.take i)) ++ (((Kh332Neutral.step st (HM.toRaw qn ms rs)).2.length : Nat) : Int) :: (Kh332Neutral.step st (HM.toRaw qn ms rs)).2 := by
        rw [et, HM.played_snoc, HM.told_snoc, hst]
      have hfit : (PyFlat.told (PyFlat.played Kh332Neutral.step Kh332Neutral.start (raw.take (i + 1)))).length ≤ 10000000 := by
        refine Nat.le_trans ?_ hbig
        have := HM.told_prefix (raw.take (i + 1)) (raw.drop (i + 1)) Kh332Neutral.start
        rw [List.take_append_drop] at this
        exact this
      obtain ⟨ar, hxt, _⟩ := part_args (q := qn) PA [] (by simp)
      have hxt' := kh.same _ _ hxt
      refine ⟨x, _, rfl, SqT.of hxt', rfl, _, _, rfl, _, _, rfl, rfl, ?_⟩
      refine ⟨fun σ' H2 => ∃ (vh' : V) (v5 : Option V) (pa : Addr), σ' = [some (V.ref r), some (.ref tl), some vh', some (vN qn), some (.ref ar), v5, some (.ref pa)] ∧ H2 pa = some (.lst ((Kh332Neutral.step st (HM.toRaw qn ms rs)).2.map V.int)) ∧ pa ≠ tl ∧
        H2 tl = some (.lst ((PyFlat.told (PyFlat.played Kh332Neutral.step Kh332Neutral.start (raw.take i))).map V.int)) ∧ Keep [tl] H0 H2 ∧ HvOpt c H0 H2 tl (i + 1) vh' (Kh332Neutral.step st (HM.toRaw qn ms rs)).1, ?_, ?_⟩
      · refine ⟨_, rfl, rfl, _, rfl, ?_⟩
        refine if_d (fun h0 => ?_) (fun h0 => ?_)
        · -- begin
          have hq0 : qn = 0 := by
            have := V.int.inj h0
            omega
          subst hq0
          obtain ⟨w', v, l, u, h, o, k, rfl⟩ : ∃ w v l u h o k, ms = [w, v, l, u, h, o, k] := by
            have := GR.nums
            match ms, this with
            | [a, b, c, d, e, f, g], _ => exact ⟨a, b, c, d, e, f, g, rfl⟩
          have hrs : rs = none := by
            have := GR.rows
            cases rs with
            | none => rfl
            | some _ => cases this
          subst hrs
          obtain ⟨ar2, hxt2, AA⟩ := part_args (q := 0) PA [] (by simp)
          have ear : ar2 = ar := by
            have := hxt2.symm.trans hxt
            have := HO.tup.inj (Option.some.inj this)
            cases this
            rfl
          subst ear
          cases AA with
          | num hAA =>
            have hAA' := kh.same _ _ hAA
            refine ⟨_, rfl, ar2, w', v, l, u, h, o, k, rfl, hAA', fun hbad => ?_, fun hgood2 H2 A dco ll Z hmu kp2 => ?_⟩
            · have estep : Kh332Neutral.step st (HM.toRaw 0 [w', v, l, u, h, o, k] none) = (st, [-22]) := by
                show (let r := Kh332.doing st (.begin_ w' v l u h o k); (r.1, r.2.ret :: r.2.out.map Int.ofNat)) = _
                unfold Kh332.doing
                dsimp only
                unfold badBegin at hbad
                rw [if_pos hbad]
                rfl
              refine ⟨_, rfl, rfl, _, rfl, iteT ?_⟩
              refine ⟨by show 1 ≤ sizeLine; decide, fun pa hpa => ?_⟩
              have kpa : Keep [] H' (upd H' pa (.lst [V.int (-22)])) := Keep.refl.new hpa
              rw [estep]
              exact ⟨vh, _, pa, rfl, upd_same, (ne_of_none htl' hpa).symm, kpa.same _ _ htl', kp.trans (kpa.mono (by simp)), ZZ.same kpa (by omega)⟩
            · have estep : Kh332Neutral.step st (HM.toRaw 0 [w', v, l, u, h, o, k] none) = (some (begun0 w' v l u h o k), [0]) := by
                show (let r := Kh332.doing st (.begin_ w' v l u h o k); (r.1, r.2.ret :: r.2.out.map Int.ofNat)) = _
                unfold Kh332.doing
                dsimp only
                unfold badBegin at hgood2
                rw [if_neg hgood2]
                rfl
              refine ⟨_, rfl, rfl, _, rfl, iteF ?_⟩
              refine ⟨_, rfl, by show 1 ≤ sizeLine; decide, fun pa hpa => ?_⟩
              have kpa : Keep [] H2 (upd H2 pa (.lst [V.int 0])) := Keep.refl.new hpa
              have htl2 := kp2.same _ _ htl'
              rw [estep]
              refine ⟨_, _, pa, rfl, upd_same, (ne_of_none htl2 hpa).symm, kpa.same _ _ htl2, (kp.trans (kp2.mono (by simp))).trans (kpa.mono (by simp)), .inr ⟨A, dco, ll, _, rfl, rfl, Z.same kpa, fun y hy => ?_, fun hm => ?_, by simp [begun0]⟩⟩
              · cases e : H0 y with
                | none => rfl
                | some o2 =>
                  by_cases ey : y = tl
                  · subst ey
                    rw [hmu y hy] at htl'
                    cases htl'
                  · have := hmu y hy
                    rw [kp _ _ e (by simp [ey])] at this
                    cases this
              · rw [hmu tl hm] at htl'
                cases htl'
        · have hqp : 0 < qn := by
            rcases Nat.eq_zero_or_pos qn with e | e
            · subst e
              exact absurd rfl h0
            · exact e
          refine ⟨_, rfl, rfl, _, rfl, ?_⟩
          rcases ZZ with ⟨rfl, rfl⟩ | ⟨A, dco, ll, a, rfl, rfl, Z, hmu, htm, hbl⟩
          · -- not begun
            refine iteT ?_
            have estep : Kh332Neutral.step none (HM.toRaw qn ms rs) = (none, [-61]) := not_begun hqp GR.lt ms rs
            refine ⟨by show 1 ≤ sizeLine; decide, fun pa hpa => ?_⟩
            have kpa : Keep [] H' (upd H' pa (.lst [V.int (-61)])) := Keep.refl.new hpa
            rw [estep]
            exact ⟨.non, _, pa, rfl, upd_same, (ne_of_none htl' hpa).symm, kpa.same _ _ htl', kp.trans (kpa.mono (by simp)), .inl ⟨rfl, rfl⟩⟩
          · refine iteF ?_
            have hmh : ∀ s ∈ muts A ll, hide H0 tl s = none := fun s hs => by
              rw [hide_ne (show s ≠ tl from fun e => htm (by rw [← e]; exact hs))]
              exact hmu s hs
            obtain ⟨ar2, hxt2, AA⟩ := part_args (q := qn) PA (muts A ll) hmh
            have ear : ar2 = ar := by
              have := hxt2.symm.trans hxt
              have := HO.tup.inj (Option.some.inj this)
              cases this
              rfl
            subst ear
            have AA' : ArgsAt H' (muts A ll) ar2 ms rs := by
              cases AA with
              | num h => exact .num (kh.same _ _ h)
              | row ra h h2 h3 => exact .row ra (kh.same _ _ h) (kh.same _ _ h2) h3
            refine ⟨_, rfl, _, rfl, _, rfl, A, dco, ll, a, _, _, rfl, ⟨qn, ar2, ms, rs, rfl, hqp, GR, AA', rfl⟩, Z, by omega, fun H2 pa cs a' ans hdo Z2 hpa hpa2 kp2 => ?_⟩
            have estep : Kh332Neutral.step (some a) (HM.toRaw qn ms rs) = (some a', ans.ret :: ans.out.map Int.ofNat) := by
              unfold Kh332Neutral.step
              rw [hdo]
            rw [estep]
            refine ⟨_, _, pa, rfl, ?_, (ne_of_none htl' hpa).symm, kp2 _ _ htl' htm, ?_, .inr ⟨{ A with cs := cs }, dco, ll, a', rfl, rfl, Z2, hmu, htm, ?_⟩⟩
            · rw [hpa2, ansV_eq]
            · intro b o e hb
              refine kp2 _ _ (kp _ _ e hb) fun hm => ?_
              rw [hmu _ hm] at e
              cases e
            · have := doing_brought hdo
              omega
      · rintro σ' H2 ⟨vh', v5', pa, rfl, hpa, npt, htl2, kp2, ZZ2⟩
        rw [eafter, etold]
        rw [etold, List.length_append, List.length_cons] at hfit
        generalize (Kh332Neutral.step st (HM.toRaw qn ms rs)).2 = an at *
        generalize (PyFlat.told (PyFlat.played Kh332Neutral.step Kh332Neutral.start (raw.take i))) = tt at *
        refine ⟨_, rfl, .inl ⟨rfl, _, SqL.of htl2⟩, _, rfl, pa, _, rfl, .inl (SqL.of hpa), tl, _, _, rfl, rfl, htl2, (by rw [List.length_map]; exact Nat.lt_of_le_of_lt (m := 10000000) (by omega) (by decide)), ?_⟩
        have hpa3 : upd H2 tl (.lst (tt.map V.int ++ [V.int ((an.map V.int).length : Nat)])) pa = some (.lst (an.map V.int)) := by
          rw [upd_ne npt]
          exact hpa
        refine ⟨_, rfl, .inl ⟨rfl, _, SqL.of upd_same⟩, _, rfl, tl, pa, _, _, rfl, rfl, upd_same, hpa3, (by rw [List.length_append, List.length_map, List.length_map]; exact Nat.le_of_lt (Nat.lt_of_le_of_lt (m := 10000000) (by show tt.length + 1 + an.length ≤ _; omega) (by decide))), ?_⟩
        rw [upd_upd]
        refine ⟨vh', _, _, _, _, rfl, ?_, kp2.set (by simp), ZZ2.other (Keep.refl.set (by simp)) htl2⟩
        rw [upd_same, List.map_append, List.length_map, List.append_assoc]
        rfl
    · rintro σ H' ⟨vh, v3, v4, v5, v6, rfl, htl', kp, ZZ⟩
      rw [List.length_map, hpsl, List.take_length] at htl'
      exact ⟨_, rfl, q _ tl htl'⟩
end
end Hb

set_option Elab.async false
set_option linter.all false
set_option maxRecDepth 100000
set_option maxHeartbeats 2000000
/-! end_by, filled_at, hours_late -/
namespace Hb
open PySem PySem.Spec PyProof.Rows L2
theorem prs_at {H : Hp} {d : List (Nat × Nat)} {ps : List Addr} (h2 : ps.length = d.length) (h3 : ∀ (i : Nat) (x : Addr) (e : Nat × Nat), ps[i]? = some x → d[i]? = some e → H x = some (.tup [.int e.1, .int e.2])) {i : Nat} {x : Addr} (hx : ps[i]? = some x) :
    ∃ e, d[i]? = some e ∧ H x = some (.tup [.int e.1, .int e.2]) := by
  have hi : i < d.length := by
    have := (List.getElem?_eq_some_iff.mp hx).1
    omega
  exact ⟨_, List.getElem?_eq_getElem hi, h3 i x _ hx (List.getElem?_eq_getElem hi)⟩
/-- for a, b in a list of pairs -/
theorem gPair {K : PySem.W.Frag} {H : Hp} {x : Addr} {u v : V} {i j : Nat} {σ : L2.St} {R : L2.St → Hp → Prop} (h : H x = some (.tup [u, v])) (q : R ((σ.set i (some u)).set j (some v)) H) : gTup K 2 (gCons (gName i) (gCons (gName j) gNil)) (.ref x) σ H R :=
  ⟨x, _, rfl, SqT.of h, rfl, _, _, rfl, _, _, rfl, rfl, q⟩
section
variable {P : Program} {w : World} {K : PySem.W.Frag} {mg : Str → Option Value} {base : Heap} {c : Cs}
def spEndBy : Sp := fun vs H Q _ => ∃ (p : Addr) (d : List (Nat × Nat)) (n : Nat), vs = [.ref p, vN n] ∧ Prs H p d ∧ Q (zV (Kh332.byWhen n 0 d)) H
theorem scEndBy : FnScope ["trips", "kg", "in_all", "end", "brought"] ["trips", "kg"] (defScope s_end_by) := ⟨rfl, rfl, rfl, by decide +kernel, rfl, by decide +kernel, by decide +kernel⟩
theorem ok_endBy (D : Dn K mg "end_by" s_end_by ["trips", "kg"]) : Cl P w K mg base "end_by" ["trips", "kg"] 1 spEndBy := by
  refine D.ok scEndBy (fun vs H Q E h => ?_) (fun f cdv A outer s H vs Q E hr h => ?_)
  · obtain ⟨p, d, n, rfl, _⟩ := h
    rfl
  · obtain ⟨p, d, n, rfl, B, q⟩ := h
    have nd := scEndBy.nd
    refine ⟨_, pss_cons (ps_set (i := 2) nd rfl (Or.inl rfl) pe_int)
      (pss_cons (ps_for PassesOwn.never rfl (pi_list (pv 0)) (pg_tup rfl (pgs_cons (pg_name (i := 3) nd rfl (Or.inl rfl)) (pgs_cons (pg_name (i := 4) nd rfl (Or.inl rfl)) pgs_nil)))
        (pss_cons (ps_aug (i := 2) nd rfl (Or.inl rfl) (pv 4) ip_add) (pss_one (ps_if (pt_cmpR op_ge (pv 2) (pv 1) (nomark _)) (pss_one (ps_ret (pv 3))) pss_nil))))
      (pss_one (ps_ret pe_non))), ?_⟩
    obtain ⟨ps, hps, hpl, hpt⟩ := B.ex
    refine ⟨_, rfl, p, rfl, ⟨_, SqL.of hps⟩, for_list (K := K) (a := p) (xs := ps.map V.ref) (fun i σ H' => H' = H ∧ ∃ (v3 v4 : Option V) (s : Nat), σ = [some (.ref p), some (vN n), some (vN s), v3, v4] ∧ Kh332.byWhen n 0 d = Kh332.byWhen n s (d.drop i))
      ⟨rfl, none, none, 0, rfl, rfl⟩ (fun i σ H' _ h => h.1 ▸ SqL.of hps) ?_ ?_⟩
    · rintro i y σ H' hi ⟨rfl, v3, v4, s, rfl, hb⟩
      obtain ⟨x, hx, rfl⟩ := map_at hi
      obtain ⟨e, he, hxe⟩ := prs_at hpl hpt hx
      refine gPair hxe ?_
      refine rV rfl (rV rfl (rI2 ?_))
      refine rV rfl (rV rfl (rI2 (rB ?_)))
      rw [HM.byWhen_go he] at hb
      refine if_d (fun h1 => ?_) (fun h1 => ?_)
      · have h1 : (n : Int) ≤ (s : Int) + (e.2 : Int) := h1
        rw [if_pos (by omega)] at hb
        rw [hb] at q
        exact rV rfl q
      · have h1 : ¬ (n : Int) ≤ (s : Int) + (e.2 : Int) := h1
        rw [if_neg (by omega)] at hb
        exact ⟨rfl, _, _, s + e.2, rfl, hb⟩
    · rintro σ H' ⟨rfl, v3, v4, s, rfl, hb⟩
      rw [List.length_map, hpl, List.drop_length] at hb
      rw [hb] at q
      exact q
/-- of each order when it is filled -/
def spFilledAt : Sp := fun vs H Q _ => ∃ (po pt : Addr) (os : List Kh332.Order) (d : List (Nat × Nat)), vs = [.ref po, .ref pt] ∧ Prs H po (os.map fun o => (o.kg, o.due)) ∧ Prs H pt d ∧ os.length ≤ 5 ∧
  ∀ (H' : Hp) (p : Addr), H p = none → H' p = some (.lst ((HM.fills os d).map zV)) → Keep [] H H' → Q (.ref p) H'
theorem scFilledAt : FnScope ["orders", "trips", "ends", "asked_for", "kg", "due"] ["orders", "trips"] (defScope s_filled_at) := ⟨rfl, rfl, rfl, by decide +kernel, rfl, by decide +kernel, by decide +kernel⟩
theorem ok_filledAt (D : Dn K mg "filled_at" s_filled_at ["orders", "trips"]) (C1 : Cl P w K mg base "end_by" ["trips", "kg"] 1 spEndBy) : Cl P w K mg base "filled_at" ["orders", "trips"] 2 spFilledAt := by
  refine D.ok scFilledAt (fun vs H Q E h => ?_) (fun f cdv A outer s H vs Q E hr h => ?_)
  · obtain ⟨po, pt, os, d, rfl, _⟩ := h
    rfl
  · obtain ⟨po, pt, os, d, rfl, B, B2, h5, q⟩ := h
    obtain ⟨f1, fd1, G1, b1, m1, k1⟩ := C1
    have nd := scFilledAt.nd
    refine ⟨_, pss_cons (ps_set (i := 2) nd rfl (Or.inl rfl) (pe_lst pa_nil)) (pss_cons (ps_set (i := 3) nd rfl (Or.inl rfl) pe_int)
      (pss_cons (ps_for PassesOwn.never rfl (pi_list (pv 0)) (pg_tup rfl (pgs_cons (pg_name (i := 4) nd rfl (Or.inl rfl)) (pgs_cons (pg_name (i := 5) nd rfl (Or.inl rfl)) pgs_nil)))
        (pss_cons (ps_aug (i := 3) nd rfl (Or.inl rfl) (pv 4) ip_add) (pss_one (ps_expr (pe_bm PySem.F.plainAttrs_list PySem.F.slot_list_append PySem.F.type_list_append mt_append (pv 2)
          (pa_cons (pe_call G1 hr (by rfl) m1 k1 b1 .nil pass0 (pa_cons (pv 1) (pa_cons (pv 3) pa_nil))) pa_nil))))))
      (pss_one (ps_ret (pv 2))))), ?_⟩
    obtain ⟨ps, hps, hpl, hpt⟩ := B.ex
    refine ⟨Nat.zero_le _, fun p hp => ?_⟩
    have hps1 : upd H p (.lst []) po = some (.lst (ps.map V.ref)) := by
      rw [upd_ne (ne_of_none hps hp)]
      exact hps
    refine ⟨_, rfl, po, rfl, ⟨_, SqL.of hps1⟩, for_list (K := K) (a := po) (xs := ps.map V.ref) (fun i σ H' => ∃ (v4 v5 : Option V), σ = [some (.ref po), some (.ref pt), some (.ref p), some (vN (HM.kgs (os.take i))), v4, v5] ∧
        H' p = some (.lst (((HM.fills os d).take i).map zV)) ∧ Keep [] H H') ⟨none, none, rfl, upd_same, Keep.refl.new hp⟩ (fun i σ H' _ h => ?_) ?_ ?_⟩
    · obtain ⟨_, _, _, _, k⟩ := h
      exact SqL.of (k.same _ _ hps)
    · rintro i y σ H' hi ⟨v4, v5, rfl, hp', kp⟩
      obtain ⟨x, hx, rfl⟩ := map_at hi
      obtain ⟨e, he, hxe⟩ := prs_at hpl hpt hx
      obtain ⟨o, ho, rfl⟩ : ∃ o, os[i]? = some o ∧ e = (o.kg, o.due) := by
        rw [List.getElem?_map] at he
        cases eo : os[i]? with
        | none =>
          rw [eo] at he
          cases he
        | some o =>
          rw [eo] at he
          exact ⟨o, rfl, (Option.some.inj he).symm⟩
      refine gPair (kp.same _ _ hxe) ?_
      refine rV rfl (rV rfl (rI2 ?_))
      refine rV rfl ⟨.inl ⟨rfl, _, SqL.of hp'⟩, rV rfl (rV rfl ⟨pt, d, HM.kgs (os.take i) + o.kg, rfl, B2.same kp, p, _, _, rfl, rfl, hp', ?_, ?_⟩)⟩
      · rw [List.length_map, List.length_take, HM.fills_len]
        exact size_of (by omega)
      · refine ⟨some (vN o.kg), some (vN o.due), ?_, ?_, kp.new' hp⟩
        · rw [HM.kgs_snoc ho]
          rfl
        · rw [upd_same, HM.take_snoc (HM.fills_at (d := d) ho), List.map_append, HM.kgs_snoc ho]
          rfl
    · rintro σ H' ⟨v4, v5, rfl, hp', kp⟩
      refine rV rfl (q H' p hp ?_ kp)
      rw [hp', List.take_of_length_le]
      rw [HM.fills_len, List.length_map, hpl, List.length_map]
      exact Nat.le_refl _
theorem for_zip {K : PySem.W.Frag} {a b : Addr} {xs ys : List V} {g : TG} {tb : TS} {D : Ends} {σ : L2.St} {H : Hp} (Pv : Nat → L2.St → Hp → Prop) (he : xs.length = ys.length) (h0 : Pv 0 σ H) (hl : ∀ i σ H, i ≤ xs.length → Pv i σ H → SqL K H a xs ∧ SqL K H b ys)
    (hs : ∀ i x y σ H T, xs[i]? = some x → ys[i]? = some y → Pv i σ H → H T = none → g (.ref T) σ (upd H T (.tup [x, y])) fun σ2 H2 => tb { D with nx := Pv (i + 1), ct := Pv (i + 1), bk := D.nx } σ2 H2) (hd : ∀ σ H, Pv xs.length σ H → D.nx σ H) :
    ∃ W : Nat → Nat → L2.St → Hp → Prop, (∃ m, W 0 m σ H) ∧ ∀ i m σ H, W i m σ H →
      ((Itz K a b).stop i H ∧ D.nx σ H) ∨ ((Itz K a b).go i H ∧ ∃ N : L2.St → Hp → Prop, (∀ σ' H', N σ' H' → ∃ m', m' < m ∧ W (i + 1) m' σ' H') ∧ ∀ x H', (Itz K a b).yld i H x H' → g x σ H' fun σ2 H2 => tb { D with nx := N, ct := N, bk := D.nx } σ2 H2) := by
  refine ⟨fun i m σ H => m = xs.length - i ∧ i ≤ xs.length ∧ Pv i σ H, ⟨xs.length, by simp, Nat.zero_le _, h0⟩, ?_⟩
  rintro i m σ H ⟨rfl, hi, p⟩
  obtain ⟨q1, q2⟩ := hl i σ H hi p
  by_cases hlt : i < xs.length
  · refine .inr ⟨⟨xs, ys, xs[i], ys[i], q1, q2, by simp [hlt], by simp⟩, Pv (i + 1), fun σ' H' p' => ⟨xs.length - (i + 1), by omega, rfl, hlt, p'⟩, fun x H' y => ?_⟩
    obtain ⟨T, v, u, e1, e2, e3, y1, y2⟩ := y
    subst e1 e3
    exact hs i v u σ H T (y1 xs q1) (y2 ys q2) p e2
  · have e : i = xs.length := by omega
    subst e
    exact .inl ⟨⟨xs, ys, q1, q2, .inl (Nat.le_refl _)⟩, hd σ H p⟩
theorem max_late (e due : Nat) : (if (0 : Int) > (e : Int) - (due : Int) then (0 : Int) else (e : Int) - (due : Int)) = ((e - due : Nat) : Int) := by
  split <;> omega
def spHoursLate : Sp := fun vs H Q _ => ∃ (po pt : Addr) (os : List Kh332.Order) (d : List (Nat × Nat)), vs = [.ref po, .ref pt] ∧ Prs H po (os.map fun o => (o.kg, o.due)) ∧ Prs H pt d ∧ os.length ≤ 5 ∧
  ∀ H', Keep [] H H' → Q (vN (HM.lates os d).sum) H'
theorem scHoursLate : FnScope ["orders", "trips", "hours", "dues", "due", "end", "kg"] ["orders", "trips"] (defScope s_hours_late) := ⟨rfl, rfl, rfl, by decide +kernel, rfl, by decide +kernel, by decide +kernel⟩
theorem ok_hoursLate (T : Tx K mg c) (D : Dn K mg "hours_late" s_hours_late ["orders", "trips"]) (C1 : Cl P w K mg base "filled_at" ["orders", "trips"] 2 spFilledAt) : Cl P w K mg base "hours_late" ["orders", "trips"] 3 spHoursLate := by
  refine D.ok scHoursLate (fun vs H Q E h => ?_) (fun f cdv A outer s H vs Q E hr h => ?_)
  · obtain ⟨po, pt, os, d, rfl, _⟩ := h
    rfl
  · obtain ⟨po, pt, os, d, rfl, B, B2, h5, q⟩ := h
    obtain ⟨f1, fd1, G1, b1, m1, k1⟩ := C1
    have nd := scHoursLate.nd
    refine ⟨_, pss_cons (ps_set (i := 2) nd rfl (Or.inl rfl) pe_int)
      (pss_cons (ps_setLc (i := 3) (g := gTup K 2 (gCons (gName 6) (gCons (gName 4) gNil))) (te := tVar 4) rfl nd rfl rfl (sw_true rfl rfl rfl (by decide +kernel)) (pi_list (pv 0)) (blkOk_by (own := [("kg", 6), ("due", 4)]) (by refine (show blkC ["orders", "trips", "hours", "dues", "due", "end", "kg"] (defScope s_hours_late) _ [("kg", 6), ("due", 4)] = true from ?_); decide +kernel))
        (fun _ _ _ _ _ => pg_tup rfl (pgs_cons (pg_name (i := 6) nd rfl (Or.inl rfl)) (pgs_cons (pg_name (i := 4) nd rfl (Or.inl rfl)) pgs_nil))) (fun _ _ _ _ _ => pts_nil) (fun _ _ _ _ _ => pv 4))
      (pss_cons (ps_for PassesOwn.never rfl (pi_zip (by rfl) T.zip (pa_cons (pv 3) (pa_cons (pe_call G1 hr (by rfl) m1 k1 b1 .nil pass0 (pa_cons (pv 0) (pa_cons (pv 1) pa_nil))) pa_nil))) (pg_tup rfl (pgs_cons (pg_name (i := 4) nd rfl (Or.inl rfl)) (pgs_cons (pg_name (i := 5) nd rfl (Or.inl rfl)) pgs_nil)))
        (pss_one (ps_if (pt_cmpR op_isN (pv 5) pe_non (nomark _)) (pss_one (ps_aug (i := 2) nd rfl (Or.inl rfl) (pg_int T.notFilled) ip_add))
          (pss_one (ps_aug (i := 2) nd rfl (Or.inl rfl) (pe_callB (call_max2 rfl) (by rfl) T.max (by rfl) (pa_cons (pe_op op_sub (pv 5) (pv 4)) (pa_cons pe_int pa_nil))) ip_add)))))
      (pss_one (ps_ret (pv 2))))), ?_⟩
    obtain ⟨ps, hps, hpl, hpt⟩ := B.ex
    refine ⟨_, rfl, po, rfl, ⟨_, SqL.of hps⟩, fun L hL => lc_list (K := K) (a := po) (xs := ps.map V.ref) (fun i H' => H' L = some (.lst (((os.take i).map Kh332.Order.due).map vN)) ∧ Keep [] H H')
      ⟨upd_same, Keep.refl.new hL⟩ (fun i H' _ h => SqL.of (h.2.same _ _ hps)) ?_ ?_⟩
    · rintro i y H' hi ⟨hD, kp⟩
      obtain ⟨x, hx, rfl⟩ := map_at hi
      obtain ⟨e, he, hxe⟩ := prs_at hpl hpt hx
      obtain ⟨o, ho, rfl⟩ : ∃ o, os[i]? = some o ∧ e = (o.kg, o.due) := by
        rw [List.getElem?_map] at he
        cases eo : os[i]? with
        | none =>
          rw [eo] at he
          cases he
        | some o =>
          rw [eo] at he
          exact ⟨o, rfl, (Option.some.inj he).symm⟩
      refine gPair (kp.same _ _ hxe) ⟨rfl, _, rfl, _, hD, ?_, ?_, kp.new' hL⟩
      · rw [List.length_map, List.length_map, List.length_take]
        exact size_of (by omega)
      · rw [upd_same, HM.take_snoc ho, List.map_append, List.map_append]
        rfl
    · rintro H1 ⟨hD, kp⟩
      have hol : (os.take (ps.map V.ref).length) = os := by
        rw [List.length_map, hpl, List.length_map, List.take_length]
      rw [hol] at hD
      refine rV rfl (rV rfl (rV rfl ⟨po, pt, os, d, rfl, B.same kp, B2.same kp, h5, fun H2 p hp hp2 kp2 => ?_⟩))
      have hD2 := kp2.same _ _ hD
      refine ⟨L, p, _, _, rfl, SqL.of hD2, SqL.of hp2, for_zip (K := K) (a := L) (b := p) (xs := (os.map Kh332.Order.due).map vN) (ys := (HM.fills os d).map zV) (fun i σ H' => ∃ (v4 v5 v6 : Option V), σ = [some (.ref po), some (.ref pt), some (vN ((HM.lates os d).take i).sum), some (.ref L), v4, v5, v6] ∧ Keep [] H2 H')
        (by rw [List.length_map, List.length_map, List.length_map, HM.fills_len]) ⟨none, none, none, rfl, Keep.refl⟩ (fun i σ H' _ h => ?_) ?_ ?_⟩
      · obtain ⟨_, _, _, _, k⟩ := h
        exact ⟨SqL.of (k.same _ _ hD2), SqL.of (k.same _ _ hp2)⟩
      · rintro i x y σ H' tp hx hy ⟨v4, v5, v6, rfl, k⟩ htp
        obtain ⟨du, hdu, rfl⟩ := map_at hx
        obtain ⟨e, he, rfl⟩ := map_at hy
        obtain ⟨o, ho, rfl⟩ : ∃ o, os[i]? = some o ∧ du = o.due := by
          rw [List.getElem?_map] at hdu
          cases eo : os[i]? with
          | none =>
            rw [eo] at hdu
            cases hdu
          | some o =>
            rw [eo] at hdu
            exact ⟨o, rfl, (Option.some.inj hdu).symm⟩
        have hs := HM.sum_snoc (HM.lates_at ho he)
        refine gPair upd_same ?_
        refine rV rfl ⟨rfl, rB ?_⟩
        cases e with
        | none =>
          refine if_d (fun _ => ?_) (fun h => absurd rfl h)
          refine rV rfl (rI2 ⟨some (vN o.due), some .non, v6, ?_, k.new htp⟩)
          rw [hs]
          rfl
        | some t =>
          refine if_d (fun h => by cases h) (fun _ => ?_)
          refine rV rfl (rV rfl (rV rfl (rI2 ⟨_, _, rfl, rI2 ⟨some (vN o.due), some (vN t), v6, ?_, k.new htp⟩⟩)))
          show [_, _, some (V.int (((((HM.lates os d).take i).sum : Nat) : Int) + _)), _, _, _, _] = _
          rw [hs, max_late]
          rfl
      · rintro σ H' ⟨v4, v5, v6, rfl, k⟩
        have e : ((HM.lates os d).take ((os.map Kh332.Order.due).map vN).length) = HM.lates os d := by
          rw [List.take_of_length_le]
          rw [HM.lates_len, List.length_map, List.length_map]
          exact Nat.le_refl _
        have q' := q H' ((kp.trans kp2).trans k)
        rw [← e] at q'
        exact rV rfl q'
end
end Hb

set_option Elab.async false
set_option linter.all false
set_option maxRecDepth 100000
set_option maxHeartbeats 2000000
/-! one_longer, all_rows -/
namespace Hb
open PySem PySem.Spec PyProof.Rows L2
/-- a list of rows -/
structure Lls (H : Hp) (p : Addr) (rs : List (List Nat)) : Prop where
  ex : ∃ ps : List Addr, H p = some (.lst (ps.map V.ref)) ∧ ps.length = rs.length ∧ p ∉ ps ∧ ∀ (i : Nat) (x : Addr) (r : List Nat), ps[i]? = some x → rs[i]? = some r → H x = some (.lst (r.map vN))
theorem Lls.same {H H' : Hp} {p : Addr} {rs : List (List Nat)} (B : Lls H p rs) (k : Keep [] H H') : Lls H' p rs := by
  obtain ⟨ps, h1, h2, h3, h4⟩ := B.ex
  exact ⟨ps, k.same _ _ h1, h2, h3, fun i x r hx hr => k.same _ _ (h4 i x r hx hr)⟩
theorem Lls.nil {H : Hp} {p : Addr} (h : H p = some (.lst [])) : Lls H p [] := ⟨[], h, rfl, by simp, fun i x e hx _ => by simp at hx⟩
theorem Lls.inj {H : Hp} {p : Addr} {ps ps' : List Addr} (h1 : H p = some (.lst (ps.map V.ref))) (h2 : H p = some (.lst (ps'.map V.ref))) : ps = ps' := by
  have := HO.lst.inj (Option.some.inj (h1.symm.trans h2))
  exact (List.map_inj_right (fun a b h => V.ref.inj h)).mp this
/-- what is behind a list's end -/
theorem snoc_at {α : Type} {l : List α} {x y : α} {i : Nat} (h : (l ++ [x])[i]? = some y) : (i < l.length ∧ l[i]? = some y) ∨ (i = l.length ∧ y = x) := by
  by_cases hi : i < l.length
  · rw [List.getElem?_append_left hi] at h
    exact .inl ⟨hi, h⟩
  · rw [List.getElem?_append_right (by omega)] at h
    cases e : i - l.length with
    | zero =>
      rw [e] at h
      exact .inr ⟨by omega, (Option.some.inj h).symm⟩
    | succ n =>
      rw [e] at h
      cases h
theorem Lls.push {H : Hp} {p x : Addr} {rs : List (List Nat)} {r : List Nat} {ps : List Addr} (B : Lls H p rs) (hps : H p = some (.lst (ps.map V.ref))) (hx : H x = none) :
    Lls (upd (upd H x (.lst (r.map vN))) p (.lst (ps.map V.ref ++ [.ref x]))) p (rs ++ [r]) := by
  obtain ⟨ps', h1, h2, h3, h4⟩ := B.ex
  have ep := Lls.inj h1 hps
  subst ep
  have nx : x ≠ p := fun e => by
    rw [e, h1] at hx
    cases hx
  refine ⟨ps' ++ [x], ?_, by simp [h2], ?_, fun i y u hy hu => ?_⟩
  · rw [upd_same, List.map_append]
    rfl
  · intro m
    rcases List.mem_append.mp m with m | m
    · exact h3 m
    · exact nx (List.mem_singleton.mp m).symm
  · rcases snoc_at hy with ⟨hi, hy⟩ | ⟨hi, rfl⟩
    · rw [List.getElem?_append_left (by omega)] at hu
      have h5 := h4 i y u hy hu
      rw [upd_ne (fun e => h3 (by rw [← e]; exact List.mem_of_getElem? hy)), upd_ne (ne_of_none h5 hx)]
      exact h5
    · rcases snoc_at hu with ⟨hi2, _⟩ | ⟨_, rfl⟩
      · omega
      · rw [upd_ne nx, upd_same]
theorem inV_not (n : Nat) (l : List Nat) : (if true = true then !inV (vN n) (l.map vN) else inV (vN n) (l.map vN)) = !decide (n ∈ l) := by
  rw [if_pos rfl, inV_nat]
theorem Keep.fresh {H H' : Hp} {p : Addr} (k : Keep [] H H') (h : H' p = none) : H p = none := by
  cases e : H p with
  | none => rfl
  | some o =>
    rw [k.same _ _ e] at h
    cases h
section
variable {P : Program} {w : World} {K : PySem.W.Frag} {mg : Str → Option Value} {base : Heap} {c : Cs}
def spLonger : Sp := fun vs H Q _ => ∃ (pr pc : Addr) (rs : List (List Nat)) (cs : List Nat), vs = [.ref pr, .ref pc] ∧ Lls H pr rs ∧ H pc = some (.lst (cs.map vN)) ∧ (HM.longer cs rs).length ≤ 5000 ∧ (∀ r ∈ rs, r.length ≤ 5000) ∧
  ∀ (H' : Hp) (p : Addr), H p = none → Lls H' p (HM.longer cs rs) → Keep [] H H' → Q (.ref p) H'
theorem scLonger : FnScope ["rows", "cages", "longer", "row", "i"] ["rows", "cages"] (defScope s_one_longer) := ⟨rfl, rfl, rfl, by decide +kernel, rfl, by decide +kernel, by decide +kernel⟩
theorem longer_take {cs : List Nat} {rs : List (List Nat)} {i : Nat} {r : List Nat} (h : rs[i]? = some r) : HM.longer cs (rs.take (i + 1)) = HM.longer cs (rs.take i) ++ HM.longer1 cs r := by
  unfold HM.longer
  rw [HM.take_snoc h, List.flatMap_append, List.flatMap_cons, List.flatMap_nil, List.append_nil]
theorem longer_part {cs : List Nat} {rs : List (List Nat)} {i j n : Nat} {r : List Nat} (h : rs[i]? = some r) (hn : cs[j]? = some n) (hr : ¬ n ∈ r) : (HM.longer cs (rs.take i) ++ ((cs.take j).filter fun i => !decide (i ∈ r)).map fun i => r ++ [i]).length + 1 ≤ (HM.longer cs rs).length := by
  have e1 : (HM.longer cs (rs.take (i + 1))).length ≤ (HM.longer cs rs).length := by
    conv => rhs; rw [← List.take_append_drop (i + 1) rs]
    unfold HM.longer
    rw [List.flatMap_append, List.length_append]
    omega
  have e2 : (((cs.take (j + 1)).filter fun i => !decide (i ∈ r)).map fun i => r ++ [i]).length ≤ (HM.longer1 cs r).length := by
    unfold HM.longer1
    rw [List.length_map, List.length_map]
    conv => rhs; rw [← List.take_append_drop (j + 1) cs]
    rw [List.filter_append, List.length_append]
    omega
  rw [longer_take h, List.length_append] at e1
  rw [HM.take_snoc hn, List.filter_append, List.filter_cons, if_pos (by simpa using hr), List.filter_nil, List.map_append, List.length_append] at e2
  rw [List.length_append]
  simp only [List.map_cons, List.map_nil, List.length_cons, List.length_nil] at e2
  omega
theorem ok_longer (D : Dn K mg "one_longer" s_one_longer ["rows", "cages"]) : Cl P w K mg base "one_longer" ["rows", "cages"] 1 spLonger := by
  refine D.ok scLonger (fun vs H Q E h => ?_) (fun f cdv A outer s H vs Q E hr h => ?_)
  · obtain ⟨pr, pc, rs, cs, rfl, _⟩ := h
    rfl
  · obtain ⟨pr, pc, rs, cs, rfl, B, hc, hsz, hrl, q⟩ := h
    have nd := scLonger.nd
    refine ⟨_, pss_cons (ps_set (i := 2) nd rfl (Or.inl rfl) (pe_lst pa_nil))
      (pss_cons (ps_for PassesOwn.never rfl (pi_list (pv 0)) (pg_name (i := 3) nd rfl (Or.inl rfl))
        (pss_one (ps_for PassesOwn.never rfl (pi_list (pv 1)) (pg_name (i := 4) nd rfl (Or.inl rfl))
          (pss_one (ps_if (pt_cmpR op_notIn_seq (pv 4) (pv 3) (by with_unfolding_all rfl))
            (pss_one (ps_expr (pe_bm PySem.F.plainAttrs_list PySem.F.slot_list_append PySem.F.type_list_append mt_append (pv 2) (pa_cons (pe_op op_cat (pv 3) (pe_lst (pa_cons (pv 4) pa_nil))) pa_nil)))) pss_nil)))))
      (pss_one (ps_ret (pv 2)))), ?_⟩
    obtain ⟨ps, hps, hpl, hpn, hpt⟩ := B.ex
    refine ⟨Nat.zero_le _, fun p hp => ?_⟩
    have kp0 : Keep [] H (upd H p (.lst [])) := Keep.refl.new hp
    refine ⟨_, rfl, pr, rfl, ⟨_, SqL.of (kp0.same _ _ hps)⟩, for_list (K := K) (a := pr) (xs := ps.map V.ref) (fun i σ H' => ∃ (v3 v4 : Option V), σ = [some (.ref pr), some (.ref pc), some (.ref p), v3, v4] ∧ Lls H' p (HM.longer cs (rs.take i)) ∧ Keep [] H H')
      ⟨none, none, rfl, Lls.nil upd_same, kp0⟩ (fun i σ H' _ h => ?_) ?_ ?_⟩
    · obtain ⟨_, _, _, _, k⟩ := h
      exact SqL.of (k.same _ _ hps)
    · rintro i y σ H' hi ⟨v3, v4, rfl, B1, kp⟩
      obtain ⟨x, hx, rfl⟩ := map_at hi
      obtain ⟨r, hri⟩ : ∃ r, rs[i]? = some r := ⟨_, List.getElem?_eq_getElem (by have := (List.getElem?_eq_some_iff.mp hx).1; omega)⟩
      have hxr := hpt i x r hx hri
      have hr5 := hrl r (List.mem_of_getElem? hri)
      refine rV rfl ⟨pc, rfl, ⟨_, SqL.of (kp.same _ _ hc)⟩, for_list (K := K) (a := pc) (xs := cs.map vN) (fun j σ H' => ∃ (v4 : Option V), σ = [some (.ref pr), some (.ref pc), some (.ref p), some (.ref x), v4] ∧
          Lls H' p (HM.longer cs (rs.take i) ++ ((cs.take j).filter fun i => !decide (i ∈ r)).map fun i => r ++ [i]) ∧ Keep [] H H') ⟨_, rfl, ?_, kp⟩ (fun i σ H' _ h => ?_) ?_ ?_⟩
      · rw [List.take_zero, List.filter_nil, List.map_nil, List.append_nil]
        exact B1
      · obtain ⟨_, _, _, k⟩ := h
        exact SqL.of (k.same _ _ hc)
      · rintro j y σ H1 hj ⟨v4, rfl, B2, kp1⟩
        obtain ⟨n, hn, rfl⟩ := map_at hj
        have hx1 := kp1.same _ _ hxr
        refine rV rfl (rV rfl ⟨x, _, rfl, .inl (SqL.of hx1), rfl, flat_nat r, rB ?_⟩)
        rw [inV_not]
        by_cases hm : n ∈ r
        · rw [decide_eq_true hm]
          refine iteF ⟨_, rfl, ?_, kp1⟩
          rw [HM.take_snoc hn, List.filter_append, List.filter_cons, if_neg (by simpa using hm), List.filter_nil, List.append_nil]
          exact B2
        · rw [decide_eq_false hm]
          refine iteT ?_
          have hlp := longer_part hri hn hm
          obtain ⟨ps2, hps2, hpl2, hpn2, _⟩ := id B2.ex
          refine rV rfl ⟨.inl ⟨rfl, _, SqL.of hps2⟩, rV rfl (rV rfl ⟨by show 1 ≤ sizeLine; decide, fun t1 ht1 => ?_⟩)⟩
          have k1 : Keep [] H1 (upd H1 t1 (.lst [vN n])) := Keep.refl.new ht1
          refine ⟨x, t1, _, _, rfl, rfl, k1.same _ _ hx1, upd_same, ?_, fun t2 ht2 => ?_⟩
          · rw [List.length_map]
            exact Nat.le_of_lt (size_of (by show _ + 1 ≤ _; omega))
          · have B3 := B2.same k1
            have k2 : Keep [] (upd H1 t1 (.lst [vN n])) (upd (upd H1 t1 (.lst [vN n])) t2 (.lst (r.map vN ++ [vN n]))) := Keep.refl.new ht2
            refine ⟨p, _, _, rfl, rfl, k2.same _ _ (k1.same _ _ hps2), ?_, ?_⟩
            · rw [List.length_map, hpl2]
              exact size_of (by omega)
            · have B4 := B3.push (r := r ++ [n]) (k1.same _ _ hps2) ht2
              rw [List.map_append] at B4
              refine ⟨_, rfl, ?_, ((kp1.trans k1).trans k2).new' hp⟩
              rw [HM.take_snoc hn, List.filter_append, List.filter_cons, if_pos (by simpa using hm), List.filter_nil, List.map_append, ← List.append_assoc]
              exact B4
      · rintro σ H1 ⟨v4, rfl, B2, kp1⟩
        rw [List.length_map, List.take_length] at B2
        refine ⟨_, _, rfl, ?_, kp1⟩
        rw [longer_take hri]
        exact B2
    · rintro σ H' ⟨v3, v4, rfl, B1, kp⟩
      rw [List.length_map, hpl, List.take_length] at B1
      exact rV rfl (q H' p hp B1 kp)
def spAllRows : Sp := fun vs H Q _ => ∃ (pc : Addr) (cs : List Nat), vs = [.ref pc] ∧ H pc = some (.lst (cs.map vN)) ∧ cs.Nodup ∧ cs.length ≤ 5 ∧
  ∀ (H' : Hp) (p : Addr), H p = none → Lls H' p (Kh332.perms cs.length cs) → Keep [] H H' → Q (.ref p) H'
theorem scAllRows : FnScope ["cages", "rows"] ["cages"] (defScope s_all_rows) := ⟨rfl, rfl, rfl, by decide +kernel, rfl, by decide +kernel, by decide +kernel⟩
theorem ok_allRows (T : Tx K mg c) (D : Dn K mg "all_rows" s_all_rows ["cages"]) (C1 : Cl P w K mg base "one_longer" ["rows", "cages"] 1 spLonger) : Cl P w K mg base "all_rows" ["cages"] 2 spAllRows := by
  refine D.ok scAllRows (fun vs H Q E h => ?_) (fun f cdv A outer s H vs Q E hr h => ?_)
  · obtain ⟨pc, cs, rfl, _⟩ := h
    rfl
  · obtain ⟨pc, cs, rfl, hc, hn, h5, q⟩ := h
    obtain ⟨f1, fd1, G1, b1, m1, k1⟩ := C1
    have nd := scAllRows.nd
    refine ⟨_, pss_cons (ps_set (i := 1) nd rfl (Or.inl rfl) (pe_lst (pa_cons (pe_lst pa_nil) pa_nil)))
      (pss_cons (ps_while PassesOwn.never (pt_cmpR op_lt (pe_callB call_len_seq (by rfl) T.len (by rfl) (pa_cons (pe_ix ix_list (pv 1) pe_int (fun _ _ => rfl)) pa_nil)) (pe_callB call_len_seq (by rfl) T.len (by rfl) (pa_cons (pv 0) pa_nil)) (nomark _))
        (pss_one (ps_set (i := 1) nd rfl (Or.inl rfl) (pe_call G1 hr (by rfl) m1 k1 b1 .nil pass0 (pa_cons (pv 1) (pa_cons (pv 0) pa_nil))))))
      (pss_one (ps_ret (pv 1)))), ?_⟩
    refine ⟨Nat.zero_le _, fun t1 ht1 => ⟨by show 1 ≤ sizeLine; decide, fun p hp => ?_⟩⟩
    have k1' : Keep [] H (upd H t1 (.lst [])) := Keep.refl.new ht1
    have B0 := (Lls.nil (H := upd (upd H t1 (.lst [])) p (.lst [.ref t1])) (p := p))
    have hne : t1 ≠ p := fun e => by
      rw [← e, upd_same] at hp
      cases hp
    refine ⟨fun m σ H' => ∃ (k : Nat) (p : Addr), m = cs.length - k ∧ k ≤ cs.length ∧ σ = [some (.ref pc), some (.ref p)] ∧ H p = none ∧ Lls H' p (HM.rowsUp cs k) ∧ Keep [] H H', ⟨_, 0, p, rfl, Nat.zero_le _, rfl, k1'.fresh hp, ?_, k1'.new hp⟩, ?_⟩
    · refine ⟨[t1], upd_same, rfl, by simp [Ne.symm hne], fun i x r hx hr => ?_⟩
      cases i with
      | zero =>
        have e1 : t1 = x := Option.some.inj hx
        have e2 : [] = r := Option.some.inj hr
        subst e1 e2
        rw [upd_ne hne, upd_same]
        rfl
      | succ n => cases hx
    · rintro m σ H' ⟨k, p, rfl, hk, rfl, hp0, B, kp⟩
      have hrn := HM.rowsUp_ne cs hn k hk
      obtain ⟨ps, hps, hpl, hpn, hpt⟩ := id B.ex
      cases er : HM.rowsUp cs k with
      | nil => exact absurd er hrn
      | cons r rest =>
        have hrk : r.length = k := HM.rowsUp_row cs k (by rw [er]; simp)
        cases ps with
        | nil =>
          rw [er] at hpl
          cases hpl
        | cons x ps' =>
          have hx := hpt 0 x r rfl (by rw [er]; rfl)
          refine rV rfl (rX (SqL.of hps) (atI_nat (j := 0) rfl) (rLen (SqL.of hx) (rV rfl (rLen (SqL.of (kp.same _ _ hc)) (rI2 (rB ?_))))))
          rw [List.length_map, List.length_map, hrk]
          refine if_d (fun h1 => ?_) (fun h1 => ?_)
          · refine ⟨_, fun σ' H3 h => h, ?_⟩
            have hle : (HM.longer cs (HM.rowsUp cs k)).length ≤ 5000 := by
              have h1 := HM.rowsUp_len cs (k + 1)
              have h2 : cs.length ^ (k + 1) ≤ 5 ^ (k + 1) := Nat.pow_le_pow_left h5 _
              have h3 : 5 ^ (k + 1) ≤ 5 ^ 5 := Nat.pow_le_pow_right (by decide) (by omega)
              exact Nat.le_trans h1 (Nat.le_trans h2 (Nat.le_trans h3 (by decide)))
            refine rV rfl (rV rfl ⟨p, pc, HM.rowsUp cs k, cs, rfl, B, kp.same _ _ hc, hle, fun r hr => by rw [HM.rowsUp_row cs k hr]; omega, fun H2 p2 hp2 B2 kp2 => ?_⟩)
            exact ⟨_, by omega, k + 1, p2, rfl, by omega, rfl, kp.fresh hp2, B2, kp.trans kp2⟩
          · have e : k = cs.length := by omega
            subst e
            rw [HM.rowsUp_perms cs hn] at B
            exact rV rfl (q H' p hp0 B kp)
end
end Hb

set_option Elab.async false
set_option linter.all false
set_option maxRecDepth 100000
set_option maxHeartbeats 2000000
/-! parted_by_zone -/
namespace Hb
open PySem PySem.Spec PyProof.Rows L2
/-- a list of rows, each at a place of its own that was not there before -/
structure Lln (H0 H : Hp) (p : Addr) (rs : List (List Nat)) : Prop where
  ex : ∃ ps : List Addr, H p = some (.lst (ps.map V.ref)) ∧ ps.length = rs.length ∧ p ∉ ps ∧ ps.Nodup ∧ (∀ x ∈ ps, H0 x = none) ∧ ∀ (i : Nat) (x : Addr) (r : List Nat), ps[i]? = some x → rs[i]? = some r → H x = some (.lst (r.map vN))
theorem Lln.new {H0 H : Hp} {p x : Addr} {rs : List (List Nat)} {r : List Nat} {ps : List Addr} (B : Lln H0 H p rs) (hps : H p = some (.lst (ps.map V.ref))) (hx : H x = none) (k : Keep [] H0 H) :
    Lln H0 (upd (upd H x (.lst (r.map vN))) p (.lst (ps.map V.ref ++ [.ref x]))) p (rs ++ [r]) := by
  obtain ⟨ps', h1, h2, h3, h4, h5, h6⟩ := B.ex
  have ep := Lls.inj h1 hps
  subst ep
  have nx : x ≠ p := fun e => by
    rw [e, h1] at hx
    cases hx
  have nm : ¬ x ∈ ps' := fun m => by
    obtain ⟨i, hi⟩ := List.mem_iff_getElem?.mp m
    obtain ⟨r', hr'⟩ : ∃ r', rs[i]? = some r' := ⟨_, List.getElem?_eq_getElem (by have := (List.getElem?_eq_some_iff.mp hi).1; omega)⟩
    rw [h6 i x r' hi hr'] at hx
    cases hx
  refine ⟨ps' ++ [x], ?_, by simp [h2], ?_, ?_, ?_, fun i y u hy hu => ?_⟩
  · rw [upd_same, List.map_append]
    rfl
  · intro m
    rcases List.mem_append.mp m with m | m
    · exact h3 m
    · exact nx (List.mem_singleton.mp m).symm
  · rw [List.nodup_append]
    exact ⟨h4, by simp, fun y hy z hz e => nm (by rw [← List.mem_singleton.mp hz, ← e]; exact hy)⟩
  · intro y hy
    rcases List.mem_append.mp hy with m | m
    · exact h5 y m
    · rw [List.mem_singleton.mp m]
      exact k.fresh hx
  · rcases snoc_at hy with ⟨hi, hy⟩ | ⟨hi, rfl⟩
    · rw [List.getElem?_append_left (by omega)] at hu
      have h7 := h6 i y u hy hu
      rw [upd_ne (fun e => h3 (by rw [← e]; exact List.mem_of_getElem? hy)), upd_ne (ne_of_none h7 hx)]
      exact h7
    · rcases snoc_at hu with ⟨hi2, _⟩ | ⟨_, rfl⟩
      · omega
      · rw [upd_ne nx, upd_same]
theorem Lln.grow {H0 H : Hp} {p x : Addr} {rs : List (List Nat)} {r r' : List Nat} {ps : List Addr} (B : Lln H0 H p (rs ++ [r])) (hps : H p = some (.lst ((ps ++ [x]).map V.ref))) : Lln H0 (upd H x (.lst (r'.map vN))) p (rs ++ [r']) := by
  obtain ⟨ps', h1, h2, h3, h4, h5, h6⟩ := B.ex
  have ep := Lls.inj h1 hps
  subst ep
  have nx : p ≠ x := fun e => h3 (by simp [e])
  have hl : ps.length = rs.length := by simpa using h2
  refine ⟨ps ++ [x], by rw [upd_ne nx]; exact h1, by simp [hl], h3, h4, h5, fun i y u hy hu => ?_⟩
  rcases snoc_at hy with ⟨hi, hy'⟩ | ⟨hi, rfl⟩
  · have hu' := hu
    rw [List.getElem?_append_left (by omega)] at hu'
    have h7 := h6 i y u hy (by rw [List.getElem?_append_left (by omega)]; exact hu')
    have ny : y ≠ x := fun e => by
      rw [List.nodup_append] at h4
      exact h4.2.2 y (List.mem_of_getElem? hy') x (by simp) e
    rw [upd_ne ny]
    exact h7
  · rcases snoc_at hu with ⟨hi2, _⟩ | ⟨_, rfl⟩
    · omega
    · rw [upd_same]
theorem snoc_of {α : Type} {l : List α} (h : l ≠ []) : ∃ i x, l = i ++ [x] := ⟨l.dropLast, l.getLast h, (List.dropLast_concat_getLast h).symm⟩
section
variable {P : Program} {w : World} {K : PySem.W.Frag} {mg : Str → Option Value} {base : Heap} {c : Cs}
def spPartsZ (c : Cs) : Sp := fun vs H Q _ => ∃ (A : Ra) (a : Kh332.Abs) (co dco ll r : Addr) (t : Nat) (z : Option Nat) (left row : List Nat), vs = [.ref A.h, .ref co, .ref r] ∧ Ro c H A a ∧ Co c H co dco ll t z left ∧
  H r = some (.lst (row.map vN)) ∧ row.length ≤ 5000 ∧ (∀ i ∈ row, i < a.cages.length) ∧ left.length = a.cages.length ∧
  ∀ (H' : Hp) (p : Addr) (ps : List (List Nat)), H p = none → Lln H H' p ps → HM.Parts a ps (row.filter (HM.nz left)) → Keep [] H H' → Q (.ref p) H'
theorem scPartedZ : FnScope ["harvest", "course", "row", "parts", "i"] ["harvest", "course", "row"] (defScope s_parted_by_zone) := ⟨rfl, rfl, rfl, by decide +kernel, rfl, by decide +kernel, by decide +kernel⟩
theorem flat_len {ps : List (List Nat)} (h : ∀ p ∈ ps, p ≠ []) : ps.length ≤ ps.flatten.length := by
  induction ps with
  | nil => exact Nat.zero_le _
  | cons p ps ih =>
    have h1 := ih fun q hq => h q (by simp [hq])
    have h2 : 0 < p.length := List.length_pos_iff.mpr (h p (by simp))
    rw [List.flatten_cons, List.length_append, List.length_cons]
    omega
theorem part_len {ps : List (List Nat)} {p : List Nat} (h : p ∈ ps) : p.length ≤ ps.flatten.length := by
  induction ps with
  | nil => cases h
  | cons q ps ih =>
    rw [List.flatten_cons, List.length_append]
    rcases List.mem_cons.mp h with rfl | h
    · omega
    · have := ih h
      omega
theorem ok_partedZ (T : Tx K mg c) (D : Dn K mg "parted_by_zone" s_parted_by_zone ["harvest", "course", "row"]) : Cl P w K mg base "parted_by_zone" ["harvest", "course", "row"] 1 (spPartsZ c) := by
  refine D.ok scPartedZ (fun vs H Q E h => ?_) (fun f cdv A outer s H vs Q E hr h => ?_)
  · obtain ⟨A, a, co, dco, ll, r, t, z, left, row, rfl, _⟩ := h
    rfl
  · obtain ⟨A, a, co, dco, ll, r, t, z, left, row, rfl, R, C, hrow, hsz, hin, hlen, q⟩ := h
    have nd := scPartedZ.nd
    refine ⟨_, pss_cons (ps_set (i := 3) nd rfl (Or.inl rfl) (pe_lst pa_nil))
      (pss_cons (ps_for PassesOwn.never rfl (pi_list (pv 2)) (pg_name (i := 4) nd rfl (Or.inl rfl))
        (pss_one (ps_if (pt_cmpR op_gt (pe_ix ix_list (pe_fld (pv 1) rfl) (pv 4) (fun _ _ => rfl)) pe_int (nomark _))
          (pss_one (ps_if (pw_and (pt_cmpR op_gt (pe_callB call_len_seq (by rfl) T.len (by rfl) (pa_cons (pv 3) pa_nil)) pe_int (nomark _)) (pw_and1 (pt_cmpR op_eq
              (pe_fld (pe_ix ix_list (pe_fld (pv 0) rfl) (pe_ix ix_list (pe_ix ix_list (pv 3) (pe_un un_neg pe_int) (fun _ _ => rfl)) pe_int (fun _ _ => rfl)) (fun _ _ => rfl)) rfl)
              (pe_fld (pe_ix ix_list (pe_fld (pv 0) rfl) (pv 4) (fun _ _ => rfl)) rfl) (nomark _)))).pt
            (pss_one (ps_expr (pe_bm PySem.F.plainAttrs_list PySem.F.slot_list_append PySem.F.type_list_append mt_append (pe_ix ix_list (pv 3) (pe_un un_neg pe_int) (fun _ _ => rfl)) (pa_cons (pv 4) pa_nil))))
            (pss_one (ps_expr (pe_bm PySem.F.plainAttrs_list PySem.F.slot_list_append PySem.F.type_list_append mt_append (pv 3) (pa_cons (pe_lst (pa_cons (pv 4) pa_nil)) pa_nil))))))
          pss_nil)))
      (pss_one (ps_ret (pv 3)))), ?_⟩
    refine ⟨Nat.zero_le _, fun p hp => ?_⟩
    have kp0 : Keep [] H (upd H p (.lst [])) := Keep.refl.new hp
    refine ⟨_, rfl, r, rfl, ⟨_, SqL.of (kp0.same _ _ hrow)⟩, for_list (K := K) (a := r) (xs := row.map vN) (fun i σ H' => ∃ (v4 : Option V) (ps : List (List Nat)), σ = [some (.ref A.h), some (.ref co), some (.ref r), some (.ref p), v4] ∧
        Lln H H' p ps ∧ HM.Parts a ps ((row.take i).filter (HM.nz left)) ∧ Keep [] H H')
      ⟨none, [], rfl, ⟨[], upd_same, rfl, by simp, by simp, by simp, fun i x u hx _ => by simp at hx⟩, HM.Parts.nil a, kp0⟩ (fun i σ H' _ h => ?_) ?_ ?_⟩
    · obtain ⟨_, _, _, _, _, k⟩ := h
      exact SqL.of (k.same _ _ hrow)
    · rintro i y σ H' hi ⟨v4, ps, rfl, B, PT, kp⟩
      obtain ⟨n, hn, rfl⟩ := map_at hi
      have hnl : n < a.cages.length := hin n (List.mem_of_getElem? hn)
      obtain ⟨g, hg⟩ : ∃ g, a.cages[n]? = some g := ⟨_, List.getElem?_eq_getElem hnl⟩
      obtain ⟨x, hx⟩ : ∃ x, A.cs[n]? = some x := ⟨_, List.getElem?_eq_getElem (by rw [R.len]; exact hnl)⟩
      obtain ⟨y, hy⟩ : ∃ y, left[n]? = some y := ⟨_, List.getElem?_eq_getElem (by omega)⟩
      have ey : left.getD n 0 = y := by rw [List.getD_eq_getElem?_getD, hy]; rfl
      have R' := R.same kp
      have C' := C.same kp
      obtain ⟨dg, hdg⟩ := R'.cage n x g hx hg
      obtain ⟨nA, hh⟩ := R'.h
      have et : row.take (i + 1) = row.take i ++ [n] := HM.take_snoc hn
      refine rV rfl (rF C'.co T.course T.aLeft (courseF_left _ _ _) (rV rfl (rX (SqL.of C'.ll) (atI_nat (get_map hy)) (rI2 (rB ?_)))))
      have hfl : ((row.take i).filter (HM.nz left)).length ≤ 5000 := by
        have h1 := List.length_filter_le (HM.nz left) (row.take i)
        rw [List.length_take] at h1
        omega
      rw [← PT.flat] at hfl
      refine if_d (fun h1 => ?_) (fun h1 => ?_)
      · have hnz : HM.nz left n = true := by
          unfold HM.nz
          rw [ey]
          have : y ≠ 0 := by omega
          simpa using this
        have ef : (row.take (i + 1)).filter (HM.nz left) = (row.take i).filter (HM.nz left) ++ [n] := by
          rw [et, List.filter_append, List.filter_cons, if_pos hnz, List.filter_nil]
        have ez : Kh332.zoneOf a n = g.zone := zoneOf_at hg
        obtain ⟨as, h1', h2', h3', h4', h5', h6'⟩ := id B.ex
        have hplen := flat_len fun p hp => (PT.one p hp).1
        -- a part of its own
        have fresh : (∀ p, ps.getLast? = some p → Kh332.zoneOf a n ≠ Kh332.zoneOf a (p.headD 0)) → tDrop (tBM K "list" rAppend (tVar 3) (tCons (tLst (tCons (tVar 4) tNil)) tNil)) { nx := fun σ H' => ∃ (v4 : Option V) (ps : List (List Nat)), σ = [some (V.ref A.h), some (.ref co), some (.ref r), some (.ref p), v4] ∧ Lln H H' p ps ∧ HM.Parts a ps ((row.take (i + 1)).filter (HM.nz left)) ∧ Keep [] H H', rt := Q } [some (.ref A.h), some (.ref co), some (.ref r), some (.ref p), some (vN n)] H' := fun hz => by
          refine rV rfl ⟨.inl ⟨rfl, _, SqL.of h1'⟩, rV rfl ⟨by show 1 ≤ sizeLine; decide, fun t1 ht1 => ?_⟩⟩
          have k1 : Keep [] H' (upd H' t1 (.lst [vN n])) := Keep.refl.new ht1
          refine ⟨p, _, _, rfl, rfl, k1.same _ _ h1', by rw [List.length_map, h2']; exact size_of (by omega), ?_⟩
          refine ⟨_, ps ++ [[n]], rfl, B.new (r := [n]) h1' ht1 kp, ?_, (kp.trans k1).new' hp⟩
          rw [ef]
          exact PT.new hz
        refine rV rfl (rLen (SqL.of h1') (rI2 (rB ?_)))
        rw [List.length_map, h2']
        refine if_d (fun h2 => ?_) (fun h2 => ?_)
        · obtain ⟨init, pl, rfl⟩ := snoc_of (l := ps) (fun e => by subst e; exact absurd h2 (by simp))
          obtain ⟨as', xl, rfl⟩ := snoc_of (l := as) (fun e => by subst e; simp at h2')
          have hal : as'.length = init.length := by simpa using h2'
          have hxl := h6' as'.length xl pl (by simp) (by rw [hal]; simp)
          obtain ⟨p1, p2⟩ := PT.one pl (by simp)
          have hpl5 := part_len (show pl ∈ init ++ [pl] by simp)
          obtain ⟨i0, pl', rfl⟩ : ∃ i0 pl', pl = i0 :: pl' := by
            cases pl with
            | nil => exact absurd rfl p1
            | cons u v => exact ⟨u, v, rfl⟩
          have hm0 : i0 ∈ (row.take i).filter (HM.nz left) := by
            rw [← PT.flat]
            simp
          have hi0 : i0 < a.cages.length := hin i0 (List.mem_of_mem_take (List.mem_filter.mp hm0).1)
          obtain ⟨g0, hg0⟩ : ∃ g, a.cages[i0]? = some g := ⟨_, List.getElem?_eq_getElem hi0⟩
          obtain ⟨x0, hx0⟩ : ∃ x, A.cs[i0]? = some x := ⟨_, List.getElem?_eq_getElem (by rw [R.len]; exact hi0)⟩
          obtain ⟨dg0, hdg0⟩ := R'.cage i0 x0 g0 hx0 hg0
          have ez0 : Kh332.zoneOf a i0 = g0.zone := zoneOf_at hg0
          have hat : atI ((as' ++ [xl]).map V.ref) (-1) = some (.ref xl) := by
            rw [List.map_append]
            exact atI_last _ _
          refine rV rfl (rF hh T.harvest T.aCages (hvF_cages _ _) (rV rfl ⟨1, rfl, rX (SqL.of h1') hat (rX (SqL.of hxl) (atI_nat (j := 0) rfl) (rX (SqL.of R'.lc) (atI_nat (get_map hx0)) (rF hdg0 T.cage T.aCZone (cageF_zone _)
            (rV rfl (rF hh T.harvest T.aCages (hvF_cages _ _) (rV rfl (rX (SqL.of R'.lc) (atI_nat (get_map hx)) (rF hdg T.cage T.aCZone (cageF_zone _) ⟨rfl, rB ?_⟩))))))))⟩))
          refine if_d (fun h3 => ?_) (fun h3 => ?_)
          · have hzz : Kh332.zoneOf a n = Kh332.zoneOf a ((i0 :: pl').headD 0) := by
              show Kh332.zoneOf a n = Kh332.zoneOf a i0
              rw [ez, ez0]
              have := V.int.inj h3
              omega
            refine rV rfl ⟨1, rfl, rX (SqL.of h1') hat ⟨.inl ⟨rfl, _, SqL.of hxl⟩, rV rfl ⟨xl, _, _, rfl, rfl, hxl, by rw [List.length_map]; exact size_of (by omega), ?_⟩⟩⟩
            refine ⟨_, init ++ [(i0 :: pl') ++ [n]], rfl, ?_, ?_, kp.new' (h5' xl (by simp))⟩
            · have B2 := B.grow (r' := (i0 :: pl') ++ [n]) h1'
              rw [List.map_append] at B2
              exact B2
            · rw [ef]
              exact PT.grow hzz
          · refine fresh fun q hq e => h3 ?_
            have e2 : i0 :: pl' = q := by
              rw [List.getLast?_concat] at hq
              exact Option.some.inj hq
            rw [← e2] at e
            have e3 : Kh332.zoneOf a n = Kh332.zoneOf a i0 := e
            rw [ez, ez0] at e3
            rw [e3]
        · refine fresh fun q hq => ?_
          have : ps = [] := List.length_eq_zero_iff.mp (by omega)
          rw [this] at hq
          cases hq
      · have hnz : HM.nz left n = false := by
          unfold HM.nz
          rw [ey]
          have : y = 0 := by omega
          simpa using this
        have ef : (row.take (i + 1)).filter (HM.nz left) = (row.take i).filter (HM.nz left) := by
          rw [et, List.filter_append, List.filter_cons, if_neg (by rw [hnz]; exact Bool.false_ne_true), List.filter_nil, List.append_nil]
        exact ⟨_, ps, rfl, B, by rw [ef]; exact PT, kp⟩
    · rintro σ H' ⟨v4, ps, rfl, B, PT, kp⟩
      rw [List.length_map, List.take_length] at PT
      exact rV rfl (q H' p ps hp B PT kp)
end
end Hb

set_option Elab.async false
set_option linter.all false
set_option maxRecDepth 100000
set_option maxHeartbeats 2000000
/-! bring_all, end_of -/
namespace Hb
open PySem PySem.Spec PyProof.Rows L2
theorem sum_cast (left : List Nat) : ∀ p : List Nat, (p.map fun i => ((left.getD i 0 : Nat) : Int)).sum = ((HM.sumAt left p : Nat) : Int)
  | [] => rfl
  | i :: p => by
    rw [List.map_cons, List.sum_cons, sum_cast left p, HM.sumAt_cons]
    omega
theorem Hv.phi {c : Cs} {H : Hp} {A : Ra} {dco ll : Addr} {a : Kh332.Abs} (Z : Hv c H A dco ll a) : HM.phi a.boat.well (a.cages.map Kh332.Cage.kg) ≤ 100 := by
  have h1 := HM.phi_le (w := a.boat.well) Z.ro.ok.well.1 (left := a.cages.map Kh332.Cage.kg) (fun y hy => by
    obtain ⟨g, hg, e⟩ := List.mem_map.mp hy
    rw [← e]
    exact Z.kg g hg)
  have h2 := Z.nc
  rw [List.length_map] at h1
  omega
section
variable {P : Program} {w : World} {K : PySem.W.Frag} {mg : Str → Option Value} {base : Heap} {c : Cs}
def spBring (c : Cs) : Sp := fun vs H Q _ => ∃ (A : Ra) (dco ll : Addr) (a : Kh332.Abs) (r : Addr) (row : List Nat), vs = [.ref A.h, .ref r] ∧ Hv c H A dco ll a ∧ H r = some (.lst (row.map vN)) ∧ row.Nodup ∧ (∀ i ∈ row, i < a.cages.length) ∧
  ∀ (H' : Hp) (p : Addr), H p = none → Prs H' p (Kh332.brings a row) → (Kh332.brings a row).length ≤ 100 → Keep [] H H' → Q (.ref p) H'
theorem scBringA : FnScope ["harvest", "row", "course", "trips", "part", "to_bring", "fetched", "i"] ["harvest", "row"] (defScope s_bring_all) := ⟨rfl, rfl, rfl, by decide +kernel, rfl, by decide +kernel, by decide +kernel⟩
theorem ok_bringA (T : Tx K mg c) (D : Dn K mg "bring_all" s_bring_all ["harvest", "row"]) (C1 : Cl P w K mg base "make_trip" ["harvest", "course", "row"] 4 (spTrip c)) (C2 : ClM P w K mg base c.course "twin" ["self"] 3 (spTwin c))
    (C3 : Cl P w K mg base "parted_by_zone" ["harvest", "course", "row"] 1 (spPartsZ c)) : Cl P w K mg base "bring_all" ["harvest", "row"] 5 (spBring c) := by
  refine D.ok scBringA (fun vs H Q E h => ?_) (fun f cdv A outer s H vs Q E hr h => ?_)
  · obtain ⟨A, dco, ll, a, r, row, rfl, _⟩ := h
    rfl
  · obtain ⟨A, dco, ll, a, r, row, rfl, Z, hrow, hnd, hin, q⟩ := h
    obtain ⟨f1, fd1, G1, b1, m1, k1⟩ := C1
    obtain ⟨f2, fd2, G2, b2, m2⟩ := C2
    obtain ⟨f3, fd3, G3, b3, m3, k3⟩ := C3
    have hr1 : Room 1 _ := hr.mono (by decide)
    have hr3 : Room 3 _ := hr.mono (by decide)
    have nd := scBringA.nd
    refine ⟨_, pss_cons (ps_set (i := 2) nd rfl (Or.inr rfl) (pe_meth0 (pe_fld (pv 0) rfl) T.course m2 G2 hr3 b2 .nil pass0))
      (pss_cons (ps_set (i := 3) nd rfl (Or.inl rfl) (pe_lst pa_nil))
      (pss_cons (ps_for PassesOwn.never rfl (pi_list (pe_call G3 hr1 (by rfl) m3 k3 b3 .nil pass0 (pa_cons (pv 0) (pa_cons (pv 2) (pa_cons (pv 1) pa_nil))))) (pg_name (i := 4) nd rfl (Or.inl rfl))
        (pss_cons (ps_set (i := 5) nd rfl (Or.inl rfl) (pe_callB (cr_sum rfl) (by rfl) T.sum (by rfl) (pa_cons (pe_lc (te := tOp (rIxL K) (tFld K (tVar 2) "left") (tVar 7)) rfl nd (pi_list (pv 4))
            (blkOk_by (own := [("i", 7)]) (by refine (show blkC ["harvest", "row", "course", "trips", "part", "to_bring", "fetched", "i"] (defScope s_bring_all) _ [("i", 7)] = true from ?_); decide +kernel))
            (fun _ _ _ _ _ => pg_name (i := 7) nd rfl (Or.inl rfl)) (fun _ _ _ _ _ => pts_nil) (fun _ _ _ _ _ => pe_ix ix_list (pe_fld (pv 2) rfl) (pv 7) (fun _ _ => rfl))) pa_nil)))
        (pss_one (ps_while PassesOwn.never (pt_cmpR op_gt (pv 5) pe_int (nomark _))
          (pss_cons (ps_set (i := 6) nd rfl (Or.inl rfl) (pe_call G1 hr (by rfl) m1 k1 b1 .nil pass0 (pa_cons (pv 0) (pa_cons (pv 2) (pa_cons (pv 4) pa_nil)))))
          (pss_cons (ps_expr (pe_bm PySem.F.plainAttrs_list PySem.F.slot_list_append PySem.F.type_list_append mt_append (pv 3) (pa_cons (pe_tup (pa_cons (pe_fld (pv 2) rfl) (pa_cons (pv 6) pa_nil))) pa_nil)))
          (pss_one (ps_aug (i := 5) nd rfl (Or.inl rfl) (pv 6) ip_sub))))))))
      (pss_one (ps_ret (pv 3))))), ?_⟩
    have hl : (a.cages.map Kh332.Cage.kg).length = a.cages.length := List.length_map ..
    have hphi := Z.phi
    have hw0 : 0 < a.boat.well := by have := Z.ro.ok.well; omega
    have hr5 : row.length ≤ 5 := by
      have := HM.sub_len (r := List.range a.cages.length) hnd (fun i hi => List.mem_range.mpr (hin i hi))
      rw [List.length_range] at this
      exact Nat.le_trans this Z.nc
    refine rV rfl (rF Z.h T.harvest T.aCourse (hvF_course _ _) ⟨A.co, dco, _, rfl, Z.co.co, rfl, A.co, dco, ll, a.time, a.zone, _, rfl, Z.co, fun H1 co dx l hco hl1 C1 kp1 => ?_⟩)
    refine ⟨Nat.zero_le _, fun p hp => ?_⟩
    have kp2 : Keep [] H1 (upd H1 p (.lst [])) := Keep.refl.new hp
    have kp12 := kp1.trans kp2
    have Z2 := Z.same kp12
    have C2 := C1.same kp2
    have hpc : p ≠ co := (ne_of_none C1.co hp).symm
    have hpl : p ≠ l := (ne_of_none C1.ll hp).symm
    refine rV rfl (rV rfl (rV rfl ⟨A, a, co, dx, l, r, a.time, a.zone, _, row, rfl, Z2.ro, C2, kp12.same _ _ hrow, by omega, hin, hl, fun H3 pp ps hpp B PT kp3 => ?_⟩))
    have kp13 := kp12.trans kp3
    have Z3 := Z.same kp13
    have C3 := C2.same kp3
    have hpt3 := kp3.same _ _ (show upd H1 p (.lst []) p = some (.lst []) from upd_same)
    obtain ⟨as, h1', h2', h3', h4', h5', h6'⟩ := B.ex
    have nS : ∀ {x : Addr} {xs : List V}, upd H1 p (.lst []) x = none → H3 x = some (.lst xs) → x ∉ [co, l, p] := fun {x xs} hx _ m => by
      rcases List.mem_cons.mp m with m | m
      · rw [m, C2.co] at hx; cases hx
      · rcases List.mem_cons.mp m with m | m
        · rw [m, C2.ll] at hx; cases hx
        · rw [List.mem_singleton.mp m, upd_same] at hx; cases hx
    have fS : ∀ s ∈ [co, l, p], H s = none := fun s hs => by
      rcases List.mem_cons.mp hs with m | m
      · rw [m]; exact hco
      · rcases List.mem_cons.mp m with m | m
        · rw [m]; exact hl1
        · rw [List.mem_singleton.mp m]; exact kp1.fresh hp
    have hppS := nS hpp h1'
    refine ⟨pp, rfl, ⟨_, SqL.of h1'⟩, for_list (K := K) (a := pp) (xs := as.map V.ref) (fun k σ H' => ∃ (v4 v5 v6 v7 : Option V) (t' : Nat) (z' : Option Nat) (left' : List Nat) (done : List (Nat × Nat)), σ = [some (.ref A.h), some (.ref r), some (.ref co), some (.ref p), v4, v5, v6, v7] ∧
        Co c H' co dx l t' z' left' ∧ Prs H' p done ∧ HM.Bg a a.time a.zone (a.cages.map Kh332.Cage.kg) row ps k t' z' left' done ∧ Keep [co, l, p] H3 H')
      ⟨none, none, none, none, _, _, _, [], rfl, C3, Prs.nil hpt3, HM.Bg.start PT, Keep.refl⟩ (fun k σ H' _ h => ?_) ?_ ?_⟩
    · obtain ⟨_, _, _, _, _, _, _, _, _, _, _, _, kk⟩ := h
      exact SqL.of (kk _ _ h1' hppS)
    · rintro k y σ H4 hk ⟨v4, v5, v6, v7, t', z', left', done, rfl, C4, D4, BG, kp4⟩
      obtain ⟨x, hx, rfl⟩ := map_at hk
      obtain ⟨pt, hpt⟩ : ∃ pt, ps[k]? = some pt := ⟨_, List.getElem?_eq_getElem (by have := (List.getElem?_eq_some_iff.mp hx).1; omega)⟩
      have hpm := List.mem_of_getElem? hpt
      have hxp := h6' k x pt hx hpt
      have hxS := nS (h5' x (List.mem_of_getElem? hx)) hxp
      have hx4 := kp4 _ _ hxp hxS
      have hpin : ∀ i ∈ pt, i < a.cages.length := fun i hi => hin i (List.mem_filter.mp (HM.part_mem PT hpm hi)).1
      have hpnd := HM.part_nodup PT (hnd.filter _) hpm
      have hp5 : pt.length ≤ 5 := by
        have := HM.sub_len (r := List.range a.cages.length) hpnd (fun i hi => List.mem_range.mpr (hpin i hi))
        rw [List.length_range] at this
        exact Nat.le_trans this Z.nc
      have ek : ps.getD k [] = pt := by rw [List.getD_eq_getElem?_getD, hpt]; rfl
      have hll : left'.length = a.cages.length := BG.len.trans hl
      have nxl : x ≠ l := fun e => hxS (by simp [e])
      -- what is to bring
      refine rV rfl ⟨x, rfl, ⟨_, SqL.of hx4⟩, fun L hL => lc_list (K := K) (a := x) (xs := pt.map vN) (fun i H' => H' L = some (.lst (((pt.take i).map fun j => ((left'.getD j 0 : Nat) : Int)).map V.int)) ∧ Keep [] H4 H')
        ⟨upd_same, Keep.refl.new hL⟩ (fun i H' _ h => SqL.of (h.2.same _ _ hx4)) ?_ ?_⟩
      · rintro i y H5 hi ⟨hD, kp5⟩
        obtain ⟨n, hn, rfl⟩ := map_at hi
        have hnl := hpin n (List.mem_of_getElem? hn)
        obtain ⟨y, hy⟩ : ∃ y, left'[n]? = some y := ⟨_, List.getElem?_eq_getElem (by omega)⟩
        have ey : left'.getD n 0 = y := by rw [List.getD_eq_getElem?_getD, hy]; rfl
        have C5 := C4.same kp5
        refine ⟨rfl, rV rfl (rF C5.co T.course T.aLeft (courseF_left _ _ _) (rV rfl (rX (SqL.of C5.ll) (atI_nat (get_map hy)) ⟨_, hD, ?_, ?_, kp5.new' hL⟩)))⟩
        · rw [List.length_map, List.length_map, List.length_take]
          exact size_of (by omega)
        · rw [upd_same, HM.take_snoc hn, List.map_append, List.map_append, ← ey]
          rfl
      · rintro H5 ⟨hD, kp5⟩
        rw [List.length_map, List.take_length] at hD
        refine ⟨L, _, rfl, SqL.of hD, ?_⟩
        rw [sum_cast]
        have hx5 := kp5.same _ _ hx4
        have kp45 := kp4.trans (kp5.mono (by simp))
        refine ⟨fun m σ H' => ∃ (v6 : Option V) (t' : Nat) (z' : Option Nat) (left' : List Nat) (done : List (Nat × Nat)), m = HM.phi a.boat.well (a.cages.map Kh332.Cage.kg) - done.length ∧
            σ = [some (.ref A.h), some (.ref r), some (.ref co), some (.ref p), some (.ref x), some (vN (HM.sumAt left' pt)), v6, v7] ∧ Co c H' co dx l t' z' left' ∧ Prs H' p done ∧ HM.Bg a a.time a.zone (a.cages.map Kh332.Cage.kg) row ps k t' z' left' done ∧ Keep [co, l, p] H3 H',
          ⟨_, v6, t', z', left', done, rfl, rfl, C4.same kp5, D4.same kp5, BG, kp45⟩, ?_⟩
        rintro m σ H6 ⟨v6, t', z', left', done, rfl, rfl, C6, D6, BG, kp6⟩
        refine rV rfl (rI2 (rB ?_))
        refine if_d (fun h1 => ?_) (fun h1 => ?_)
        · have hne : HM.sumAt left' pt ≠ 0 := by omega
          have B7 := BG.trip PT hnd (fun i hi => by rw [hl]; exact hin i hi) hw0 hpt hne
          have hsum := HM.trip_sum (a := a) (t := t') (z := z') (left := left') hpnd (fun i hi => by rw [BG.len, hl]; exact hpin i hi)
          have hb0 := BG.ph
          have hb1 := B7.ph
          rw [List.length_append, List.length_singleton] at hb1
          refine ⟨_, fun σ' H' h => h, ?_⟩
          have R6 := (Z.same (kp13.drop kp6 fS)).ro
          refine rV rfl (rV rfl (rV rfl ⟨A, a, co, dx, l, x, t', z', left', pt, rfl, R6, C6, ne_of_none Z.ro.lc hl1, kp6 _ _ hxp hxS, nxl, (PT.one pt hpm).1, hpin, BG.len.trans hl, fun H7 C7 kp7 => ?_⟩))
          have D7 : Prs H7 p done := D6.keep kp7 (by simp [hpc, hpl]) (fun y xs hy hm => by
            rcases List.mem_cons.mp hm with hm | hm
            · exact ne_of hy C6.co (by intro z; cases z) hm
            · exact ne_of hy C6.ll (by intro z; cases z) (by simpa using hm))
          obtain ⟨pd, hpd, hpdl, _⟩ := id D7.ex
          generalize hX : Kh332.trip a t' z' left' pt = X at *
          refine rV rfl ⟨.inl ⟨rfl, _, SqL.of hpd⟩, rV rfl (rF C7.co T.course T.aHour (courseF_hour _ _ _) (rV rfl ⟨by show 2 ≤ sizeLine; decide, fun tp htp => ?_⟩))⟩
          have hpd2 : upd H7 tp (.tup [vN X.1, vN X.2.1]) p = some (.lst (pd.map V.ref)) := by
            rw [upd_ne (ne_of_none hpd htp)]
            exact hpd
          refine ⟨p, _, _, rfl, rfl, hpd2, (by rw [List.length_map, hpdl]; exact size_of (by omega)), ?_⟩
          have D8 := D7.push (e := (X.1, X.2.1)) htp hpd
          have kp8 : Keep [p] H7 (upd (upd H7 tp (.tup [vN X.1, vN X.2.1])) p (.lst (pd.map V.ref ++ [.ref tp]))) := (Keep.refl.new htp).set (by simp)
          have C8 : Co c (upd (upd H7 tp (.tup [vN X.1, vN X.2.1])) p (.lst (pd.map V.ref ++ [.ref tp]))) co dx l X.1 (some (Kh332.zoneOf a (pt.headD 0))) X.2.2 := ⟨kp8 _ _ C7.co (by simp [Ne.symm hpc]), kp8 _ _ C7.ll (by simp [Ne.symm hpl])⟩
          refine rV rfl (rV rfl (rI2 ⟨_, by show _ - (done ++ [(X.1, X.2.1)]).length < _; rw [List.length_append]; show _ - (done.length + 1) < _; omega, some (vN X.2.1), _, _, _, _, rfl, ?_, C8, D8, B7, (kp6.trans (kp7.mono (by simp))).trans (kp8.mono (by simp))⟩))
          have e : ((HM.sumAt left' pt : Nat) : Int) - ((X.2.1 : Nat) : Int) = ((HM.sumAt X.2.2 pt : Nat) : Int) := by omega
          show [_, _, _, _, _, some (V.int (((HM.sumAt left' pt : Nat) : Int) - ((X.2.1 : Nat) : Int))), _, _] = _
          rw [e]
        · have hz : HM.sumAt left' pt = 0 := by omega
          exact ⟨_, _, _, _, _, _, _, _, rfl, C6, D6, BG.next (by rw [ek]; exact hz), kp6⟩
    · rintro σ H4 ⟨v4, v5, v6, v7, t', z', left', done, rfl, C4, D4, BG, kp4⟩
      have ed : Kh332.brings a row = done := BG.fin (by rw [List.length_map, h2']; exact Nat.le_refl _) (Nat.le_trans hphi (by show 100 ≤ 120; decide))
      have hb := BG.ph
      refine rV rfl (q H4 p (fS p (by simp)) (by rw [ed]; exact D4) (by rw [ed]; omega) (kp13.drop kp4 fS))
/-- the last trip's end; now, if there's none -/
def spEndOf (c : Cs) : Sp := fun vs H Q _ => ∃ (A : Ra) (dco ll : Addr) (a : Kh332.Abs) (p : Addr) (d : List (Nat × Nat)), vs = [.ref A.h, .ref p] ∧ Hv c H A dco ll a ∧ Prs H p d ∧ Q (vN (Kh332.ends a d)) H
theorem scEndOf : FnScope ["harvest", "trips"] ["harvest", "trips"] (defScope s_end_of) := ⟨rfl, rfl, rfl, by decide +kernel, rfl, by decide +kernel, by decide +kernel⟩
theorem ok_endOf (T : Tx K mg c) (D : Dn K mg "end_of" s_end_of ["harvest", "trips"]) : Cl P w K mg base "end_of" ["harvest", "trips"] 1 (spEndOf c) := by
  refine D.ok scEndOf (fun vs H Q E h => ?_) (fun f cdv A outer s H vs Q E hr h => ?_)
  · obtain ⟨A, dco, ll, a, p, d, rfl, _⟩ := h
    rfl
  · obtain ⟨A, dco, ll, a, p, d, rfl, Z, B, q⟩ := h
    refine ⟨_, pss_cons (ps_if (pt_cmpR op_eq (pe_callB call_len_seq (by rfl) T.len (by rfl) (pa_cons (pv 1) pa_nil)) pe_int (nomark _)) (pss_one (ps_ret (pe_fld (pe_fld (pv 0) rfl) rfl))) pss_nil)
      (pss_one (ps_ret (pe_ix ix_seq (pe_ix ix_list (pv 1) (pe_un un_neg pe_int) (fun _ _ => rfl)) pe_int (fun _ _ => rfl)))), ?_⟩
    obtain ⟨ps, hps, hpl, hpt⟩ := B.ex
    refine rV rfl (rLen (SqL.of hps) ⟨rfl, rB ?_⟩)
    rw [List.length_map]
    refine if_d (fun h1 => ?_) (fun h1 => ?_)
    · have e : d = [] := List.length_eq_zero_iff.mp (by have := V.int.inj h1; omega)
      subst e
      exact rV rfl (rF Z.h T.harvest T.aCourse (hvF_course _ _) (rF Z.co.co T.course T.aHour (courseF_hour _ _ _) q))
    · obtain ⟨d', e, rfl⟩ := snoc_of (l := d) (fun e => by subst e; exact h1 (by rw [hpl]; rfl))
      obtain ⟨ps', x, rfl⟩ := snoc_of (l := ps) (fun e => by subst e; simp at hpl)
      have hal : ps'.length = d'.length := by simpa using hpl
      have hx := hpt ps'.length x e (by simp) (by rw [hal]; simp)
      have hat : atI ((ps' ++ [x]).map V.ref) (-1) = some (.ref x) := by
        rw [List.map_append]
        exact atI_last _ _
      refine rV rfl ⟨1, rfl, rX (SqL.of hps) hat (.inr (.inl ⟨x, _, _, _, rfl, rfl, SqT.of hx, atI_nat (j := 0) rfl, ?_⟩))⟩
      have ee : Kh332.ends a (d' ++ [e]) = e.1 := by
        unfold Kh332.ends
        rw [List.getLast?_concat]
        rfl
      rw [ee] at q
      exact q
end
end Hb

set_option Elab.async false
set_option linter.all false
set_option maxRecDepth 100000
set_option maxHeartbeats 2000000
/-! x < y of lists of ints; min of a list of such lists; xs.count(k) -/
namespace Hb
open PySem PySem.Spec PyProof.Rows L2
theorem ints_at : ∀ {us : List Value} {ns : List Int} {i : Nat} {v : Value}, IntsAre us ns → us[i]? = some v → ∃ z t, ns[i]? = some z ∧ v = .int z t
  | _, _, _, _, .nil, h => by cases h
  | _, _, 0, v, .cons n t _, h => ⟨n, t, rfl, (Option.some.inj h).symm⟩
  | _, _, i + 1, v, .cons n t hr, h => ints_at (i := i) hr h
section
open PySem.SeqAt
open PySem.AutoSeq1 (wpAny_loadPart')
open PySem.MeetsSeq PySem.MeetsSeq2 PySem.MeetsSeq3
abbrev lstO (d : Option Addr) (xs : Array Value) (n : Nat) (sl : Array (Option Value)) : Obj := { cls := .type "list", dict := d, data := .seq xs n, slots := sl }
theorem lt_turns {l b : Addr} {xs ys : Array Value} {n1 n2 : Nat} {d1 d2 : Option Addr} {s1 s2 : Array (Option Value)} {ns ms : List Int} (hi : IntsAre xs.toList ns) (hj : IntsAre ys.toList ms) :
    Meets (Builtin.«list.__eq__.loop» ⟨[.ref l, .ref b, rawInt ((0 : Nat) : Int), rawInt 0], []⟩) (fun _ R s => s.heap.get? l = some (lstO d1 xs n1 s1) ∧ s.heap.get? b = some (lstO d2 ys n2 s2) ∧ R (.ok (.ret (.bool (HT.lexLt ns ms)))) s) := by
  have z1 : xs.size = ns.length := by rw [← hi.length]; simp
  have z2 : ys.size = ms.length := by rw [← hj.length]; simp
  -- one of them is over
  have over : ∀ (i : Nat), (xs[i]? = none ∨ ys[i]? = none) → i ≤ xs.size → i ≤ ys.size → HT.lexLt (ns.drop i) (ms.drop i) = decide (xs.size < ys.size) := by
    intro i h h1 h2
    by_cases e : i < xs.size
    · have hy : ys.size ≤ i := by
        rcases h with h | h
        · rw [Array.getElem?_eq_none_iff] at h
          omega
        · exact Array.getElem?_eq_none_iff.mp h
      rw [List.drop_eq_nil_of_le (show ms.length ≤ i by omega), decide_eq_false (by omega)]
      cases q : ns.drop i with
      | nil => rfl
      | cons u v => rfl
    · rw [List.drop_eq_nil_of_le (show ns.length ≤ i by omega)]
      cases q : ms.drop i with
      | nil =>
        have : ms.length ≤ i := List.drop_eq_nil_iff.mp q
        rw [decide_eq_false (by omega)]
        rfl
      | cons u v =>
        have : ¬ ms.length ≤ i := fun h => by rw [List.drop_eq_nil_of_le h] at q; cases q
        rw [decide_eq_true (by omega)]
        rfl
  have go : ∀ (k i : Nat), xs.size - i = k → i ≤ xs.size → i ≤ ys.size → Meets (Builtin.«list.__eq__.loop» ⟨[.ref l, .ref b, rawInt i, rawInt 0], []⟩) (fun _ R s => s.heap.get? l = some (lstO d1 xs n1 s1) ∧ s.heap.get? b = some (lstO d2 ys n2 s2) ∧ R (.ok (.ret (.bool (HT.lexLt (ns.drop i) (ms.drop i))))) s) := by
    intro k
    induction k with
    | zero =>
      intro i hk hx hy prog w A R s h
      obtain ⟨heap, gens, dr, tk, os⟩ := s
      obtain ⟨hl, hb, h⟩ := h
      have e1 : xs[((i : Nat) : Int).toNat]? = none := by simp; omega
      rw [over i (.inl (by simpa using e1)) hx hy] at h
      wp_walk using wpAny_loadPart' hl, wpAny_loadPart' hb
      rw [e1]
      wp_walk using wpAny_loadPart' hl, wpAny_loadPart' hb
      exact h
    | succ k ih =>
      intro i hk hx hy prog w A R s h
      obtain ⟨heap, gens, dr, tk, os⟩ := s
      obtain ⟨hl, hb, h⟩ := h
      have lx : i < xs.size := by omega
      have e1 : xs[((i : Nat) : Int).toNat]? = some xs[i] := by simp [lx]
      by_cases ly : i < ys.size
      · have e2 : ys[((i : Nat) : Int).toNat]? = some ys[i] := by simp [ly]
        obtain ⟨za, ta, ha, va⟩ := ints_at (i := i) (v := xs[i]) hi (by simp [lx])
        obtain ⟨zb, tb, hb', vb⟩ := ints_at (i := i) (v := ys[i]) hj (by simp [ly])
        have da : ns.drop i = za :: ns.drop (i + 1) := by
          obtain ⟨p1, p2⟩ := List.getElem?_eq_some_iff.mp ha
          rw [← p2, List.getElem_cons_drop]
        have db : ms.drop i = zb :: ms.drop (i + 1) := by
          obtain ⟨p1, p2⟩ := List.getElem?_eq_some_iff.mp hb'
          rw [← p2, List.getElem_cons_drop]
        rw [da, db, HT.lexLt_cons] at h
        wp_walk using wpAny_loadPart' hl, wpAny_loadPart' hb
        rw [e1, e2, va, vb]
        obtain ⟨e, he, hiff⟩ := HT.eqAt_int A.in1 ⟨heap, gens, dr, tk, os⟩ za ta zb tb
        refine wpAny_bind (he prog w _ _ ?_)
        cases e with
        | true =>
          rw [if_pos (hiff.mp rfl)] at h
          have hc : ((i : Int) + 1) = ((i + 1 : Nat) : Int) := by push_cast; rfl
          wp_walk
          rw [hc]
          refine ⟨plainId_quiet plain_eq_loop _, codeAny_builtin entry_eq_loop ?_⟩
          rw [Around.under_plainId plain_eq_loop _]
          exact ih (i + 1) (by omega) (by omega) (by omega) prog w A R _ ⟨hl, hb, h⟩
        | false =>
          rw [if_neg (fun q => absurd (hiff.mpr q) Bool.false_ne_true)] at h
          have hri := HT.rcLt_int A.in1 ⟨heap, gens, dr, tk, os⟩ za ta zb tb prog w
          wp_walk using wpAny_loadPart' hl, wpAny_loadPart' hb
          rw [e1, e2, va, vb]
          wp_walk using hri
          exact h
      · have e2 : ys[((i : Nat) : Int).toNat]? = none := by simp; omega
        rw [over i (.inr (by simpa using e2)) hx hy] at h
        wp_walk using wpAny_loadPart' hl, wpAny_loadPart' hb
        rw [e1, e2]
        wp_walk using wpAny_loadPart' hl, wpAny_loadPart' hb
        exact h
  exact go _ 0 rfl (Nat.zero_le _) (Nat.zero_le _)
theorem lt_lists {l b : Addr} {xs ys : Array Value} {n1 n2 : Nat} {d1 d2 : Option Addr} {s1 s2 : Array (Option Value)} {ns ms : List Int} (hi : IntsAre xs.toList ns) (hj : IntsAre ys.toList ms) :
    Meets (Builtin.«list.__lt__» ⟨[.ref l, .ref b], []⟩) (fun _ R s => s.heap.get? l = some (lstO d1 xs n1 s1) ∧ s.heap.get? b = some (lstO d2 ys n2 s2) ∧ R (.ok (.ret (.bool (HT.lexLt ns ms)))) s) := by
  intro prog w A R s h
  obtain ⟨heap, gens, dr, tk, os⟩ := s
  obtain ⟨hl, hb, h⟩ := h
  have sub := AutoSeq1.sub_list_list
  wp_walk using wpAny_loadPart' hl, wpAny_loadPart' hb
  refine ⟨plainId_quiet plain_eq_loop _, codeAny_builtin entry_eq_loop ?_⟩
  rw [Around.under_plainId plain_eq_loop _]
  exact lt_turns hi hj prog w A R _ ⟨hl, hb, h⟩
end
section
variable {prog : Program} {w : World} {A : Around} {E : Value → Shared → Prop} {s : Shared} {l : Addr} {its : List Value} {bt : Nat → Nat → Bool}
/-- what was there is there -/
abbrev Kp (s : Shared) (h : Heap) : Prop := ∀ b o, s.heap.get? b = some o → h.get? b = some o
/-- the items can be told apart by <, wherever what was there is there -/
def Tells (prog : Program) (w : World) (A : Around) (s : Shared) (its : List Value) (bt : Nat → Nat → Bool) : Prop :=
  ∀ (i j : Nat) (u v : Value), its[i]? = some u → its[j]? = some v → ∀ (h : Heap) (tk : Nat) (Q E : Value → Shared → Prop), Kp s h → Q (.bool (bt i j)) { s with heap := h, toks := tk } → wpAny (model prog w) A (richCompare .Lt u v) Q E { s with heap := h, toks := tk }
theorem min_turns {R : Result → Shared → Prop} {itr cell : Addr} (hh : A.handled = none) (T : Tells prog w A.in1 s its bt) (hi : s.heap.objs.size ≤ itr) (hc : s.heap.objs.size ≤ cell) (hic : itr ≠ cell) (hl0 : l < s.heap.objs.size)
    (hR : ∀ v h tk, its[HM.best bt (its.length - 1)]? = some v → Kp s h → R (.ok (.ret v)) { s with heap := h, toks := tk }) :
    ∀ (k j : Nat) (h : Heap) (tk : Nat) (vb : Value) (n : Nat), its.length - (j + 1) = k → j + 1 ≤ its.length → h.IsListIter itr l (j + 1) → h.IsList l its.toArray → its[HM.best bt j]? = some vb → h.get? cell = some (lstO none #[vb, vb] n #[]) → Kp s h →
      codeAny (model prog w) A (.builtin "min.loop" ⟨[.ref itr, .none, .ref cell], []⟩) R { s with heap := h, toks := tk } := by
  have nm : (toString "min" ++ toString ".loop" : String) = "min.loop" := by decide
  have li : l ≠ itr := Nat.ne_of_lt (Nat.lt_of_lt_of_le hl0 hi)
  have lc : l ≠ cell := Nat.ne_of_lt (Nat.lt_of_lt_of_le hl0 hc)
  have W := Walks.list (prog := prog) (w := w) (A := A.in1) hh itr l li its.toArray
  have sz : its.toArray.size = its.length := List.size_toArray ..
  have low : ∀ {b : Addr} {o : Obj}, s.heap.get? b = some o → b ≠ itr ∧ b ≠ cell := fun {b o} e => by
    have := Heap.lt_size e
    exact ⟨Nat.ne_of_lt (Nat.lt_of_lt_of_le this hi), Nat.ne_of_lt (Nat.lt_of_lt_of_le this hc)⟩
  intro k
  induction k with
  | zero =>
    intro j h tk vb n hk hj it hl hb hcell kp
    have e : j + 1 = its.length := by omega
    refine codeAny_builtin PySem.F.entry_min_loop ?_
    rw [Around.under_plainId PySem.F.plain_min_loop _]
    show wpAny _ A.in1 (seqItems? (.ref cell) >>= _) _ _ _
    refine wpAny_bind (wpAny_seqItems hcell rfl ?_)
    show wpAny _ A.in1 (tryCatch (pyNext (.ref itr)) _ >>= _) _ _ _
    refine wpAny_bind (wpAny_tryCatch (W.done _ _ _ ⟨by rw [sz, ← e]; exact it, hl⟩ fun h1 tk1 k1 => ?_))
    show wpAny _ A.in1 (updateSeq cell (fun _ => #[]) >>= _) _ _ _
    refine wpAny_bind (wpAny_updateSeq (k1 cell _ (by simp [Ne.symm hic]) hcell) rfl (wpAny_bind (wpAny_letGo (wpAny_pure ?_))))
    refine hR vb _ tk1 (by rw [← e]; exact hb) fun b o eb => ?_
    obtain ⟨nb1, nb2⟩ := low eb
    exact (Heap.get?_update_other _ _ (Ne.symm nb2)).trans (k1 b o (by simp [nb1]) (kp b o eb))
  | succ k ih =>
    intro j h tk vb n hk hj it hl hb hcell kp
    have lt : j + 1 < its.length := by omega
    refine codeAny_builtin PySem.F.entry_min_loop ?_
    rw [Around.under_plainId PySem.F.plain_min_loop _]
    show wpAny _ A.in1 (seqItems? (.ref cell) >>= _) _ _ _
    refine wpAny_bind (wpAny_seqItems hcell rfl ?_)
    show wpAny _ A.in1 (tryCatch (pyNext (.ref itr)) _ >>= _) _ _ _
    refine wpAny_bind (wpAny_tryCatch (W.item (j + 1) _ _ _ (by rw [sz]; exact lt) ⟨it, hl⟩ fun v h1 tk1 hv st1 k1 => ?_))
    have hv : its[j + 1]? = some v := by simpa using hv
    have c1 := k1 cell _ (by simp [Ne.symm hic]) hcell
    have kp1 : Kp s h1 := fun b o eb => k1 b o (by simp [(low eb).1]) (kp b o eb)
    show wpAny _ A.in1 (tryCatch (holding [v, v] (richCompare .Lt v vb >>= _)) _ >>= _) _ _ _
    refine wpAny_bind (wpAny_tryCatch (wpAny_holding (wpAny_bind (T (j + 1) (HM.best bt j) v vb hv hb h1 tk1 _ _ kp1 ?_))))
    refine wpAny_bind (wpAny_holding (wpAny_truthy_bool ?_))
    refine wpAny_bind (wpAny_letGo (wpAny_pure ?_))
    cases q : bt (j + 1) (HM.best bt j) with
    | true =>
      simp only [if_true]
      refine wpAny_bind (wpAny_updateSeq c1 rfl (wpAny_bind (wpAny_letGo ?_)))
      rw [nm]
      have up : ∀ b, b ≠ cell → (h1.update cell (Obj.mapSeq fun _ => #[v, v])).get? b = h1.get? b := fun b hb => Heap.get?_update_other _ _ (Ne.symm hb)
      obtain ⟨st2, hl2⟩ := st1
      refine wpAny_pure ⟨plainId_quiet PySem.F.plain_min_loop _, ih (j + 1) _ _ v _ (by omega) lt (st2.at fun o e => (up itr hic).trans e) ?_ ?_ (Heap.get?_update_self _ c1 rfl) fun b o eb => (up b (low eb).2).trans (kp1 b o eb)⟩
      · obtain ⟨ol, e1, e2⟩ := hl2
        exact ⟨ol, (up l lc).trans e1, e2⟩
      · rw [HM.best, q, if_pos rfl]
        exact hv
    | false =>
      simp only [Bool.false_eq_true, if_false]
      refine wpAny_bind (wpAny_letGo ?_)
      rw [nm]
      refine wpAny_pure ⟨plainId_quiet PySem.F.plain_min_loop _, ih (j + 1) _ _ vb n (by omega) lt st1.1 st1.2 ?_ c1 kp1⟩
      rw [HM.best, q, if_neg Bool.false_ne_true]
      exact hb
theorem min_lists {Q : Value → Shared → Prop} (hh : A.handled = none) (T : Tells prog w A.in1 s its bt) (hl : s.heap.IsList l its.toArray) (hne : 0 < its.length)
    (hQ : ∀ v h tk, its[HM.best bt (its.length - 1)]? = some v → Kp s h → Q v { s with heap := h, toks := tk }) : wpAny (model prog w) A (call (.builtin "min") [.ref l]) Q E s := by
  have nm : (toString "min" ++ toString ".loop" : String) = "min.loop" := by decide
  have hl0 : l < s.heap.objs.size := by
    obtain ⟨_, e, _⟩ := hl
    exact Heap.lt_size e
  refine call_function_tree PySem.F.kind_min PySem.F.plain_min PySem.F.entry_min (PySem.F.args_min1 _) ?_
  have ep : Builtin.Builtins.bindParams "min" ["key", "default"] 0 ⟨[], []⟩ = pure [none, none] := rfl
  show wpAny _ A.in1 (Builtin.Builtins.bindParams "min" ["key", "default"] 0 ⟨[], []⟩ >>= _) _ _ _
  rw [ep]
  refine wpAny_bind (wpAny_pure (wpAny_bind (wpAny_pure ?_)))
  refine wpAny_bind (wpAny_pyIter_list hl ?_)
  refine wpAny_bind (wpAny_newObj_type ?_)
  rw [nm]
  refine wpAny_pure ⟨plainId_quiet PySem.F.plain_min_loop _, ?_⟩
  generalize hi1 : s.heap.push { cls := .type "list_iterator", data := .fields #[.ref l, .int 0 0] } = h1
  have it1 : h1.IsListIter s.heap.objs.size l 0 := by
    rw [← hi1]
    exact ⟨_, Heap.get?_push_size _ rfl, rfl, rfl⟩
  have kp1 : Kp s h1 := fun b o e => by
    rw [← hi1]
    exact Heap.get?_push_of_some _ e
  have z1 : h1.objs.size = s.heap.objs.size + 1 := by
    rw [← hi1]
    exact Heap.size_push _ _
  show codeAny _ A (.builtin "min.loop" ⟨[.ref s.heap.objs.size, .none, .ref h1.objs.size], []⟩) _ { s with heap := h1.push _ }
  generalize hc2 : h1.push { cls := .type "list", data := .seq #[] } = h2
  have c2 : h2.get? h1.objs.size = some (lstO none #[] 0 #[]) := by
    rw [← hc2]
    exact Heap.get?_push_size _ rfl
  have k12 : ∀ b o, h1.get? b = some o → h2.get? b = some o := fun b o e => by
    rw [← hc2]
    exact Heap.get?_push_of_some _ e
  have ne : s.heap.objs.size ≠ h1.objs.size := by omega
  have li : l ≠ s.heap.objs.size := Nat.ne_of_lt hl0
  have W := Walks.list (prog := prog) (w := w) (A := A.in1) hh s.heap.objs.size l li its.toArray
  have sz : its.toArray.size = its.length := List.size_toArray ..
  have hl2 : h2.IsList l its.toArray := by
    obtain ⟨ol, e1, e2⟩ := hl
    exact ⟨ol, k12 _ _ (kp1 _ _ e1), e2⟩
  refine codeAny_builtin PySem.F.entry_min_loop ?_
  rw [Around.under_plainId PySem.F.plain_min_loop _]
  show wpAny _ A.in1 (seqItems? (.ref h1.objs.size) >>= _) _ _ _
  refine wpAny_bind (wpAny_seqItems c2 rfl ?_)
  show wpAny _ A.in1 (tryCatch (pyNext (.ref s.heap.objs.size)) _ >>= _) _ _ _
  refine wpAny_bind (wpAny_tryCatch (W.item 0 _ _ _ (by rw [sz]; exact hne) ⟨it1.at fun o e => k12 _ _ e, hl2⟩ fun v h3 tk3 hv st3 k3 => ?_))
  have c3 := k3 h1.objs.size _ (by simp [Ne.symm ne]) c2
  show wpAny _ A.in1 (updateSeq h1.objs.size (fun _ => #[v, v]) >>= _) _ _ _
  refine wpAny_bind (wpAny_updateSeq c3 rfl ?_)
  rw [nm]
  have up : ∀ b, b ≠ h1.objs.size → (h3.update h1.objs.size (Obj.mapSeq fun _ => #[v, v])).get? b = h3.get? b := fun b hb => Heap.get?_update_other _ _ (Ne.symm hb)
  obtain ⟨st4, hl4⟩ := st3
  refine wpAny_pure ⟨plainId_quiet PySem.F.plain_min_loop _, min_turns hh T (Nat.le_refl _) (by omega) ne hl0 hQ _ 0 _ _ v _ rfl hne (st4.at fun o e => (up _ ne).trans e) ?_ (show its[0]? = some v by simpa using hv) (Heap.get?_update_self _ c3 rfl) fun b o eb => ?_⟩
  · obtain ⟨ol, e1, e2⟩ := hl4
    exact ⟨ol, (up l (Nat.ne_of_lt (by rw [z1]; exact Nat.lt_succ_of_lt hl0))).trans e1, e2⟩
  · have lb := Heap.lt_size eb
    have nb : b ≠ s.heap.objs.size := Nat.ne_of_lt lb
    refine (up b (Nat.ne_of_lt (by rw [z1]; exact Nat.lt_succ_of_lt lb))).trans (k3 b o (by simp [nb]) (k12 b o (kp1 b o eb)))
end
section
variable {X : Cx}
/-- min(xs) of a list of lists of ints: the first of the least -/
def rMinL (K : PySem.W.Frag) : List V → Hp → VK → Prop := fun vs H Q => ∃ (a : Addr) (ps : List Addr) (rs : List (List Int)), vs = [V.ref a] ∧ SqL K H a (ps.map V.ref) ∧ ps.length = rs.length ∧ 0 < rs.length ∧ (∀ (i : Nat) (p : Addr) (r : List Int), ps[i]? = some p → rs[i]? = some r → SqL K H p (r.map V.int)) ∧
  ∀ p, ps[HM.best (fun i j => HT.lexLt (rs.getD i []) (rs.getD j [])) (rs.length - 1)]? = some p → Q (.ref p) H
theorem vals_refs : ∀ {ps : List Addr} {us : List Value}, Vals (ps.map V.ref) us → us = ps.map Value.ref
  | [], us, h => by
    rw [List.map_nil] at h
    cases h
    rfl
  | p :: ps, us, h => by
    rw [List.map_cons] at h
    cases h with
    | cons r t =>
      cases r
      rw [vals_refs t, List.map_cons]
theorem cr_minL (hc : X.calm = true) (hu : X.A.units + 1 < cLine) : CallR X (.builtin "min") (rMinL X.K) := by
  intro pins s σ H vs us Q I r h
  obtain ⟨a, ps, rs, rfl, hs, hl, hne, hrs, q⟩ := h
  obtain ⟨its, rv, pl, _⟩ := I.list hs
  rw [Vals.ref1 r]
  have ei := vals_refs rv
  subst ei
  refine min_lists (bt := fun i j => HT.lexLt (rs.getD i []) (rs.getD j [])) (I.ok.hd hc) ?_ pl.isList (by rw [List.length_map]; omega) ?_
  · intro i j u v hi hj h' tk Q' E' kp hQ
    have item : ∀ {i : Nat} {u : Value}, (ps.map Value.ref)[i]? = some u → ∃ p, u = .ref p ∧ ∃ (xs : Array Value) (n : Nat) (d : Option Addr) (sl : Array (Option Value)), h'.get? p = some (lstO d xs n sl) ∧ IntsAre xs.toList (rs.getD i []) := by
      intro i u hi
      rw [List.getElem?_map] at hi
      cases ep : ps[i]? with
      | none =>
        rw [ep] at hi
        cases hi
      | some p =>
        rw [ep] at hi
        obtain ⟨x, hx⟩ : ∃ x, rs[i]? = some x := ⟨_, List.getElem?_eq_getElem (by have := (List.getElem?_eq_some_iff.mp ep).1; omega)⟩
        obtain ⟨it2, rv2, ⟨⟨cls, dd, data, sl⟩, n, ho, hc', hdn, hd⟩, _⟩ := I.list (hrs i p x ep hx)
        simp only at hc' hd
        subst hc' hd
        refine ⟨p, (Option.some.inj hi).symm, _, n, dd, sl, kp _ _ ho, ?_⟩
        rw [List.getD_eq_getElem?_getD, hx]
        exact intsAre_of rv2
    obtain ⟨p, rfl, xs, n, d, sl, hp, hpi⟩ := item hi
    obtain ⟨p', rfl, ys, n', d', sl', hp', hpi'⟩ := item hj
    exact richCompare_meets_room (op := .Lt) ⟨_, hp, rfl⟩ ⟨_, hp', rfl⟩ PySem.F.slot_list_lt PySem.F.entry_list_lt (PySem.F.args_list_lt_2 _ _) (lt_lists hpi hpi') ⟨hp, hp', (fun x => nomatch x), hQ⟩ hu
  · intro v h' tk hv kp
    rw [List.length_map, hl, List.getElem?_map] at hv
    cases ep : ps[HM.best (fun i j => HT.lexLt (rs.getD i []) (rs.getD j [])) (rs.length - 1)]? with
    | none =>
      rw [ep] at hv
      cases hv
    | some p =>
      rw [ep] at hv
      have ev : Value.ref p = v := Option.some.inj hv
      subst ev
      exact ⟨.ref p, H, I.kept kp, rfl, q p ep⟩
/-- xs.count(k), whole numbers -/
def rCnt (K : PySem.W.Frag) : V → List V → Hp → VK → Prop := fun x vs H Q => ∃ (a : Addr) (ns : List Nat) (k : Nat), x = V.ref a ∧ vs = [vN k] ∧ SqL K H a (ns.map vN) ∧ Q (vN (ns.count k)) H
theorem mt_cnt : MtR X "list.count" (rCnt X.K) := by
  intro pins s σ H x vs v us Q I rx r h
  obtain ⟨a, ns, k, rfl, rfl, hs, q⟩ := h
  cases rx
  cases r with
  | cons ry rt =>
    rename_i uy ut
    cases rt
    obtain ⟨its, rv, ⟨⟨cls, dd, data, sl⟩, n, ho, hc, hdn, hd⟩, hlen⟩ := I.list hs
    simp only at hc hd
    subst hc hd
    refine call_meets PySem.F.slot_list_count ⟨_, ho, rfl⟩ PySem.F.entry_list_count (PySem.F.args_list_count_2 _ _) (SeqAt.list_countAt a its.toArray n dd sl uy (eqU (vN k))) ⟨ho, fun u hu => mem_eqAt ry rfl rv (flat_nat ns) u (by simpa using hu), ?_⟩
    have e : its.countP (eqU (vN k)) = ns.count k := by
      have go : ∀ (ns : List Nat) (us : List Value), Vals (ns.map vN) us → us.countP (eqU (vN k)) = ns.count k := by
        intro ns
        induction ns with
        | nil =>
          intro us hv
          cases hv
          rfl
        | cons m ns ih =>
          intro us hv
          cases hv with
          | cons r1 r2 =>
            obtain ⟨t, rfl⟩ := r1
            rw [List.countP_cons, List.count_cons, ih _ r2]
            have : eqU (vN k) (.int (m : Int) t) = (m == k) := by
              show ((m : Int) == (k : Int)) = (m == k)
              rw [Bool.eq_iff_iff, beq_iff_eq, beq_iff_eq]
              omega
            rw [this]
      exact go ns its rv
    show wants _ _ _ _
    exact ⟨vN (ns.count k), H, I.tok _, ⟨_, by rw [show its.toArray.toList = its by simp, e]⟩, q⟩
end
end Hb

set_option Elab.async false
set_option linter.all false
set_option maxRecDepth 100000
set_option maxHeartbeats 2000000
/-! with_count, bring, late_and_end, late, washes, by_when, brought, filled, look, state -/
namespace Hb
open PySem PySem.Spec PyProof.Rows L2
theorem flat2_len : ∀ (m : List (Nat × Nat)), (m.flatMap fun x => [x.1, x.2]).length = 2 * m.length
  | [] => rfl
  | u :: m => by
    rw [List.flatMap_cons, List.length_append, flat2_len m]
    show 2 + 2 * m.length = 2 * (m.length + 1)
    omega
theorem Prs.cat {H : Hp} {p q x : Addr} {d e : List (Nat × Nat)} {ps qs : List Addr} (B : Prs H p d) (C : Prs H q e) (hp : H p = some (.lst (ps.map V.ref))) (hq : H q = some (.lst (qs.map V.ref))) (hx : H x = none) :
    Prs (upd H x (.lst (ps.map V.ref ++ qs.map V.ref))) x (d ++ e) := by
  obtain ⟨ps', h1, h2, h3⟩ := B.ex
  obtain ⟨qs', g1, g2, g3⟩ := C.ex
  have e1 := Lls.inj h1 hp
  have e2 := Lls.inj g1 hq
  subst e1 e2
  have k : Keep [] H (upd H x (.lst (ps'.map V.ref ++ qs'.map V.ref))) := Keep.refl.new hx
  refine ⟨ps' ++ qs', by rw [upd_same, List.map_append], by simp [h2, g2], fun i y u hy hu => k.same _ _ ?_⟩
  by_cases hi : i < ps'.length
  · rw [List.getElem?_append_left hi] at hy
    rw [List.getElem?_append_left (by omega)] at hu
    exact h3 i y u hy hu
  · rw [List.getElem?_append_right (by omega)] at hy hu
    rw [h2] at hy
    exact g3 _ y u hy hu
section
variable {P : Program} {w : World} {K : PySem.W.Frag} {mg : Str → Option Value} {base : Heap} {c : Cs}
/-! ### with_count -/
def spCount : Sp := fun vs H Q _ => ∃ (p : Addr) (d : List (Nat × Nat)), vs = [.ref p] ∧ Prs H p d ∧ d.length ≤ 6000 ∧
  ∀ (H' : Hp) (x : Addr), H x = none → H' x = some (.lst ((d.length :: d.flatMap fun x => [x.1, x.2]).map vN)) → Keep [] H H' → Q (.ref x) H'
theorem scCount : FnScope ["trips", "told", "end", "kg"] ["trips"] (defScope s_with_count) := ⟨rfl, rfl, rfl, by decide +kernel, rfl, by decide +kernel, by decide +kernel⟩
theorem big_size {n : Nat} (h : n ≤ 20000) : n < sizeLine := Nat.lt_of_le_of_lt h (by decide)
theorem ok_count (T : Tx K mg c) (D : Dn K mg "with_count" s_with_count ["trips"]) : Cl P w K mg base "with_count" ["trips"] 1 spCount := by
  refine D.ok scCount (fun vs H Q E h => ?_) (fun f cdv A outer s H vs Q E hr h => ?_)
  · obtain ⟨p, d, rfl, _⟩ := h
    rfl
  · obtain ⟨p, d, rfl, B, hd, q⟩ := h
    have nd := scCount.nd
    refine ⟨_, pss_cons (ps_set (i := 1) nd rfl (Or.inl rfl) (pe_lst (pa_cons (pe_callB call_len_seq (by rfl) T.len (by rfl) (pa_cons (pv 0) pa_nil)) pa_nil)))
      (pss_cons (ps_for PassesOwn.never rfl (pi_list (pv 0)) (pg_tup rfl (pgs_cons (pg_name (i := 2) nd rfl (Or.inl rfl)) (pgs_cons (pg_name (i := 3) nd rfl (Or.inl rfl)) pgs_nil)))
        (pss_cons (ps_expr (pe_bm PySem.F.plainAttrs_list PySem.F.slot_list_append PySem.F.type_list_append mt_append (pv 1) (pa_cons (pv 2) pa_nil)))
        (pss_one (ps_expr (pe_bm PySem.F.plainAttrs_list PySem.F.slot_list_append PySem.F.type_list_append mt_append (pv 1) (pa_cons (pv 3) pa_nil))))))
      (pss_one (ps_ret (pv 1)))), ?_⟩
    obtain ⟨ps, hps, hpl, hpt⟩ := B.ex
    refine rV rfl (rLen (SqL.of hps) ⟨by show 1 ≤ sizeLine; decide, fun x hx => ?_⟩)
    have k1 : Keep [] H (upd H x (.lst [V.int ((ps.map V.ref).length : Nat)])) := Keep.refl.new hx
    refine rV rfl ⟨p, rfl, ⟨_, SqL.of (k1.same _ _ hps)⟩, for_list (K := K) (a := p) (xs := ps.map V.ref) (fun i σ H' => ∃ (v2 v3 : Option V), σ = [some (.ref p), some (.ref x), v2, v3] ∧
        H' x = some (.lst ((d.length :: (d.take i).flatMap fun x => [x.1, x.2]).map vN)) ∧ Keep [] H H')
      ⟨none, none, rfl, ?_, k1⟩ (fun i σ H' _ h => ?_) ?_ ?_⟩
    · rw [upd_same, List.length_map, hpl]
      rfl
    · obtain ⟨_, _, _, _, k⟩ := h
      exact SqL.of (k.same _ _ hps)
    · rintro i y σ H' hi ⟨v2, v3, rfl, hx', kp⟩
      obtain ⟨y, hy, rfl⟩ := map_at hi
      obtain ⟨e, he, hye⟩ := prs_at hpl hpt hy
      have hfl : ((d.take i).flatMap fun x => [x.1, x.2]).length ≤ 12000 := by
        rw [flat2_len, List.length_take]
        omega
      refine gPair (kp.same _ _ hye) ?_
      refine rV rfl ⟨.inl ⟨rfl, _, SqL.of hx'⟩, rV rfl ⟨x, _, _, rfl, rfl, hx', by rw [List.length_map, List.length_cons]; exact big_size (by omega), ?_⟩⟩
      refine rV rfl ⟨.inl ⟨rfl, _, SqL.of upd_same⟩, rV rfl ⟨x, _, _, rfl, rfl, upd_same, by rw [List.length_append, List.length_map, List.length_cons]; exact big_size (by show _ + 1 ≤ _; omega), ?_⟩⟩
      refine ⟨_, _, rfl, ?_, (kp.new' hx).new' hx⟩
      rw [upd_same, HM.take_snoc he, List.flatMap_append, List.map_cons, List.map_cons, List.map_append, List.cons_append, List.cons_append, List.append_assoc]
      rfl
    · rintro σ H' ⟨v2, v3, rfl, hx', kp⟩
      rw [List.length_map, hpl, List.take_length] at hx'
      exact rV rfl (q H' x hx hx' kp)
/-! ### bring -/
theorem scBringC : FnScope ["harvest", "row", "trips"] ["harvest", "row"] (defScope s_bring) := ⟨rfl, rfl, rfl, by decide +kernel, rfl, by decide +kernel, by decide +kernel⟩
theorem ok_bringC (T : Tx K mg c) (D : Dn K mg "bring" s_bring ["harvest", "row"]) (C1 : Cl P w K mg base "is_row_of_cages" ["harvest", "row"] 1 (spRow c)) (C2 : Cl P w K mg base "bring_all" ["harvest", "row"] 5 (spBring c))
    (C3 : Cl P w K mg base "end_of" ["harvest", "trips"] 1 (spEndOf c)) (C4 : Cl P w K mg base "with_count" ["trips"] 1 spCount) : Cl P w K mg base "bring" ["harvest", "row"] 6 (spC c (relRow .bring)) := by
  refine D.ok scBringC (fun vs H Q E h => ?_) (fun f cdv A outer s H vs Q E hr h => ?_)
  · obtain ⟨A, dco, ll, a, args, cl, rfl, ⟨r, row, rfl, _⟩, _⟩ := h
    rfl
  · obtain ⟨A, dco, ll, a, args, cl, rfl, ⟨r, row, rfl, hrow, hrs, hr8, rfl⟩, Z, hbr, q⟩ := h
    obtain ⟨f1, fd1, G1, b1, m1, k1⟩ := C1
    obtain ⟨f2, fd2, G2, b2, m2, k2⟩ := C2
    obtain ⟨f3, fd3, G3, b3, m3, k3⟩ := C3
    obtain ⟨f4, fd4, G4, b4, m4, k4⟩ := C4
    have hr1 : Room 1 _ := hr.mono (by decide)
    have nd := scBringC.nd
    refine ⟨_, pss_cons (ps_if (pt_not (pt_val (pe_call G1 hr1 (by rfl) m1 k1 b1 .nil pass0 (pa_cons (pv 0) (pa_cons (pv 1) pa_nil))))) (pss_one (ps_ret (pe_lst (pa_cons (pg_int T.rNotTold) pa_nil)))) pss_nil)
      (pss_cons (ps_set (i := 2) nd rfl (Or.inl rfl) (pe_call G2 hr (by rfl) m2 k2 b2 .nil pass0 (pa_cons (pv 0) (pa_cons (pv 1) pa_nil))))
      (pss_one (ps_ret (pe_op op_cat (pe_lst (pa_cons (pe_call G3 hr1 (by rfl) m3 k3 b3 .nil pass0 (pa_cons (pv 0) (pa_cons (pv 2) pa_nil))) pa_nil)) (pe_call G4 hr1 (by rfl) m4 k4 b4 .nil pass0 (pa_cons (pv 2) pa_nil)))))), ?_⟩
    refine rV rfl (rV rfl ⟨A, a, r, row, rfl, Z.ro, hrow, fun H1 kp1 => rB ?_⟩)
    cases hok : Kh332.okRow a row with
    | false =>
      refine iteT (tell1 Z q kp1 ?_)
      unfold Kh332.doing
      dsimp only
      rw [if_pos hok]
    | true =>
      refine iteF ?_
      have Z1 := Z.same kp1
      refine rV rfl (rV rfl ⟨A, dco, ll, a, r, row, rfl, Z1, kp1.same _ _ hrow, okRow_nd hok, okRow_lt hok, fun H2 p hp B hd kp2 => ?_⟩)
      have kp12 := kp1.trans kp2
      have edo : Kh332.doing (some a) (.bring row) = (some a, ⟨Kh332.ends a (Kh332.brings a row), (Kh332.brings a row).length :: (Kh332.brings a row).flatMap fun x => [x.1, x.2]⟩) := by
        unfold Kh332.doing
        dsimp only
        rw [if_neg (by rw [hok]; simp)]
      generalize Kh332.brings a row = d at *
      refine rV rfl (rV rfl ⟨A, dco, ll, a, p, d, rfl, Z.same kp12, B, by show 1 ≤ sizeLine; decide, fun l1 hl1 => ?_⟩)
      have kp3 : Keep [] H2 (upd H2 l1 (.lst [vN (Kh332.ends a d)])) := Keep.refl.new hl1
      refine rV rfl ⟨p, d, rfl, B.same kp3, by omega, fun H4 l2 hl2 hl2' kp4 => ?_⟩
      refine ⟨l1, l2, _, _, rfl, rfl, kp4.same _ _ upd_same, hl2', ?_, fun x hx => ?_⟩
      · have e : ((d.length :: d.flatMap fun x => [x.1, x.2]).map vN).length = 2 * d.length + 1 := by
          rw [List.length_map, List.length_cons, flat2_len]
        show 1 + _ ≤ _
        rw [e]
        exact Nat.le_of_lt (size_of (by omega))
      · exact Z.told q (kp12.trans (kp3.trans kp4)) hx edo rfl
/-! ### late_and_end -/
def spLateEnd (c : Cs) : Sp := fun vs H Q _ => ∃ (A : Ra) (dco ll : Addr) (a : Kh332.Abs) (r : Addr) (row : List Nat), vs = [.ref A.h, .ref r] ∧ Hv c H A dco ll a ∧ a.brought.length ≤ 5000 ∧ H r = some (.lst (row.map vN)) ∧ row.Nodup ∧ (∀ i ∈ row, i < a.cages.length) ∧
  ∀ (H' : Hp) (p : Addr), H p = none → H' p = some (.lst [vN (Kh332.late a (Kh332.brings a row)), vN (Kh332.ends a (Kh332.brings a row))]) → Keep [] H H' → Q (.ref p) H'
theorem scLateEnd : FnScope ["harvest", "row", "trips"] ["harvest", "row"] (defScope s_late_and_end) := ⟨rfl, rfl, rfl, by decide +kernel, rfl, by decide +kernel, by decide +kernel⟩
theorem ok_lateEnd (T : Tx K mg c) (D : Dn K mg "late_and_end" s_late_and_end ["harvest", "row"]) (C2 : Cl P w K mg base "bring_all" ["harvest", "row"] 5 (spBring c))
    (C3 : Cl P w K mg base "end_of" ["harvest", "trips"] 1 (spEndOf c)) (C4 : Cl P w K mg base "hours_late" ["orders", "trips"] 3 spHoursLate) : Cl P w K mg base "late_and_end" ["harvest", "row"] 6 (spLateEnd c) := by
  refine D.ok scLateEnd (fun vs H Q E h => ?_) (fun f cdv A outer s H vs Q E hr h => ?_)
  · obtain ⟨A, dco, ll, a, r, row, rfl, _⟩ := h
    rfl
  · obtain ⟨A, dco, ll, a, r, row, rfl, Z, hbr, hrow, hnd, hin, q⟩ := h
    obtain ⟨f2, fd2, G2, b2, m2, k2⟩ := C2
    obtain ⟨f3, fd3, G3, b3, m3, k3⟩ := C3
    obtain ⟨f4, fd4, G4, b4, m4, k4⟩ := C4
    have hr1 : Room 1 _ := hr.mono (by decide)
    have hr3 : Room 3 _ := hr.mono (by decide)
    have nd := scLateEnd.nd
    refine ⟨_, pss_cons (ps_set (i := 2) nd rfl (Or.inl rfl) (pe_call G2 hr (by rfl) m2 k2 b2 .nil pass0 (pa_cons (pv 0) (pa_cons (pv 1) pa_nil))))
      (pss_one (ps_ret (pe_lst (pa_cons (pe_call G4 hr3 (by rfl) m4 k4 b4 .nil pass0 (pa_cons (pe_fld (pv 0) rfl) (pa_cons (pe_op op_cat (pe_fld (pv 0) rfl) (pv 2)) pa_nil)))
        (pa_cons (pe_call G3 hr1 (by rfl) m3 k3 b3 .nil pass0 (pa_cons (pv 0) (pa_cons (pv 2) pa_nil))) pa_nil))))), ?_⟩
    refine rV rfl (rV rfl ⟨A, dco, ll, a, r, row, rfl, Z, hrow, hnd, hin, fun H1 p hp B hd kp1 => ?_⟩)
    have Z1 := Z.same kp1
    obtain ⟨ps, hps, hpl, hpt⟩ := id B.ex
    obtain ⟨qs, hqs, hql, hqt⟩ := id Z1.lt.ex
    refine rV rfl (rF Z1.h T.harvest T.aOrders (hvF_orders _ _) (rV rfl (rF Z1.h T.harvest T.aTrips (hvF_trips _ _) (rV rfl ⟨A.lt, p, _, _, rfl, rfl, hqs, hps, ?_, fun x hx => ?_⟩))))
    · rw [List.length_map, List.length_map, hql, hpl]
      exact Nat.le_of_lt (size_of (by omega))
    · have B2 := Z1.lt.cat B hqs hps hx
      have kp2 : Keep [] H1 (upd H1 x (.lst (qs.map V.ref ++ ps.map V.ref))) := Keep.refl.new hx
      refine ⟨A.lo, x, a.orders, _, rfl, Z1.lo.same kp2, B2, Z.no, fun H3 kp3 => ?_⟩
      have kp23 := kp2.trans kp3
      refine rV rfl (rV rfl ⟨A, dco, ll, a, p, _, rfl, Z1.same kp23, B.same kp23, by show 2 ≤ sizeLine; decide, fun y hy => ?_⟩)
      exact q _ y ((kp1.trans kp23).fresh hy) upd_same ((kp1.trans kp23).new hy)
/-! ### late -/
theorem scLate : FnScope ["harvest", "row"] ["harvest", "row"] (defScope s_late) := ⟨rfl, rfl, rfl, by decide +kernel, rfl, by decide +kernel, by decide +kernel⟩
theorem ok_late (T : Tx K mg c) (D : Dn K mg "late" s_late ["harvest", "row"]) (C1 : Cl P w K mg base "is_row_of_cages" ["harvest", "row"] 1 (spRow c)) (C2 : Cl P w K mg base "late_and_end" ["harvest", "row"] 6 (spLateEnd c)) : Cl P w K mg base "late" ["harvest", "row"] 7 (spC c (relRow .late)) := by
  refine D.ok scLate (fun vs H Q E h => ?_) (fun f cdv A outer s H vs Q E hr h => ?_)
  · obtain ⟨A, dco, ll, a, args, cl, rfl, ⟨r, row, rfl, _⟩, _⟩ := h
    rfl
  · obtain ⟨A, dco, ll, a, args, cl, rfl, ⟨r, row, rfl, hrow, hrs, hr8, rfl⟩, Z, hbr, q⟩ := h
    obtain ⟨f1, fd1, G1, b1, m1, k1⟩ := C1
    obtain ⟨f2, fd2, G2, b2, m2, k2⟩ := C2
    have hr1 : Room 1 _ := hr.mono (by decide)
    refine ⟨_, pss_cons (ps_if (pt_not (pt_val (pe_call G1 hr1 (by rfl) m1 k1 b1 .nil pass0 (pa_cons (pv 0) (pa_cons (pv 1) pa_nil))))) (pss_one (ps_ret (pe_lst (pa_cons (pg_int T.rNotTold) pa_nil)))) pss_nil)
      (pss_one (ps_ret (pe_slice sl_list (pe_call G2 hr (by rfl) m2 k2 b2 .nil pass0 (pa_cons (pv 0) (pa_cons (pv 1) pa_nil))) po_none (po_some pe_int)))), ?_⟩
    refine rV rfl (rV rfl ⟨A, a, r, row, rfl, Z.ro, hrow, fun H1 kp1 => rB ?_⟩)
    cases hok : Kh332.okRow a row with
    | false =>
      refine iteT (tell1 Z q kp1 ?_)
      unfold Kh332.doing
      dsimp only
      rw [if_pos hok]
    | true =>
      refine iteF ?_
      refine rV rfl (rV rfl ⟨A, dco, ll, a, r, row, rfl, Z.same kp1, hbr, kp1.same _ _ hrow, okRow_nd hok, okRow_lt hok, fun H2 p hp hp2 kp2 => ⟨1, rfl, p, _, rfl, SqL.of hp2, fun x hx => ?_⟩⟩)
      refine Z.told q (kp1.trans kp2) hx (ans := Kh332.say (Kh332.late a (Kh332.brings a row) : Nat)) ?_ rfl
      unfold Kh332.doing
      dsimp only
      rw [if_neg (by rw [hok]; simp)]
/-! ### washes -/
theorem scWashes : FnScope ["harvest", "row", "count", "before", "i", "zone"] ["harvest", "row"] (defScope s_washes) := ⟨rfl, rfl, rfl, by decide +kernel, rfl, by decide +kernel, by decide +kernel⟩
theorem ok_washes (T : Tx K mg c) (D : Dn K mg "washes" s_washes ["harvest", "row"]) (C1 : Cl P w K mg base "is_row_of_cages" ["harvest", "row"] 1 (spRow c)) : Cl P w K mg base "washes" ["harvest", "row"] 2 (spC c (relRow .washes)) := by
  refine D.ok scWashes (fun vs H Q E h => ?_) (fun f cdv A outer s H vs Q E hr h => ?_)
  · obtain ⟨A, dco, ll, a, args, cl, rfl, ⟨r, row, rfl, _⟩, _⟩ := h
    rfl
  · obtain ⟨A, dco, ll, a, args, cl, rfl, ⟨r, row, rfl, hrow, hrs, hr8, rfl⟩, Z, hbr, q⟩ := h
    obtain ⟨f1, fd1, G1, b1, m1, k1⟩ := C1
    have nd := scWashes.nd
    refine ⟨_, pss_cons (ps_if (pt_not (pt_val (pe_call G1 hr (by rfl) m1 k1 b1 .nil pass0 (pa_cons (pv 0) (pa_cons (pv 1) pa_nil))))) (pss_one (ps_ret (pe_lst (pa_cons (pg_int T.rNotTold) pa_nil)))) pss_nil)
      (pss_cons (ps_set (i := 2) nd rfl (Or.inl rfl) pe_int)
      (pss_cons (ps_set (i := 3) nd rfl (Or.inl rfl) (pe_fld (pe_fld (pv 0) rfl) rfl))
      (pss_cons (ps_for PassesOwn.never rfl (pi_list (pv 1)) (pg_name (i := 4) nd rfl (Or.inl rfl))
        (pss_one (ps_if (pt_cmpR op_gt (pe_ix ix_list (pe_fld (pe_fld (pv 0) rfl) rfl) (pv 4) (fun _ _ => rfl)) pe_int (nomark _))
          (pss_cons (ps_set (i := 5) nd rfl (Or.inl rfl) (pe_fld (pe_ix ix_list (pe_fld (pv 0) rfl) (pv 4) (fun _ _ => rfl)) rfl))
          (pss_cons (ps_cut (ps_if (pw_and (pt_cmpR op_notN (pv 3) pe_non (nomark _)) (pw_and1 (pt_cmpR op_ne (pv 3) (pv 5) (nomark _)))).pt (pss_one (ps_aug (i := 2) nd rfl (Or.inl rfl) pe_int ip_add)) pss_nil))
          (pss_one (ps_set (i := 3) nd rfl (Or.inl rfl) (pv 5))))) pss_nil)))
      (pss_one (ps_ret (pe_lst (pa_cons (pv 2) pa_nil))))))), ?_⟩
    refine rV rfl (rV rfl ⟨A, a, r, row, rfl, Z.ro, hrow, fun H1 kp1 => rB ?_⟩)
    cases hok : Kh332.okRow a row with
    | false =>
      refine iteT (tell1 Z q kp1 ?_)
      unfold Kh332.doing
      dsimp only
      rw [if_pos hok]
    | true =>
      refine iteF ?_
      have Z1 := Z.same kp1
      have hin := okRow_lt hok
      have hrow1 := kp1.same _ _ hrow
      refine rV rfl (rF Z1.h T.harvest T.aCourse (hvF_course _ _) (rF Z1.co.co T.course T.aZone (courseF_zone _ _ _) ?_))
      refine rV rfl ⟨r, rfl, ⟨_, SqL.of hrow1⟩, for_list (K := K) (a := r) (xs := row.map vN) (fun i σ H' => H' = H1 ∧ ∃ (v4 v5 : Option V) (n : Nat) (z : Option Nat), σ = [some (.ref A.h), some (.ref r), some (vN n), some (zV z), v4, v5] ∧
          Kh332.washes a a.zone (row.filter (HM.nz (a.cages.map Kh332.Cage.kg))) = n + Kh332.washes a z ((row.drop i).filter (HM.nz (a.cages.map Kh332.Cage.kg))))
        ⟨rfl, none, none, 0, a.zone, rfl, (Nat.zero_add _).symm⟩ (fun i σ H' _ h => h.1 ▸ SqL.of hrow1) ?_ ?_⟩
      · rintro i y σ H' hi ⟨rfl, v4, v5, n, z, rfl, hw⟩
        obtain ⟨m, hm, rfl⟩ := map_at hi
        have hml := hin m (List.mem_of_getElem? hm)
        obtain ⟨g, hg⟩ : ∃ g, a.cages[m]? = some g := ⟨_, List.getElem?_eq_getElem hml⟩
        obtain ⟨x, hx⟩ : ∃ x, A.cs[m]? = some x := ⟨_, List.getElem?_eq_getElem (by rw [Z.ro.len]; exact hml)⟩
        obtain ⟨dg, hdg⟩ := Z1.ro.cage m x g hx hg
        have ez : Kh332.zoneOf a m = g.zone := zoneOf_at hg
        have ekg : (a.cages.map Kh332.Cage.kg)[m]? = some g.kg := get_map hg
        rw [HM.drop_filter hm] at hw
        have enz : HM.nz (a.cages.map Kh332.Cage.kg) m = true ↔ 0 < g.kg := by
          unfold HM.nz
          rw [List.getD_eq_getElem?_getD, ekg]
          show ((g.kg != 0) = true) ↔ _
          rw [bne_iff_ne]
          omega
        refine rV rfl (rF Z1.h T.harvest T.aCourse (hvF_course _ _) (rF Z1.co.co T.course T.aLeft (courseF_left _ _ _) (rV rfl (rX (SqL.of Z1.co.ll) (atI_nat (get_map ekg)) (rI2 (rB ?_))))))
        refine if_d (fun h1 => ?_) (fun h1 => ?_)
        · rw [if_pos (enz.mpr (by omega)), HM.washes_go, ez] at hw
          refine rV rfl (rF Z1.h T.harvest T.aCages (hvF_cages _ _) (rV rfl (rX (SqL.of Z1.ro.lc) (atI_nat (get_map hx)) (rF hdg T.cage T.aCZone (cageF_zone _) ?_))))
          refine ⟨fun σ' H2 => H2 = H' ∧ σ' = [some (.ref A.h), some (.ref r), some (vN (n + HM.washed z g.zone)), some (zV z), some (vN m), some (vN g.zone)], ?_, ?_⟩
          · refine rV rfl ⟨rfl, rB ?_⟩
            cases z with
            | none => exact if_nd (fun h => absurd rfl h) (fun _ => ⟨rfl, rfl⟩)
            | some y =>
              refine if_nd (fun _ => ?_) (fun h => by cases h)
              refine rV rfl (rV rfl ⟨rfl, rB ?_⟩)
              refine if_nd (fun h => ?_) (fun h => ?_)
              · refine rV rfl (rI2 ⟨rfl, ?_⟩)
                have e : HM.washed (some y) g.zone = 1 := if_neg fun e => h (by rw [e]; rfl)
                rw [e]
                rfl
              · refine ⟨rfl, ?_⟩
                have e : HM.washed (some y) g.zone = 0 := if_pos (by have := V.int.inj h; omega)
                rw [e]
                rfl
          · rintro σ' H2 ⟨rfl, rfl⟩
            refine rV rfl ⟨rfl, _, _, n + HM.washed z g.zone, some g.zone, rfl, ?_⟩
            rw [hw]
            omega
        · rw [if_neg (fun e => h1 (by have := enz.mp e; omega))] at hw
          exact ⟨rfl, _, _, n, z, rfl, hw⟩
      · rintro σ H' ⟨rfl, v4, v5, n, z, rfl, hw⟩
        rw [List.length_map, List.drop_length] at hw
        refine rV rfl (tell1 (z := (n : Int)) Z q kp1 ?_)
        unfold Kh332.doing
        dsimp only
        rw [if_neg (by rw [hok]; simp), HM.wash_filter, hw]
        rfl
/-! ### by_when -/
def relKgRow (mk : Nat → List Nat → Kh332.Call) : Hp → List Addr → List V → Kh332.Call → Prop := fun H S args cl => ∃ (n : Nat) (r : Addr) (row : List Nat), args = [vN n, .ref r] ∧ H r = some (.lst (row.map vN)) ∧ r ∉ S ∧ row.length ≤ 5000 ∧ cl = mk n row
theorem scByWhen : FnScope ["harvest", "kg", "row", "end"] ["harvest", "kg", "row"] (defScope s_by_when) := ⟨rfl, rfl, rfl, by decide +kernel, rfl, by decide +kernel, by decide +kernel⟩
theorem ok_byWhen (T : Tx K mg c) (D : Dn K mg "by_when" s_by_when ["harvest", "kg", "row"]) (C1 : Cl P w K mg base "is_row_of_cages" ["harvest", "row"] 1 (spRow c)) (C2 : Cl P w K mg base "bring_all" ["harvest", "row"] 5 (spBring c)) (C3 : Cl P w K mg base "end_by" ["trips", "kg"] 1 spEndBy) :
    Cl P w K mg base "by_when" ["harvest", "kg", "row"] 6 (spC c (relKgRow .byWhen)) := by
  refine D.ok scByWhen (fun vs H Q E h => ?_) (fun f cdv A outer s H vs Q E hr h => ?_)
  · obtain ⟨A, dco, ll, a, args, cl, rfl, ⟨n, r, row, rfl, _⟩, _⟩ := h
    rfl
  · obtain ⟨A, dco, ll, a, args, cl, rfl, ⟨n, r, row, rfl, hrow, hrs, hr8, rfl⟩, Z, hbr, q⟩ := h
    obtain ⟨f1, fd1, G1, b1, m1, k1⟩ := C1
    obtain ⟨f2, fd2, G2, b2, m2, k2⟩ := C2
    obtain ⟨f3, fd3, G3, b3, m3, k3⟩ := C3
    have hr1 : Room 1 _ := hr.mono (by decide)
    have nd := scByWhen.nd
    refine ⟨_, pss_cons (ps_if (pt_not (pt_val (pe_call G1 hr1 (by rfl) m1 k1 b1 .nil pass0 (pa_cons (pv 0) (pa_cons (pv 2) pa_nil))))) (pss_one (ps_ret (pe_lst (pa_cons (pg_int T.rNotTold) pa_nil)))) pss_nil)
      (pss_cons (ps_set (i := 3) nd rfl (Or.inl rfl) (pe_call G3 hr1 (by rfl) m3 k3 b3 .nil pass0 (pa_cons (pe_op op_cat (pe_fld (pv 0) rfl) (pe_call G2 hr (by rfl) m2 k2 b2 .nil pass0 (pa_cons (pv 0) (pa_cons (pv 2) pa_nil)))) (pa_cons (pv 1) pa_nil))))
      (pss_cons (ps_if (pt_cmpR op_isN (pv 3) pe_non (nomark _)) (pss_one (ps_ret (pe_lst (pa_cons (pg_int T.rNever) pa_nil)))) pss_nil)
      (pss_one (ps_ret (pe_lst (pa_cons (pv 3) pa_nil)))))), ?_⟩
    refine rV rfl (rV rfl ⟨A, a, r, row, rfl, Z.ro, hrow, fun H1 kp1 => rB ?_⟩)
    cases hok : Kh332.okRow a row with
    | false =>
      refine iteT (tell1 Z q kp1 ?_)
      unfold Kh332.doing
      dsimp only
      rw [if_pos hok]
    | true =>
      refine iteF ?_
      have Z1 := Z.same kp1
      have edo : Kh332.doing (some a) (.byWhen n row) = (match Kh332.byWhen n 0 (a.brought ++ Kh332.brings a row) with
          | some t => (some a, Kh332.say t)
          | none => (some a, Kh332.say (-33))) := by
        unfold Kh332.doing
        dsimp only
        rw [if_neg (by rw [hok]; simp)]
        cases Kh332.byWhen n 0 (a.brought ++ Kh332.brings a row) <;> rfl
      refine rV rfl (rF Z1.h T.harvest T.aTrips (hvF_trips _ _) (rV rfl (rV rfl ⟨A, dco, ll, a, r, row, rfl, Z1, kp1.same _ _ hrow, okRow_nd hok, okRow_lt hok, fun H2 p hp B hd kp2 => ?_⟩)))
      have Z2 := Z1.same kp2
      obtain ⟨ps, hps, hpl, hpt⟩ := id B.ex
      obtain ⟨qs, hqs, hql, hqt⟩ := id Z2.lt.ex
      refine ⟨A.lt, p, _, _, rfl, rfl, hqs, hps, ?_, fun x hx => ?_⟩
      · rw [List.length_map, List.length_map, hql, hpl]
        exact Nat.le_of_lt (size_of (by omega))
      · have B2 := Z2.lt.cat B hqs hps hx
        have kp3 : Keep [] H2 (upd H2 x (.lst (qs.map V.ref ++ ps.map V.ref))) := Keep.refl.new hx
        have kpa := (kp1.trans kp2).trans kp3
        refine rV rfl ⟨x, _, n, rfl, B2, ?_⟩
        refine rV rfl ⟨rfl, rB ?_⟩
        cases e : Kh332.byWhen n 0 (a.brought ++ Kh332.brings a row) with
        | none =>
          rw [e] at edo
          exact if_d (fun _ => tell1 Z q kpa edo) (fun h => absurd rfl h)
        | some t =>
          rw [e] at edo
          exact if_d (fun h => by cases h) (fun _ => rV rfl (tell1 Z q kpa edo))
/-! ### brought -/
def relNone (cl0 : Kh332.Call) : Hp → List Addr → List V → Kh332.Call → Prop := fun _ _ args cl => args = [] ∧ cl = cl0
theorem scBrought : FnScope ["harvest"] ["harvest"] (defScope s_brought) := ⟨rfl, rfl, rfl, by decide +kernel, rfl, by decide +kernel, by decide +kernel⟩
theorem ok_brought (T : Tx K mg c) (D : Dn K mg "brought" s_brought ["harvest"]) (C1 : Cl P w K mg base "with_count" ["trips"] 1 spCount) : Cl P w K mg base "brought" ["harvest"] 2 (spC c (relNone .brought)) := by
  refine D.ok scBrought (fun vs H Q E h => ?_) (fun f cdv A outer s H vs Q E hr h => ?_)
  · obtain ⟨A, dco, ll, a, args, cl, rfl, ⟨rfl, _⟩, _⟩ := h
    rfl
  · obtain ⟨A, dco, ll, a, args, cl, rfl, ⟨rfl, rfl⟩, Z, hbr, q⟩ := h
    obtain ⟨f1, fd1, G1, b1, m1, k1⟩ := C1
    refine ⟨_, pss_one (ps_ret (pe_call G1 hr (by rfl) m1 k1 b1 .nil pass0 (pa_cons (pe_fld (pv 0) rfl) pa_nil))), ?_⟩
    refine rV rfl (rF Z.h T.harvest T.aTrips (hvF_trips _ _) ⟨A.lt, a.brought, rfl, Z.lt, by omega, fun H1 x hx hx1 kp1 => ?_⟩)
    exact q _ x A.cs a ⟨a.brought.length, a.brought.flatMap fun x : Nat × Nat => [x.1, x.2]⟩ rfl (Z.same kp1) hx hx1 (kp1.mono (by simp))
/-! ### look -/
def relOne (mk : Nat → Kh332.Call) : Hp → List Addr → List V → Kh332.Call → Prop := fun _ _ args cl => ∃ i : Nat, args = [vN i] ∧ cl = mk i
theorem scLook : FnScope ["harvest", "i"] ["harvest", "i"] (defScope s_look) := ⟨rfl, rfl, rfl, by decide +kernel, rfl, by decide +kernel, by decide +kernel⟩
theorem ok_look (T : Tx K mg c) (D : Dn K mg "look" s_look ["harvest", "i"]) : Cl P w K mg base "look" ["harvest", "i"] 1 (spC c (relOne .look)) := by
  refine D.ok scLook (fun vs H Q E h => ?_) (fun f cdv A outer s H vs Q E hr h => ?_)
  · obtain ⟨A, dco, ll, a, args, cl, rfl, ⟨i, rfl, _⟩, _⟩ := h
    rfl
  · obtain ⟨A, dco, ll, a, args, cl, rfl, ⟨i, rfl, rfl⟩, Z, hbr, q⟩ := h
    refine ⟨_, pss_cons (ps_if (pt_cmpR op_ge (pv 1) (pe_callB call_len_seq (by rfl) T.len (by rfl) (pa_cons (pe_fld (pv 0) rfl) pa_nil)) (nomark _)) (pss_one (ps_ret (pe_lst (pa_cons (pg_int T.rNoCage) pa_nil)))) pss_nil)
      (pss_one (ps_ret (pe_lst (pa_cons (pe_ix ix_list (pe_fld (pe_fld (pv 0) rfl) rfl) (pv 1) (fun _ _ => rfl)) (pa_cons (pe_fld (pe_ix ix_list (pe_fld (pv 0) rfl) (pv 1) (fun _ _ => rfl)) rfl) (pa_cons (pe_fld (pe_ix ix_list (pe_fld (pv 0) rfl) (pv 1) (fun _ _ => rfl)) rfl) pa_nil)))))), ?_⟩
    refine rV rfl (rV rfl (rF Z.h T.harvest T.aCages (hvF_cages _ _) (rLen (SqL.of Z.ro.lc) (rI2 (rB ?_)))))
    rw [Z.cs_len]
    refine if_d (fun h1 => ?_) (fun h1 => ?_)
    · refine tell1 Z q Keep.refl ?_
      unfold Kh332.doing
      dsimp only
      rw [List.getElem?_eq_none_iff.mpr (show a.cages.length ≤ i by omega)]
    · have hi : i < a.cages.length := by omega
      obtain ⟨g, hg⟩ : ∃ g, a.cages[i]? = some g := ⟨_, List.getElem?_eq_getElem hi⟩
      obtain ⟨x, hx⟩ : ∃ x, A.cs[i]? = some x := ⟨_, List.getElem?_eq_getElem (by rw [Z.ro.len]; exact hi)⟩
      obtain ⟨d, hd⟩ := Z.ro.cage i x g hx hg
      have ekg : (a.cages.map Kh332.Cage.kg)[i]? = some g.kg := get_map hg
      refine rV rfl (rF Z.h T.harvest T.aCourse (hvF_course _ _) (rF Z.co.co T.course T.aLeft (courseF_left _ _ _) (rV rfl (rX (SqL.of Z.co.ll) (atI_nat (get_map ekg))
        (rV rfl (rF Z.h T.harvest T.aCages (hvF_cages _ _) (rV rfl (rX (SqL.of Z.ro.lc) (atI_nat (get_map hx)) (rF hd T.cage T.aAt (cageF_at _)
        (rV rfl (rF Z.h T.harvest T.aCages (hvF_cages _ _) (rV rfl (rX (SqL.of Z.ro.lc) (atI_nat (get_map hx)) (rF hd T.cage T.aCZone (cageF_zone _) ⟨by show 3 ≤ sizeLine; decide, fun p hp => ?_⟩))))))))))))))
      refine Z.told q Keep.refl hp (ans := ⟨g.kg, [g.at_, g.zone]⟩) ?_ rfl
      unfold Kh332.doing
      dsimp only
      rw [hg]
/-! ### state -/
theorem scState : FnScope ["harvest", "zone", "zone_told"] ["harvest"] (defScope s_state) := ⟨rfl, rfl, rfl, by decide +kernel, rfl, by decide +kernel, by decide +kernel⟩
theorem ok_state (T : Tx K mg c) (D : Dn K mg "state" s_state ["harvest"]) : Cl P w K mg base "state" ["harvest"] 1 (spC c (relNone .state)) := by
  refine D.ok scState (fun vs H Q E h => ?_) (fun f cdv A outer s H vs Q E hr h => ?_)
  · obtain ⟨A, dco, ll, a, args, cl, rfl, ⟨rfl, _⟩, _⟩ := h
    rfl
  · obtain ⟨A, dco, ll, a, args, cl, rfl, ⟨rfl, rfl⟩, Z, hbr, q⟩ := h
    have nd := scState.nd
    refine ⟨_, pss_cons (ps_set (i := 1) nd rfl (Or.inl rfl) (pe_fld (pe_fld (pv 0) rfl) rfl))
      (pss_cons (ps_set (i := 2) nd rfl (Or.inl rfl) (pe_ifExp (pt_cmpR op_isN (pv 1) pe_non (nomark _)) pe_int (pe_op op_add (pv 1) pe_int)))
      (pss_one (ps_ret (pe_lst (pa_cons (pe_fld (pe_fld (pv 0) rfl) rfl) (pa_cons (pe_callB call_len_seq (by rfl) T.len (by rfl) (pa_cons (pe_fld (pv 0) rfl) pa_nil)) (pa_cons (pe_callB call_len_seq (by rfl) T.len (by rfl) (pa_cons (pe_fld (pv 0) rfl) pa_nil))
        (pa_cons (pv 2) (pa_cons (pe_fld (pv 0) rfl) pa_nil))))))))), ?_⟩
    obtain ⟨ps, hps, hpl, _⟩ := id Z.lo.ex
    have rest : ∀ v : V, v = vN (a.zone.elim 0 fun z => z + 1) → ∀ b1, tRet (tLst (tCons (tFld K (tFld K (tVar 0) "course") "hour") (tCons (tCB (fun xs H Q => ∃ p ys, xs = [.ref p] ∧ (SqL K H p ys ∨ SqT K H p ys) ∧ Q (.int ys.length) H) (tCons (tFld K (tVar 0) "cages") tNil))
        (tCons (tCB (fun xs H Q => ∃ p ys, xs = [.ref p] ∧ (SqL K H p ys ∨ SqT K H p ys) ∧ Q (.int ys.length) H) (tCons (tFld K (tVar 0) "orders") tNil)) (tCons (tVar 2) (tCons (tFld K (tVar 0) "brought_in_all") tNil)))))) { nx := fun _ H' => Q .non H', rt := Q } [some (.ref A.h), b1, some v] H := fun v hv b1 => by
      refine rV rfl (rF Z.h T.harvest T.aCourse (hvF_course _ _) (rF Z.co.co T.course T.aHour (courseF_hour _ _ _) (rV rfl (rF Z.h T.harvest T.aCages (hvF_cages _ _) (rLen (SqL.of Z.ro.lc)
        (rV rfl (rF Z.h T.harvest T.aOrders (hvF_orders _ _) (rLen (SqL.of hps) (rV rfl (rV rfl (rF Z.h T.harvest T.aAll (hvF_all _ _) ⟨by show 5 ≤ sizeLine; decide, fun p hp => ?_⟩)))))))))))
      refine Z.told q Keep.refl hp (ans := ⟨a.time, [a.cages.length, a.orders.length, a.zone.elim 0 (fun z => z + 1), (a.brought.map fun x => x.2).sum]⟩) rfl ?_
      rw [Z.cs_len, List.length_map, hpl, List.length_map, hv]
      rfl
    refine rV rfl (rF Z.h T.harvest T.aCourse (hvF_course _ _) (rF Z.co.co T.course T.aZone (courseF_zone _ _ _) ?_))
    refine rV rfl ⟨rfl, rB ?_⟩
    cases e : a.zone with
    | none => exact if_d (fun _ => rest _ (by rw [e]; rfl) _) (fun h => absurd rfl h)
    | some z => exact if_d (fun h => by cases h) (fun _ => rV rfl (rI2 (rest _ (by rw [e]; rfl) _)))
end
end Hb

set_option Elab.async false
set_option linter.all false
set_option maxRecDepth 100000
set_option maxHeartbeats 2000000
/-! filled, rows_to_bring, soonest, kept -/
namespace Hb
open PySem PySem.Spec PyProof.Rows L2
theorem lc_enum {K : PySem.W.Frag} {a : Addr} {xs : List V} {g : TG} {tt : TT} {te : TE} {vs : List Nat} {σ : L2.St} {H1 : Hp} {D : Addr} {Qd : Hp → Prop} (Pv : Nat → Hp → Prop) (h0 : Pv 0 (upd H1 D (.lst []))) (hl : ∀ i H, i ≤ xs.length → Pv i H → SqL K H a xs)
    (hs : ∀ i x H T, xs[i]? = some x → Pv i H → H T = none → g (.ref T) (wipe σ vs) (upd H T (.tup [.int (i : Nat), x])) fun σ2 H2 => wipe σ2 vs = wipe σ vs ∧ tt σ2 H2 fun b H3 =>
      if b = true then te σ2 H3 fun y H4 => ∃ acc, H4 D = some (.lst acc) ∧ acc.length < sizeLine ∧ Pv (i + 1) (upd H4 D (.lst (acc ++ [y]))) else Pv (i + 1) H3) (hd : ∀ H, Pv xs.length H → Qd H) :
    ∃ W : Nat → Nat → Hp → Prop, (∃ m, W 0 m (upd H1 D (.lst []))) ∧ ∀ i m H, W i m H →
      ((Ite K a).stop i H ∧ Qd H) ∨ ((Ite K a).go i H ∧ ∃ Nx : Hp → Prop, (∀ H', Nx H' → ∃ m', m' < m ∧ W (i + 1) m' H') ∧ ∀ x H', (Ite K a).yld i H x H' → g x (wipe σ vs) H' fun σ2 H2 => wipe σ2 vs = wipe σ vs ∧ tt σ2 H2 fun b H3 =>
        if b = true then te σ2 H3 fun y H4 => ∃ acc, H4 D = some (.lst acc) ∧ acc.length < sizeLine ∧ Nx (upd H4 D (.lst (acc ++ [y]))) else Nx H3) := by
  refine ⟨fun i m H => m = xs.length - i ∧ i ≤ xs.length ∧ Pv i H, ⟨xs.length, by simp, Nat.zero_le _, h0⟩, ?_⟩
  rintro i m H ⟨rfl, hi, p⟩
  have q := hl i H hi p
  by_cases hlt : i < xs.length
  · refine .inr ⟨⟨xs, xs[i], q, by simp [hlt]⟩, fun H' => i + 1 ≤ xs.length ∧ Pv (i + 1) H', fun H' p' => ⟨xs.length - (i + 1), by omega, rfl, p'.1, p'.2⟩, fun x H' y => ?_⟩
    obtain ⟨T, v, e1, e2, e3, y⟩ := y
    subst e1 e3
    have h := hs i v H T (y xs q) p e2
    have e4 : ∀ H', (i + 1 ≤ xs.length ∧ Pv (i + 1) H') = Pv (i + 1) H' := fun H' => propext ⟨fun z => z.2, fun z => ⟨hlt, z⟩⟩
    simp only [e4]
    exact h
  · have e : i = xs.length := by omega
    subst e
    exact .inl ⟨⟨xs, q, Nat.le_refl _⟩, hd H p⟩
theorem lex_lx : ∀ (x y : List Nat), HT.lexLt (x.map Int.ofNat) (y.map Int.ofNat) = HM.lx x y
  | [], [] => rfl
  | [], _ :: _ => rfl
  | _ :: _, [] => rfl
  | a :: x, b :: y => by
    rw [List.map_cons, List.map_cons, HT.lexLt_cons, HM.lx, lex_lx x y]
    by_cases h : a = b
    · rw [if_pos h, if_pos (by rw [h])]
    · rw [if_neg h, if_neg (fun e => h (Int.ofNat.inj e))]
      exact decide_eq_decide.mpr (by show ((a : Int) < (b : Int)) ↔ _; omega)
theorem maps_vN (l : List Nat) : (l.map Int.ofNat).map V.int = l.map vN := by
  rw [List.map_map]
  rfl
/-- the least of the rows, each with its key ahead -/
theorem min_pick {K : PySem.W.Frag} {H0 H : Hp} {D : Addr} {a : Kh332.Abs} {f : List Nat → Nat × Nat} {key : List Nat → List Nat} {Q : VK} (B : Lln H0 H D ((Kh332.perms (Kh332.full a).length (Kh332.full a)).map fun r => key r ++ r))
    (hk : ∀ x y, HM.lx y x = true → HM.lx (key x ++ x) (key y ++ y) = decide (HM.less (f x) (f y)))
    (q : ∀ p, H0 p = none → H p = some (.lst ((key (Kh332.least f (Kh332.perms (Kh332.full a).length (Kh332.full a))) ++ Kh332.least f (Kh332.perms (Kh332.full a).length (Kh332.full a))).map vN)) → Q (.ref p) H) : rMinL K [.ref D] H Q := by
  have hso := HM.perms_sorted (Kh332.full a).length (HM.full_sorted a)
  have hne : Kh332.perms (Kh332.full a).length (Kh332.full a) ≠ [] := by
    rw [← HM.rowsUp_perms _ (HM.full_nodup a)]
    exact HM.rowsUp_ne _ (HM.full_nodup a) _ (Nat.le_refl _)
  generalize Kh332.perms (Kh332.full a).length (Kh332.full a) = rows at *
  obtain ⟨ps, h1, h2, h3, h4, h5, h6⟩ := B.ex
  have hl : ps.length = rows.length := by rw [h2, List.length_map]
  have h0 : 0 < rows.length := List.length_pos_iff.mpr hne
  have gd : ∀ {i : Nat} {r : List Nat}, rows[i]? = some r → ((rows.map fun r => (key r ++ r).map Int.ofNat).getD i []) = (key r ++ r).map Int.ofNat := fun {i r} h => by
    rw [List.getD_eq_getElem?_getD, List.getElem?_map, h]
    rfl
  refine ⟨D, ps, rows.map fun r => (key r ++ r).map Int.ofNat, rfl, SqL.of h1, by rw [List.length_map]; exact hl, by rw [List.length_map]; exact h0, fun i p r hp hr => ?_, fun p hp => ?_⟩
  · rw [List.getElem?_map] at hr
    cases e : rows[i]? with
    | none =>
      rw [e] at hr
      cases hr
    | some r0 =>
      rw [e] at hr
      have er : (key r0 ++ r0).map Int.ofNat = r := Option.some.inj hr
      subst er
      rw [maps_vN]
      exact SqL.of (h6 i p _ hp (by rw [List.getElem?_map, e]; rfl))
  · rw [List.length_map] at hp
    have hb := HM.least_best (f := f) (rows := rows) (bt := fun i j => HT.lexLt ((rows.map fun r => (key r ++ r).map Int.ofNat).getD i []) ((rows.map fun r => (key r ++ r).map Int.ofNat).getD j [])) (fun i j x y hij hx hy => by
      show HT.lexLt _ _ = _
      rw [gd hx, gd hy, lex_lx]
      exact hk x y (HM.pair_at hso hij hx hy)) h0
    exact q p (h5 p (List.mem_of_getElem? hp)) (h6 _ p _ hp (by rw [List.getElem?_map, hb]; rfl))
section
variable {P : Program} {w : World} {K : PySem.W.Frag} {mg : Str → Option Value} {base : Heap} {c : Cs}
/-! ### filled -/
theorem scFilled : FnScope ["harvest", "ends", "hours", "end"] ["harvest"] (defScope s_filled) := ⟨rfl, rfl, rfl, by decide +kernel, rfl, by decide +kernel, by decide +kernel⟩
theorem ok_filled (T : Tx K mg c) (D : Dn K mg "filled" s_filled ["harvest"]) (C1 : Cl P w K mg base "filled_at" ["orders", "trips"] 2 spFilledAt) : Cl P w K mg base "filled" ["harvest"] 3 (spC c (relNone .filled)) := by
  refine D.ok scFilled (fun vs H Q E h => ?_) (fun f cdv A outer s H vs Q E hr h => ?_)
  · obtain ⟨A, dco, ll, a, args, cl, rfl, ⟨rfl, _⟩, _⟩ := h
    rfl
  · obtain ⟨A, dco, ll, a, args, cl, rfl, ⟨rfl, rfl⟩, Z, hbr, q⟩ := h
    obtain ⟨f1, fd1, G1, b1, m1, k1⟩ := C1
    have nd := scFilled.nd
    refine ⟨_, pss_cons (ps_set (i := 1) nd rfl (Or.inl rfl) (pe_call G1 hr (by rfl) m1 k1 b1 .nil pass0 (pa_cons (pe_fld (pv 0) rfl) (pa_cons (pe_fld (pv 0) rfl) pa_nil))))
      (pss_cons (ps_setLc (i := 2) (te := tIf (tTest (tOp (fun x y H Q => y = .non ∧ Q (.bl (decide (x = .non))) H) (tVar 3) (tC .non))) (tC (.int 0)) (tOp (rI0 fun i j => .int (i + j)) (tVar 3) (tC (.int 1)))) rfl nd rfl rfl (sw_true rfl rfl rfl (by decide +kernel)) (pi_list (pv 1))
        (blkOk_by (own := [("end", 3)]) (by refine (show blkC ["harvest", "ends", "hours", "end"] (defScope s_filled) _ [("end", 3)] = true from ?_); decide +kernel)) (fun _ _ _ _ _ => pg_name (i := 3) nd rfl (Or.inl rfl)) (fun _ _ _ _ _ => pts_nil)
        (fun _ _ _ _ _ => pe_ifExp (pt_cmpR op_isN (pv 3) pe_non (nomark _)) pe_int (pe_op op_add (pv 3) pe_int)))
      (pss_one (ps_ret (pe_op op_cat (pe_lst (pa_cons (pe_op op_sub (pe_callB call_len_seq (by rfl) T.len (by rfl) (pa_cons (pv 2) pa_nil)) (pe_bm PySem.F.plainAttrs_list PySem.F.slot_list_count PySem.F.type_list_count mt_cnt (pv 2) (pa_cons pe_int pa_nil))) pa_nil)) (pv 2))))), ?_⟩
    refine rV rfl (rF Z.h T.harvest T.aOrders (hvF_orders _ _) (rV rfl (rF Z.h T.harvest T.aTrips (hvF_trips _ _) ⟨A.lo, A.lt, a.orders, a.brought, rfl, Z.lo, Z.lt, Z.no, fun H1 p hp hp1 kp1 => ?_⟩)))
    have hfl := HM.fills_len a.orders a.brought
    have hno := Z.no
    have edo : Kh332.doing (some a) .filled = (some a, ⟨((HM.fills a.orders a.brought).filter Option.isSome).length, (HM.fills a.orders a.brought).map HM.hourOf⟩) := by
      unfold Kh332.doing
      dsimp only
      rw [HM.filled_ret, HM.filled_out]
    have hz := HM.zeros (HM.fills a.orders a.brought)
    generalize HM.fills a.orders a.brought = fs at *
    refine rV rfl ⟨p, rfl, ⟨_, SqL.of hp1⟩, fun L hL => lc_list (K := K) (a := p) (xs := fs.map zV) (fun i H' => H' L = some (.lst (((fs.take i).map HM.hourOf).map vN)) ∧ Keep [] H1 H')
      ⟨upd_same, Keep.refl.new hL⟩ (fun i H' _ h => SqL.of (h.2.same _ _ hp1)) ?_ ?_⟩
    · rintro i y H' hi ⟨hD, kp⟩
      obtain ⟨e, he, rfl⟩ := map_at hi
      have hsz : (((fs.take i).map HM.hourOf).map vN).length < sizeLine := by
        rw [List.length_map, List.length_map, List.length_take]
        exact size_of (by omega)
      have fin : ∀ z : V, z = vN (HM.hourOf e) → ∃ acc, H' L = some (.lst acc) ∧ acc.length < sizeLine ∧ (upd H' L (.lst (acc ++ [z])) L = some (.lst (((fs.take (i + 1)).map HM.hourOf).map vN)) ∧ Keep [] H1 (upd H' L (.lst (acc ++ [z])))) := fun z hz => by
        refine ⟨_, hD, hsz, ?_, kp.new' hL⟩
        rw [upd_same, HM.take_snoc he, List.map_append, List.map_append, hz]
        rfl
      refine ⟨rfl, ?_⟩
      refine rV rfl ⟨rfl, rB ?_⟩
      cases e with
      | none => exact if_d (fun _ => fin _ rfl) (fun h => absurd rfl h)
      | some t => exact if_d (fun h => by cases h) (fun _ => rV rfl (rI2 (fin _ rfl)))
    · rintro H2 ⟨hD, kp2⟩
      rw [List.length_map, List.take_length] at hD
      have kp12 := kp1.trans kp2
      refine rV rfl (rLen (SqL.of hD) (rV rfl ⟨.inl ⟨rfl, _, SqL.of hD⟩, L, fs.map HM.hourOf, 0, rfl, rfl, SqL.of hD, rI2 ⟨by show 1 ≤ sizeLine; decide, fun l1 hl1 => ?_⟩⟩))
      have kp3 : Keep [] H2 (upd H2 l1 (.lst [V.int (((((fs.map HM.hourOf).map vN).length : Nat) : Int) - (((fs.map HM.hourOf).count 0 : Nat) : Int))])) := Keep.refl.new hl1
      refine rV rfl ⟨l1, L, _, _, rfl, rfl, upd_same, kp3.same _ _ hD, ?_, fun x hx => ?_⟩
      · show 1 + _ ≤ _
        rw [List.length_map, List.length_map]
        exact Nat.le_of_lt (size_of (by omega))
      · refine Z.told q (kp12.trans kp3) hx edo ?_
        have e : ((((fs.map HM.hourOf).map vN).length : Nat) : Int) - (((fs.map HM.hourOf).count 0 : Nat) : Int) = (((fs.filter Option.isSome).length : Nat) : Int) := by
          rw [List.length_map, List.length_map]
          omega
        show [V.int (((((fs.map HM.hourOf).map vN).length : Nat) : Int) - (((fs.map HM.hourOf).count 0 : Nat) : Int))] ++ _ = _
        rw [e]
        rfl
/-! ### rows_to_bring -/
def spRowsTo (c : Cs) : Sp := fun vs H Q _ => ∃ (A : Ra) (dco ll : Addr) (a : Kh332.Abs), vs = [.ref A.h] ∧ Hv c H A dco ll a ∧
  ∀ (H' : Hp) (p : Addr), H p = none → Lls H' p (Kh332.perms (Kh332.full a).length (Kh332.full a)) → Keep [] H H' → Q (.ref p) H'
theorem scRowsTo : FnScope ["harvest", "i", "kg"] ["harvest"] (defScope s_rows_to_bring) := ⟨rfl, rfl, rfl, by decide +kernel, rfl, by decide +kernel, by decide +kernel⟩
theorem range_snoc {n i : Nat} (h : i < n) : (List.range n).take (i + 1) = (List.range n).take i ++ [i] := HM.take_snoc (by rw [List.getElem?_range h])
theorem ok_rowsTo (T : Tx K mg c) (D : Dn K mg "rows_to_bring" s_rows_to_bring ["harvest"]) (C1 : Cl P w K mg base "all_rows" ["cages"] 2 spAllRows) : Cl P w K mg base "rows_to_bring" ["harvest"] 3 (spRowsTo c) := by
  refine D.ok scRowsTo (fun vs H Q E h => ?_) (fun f cdv A outer s H vs Q E hr h => ?_)
  · obtain ⟨A, dco, ll, a, rfl, _⟩ := h
    rfl
  · obtain ⟨A, dco, ll, a, rfl, Z, q⟩ := h
    obtain ⟨f1, fd1, G1, b1, m1, k1⟩ := C1
    have nd := scRowsTo.nd
    refine ⟨_, pss_one (ps_ret (pe_call G1 hr (by rfl) m1 k1 b1 .nil pass0 (pa_cons (pe_lc (g := gTup K 2 (gCons (gName 1) (gCons (gName 2) gNil))) (tt := tTest (tOp (rI0 fun i j => .bl (decide (j < i))) (tVar 2) (tC (.int 0)))) (te := tVar 1) rfl nd
      (pi_enum (by rfl) T.enumerate (pa_cons (pe_fld (pe_fld (pv 0) rfl) rfl) pa_nil)) (blkOk_by (own := [("i", 1), ("kg", 2)]) (by refine (show blkC ["harvest", "i", "kg"] (defScope s_rows_to_bring) _ [("i", 1), ("kg", 2)] = true from ?_); decide +kernel))
      (fun _ _ _ _ _ => pg_tup rfl (pgs_cons (pg_name (i := 1) nd rfl (Or.inl rfl)) (pgs_cons (pg_name (i := 2) nd rfl (Or.inl rfl)) pgs_nil))) (fun _ _ _ _ _ => pts_one (pt_cmpR op_gt (pv 2) pe_int (nomark _))) (fun _ _ _ _ _ => pv 1)) pa_nil))), ?_⟩
    have hc5 := Z.nc
    refine rV rfl (rF Z.h T.harvest T.aCourse (hvF_course _ _) (rF Z.co.co T.course T.aLeft (courseF_left _ _ _) ⟨ll, _, rfl, SqL.of Z.co.ll, fun L hL =>
      lc_enum (K := K) (a := ll) (xs := (a.cages.map Kh332.Cage.kg).map vN) (fun i H' => H' L = some (.lst ((((List.range a.cages.length).take i).filter (HM.nz (a.cages.map Kh332.Cage.kg))).map vN)) ∧ Keep [] H H')
      ⟨upd_same, Keep.refl.new hL⟩ (fun i H' _ h => SqL.of (h.2.same _ _ Z.co.ll)) ?_ ?_⟩))
    · rintro i y H' tp hi ⟨hD, kp⟩ htp
      obtain ⟨g, hg, rfl⟩ := map_at hi
      have hil : i < a.cages.length := by
        have := (List.getElem?_eq_some_iff.mp hg).1
        rw [List.length_map] at this
        exact this
      have k2 : Keep [] H' (upd H' tp (.tup [.int (i : Nat), vN g])) := Keep.refl.new htp
      refine gPair upd_same ⟨rfl, ?_⟩
      refine rV rfl (rI2 (rB ?_))
      have enz : HM.nz (a.cages.map Kh332.Cage.kg) i = true ↔ 0 < g := by
        unfold HM.nz
        rw [List.getD_eq_getElem?_getD, hg]
        show ((g != 0) = true) ↔ _
        rw [bne_iff_ne]
        omega
      refine if_d (fun h1 => ?_) (fun h1 => ?_)
      · have h1 : (0 : Int) < (g : Int) := h1
        refine rV rfl ⟨_, k2.same _ _ hD, ?_, ?_, (kp.trans k2).new' hL⟩
        · rw [List.length_map]
          have h2 := List.length_filter_le (HM.nz (a.cages.map Kh332.Cage.kg)) ((List.range a.cages.length).take i)
          rw [List.length_take, List.length_range] at h2
          exact size_of (by omega)
        · rw [upd_same, range_snoc hil, List.filter_append, List.filter_cons, if_pos (enz.mpr (by omega)), List.filter_nil, List.map_append]
          rfl
      · have h1 : ¬ (0 : Int) < (g : Int) := h1
        refine ⟨?_, kp.trans k2⟩
        rw [range_snoc hil, List.filter_append, List.filter_cons, if_neg (fun e => h1 (by have := enz.mp e; omega)), List.filter_nil, List.append_nil]
        exact k2.same _ _ hD
    · rintro H2 ⟨hD, kp2⟩
      rw [List.length_map, List.length_map, List.take_of_length_le (by rw [List.length_range]; exact Nat.le_refl _), ← HM.full_eq] at hD
      refine ⟨L, Kh332.full a, rfl, hD, HM.full_nodup a, Nat.le_trans (HM.full_len a) hc5, fun H3 p hp B kp3 => ?_⟩
      exact q H3 p (kp2.fresh hp) B (kp2.trans kp3)
/-! ### soonest -/
theorem rows_len (a : Kh332.Abs) (h : a.cages.length ≤ 5) : (Kh332.perms (Kh332.full a).length (Kh332.full a)).length ≤ 5000 := by
  have h0 := Nat.le_trans (HM.full_len a) h
  rw [← HM.rowsUp_perms _ (HM.full_nodup a)]
  have h1 := HM.rowsUp_len (Kh332.full a) (Kh332.full a).length
  have h2 : (Kh332.full a).length ^ (Kh332.full a).length ≤ 5 ^ (Kh332.full a).length := Nat.pow_le_pow_left h0 _
  have h3 : 5 ^ (Kh332.full a).length ≤ 5 ^ 5 := Nat.pow_le_pow_right (by decide) h0
  exact Nat.le_trans h1 (Nat.le_trans h2 (Nat.le_trans h3 (by decide)))
/-- the list that is made: each row with its key ahead -/
theorem keyed_nil {H H1 : Hp} {L : Addr} (h : H1 L = none) (f : List Nat → List Nat) : Lln H (upd H1 L (.lst [])) L (([] : List (List Nat)).map f) := ⟨[], upd_same, rfl, by simp, by simp, by simp, fun i x u hx _ => by simp at hx⟩
theorem scSoonest : FnScope ["harvest", "row"] ["harvest"] (defScope s_soonest) := ⟨rfl, rfl, rfl, by decide +kernel, rfl, by decide +kernel, by decide +kernel⟩
theorem ok_soonest (T : Tx K mg c) (D : Dn K mg "soonest" s_soonest ["harvest"]) (C1 : Cl P w K mg base "rows_to_bring" ["harvest"] 3 (spRowsTo c)) (C2 : Cl P w K mg base "bring_all" ["harvest", "row"] 5 (spBring c)) (C3 : Cl P w K mg base "end_of" ["harvest", "trips"] 1 (spEndOf c)) :
    Cl P w K mg base "soonest" ["harvest"] 6 (spC c (relNone .soonest)) := by
  refine D.ok scSoonest (fun vs H Q E h => ?_) (fun f cdv A outer s H vs Q E hr h => ?_)
  · obtain ⟨A, dco, ll, a, args, cl, rfl, ⟨rfl, _⟩, _⟩ := h
    rfl
  · obtain ⟨A, dco, ll, a, args, cl, rfl, ⟨rfl, rfl⟩, Z, hbr, q⟩ := h
    obtain ⟨f1, fd1, G1, b1, m1, k1⟩ := C1
    obtain ⟨f2, fd2, G2, b2, m2, k2⟩ := C2
    obtain ⟨f3, fd3, G3, b3, m3, k3⟩ := C3
    have hr1 : Room 1 _ := hr.mono (by decide)
    have hr3 : Room 3 _ := hr.mono (by decide)
    have hu : _ < cLine := hu_of hr
    have nd := scSoonest.nd
    refine ⟨_, pss_one (ps_ret (pe_callB (cr_minL rfl hu) (by rfl) T.min (by rfl) (pa_cons (pe_lc
      (te := tOp rCat (tLst (tCons (tCall (spEndOf c) [] E0 (tCons (tVar 0) (tCons (tCall (spBring c) [] E0 (tCons (tVar 0) (tCons (tVar 1) tNil))) tNil))) tNil)) (tVar 1)) rfl nd (pi_list (pe_call G1 hr3 (by rfl) m1 k1 b1 .nil pass0 (pa_cons (pv 0) pa_nil)))
      (blkOk_by (own := [("row", 1)]) (by refine (show blkC ["harvest", "row"] (defScope s_soonest) _ [("row", 1)] = true from ?_); decide +kernel)) (fun _ _ _ _ _ => pg_name (i := 1) nd rfl (Or.inl rfl)) (fun _ _ _ _ _ => pts_nil)
      (fun _ _ _ _ _ => pe_op op_cat (pe_lst (pa_cons (pe_call G3 hr1 (by rfl) m3 k3 b3 .nil pass0 (pa_cons (pv 0) (pa_cons (pe_call G2 hr (by rfl) m2 k2 b2 .nil pass0 (pa_cons (pv 0) (pa_cons (pv 1) pa_nil))) pa_nil))) pa_nil)) (pv 1))) pa_nil))), ?_⟩
    refine rV rfl ⟨A, dco, ll, a, rfl, Z, fun H1 pr hpr B kp1 => ?_⟩
    have hrl := rows_len a Z.nc
    have hok := fun r => HM.row_ok (a := a) (r := r)
    have hc5 := Z.nc
    obtain ⟨ps, hps, hpl, hpn, hpt⟩ := B.ex
    have edo : Kh332.doing (some a) .soonest = (some a, ⟨Kh332.ends a (Kh332.brings a (Kh332.soonest a)), Kh332.soonest a⟩) := rfl
    refine ⟨pr, rfl, ⟨_, SqL.of hps⟩, fun L hL => lc_list (K := K) (a := pr) (xs := ps.map V.ref) (fun i H' => Lln H H' L (((Kh332.perms (Kh332.full a).length (Kh332.full a)).take i).map fun r => [Kh332.ends a (Kh332.brings a r)] ++ r) ∧ Keep [] H1 H')
      ⟨keyed_nil hL _, Keep.refl.new hL⟩ (fun i H' _ h => SqL.of (h.2.same _ _ hps)) ?_ ?_⟩
    · rintro i y H2 hi ⟨BL, kp2⟩
      obtain ⟨x, hx, rfl⟩ := map_at hi
      obtain ⟨r, hri⟩ : ∃ r, (Kh332.perms (Kh332.full a).length (Kh332.full a))[i]? = some r := ⟨_, List.getElem?_eq_getElem (by have := (List.getElem?_eq_some_iff.mp hx).1; omega)⟩
      obtain ⟨o1, o2, o3⟩ := hok r (List.mem_of_getElem? hri)
      have kp12 := kp1.trans kp2
      have Z2 := Z.same kp12
      have hxr := kp2.same _ _ (hpt i x r hx hri)
      have hil : i < 5000 := by
        have := (List.getElem?_eq_some_iff.mp hri).1
        omega
      generalize Kh332.perms (Kh332.full a).length (Kh332.full a) = rows at *
      refine ⟨rfl, rV rfl (rV rfl (rV rfl ⟨A, dco, ll, a, x, r, rfl, Z2, hxr, o1, o2, fun H3 pb hpb Bb hbl kp3 => ?_⟩))⟩
      have Z3 := Z2.same kp3
      refine ⟨A, dco, ll, a, pb, _, rfl, Z3, Bb, by show 1 ≤ sizeLine; decide, fun t1 ht1 => ?_⟩
      have kp4 : Keep [] H3 (upd H3 t1 (.lst [vN (Kh332.ends a (Kh332.brings a r))])) := Keep.refl.new ht1
      have kp34 := kp3.trans kp4
      refine rV rfl ⟨t1, x, _, _, rfl, rfl, upd_same, kp34.same _ _ hxr, ?_, fun t2 ht2 => ?_⟩
      · show 1 + _ ≤ _
        rw [List.length_map]
        exact Nat.le_of_lt (size_of (by omega))
      · obtain ⟨as, a1, a2, a3, a4, a5, a6⟩ := id BL.ex
        have BL4 : Lln H (upd H3 t1 (.lst [vN (Kh332.ends a (Kh332.brings a r))])) L ((rows.take i).map fun r => [Kh332.ends a (Kh332.brings a r)] ++ r) := ⟨as, kp34.same _ _ a1, a2, a3, a4, a5, fun i x r hx hr => kp34.same _ _ (a6 i x r hx hr)⟩
        have BL5 := BL4.new (r := [Kh332.ends a (Kh332.brings a r)] ++ r) (kp34.same _ _ a1) ht2 (kp12.trans kp34)
        have kp5 : Keep [] (upd H3 t1 (.lst [vN (Kh332.ends a (Kh332.brings a r))])) (upd (upd H3 t1 (.lst [vN (Kh332.ends a (Kh332.brings a r))])) t2 (.lst ([vN (Kh332.ends a (Kh332.brings a r))] ++ r.map vN))) := Keep.refl.new ht2
        refine ⟨as.map V.ref, kp5.same _ _ (kp34.same _ _ a1), ?_, ?_, ((kp2.trans kp34).trans kp5).new' hL⟩
        · rw [List.length_map, a2, List.length_map, List.length_take]
          exact size_of (by omega)
        · rw [HM.take_snoc hri, List.map_append]
          exact BL5
    · rintro H2 ⟨BL, kp2⟩
      rw [List.length_map, hpl, List.take_length] at BL
      have kp12 := kp1.trans kp2
      refine min_pick (f := fun l => (Kh332.ends a (Kh332.brings a l), 0)) (key := fun r => [Kh332.ends a (Kh332.brings a r)]) BL (fun x y h => HM.lx1 h) fun p hp hp2 => ?_
      exact q H2 p A.cs a _ edo (Z.same kp12) hp hp2 (kp12.mono (by simp))
/-! ### kept -/
theorem cut_1 {x : V} {xs : List V} : cutV (x :: xs) none (some 1) = [x] := by
  have := cutV_take (xs := x :: xs) (k := 1) (by simp)
  exact this
theorem cut_2 {x y : V} {xs : List V} : cutV (x :: y :: xs) (some 2) none = xs := by
  unfold cutV
  have e : HT.sIx (x :: y :: xs).length 0 (some 2) = 2 := by
    have := HT.sIx_nat (x :: y :: xs).length 0 2
    rw [List.length_cons, List.length_cons] at this ⊢
    exact this.trans (by omega)
  rw [e, HT.sIx_none]
  show xs.take (xs.length + 1 + 1 - 2) = xs
  exact List.take_of_length_le (by omega)
theorem scKept : FnScope ["harvest", "least", "row"] ["harvest"] (defScope s_kept) := ⟨rfl, rfl, rfl, by decide +kernel, rfl, by decide +kernel, by decide +kernel⟩
theorem ok_kept (T : Tx K mg c) (D : Dn K mg "kept" s_kept ["harvest"]) (C1 : Cl P w K mg base "rows_to_bring" ["harvest"] 3 (spRowsTo c)) (C2 : Cl P w K mg base "late_and_end" ["harvest", "row"] 6 (spLateEnd c)) : Cl P w K mg base "kept" ["harvest"] 7 (spC c (relNone .kept)) := by
  refine D.ok scKept (fun vs H Q E h => ?_) (fun f cdv A outer s H vs Q E hr h => ?_)
  · obtain ⟨A, dco, ll, a, args, cl, rfl, ⟨rfl, _⟩, _⟩ := h
    rfl
  · obtain ⟨A, dco, ll, a, args, cl, rfl, ⟨rfl, rfl⟩, Z, hbr, q⟩ := h
    obtain ⟨f1, fd1, G1, b1, m1, k1⟩ := C1
    obtain ⟨f2, fd2, G2, b2, m2, k2⟩ := C2
    have hr3 : Room 3 _ := hr.mono (by decide)
    have hu : _ < cLine := hu_of hr
    have nd := scKept.nd
    refine ⟨_, pss_cons (ps_set (i := 1) nd rfl (Or.inl rfl) (pe_callB (cr_minL rfl hu) (by rfl) T.min (by rfl) (pa_cons (pe_lc
      (te := tOp rCat (tCall (spLateEnd c) [] E0 (tCons (tVar 0) (tCons (tVar 2) tNil))) (tVar 2)) rfl nd (pi_list (pe_call G1 hr3 (by rfl) m1 k1 b1 .nil pass0 (pa_cons (pv 0) pa_nil)))
      (blkOk_by (own := [("row", 2)]) (by refine (show blkC ["harvest", "least", "row"] (defScope s_kept) _ [("row", 2)] = true from ?_); decide +kernel)) (fun _ _ _ _ _ => pg_name (i := 2) nd rfl (Or.inl rfl)) (fun _ _ _ _ _ => pts_nil)
      (fun _ _ _ _ _ => pe_op op_cat (pe_call G2 hr (by rfl) m2 k2 b2 .nil pass0 (pa_cons (pv 0) (pa_cons (pv 2) pa_nil))) (pv 2))) pa_nil)))
      (pss_one (ps_ret (pe_op op_cat (pe_slice sl_list (pv 1) po_none (po_some pe_int)) (pe_slice sl_list (pv 1) (po_some pe_int) po_none)))), ?_⟩
    refine rV rfl ⟨A, dco, ll, a, rfl, Z, fun H1 pr hpr B kp1 => ?_⟩
    have hrl := rows_len a Z.nc
    have hok := fun r => HM.row_ok (a := a) (r := r)
    have hc5 := Z.nc
    obtain ⟨ps, hps, hpl, hpn, hpt⟩ := B.ex
    have edo : Kh332.doing (some a) .kept = (some a, ⟨Kh332.late a (Kh332.brings a (Kh332.kept a)), Kh332.kept a⟩) := rfl
    have hkl : (Kh332.kept a).length ≤ 5000 := by
      have hm : ∀ (rs : List (List Nat)) (o : Option (List Nat)) (f : List Nat → Nat × Nat), (∀ r ∈ rs, r.length ≤ 5000) → (∀ r, o = some r → r.length ≤ 5000) → ∀ r, rs.foldl (fun (o : Option (List Nat)) x => match o with
          | none => some x
          | some y => if (f x).1 < (f y).1 ∨ ((f x).1 = (f y).1 ∧ (f x).2 < (f y).2) then some x else some y) o = some r → r.length ≤ 5000 := by
        intro rs
        induction rs with
        | nil => intro o f _ h2 r hr; exact h2 r hr
        | cons x rs ih =>
          intro o f h1 h2 r hr
          refine ih _ f (fun r hr => h1 r (by simp [hr])) (fun r' hr' => ?_) r hr
          cases o with
          | none =>
            have e : x = r' := Option.some.inj hr'
            rw [← e]
            exact h1 x (by simp)
          | some y =>
            dsimp only at hr'
            split at hr'
            · have e : x = r' := Option.some.inj hr'
              rw [← e]
              exact h1 x (by simp)
            · exact h2 r' hr'
      have h := hm (Kh332.perms (Kh332.full a).length (Kh332.full a)) none (fun l => (Kh332.late a (Kh332.brings a l), Kh332.ends a (Kh332.brings a l))) (fun r hr => by
        have := (hok r hr).2.2
        omega) (fun r h => by cases h)
      unfold Kh332.kept Kh332.least
      revert h
      generalize (List.foldl _ none _) = o
      intro h
      cases o with
      | none => exact Nat.zero_le _
      | some r => exact h r rfl
    refine ⟨pr, rfl, ⟨_, SqL.of hps⟩, fun L hL => lc_list (K := K) (a := pr) (xs := ps.map V.ref) (fun i H' => Lln H H' L (((Kh332.perms (Kh332.full a).length (Kh332.full a)).take i).map fun r => [Kh332.late a (Kh332.brings a r), Kh332.ends a (Kh332.brings a r)] ++ r) ∧ Keep [] H1 H')
      ⟨keyed_nil hL _, Keep.refl.new hL⟩ (fun i H' _ h => SqL.of (h.2.same _ _ hps)) ?_ ?_⟩
    · rintro i y H2 hi ⟨BL, kp2⟩
      obtain ⟨x, hx, rfl⟩ := map_at hi
      obtain ⟨r, hri⟩ : ∃ r, (Kh332.perms (Kh332.full a).length (Kh332.full a))[i]? = some r := ⟨_, List.getElem?_eq_getElem (by have := (List.getElem?_eq_some_iff.mp hx).1; omega)⟩
      obtain ⟨o1, o2, o3⟩ := hok r (List.mem_of_getElem? hri)
      have kp12 := kp1.trans kp2
      have Z2 := Z.same kp12
      have hxr := kp2.same _ _ (hpt i x r hx hri)
      have hil : i < 5000 := by
        have := (List.getElem?_eq_some_iff.mp hri).1
        omega
      generalize Kh332.perms (Kh332.full a).length (Kh332.full a) = rows at *
      refine ⟨rfl, rV rfl (rV rfl ⟨A, dco, ll, a, x, r, rfl, Z2, hbr, hxr, o1, o2, fun H3 t1 ht1 ht1' kp3 => ?_⟩)⟩
      refine rV rfl ⟨t1, x, _, _, rfl, rfl, ht1', kp3.same _ _ hxr, ?_, fun t2 ht2 => ?_⟩
      · show 2 + _ ≤ _
        rw [List.length_map]
        exact Nat.le_of_lt (size_of (by omega))
      · obtain ⟨as, a1, a2, a3, a4, a5, a6⟩ := id BL.ex
        have BL4 : Lln H H3 L ((rows.take i).map fun r => [Kh332.late a (Kh332.brings a r), Kh332.ends a (Kh332.brings a r)] ++ r) := ⟨as, kp3.same _ _ a1, a2, a3, a4, a5, fun i x r hx hr => kp3.same _ _ (a6 i x r hx hr)⟩
        have BL5 := BL4.new (r := [Kh332.late a (Kh332.brings a r), Kh332.ends a (Kh332.brings a r)] ++ r) (kp3.same _ _ a1) ht2 (kp12.trans kp3)
        have kp5 : Keep [] H3 (upd H3 t2 (.lst ([vN (Kh332.late a (Kh332.brings a r)), vN (Kh332.ends a (Kh332.brings a r))] ++ r.map vN))) := Keep.refl.new ht2
        refine ⟨as.map V.ref, kp5.same _ _ (kp3.same _ _ a1), ?_, ?_, ((kp2.trans kp3).trans kp5).new' hL⟩
        · rw [List.length_map, a2, List.length_map, List.length_take]
          exact size_of (by omega)
        · rw [HM.take_snoc hri, List.map_append]
          exact BL5
    · rintro H2 ⟨BL, kp2⟩
      rw [List.length_map, hpl, List.take_length] at BL
      have kp12 := kp1.trans kp2
      dsimp only [tNil]
      refine min_pick (f := fun l => (Kh332.late a (Kh332.brings a l), Kh332.ends a (Kh332.brings a l))) (key := fun r => [Kh332.late a (Kh332.brings a r), Kh332.ends a (Kh332.brings a r)]) BL (fun x y h => HM.lx2 h) fun p hp hp2 => ?_
      have hp2 : H2 p = some (.lst (vN (Kh332.late a (Kh332.brings a (Kh332.kept a))) :: vN (Kh332.ends a (Kh332.brings a (Kh332.kept a))) :: (Kh332.kept a).map vN)) := hp2
      generalize Kh332.late a (Kh332.brings a (Kh332.kept a)) = la at *
      generalize Kh332.ends a (Kh332.brings a (Kh332.kept a)) = ed at *
      generalize Kh332.kept a = kr at *
      refine rV rfl ⟨1, rfl, p, _, rfl, SqL.of hp2, fun t1 ht1 => ?_⟩
      rw [cut_1]
      have kp3 : Keep [] H2 (upd H2 t1 (.lst [vN la])) := Keep.refl.new ht1
      refine rV rfl ⟨2, rfl, p, _, rfl, SqL.of (kp3.same _ _ hp2), fun t2 ht2 => ?_⟩
      rw [cut_2]
      have kp4 : Keep [] (upd H2 t1 (.lst [vN la])) (upd (upd H2 t1 (.lst [vN la])) t2 (.lst (kr.map vN))) := Keep.refl.new ht2
      refine ⟨t1, t2, _, _, rfl, rfl, kp4.same _ _ upd_same, upd_same, ?_, fun x hx => ?_⟩
      · show 1 + _ ≤ _
        rw [List.length_map]
        exact Nat.le_of_lt (size_of (by omega))
      · exact Z.told q (kp12.trans (kp3.trans kp4)) hx edo rfl
end
end Hb

set_option Elab.async false
set_option linter.all false
set_option maxRecDepth 100000
set_option maxHeartbeats 2000000
/-! asked: a call by the table -/
namespace Hb
open PySem PySem.Spec PyProof.Rows L2
theorem nats_of (r : List Nat) : Kh332Neutral.nats (r.map Int.ofNat) = r := by
  unfold Kh332Neutral.nats
  rw [List.map_map]
  exact List.map_id' r
section
variable (P : Program) (w : World) (K : PySem.W.Frag) (mg : Str → Option Value) (base : Heap) (c : Cs)
def Ce (f : Addr) (rel : Hp → List Addr → List V → Kh332.Call → Prop) : Prop := ∃ (fd : FuncData) (ps : List Str) (k : Nat), FnOk P w K mg base CX0 k f fd ps (spC c rel) ∧ k ≤ 7 ∧ PySem.W.keepIn K (.ref f) = true ∧ L2.Binds K fd ps []
/-- a row of the table: what is called, and that the arguments fit -/
def TRow (q : Nat) (v : V) : Prop := ∃ (f : Addr) (rel : Hp → List Addr → List V → Kh332.Call → Prop), v = .ref f ∧ Ce P w K mg base c f rel ∧
  ∀ (ms : List Nat) (rs : Option (List Nat)), HM.GoodRaw q ms rs → ∀ (H : Hp) (S : List Addr) (ar : Addr), ArgsAt H S ar ms rs → ∃ L, H ar = some (.lst L) ∧ L.length ≤ 3 ∧ rel H S L (Kh332Neutral.callOf1 (HM.toRaw q ms rs))
end
section
variable {P : Program} {w : World} {K : PySem.W.Frag} {mg : Str → Option Value} {base : Heap} {c : Cs}
theorem ce_of {x : Str} {ps : List Str} {k : Nat} {rel : Hp → List Addr → List V → Kh332.Call → Prop} {f : Addr} (C : Cl P w K mg base x ps k (spC c rel)) (hk : k ≤ 7) (h : mg x = some (.ref f)) : Ce P w K mg base c f rel := by
  obtain ⟨f1, fd, F, b, m, kp⟩ := C
  have e := Value.ref.inj (Option.some.inj (m.symm.trans h))
  subst e
  exact ⟨fd, ps, k, F, hk, kp, b⟩
theorem row_nums {q n : Nat} {x : Str} {ps : List Str} {k : Nat} {rel : Hp → List Addr → List V → Kh332.Call → Prop} {f : Addr} (C : Cl P w K mg base x ps k (spC c rel)) (h : mg x = some (.ref f)) (hs : shp q = (n, false)) (hr : ∀ ms : List Nat, ms.length = n → ∀ H S, rel H S (ms.map vN) (Kh332Neutral.callOf1 (HM.toRaw q ms none)))
    (hk : k ≤ 7 := by decide) (hn : n ≤ 3 := by decide) : TRow P w K mg base c q (.ref f) := by
  refine ⟨f, rel, rfl, ce_of C hk h, fun ms rs G H S ar B => ?_⟩
  have g1 := G.nums
  have g2 := G.rows
  rw [hs] at g1 g2
  cases B with
  | num hB => exact ⟨_, hB, by rw [List.length_map, g1]; exact hn, hr ms g1 H S⟩
  | row ra h1 h2 h3 => cases g2
theorem row_row {q n : Nat} {x : Str} {ps : List Str} {k : Nat} {rel : Hp → List Addr → List V → Kh332.Call → Prop} {f : Addr} (C : Cl P w K mg base x ps k (spC c rel)) (h : mg x = some (.ref f)) (hs : shp q = (n, true))
    (hr : ∀ (ms r : List Nat), ms.length = n → ∀ H S ra, H ra = some (.lst (r.map vN)) → ra ∉ S → r.length ≤ 5000 → rel H S (ms.map vN ++ [.ref ra]) (Kh332Neutral.callOf1 (HM.toRaw q ms (some r)))) (hk : k ≤ 7 := by decide) (hn : n ≤ 2 := by decide) : TRow P w K mg base c q (.ref f) := by
  refine ⟨f, rel, rfl, ce_of C hk h, fun ms rs G H S ar B => ?_⟩
  have g1 := G.nums
  have g2 := G.rows
  rw [hs] at g1 g2
  cases B with
  | num hB => cases g2
  | row ra h1 h2 h3 => exact ⟨_, h1, by rw [List.length_append, List.length_map, g1]; exact Nat.succ_le_succ hn, hr ms _ g1 H S ra h2 h3 (G.few _ rfl)⟩
theorem row_only {q : Nat} {x : Str} {ps : List Str} {k : Nat} {mk : List Nat → Kh332.Call} {f : Addr} (C : Cl P w K mg base x ps k (spC c (relRow mk))) (h : mg x = some (.ref f)) (hs : shp q = (0, true)) (he : ∀ r : List Nat, Kh332Neutral.callOf1 (HM.toRaw q [] (some r)) = mk (Kh332Neutral.nats (r.map Int.ofNat))) (hk : k ≤ 7 := by decide) : TRow P w K mg base c q (.ref f) :=
  row_row C h hs (fun ms r hm H S ra h1 h2 h3 => by
    cases ms with
    | nil => exact ⟨ra, r, rfl, h1, h2, h3, by rw [he, nats_of]⟩
    | cons a b => cases hm) hk (by decide)
theorem scAsked : FnScope ["harvest", "number", "arguments", "call"] ["harvest", "number", "arguments"] (defScope s_asked) := ⟨rfl, rfl, rfl, by decide +kernel, rfl, by decide +kernel, by decide +kernel⟩
theorem ok_asked {fs : List V} (T : Tx K mg c) (TB : Tab K mg fs) (D : Dn K mg "asked" s_asked ["harvest", "number", "arguments"]) (R : ∀ q v, 0 < q → q < 19 → fs[q]? = some v → TRow P w K mg base c q v) : Cl P w K mg base "asked" ["harvest", "number", "arguments"] 8 (spC c relAsked) := by
  refine D.ok scAsked (fun vs H Q E h => ?_) (fun f cdv A outer s H vs Q E hr h => ?_)
  · obtain ⟨A, dco, ll, a, args, cl, rfl, ⟨q', ar, ms, rs, rfl, _⟩, _⟩ := h
    rfl
  · obtain ⟨A, dco, ll, a, args, cl, rfl, ⟨n, ar, ms, rs, rfl, hn0, G, B, rfl⟩, Z, hbr, q⟩ := h
    obtain ⟨ta, rows, hmg, ht, hrl, hfl, hrows⟩ := TB.ex
    have nd := scAsked.nd
    refine ⟨_, pss_cons (ps_set (i := 3) nd rfl (Or.inl rfl) (pe_ix ix_tup (pe_ix ix_tup (pe_glob (v := .ref ta) (by rfl) hmg rfl) (pv 1) (fun _ _ => rfl)) pe_int (fun _ _ => rfl)))
      (pss_cons (ps_if (pt_cmpR op_eq (pe_callB call_len_seq (by rfl) T.len (by rfl) (pa_cons (pv 2) pa_nil)) pe_int (nomark _)) (pss_one (ps_ret (pe_callV (pv 3) (pa_cons (pv 0) pa_nil)))) pss_nil)
      (pss_cons (ps_if (pt_cmpR op_eq (pe_callB call_len_seq (by rfl) T.len (by rfl) (pa_cons (pv 2) pa_nil)) pe_int (nomark _)) (pss_one (ps_ret (pe_callV (pv 3) (pa_cons (pv 0) (pa_cons (pe_ix ix_list (pv 2) pe_int (fun _ _ => rfl)) pa_nil))))) pss_nil)
      (pss_cons (ps_if (pt_cmpR op_eq (pe_callB call_len_seq (by rfl) T.len (by rfl) (pa_cons (pv 2) pa_nil)) pe_int (nomark _)) (pss_one (ps_ret (pe_callV (pv 3) (pa_cons (pv 0) (pa_cons (pe_ix ix_list (pv 2) pe_int (fun _ _ => rfl)) (pa_cons (pe_ix ix_list (pv 2) pe_int (fun _ _ => rfl)) pa_nil)))))) pss_nil)
      (pss_one (ps_ret (pe_callV (pv 3) (pa_cons (pv 0) (pa_cons (pe_ix ix_list (pv 2) pe_int (fun _ _ => rfl)) (pa_cons (pe_ix ix_list (pv 2) pe_int (fun _ _ => rfl)) (pa_cons (pe_ix ix_list (pv 2) pe_int (fun _ _ => rfl)) pa_nil)))))))))), ?_⟩
    obtain ⟨r, hrq⟩ : ∃ r, rows[n]? = some r := ⟨_, List.getElem?_eq_getElem (by rw [hrl]; exact G.lt)⟩
    obtain ⟨v, hvq⟩ : ∃ v, fs[n]? = some v := ⟨_, List.getElem?_eq_getElem (by rw [hfl]; exact G.lt)⟩
    obtain ⟨f1, rel, rfl, ⟨fd1, ps1, k1, F1, hk1, kp1, b1⟩, fit⟩ := R n v hn0 G.lt hvq
    obtain ⟨L, hL, hL3, hrel⟩ := fit ms rs G H (muts A ll) ar B
    refine rV rfl ⟨ta, _, _, _, rfl, rfl, ht.at, atI_nat (get_map hrq), r, _, _, _, rfl, rfl, (hrows n r _ hrq hvq).at, atI_nat (j := 2) rfl, ?_⟩
    have hrk := hr.mono hk1
    have go : spC c rel (.ref A.h :: L) H Q E0 := ⟨A, dco, ll, a, L, _, rfl, hrel, Z, hbr, q⟩
    refine rV rfl (rLen (SqL.of hL) ⟨rfl, rB ?_⟩)
    match L, hL, hL3, go with
    | [], hL, _, go => exact if_d (fun _ => rV rfl ⟨f1, fd1, ps1, k1, _, rfl, F1, hrk, kp1, b1, rV rfl go⟩) (fun h => absurd rfl h)
    | [u], hL, _, go =>
      refine if_d (fun h => absurd (V.int.inj h) (show ¬ (1 : Int) = 0 by decide)) (fun _ => rV rfl (rLen (SqL.of hL) ⟨rfl, rB ?_⟩))
      exact if_d (fun _ => rV rfl ⟨f1, fd1, ps1, k1, _, rfl, F1, hrk, kp1, b1, rV rfl (rV rfl (rX (SqL.of hL) (atI_nat (j := 0) rfl) go))⟩) (fun h => absurd rfl h)
    | [u, u2], hL, _, go =>
      refine if_d (fun h => absurd (V.int.inj h) (show ¬ (2 : Int) = 0 by decide)) (fun _ => rV rfl (rLen (SqL.of hL) ⟨rfl, rB ?_⟩))
      refine if_d (fun h => absurd (V.int.inj h) (show ¬ (2 : Int) = 1 by decide)) (fun _ => rV rfl (rLen (SqL.of hL) ⟨rfl, rB ?_⟩))
      exact if_d (fun _ => rV rfl ⟨f1, fd1, ps1, k1, _, rfl, F1, hrk, kp1, b1, rV rfl (rV rfl (rX (SqL.of hL) (atI_nat (j := 0) rfl) (rV rfl (rX (SqL.of hL) (atI_nat (j := 1) rfl) go))))⟩) (fun h => absurd rfl h)
    | [u, u2, u3], hL, _, go =>
      refine if_d (fun h => absurd (V.int.inj h) (show ¬ (3 : Int) = 0 by decide)) (fun _ => rV rfl (rLen (SqL.of hL) ⟨rfl, rB ?_⟩))
      refine if_d (fun h => absurd (V.int.inj h) (show ¬ (3 : Int) = 1 by decide)) (fun _ => rV rfl (rLen (SqL.of hL) ⟨rfl, rB ?_⟩))
      refine if_d (fun h => absurd (V.int.inj h) (show ¬ (3 : Int) = 2 by decide)) (fun _ => rV rfl ⟨f1, fd1, ps1, k1, _, rfl, F1, hrk, kp1, b1, rV rfl (rV rfl (rX (SqL.of hL) (atI_nat (j := 0) rfl) (rV rfl (rX (SqL.of hL) (atI_nat (j := 1) rfl) (rV rfl (rX (SqL.of hL) (atI_nat (j := 2) rfl) go))))))⟩)
    | _ :: _ :: _ :: _ :: _, _, h, _ => exact absurd h (by simp)
end
end Hb

set_option Elab.async false
set_option linter.all false
set_option maxRecDepth 100000
set_option maxHeartbeats 2000000
/-! from what the top has written to what the defs want -/
namespace Hb
open PySem PySem.Spec PyProof.Rows L2
section
variable {K : PySem.W.Frag} {h : Heap} {mg : Str → Option Value}
theorem dn_mk {x : Str} {st : Stmt} {ps : List Str} {f : Addr} {oc : Value} {od an : Option Addr} {osl : Array (Option Value)} {kV doc pm cdv ct : Value} (X : K.In h) (G : h.Ns mainGlobals mg)
    (a : PySem.W.nsIn K mainGlobals x = some (some (.ref f))) (l : K.lookup f = some ⟨oc, od, .func (PySem.W.fnOf x x (defArgs st) (defBody st) (defScope st) .none kV doc pm an cdv ct), osl⟩)
    (c : PySem.W.codeIn K cdv x = true) (k : PySem.W.keepIn K (.ref f) = true)
    (hb : ∀ (kV doc pm : Value) (an : Option Addr) (cdv ct : Value) (us : List Value), us.length = ps.length → bindArgs (PySem.W.fnOf x x (defArgs st) (defBody st) (defScope st) .none kV doc pm an cdv ct) ⟨us, []⟩ = pure (ps.zip us)) : Dn K mg x st ps :=
  have F := fun_mk (st := st) l c k
  ⟨f, _, F, F.binds hb, PySem.W.mg_of X G a⟩
theorem dnm_mk {C : Addr} {m qual : Str} {st : Stmt} {ps : List Str} {f : Addr} {oc : Value} {od an : Option Addr} {osl : Array (Option Value)} {kV doc pm cdv ct : Value}
    (a : PySem.W.findIn K (.ref C) m = some (some (.ref f))) (i : PySem.W.isFn K (.ref f) = true) (l : K.lookup f = some ⟨oc, od, .func (PySem.W.fnOf m qual (defArgs st) (defBody st) (defScope st) .none kV doc pm an cdv ct), osl⟩)
    (c : PySem.W.codeIn K cdv qual = true) (k : PySem.W.keepIn K (.ref f) = true)
    (hb : ∀ (kV doc pm : Value) (an : Option Addr) (cdv ct : Value) (us : List Value), us.length = ps.length → bindArgs (PySem.W.fnOf m qual (defArgs st) (defBody st) (defScope st) .none kV doc pm an cdv ct) ⟨us, []⟩ = pure (ps.zip us)) : DnM K C m qual st ps :=
  have F := fun_mk (st := st) l c k
  ⟨f, _, F, F.binds hb, ⟨a, i, k⟩⟩
theorem dnn_mk {x : Str} {C : Addr} {qual : Str} {st : Stmt} {ps : List Str} {f : Addr} {oc : Value} {od an : Option Addr} {osl : Array (Option Value)} {kV doc pm cdv ct : Value} (X : K.In h) (G : h.Ns mainGlobals mg)
    (g : PySem.W.nsIn K mainGlobals x = some (some (.ref C))) (mk : PySem.W.makesIn K C = true) (kc : PySem.W.keepIn K (.ref C) = true)
    (a : PySem.W.findIn K (.ref C) "__init__" = some (some (.ref f))) (i : PySem.W.isFn K (.ref f) = true) (l : K.lookup f = some ⟨oc, od, .func (PySem.W.fnOf "__init__" qual (defArgs st) (defBody st) (defScope st) .none kV doc pm an cdv ct), osl⟩)
    (c : PySem.W.codeIn K cdv qual = true) (k : PySem.W.keepIn K (.ref f) = true)
    (hb : ∀ (kV doc pm : Value) (an : Option Addr) (cdv ct : Value) (us : List Value), us.length = ps.length → bindArgs (PySem.W.fnOf "__init__" qual (defArgs st) (defBody st) (defScope st) .none kV doc pm an cdv ct) ⟨us, []⟩ = pure (ps.zip us)) : DnN K mg x C qual st ps :=
  have F := fun_mk (st := st) l c k
  ⟨f, _, F, F.binds hb, ⟨mk, a, i, kc⟩, PySem.W.mg_of X G g⟩
theorem int_mk {x : Str} {i : Int} {t : Tok} (X : K.In h) (G : h.Ns mainGlobals mg) (a : PySem.W.nsIn K mainGlobals x = some (some (.int i t))) : ∃ t, mg x = some (.int i t) := ⟨t, PySem.W.mg_of X G a⟩
theorem cls_mk {C : Addr} (pg : PySem.W.plainGet K C Str.empty = true) (hd : PySem.W.hasDictIn K C = true) (po : PySem.W.plainOver K C = true) (sa : PySem.W.findIn K (.ref C) "__setattr__" = some (some (.builtin "object.__setattr__"))) : Cls K C := ⟨pg, hd, po, sa⟩
theorem tup3_mk {r : Addr} {od : Option Addr} {n : Nat} {sl : Array (Option Value)} {i : Int} {t : Tok} {b : Bool} {u : Value} {v : V} (l : K.lookup r = some ⟨.type "tuple", od, .seq #[.int i t, .bool b, u] n, sl⟩) (hv : RelV v u) : TupK K r [.int i, .bl b, v] :=
  ⟨_, _, _, l, rfl, rfl, by show 3 ≤ sizeLine; decide, .cons ⟨t, rfl⟩ (.cons rfl (.cons hv .nil))⟩
theorem tup19_mk {a : Addr} {od : Option Addr} {n : Nat} {sl : Array (Option Value)} {r0 r1 r2 r3 r4 r5 r6 r7 r8 r9 r10 r11 r12 r13 r14 r15 r16 r17 r18 : Addr}
    (l : K.lookup a = some ⟨.type "tuple", od, .seq #[.ref r0, .ref r1, .ref r2, .ref r3, .ref r4, .ref r5, .ref r6, .ref r7, .ref r8, .ref r9, .ref r10, .ref r11, .ref r12, .ref r13, .ref r14, .ref r15, .ref r16, .ref r17, .ref r18] n, sl⟩) :
    TupK K a ([r0, r1, r2, r3, r4, r5, r6, r7, r8, r9, r10, r11, r12, r13, r14, r15, r16, r17, r18].map V.ref) :=
  ⟨_, _, _, l, rfl, rfl, by show 19 ≤ sizeLine; decide, .cons rfl (.cons rfl (.cons rfl (.cons rfl (.cons rfl (.cons rfl (.cons rfl (.cons rfl (.cons rfl (.cons rfl (.cons rfl (.cons rfl (.cons rfl (.cons rfl (.cons rfl (.cons rfl (.cons rfl (.cons rfl (.cons rfl .nil))))))))))))))))))⟩
end
/-- the request: what is asked, and what is due -/
theorem spec_end {K : PySem.W.Frag} {H : Hp} {r : Addr} (ns : List Int) (hwi : ((PySem.W.Codec.inLen 0 1100 ns && ns.all (PySem.W.Codec.inInt 0 4294967295)) && true) = true) (hask : PyKh332.answers_asked ns = true) (hs : SqL K H r (ns.map V.int)) :
    spAnswers K [V.ref r] H (fun v H' => Dw K H' v (.list ((PyKh332.answers ns).map PySem.W.WData.int))) fun _ _ _ => False := by
  rw [Bool.and_eq_true, Bool.and_eq_true] at hwi
  obtain ⟨⟨hl, hi⟩, _⟩ := hwi
  have hlen := (PySem.W.Codec.inNat_iff.mp hl).2
  have hnn : ∀ x ∈ ns, 0 ≤ x := fun x hx => by
    have := List.all_eq_true.mp hi x hx
    exact (PySem.W.Codec.inInt_iff.mp this).1
  unfold PyKh332.answers_asked at hask
  cases hc : PyFlat.calls PyKh332.shape ns.length ns with
  | none =>
    rw [hc] at hask
    cases hask
  | some raw =>
    rw [hc] at hask
    simp only [Bool.and_eq_true] at hask
    have hshort := hask.2
    have ew : raw.map PyKh332.whole = raw := by
      have : PyKh332.whole = id := funext fun c => HM.whole_id c
      rw [this, List.map_id]
    have ea : PyKh332.answers ns = PyFlat.told (PyFlat.played Kh332Neutral.step Kh332Neutral.start raw) := by
      unfold PyKh332.answers PyKh332.calls
      rw [hc]
      dsimp only
      rw [ew]
    unfold PyFlat.short at hshort
    rw [ea] at hshort
    refine ⟨r, ns, raw, rfl, hs, hlen, hnn, hc, of_decide_eq_true hshort, fun H' p hp => ?_⟩
    rw [ea]
    exact .lst (SqL.of hp) (dw_ints _)
end Hb

set_option Elab.async false
set_option linter.all false
set_option maxRecDepth 100000
set_option maxHeartbeats 2000000
namespace Hb
open PySem PySem.Spec PyProof.Rows L2
theorem fin {P : Program} {w : World} {K : PySem.W.Frag} {h : Heap} {mg : Str → Option Value} {fa c_boat c_cage c_course c_harvest c_plant tb r0 r1 r2 r3 r4 r5 r6 r7 r8 r9 r10 r11 r12 r13 r14 r15 r16 r17 r18 f1 f2 f3 f4 f5 f6 f7 f8 f9 f10 f11 f12 f13 f14 f15 f16 f17 f18 f_ans : Addr} (X : K.In h) (G : h.Ns mainGlobals mg) (hfa : mg "answers" = some (.ref fa))
    {oc kV doc pm cdv ct : Value} {od an : Option Addr} {osl : Array (Option Value)}
    (n_Boat : DnN K mg "Boat" c_boat "Boat.__init__" s_Boat_init ["self", "well", "speed", "load", "wash"])
    (n_Cage : DnN K mg "Cage" c_cage "Cage.__init__" s_Cage_init ["self", "at", "zone"])
    (n_Course : DnN K mg "Course" c_course "Course.__init__" s_Course_init ["self", "hour", "zone", "left"])
    (n_Harvest : DnN K mg "Harvest" c_harvest "Harvest.__init__" s_Harvest_init ["self", "plant", "boat"])
    (n_Plant : DnN K mg "Plant" c_plant "Plant.__init__" s_Plant_init ["self", "opens", "closes", "unload"])
    (k_Boat : Cls K c_boat)
    (k_Cage : Cls K c_cage)
    (k_Course : Cls K c_course)
    (m_Course_twin : DnM K c_course "twin" "Course.twin" s_Course_twin ["self"])
    (k_Harvest : Cls K c_harvest)
    (k_Plant : Cls K c_plant)
    (m_Plant_first_open_hour : DnM K c_plant "first_open_hour" "Plant.first_open_hour" s_Plant_first_open_hour ["self", "hour"])
    (m_Plant_unloaded_at : DnM K c_plant "unloaded_at" "Plant.unloaded_at" s_Plant_unloaded_at ["self", "hour", "kg"])
    (aWell : PySem.W.findIn K (.ref c_boat) "well" = some none)
    (aSpeed : PySem.W.findIn K (.ref c_boat) "speed" = some none)
    (aLoad : PySem.W.findIn K (.ref c_boat) "load" = some none)
    (aWash : PySem.W.findIn K (.ref c_boat) "wash" = some none)
    (aAt : PySem.W.findIn K (.ref c_cage) "at" = some none)
    (aCZone : PySem.W.findIn K (.ref c_cage) "zone" = some none)
    (aHour : PySem.W.findIn K (.ref c_course) "hour" = some none)
    (aZone : PySem.W.findIn K (.ref c_course) "zone" = some none)
    (aLeft : PySem.W.findIn K (.ref c_course) "left" = some none)
    (aPlant : PySem.W.findIn K (.ref c_harvest) "plant" = some none)
    (aBoat : PySem.W.findIn K (.ref c_harvest) "boat" = some none)
    (aCages : PySem.W.findIn K (.ref c_harvest) "cages" = some none)
    (aOrders : PySem.W.findIn K (.ref c_harvest) "orders" = some none)
    (aCourse : PySem.W.findIn K (.ref c_harvest) "course" = some none)
    (aTrips : PySem.W.findIn K (.ref c_harvest) "trips" = some none)
    (aAll : PySem.W.findIn K (.ref c_harvest) "brought_in_all" = some none)
    (aOpens : PySem.W.findIn K (.ref c_plant) "opens" = some none)
    (aCloses : PySem.W.findIn K (.ref c_plant) "closes" = some none)
    (aUnload : PySem.W.findIn K (.ref c_plant) "unload" = some none)
    (day : ∃ t, mg "DAY" = some (.int (24) t))
    (plantAt : ∃ t, mg "PLANT_AT" = some (.int (0) t))
    (mostCages : ∃ t, mg "MOST_CAGES" = some (.int (5) t))
    (mostOrders : ∃ t, mg "MOST_ORDERS" = some (.int (5) t))
    (mostFish : ∃ t, mg "MOST_FISH" = some (.int (20000) t))
    (rNoCage : ∃ t, mg "NO_SUCH_CAGE" = some (.int (-2) t))
    (rNothing : ∃ t, mg "NOTHING_FETCHED" = some (.int (-6) t))
    (rNotTold : ∃ t, mg "NOT_AS_TOLD" = some (.int (-22) t))
    (rNoMore : ∃ t, mg "NO_MORE_FIT" = some (.int (-28) t))
    (rZone : ∃ t, mg "NOT_ONE_ZONE" = some (.int (-33) t))
    (rNotBegun : ∃ t, mg "NOT_BEGUN" = some (.int (-61) t))
    (gBegin : ∃ t, mg "BEGIN" = some (.int (0) t))
    (rNever : ∃ t, mg "NEVER" = some (.int (-33) t))
    (notFilled : ∃ t, mg "NOT_FILLED_COUNTS" = some (.int (1000) t))
    (b_len : PySem.W.nsIn K mainGlobals "len" = some none)
    (b_abs : PySem.W.nsIn K mainGlobals "abs" = some none)
    (b_min : PySem.W.nsIn K mainGlobals "min" = some none)
    (b_any : PySem.W.nsIn K mainGlobals "any" = some none)
    (b_all : PySem.W.nsIn K mainGlobals "all" = some none)
    (b_list : PySem.W.nsIn K mainGlobals "list" = some none)
    (b_enumerate : PySem.W.nsIn K mainGlobals "enumerate" = some none)
    (b_max : PySem.W.nsIn K mainGlobals "max" = some none)
    (b_sum : PySem.W.nsIn K mainGlobals "sum" = some none)
    (b_zip : PySem.W.nsIn K mainGlobals "zip" = some none)
    (d_end_by : Dn K mg "end_by" s_end_by ["trips", "kg"])
    (d_filled_at : Dn K mg "filled_at" s_filled_at ["orders", "trips"])
    (d_hours_late : Dn K mg "hours_late" s_hours_late ["orders", "trips"])
    (d_divided_up : Dn K mg "divided_up" s_divided_up ["number", "by"])
    (d_one_longer : Dn K mg "one_longer" s_one_longer ["rows", "cages"])
    (d_all_rows : Dn K mg "all_rows" s_all_rows ["cages"])
    (d_sailing : Dn K mg "sailing" s_sailing ["boat", "start", "goal"])
    (d_fetch : Dn K mg "fetch" s_fetch ["harvest", "course", "row"])
    (d_make_trip : Dn K mg "make_trip" s_make_trip ["harvest", "course", "row"])
    (d_parted_by_zone : Dn K mg "parted_by_zone" s_parted_by_zone ["harvest", "course", "row"])
    (d_bring_all : Dn K mg "bring_all" s_bring_all ["harvest", "row"])
    (d_end_of : Dn K mg "end_of" s_end_of ["harvest", "trips"])
    (d_within : Dn K mg "within" s_within ["number", "least", "most"])
    (d_begin : Dn K mg "begin" s_begin ["well", "speed", "load", "unload", "wash", "opens", "closes"])
    (d_cage : Dn K mg "cage" s_cage ["harvest", "at", "zone", "kg"])
    (d_fish : Dn K mg "fish" s_fish ["harvest", "i", "kg"])
    (d_order : Dn K mg "order" s_order ["harvest", "kg", "due"])
    (d_wait : Dn K mg "wait" s_wait ["harvest", "n"])
    (d_far : Dn K mg "far" s_far ["harvest", "i", "j"])
    (d_unloads : Dn K mg "unloads" s_unloads ["harvest", "t", "kg"])
    (d_is_row_of_cages : Dn K mg "is_row_of_cages" s_is_row_of_cages ["harvest", "row"])
    (d_trip_refusal : Dn K mg "trip_refusal" s_trip_refusal ["harvest", "row"])
    (d_trip : Dn K mg "trip" s_trip ["harvest", "row"])
    (d_run : Dn K mg "run" s_run ["harvest", "row"])
    (d_with_count : Dn K mg "with_count" s_with_count ["trips"])
    (d_bring : Dn K mg "bring" s_bring ["harvest", "row"])
    (d_rows_to_bring : Dn K mg "rows_to_bring" s_rows_to_bring ["harvest"])
    (d_soonest : Dn K mg "soonest" s_soonest ["harvest"])
    (d_late_and_end : Dn K mg "late_and_end" s_late_and_end ["harvest", "row"])
    (d_late : Dn K mg "late" s_late ["harvest", "row"])
    (d_kept : Dn K mg "kept" s_kept ["harvest"])
    (d_washes : Dn K mg "washes" s_washes ["harvest", "row"])
    (d_by_when : Dn K mg "by_when" s_by_when ["harvest", "kg", "row"])
    (d_brought : Dn K mg "brought" s_brought ["harvest"])
    (d_filled : Dn K mg "filled" s_filled ["harvest"])
    (d_look : Dn K mg "look" s_look ["harvest", "i"])
    (d_state : Dn K mg "state" s_state ["harvest"])
    (d_parted : Dn K mg "parted" s_parted ["calls"])
    (d_begun : Dn K mg "begun" s_begun ["arguments"])
    (d_asked : Dn K mg "asked" s_asked ["harvest", "number", "arguments"])
    (t_calls : PySem.W.nsIn K mainGlobals "CALLS" = some (some (.ref tb)))
    (t_rows : TupK K tb ([r0, r1, r2, r3, r4, r5, r6, r7, r8, r9, r10, r11, r12, r13, r14, r15, r16, r17, r18].map V.ref))
    (t_0 : TupK K r0 [.int 7, .bl false, .non])
    (t_1 : TupK K r1 [.int 3, .bl false, .ref f1])
    (g_1 : PySem.W.nsIn K mainGlobals "cage" = some (some (.ref f1)))
    (t_2 : TupK K r2 [.int 2, .bl false, .ref f2])
    (g_2 : PySem.W.nsIn K mainGlobals "fish" = some (some (.ref f2)))
    (t_3 : TupK K r3 [.int 2, .bl false, .ref f3])
    (g_3 : PySem.W.nsIn K mainGlobals "order" = some (some (.ref f3)))
    (t_4 : TupK K r4 [.int 1, .bl false, .ref f4])
    (g_4 : PySem.W.nsIn K mainGlobals "wait" = some (some (.ref f4)))
    (t_5 : TupK K r5 [.int 2, .bl false, .ref f5])
    (g_5 : PySem.W.nsIn K mainGlobals "far" = some (some (.ref f5)))
    (t_6 : TupK K r6 [.int 2, .bl false, .ref f6])
    (g_6 : PySem.W.nsIn K mainGlobals "unloads" = some (some (.ref f6)))
    (t_7 : TupK K r7 [.int 0, .bl true, .ref f7])
    (g_7 : PySem.W.nsIn K mainGlobals "trip" = some (some (.ref f7)))
    (t_8 : TupK K r8 [.int 0, .bl true, .ref f8])
    (g_8 : PySem.W.nsIn K mainGlobals "run" = some (some (.ref f8)))
    (t_9 : TupK K r9 [.int 0, .bl true, .ref f9])
    (g_9 : PySem.W.nsIn K mainGlobals "bring" = some (some (.ref f9)))
    (t_10 : TupK K r10 [.int 0, .bl false, .ref f10])
    (g_10 : PySem.W.nsIn K mainGlobals "soonest" = some (some (.ref f10)))
    (t_11 : TupK K r11 [.int 0, .bl true, .ref f11])
    (g_11 : PySem.W.nsIn K mainGlobals "late" = some (some (.ref f11)))
    (t_12 : TupK K r12 [.int 0, .bl false, .ref f12])
    (g_12 : PySem.W.nsIn K mainGlobals "kept" = some (some (.ref f12)))
    (t_13 : TupK K r13 [.int 0, .bl true, .ref f13])
    (g_13 : PySem.W.nsIn K mainGlobals "washes" = some (some (.ref f13)))
    (t_14 : TupK K r14 [.int 1, .bl true, .ref f14])
    (g_14 : PySem.W.nsIn K mainGlobals "by_when" = some (some (.ref f14)))
    (t_15 : TupK K r15 [.int 0, .bl false, .ref f15])
    (g_15 : PySem.W.nsIn K mainGlobals "brought" = some (some (.ref f15)))
    (t_16 : TupK K r16 [.int 0, .bl false, .ref f16])
    (g_16 : PySem.W.nsIn K mainGlobals "filled" = some (some (.ref f16)))
    (t_17 : TupK K r17 [.int 1, .bl false, .ref f17])
    (g_17 : PySem.W.nsIn K mainGlobals "look" = some (some (.ref f17)))
    (t_18 : TupK K r18 [.int 0, .bl false, .ref f18])
    (g_18 : PySem.W.nsIn K mainGlobals "state" = some (some (.ref f18)))
    (aa : PySem.W.nsIn K mainGlobals "answers" = some (some (.ref f_ans))) (la : K.lookup f_ans = some ⟨oc, od, .func (PySem.W.fnOf "answers" "answers" (defArgs s_answers) (defBody s_answers) (defScope s_answers) .none kV doc pm an cdv ct), osl⟩) (ca : PySem.W.codeIn K cdv "answers" = true) (ka : PySem.W.keepIn K (.ref f_ans) = true) :
    ∃ fd : FuncData, (∀ (s : Shared) (us : List Value), us.length = (["calls"] : List Str).length → BindsTo s fd ⟨us, []⟩ ((["calls"] : List Str).zip us)) ∧ ∀ base : Heap, K.In base → base.Ns mainGlobals mg → FnOk P w K mg base CX0 9 fa fd ["calls"] (spAnswers K) := by
  have e := hfa.symm.trans (PySem.W.mg_of X G aa)
  cases e
  have T : Tx K mg ⟨c_boat, c_cage, c_course, c_harvest, c_plant⟩ := ⟨k_Boat, k_Cage, k_Course, k_Harvest, k_Plant, aWell, aSpeed, aLoad, aWash, aAt, aCZone, aHour, aZone, aLeft, aPlant, aBoat, aCages, aOrders, aCourse, aTrips, aAll, aOpens, aCloses, aUnload, day, plantAt, mostCages, mostOrders, mostFish, rNoCage, rNothing, rNotTold, rNoMore, rZone, rNotBegun, gBegin, rNever, notFilled, PySem.W.mg_none_of X G b_len, PySem.W.mg_none_of X G b_abs, PySem.W.mg_none_of X G b_min, PySem.W.mg_none_of X G b_any, PySem.W.mg_none_of X G b_all, PySem.W.mg_none_of X G b_list, PySem.W.mg_none_of X G b_enumerate, PySem.W.mg_none_of X G b_max, PySem.W.mg_none_of X G b_sum, PySem.W.mg_none_of X G b_zip⟩
  have TB : Tab K mg [.non, .ref f1, .ref f2, .ref f3, .ref f4, .ref f5, .ref f6, .ref f7, .ref f8, .ref f9, .ref f10, .ref f11, .ref f12, .ref f13, .ref f14, .ref f15, .ref f16, .ref f17, .ref f18] := ⟨tb, [r0, r1, r2, r3, r4, r5, r6, r7, r8, r9, r10, r11, r12, r13, r14, r15, r16, r17, r18], PySem.W.mg_of X G t_calls, t_rows, rfl, rfl, fun q r v hr hv => by
    match q, hr, hv with
    | 0, hr, hv => cases hr; cases hv; exact t_0
    | 1, hr, hv => cases hr; cases hv; exact t_1
    | 2, hr, hv => cases hr; cases hv; exact t_2
    | 3, hr, hv => cases hr; cases hv; exact t_3
    | 4, hr, hv => cases hr; cases hv; exact t_4
    | 5, hr, hv => cases hr; cases hv; exact t_5
    | 6, hr, hv => cases hr; cases hv; exact t_6
    | 7, hr, hv => cases hr; cases hv; exact t_7
    | 8, hr, hv => cases hr; cases hv; exact t_8
    | 9, hr, hv => cases hr; cases hv; exact t_9
    | 10, hr, hv => cases hr; cases hv; exact t_10
    | 11, hr, hv => cases hr; cases hv; exact t_11
    | 12, hr, hv => cases hr; cases hv; exact t_12
    | 13, hr, hv => cases hr; cases hv; exact t_13
    | 14, hr, hv => cases hr; cases hv; exact t_14
    | 15, hr, hv => cases hr; cases hv; exact t_15
    | 16, hr, hv => cases hr; cases hv; exact t_16
    | 17, hr, hv => cases hr; cases hv; exact t_17
    | 18, hr, hv => cases hr; cases hv; exact t_18
    | n + 19, hr, _ => simp at hr⟩
  refine ⟨PySem.W.fnOf "answers" "answers" (defArgs s_answers) (defBody s_answers) (defScope s_answers) .none kV doc pm an cdv ct, fun s us hu => match us, hu with | [_], _ => .of_eq rfl, fun base _ _ => ?_⟩
  have F := fun_mk (st := s_answers) la ca ka
  have o_div := ok_div (P := P) (w := w) (base := base) d_divided_up
  have o_sail := ok_sail T d_sailing o_div
  have o_open := ok_open (P := P) (w := w) (base := base) T m_Plant_first_open_hour
  have o_unl := ok_unl T m_Plant_unloaded_at o_div o_open
  have o_trip := ok_trip T d_make_trip (ok_fetch T d_fetch o_div o_sail) o_unl
  have o_row := ok_row (P := P) (w := w) (base := base) T d_is_row_of_cages
  have o_ref := ok_refusal T d_trip_refusal o_row
  have o_within := ok_within (P := P) (w := w) (base := base) d_within
  have o_courseI := ok_courseInit (P := P) (w := w) (base := base) T n_Course
  have o_twin := ok_twin T m_Course_twin o_courseI
  have o_cageI := ok_cageInit (P := P) (w := w) (base := base) T n_Cage
  have o_endBy := ok_endBy (P := P) (w := w) (base := base) d_end_by
  have o_fillAt := ok_filledAt d_filled_at o_endBy
  have o_bringA := ok_bringA T d_bring_all o_trip o_twin (ok_partedZ T d_parted_by_zone)
  have o_endOf := ok_endOf (P := P) (w := w) (base := base) T d_end_of
  have o_count := ok_count (P := P) (w := w) (base := base) T d_with_count
  have o_rowsTo := ok_rowsTo T d_rows_to_bring (ok_allRows T d_all_rows (ok_longer (P := P) (w := w) (base := base) d_one_longer))
  have o_lateEnd := ok_lateEnd T d_late_and_end o_bringA o_endOf (ok_hoursLate T d_hours_late o_fillAt)
  have o_begin := ok_begin (P := P) (w := w) (base := base) T d_begin o_within (ok_harvestInit T n_Harvest o_courseI) (ok_plantInit T n_Plant) (ok_boatInit T n_Boat)
  refine ok_answers (by decide) T F (ok_parted T TB d_parted) (ok_begun d_begun o_begin) (ok_asked T TB d_asked fun q v h0 h1 hv => ?_)
  match q, h0, h1, hv with
  | 1, _, _, hv => cases hv; exact row_nums (ok_cage T d_cage o_within o_cageI) (PySem.W.mg_of X G g_1) rfl (fun ms hm _ _ => match ms, hm with | [x, z, k], _ => ⟨x, z, k, rfl, rfl⟩)
  | 2, _, _, hv => cases hv; exact row_nums (ok_fish T d_fish o_within) (PySem.W.mg_of X G g_2) rfl (fun ms hm _ _ => match ms, hm with | [x, z], _ => ⟨x, z, rfl, rfl⟩)
  | 3, _, _, hv => cases hv; exact row_nums (ok_order T d_order o_within) (PySem.W.mg_of X G g_3) rfl (fun ms hm _ _ => match ms, hm with | [x, z], _ => ⟨x, z, rfl, rfl⟩)
  | 4, _, _, hv => cases hv; exact row_nums (ok_wait T d_wait o_within) (PySem.W.mg_of X G g_4) rfl (fun ms hm _ _ => match ms, hm with | [x], _ => ⟨x, rfl, rfl⟩)
  | 5, _, _, hv => cases hv; exact row_nums (ok_far T d_far o_sail) (PySem.W.mg_of X G g_5) rfl (fun ms hm _ _ => match ms, hm with | [x, z], _ => ⟨x, z, rfl, rfl⟩)
  | 6, _, _, hv => cases hv; exact row_nums (ok_unloads T d_unloads o_within o_open o_unl) (PySem.W.mg_of X G g_6) rfl (fun ms hm _ _ => match ms, hm with | [x, z], _ => ⟨x, z, rfl, rfl⟩)
  | 7, _, _, hv => cases hv; exact row_only (ok_tripC T d_trip o_ref o_twin o_trip) (PySem.W.mg_of X G g_7) rfl (fun _ => rfl)
  | 8, _, _, hv => cases hv; exact row_only (ok_run T d_run o_ref o_trip) (PySem.W.mg_of X G g_8) rfl (fun _ => rfl)
  | 9, _, _, hv => cases hv; exact row_only (ok_bringC T d_bring o_row o_bringA o_endOf o_count) (PySem.W.mg_of X G g_9) rfl (fun _ => rfl)
  | 10, _, _, hv => cases hv; exact row_nums (ok_soonest T d_soonest o_rowsTo o_bringA o_endOf) (PySem.W.mg_of X G g_10) rfl (fun ms hm _ _ => match ms, hm with | [], _ => ⟨rfl, rfl⟩)
  | 11, _, _, hv => cases hv; exact row_only (ok_late T d_late o_row o_lateEnd) (PySem.W.mg_of X G g_11) rfl (fun _ => rfl)
  | 12, _, _, hv => cases hv; exact row_nums (ok_kept T d_kept o_rowsTo o_lateEnd) (PySem.W.mg_of X G g_12) rfl (fun ms hm _ _ => match ms, hm with | [], _ => ⟨rfl, rfl⟩)
  | 13, _, _, hv => cases hv; exact row_only (ok_washes T d_washes o_row) (PySem.W.mg_of X G g_13) rfl (fun _ => rfl)
  | 14, _, _, hv => cases hv; exact row_row (ok_byWhen T d_by_when o_row o_bringA o_endBy) (PySem.W.mg_of X G g_14) rfl (fun ms r hm _ _ ra h1 h2 h3 => match ms, hm with | [n], _ => ⟨n, ra, r, rfl, h1, h2, h3, congrArg (Kh332.Call.byWhen n) (nats_of r)⟩)
  | 15, _, _, hv => cases hv; exact row_nums (ok_brought T d_brought o_count) (PySem.W.mg_of X G g_15) rfl (fun ms hm _ _ => match ms, hm with | [], _ => ⟨rfl, rfl⟩)
  | 16, _, _, hv => cases hv; exact row_nums (ok_filled T d_filled o_fillAt) (PySem.W.mg_of X G g_16) rfl (fun ms hm _ _ => match ms, hm with | [], _ => ⟨rfl, rfl⟩)
  | 17, _, _, hv => cases hv; exact row_nums (ok_look T d_look) (PySem.W.mg_of X G g_17) rfl (fun ms hm _ _ => match ms, hm with | [x], _ => ⟨x, rfl, rfl⟩)
  | 18, _, _, hv => cases hv; exact row_nums (ok_state T d_state) (PySem.W.mg_of X G g_18) rfl (fun ms hm _ _ => match ms, hm with | [], _ => ⟨rfl, rfl⟩)
  | n + 19, _, h1, _ => omega
end Hb
open PySem PySem.W PyProof.Rows
set_option maxRecDepth 100000 in
set_option maxHeartbeats 0 in
theorem PySem.Challenge.cw_harvestboat_s01_answers_holds : PySem.Challenge.rw_harvestboat_s01_answers.Holds := by
  w_on
  refine holds_os (q := Hb.qv) (loose := [PySem.Str.ofString "CALLS"]) (Xt := fun s => xlAt Hb.qv [] s && recOk [] s) (XP := XL Hb.qv []) (Yf := Hook.obs (kHook Hb.k0.heap_1 Hb.asK Hb.asK_is)) (Ya := Hook.val (kHook Hb.k0.heap_1 Hb.asK Hb.asK_is))
    (YP := Hook.says (kHook Hb.k0.heap_1 Hb.asK Hb.asK_is)) (N := 5810) (Hb.left_whole (m0 := 11) (ann := some (.ref 6)) (by kernel_rfl) (by decide) (fun s => by kernel_rfl) (fun w => by kernel_rfl) Hb.runs Hb.runK)
    (Hook.of (kHook Hb.k0.heap_1 Hb.asK Hb.asK_is)) (Hook.keeps (kHook Hb.k0.heap_1 Hb.asK Hb.asK_is)) (fun s e => xl_of s (Bool.and_eq_true_iff.mp e).1) XL.keeps (by rfl) (by rfl) (by rfl) (fun s e => recFacts_of (Bool.and_eq_true_iff.mp e).2) os_shapes (by decide +kernel) (by decide +kernel)
    ⟨rfl, rfl, rfl, rfl, rfl, by decide +kernel⟩ ⟨[.list [.int 18]], by decide +kernel, by decide +kernel⟩ ?hc
  k_fillS
  refine L2.walk_specK (r := PySem.Challenge.rw_harvestboat_s01_answers) (k := 9) (CX := L2.CX0) (ps := ["calls"]) (sp := Hb.spAnswers) (by decide +kernel) rfl rfl ⟨rfl, by decide, by decide⟩ (fun w h Y => PySem.W.kIn_of Y) ?F ?S (fun _ _ _ _ z => z)
  case F =>
    intro w mg fa h Y KX G hmg
    refine' Hb.fin KX G hmg ?n_Boat ?n_Cage ?n_Course ?n_Harvest ?n_Plant ?k_Boat ?k_Cage ?k_Course ?m_Course_twin ?k_Harvest ?k_Plant ?m_Plant_first_open_hour ?m_Plant_unloaded_at ?aWell ?aSpeed ?aLoad ?aWash ?aAt ?aCZone ?aHour ?aZone ?aLeft ?aPlant ?aBoat ?aCages ?aOrders ?aCourse ?aTrips ?aAll ?aOpens ?aCloses ?aUnload ?day ?plantAt ?mostCages ?mostOrders ?mostFish ?rNoCage ?rNothing ?rNotTold ?rNoMore ?rZone ?rNotBegun ?gBegin ?rNever ?notFilled ?b_len ?b_abs ?b_min ?b_any ?b_all ?b_list ?b_enumerate ?b_max ?b_sum ?b_zip ?d_end_by ?d_filled_at ?d_hours_late ?d_divided_up ?d_one_longer ?d_all_rows ?d_sailing ?d_fetch ?d_make_trip ?d_parted_by_zone ?d_bring_all ?d_end_of ?d_within ?d_begin ?d_cage ?d_fish ?d_order ?d_wait ?d_far ?d_unloads ?d_is_row_of_cages ?d_trip_refusal ?d_trip ?d_run ?d_with_count ?d_bring ?d_rows_to_bring ?d_soonest ?d_late_and_end ?d_late ?d_kept ?d_washes ?d_by_when ?d_brought ?d_filled ?d_look ?d_state ?d_parted ?d_begun ?d_asked ?t_calls ?t_rows ?t_0 ?t_1 ?g_1 ?t_2 ?g_2 ?t_3 ?g_3 ?t_4 ?g_4 ?t_5 ?g_5 ?t_6 ?g_6 ?t_7 ?g_7 ?t_8 ?g_8 ?t_9 ?g_9 ?t_10 ?g_10 ?t_11 ?g_11 ?t_12 ?g_12 ?t_13 ?g_13 ?t_14 ?g_14 ?t_15 ?g_15 ?t_16 ?g_16 ?t_17 ?g_17 ?t_18 ?g_18 ?aa ?la ?ca ?ka
    case n_Boat =>
      refine' Hb.dnn_mk KX G ?g ?mk ?kc ?a ?i ?l ?c ?k (fun _ _ _ _ _ _ us hl => match us, hl with | [_, _, _, _, _], _ => rfl)
      (case g => k_is); (case mk => k_is); (case kc => k_is); (case a => k_is); (case i => k_is); (case l => k_is); (case c => k_is); (case k => k_is)
    case n_Cage =>
      refine' Hb.dnn_mk KX G ?g ?mk ?kc ?a ?i ?l ?c ?k (fun _ _ _ _ _ _ us hl => match us, hl with | [_, _, _], _ => rfl)
      (case g => k_is); (case mk => k_is); (case kc => k_is); (case a => k_is); (case i => k_is); (case l => k_is); (case c => k_is); (case k => k_is)
    case n_Course =>
      refine' Hb.dnn_mk KX G ?g ?mk ?kc ?a ?i ?l ?c ?k (fun _ _ _ _ _ _ us hl => match us, hl with | [_, _, _, _], _ => rfl)
      (case g => k_is); (case mk => k_is); (case kc => k_is); (case a => k_is); (case i => k_is); (case l => k_is); (case c => k_is); (case k => k_is)
    case n_Harvest =>
      refine' Hb.dnn_mk KX G ?g ?mk ?kc ?a ?i ?l ?c ?k (fun _ _ _ _ _ _ us hl => match us, hl with | [_, _, _], _ => rfl)
      (case g => k_is); (case mk => k_is); (case kc => k_is); (case a => k_is); (case i => k_is); (case l => k_is); (case c => k_is); (case k => k_is)
    case n_Plant =>
      refine' Hb.dnn_mk KX G ?g ?mk ?kc ?a ?i ?l ?c ?k (fun _ _ _ _ _ _ us hl => match us, hl with | [_, _, _, _], _ => rfl)
      (case g => k_is); (case mk => k_is); (case kc => k_is); (case a => k_is); (case i => k_is); (case l => k_is); (case c => k_is); (case k => k_is)
    case k_Boat =>
      refine' Hb.cls_mk ?pg ?hd ?po ?sa
      (case pg => k_is); (case hd => k_is); (case po => k_is); (case sa => k_is)
    case k_Cage =>
      refine' Hb.cls_mk ?pg ?hd ?po ?sa
      (case pg => k_is); (case hd => k_is); (case po => k_is); (case sa => k_is)
    case k_Course =>
      refine' Hb.cls_mk ?pg ?hd ?po ?sa
      (case pg => k_is); (case hd => k_is); (case po => k_is); (case sa => k_is)
    case m_Course_twin =>
      refine' Hb.dnm_mk ?a ?i ?l ?c ?k (fun _ _ _ _ _ _ us hl => match us, hl with | [_], _ => rfl)
      (case a => k_is); (case i => k_is); (case l => k_is); (case c => k_is); (case k => k_is)
    case k_Harvest =>
      refine' Hb.cls_mk ?pg ?hd ?po ?sa
      (case pg => k_is); (case hd => k_is); (case po => k_is); (case sa => k_is)
    case k_Plant =>
      refine' Hb.cls_mk ?pg ?hd ?po ?sa
      (case pg => k_is); (case hd => k_is); (case po => k_is); (case sa => k_is)
    case m_Plant_first_open_hour =>
      refine' Hb.dnm_mk ?a ?i ?l ?c ?k (fun _ _ _ _ _ _ us hl => match us, hl with | [_, _], _ => rfl)
      (case a => k_is); (case i => k_is); (case l => k_is); (case c => k_is); (case k => k_is)
    case m_Plant_unloaded_at =>
      refine' Hb.dnm_mk ?a ?i ?l ?c ?k (fun _ _ _ _ _ _ us hl => match us, hl with | [_, _, _], _ => rfl)
      (case a => k_is); (case i => k_is); (case l => k_is); (case c => k_is); (case k => k_is)
    case aWell =>
      k_is
    case aSpeed =>
      k_is
    case aLoad =>
      k_is
    case aWash =>
      k_is
    case aAt =>
      k_is
    case aCZone =>
      k_is
    case aHour =>
      k_is
    case aZone =>
      k_is
    case aLeft =>
      k_is
    case aPlant =>
      k_is
    case aBoat =>
      k_is
    case aCages =>
      k_is
    case aOrders =>
      k_is
    case aCourse =>
      k_is
    case aTrips =>
      k_is
    case aAll =>
      k_is
    case aOpens =>
      k_is
    case aCloses =>
      k_is
    case aUnload =>
      k_is
    case day =>
      refine' Hb.int_mk KX G ?a
      (case a => k_is)
    case plantAt =>
      refine' Hb.int_mk KX G ?a
      (case a => k_is)
    case mostCages =>
      refine' Hb.int_mk KX G ?a
      (case a => k_is)
    case mostOrders =>
      refine' Hb.int_mk KX G ?a
      (case a => k_is)
    case mostFish =>
      refine' Hb.int_mk KX G ?a
      (case a => k_is)
    case rNoCage =>
      refine' Hb.int_mk KX G ?a
      (case a => k_is)
    case rNothing =>
      refine' Hb.int_mk KX G ?a
      (case a => k_is)
    case rNotTold =>
      refine' Hb.int_mk KX G ?a
      (case a => k_is)
    case rNoMore =>
      refine' Hb.int_mk KX G ?a
      (case a => k_is)
    case rZone =>
      refine' Hb.int_mk KX G ?a
      (case a => k_is)
    case rNotBegun =>
      refine' Hb.int_mk KX G ?a
      (case a => k_is)
    case gBegin =>
      refine' Hb.int_mk KX G ?a
      (case a => k_is)
    case rNever =>
      refine' Hb.int_mk KX G ?a
      (case a => k_is)
    case notFilled =>
      refine' Hb.int_mk KX G ?a
      (case a => k_is)
    case b_len =>
      k_is
    case b_abs =>
      k_is
    case b_min =>
      k_is
    case b_any =>
      k_is
    case b_all =>
      k_is
    case b_list =>
      k_is
    case b_enumerate =>
      k_is
    case b_max =>
      k_is
    case b_sum =>
      k_is
    case b_zip =>
      k_is
    case d_end_by =>
      refine' Hb.dn_mk KX G ?a ?l ?c ?k (fun _ _ _ _ _ _ us hl => match us, hl with | [_, _], _ => rfl)
      (case a => k_is); (case l => k_is); (case c => k_is); (case k => k_is)
    case d_filled_at =>
      refine' Hb.dn_mk KX G ?a ?l ?c ?k (fun _ _ _ _ _ _ us hl => match us, hl with | [_, _], _ => rfl)
      (case a => k_is); (case l => k_is); (case c => k_is); (case k => k_is)
    case d_hours_late =>
      refine' Hb.dn_mk KX G ?a ?l ?c ?k (fun _ _ _ _ _ _ us hl => match us, hl with | [_, _], _ => rfl)
      (case a => k_is); (case l => k_is); (case c => k_is); (case k => k_is)
    case d_divided_up =>
      refine' Hb.dn_mk KX G ?a ?l ?c ?k (fun _ _ _ _ _ _ us hl => match us, hl with | [_, _], _ => rfl)
      (case a => k_is); (case l => k_is); (case c => k_is); (case k => k_is)
    case d_one_longer =>
      refine' Hb.dn_mk KX G ?a ?l ?c ?k (fun _ _ _ _ _ _ us hl => match us, hl with | [_, _], _ => rfl)
      (case a => k_is); (case l => k_is); (case c => k_is); (case k => k_is)
    case d_all_rows =>
      refine' Hb.dn_mk KX G ?a ?l ?c ?k (fun _ _ _ _ _ _ us hl => match us, hl with | [_], _ => rfl)
      (case a => k_is); (case l => k_is); (case c => k_is); (case k => k_is)
    case d_sailing =>
      refine' Hb.dn_mk KX G ?a ?l ?c ?k (fun _ _ _ _ _ _ us hl => match us, hl with | [_, _, _], _ => rfl)
      (case a => k_is); (case l => k_is); (case c => k_is); (case k => k_is)
    case d_fetch =>
      refine' Hb.dn_mk KX G ?a ?l ?c ?k (fun _ _ _ _ _ _ us hl => match us, hl with | [_, _, _], _ => rfl)
      (case a => k_is); (case l => k_is); (case c => k_is); (case k => k_is)
    case d_make_trip =>
      refine' Hb.dn_mk KX G ?a ?l ?c ?k (fun _ _ _ _ _ _ us hl => match us, hl with | [_, _, _], _ => rfl)
      (case a => k_is); (case l => k_is); (case c => k_is); (case k => k_is)
    case d_parted_by_zone =>
      refine' Hb.dn_mk KX G ?a ?l ?c ?k (fun _ _ _ _ _ _ us hl => match us, hl with | [_, _, _], _ => rfl)
      (case a => k_is); (case l => k_is); (case c => k_is); (case k => k_is)
    case d_bring_all =>
      refine' Hb.dn_mk KX G ?a ?l ?c ?k (fun _ _ _ _ _ _ us hl => match us, hl with | [_, _], _ => rfl)
      (case a => k_is); (case l => k_is); (case c => k_is); (case k => k_is)
    case d_end_of =>
      refine' Hb.dn_mk KX G ?a ?l ?c ?k (fun _ _ _ _ _ _ us hl => match us, hl with | [_, _], _ => rfl)
      (case a => k_is); (case l => k_is); (case c => k_is); (case k => k_is)
    case d_within =>
      refine' Hb.dn_mk KX G ?a ?l ?c ?k (fun _ _ _ _ _ _ us hl => match us, hl with | [_, _, _], _ => rfl)
      (case a => k_is); (case l => k_is); (case c => k_is); (case k => k_is)
    case d_begin =>
      refine' Hb.dn_mk KX G ?a ?l ?c ?k (fun _ _ _ _ _ _ us hl => match us, hl with | [_, _, _, _, _, _, _], _ => rfl)
      (case a => k_is); (case l => k_is); (case c => k_is); (case k => k_is)
    case d_cage =>
      refine' Hb.dn_mk KX G ?a ?l ?c ?k (fun _ _ _ _ _ _ us hl => match us, hl with | [_, _, _, _], _ => rfl)
      (case a => k_is); (case l => k_is); (case c => k_is); (case k => k_is)
    case d_fish =>
      refine' Hb.dn_mk KX G ?a ?l ?c ?k (fun _ _ _ _ _ _ us hl => match us, hl with | [_, _, _], _ => rfl)
      (case a => k_is); (case l => k_is); (case c => k_is); (case k => k_is)
    case d_order =>
      refine' Hb.dn_mk KX G ?a ?l ?c ?k (fun _ _ _ _ _ _ us hl => match us, hl with | [_, _, _], _ => rfl)
      (case a => k_is); (case l => k_is); (case c => k_is); (case k => k_is)
    case d_wait =>
      refine' Hb.dn_mk KX G ?a ?l ?c ?k (fun _ _ _ _ _ _ us hl => match us, hl with | [_, _], _ => rfl)
      (case a => k_is); (case l => k_is); (case c => k_is); (case k => k_is)
    case d_far =>
      refine' Hb.dn_mk KX G ?a ?l ?c ?k (fun _ _ _ _ _ _ us hl => match us, hl with | [_, _, _], _ => rfl)
      (case a => k_is); (case l => k_is); (case c => k_is); (case k => k_is)
    case d_unloads =>
      refine' Hb.dn_mk KX G ?a ?l ?c ?k (fun _ _ _ _ _ _ us hl => match us, hl with | [_, _, _], _ => rfl)
      (case a => k_is); (case l => k_is); (case c => k_is); (case k => k_is)
    case d_is_row_of_cages =>
      refine' Hb.dn_mk KX G ?a ?l ?c ?k (fun _ _ _ _ _ _ us hl => match us, hl with | [_, _], _ => rfl)
      (case a => k_is); (case l => k_is); (case c => k_is); (case k => k_is)
    case d_trip_refusal =>
      refine' Hb.dn_mk KX G ?a ?l ?c ?k (fun _ _ _ _ _ _ us hl => match us, hl with | [_, _], _ => rfl)
      (case a => k_is); (case l => k_is); (case c => k_is); (case k => k_is)
    case d_trip =>
      refine' Hb.dn_mk KX G ?a ?l ?c ?k (fun _ _ _ _ _ _ us hl => match us, hl with | [_, _], _ => rfl)
      (case a => k_is); (case l => k_is); (case c => k_is); (case k => k_is)
    case d_run =>
      refine' Hb.dn_mk KX G ?a ?l ?c ?k (fun _ _ _ _ _ _ us hl => match us, hl with | [_, _], _ => rfl)
      (case a => k_is); (case l => k_is); (case c => k_is); (case k => k_is)
    case d_with_count =>
      refine' Hb.dn_mk KX G ?a ?l ?c ?k (fun _ _ _ _ _ _ us hl => match us, hl with | [_], _ => rfl)
      (case a => k_is); (case l => k_is); (case c => k_is); (case k => k_is)
    case d_bring =>
      refine' Hb.dn_mk KX G ?a ?l ?c ?k (fun _ _ _ _ _ _ us hl => match us, hl with | [_, _], _ => rfl)
      (case a => k_is); (case l => k_is); (case c => k_is); (case k => k_is)
    case d_rows_to_bring =>
      refine' Hb.dn_mk KX G ?a ?l ?c ?k (fun _ _ _ _ _ _ us hl => match us, hl with | [_], _ => rfl)
      (case a => k_is); (case l => k_is); (case c => k_is); (case k => k_is)
    case d_soonest =>
      refine' Hb.dn_mk KX G ?a ?l ?c ?k (fun _ _ _ _ _ _ us hl => match us, hl with | [_], _ => rfl)
      (case a => k_is); (case l => k_is); (case c => k_is); (case k => k_is)
    case d_late_and_end =>
      refine' Hb.dn_mk KX G ?a ?l ?c ?k (fun _ _ _ _ _ _ us hl => match us, hl with | [_, _], _ => rfl)
      (case a => k_is); (case l => k_is); (case c => k_is); (case k => k_is)
    case d_late =>
      refine' Hb.dn_mk KX G ?a ?l ?c ?k (fun _ _ _ _ _ _ us hl => match us, hl with | [_, _], _ => rfl)
      (case a => k_is); (case l => k_is); (case c => k_is); (case k => k_is)
    case d_kept =>
      refine' Hb.dn_mk KX G ?a ?l ?c ?k (fun _ _ _ _ _ _ us hl => match us, hl with | [_], _ => rfl)
      (case a => k_is); (case l => k_is); (case c => k_is); (case k => k_is)
    case d_washes =>
      refine' Hb.dn_mk KX G ?a ?l ?c ?k (fun _ _ _ _ _ _ us hl => match us, hl with | [_, _], _ => rfl)
      (case a => k_is); (case l => k_is); (case c => k_is); (case k => k_is)
    case d_by_when =>
      refine' Hb.dn_mk KX G ?a ?l ?c ?k (fun _ _ _ _ _ _ us hl => match us, hl with | [_, _, _], _ => rfl)
      (case a => k_is); (case l => k_is); (case c => k_is); (case k => k_is)
    case d_brought =>
      refine' Hb.dn_mk KX G ?a ?l ?c ?k (fun _ _ _ _ _ _ us hl => match us, hl with | [_], _ => rfl)
      (case a => k_is); (case l => k_is); (case c => k_is); (case k => k_is)
    case d_filled =>
      refine' Hb.dn_mk KX G ?a ?l ?c ?k (fun _ _ _ _ _ _ us hl => match us, hl with | [_], _ => rfl)
      (case a => k_is); (case l => k_is); (case c => k_is); (case k => k_is)
    case d_look =>
      refine' Hb.dn_mk KX G ?a ?l ?c ?k (fun _ _ _ _ _ _ us hl => match us, hl with | [_, _], _ => rfl)
      (case a => k_is); (case l => k_is); (case c => k_is); (case k => k_is)
    case d_state =>
      refine' Hb.dn_mk KX G ?a ?l ?c ?k (fun _ _ _ _ _ _ us hl => match us, hl with | [_], _ => rfl)
      (case a => k_is); (case l => k_is); (case c => k_is); (case k => k_is)
    case d_parted =>
      refine' Hb.dn_mk KX G ?a ?l ?c ?k (fun _ _ _ _ _ _ us hl => match us, hl with | [_], _ => rfl)
      (case a => k_is); (case l => k_is); (case c => k_is); (case k => k_is)
    case d_begun =>
      refine' Hb.dn_mk KX G ?a ?l ?c ?k (fun _ _ _ _ _ _ us hl => match us, hl with | [_], _ => rfl)
      (case a => k_is); (case l => k_is); (case c => k_is); (case k => k_is)
    case d_asked =>
      refine' Hb.dn_mk KX G ?a ?l ?c ?k (fun _ _ _ _ _ _ us hl => match us, hl with | [_, _, _], _ => rfl)
      (case a => k_is); (case l => k_is); (case c => k_is); (case k => k_is)
    case t_calls =>
      k_is
    case t_rows =>
      refine' Hb.tup19_mk ?l
      (case l => k_is)
    case t_0 =>
      refine' Hb.tup3_mk ?l rfl
      (case l => k_is)
    case t_1 =>
      refine' Hb.tup3_mk ?l rfl
      (case l => k_is)
    case g_1 =>
      k_is
    case t_2 =>
      refine' Hb.tup3_mk ?l rfl
      (case l => k_is)
    case g_2 =>
      k_is
    case t_3 =>
      refine' Hb.tup3_mk ?l rfl
      (case l => k_is)
    case g_3 =>
      k_is
    case t_4 =>
      refine' Hb.tup3_mk ?l rfl
      (case l => k_is)
    case g_4 =>
      k_is
    case t_5 =>
      refine' Hb.tup3_mk ?l rfl
      (case l => k_is)
    case g_5 =>
      k_is
    case t_6 =>
      refine' Hb.tup3_mk ?l rfl
      (case l => k_is)
    case g_6 =>
      k_is
    case t_7 =>
      refine' Hb.tup3_mk ?l rfl
      (case l => k_is)
    case g_7 =>
      k_is
    case t_8 =>
      refine' Hb.tup3_mk ?l rfl
      (case l => k_is)
    case g_8 =>
      k_is
    case t_9 =>
      refine' Hb.tup3_mk ?l rfl
      (case l => k_is)
    case g_9 =>
      k_is
    case t_10 =>
      refine' Hb.tup3_mk ?l rfl
      (case l => k_is)
    case g_10 =>
      k_is
    case t_11 =>
      refine' Hb.tup3_mk ?l rfl
      (case l => k_is)
    case g_11 =>
      k_is
    case t_12 =>
      refine' Hb.tup3_mk ?l rfl
      (case l => k_is)
    case g_12 =>
      k_is
    case t_13 =>
      refine' Hb.tup3_mk ?l rfl
      (case l => k_is)
    case g_13 =>
      k_is
    case t_14 =>
      refine' Hb.tup3_mk ?l rfl
      (case l => k_is)
    case g_14 =>
      k_is
    case t_15 =>
      refine' Hb.tup3_mk ?l rfl
      (case l => k_is)
    case g_15 =>
      k_is
    case t_16 =>
      refine' Hb.tup3_mk ?l rfl
      (case l => k_is)
    case g_16 =>
      k_is
    case t_17 =>
      refine' Hb.tup3_mk ?l rfl
      (case l => k_is)
    case g_17 =>
      k_is
    case t_18 =>
      refine' Hb.tup3_mk ?l rfl
      (case l => k_is)
    case g_18 =>
      k_is
    (case aa => k_is); (case la => k_is); (case ca => k_is); (case ka => k_is)
  case S =>
    intro K H xs a hO hwi hask hx
    cases hx with
    | cons h1 h2 =>
      cases h2
      cases h1 with
      | lst hs ha =>
        have e := L2.ints_dw a.1 _ ha
        subst e
        exact Hb.spec_end a.1 hwi hask hs

