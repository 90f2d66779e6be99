import PyProof.Rows.All
import Wide.All
import OpenK.AllK
import Wide.FinOn
import PyProof.EqAt
import PyProof.EqKinds
import PyProof.TupleCall
import KE.BitLaws
import OpenK.KOwn
import Open.SpecLaws
import KE.OsHead
import KE.OsGo
import PySem.Challenge.RW_smalllisp_s01_answers
set_option Elab.async false
set_option linter.all false
set_option maxRecDepth 100000
set_option genSizeOf false
set_option maxHeartbeats 2000000
abbrev zA0 := @Nat.le_refl
abbrev zA1 := @List.mem_cons_of_mem
abbrev zA2 := @List.mem_cons_self
section
namespace Hd
open PySem W Calls PyProof.Rows
theorem nc {α : Type} {l : List α} {n : Nat} (h : l.length = n + 1) : ∃ a t, l = a :: t /\ t.length = n := by
 cases l with
 | nil => cases h
 | cons a t => exact ⟨a, t, rfl, Nat.succ.inj h⟩
theorem n1 {α : Type} {l : List α} (h : l.length = 1) : ∃ a, l = [a] := List.length_eq_one_iff.mp h
theorem n2 {α : Type} {l : List α} (h : l.length = 2) : ∃ a b, l = [a, b] := by
 obtain ⟨a, t, rfl, i⟩ := nc h
 obtain ⟨b, rfl⟩ := n1 i
 exact ⟨a, b, rfl⟩
theorem n3 {α : Type} {l : List α} (h : l.length = 3) : ∃ a b c, l = [a, b, c] := by
 obtain ⟨a, t, rfl, i⟩ := nc h
 obtain ⟨b, c, rfl⟩ := n2 i
 exact ⟨a, b, c, rfl⟩
theorem n4 {α : Type} {l : List α} (h : l.length = 4) : ∃ a b c d, l = [a, b, c, d] := by
 obtain ⟨a, t, rfl, i⟩ := nc h
 obtain ⟨b, c, d, rfl⟩ := n3 i
 exact ⟨a, b, c, d, rfl⟩
theorem n6 {α : Type} {l : List α} (h : l.length = 6) : ∃ a b c d e f, l = [a, b, c, d, e, f] := by
 obtain ⟨a, t, rfl, i⟩ := nc h
 obtain ⟨b, t, rfl, j⟩ := nc i
 obtain ⟨c, d, e, f, rfl⟩ := n4 j
 exact ⟨a, b, c, d, e, f, rfl⟩
def bu : Option Value -> Bool
 | some (.builtin _) => true
 | _ => false
theorem bu_of {v : Option Value} (h : bu v = true) : ∃ n, v = some (.builtin n) := by
 cases v with
 | none => cases h
 | some v => cases v <;> first | exact ⟨_, rfl⟩ | cases h
theorem t0 : 0 < 1000 := by decide
theorem t1 : 1 < 1000 := by decide
theorem t2 : 2 < 1000 := by decide
theorem t3 : 3 < 1000 := by decide
theorem t4 : 4 < 1000 := by decide
theorem t5 : 5 < 1000 := by decide
noncomputable def nxt {α β γ : Type} (f : α -> β -> γ) (x : α × β) : γ := f x.1 x.2
noncomputable def go (tb : String -> Option Builtin) (p : Program) (w : World) (m : Nat) (ann : Option Value) (n : Nat) : SharedT -> Thread -> Option SharedT :=
 @Nat.rec (fun _ => SharedT -> Thread -> Option SharedT) (fun _ _ => none) (fun _ ih s t => @Bool.rec (fun _ => Option SharedT) (@Bool.rec (fun _ => Option SharedT) none
  (@Option.rec (SharedT × Thread) (fun _ => Option SharedT) none (fun x => nxt ih x) (stepT (denote tb) p w s t)) (stepOk m ann t)) (some s) (through t)) n
theorem go_spec {tb : String -> Option Builtin} {p : Program} {w : World} {m : Nat} {ann : Option Value} : ∀ (n : Nat) (s : SharedT) (t : Thread) (r : SharedT), go tb p w m ann n s t = some r -> topRun tb p w m ann n s.abs t = some r.abs
 | 0, _, _, _, h => nomatch (h : none = some _)
 | n + 1, s, t, r, h => by
  unfold topRun
  have h : @Bool.rec (fun _ => Option SharedT) (@Bool.rec (fun _ => Option SharedT) none (@Option.rec (SharedT × Thread) (fun _ => Option SharedT) none (fun x => go tb p w m ann n x.1 x.2) (stepT (denote tb) p w s t)) (stepOk m ann t)) (some s) (through t) = some r := h
  cases ht : through t with
  | true =>
   rw [ht] at h
   cases (show some s = some r from h)
   rfl
  | false =>
   rw [ht] at h
   cases hk : stepOk m ann t with
   | false =>
    rw [hk] at h
    exact nomatch (h : none = some r)
   | true =>
    rw [hk] at h
    cases hs : stepT (denote tb) p w s t with
    | none =>
     rw [hs] at h
     exact nomatch (h : none = some r)
    | some x =>
     obtain ⟨s2, t2⟩ := x
     rw [hs] at h
     rw [stepT_spec hs]
     exact go_spec n s2 t2 r h
noncomputable def s0 (h : Heap) (os : OsState) : SharedT := ⟨(h.objs.toList.foldl (fun (x : BT × Nat) o => (x.1.ins x.2 o, x.2 + 1)) (.nil, 0)).1, h.objs.size, h.life, Array.mk [], boot_drawn, boot_toks, os⟩
abbrev pw := Challenge.pw_smalllisp_s01_answers
def fa : Stmt -> Arguments
 | .FunctionDef _ a _ _ _ _ _ _ _ _ => a
 | _ => default
def fb : Stmt -> List Stmt
 | .FunctionDef _ _ b _ _ _ _ _ _ _ => b
 | .ClassDef _ _ _ b _ _ _ _ _ _ _ => b
 | _ => []
def fc : Stmt -> Scope
 | .FunctionDef _ _ _ _ _ _ c _ _ _ => c
 | _ => default
def tp (i : Nat) : Stmt := pw.main.body.getD i default
def cj (i j : Nat) : Stmt := (fb (tp i)).getD j default
open Lean
def ap (n : Name) (l : List Term) : Term := Syntax.mkApp ⟨mkNode ``Parser.Term.explicit #[mkAtom "@", mkCIdent n]⟩ l.toArray
def nu (n : Nat) : Term := Syntax.mkNumLit (toString n)
def toS (m : List (Lean.Expr × Term)) (e : Lean.Expr) (l : List Term) : Term := match if e.getAppNumArgs < 3 then none else m.lookup e with
 | some t => t
 | none => match e, l with
  | .app (.app (.app (.const ``OfNat.ofNat _) _) (.lit (.natVal n))) _, _ => nu n
  | .app f a, l => toS m f (toS m a [] :: l)
  | .const n _, l => ap n l
  | .lit (.natVal n), _ => nu n
  | .lit (.strVal s), _ => Syntax.mkStrLit s
  | _, _ => mkIdent `P
def tab : List (Lean.Expr × Term) := ((List.range 150).flatMap fun i => (tp i, ap ``tp [nu i]) :: (List.range (fb (tp i)).length).map fun j => (cj i j, ap ``cj [nu i, nu j])).flatMap fun x => match x.1 with
 | .FunctionDef .. => [(toExpr (fa x.1), ap ``fa [x.2]), (toExpr (fb x.1), ap ``fb [x.2]), (toExpr (fc x.1), ap ``fc [x.2])]
 | _ => []
def dd (n : Ident) (b : Term) : MacroM (TSyntax `command) := `(noncomputable def $n ($(mkIdent `P) : Params) ($(mkIdent `l) : List Obj) : List Obj := $b)
local macro_rules
 | `(command| lay_quick Hd.objs) => do
  let .ok (s, _) := openRun pw (aWorld 1) (aWorld 1) 400000 | Macro.throwUnsupported
  let P := mkIdent `P
  let m := tab
  let h (k : Nat) := mkIdent (.mkSimple s!"h{k}")
  let x := ap ``boot_o_0 [P] :: (s.heap.objs.toList.drop 1).map fun o => toS m (objE (.bvar 0) o) []
  let d <- (List.range 10).mapM fun k => dd (h k) (((x.drop (100 * k)).take 100).foldr (fun a b => ap ``List.cons [mkIdent `Obj, a, b]) (mkIdent `l))
  let e <- `(noncomputable def $(mkIdent `H1) ($P : Params) : Heap := ⟨Array.mk $((List.range 10).foldr (fun k b => Syntax.mkApp (h k) #[P, b]) (ap ``List.nil [mkIdent `Obj])), (boot_heap $P).life⟩)
  return mkNullNode (d ++ [e]).toArray
set_option maxHeartbeats 0 in
lay_quick Hd.objs
def qv : Program := view pw ((List.range 150).filter fun i => !([0, 10, 34, 52, 76, 109, 124].contains i))
abbrev lo : List Str := ["PRIMITIVES", "CALLS"]
noncomputable def sf (P : Params) (os : OsState) : Shared := ⟨H1 P, Array.mk [], boot_drawn, 1649, os⟩
noncomputable def rn (p : Program) (S : SharedT) (w : World) := go treeTable p w 11 (some (.ref 6)) 8400 S (topStub p)
noncomputable def c0 (p : Program) (h0 : Heap) (r : Shared) := staticsOk (importedModules p.main.body) h0 r.heap && namesBound p r.heap && gensDone r && laidKept h0 r.heap
noncomputable def c1 (q : Program) (s : Shared) := seen ((recsOf q).map (·.name)) (ownsOf q) [] { s with gens := #[] }
noncomputable def c3 (q : Program) (l : List Str) (s : Shared) := s.heap.keysOk (looseW q l) ((recsOf q).map (·.name)) ((litsOf q).map (·.1)) ((clssOf q (looseW q l)).map (·.name))
noncomputable def c4 (p : Program) (s : Shared) := s.heap.accountedOkI (importedModules p.main.body)
noncomputable def c5 (q : Program) (s : Shared) := tablesOk q s.heap
noncomputable def c6 (q : Program) (s : Shared) := xlAt q [] s && recOk [] s
noncomputable def c7 (q : Program) (s : Shared) := pinSeenD q (drecsOf q) s
noncomputable def c8 (q : Program) (l : List Str) (s : Shared) := plainSeenE q (looseW q l) s
noncomputable def g7 (q : Program) := pinGoodD (drecsOf q)
noncomputable def g8 (q : Program) (l : List Str) := plainGoodE q (looseW q l)
lay_quick rn c0 c1 c3 c4 c5 c6 c7 c8 g7 g8 expectedOf tabsOk plainSeenD wideSeen wideGood clsSeenW
def Q (w : World) : Prop := ∀ os, (Fast.tw2314531550573986058 pw (s0 (boot_heap w.params) os) w).map SharedT.abs = some (sf w.params os)
theorem run0 (w : World) : Q (w.withFollow "special-get-raises" false) := fun os => by kernel_rfl
theorem run1 (w : World) : Q (w.withFollow "special-get-raises" true) := fun os => by kernel_rfl
theorem hS (P os) : (s0 (boot_heap P) os).abs = ⟨boot_heap P, Array.mk [], boot_drawn, boot_toks, os⟩ := by kernel_rfl
theorem run (w : World) (os : OsState) : topRun treeTable pw w 11 (some (.ref 6)) 8400 ⟨boot_heap w.params, Array.mk [], boot_drawn, boot_toks, os⟩ (topStub pw) = some (sf w.params os) := by
 have h := byRow2 "special-get-raises" (P := Q) run0 run1 w os
 rw [<- Fast.te2314531550573986058] at h
 obtain ⟨r, e, e'⟩ := Option.map_eq_some_iff.mp h
 have k := go_spec _ _ _ _ e
 rw [hS, e'] at k
 exact k
variable (P : Params) (os : OsState)
theorem l0 : c0 pw (boot_heap P) (sf P os) = true := by rw [Fast.te3043287601334272244]; kernel_rfl
theorem l1 : c1 qv (sf P os) = expectedOf qv := by rw [Fast.te8179338867002184881, Fast.te17202137643295693207]; kernel_rfl
theorem l2 : (sf P os).heap.bltView = bltViewBooted := by kernel_rfl
theorem l3 : c3 qv lo (sf P os) = true := by rw [Fast.te10792125036203243706]; kernel_rfl
theorem l4 : c4 pw (sf P os) = true := by rw [Fast.te7625819452904715051]; kernel_rfl
theorem l5 : c5 qv (sf P os) = true := by rw [Fast.te3652176418948554020]; kernel_rfl
theorem l6 : c6 qv (sf P os) = true := by rw [Fast.te17340835257478912610]; kernel_rfl
theorem lA : tabsOk qv (sf P os) = true := by rw [Fast.te479339242167458305]; kernel_rfl
theorem l7 : c7 qv (sf P os) = g7 qv := by rw [Fast.te9819913948581589533, Fast.te17262753902816496307]; kernel_rfl
theorem l8 : c8 qv lo (sf P os) = g8 qv lo := by rw [Fast.te17156630201758455569, Fast.te4322594693705348745]; kernel_rfl
theorem l9 : plainSeenD qv lo (sf P os) = plainGoodD qv lo := by rw [Fast.te11698064438423848299]; kernel_rfl
theorem lB : wideSeen qv (sf P os) = wideGood qv := by rw [Fast.te7317090234206586261, Fast.te9017663842625078692]; kernel_rfl
theorem lC : clsSeenW qv lo (sf P os) = clsGoodW qv lo := by rw [Fast.te7369524293546568484]; kernel_rfl
theorem good : openSeen qv lo (importedModules pw.main.body) (fun s => xlAt qv [] s && recOk [] s) true (sf P os) = openGood qv lo := by
 have a : openSeen qv lo (importedModules pw.main.body) (fun s => xlAt qv [] s && recOk [] s) true (sf P os) = (c1 qv (sf P os), (sf P os).heap.bltView, c3 qv lo (sf P os) && c4 pw (sf P os) && (sf P os).heap.isNs mainGlobals && (sf P os).heap.isNs builtinsNs && c5 qv (sf P os) && c6 qv (sf P os) && true,
  tabsOk qv (sf P os), c7 qv (sf P os), c8 qv lo (sf P os), plainSeenD qv lo (sf P os), wideSeen qv (sf P os), clsSeenW qv lo (sf P os)) := by kernel_rfl
 rw [a, l1, l2, l3, l4, l5, l6, lA, l7, l8, l9, lB, lC, show (sf P os).heap.isNs mainGlobals = true by kernel_rfl, show (sf P os).heap.isNs builtinsNs = true by kernel_rfl]
 kernel_rfl
theorem left {q : Program} {as : List Addr} {K : Params -> Frag} {e : ∀ P, as = (K P).map (·.1)} {N : Nat} (hq : q = qv) (hN : Nat.ble 8400 N = true) (hK : ∀ P, as.map (H1 P).get? = (K P).map fun p => some p.2) :
  LeftO pw q lo (fun s => xlAt q [] s && recOk [] s) (Hook.obs (kHook K as e)) (Hook.val (kHook K as e)) N := by
 subst hq
 refine LeftO.of_pieces (H₁ := H1) (gs₁ := Array.mk []) (d₁ := boot_drawn) (k₁ := 1649) (boot_open (by kernel_rfl) (Nat.ble_eq_true_of_le (Nat.le_trans (by decide) (Nat.le_of_ble_eq_true hN))) fun s => by kernel_rfl) (fun w => by kernel_rfl) run hN fun w => funext fun os => ?_
 exact congr (congrArg Prod.mk (l0 w.params os)) (congr (congrArg Prod.mk (good w.params os)) (hK w.params))
end Hd
end
section
namespace L2
open PySem Spec PyProof.Rows
abbrev Key := Sum Int Str
def sC : Key -> Value -> Bool
 | .inl k, v => Value.isInt k v
 | .inr x, v => Value.isStrOf x v
def MH (w : World) : Key -> Int
 | .inl k => hashInt k
 | .inr x => hashStr w x
theorem bO : ∀ {k : Key} {v : Value}, sC k v = true -> (∃ i t, k = Sum.inl i /\ v = Value.int i t) \/ (∃ x t, k = Sum.inr x /\ v = Value.str x t)
 | .inl i, v, h => by
  obtain ⟨t, e⟩ := Value.isInt_shape (k := i) (v := v) h
  exact .inl ⟨i, t, rfl, e⟩
 | .inr x, v, h => by
  obtain ⟨t, e⟩ := Value.isStrOf_shape (x := x) (v := v) h
  exact .inr ⟨x, t, rfl, e⟩
theorem AX (i : Int) (t : Tok) : sC (.inl i) (.int i t) = true := by simp [sC, Value.isInt]
theorem AW (x : Str) (t : Tok) : sC (.inr x) (.str x t) = true := by simp [sC, Value.isStrOf]
theorem HA (a b : Int) : decide ((Sum.inl a : Key) = Sum.inl b) = (a == b) := by
 by_cases e : a = b
 ·subst e; simp
 ·have h : ¬ (Sum.inl a : Key) = Sum.inl b := fun q => e (Sum.inl.inj q)
  rw [decide_eq_false h]
  exact (beq_eq_false_iff_ne.mpr e).symm
theorem Hx (a b : Str) : decide ((Sum.inr a : Key) = Sum.inr b) = decide (a = b) := by
 by_cases e : a = b
 ·subst e; simp
 ·have h : ¬ (Sum.inr a : Key) = Sum.inr b := fun q => e (Sum.inr.inj q)
  rw [decide_eq_false h, decide_eq_false e]
theorem Hz (a : Int) (b : Str) : decide ((Sum.inl a : Key) = Sum.inr b) = false := decide_eq_false (fun q => nomatch q)
theorem Hy (a : Str) (b : Int) : decide ((Sum.inr a : Key) = Sum.inl b) = false := decide_eq_false (fun q => nomatch q)
def bN (prog : Program) (w : World) : PySem.KeyKind prog w Key where
 is := sC
 hash := MH w
 inj := fun v a b ha hb => by
  rcases bO ha with ⟨i, t, rfl, rfl⟩ | ⟨x, t, rfl, rfl⟩
  ·rcases bO hb with ⟨j, u, rfl, e⟩ | ⟨y, u, rfl, e⟩
   ·injection e with e1 _; rw [e1]
   ·exact nomatch e
  ·rcases bO hb with ⟨j, u, rfl, e⟩ | ⟨y, u, rfl, e⟩
   ·exact nomatch e
   ·injection e with e1 _; rw [e1]
 byValue := fun k v h => by
  rcases bO h with ⟨i, t, rfl, rfl⟩ | ⟨x, t, rfl, rfl⟩ <;> rfl
 pyHash := fun hv h => by
  rcases bO hv with ⟨i, t, rfl, rfl⟩ | ⟨x, t, rfl, rfl⟩
  ·exact wpAny_pyHash_int h
  ·exact wpAny_pyHash_str h
 eqBool := fun hu hv h => by
  rcases bO hu with ⟨i, t, rfl, rfl⟩ | ⟨x, t, rfl, rfl⟩
  ·rcases bO hv with ⟨j, u, rfl, rfl⟩ | ⟨y, u, rfl, rfl⟩
   ·rw [HA] at h; exact wpAny_eqBool_int h
   ·rw [Hz] at h; exact SeqAt.EqAt.int_str i t y u _ _ _ _ h
  ·rcases bO hv with ⟨j, u, rfl, rfl⟩ | ⟨y, u, rfl, rfl⟩
   ·rw [Hy] at h; exact SeqAt.EqAt.str_int x t j u _ _ _ _ h
   ·rw [Hx] at h; exact wpAny_eqBool_str h
 «strs» := fun k x t v h => by
  rcases bO h with ⟨i, u, rfl, e⟩ | ⟨y, u, rfl, e⟩
  ·exact nomatch e
  ·injection e with e1 _
   subst e1
   cases v <;> rfl
theorem vU (prog : Program) (w : World) (i : Int) (t : Tok) : (bN prog w).is (.inl i) (.int i t) = true := AX i t
theorem vT (prog : Program) (w : World) (x : Str) (t : Tok) : (bN prog w).is (.inr x) (.str x t) = true := AW x t
end L2
namespace L2
open PySem Spec PyProof.Rows
inductive V where
 | bf | bl (b : Bool) | int (i : Int) | str (x : Str) | wZ (b : Array UInt8) | Ie (b : UInt64) | ref (a : Addr) | ty (n : String)
 deriving DecidableEq
def RelV : V -> Value -> Prop
 | .bf, u => u = Value.none
 | .bl b, u => u = Value.bool b
 | .int i, u => ∃ t, u = Value.int i t
 | .str x, u => ∃ t, u = Value.str x t
 | .wZ b, u => ∃ t, u = Value.bytes b t
 | .Ie b, u => ∃ t, u = Value.float b t
 | .ref a, u => u = Value.ref a
 | .ty n, u => u = Value.type n
abbrev Vals : List V -> List Value -> Prop := Paired RelV
theorem Vals.length {xs : List V} {us : List Value} (r : Vals xs us) : xs.length = us.length := Paired.length r
theorem Vals.get : ∀ {xs : List V} {us : List Value} {i : Nat} {x : V}, Vals xs us -> xs[i]? = some x -> ∃ u, us[i]? = some u /\ RelV x u
 | _, _, _, _, .nil, e => by simp at e
 | _, _, 0, _, .cons r _, e => by simp at e; subst e; exact ⟨_, rfl, r⟩
 | _, _, i + 1, x, .cons _ t, e => by
  obtain ⟨u, h1, h2⟩ := Vals.get (i := i) (x := x) t (by simpa using e)
  exact ⟨u, by simpa using h1, h2⟩
theorem Vals.set {x : V} {u : Value} (r : RelV x u) : ∀ {xs : List V} {us : List Value} (i : Nat), Vals xs us -> Vals (xs.set i x) (us.set i u)
 | _, _, _, .nil => .nil
 | _, _, 0, .cons _ t => .cons r t
 | _, _, i + 1, .cons q t => .cons q (Vals.set r i t)
theorem Vals.append : ∀ {xs ys : List V} {us ws : List Value}, Vals xs us -> Vals ys ws -> Vals (xs ++ ys) (us ++ ws)
 | _, _, _, _, .nil, s => s
 | _, _, _, _, .cons r t, s => .cons r (Vals.append t s)
theorem Vals.take : ∀ {xs : List V} {us : List Value} (n : Nat), Vals xs us -> Vals (xs.take n) (us.take n)
 | _, _, 0, _ => .nil
 | _, _, _ + 1, .nil => .nil
 | _, _, n + 1, .cons r t => .cons r (Vals.take n t)
theorem Vals.drop : ∀ {xs : List V} {us : List Value} (n : Nat), Vals xs us -> Vals (xs.drop n) (us.drop n)
 | _, _, 0, r => r
 | _, _, _ + 1, .nil => .nil
 | _, _, n + 1, .cons _ t => Vals.drop n t
def nI : Option V -> Option Value -> Prop
 | some v, some u => RelV v u
 | none, none => True
 | _, _ => False
def KV {κ : Type} : List (κ × V) -> List (κ × Value) -> Prop := Paired fun (p : κ × V) (q : κ × Value) => p.1 = q.1 /\ RelV p.2 q.2
def kV : Key -> V
 | .inl i => .int i
 | .inr x => .str x
inductive HO where
  | lst (xs : List V)
  | tup (xs : List V)
  | dK (kvs : List (Key × V)) | dT (kvs : List (List Key × V))
  | set (S : Int -> Bool) (n : Nat)
  | ins (C dx : Addr) (fs : List (Str × V))
  | own (x : Addr)
  | xd (fs : List (Str × V))
  | met (f x : Addr)
  | Li (lo hi : Int)
  | og (o : Obj) (u : HO)
  | FO (ps : Array Value)
  | ext (φ : Heap -> Prop)
abbrev Hp := Addr -> Option HO
def upd (H : Hp) (a : Addr) (o : HO) : Hp := fun b => if b = a then some o else H b
theorem ah {H : Hp} {a : Addr} {o : HO} : upd H a o a = some o := by unfold upd; rw [if_pos rfl]
theorem ak {H : Hp} {a b : Addr} {o : HO} (h : b ≠ a) : upd H a o b = H b := by unfold upd; rw [if_neg h]
theorem jk {H : Hp} {a : Addr} {o u : HO} : upd (upd H a o) a u = upd H a u := by
 funext b; unfold upd; split <;> rfl
theorem aI {H : Hp} {a b : Addr} {o : HO} (h : H a = some o) (h' : H b = none) : a ≠ b := by
 intro e; subst e; rw [h] at h'; cases h'
section
variable (P : Program) (w : World)
def bC (H : Hp) (h : Heap) (a : Addr) : HO -> Prop
 | .lst xs => xs.length <= sizeLine /\ ∃ (aF : List Value) (n : Nat), Vals xs aF /\ h.get? a = some { cls := .type "list", data := .seq aF.toArray n }
 | .tup xs => xs.length <= sizeLine /\ ∃ aF : List Value, Vals xs aF /\ IsTup h a aF.toArray
 | .dK kvs => kvs.length <= sizeLine /\ (a == sysModules) = false /\ ∃ vs, KV kvs vs /\ h.DictOf (bN P w) a vs
 | .dT kvs => kvs.length <= sizeLine /\ (a == sysModules) = false /\ ∃ xs : List (List Key × Addr × Value),
   Paired (fun (p : List Key × V) (q : List Key × Addr × Value) => p.1 = q.1 /\ H q.2.1 = some (.tup (p.1.map kV)) /\ RelV p.2 q.2.2) kvs xs /\
   ∃ o es ep, h.get? a = some o /\ o.ExactDict /\ o.data = .dict es ep /\ es.toList = xs.map (entryOfKey (tupleKind (bN P w))) /\ (xs.map (·.1)).Nodup
 | .set S n => h.SetOf (intKind P w) a S n
 | .ins C dx fs => H dx = some (.own a) /\ fs.length <= 1000 /\ dx ≠ a /\ h.get? a = some (W.instObj C dx) /\
   ∃ mA, h.Ns1 dx mA /\ (∀ f, nI (fs.lookup f) (mA f)) /\ PySem.Within mA (fs.map (·.1))
 | .own _ => ∃ o, h.get? a = some o
 | .xd fs => ∃ mA, h.Ns1 a mA /\ ∀ f, nI (fs.lookup f) (mA f)
 | .Li lo hi => ∃ t u v, h.get? a = some { cls := .type "range", data := .fields #[.int lo t, .int hi u, .int 1 v] }
 | .og o u => h.get? a = some o /\ bC H h a u
 | .FO ps => h.get? a = some { cls := .none, data := .fields ps }
 | .met f x => h.get? a = some (W.methodObj (.ref f) (.ref x))
 | .ext φ => φ h /\ (∃ o, h.get? a = some o) /\ ∀ h1 h2 : Heap, φ h1 -> (∀ o, h1.get? a = some o -> h2.get? a = some o) -> φ h2
def k7 (H : Hp) (h : Heap) : Prop := ∀ a o, H a = some o -> bC P w H h a o
end
section
variable {P : Program} {w : World} {H H' : Hp} {h h' : Heap} {a : Addr} {o : HO}
theorem bC.lt (x : bC P w H h a o) : a < h.objs.size := by
 cases o with
 | lst xs => obtain ⟨_, _, _, _, e⟩ := x; exact Heap.lt_size e
 | tup xs => obtain ⟨_, _, _, p⟩ := x; exact p.lt
 | dK kvs => obtain ⟨_, _, _, _, o, _, _, e, _⟩ := x; exact Heap.lt_size e
 | dT kvs => obtain ⟨_, _, _, _, o, _, _, e, _⟩ := x; exact Heap.lt_size e
 | set S n => obtain ⟨o, _, _, _, e, _⟩ := x; exact Heap.lt_size e
 | ins C dx fs => obtain ⟨_, _, _, e, _⟩ := x; exact Heap.lt_size e
 | own y => obtain ⟨_, e⟩ := x; exact Heap.lt_size e
 | xd fs => obtain ⟨_, ⟨_, _, _, e, _⟩, _⟩ := x; exact Heap.lt_size e
 | Li lo hi => obtain ⟨_, _, _, e⟩ := x; exact Heap.lt_size e
 | og ob u => obtain ⟨e, _⟩ := x; exact Heap.lt_size e
 | FO ps => exact Heap.lt_size (show h.get? a = some _ from x)
 | met f y => exact Heap.lt_size (show h.get? a = some _ from x)
 | ext φ => obtain ⟨_, ⟨_, e⟩, _⟩ := x; exact Heap.lt_size e
theorem Paired.Ht {α β : Type} {F G : α -> β -> Prop} : ∀ {l₁ : List α} {l₂ : List β}, Paired F l₁ l₂ -> (∀ a b, F a b -> G a b) -> Paired G l₁ l₂
 | _, _, .nil, _ => .nil
 | _, _, .cons r t, f => .cons (f _ _ r) (Paired.Ht t f)
theorem bC.tw (x : bC P w H h a o) (k : ∀ b u, (b = a \/ H b = some (.own a)) -> h.get? b = some u -> h'.get? b = some u)
  (ho : ∀ b, H b = some (.own a) -> H' b = some (.own a)) (ht : ∀ b xs, H b = some (.tup xs) -> H' b = some (.tup xs)) : bC P w H' h' a o := by
 induction o with
 | lst xs => obtain ⟨z, aF, n, r, e⟩ := x; exact ⟨z, aF, n, r, k _ _ (.inl rfl) e⟩
 | tup xs => obtain ⟨z, aF, r, ob, e, c⟩ := x; exact ⟨z, aF, r, ob, k _ _ (.inl rfl) e, c⟩
 | dK kvs => obtain ⟨z, y, vs, r, ob, es, ep, e, c⟩ := x; exact ⟨z, y, vs, r, ob, es, ep, k _ _ (.inl rfl) e, c⟩
 | dT kvs =>
  obtain ⟨z, y, xs, r, ob, es, ep, e, c⟩ := x
  exact ⟨z, y, xs, Paired.Ht r fun p q z => ⟨z.1, ht _ _ z.2.1, z.2.2⟩, ob, es, ep, k _ _ (.inl rfl) e, c⟩
 | set S n => obtain ⟨ob, es, ep, t, e, c⟩ := x; exact ⟨ob, es, ep, t, k _ _ (.inl rfl) e, c⟩
 | ins C dx fs =>
  obtain ⟨d, z, ne, e, mA, ⟨od, es, ep, e2, c⟩, r⟩ := x
  exact ⟨ho _ d, z, ne, k _ _ (.inl rfl) e, mA, ⟨od, es, ep, k _ _ (.inr d) e2, c⟩, r⟩
 | own y => obtain ⟨ob, e⟩ := x; exact ⟨ob, k _ _ (.inl rfl) e⟩
 | xd fs => obtain ⟨mA, ⟨od, es, ep, e, c⟩, r⟩ := x; exact ⟨mA, ⟨od, es, ep, k _ _ (.inl rfl) e, c⟩, r⟩
 | Li lo hi => obtain ⟨t, u, v, e⟩ := x; exact ⟨t, u, v, k _ _ (.inl rfl) e⟩
 | og ob u ih => obtain ⟨e, q⟩ := x; exact ⟨k _ _ (.inl rfl) e, ih q⟩
 | FO ps =>
  have e : h.get? a = some { cls := .none, data := .fields ps } := x
  show h'.get? a = some { cls := .none, data := .fields ps }
  exact k a _ (.inl rfl) e
 | met f y =>
  have e : h.get? a = some (W.methodObj (.ref f) (.ref y)) := x
  show h'.get? a = some (W.methodObj (.ref f) (.ref y))
  exact k a _ (.inl rfl) e
 | ext φ => obtain ⟨p, ⟨o, e⟩, st⟩ := x; exact ⟨st _ _ p fun o q => k _ _ (.inl rfl) q, ⟨o, k _ _ (.inl rfl) e⟩, st⟩
theorem k7.lt (x : k7 P w H h) (e : H a = some o) : a < h.objs.size := (x a o e).lt
theorem k7.fresh (x : k7 P w H h) (e : h.objs.size <= a) : H a = none := by
 cases q : H a with
 | none => rfl
 | some u => exact absurd (Nat.lt_of_lt_of_le (x.lt q) e) (Nat.lt_irrefl _)
theorem k7.kept (x : k7 P w H h) (k : ∀ b u, h.get? b = some u -> h'.get? b = some u) : k7 P w H h' := fun a o e =>
 (x a o e).tw (fun b u _ q => k b u q) (fun _ q => q) fun _ _ q => q
theorem k7.laid (x : k7 P w H h) (k : ∀ b u, h.get? b = some u -> h'.get? b = some u) (hp : h.objs.size <= a) (new : bC P w (upd H a o) h' a o) : k7 P w (upd H a o) h' := fun b u e => by
 have hn := x.fresh hp
 by_cases hb : b = a
 ·subst hb; rw [ah] at e; cases e; exact new
 ·rw [ak hb] at e
  exact (x b u e).tw (fun c v _ q => k c v q) (fun c q => by rw [ak (aI q hn)]; exact q) fun c xs q => by rw [ak (aI q hn)]; exact q
end
def Rd (H : Hp) (a : Addr) (u : HO) : Prop := H a = some u \/ ∃ o, H a = some (.og o u)
theorem Rd.ok {P : Program} {w : World} {H : Hp} {h : Heap} {a : Addr} {u : HO} (r : Rd H a u) (x : k7 P w H h) : bC P w H h a u := by
 rcases r with r | ⟨o, r⟩
 ·exact x a u r
 ·obtain ⟨_, q⟩ := x a _ r
  exact q
def KQ : Option HO -> Prop
 | some (.lst _) => True
 | some (.dK _) => True
 | some (.dT _) => True
 | some (.set _ _) => True
 | some (.ins _ _ _) => True
 | some (.ext _) => True
 | _ => False
section
variable {P : Program} {w : World} {H : Hp} {h h' : Heap} {x e : Addr} {o' : HO}
theorem k7.write (ok : k7 P w H h) (mu : KQ (H x)) (he : e = x \/ H e = some (.own x)) (k : ∀ b u, b ≠ e -> h.get? b = some u -> h'.get? b = some u) (IX : ∃ u, h'.get? e = some u)
  (new : bC P w (upd H x o') h' x o') : k7 P w (upd H x o') h' := fun b u q => by
 have JR : ∀ c y, H c = some (.own y) -> c ≠ x := fun c y r z => by subst z; rw [r] at mu; exact mu
 have My : ∀ c xs, H c = some (.tup xs) -> c ≠ x := fun c xs r z => by subst z; rw [r] at mu; exact mu
 by_cases hb : b = x
 ·subst hb; rw [ah] at q; cases q; exact new
 ·rw [ak hb] at q
  by_cases HX : b = e
  ·have q' : H b = some (.own x) := by
    rcases he with z | z
    ·exact absurd (HX.trans z) hb
    ·rw [HX]; exact z
   rw [q] at q'; cases q'
   obtain ⟨v, hv⟩ := IX
   exact ⟨v, by rw [HX]; exact hv⟩
  ·refine (ok b u q).tw (fun c v hc r => k c v ?_ r) (fun c r => by rw [ak (JR c b r)]; exact r) fun c xs r => by rw [ak (My c xs r)]; exact r
   rcases hc with rfl | hc
   ·exact HX
   ·rintro rfl
    rcases he with z | z
    ·exact JR c b hc z
    ·rw [hc] at z; cases z; exact hb rfl
end
structure Un (fs ex : List Addr) (H H' : Hp) (h h' : Heap) : Prop where
 keep : ∀ b o, h.get? b = some o -> H b = none -> b ∉ fs -> b ∉ ex -> h'.get? b = some o
 slot : ∀ b o, h.get? b = some o -> H b = none -> b ∈ fs -> b ∉ ex -> ∃ sl, h'.get? b = some { o with slots := sl }
 free : ∀ b o, h.get? b = some o -> H b = none -> b ∉ ex -> H' b = none
 there : ∀ b o, h.get? b = some o -> b ∉ ex -> ∃ o', h'.get? b = some o'
 sY : ∀ b xs, H b = some (.tup xs) -> H' b = some (.tup xs)
 rp : ∀ b o u, H b = some (.og o u) -> H' b = some (.og o u)
 tm : ∀ b ps, H b = some (.FO ps) -> ∃ more, H' b = some (.FO (ps ++ more))
section
variable {fs Eh ex Sa : List Addr} {H H1 H2 : Hp} {h h1 h2 h' : Heap} {a x e : Addr} {o : HO}
theorem Un.any (u : Un fs ex H H1 h h1) {b : Addr} {ob : Obj} (q : h.get? b = some ob) (n : H b = none) (hx : b ∉ ex) : ∃ sl, h1.get? b = some { ob with slots := sl } := by
 by_cases hb : b ∈ fs
 ·exact u.slot b ob q n hb hx
 ·exact ⟨ob.slots, u.keep b ob q n hb hx⟩
theorem Un.kept (k : ∀ b u, h.get? b = some u -> h'.get? b = some u) : Un fs ex H H h h' :=
 ⟨fun b ob q _ _ _ => k b ob q, fun b ob q _ _ _ => ⟨ob.slots, k b ob q⟩, fun _ _ _ n _ => n, fun b ob q _ => ⟨ob, k b ob q⟩, fun _ _ q => q, fun _ _ _ q => q, fun _ ps q => ⟨#[], by rw [q]; simp⟩⟩
theorem Un.refl : Un fs ex H H h h := Un.kept fun _ _ q => q
theorem Un.laid (k : ∀ b u, h.get? b = some u -> h'.get? b = some u) (hp : h.objs.size <= a) (hn : H a = none) : Un fs ex H (upd H a o) h h' where
 keep := fun b u q _ _ _ => k b u q
 slot := fun b u q _ _ _ => ⟨u.slots, k b u q⟩
 free := fun b u q n _ => by rw [ak (Nat.ne_of_lt (Nat.lt_of_lt_of_le (Heap.lt_size q) hp))]; exact n
 there := fun b u q _ => ⟨u, k b u q⟩
 sY := fun b xs q => by rw [ak (aI q hn)]; exact q
 rp := fun b u xs q => by rw [ak (aI q hn)]; exact q
 tm := fun b ps q => ⟨#[], by rw [ak (aI q hn), q]; simp⟩
theorem Un.write (mu : KQ (H x)) (he : e = x \/ H e = some (.own x)) (k : ∀ b u, b ≠ e -> h.get? b = some u -> h'.get? b = some u) (IX : ∃ u, h'.get? e = some u) : Un fs ex H (upd H x o) h h' := by
 have hx : ∀ b, H b = none -> b ≠ x := fun b n z => by subst z; rw [n] at mu; exact mu
 have hb : ∀ b, H b = none -> b ≠ e := fun b n z => by
  subst z
  rcases he with r | r
  ·exact hx b n r
  ·rw [n] at r; cases r
 have hm : ∀ b u, H b = some u -> ¬ KQ (some u) -> b ≠ x := fun b u q nm z => by subst z; rw [q] at mu; exact nm mu
 refine ⟨fun b u q n _ _ => k b u (hb b n) q, fun b u q n _ _ => ⟨u.slots, k b u (hb b n) q⟩, fun b u q n _ => by rw [ak (hx b n)]; exact n, fun b u q _ => ?_,
  fun b xs q => by rw [ak (hm b _ q fun z => z)]; exact q, fun b u xs q => by rw [ak (hm b _ q fun z => z)]; exact q, fun b ps q => ⟨#[], by rw [ak (hm b _ q fun z => z), q]; simp⟩⟩
 by_cases HX : b = e
 ·subst HX; exact IX
 ·exact ⟨u, k b u HX q⟩
end
def IH (h : Heap) (H : Hp) : List Addr := (List.range h.objs.size).filter fun a => (H a).isSome
def uz (h : Heap) (H : Hp) : Heap := W.hideAll h (IH h H)
theorem Bi (h : Heap) (H : Hp) : (uz h H).objs.size = h.objs.size := W.hideAll_size _ _
theorem Dk {h : Heap} {H : Hp} {b : Addr} {o : Obj} (e : h.get? b = some o) (n : H b = none) : (uz h H).get? b = some o :=
 W.hideAll_get _ e fun hm => by
  have q : (H b).isSome = true := (List.mem_filter.mp hm).2
  rw [n] at q; simp at q
theorem EN {h : Heap} {H : Hp} {b : Addr} {o : Obj} (e : (uz h H).get? b = some o) : h.get? b = some o /\ H b = none := by
 have e' : h.get? b = some o := W.of_hideAll (IH h H) e
 refine ⟨e', ?_⟩
 cases q : H b with
 | none => rfl
 | some x =>
  have hm : b ∈ IH h H := List.mem_filter.mpr ⟨List.mem_range.mpr (Heap.lt_size e'), by simp [q]⟩
  have z : (uz h H).get? b = none := W.hideAll_none (IH h H) hm
  rw [z] at e; cases e
end L2
namespace L2
open PySem Spec PyProof.Rows
structure Mod (K : W.Frag) (mg : Str -> Option Value) (base : Heap) : Prop where
 IU : K.In base
 glob : base.Ns mainGlobals mg
 blt : ∃ mb, base.Ns builtinsNs mb /\ ∀ x : Str, x ≠ "__name__" -> mb x = bootBuiltins x
 nolimit : base.NoLimit
structure Cx where
 prog : Program
 w : World
 K : W.Frag
 mg : Str -> Option Value
 base : Heap
 A : Around
 N : List Str
 s_0 : Shared
 H_0 : Hp
 env : Env
 outer : List Env
 stack : List Env
 ex : List Addr
 fn : Str -> Bool
 calm : Bool
 pn : List (Addr × Obj)
 xe : Value -> Shared -> Prop
def eL (l : List Env) : List Addr := l.filterMap (·.frame)
noncomputable abbrev Cx.fs (X : Cx) : List Addr := eL X.outer
def Jg (sc : Scope) (x : Str) : Prop := sc.names.lookup x = some .local \/ sc.names.lookup x = some .cell \/ sc.names.lookup x = some .free
def Loc (sc : Scope) (x : Str) : Prop := sc.names.lookup x = some .local \/ sc.names.lookup x = some .cell
def Look (env : Env) (h : Heap) (m : Str -> Option Value) (x : Str) (u : Value) : Prop :=
 (env.kindOf x = some .local /\ m x = some u) \/ ((env.kindOf x = some .cell \/ env.kindOf x = some .free) /\ ∃ c, env.cells.lookup x = some c /\ h.IsCell c (some u))
structure Cx.Ok (X : Cx) : Prop where
 mod : Mod X.K X.mg X.base
 kind : X.env.scope.kind = .function
 glob : X.env.globals = mainGlobals
 blt : X.env.builtins = builtinsNs
 above : X.s_0.heap.objs.size <= X.env.locals
 inj : ∀ x y c, X.env.cells.lookup x = some c -> X.env.cells.lookup y = some c -> x = y
 has : ∀ x, (X.env.kindOf x = some .cell \/ X.env.kindOf x = some .free) -> ∃ c, X.env.cells.lookup x = some c
 Jf : ∀ x c, X.fn x = true -> X.env.cells.lookup x = some c -> X.s_0.heap.objs.size <= c
 hd : X.calm = true -> X.A.handled = none
 frames : X.A.frames = some X.stack
 DZ : X.stack = X.outer \/ (X.stack = X.env :: X.outer /\ X.env.frame = some X.env.locals)
 sL : ∀ b ∈ X.ex, b ≠ X.env.locals /\ ∀ x c, X.env.cells.lookup x = some c -> c ≠ b
 bs : ∀ b o, X.base.get? b = some o -> X.s_0.heap.get? b = some o /\ X.H_0 b = none
 Ei : X.base.objs.size <= X.s_0.heap.objs.size
 AK : ∀ b o, X.base.get? b = some o -> b ∉ X.ex
 yz : ∀ b ∈ X.ex, b ∉ X.fs
 kq : X.s_0.heap.FunFrames X.base X.outer
 Fo : ∀ b ∈ X.fs, X.H_0 b = none
structure Inv (X : Cx) (pins : List (Addr × Obj)) (σ : List (Option V)) (H : Hp) (s : Shared) : Prop where
 ok : X.Ok
 os : s.os = X.s_0.os
 bare : AllBare s.gens
 base : Un X.fs X.ex X.H_0 H X.s_0.heap s.heap
 loc : ∃ m, s.heap.Ns X.env.locals m /\ ∀ (i : Nat) (x : Str) (v : V), X.N[i]? = some x -> σ[i]? = some (some v) -> Jg X.env.scope x -> ∃ u, RelV v u /\ Look X.env s.heap m x u
 cell : ∀ x c, X.env.cells.lookup x = some c -> ∃ v, s.heap.IsCell c v
 free : H X.env.locals = none
 fG : ∀ x c, X.env.cells.lookup x = some c -> H c = none
 pin : ∀ p ∈ X.pn ++ pins, s.heap.get? p.1 = some p.2 /\ H p.1 = none /\ p.1 ≠ X.env.locals /\ p.1 ∉ X.fs /\ ∀ v, p.2.data ≠ .cell v
 bD : k7 X.prog X.w H s.heap
 len : σ.length = X.N.length
section
variable {X : Cx} {pins : List (Addr × Obj)} {σ : List (Option V)} {H H' : Hp} {s : Shared} {h' : Heap}
theorem Cx.Ok.M5 (ok : X.Ok) {b : Addr} {o : Obj} (e : X.base.get? b = some o) : b ∉ X.fs := fun hb => by
 have := (ok.kq.mem hb).1
 rw [e] at this; cases this
theorem Inv.bs (I : Inv X pins σ H s) : ∀ b o, X.base.get? b = some o -> s.heap.get? b = some o /\ H b = none := fun b o e =>
 ⟨I.base.keep b o (I.ok.bs b o e).1 (I.ok.bs b o e).2 (I.ok.M5 e) (I.ok.AK b o e), I.base.free b o (I.ok.bs b o e).1 (I.ok.bs b o e).2 (I.ok.AK b o e)⟩
theorem Inv.bk (I : Inv X pins σ H s) : ∀ b o, X.base.get? b = some o -> s.heap.get? b = some o := fun b o e => (I.bs b o e).1
theorem Inv.mod (I : Inv X pins σ H s) : Mod X.K X.mg X.base := I.ok.mod
theorem Inv.gu (I : Inv X pins σ H s) : X.K.In s.heap := I.ok.mod.IU.keeps I.bk
theorem Inv.lt (I : Inv X pins σ H s) : X.env.locals < s.heap.objs.size := let ⟨_, hn, _⟩ := I.loc; hn.lt
theorem Inv.sz (I : Inv X pins σ H s) : X.s_0.heap.objs.size <= s.heap.objs.size := Nat.le_trans I.ok.above (Nat.le_of_lt I.lt)
theorem Inv.M4 (I : Inv X pins σ H s) {a : Addr} (h : s.heap.objs.size <= a) : a ∉ X.fs := fun hb => by
 obtain ⟨_, o, ho, _⟩ := I.ok.kq.mem hb
 exact absurd (Nat.lt_of_lt_of_le (Heap.lt_size ho) (Nat.le_trans I.sz h)) (Nat.lt_irrefl _)
theorem Inv.Gs (I : Inv X pins σ H s) : ∀ x c, X.env.cells.lookup x = some c -> c ≠ X.env.locals := fun x c e z => by
 obtain ⟨v, o, ho, hd⟩ := I.cell x c e
 obtain ⟨m, ⟨o', es, ep, wg, Nm, _⟩, _⟩ := I.loc
 rw [z, wg] at ho; cases ho; rw [Nm] at hd; cases hd
theorem Inv.kq (I : Inv X pins σ H s) : s.heap.FunFrames X.base X.outer := by
 have all : ∀ (l : List Env), (∀ b ∈ eL l, b ∈ X.fs) -> X.s_0.heap.FunFrames X.base l -> s.heap.FunFrames X.base l := by
  intro l
  induction l with
  | nil => intro _ _; trivial
  | cons env r ih =>
   intro hs hl
   obtain ⟨hk, ⟨L, o, hf, hn, ho, hd⟩, hr⟩ := hl
   have hL : L ∈ X.fs := hs L (by unfold eL; rw [List.filterMap_cons, hf]; exact zA2)
   obtain ⟨sl, e⟩ := I.base.slot L o ho (I.ok.Fo L hL) hL fun z => I.ok.yz L z hL
   exact ⟨hk, ⟨L, _, hf, hn, e, hd⟩, ih (fun b hb => hs b (by unfold eL; rw [List.filterMap_cons, hf]; exact zA1 _ hb)) hr⟩
 exact all X.outer (fun _ hb => hb) I.ok.kq
theorem Inv.stack (I : Inv X pins σ H s) : s.heap.FunFrames X.base X.stack := by
 rcases I.ok.DZ with e | ⟨e, hf⟩
 ·rw [e]; exact I.kq
 ·rw [e]
  obtain ⟨m, hn, _⟩ := I.loc
  refine .cons (by rw [I.ok.kind]; decide) hf hn ?_ I.kq
  exact Heap.get?_none_of_le (Nat.le_trans I.ok.Ei I.ok.above)
theorem Inv.xl (I : Inv X pins σ H s) : ∀ b ∈ eL X.stack, b ∈ X.env.locals :: X.fs := fun b hb => by
 rcases I.ok.DZ with e | ⟨e, hf⟩
 ·rw [e] at hb; exact zA1 _ hb
 ·rw [e] at hb
  unfold eL at hb
  rw [List.filterMap_cons, hf] at hb
  exact hb
theorem Inv.ze (I : Inv X pins σ H s) : ∀ b ∈ eL X.stack, H b = none := fun b hb => by
 rcases List.mem_cons.mp (I.xl b hb) with e | hb
 ·rw [e]; exact I.free
 ·obtain ⟨_, o, ho, _⟩ := I.ok.kq.mem hb
  exact I.base.free b o ho (I.ok.Fo b hb) fun z => I.ok.yz b z hb
theorem Inv.step {g' : Array GenState} {t' : Nat} {d' : Drawn} {ch : List Addr} (I : Inv X pins σ H s)
  (zP : ∀ b ∈ ch, (b ∈ X.ex \/ X.s_0.heap.objs.size <= b) /\ b ≠ X.env.locals /\ (∀ x c, X.env.cells.lookup x = some c -> c ≠ b) /\ ∀ p ∈ X.pn ++ pins, p.1 ≠ b)
  (keep : ∀ b o, b ≠ X.env.locals -> b ∉ X.fs -> b ∉ ch -> s.heap.get? b = some o -> H b = none -> h'.get? b = some o)
  (slot : ∀ b o, b ≠ X.env.locals -> b ∈ X.fs -> b ∉ ch -> s.heap.get? b = some o -> H b = none -> ∃ sl, h'.get? b = some { o with slots := sl }) (free : ∀ b o, b ∉ ch -> s.heap.get? b = some o -> H b = none -> H' b = none)
  (there : ∀ b o, b ∉ ch -> s.heap.get? b = some o -> ∃ o', h'.get? b = some o')
  (sY : ∀ b xs, H b = some (.tup xs) -> H' b = some (.tup xs)) (rp : ∀ b o u, H b = some (.og o u) -> H' b = some (.og o u)) (tm : ∀ b ps, H b = some (.FO ps) -> ∃ more, H' b = some (.FO (ps ++ more)))
  (ns : ∀ m, s.heap.Ns X.env.locals m -> h'.Ns X.env.locals m) (bD : k7 X.prog X.w H' h') (hg : AllBare g') :
  Inv X pins σ H' { s with heap := h', gens := g', drawn := d', toks := t' } := by
 have JX : ∀ b o, X.s_0.heap.get? b = some o -> b ≠ X.env.locals := fun b o e => Nat.ne_of_lt (Nat.lt_of_lt_of_le (Heap.lt_size e) I.ok.above)
 have Hm : ∀ b o, X.s_0.heap.get? b = some o -> b ∉ X.ex -> b ∉ ch := fun b o e hx hb => by
  rcases (zP b hb).1 with z | z
  ·exact hx z
  ·exact absurd (Nat.lt_of_lt_of_le (Heap.lt_size e) z) (Nat.lt_irrefl _)
 have cellK : ∀ x c, X.env.cells.lookup x = some c -> ∀ v, s.heap.IsCell c v -> h'.IsCell c v := fun x c e v ⟨o, ho, hd⟩ => by
  have Hn : c ∉ ch := fun z => (zP c z).2.2.1 x c e rfl
  by_cases hc : c ∈ X.fs
  ·obtain ⟨sl, q⟩ := slot c o (I.Gs x c e) hc Hn ho (I.fG x c e)
   exact ⟨_, q, hd⟩
  ·exact ⟨o, keep c o (I.Gs x c e) hc Hn ho (I.fG x c e), hd⟩
 refine ⟨I.ok, I.os, hg, ⟨fun b o e n hb hx => ?_, fun b o e n hb hx => ?_, fun b o e n hx => ?_, fun b o e hx => ?_, fun b xs e => sY b xs (I.base.sY b xs e), fun b o xs e => rp b o xs (I.base.rp b o xs e), fun b ps e => ?_⟩, ?_, fun x c e => ?_, ?_, fun x c e => ?_, fun p hp => ?_, bD, I.len⟩
 ·exact keep b o (JX b o e) hb (Hm b o e hx) (I.base.keep b o e n hb hx) (I.base.free b o e n hx)
 ·obtain ⟨sl, e1⟩ := I.base.slot b o e n hb hx
  obtain ⟨Mc, e2⟩ := slot b _ (JX b o e) hb (Hm b o e hx) e1 (I.base.free b o e n hx)
  exact ⟨Mc, e2⟩
 ·obtain ⟨o', e1⟩ := I.base.there b o e hx
  exact free b o' (Hm b o e hx) e1 (I.base.free b o e n hx)
 ·obtain ⟨o', e1⟩ := I.base.there b o e hx
  exact there b o' (Hm b o e hx) e1
 ·obtain ⟨m1, e1⟩ := I.base.tm b ps e
  obtain ⟨m2, e2⟩ := tm b _ e1
  exact ⟨m1 ++ m2, by rw [e2, Array.append_assoc]⟩
 ·obtain ⟨m, hn, hl⟩ := I.loc
  refine ⟨m, ns m hn, fun i x v e1 e2 e3 => ?_⟩
  obtain ⟨u, r, l⟩ := hl i x v e1 e2 e3
  refine ⟨u, r, ?_⟩
  rcases l with l | ⟨k, c, e, z⟩
  ·exact .inl l
  ·exact .inr ⟨k, c, e, cellK x c e _ z⟩
 ·obtain ⟨v, z⟩ := I.cell x c e
  exact ⟨v, cellK x c e v z⟩
 ·obtain ⟨m, ⟨o, _, _, ho, _⟩, _⟩ := I.loc
  exact free _ o (fun z => (zP _ z).2.1 rfl) ho I.free
 ·obtain ⟨v, o, ho, hd⟩ := I.cell x c e
  exact free c o (fun z => (zP c z).2.2.1 x c e rfl) ho (I.fG x c e)
 ·obtain ⟨e, n, ne, nf, d⟩ := I.pin p hp
  have Hn : p.1 ∉ ch := fun z => (zP p.1 z).2.2.2 p hp rfl
  exact ⟨keep p.1 p.2 ne nf Hn e n, free p.1 p.2 Hn e n, ne, nf, d⟩
theorem Inv.un {t' : Nat} (I : Inv X pins σ H s) (u : Un X.fs [] H H' s.heap h') (bD : k7 X.prog X.w H' h') : Inv X pins σ H' { s with heap := h', toks := t' } := by
 obtain ⟨m, ⟨o, es, ep, ho, r⟩, _⟩ := id I.loc
 obtain ⟨sl, hL⟩ := u.any ho I.free (by simp)
 exact I.step (g' := s.gens) (d' := s.drawn) (ch := []) (fun _ z => nomatch z) (fun b o _ hb _ e n => u.keep b o e n hb (by simp)) (fun b o _ hb _ e n => u.slot b o e n hb (by simp)) (fun b o _ e n => u.free b o e n (by simp)) (fun b o _ e => u.there b o e (by simp)) u.sY u.rp u.tm (fun m' hm => by
  obtain ⟨o', Im, N5, wg, r'⟩ := hm
  rw [ho] at wg; cases wg
  exact ⟨_, Im, N5, hL, r'⟩) bD I.bare
theorem Inv.call {g' : Array GenState} {t' : Nat} {d' : Drawn} {ch : List Addr} (I : Inv X pins σ H s) (u : Un (eL X.stack) ch H H' s.heap h') (bD : k7 X.prog X.w H' h') (hg : AllBare g')
  (zP : ∀ b ∈ ch, (b ∈ X.ex \/ X.s_0.heap.objs.size <= b) /\ b ≠ X.env.locals /\ (∀ x c, X.env.cells.lookup x = some c -> c ≠ b) /\ ∀ p ∈ X.pn ++ pins, p.1 ≠ b) :
  Inv X pins σ H' { s with heap := h', gens := g', drawn := d', toks := t' } := by
 obtain ⟨m, ⟨o, es, ep, ho, r⟩, _⟩ := id I.loc
 obtain ⟨sl, hL⟩ := u.any ho I.free fun z => (zP _ z).2.1 rfl
 exact I.step (ch := ch) zP (fun b o hL hb hc e n => u.keep b o e n (fun z => (List.mem_cons.mp (I.xl b z)).elim hL hb) hc) (fun b o _ _ hc e n => u.any e n hc) (fun b o hc e n => u.free b o e n hc) (fun b o hc e => u.there b o e hc) u.sY u.rp u.tm (fun m' hm => by
  obtain ⟨o', Im, N5, wg, r'⟩ := hm
  rw [ho] at wg; cases wg
  exact ⟨_, Im, N5, hL, r'⟩) bD hg
theorem Inv.turned {t' : Nat} {it : Addr} (I : Inv X pins σ H s) (k : ∀ b o, b ≠ it -> s.heap.get? b = some o -> h'.get? b = some o) (hn : H it = none) (hL : it ≠ X.env.locals)
  (h1 : it ∈ X.ex \/ X.s_0.heap.objs.size <= it) (h2 : ∀ x c, X.env.cells.lookup x = some c -> c ≠ it) (h3 : ∀ p ∈ X.pn ++ pins, p.1 ≠ it) : Inv X pins σ H { s with heap := h', toks := t' } := by
 have Hh : ∀ b u, H b = some u -> b ≠ it := fun b u e z => by rw [z, hn] at e; cases e
 refine I.step (g' := s.gens) (d' := s.drawn) (ch := [it]) (fun b hb => ?_) (fun b o _ _ hc e _ => k b o (fun z => hc (by simp [z])) e) (fun b o _ _ hc e _ => ⟨o.slots, k b o (fun z => hc (by simp [z])) e⟩) (fun _ _ _ _ n => n)
  (fun b o hc e => ⟨o, k b o (fun z => hc (by simp [z])) e⟩) (fun _ _ e => e) (fun _ _ _ e => e) (fun b ps e => ⟨#[], by rw [e]; simp⟩) (fun m hm => ?_) (fun b u e => ?_) I.bare
 ·have e : b = it := by simpa using hb
  subst e
  exact ⟨h1, hL, h2, h3⟩
 ·obtain ⟨o, es, ep, ho, r⟩ := hm
  exact ⟨o, es, ep, k _ o (Ne.symm hL) ho, r⟩
 ·refine (I.bD b u e).tw (fun c v hc q => k c v ?_ q) (fun _ q => q) fun _ _ q => q
  rcases hc with z | z
  ·rw [z]; exact Hh b u e
  ·exact Hh c _ z
theorem Inv.tok (I : Inv X pins σ H s) (t : Nat) : Inv X pins σ H { s with toks := t } := I.un (h' := s.heap) (t' := t) Un.refl I.bD
theorem Inv.kept {t' : Nat} (I : Inv X pins σ H s) (k : ∀ b u, s.heap.get? b = some u -> h'.get? b = some u) : Inv X pins σ H { s with heap := h', toks := t' } := I.un (Un.kept k) (I.bD.kept k)
theorem Inv.laid {a : Addr} {o : HO} {t' : Nat} (I : Inv X pins σ H s) (k : ∀ b u, s.heap.get? b = some u -> h'.get? b = some u) (hp : s.heap.objs.size <= a) (new : bC X.prog X.w (upd H a o) h' a o) :
  Inv X pins σ (upd H a o) { s with heap := h', toks := t' } := I.un (Un.laid k hp (I.bD.fresh hp)) (I.bD.laid k hp new)
theorem Inv.write {x e : Addr} {o : HO} {t' : Nat} (I : Inv X pins σ H s) (mu : KQ (H x)) (he : e = x \/ H e = some (.own x)) (k : ∀ b u, b ≠ e -> s.heap.get? b = some u -> h'.get? b = some u) (IX : ∃ u, h'.get? e = some u)
  (new : bC X.prog X.w (upd H x o) h' x o) : Inv X pins σ (upd H x o) { s with heap := h', toks := t' } := I.un (Un.write mu he k IX) (I.bD.write mu he k IX new)
theorem Inv.weak {σ' : List (Option V)} (I : Inv X pins σ H s) (hl : σ'.length = σ.length) (w : ∀ (i : Nat) v, σ'[i]? = some (some v) -> σ[i]? = some (some v)) : Inv X pins σ' H s :=
 ⟨I.ok, I.os, I.bare, I.base, let ⟨m, hn, QD⟩ := I.loc; ⟨m, hn, fun i x v e1 e2 e3 => QD i x v e1 (w i v e2) e3⟩, I.cell, I.free, I.fG, I.pin, I.bD, hl.trans I.len⟩
theorem Inv.tZ {pins' : List (Addr × Obj)} (I : Inv X pins σ H s) (h : ∀ p ∈ pins', s.heap.get? p.1 = some p.2 /\ H p.1 = none /\ p.1 ≠ X.env.locals /\ p.1 ∉ X.fs /\ ∀ v, p.2.data ≠ .cell v) : Inv X pins' σ H s :=
 ⟨I.ok, I.os, I.bare, I.base, I.loc, I.cell, I.free, I.fG, fun p hp => (List.mem_append.mp hp).elim (fun z => I.pin p (List.mem_append_left _ z)) (h p), I.bD, I.len⟩
theorem pY {N : List Str} (hN : N.Nodup) {i j : Nat} {x : Str} (a : N[i]? = some x) (b : N[j]? = some x) : i = j := by
 obtain ⟨h1, e1⟩ := List.getElem?_eq_some_iff.mp a
 obtain ⟨h2, e2⟩ := List.getElem?_eq_some_iff.mp b
 exact (List.getElem_inj hN).mp (e1.trans e2.symm)
theorem A1 {M : Model} {A : Around} {E : Value -> Shared -> Prop} {i : Nat} {x : Str} {v : V} {u : Value} {Q : Unit -> Shared -> Prop} (I : Inv X pins σ H s) (hN : X.N.Nodup) (hi : X.N[i]? = some x) (hx : Loc X.env.scope x) (r : RelV v u)
  (h : ∀ s', Inv X pins (σ.set i (some v)) H s' -> (∃ a, Heap.SameBut a s.heap s'.heap /\ (a = X.env.locals \/ X.env.cells.lookup x = some a)) -> Q () s') (hf : X.fn x = true \/ X.env.scope.names.lookup x = some .local := by first | exact .inl rfl | exact .inr rfl | assumption) : wpAny M A (storeName X.env x u) Q E s := by
 obtain ⟨m, hn, hl⟩ := id I.loc
 have Bj : (X.env.scope.kind == .class || (X.env.scope.kind == .module && X.env.locals != X.env.globals)) = false := by rw [I.ok.kind]; rfl
 have hiσ : i < σ.length := by rw [I.len]; exact (List.getElem?_eq_some_iff.mp hi).1
 have Gs := I.Gs
 have tracked : ∀ {a : Addr} {h' : Heap}, (∃ o, s.heap.get? a = some o /\ H a = none) -> Heap.SameBut a s.heap h' -> k7 X.prog X.w H h' := fun {a h'} ha hs b ob e => by
  obtain ⟨_, _, sI⟩ := ha
  refine (I.bD b ob e).tw (fun c w' hc q => (hs.2 c ?_).trans q) (fun _ q => q) fun _ _ q => q
  rintro rfl
  rcases hc with rfl | hc
  ·rw [sI] at e; cases e
  ·rw [sI] at hc; cases hc
 rcases hx with hk | hk
 ·refine wpAny_storeName_local hk hn (fun h' QB hs => ?_) Bj
  obtain ⟨oL, _, _, Q8, _⟩ := id hn
  refine h _ ⟨I.ok, I.os, I.bare, ⟨fun b o e n hb hx => ?_, fun b o e n hb hx => ?_, I.base.free, fun b o e hx => ?_, I.base.sY, I.base.rp, I.base.tm⟩, ⟨_, QB, fun j y v' e1 e2 e3 => ?_⟩, fun y c e => ?_, I.free, I.fG, fun p hp => ?_, tracked ⟨oL, Q8, I.free⟩ hs, by simpa using I.len⟩ ⟨_, hs, .inl rfl⟩
  ·exact (hs.2 b (Nat.ne_of_lt (Nat.lt_of_lt_of_le (Heap.lt_size e) I.ok.above))).trans (I.base.keep b o e n hb hx)
  ·obtain ⟨sl, e1⟩ := I.base.slot b o e n hb hx
   exact ⟨sl, (hs.2 b (Nat.ne_of_lt (Nat.lt_of_lt_of_le (Heap.lt_size e) I.ok.above))).trans e1⟩
  ·obtain ⟨o', e1⟩ := I.base.there b o e hx
   exact ⟨o', (hs.2 b (Nat.ne_of_lt (Nat.lt_of_lt_of_le (Heap.lt_size e) I.ok.above))).trans e1⟩
  ·by_cases hj : j = i
   ·subst hj
    rw [hi] at e1; cases e1
    rw [List.getElem?_set_self hiσ] at e2
    cases e2
    exact ⟨u, r, .inl ⟨hk, by simp⟩⟩
   ·rw [List.getElem?_set_ne (Ne.symm hj)] at e2
    obtain ⟨u', r', q⟩ := hl j y v' e1 e2 e3
    refine ⟨u', r', ?_⟩
    rcases q with ⟨k, e⟩ | ⟨k, c, e, z⟩
    ·refine .inl ⟨k, ?_⟩
     have : y ≠ x := fun e => hj (pY hN e1 (e ▸ hi))
     simp [this, e]
    ·exact .inr ⟨k, c, e, z.sameBut hs (Gs y c e)⟩
  ·obtain ⟨w', z⟩ := I.cell y c e
   exact ⟨w', z.sameBut hs (Gs y c e)⟩
  ·obtain ⟨e, n, ne, nf, d⟩ := I.pin p hp
   exact ⟨(hs.2 p.1 ne).trans e, n, ne, nf, d⟩
 ·have Nj : X.fn x = true := by
   rcases hf with z | z
   ·exact z
   ·rw [z] at hk; cases hk
  obtain ⟨c, hc⟩ := I.ok.has x (.inl hk)
  obtain ⟨w', z⟩ := I.cell x c hc
  refine wpAny_storeName_cell I.ok.kind hk hc z (fun h' OT hs => ?_)
  obtain ⟨oc, BL, MV⟩ := id z
  refine h { s with heap := h' } ⟨I.ok, I.os, I.bare, ⟨fun b o e n hb hx => ?_, fun b o e n hb hx => ?_, I.base.free, fun b o e hx => ?_, I.base.sY, I.base.rp, I.base.tm⟩, ⟨m, hn.sameBut hs (Ne.symm (Gs x c hc)), fun j y v' e1 e2 e3 => ?_⟩, fun y c' e => ?_, I.free, I.fG, fun p hp => ?_, tracked ⟨oc, BL, I.fG x c hc⟩ hs, by simpa using I.len⟩ ⟨c, hs, .inr hc⟩
  ·exact (hs.2 b (Nat.ne_of_lt (Nat.lt_of_lt_of_le (Heap.lt_size e) (I.ok.Jf x c Nj hc)))).trans (I.base.keep b o e n hb hx)
  ·obtain ⟨sl, e1⟩ := I.base.slot b o e n hb hx
   exact ⟨sl, (hs.2 b (Nat.ne_of_lt (Nat.lt_of_lt_of_le (Heap.lt_size e) (I.ok.Jf x c Nj hc)))).trans e1⟩
  ·obtain ⟨o', e1⟩ := I.base.there b o e hx
   exact ⟨o', (hs.2 b (Nat.ne_of_lt (Nat.lt_of_lt_of_le (Heap.lt_size e) (I.ok.Jf x c Nj hc)))).trans e1⟩
  ·by_cases hj : j = i
   ·subst hj
    rw [hi] at e1; cases e1
    rw [List.getElem?_set_self hiσ] at e2
    cases e2
    exact ⟨u, r, .inr ⟨.inl hk, c, hc, OT⟩⟩
   ·rw [List.getElem?_set_ne (Ne.symm hj)] at e2
    obtain ⟨u', r', q⟩ := hl j y v' e1 e2 e3
    refine ⟨u', r', ?_⟩
    rcases q with q | ⟨k, c', e, z'⟩
    ·exact .inl q
    ·refine .inr ⟨k, c', e, z'.sameBut hs ?_⟩
     rintro rfl
     exact hj (pY hN e1 (I.ok.inj _ _ _ e hc ▸ hi))
  ·by_cases OR : c' = c
   ·subst OR; exact ⟨_, OT⟩
   ·obtain ⟨w2, z2⟩ := I.cell y c' e
    exact ⟨w2, z2.sameBut hs OR⟩
  ·obtain ⟨e, n, ne, nf, d⟩ := I.pin p hp
   refine ⟨(hs.2 p.1 ?_).trans e, n, ne, nf, d⟩
   intro q
   rw [q, BL] at e
   have q' : oc = p.2 := Option.some.inj e
   exact d w' (by rw [<- q']; exact MV)
theorem ph {M : Model} {A : Around} {E : Value -> Shared -> Prop} {i : Nat} {x : Str} {v : V} {u : Value} {Q : Unit -> Shared -> Prop} (I : Inv X pins σ H s) (hN : X.N.Nodup) (hi : X.N[i]? = some x) (hx : Loc X.env.scope x) (r : RelV v u)
  (h : ∀ s', Inv X pins (σ.set i (some v)) H s' -> Q () s') (hf : X.fn x = true \/ X.env.scope.names.lookup x = some .local := by first | exact .inl rfl | exact .inr rfl | assumption) : wpAny M A (storeName X.env x u) Q E s :=
 A1 I hN hi hx r (fun s' I' _ => h s' I') hf
theorem Inv.DJ {s' : Shared} {ch : List Addr} (I : Inv X pins σ H s) (ho : s'.os = s.os) (u : Un (eL X.stack) ch H H' s.heap s'.heap) (bD : k7 X.prog X.w H' s'.heap) (hg : AllBare s'.gens)
  (zP : ∀ b ∈ ch, (b ∈ X.ex \/ X.s_0.heap.objs.size <= b) /\ b ≠ X.env.locals /\ (∀ x c, X.env.cells.lookup x = some c -> c ≠ b) /\ ∀ p ∈ X.pn ++ pins, p.1 ≠ b) : Inv X pins σ H' s' := by
 obtain ⟨h', g', d', t', o'⟩ := s'
 have e : o' = s.os := ho
 subst e
 exact I.call (g' := g') (t' := t') (d' := d') u bD hg zP
end
abbrev XK := Value -> Option Addr -> Hp -> Prop
abbrev St := List (Option V)
abbrev VK := V -> Hp -> Prop
abbrev TE := St -> Hp -> VK -> Prop
abbrev TT := St -> Hp -> (Bool -> Hp -> Prop) -> Prop
abbrev TA := St -> Hp -> (List V -> Hp -> Prop) -> Prop
structure Ends where
 nx : St -> Hp -> Prop
 rt : VK
 bk : St -> Hp -> Prop := fun _ _ => False
 ct : St -> Hp -> Prop := fun _ _ => False
abbrev TS := Ends -> St -> Hp -> Prop
def EP (X : Cx) (pins : List (Addr × Obj)) (σ : St) (Q : VK) (u : Value) (s' : Shared) : Prop := ∃ v H', Inv X pins σ H' s' /\ RelV v u /\ Q v H'
def TP (X : Cx) (pins : List (Addr × Obj)) (σ : St) (Q : Bool -> Hp -> Prop) (b : Bool) (s' : Shared) : Prop := ∃ H', Inv X pins σ H' s' /\ Q b H'
def AP (X : Cx) (pins : List (Addr × Obj)) (σ : St) (Q : List V -> Hp -> Prop) (us : List Value) (s' : Shared) : Prop := ∃ vs H', Inv X pins σ H' s' /\ Vals vs us /\ Q vs H'
def SP (X : Cx) (pins : List (Addr × Obj)) (D : Ends) (f : Flow) (s' : Shared) : Prop :=
 match f with
 | .next => ∃ σ' H', Inv X pins σ' H' s' /\ D.nx σ' H'
 | .brk => ∃ σ' H', Inv X pins σ' H' s' /\ D.bk σ' H'
 | .cont => ∃ σ' H', Inv X pins σ' H' s' /\ D.ct σ' H'
 | .ret u => ∃ v σ' H', Inv X pins σ' H' s' /\ RelV v u /\ D.rt v H'
def PE (X : Cx) (e : Expr) (t : TE) : Prop :=
 ∀ (pins : List (Addr × Obj)) (s : Shared) (σ : St) (H : Hp) (Q : VK), Inv X pins σ H s -> t σ H Q -> wpAny (model X.prog X.w) X.A (eval e X.env) (EP X pins σ Q) X.xe s
def PT (X : Cx) (e : Expr) (t : TT) : Prop :=
 ∀ (pins : List (Addr × Obj)) (s : Shared) (σ : St) (H : Hp) (Q : Bool -> Hp -> Prop), Inv X pins σ H s -> t σ H Q -> wpAny (model X.prog X.w) X.A (isTrue e X.env (eval e X.env)) (TP X pins σ Q) X.xe s
def PW (X : Cx) (e : Expr) (t : TT) : Prop :=
 ∀ (whole : Sem Value) (pins : List (Addr × Obj)) (s : Shared) (σ : St) (H : Hp) (Q : Bool -> Hp -> Prop), Inv X pins σ H s -> t σ H Q -> wpAny (model X.prog X.w) X.A (isTrue e X.env whole) (TP X pins σ Q) X.xe s
theorem PW.pt {X : Cx} {e : Expr} {t : TT} (h : PW X e t) : PT X e t := h _
def PA (X : Cx) (es : List Expr) (t : TA) : Prop :=
 ∀ (pos : Pos) (pins : List (Addr × Obj)) (s : Shared) (σ : St) (H : Hp) (Q : List V -> Hp -> Prop), Inv X pins σ H s -> t σ H Q -> wpAny (model X.prog X.w) X.A (spliced (backTo pos (starEach es X.env))) (AP X pins σ Q) X.xe s
def PS (X : Cx) (st : Stmt) (t : TS) : Prop :=
 ∀ (pins : List (Addr × Obj)) (s : Shared) (σ : St) (H : Hp) (D : Ends), Inv X pins σ H s -> t D σ H -> wpAny (model X.prog X.w) X.A (exec st X.env) (SP X pins D) X.xe s
def Ak (X : Cx) (st : List Stmt) (t : TS) : Prop :=
 ∀ (pins : List (Addr × Obj)) (s : Shared) (σ : St) (H : Hp) (D : Ends), Inv X pins σ H s -> t D σ H -> wpAny (model X.prog X.w) X.A (execs st X.env) (SP X pins D) X.xe s
theorem bI {α : Type} {t : Sem α} {Q Q' : α -> Shared -> Prop} {M : Model} {A : Around} {E : Value -> Shared -> Prop} {s : Shared} (h : wpAny M A t Q E s) (hQ : ∀ a s, Q a s -> Q' a s) : wpAny M A t Q' E s := wpAny_mono h hQ fun _ _ x => x
end L2
namespace L2
open PySem Spec PyProof.Rows
section
variable {X : Cx}
def Ca (i : Nat) : TE := fun σ H Q => ∃ v, σ[i]? = some (some v) /\ Q v H
def tC (v : V) : TE := fun _ H Q => Q v H
theorem GQ {i : Nat} {x : Str} {pos : Pos} (hN : X.N[i]? = some x) (hv : Jg X.env.scope x) (hd : (x == ("__debug__" : Str)) = false := by decide) (Eg : (x == ("__classdict__" : Str)) = false := by decide) : PE X (.Name x pos) (Ca i) := by
 intro pins s σ H Q I h
 obtain ⟨v, e, h⟩ := h
 obtain ⟨m, hn, hl⟩ := I.loc
 obtain ⟨u, r, l⟩ := hl i x v hN e hv
 have fin : EP X pins σ Q u s := ⟨v, H, I, r, h⟩
 rcases l with ⟨hk, hm⟩ | ⟨hk, c, hc, zQ⟩
 ·exact wpAny_Name (wpAny_loadName_local I.ok.kind hk hn hm fin) hd
 ·rcases hk with hk | hk
  ·exact wpAny_Name (wpAny_loadName_cell I.ok.kind hk hc zQ fin) hd
  ·exact wpAny_Name (wpAny_loadName_free I.ok.kind hk hc zQ fin Eg) hd
theorem aw {i j pos} : PE X (.Constant (.int i) j pos) (tC (.int i)) := fun _ _ _ H _ I h => wpAny_Constant_int ⟨.int i, H, I.tok _, ⟨_, rfl⟩, h⟩
theorem vC {b j pos} : PE X (.Constant (.bool b) j pos) (tC (.bl b)) := fun _ _ _ H _ I h => Constant_bool ⟨.bl b, H, I, rfl, h⟩
theorem bq {j pos} : PE X (.Constant .none j pos) (tC .bf) := fun _ _ _ H _ I h => Constant_none ⟨.bf, H, I, rfl, h⟩
def Gl (X : Cx) (x : Str) : Prop := X.env.kindOf x = some .globalImplicit
theorem fF {E : Value -> Shared -> Prop} {pins : List (Addr × Obj)} {s : Shared} {σ : St} {H : Hp} {x : Str} {u : Value} {pos : Pos} {Q : Value -> Shared -> Prop} (I : Inv X pins σ H s) (hg : Gl X x) (hm : X.mg x = some u) (h : Q u s)
  (hd : (x == ("__debug__" : Str)) = false := by decide) : wpAny (model X.prog X.w) X.A (eval (.Name x pos) X.env) Q E s :=
 Calls.Name_function_global I.ok.kind hg (Calls.loadGlobal_global (by rw [I.ok.glob]; exact I.mod.glob.keeps I.bk) hm h) hd
theorem qc {E : Value -> Shared -> Prop} {pins : List (Addr × Obj)} {s : Shared} {σ : St} {H : Hp} {x : Str} {u : Value} {pos : Pos} {Q : Value -> Shared -> Prop} (I : Inv X pins σ H s) (hg : Gl X x) (hm : X.mg x = none) (hv : bootBuiltins x = some u) (h : Q u s)
  (hn : x ≠ "__name__" := by decide) (hd : (x == ("__debug__" : Str)) = false := by decide) : wpAny (model X.prog X.w) X.A (eval (.Name x pos) X.env) Q E s := by
 obtain ⟨mb, h1, h2⟩ := I.mod.blt
 exact Calls.Name_function_global I.ok.kind hg (Calls.loadGlobal_builtin (by rw [I.ok.glob]; exact I.mod.glob.keeps I.bk) hm (by rw [I.ok.blt]; exact h1.keeps I.bk) ((h2 x hn).trans hv) h) hd
theorem ax {x : Str} {v : V} {u : Value} {pos : Pos} (hg : Gl X x) (hm : X.mg x = some u) (r : RelV v u) (hd : (x == ("__debug__" : Str)) = false := by decide) : PE X (.Name x pos) (tC v) :=
 fun _ _ _ H _ I h => fF I hg hm ⟨v, H, I, r, h⟩ hd
theorem zC {x : Str} {v : V} {u : Value} {pos : Pos} (hg : Gl X x) (hm : X.mg x = none) (hv : bootBuiltins x = some u) (r : RelV v u) (hn : x ≠ "__name__" := by decide) (hd : (x == ("__debug__" : Str)) = false := by decide) : PE X (.Name x pos) (tC v) :=
 fun _ _ _ H _ I h => qc I hg hm hv ⟨v, H, I, r, h⟩ hn hd
variable {a b : Expr} {ta tb : TE} {pos : Pos}
def PC (X : Cx) (op : CmpOp) (a b : Expr) (t : TE) : Prop :=
 ∀ (pins : List (Addr × Obj)) (s : Shared) (σ : St) (H : Hp) (Q : VK), Inv X pins σ H s -> t σ H Q ->
  wpAny (model X.prog X.w) X.A (eval a X.env) (fun v s₁ => wpAny (model X.prog X.w) X.A (eval b X.env) (fun u s₂ => wpAny (model X.prog X.w) X.A (compareOp op v u) (EP X pins σ Q) X.xe s₂) X.xe s₁) X.xe s
def tB (t : TE) : TT := fun σ H Q => t σ H fun x H1 => ∃ c, x = .bl c /\ Q c H1
theorem C7 {op : CmpOp} {t : TE} (h : PC X op a b t) (h1 : behindInMarks op b = false := by first | exact JS _ (by decide) (by decide) | rfl) : PT X (.Compare a [op] [b] pos) (tB t) := by
 intro pins s σ H Q I hw
 refine wpAny_isTrue_Compare1 (bI (h pins s σ H _ I hw) fun v s1 h1 => bI h1 fun u s2 h2 => bI h2 fun c s3 qq => ?_) h1
 obtain ⟨x, H1, I1, r1, q1⟩ := qq
 obtain ⟨d, rfl, q⟩ := q1
 cases r1
 exact wpAny_truthy_bool ⟨H1, I1, q⟩
theorem bc {e : Expr} {t : TE} (h : PE X e t) (he : ∀ whole, isTrue e X.env whole = (do let v <- whole; standAt e.pos; holding [v] (truthy v)) := by intro _; rfl) : PT X e (tB t) := by
 intro pins s σ H Q I hw
 refine isTrue_plain (bI (h pins s σ H _ I hw) fun v s1 qq => ?_) (he _)
 obtain ⟨x, H1, I1, r1, q1⟩ := qq
 obtain ⟨d, rfl, q⟩ := q1
 cases r1
 exact wpAny_truthy_bool ⟨H1, I1, q⟩
variable {tA Lf : TT} {rest : List Expr}
def LZ (t u : TT) : TT := fun σ H Q => t σ H fun c H1 => if c = true then u σ H1 Q else Q false H1
def P4 (t u : TT) : TT := fun σ H Q => t σ H fun c H1 => if c = true then Q true H1 else u σ H1 Q
def LV (t : TT) : TT := fun σ H Q => t σ H fun c H1 => Q (!c) H1
theorem ll (ha : PT X a tA) : PW X (.BoolOp .And [a] pos) tA := by
 intro wh pins s σ H Q I h
 refine isTrue_and (bI (ha pins s σ H Q I h) fun c s1 e => ?_)
 cases c with
 | true => exact isTrue_and_nil e
 | false => exact e
theorem jV (ha : PT X a tA) : PW X (.BoolOp .Or [a] pos) tA := by
 intro wh pins s σ H Q I h
 refine isTrue_or (bI (ha pins s σ H Q I h) fun c s1 e => ?_)
 cases c with
 | false => exact isTrue_or_nil e
 | true => exact e
theorem pK (ha : PT X a tA) (hb : PW X (.BoolOp .And (b :: rest) pos) Lf) : PW X (.BoolOp .And (a :: b :: rest) pos) (LZ tA Lf) := by
 intro wh pins s σ H Q I h
 refine isTrue_and (bI (ha pins s σ H _ I h) fun c s1 qq => ?_)
 obtain ⟨H1, I1, q1⟩ := qq
 cases c with
 | true => exact hb wh pins s1 σ H1 Q I1 q1
 | false => exact ⟨H1, I1, q1⟩
theorem lj (ha : PT X a tA) (hb : PW X (.BoolOp .Or (b :: rest) pos) Lf) : PW X (.BoolOp .Or (a :: b :: rest) pos) (P4 tA Lf) := by
 intro wh pins s σ H Q I h
 refine isTrue_or (bI (ha pins s σ H _ I h) fun c s1 qq => ?_)
 obtain ⟨H1, I1, q1⟩ := qq
 cases c with
 | true => exact ⟨H1, I1, q1⟩
 | false => exact hb wh pins s1 σ H1 Q I1 q1
theorem c9 (ha : PT X a tA) : PT X (.UnaryOp .Not a pos) (LV tA) := by
 intro pins s σ H Q I h
 exact isTrue_not (ha pins s σ H (fun c H1 => Q (!c) H1) I h)
def J7 (ta tb : TE) : TE := fun σ H Q => ta σ H fun x H1 => ∃ c, x = .bl c /\ if c = true then tb σ H1 Q else Q (.bl false) H1
def Jw (ta : TE) : TE := fun σ H Q => ta σ H fun x H1 => ∃ c, x = .bl c /\ Q (.bl (!c)) H1
theorem GR {op} {t : TE} (h : PE X a t) : PE X (.BoolOp op [a] pos) t := fun pins s σ H Q I hw => BoolOp_one (h pins s σ H Q I hw)
theorem GV (ha : PE X a ta) (hb : PE X (.BoolOp .And (b :: rest) pos) tb) : PE X (.BoolOp .And (a :: b :: rest) pos) (J7 ta tb) := by
 intro pins s σ H Q I h
 refine BoolOp_and (bI (ha pins s σ H _ I h) fun v s1 qq => ?_)
 obtain ⟨x, H1, I1, r1, q1⟩ := qq
 obtain ⟨c, rfl, q1⟩ := q1
 cases r1
 refine wpAny_truthy_bool ?_
 cases c with
 | true => exact hb pins s1 σ H1 Q I1 q1
 | false => exact ⟨.bl false, H1, I1, rfl, q1⟩
theorem GS (ha : PE X a ta) : PE X (.UnaryOp .Not a pos) (Jw ta) := by
 intro pins s σ H Q I h
 refine UnaryOp_ (bI (ha pins s σ H _ I h) fun v s1 qq => ?_)
 obtain ⟨x, H1, I1, r1, q1⟩ := qq
 obtain ⟨c, rfl, q1⟩ := q1
 cases r1
 exact not_of (wpAny_truthy_bool ⟨.bl (!c), H1, I1, rfl, q1⟩)
def P5 (t : TT) (ta tb : TE) : TE := fun σ H Q => t σ H fun c H1 => if c = true then ta σ H1 Q else tb σ H1 Q
theorem gn {c : Expr} (hc : PT X c tA) (ha : PE X a ta) (hb : PE X b tb) : PE X (.IfExp c a b pos) (P5 tA ta tb) := by
 intro pins s σ H Q I h
 refine wpAny_IfExp (bI (hc pins s σ H _ I h) fun d s1 qq => ?_)
 obtain ⟨H1, I1, q1⟩ := qq
 cases d with
 | true => exact ha pins s1 σ H1 Q I1 q1
 | false => exact hb pins s1 σ H1 Q I1 q1
end
end L2
namespace L2
open PySem Spec PyProof.Rows
def eu (K : W.Frag) (H : Hp) (a : Addr) (xs : List V) : Prop :=
 Rd H a (.lst xs) \/
  ∃ (o : Obj) (aF : Array Value) (n : Nat), K.lookup a = some o /\ o.cls = .type "list" /\ o.dict = none /\ o.data = .seq aF n /\ aF.size <= sizeLine /\ Vals xs aF.toList
def ft (K : W.Frag) (H : Hp) (a : Addr) (xs : List V) : Prop :=
 Rd H a (.tup xs) \/
  ∃ (o : Obj) (aF : Array Value) (n : Nat), K.lookup a = some o /\ o.cls = .type "tuple" /\ o.data = .seq aF n /\ aF.size <= sizeLine /\ Vals xs aF.toList
noncomputable def NL : Value -> Option V
 | .none => some .bf
 | .bool b => some (.bl b)
 | .int i _ => some (.int i)
 | .str x _ => some (.str x)
 | .bytes b _ => some (.wZ b)
 | .float b _ => some (.Ie b)
 | .ref a => some (.ref a)
 | .type n => some (.ty n)
 | _ => none
theorem RelV.abs {x : V} {u : Value} (r : RelV x u) : NL u = some x := by
 cases x with
 | bf => cases r; rfl
 | bl _ => cases r; rfl
 | int _ => obtain ⟨t, rfl⟩ := r; rfl
 | str _ => obtain ⟨t, rfl⟩ := r; rfl
 | wZ _ => obtain ⟨t, rfl⟩ := r; rfl
 | Ie _ => obtain ⟨t, rfl⟩ := r; rfl
 | ref _ => cases r; rfl
 | ty _ => cases r; rfl
theorem RelV.inj {x y : V} {u : Value} (r : RelV x u) (q : RelV y u) : x = y := Option.some.inj (r.abs.symm.trans q.abs)
theorem Vals.inj : ∀ {xs ys : List V} {us : List Value}, Vals xs us -> Vals ys us -> xs = ys
 | _, _, _, .nil, .nil => rfl
 | _, _, _, .cons r t, .cons r' t' => by rw [r.inj r', Vals.inj t t']
section
variable {X : Cx} {pins : List (Addr × Obj)} {σ : St} {H : Hp} {s : Shared} {a : Addr} {xs ys : List V}
theorem eu.of {K : W.Frag} (h : H a = some (.lst xs)) : eu K H a xs := .inl (.inl h)
theorem Inv.list (I : Inv X pins σ H s) (h : eu X.K H a xs) : ∃ aF : List Value, Vals xs aF /\ PlainL s.heap a aF.toArray /\ xs.length <= sizeLine := by
 rcases h with h | ⟨o, aF, n, hk, hc, hd, hs, hz, r⟩
 ·obtain ⟨z, aF, n, r, e⟩ := h.ok I.bD
  exact ⟨aF, r, ⟨_, n, e, rfl, rfl, rfl⟩, z⟩
 ·refine ⟨aF.toList, r, ⟨o, n, I.gu a o hk, hc, hd, by simpa using hs⟩, ?_⟩
  have e := r.length
  simp only [Array.length_toList] at e
  omega
theorem Inv.tuple (I : Inv X pins σ H s) (h : ft X.K H a xs) : ∃ aF : List Value, Vals xs aF /\ IsTup s.heap a aF.toArray /\ xs.length <= sizeLine := by
 rcases h with h | ⟨o, aF, n, hk, hc, hs, hz, r⟩
 ·obtain ⟨z, aF, r, p⟩ := h.ok I.bD
  exact ⟨aF, r, p, z⟩
 ·refine ⟨aF.toList, r, ⟨o, I.gu a o hk, hc, n, by simpa using hs⟩, ?_⟩
  have e := r.length
  simp only [Array.length_toList] at e
  omega
theorem Inv.qb (I : Inv X pins σ H s) (h : eu X.K H a xs) (h' : eu X.K H a ys) : xs = ys := by
 obtain ⟨aF, r, ⟨o, n, e, _, _, d⟩, _⟩ := I.list h
 obtain ⟨its', r', ⟨o', n', e', _, _, d'⟩, _⟩ := I.list h'
 rw [e] at e'; cases e'
 rw [d] at d'
 injection d' with d1 _
 have : aF = its' := by simpa using congrArg Array.toList d1
 subst this
 exact r.inj r'
theorem Inv.Av (I : Inv X pins σ H s) (h : ft X.K H a xs) (h' : ft X.K H a ys) : xs = ys := by
 obtain ⟨aF, r, ⟨o, e, _, n, d⟩, _⟩ := I.tuple h
 obtain ⟨its', r', ⟨o', e', _, n', d'⟩, _⟩ := I.tuple h'
 rw [e] at e'; cases e'
 rw [d] at d'
 injection d' with d1 _
 have : aF = its' := by simpa using congrArg Array.toList d1
 subst this
 exact r.inj r'
end
section
variable {X : Cx} {pins : List (Addr × Obj)} {σ : St} {H : Hp} {s : Shared} {E : Value -> Shared -> Prop}
end
section
variable {X : Cx} {st : Stmt} {rest : List Stmt} {t u : TS} {e : Expr} {te : TE} {pos : Pos}
def Jx : TS := fun D σ H => D.nx σ H
def LU (t u : TS) : TS := fun D σ H => t { D with nx := u D } σ H
theorem aG : Ak X [] Jx := fun _ _ σ H _ I h => wpAny_execs_nil ⟨σ, H, I, h⟩
theorem af (h1 : PS X st t) (h2 : Ak X rest u) : Ak X (st :: rest) (LU t u) := by
 intro pins s σ H D I h
 refine wpAny_execs_cons (bI (h1 pins s σ H { D with nx := u D } I h) fun f s1 q => ?_)
 cases f with
 | next =>
  obtain ⟨σ', H', I', q⟩ := q
  exact h2 pins s1 σ' H' D I' q
 | ret v => exact q
 | brk => exact q
 | cont => exact q
theorem ae (h1 : PS X st t) : Ak X [st] t := by
 intro pins s σ H D I h
 refine wpAny_execs_cons (bI (h1 pins s σ H D I h) fun f s1 q => ?_)
 cases f with
 | next => exact wpAny_execs_nil q
 | ret v => exact q
 | brk => exact q
 | cont => exact q
theorem Inv.quiet {pins : List (Addr × Obj)} {σ : St} {H : Hp} {s : Shared} (I : Inv X pins σ H s) : interactive X.env = false := by simp [interactive, I.ok.kind]
def J5 (te : TE) : TS := fun D σ H => te σ H fun _ H1 => D.nx σ H1
theorem a8 (he : PE X e te) (hs : swapsWith e none pos.line X.env = pure false := by rfl) : PS X (.Expr e pos) (J5 te) := by
 intro pins s σ H D I h
 exact wpAny_Expr_any (bI (he pins s σ H _ I h) fun v s1 ⟨x, H1, I1, r1, q1⟩ => ⟨σ, H1, I1, q1⟩) I.quiet hs
def G3 (te : TE) : TS := fun D σ H => te σ H D.rt
theorem a6 (he : PE X e te) : PS X (.Return (some e) pos) (G3 te) := by
 intro pins s σ H D I h
 exact wpAny_Return_some (bI (he pins s σ H _ I h) fun v s1 ⟨x, H1, I1, r1, q1⟩ => ⟨x, σ, H1, I1, r1, q1⟩)
def Ju : TS := fun D _ H => D.rt .bf H
theorem E7 : PS X (.Return none pos) Ju := fun _ _ σ H _ I h => wpAny_Return_none ⟨.bf, σ, H, I, rfl, h⟩
def LW (c : TT) (t u : TS) : TS := fun D σ H => c σ H fun b H1 => if b = true then t D σ H1 else u D σ H1
theorem aL {c : Expr} {a b : List Stmt} {tc : TT} (hc : PT X c tc) (ha : Ak X a t) (hb : Ak X b u) : PS X (.If c a b pos) (LW tc t u) := by
 intro pins s σ H D I h
 refine wpAny_If (bI (hc pins s σ H _ I h) fun d s1 qq => ?_)
 obtain ⟨H1, I1, q1⟩ := qq
 cases d with
 | true => exact ha pins s1 σ H1 D I1 q1
 | false => exact hb pins s1 σ H1 D I1 q1
def G4 : TS := fun _ _ _ => False
end
abbrev TG := V -> St -> Hp -> (St -> Hp -> Prop) -> Prop
abbrev IA := List V -> St -> Hp -> (St -> Hp -> Prop) -> Prop
def PG (X : Cx) (target : Expr) (t : TG) : Prop :=
 ∀ (pins : List (Addr × Obj)) (s : Shared) (σ : St) (H : Hp) (v : V) (u : Value) (Q : St -> Hp -> Prop), Inv X pins σ H s -> RelV v u -> t v σ H Q ->
  wpAny (model X.prog X.w) X.A (assign target X.env u) (fun _ s' => ∃ σ' H', Inv X pins σ' H' s' /\ Q σ' H') X.xe s
def LL (X : Cx) (ts : List Expr) (t : IA) : Prop :=
 ∀ (pins : List (Addr × Obj)) (s : Shared) (σ : St) (H : Hp) (vs : List V) (us : List Value) (Q : St -> Hp -> Prop), Inv X pins σ H s -> Vals vs us -> t vs σ H Q ->
  wpAny (model X.prog X.w) X.A (assignInOrder ((assignEach ts X.env).map (·.2)) us) (fun _ s' => ∃ σ' H', Inv X pins σ' H' s' /\ Q σ' H') X.xe s
abbrev Iz := V -> V -> V -> Hp -> (Hp -> Prop) -> Prop
def KP (X : Cx) (t : Iz) : Prop :=
 ∀ (pins : List (Addr × Obj)) (s : Shared) (σ : St) (H : Hp) (o i v : V) (ov iv u : Value) (Q : Hp -> Prop), Inv X pins σ H s -> RelV o ov -> RelV i iv -> RelV v u -> t o i v H Q ->
  wpAny (model X.prog X.w) X.A (setItem ov iv u) (fun _ s' => ∃ H', Inv X pins σ H' s' /\ Q H') X.xe s
abbrev LJ := V -> V -> Hp -> VK -> Prop
def Pk (X : Cx) (op : Operator) (t : LJ) : Prop :=
 ∀ (pins : List (Addr × Obj)) (s : Shared) (σ : St) (H : Hp) (x y : V) (v u : Value) (Q : VK), Inv X pins σ H s -> RelV x v -> RelV y u -> t x y H Q ->
  wpAny (model X.prog X.w) X.A (inplaceOp op v u) (EP X pins σ Q) X.xe s
section
variable {X : Cx} {pos : Pos}
def Ds (i : Nat) : TG := fun v σ H Q => Q (σ.set i (some v)) H
theorem dA {i : Nat} {x : Str} (hN : X.N.Nodup) (hi : X.N[i]? = some x) (hx : Loc X.env.scope x) (hf : X.fn x = true \/ X.env.scope.names.lookup x = some .local := by first | exact .inl rfl | exact .inr rfl | assumption) : PG X (.Name x pos) (Ds i) := by
 intro pins s σ H v u Q I r h
 exact wpAny_assign_Name (ph I hN hi hx r (fun s' I' => ⟨_, H, I', h⟩) hf)
def N1 : IA := fun vs σ H Q => vs = [] /\ Q σ H
def K2 (t : TG) (u : IA) : IA := fun vs σ H Q => ∃ v r, vs = v :: r /\ t v σ H fun σ' H' => u r σ' H' Q
theorem EC : LL X [] N1 := by
 intro pins s σ H vs us Q I r h
 obtain ⟨e, h⟩ := h
 subst e
 cases r
 exact assignInOrder_nil ⟨σ, H, I, h⟩
theorem vB {e : Expr} {es : List Expr} {t : TG} {u : IA} (h1 : PG X e t) (h2 : LL X es u)
  (hs : (assignEach (e :: es) X.env).map (·.2) = assign e X.env :: (assignEach es X.env).map (·.2) := by rfl) : LL X (e :: es) (K2 t u) := by
 intro pins s σ H vs us Q I r h
 obtain ⟨v, vr, e1, h⟩ := h
 subst e1
 cases r with
 | cons r rr =>
  rw [hs]
  refine assignInOrder_cons (bI (h1 pins s σ H _ _ _ I r h) fun _ s1 qq => ?_)
  obtain ⟨σ1, H1, I1, q1⟩ := qq
  exact h2 pins s1 σ1 H1 _ _ Q I1 rr q1
def Nz (K : W.Frag) (n : Nat) (t : IA) : TG := fun v σ H Q => ∃ a xs, v = .ref a /\ ft K H a xs /\ xs.length = n /\ t xs σ H Q
theorem GP {es : List Expr} {k : Nat} {t : IA} {n : Nat} (hc : X.calm = true) (h : LL X es t)
  (hn : (assignEach es X.env).length = n := by rfl) (Q0 : (assignEach es X.env).findIdx? (·.1) = none := by rfl) : PG X (.Tuple es k pos) (Nz X.K n t) := by
 intro pins s σ H v u Q I r hw
 obtain ⟨a, xs, e1, hq, hl, hw⟩ := hw
 subst e1
 cases r
 obtain ⟨aF, rv, ht, hz⟩ := I.tuple hq
 refine assign_Tuple_tuple (I.ok.hd hc) ht (by simp [hn, <- hl, rv.length]) Q0 fun h' hx => ?_
 have I1 : Inv X pins σ H { s with heap := h' } := I.kept (t' := s.toks) fun b o e => hx b o (Nat.ne_of_lt (Heap.lt_size e)) e
 exact h pins _ σ H xs _ Q I1 (by simpa using rv) hw
def N0 (to ti : TE) (t : Iz) : TG := fun v σ H Q => to σ H fun o H1 => ti σ H1 fun i H2 => t o i v H2 fun H3 => Q σ H3
theorem uc {o i : Expr} {to ti : TE} {t : Iz} (ho : PE X o to) (hi : PE X i ti) (hs : KP X t)
  (ha : ∀ v, assign (.Subscript o i pos) X.env v = (do
   let ov <- holding [v] (eval o X.env)
   let iv <- holding [v, ov] (eval i X.env)
   standAt pos
   holding [v, ov, iv] (setItem ov iv v)
   release [v, ov, iv] []) := by intro _; rfl) : PG X (.Subscript o i pos) (N0 to ti t) := by
 intro pins s σ H v u Q I r h
 rw [ha]
 refine wpAny_bind (wpAny_holding (bI (ho pins s σ H _ I h) fun ov s1 qq => ?_))
 obtain ⟨x, H1, I1, r1, q1⟩ := qq
 refine wpAny_bind (wpAny_holding (bI (hi pins s1 σ H1 _ I1 q1) fun iv s2 qq => ?_))
 obtain ⟨y, H2, I2, r2, q2⟩ := qq
 refine wpAny_bind (wpAny_standAt (wpAny_bind (wpAny_holding (bI (hs pins s2 σ H2 x y v ov iv u _ I2 r1 r2 r q2) fun _ s3 qq => ?_))))
 obtain ⟨H3, I3, q3⟩ := qq
 exact wpAny_release ⟨σ, H3, I3, q3⟩
def G6 (te : TE) (g : TG) : TS := fun D σ H => te σ H fun x H1 => g x σ H1 D.nx
theorem tX {tg e : Expr} {te : TE} {g : TG} (he : PE X e te) (hg : PG X tg g) (hs : swapsWithSole [tg] e pos.line X.env = pure false := by rfl) (hw : swappedStores [tg] e X.env = pure none := by rfl)
  (h1 : (assignEach [tg] X.env).map (·.2) = [assign tg X.env] := by rfl) : PS X (.Assign [tg] e pos) (G6 te g) := by
 intro pins s σ H D I h
 refine wpAny_Assign_stores (bI (he pins s σ H _ I h) fun v s1 qq => ?_) hs hw
 obtain ⟨x, H1, I1, r1, q1⟩ := qq
 rw [h1]
 exact bI (hg pins s1 σ H1 x v _ I1 r1 q1) fun _ s2 q => q
theorem aJ {i : Nat} {x : Str} {e : Expr} {te : TE} {pos' : Pos} (hN : X.N.Nodup) (hi : X.N[i]? = some x) (hx : Loc X.env.scope x) (he : PE X e te) (hs : swapsWith e (some (.Name x pos')) pos.line X.env = pure false := by rfl) (hf : X.fn x = true \/ X.env.scope.names.lookup x = some .local := by first | exact .inl rfl | exact .inr rfl | assumption) :
  PS X (.Assign [.Name x pos'] e pos) (G6 te (Ds i)) := by
 intro pins s σ H D I h
 refine wpAny_Assign_Name (bI (he pins s σ H _ I h) fun v s1 qq => ?_) hs
 obtain ⟨y, H1, I1, r1, q1⟩ := qq
 exact ph I1 hN hi hx r1 (fun s2 I2 => ⟨_, H1, I2, q1⟩) hf
def LY (i : Nat) (te : TE) (ti : LJ) : TS := fun D σ H => ∃ x, σ[i]? = some (some x) /\ te σ H fun y H1 => ti x y H1 fun z H2 => D.nx (σ.set i (some z)) H2
theorem xI {i : Nat} {x : Str} {e : Expr} {te : TE} {op : Operator} {ti : LJ} {pos' : Pos} (hN : X.N.Nodup) (hi : X.N[i]? = some x) (hx : Loc X.env.scope x) (he : PE X e te) (ho : Pk X op ti) (hf : X.fn x = true \/ X.env.scope.names.lookup x = some .local := by first | exact .inl rfl | exact .inr rfl | assumption) :
  PS X (.AugAssign (.Name x pos') op e pos) (LY i te ti) := by
 intro pins s σ H D I h
 obtain ⟨v, e1, h⟩ := h
 obtain ⟨m, hn, hl⟩ := I.loc
 have Pw : Jg X.env.scope x := by rcases hx with k | k; exact .inl k; exact .inr (.inl k)
 obtain ⟨u, r, l⟩ := hl i x v hi e1 Pw
 refine wpAny_AugAssign_Name ?_
 have go : wpAny (model X.prog X.w) X.A (eval e X.env) (fun w s₂ => wpAny (model X.prog X.w) X.A (inplaceOp op u w) (fun r s₃ => wpAny (model X.prog X.w) X.A (storeName X.env x r) (fun _ => SP X pins D .next) X.xe s₃) X.xe s₂) X.xe s := by
  refine bI (he pins s σ H _ I h) fun w s1 qq => ?_
  obtain ⟨y, H1, I1, r1, q1⟩ := qq
  refine bI (ho pins s1 σ H1 v y u w _ I1 r r1 q1) fun z s2 qq => ?_
  obtain ⟨zv, H2, I2, r2, q2⟩ := qq
  exact ph I2 hN hi hx r2 (fun s3 I3 => ⟨_, H2, I3, q2⟩) hf
 rcases l with ⟨hk, hm⟩ | ⟨hk, c, hc, zQ⟩
 ·exact wpAny_loadName_local I.ok.kind hk hn hm go
 ·rcases hk with hk | hk
  ·exact wpAny_loadName_cell I.ok.kind hk hc zQ go
  ·rcases hx with k | k
   ·have : X.env.scope.names.lookup x = some .free := hk
    rw [k] at this; cases this
   ·have : X.env.scope.names.lookup x = some .free := hk
    rw [k] at this; cases this
def Qt (f : Int -> Int -> Int) : LJ := fun x y H Q => ∃ i j, x = .int i /\ y = .int j /\ Q (.int (f i j)) H
theorem yh : Pk X .Add (Qt fun i j => i + j) := by
 intro pins s σ H x y v u Q I r1 r2 h
 obtain ⟨i, j, e1, e2, q⟩ := h
 subst e1; subst e2
 obtain ⟨t, rfl⟩ := r1
 obtain ⟨t', rfl⟩ := r2
 exact iadd_int ⟨.int _, H, I.tok _, ⟨_, rfl⟩, q⟩
end
section
variable {X : Cx} {pos : Pos}
def G2 (c : TT) (tb : TS) : TS := fun D σ H => ∃ W : Nat -> St -> Hp -> Prop, (∃ m, W m σ H) /\ ∀ m σ H, W m σ H ->
 c σ H fun b H1 => if b = true then ∃ N : St -> Hp -> Prop, (∀ σ' H', N σ' H' -> ∃ m', m' < m /\ W m' σ' H') /\ tb { D with nx := N, ct := N, bk := D.nx } σ H1 else D.nx σ H1
theorem d8 {c : Expr} {body : List Stmt} {tc : TT} {tb : TS} (hp : PassesOwn (model X.prog X.w) X.A X.env X.xe) (hc : PT X c tc) (hb : Ak X body tb) : PS X (.While c body [] pos) (G2 tc tb) := by
 intro pins s σ H D I h
 obtain ⟨W, ⟨m0, w0⟩, turn⟩ := h
 refine wpAny_While (codeAny_whileLoop (fun n s' => ∃ σ' H', Inv X pins σ' H' s' /\ W n σ' H') ?_ m0 ⟨σ, H, I, w0⟩)
 rintro n s1 ⟨σ1, H1, I1, w1⟩
 refine wpAny_passesOwn hp (bI (hc pins s1 σ1 H1 _ I1 (turn n σ1 H1 w1)) fun b s2 qq => ?_)
 obtain ⟨H2, I2, q2⟩ := qq
 cases b with
 | true =>
  obtain ⟨N, hN, q2⟩ := q2
  rw [if_pos rfl]
  refine wpAny_passesOwn hp (bI (hb pins s2 σ1 H2 _ I2 q2) fun f s3 q3 => ?_)
  cases f with
  | next =>
   obtain ⟨σ3, H3, I3, n3⟩ := q3
   obtain ⟨m', hm, w3⟩ := hN σ3 H3 n3
   exact ⟨m', hm, σ3, H3, I3, w3⟩
  | cont =>
   obtain ⟨σ3, H3, I3, n3⟩ := q3
   obtain ⟨m', hm, w3⟩ := hN σ3 H3 n3
   exact ⟨m', hm, σ3, H3, I3, w3⟩
  | brk => exact q3
  | ret v => exact q3
 | false =>
  rw [if_neg Bool.false_ne_true]
  exact wpAny_execs_nil ⟨σ1, H2, I2, q2⟩
end
structure It where
 go : Nat -> Hp -> Prop
 BP : Nat -> Hp -> V -> Hp -> Prop
 stop : Nat -> Hp -> Prop
def qC (X : Cx) (pins : List (Addr × Obj)) (H : Hp) (b : Addr) : Prop :=
 H b = none /\ b ≠ X.env.locals /\ b ∉ X.fs /\ (b ∈ X.ex \/ X.s_0.heap.objs.size <= b) /\ (∀ x c, X.env.cells.lookup x = some c -> c ≠ b) /\ ∀ p ∈ X.pn ++ pins, p.1 ≠ b
theorem Inv.Dv {X : Cx} {pins : List (Addr × Obj)} {σ : St} {H H' : Hp} {s : Shared} {b : Addr} (I : Inv X pins σ H s) (hb : s.heap.objs.size <= b) (hn : H' b = none) : qC X pins H' b := by
 refine ⟨hn, Nat.ne_of_gt (Nat.lt_of_lt_of_le I.lt hb), I.M4 hb, .inr (Nat.le_trans I.sz hb), fun x c e z => ?_, fun p hp z => ?_⟩
 ·obtain ⟨v, q⟩ := I.cell x c e
  exact absurd (Nat.lt_of_lt_of_le q.lt (by rw [z]; exact hb)) (Nat.lt_irrefl _)
 ·exact absurd (Nat.lt_of_lt_of_le (Heap.lt_size (I.pin p hp).1) (by rw [z]; exact hb)) (Nat.lt_irrefl _)
structure Turn (P : Program) (w : World) (K : W.Frag) (tg : Expr) (J : It) (fp : List Addr) (it : Addr) (tn : Nat -> Heap -> Prop) : Prop where
 mem : it ∈ fp
 obj : ∀ i h, tn i h -> ∀ b ∈ fp, ∃ o, h.get? b = some o /\ ∀ v, o.data ≠ .cell v
 keep : ∀ i h h', tn i h -> (∀ b ∈ fp, ∀ o, h.get? b = some o -> h'.get? b = some o) -> tn i h'
 item : ∀ (X : Cx), X.prog = P -> X.w = w -> X.K = K -> X.calm = true -> ∀ (i : Nat) (pins : List (Addr × Obj)) (s : Shared) (σ : St) (H : Hp) (E : Value -> Shared -> Prop), Inv X pins σ H s -> (∀ b ∈ fp, qC X pins H b) -> tn i s.heap -> J.go i H ->
  wpAny (model P w) X.A (pyNext (.ref it)) (fun r s1 => ∃ u, r = some u /\
   wpAny (model P w) X.A (letOwnedTupleGo tg (.ref it) u) (fun _ s2 => ∃ x H', Inv X pins σ H' s2 /\ RelV x u /\ J.BP i H x H' /\ tn (i + 1) s2.heap /\ ∀ b ∈ fp, H' b = none) E s1) E s
 done : ∀ (X : Cx), X.prog = P -> X.w = w -> X.K = K -> X.calm = true -> ∀ (i : Nat) (pins : List (Addr × Obj)) (s : Shared) (σ : St) (H : Hp) (E : Value -> Shared -> Prop), Inv X pins σ H s -> (∀ b ∈ fp, qC X pins H b) -> tn i s.heap -> J.stop i H ->
  wpAny (model P w) X.A (pyNext (.ref it)) (fun r s1 => r = none /\ Inv X pins σ H s1) E s
 self : ∀ (A : Around) (i : Nat) (s : Shared) (Q : Value -> Shared -> Prop) (E : Value -> Shared -> Prop), tn i s.heap -> Q (.ref it) s -> wpAny (model P w) A (pyIter (.ref it)) Q E s
abbrev TI := St -> Hp -> (It -> Hp -> Prop) -> Prop
def Pl (X : Cx) (pins : List (Addr × Obj)) (σ : St) (tg : Expr) (R : It -> Hp -> Prop) (MI : Value) (s2 : Shared) : Prop :=
 ∃ (it : Addr) (fp : List Addr) (tn : Nat -> Heap -> Prop) (J : It) (H' : Hp), MI = .ref it /\ Inv X pins σ H' s2 /\ Turn X.prog X.w X.K tg J fp it tn /\ tn 0 s2.heap /\ (∀ b ∈ fp, qC X pins H' b) /\ R J H'
def PI (X : Cx) (tg iter : Expr) (wi : TI) : Prop :=
 ∀ (pins : List (Addr × Obj)) (s : Shared) (σ : St) (H : Hp) (R : It -> Hp -> Prop), Inv X pins σ H s -> wi σ H R ->
  wpAny (model X.prog X.w) X.A (eval iter X.env) (fun v s1 => wpAny (model X.prog X.w) X.A (pyIter v) (Pl X pins σ tg R) X.xe s1) X.xe s
theorem wo {M : Model} {A : Around} {E : Value -> Shared -> Prop} {s : Shared} {tg : Expr} {it : Addr} {u : Value} {o : Obj} {n : String} {vs : Array Value} {Q : Unit -> Shared -> Prop} (ho : s.heap.get? it = some o) (hc : o.cls = .type n) (hd : o.data = .fields vs)
  (hn : ["enumerate", "zip", "dict_itemiterator", "dict_reverseitemiterator", "odict_iterator", "itertools.zip_longest", "itertools.pairwise"].contains n = false) (hQ : Q () s) : wpAny M A (letOwnedTupleGo tg (.ref it) u) Q E s := by
 unfold letOwnedTupleGo
 cases tg <;> first
  | exact wpAny_pure hQ
  | (cases u <;> first
    | exact wpAny_pure hQ
    | (refine wpAny_bind (wpAny_load ho ?_)
       rw [hc, hd]
       show wpAny M A (if (["enumerate", "zip", "dict_itemiterator", "dict_reverseitemiterator", "odict_iterator", "itertools.zip_longest", "itertools.pairwise"].contains n && vs[0]? == some (rawInt _)) = true then _ else _) Q E s
       rw [if_neg (by intro h; rw [hn, Bool.false_and] at h; cases h)]
       exact wpAny_pure hQ))
def Gz (K : W.Frag) (a : Addr) : It :=
 ⟨fun i H => ∃ xs x, eu K H a xs /\ xs[i]? = some x, fun i H x H' => H' = H /\ ∀ xs, eu K H a xs -> xs[i]? = some x, fun i H => ∃ xs, eu K H a xs /\ xs.length <= i⟩
def Gy (K : W.Frag) (a : Addr) : It :=
 ⟨fun i H => ∃ xs x, ft K H a xs /\ xs[i]? = some x, fun i H x H' => H' = H /\ ∀ xs, ft K H a xs -> xs[i]? = some x, fun i H => ∃ xs, ft K H a xs /\ xs.length <= i⟩
theorem As {P : Program} {w : World} {K : W.Frag} {tg : Expr} (a it : Addr) : Turn P w K tg (Gz K a) [it] it (fun i h => h.IsListIter it a i) where
 mem := by simp
 obj := fun i h st b hb => by
  have e : b = it := by simpa using hb
  subst e
  obtain ⟨o, e, c, d⟩ := st
  exact ⟨o, e, fun v z => by rw [d] at z; cases z⟩
 keep := fun i h h' st k => st.at fun o e => k it (by simp) o e
 item := by
  intro X hP hw hK hc i pins s σ H E I hf st hg
  subst hP hw hK
  obtain ⟨xs, x, hq, hx⟩ := hg
  obtain ⟨aF, rv, p, hz⟩ := I.list hq
  obtain ⟨u, hu, ru⟩ := rv.get hx
  obtain ⟨f0, f1, f2, f3, f4, f5⟩ := hf it (by simp)
  refine wpAny_pyNext_list_item st p.isList (x := u) (by simpa using hu) fun h' gz sb => ?_
  have I1 : Inv X pins σ H { s with heap := h' } := I.turned (t' := s.toks) (fun b o hb e => (sb.2 b hb).trans e) f0 f1 f3 f4 f5
  obtain ⟨o, e, c, d⟩ := id gz
  exact ⟨u, rfl, wo (s := { s with heap := h' }) e c d (by decide) ⟨x, H, I1, ru, ⟨rfl, fun ys hy => by rw [I.qb hy hq]; exact hx⟩, gz, fun b hb => (hf b hb).1⟩⟩
 done := by
  intro X hP hw hK hc i pins s σ H E I hf st hg
  subst hP hw hK
  obtain ⟨xs, hq, hx⟩ := hg
  obtain ⟨aF, rv, p, hz⟩ := I.list hq
  obtain ⟨f0, f1, f2, f3, f4, f5⟩ := hf it (by simp)
  have hl := rv.length
  exact wpAny_pyNext_list_end (I.ok.hd hc) st p.isList (by simp; omega) fun h' eb => ⟨rfl, I.turned (t' := s.toks) (fun b o hb e => eb b o hb e) f0 f1 f3 f4 f5⟩
 self := fun _ _ _ _ _ st h => wpAny_pyIter_listiter st h
theorem xj {P : Program} {w : World} {K : W.Frag} {tg : Expr} (a it : Addr) : Turn P w K tg (Gy K a) [it] it (fun i h => h.IsTupleIter it a i) where
 mem := by simp
 obj := fun i h st b hb => by
  have e : b = it := by simpa using hb
  subst e
  obtain ⟨o, e, c, d⟩ := st
  exact ⟨o, e, fun v z => by rw [d] at z; cases z⟩
 keep := fun i h h' st k => st.at fun o e => k it (by simp) o e
 item := by
  intro X hP hw hK hc i pins s σ H E I hf st hg
  subst hP hw hK
  obtain ⟨xs, x, hq, hx⟩ := hg
  obtain ⟨aF, rv, p, hz⟩ := I.tuple hq
  obtain ⟨u, hu, ru⟩ := rv.get hx
  obtain ⟨f0, f1, f2, f3, f4, f5⟩ := hf it (by simp)
  refine wpAny_pyNext_tuple_item st (show s.heap.IsTuple a aF.toArray from p) (x := u) (by simpa using hu) fun h' gz sb => ?_
  have I1 : Inv X pins σ H { s with heap := h' } := I.turned (t' := s.toks) (fun b o hb e => (sb.2 b hb).trans e) f0 f1 f3 f4 f5
  obtain ⟨o, e, c, d⟩ := id gz
  exact ⟨u, rfl, wo (s := { s with heap := h' }) e c d (by decide) ⟨x, H, I1, ru, ⟨rfl, fun ys hy => by rw [I.Av hy hq]; exact hx⟩, gz, fun b hb => (hf b hb).1⟩⟩
 done := by
  intro X hP hw hK hc i pins s σ H E I hf st hg
  subst hP hw hK
  obtain ⟨xs, hq, hx⟩ := hg
  obtain ⟨aF, rv, p, hz⟩ := I.tuple hq
  obtain ⟨f0, f1, f2, f3, f4, f5⟩ := hf it (by simp)
  have hl := rv.length
  exact wpAny_pyNext_tuple_end (I.ok.hd hc) st (show s.heap.IsTuple a aF.toArray from p) (by simp; omega) fun h' eb => ⟨rfl, I.turned (t' := s.toks) (fun b o hb e => eb b o hb e) f0 f1 f3 f4 f5⟩
 self := fun _ _ _ _ _ st h => wpAny_pyIter_tupleiter st h
end L2
namespace L2
open PySem Spec PyProof.Rows
section
variable {X : Cx} {tg : Expr}
def Kk (K : W.Frag) (tl : TE) : TI := fun σ H R => tl σ H fun x H1 => ∃ a, x = .ref a /\ (∃ xs, eu K H1 a xs) /\ R (Gz K a) H1
def MJ (K : W.Frag) (tl : TE) : TI := fun σ H R => tl σ H fun x H1 => ∃ a, x = .ref a /\ (∃ xs, ft K H1 a xs) /\ R (Gy K a) H1
theorem ub {l : Expr} {tl : TE} (hl : PE X l tl) : PI X tg l (Kk X.K tl) := by
 intro pins s σ H R I h
 refine bI (hl pins s σ H _ I h) fun v s1 qq => ?_
 obtain ⟨x, H1, I1, r1, q1⟩ := qq
 obtain ⟨a, e, ⟨xs, hq⟩, q⟩ := q1
 subst e
 cases r1
 obtain ⟨aF, rv, p, hz⟩ := I1.list hq
 refine wpAny_pyIter_list p.isList ?_
 refine ⟨s1.heap.objs.size, [s1.heap.objs.size], _, _, H1, rfl, I1.kept (t' := s1.toks) fun b o e => Heap.get?_push_of_some _ e, As a _, ⟨_, Heap.get?_push_size _ rfl, rfl, rfl⟩, fun b hb => ?_, q⟩
 have e : b = s1.heap.objs.size := by simpa using hb
 subst e
 exact I1.Dv (zA0 _) (I1.bD.fresh (zA0 _))
theorem xK {l : Expr} {tl : TE} (hl : PE X l tl) : PI X tg l (MJ X.K tl) := by
 intro pins s σ H R I h
 refine bI (hl pins s σ H _ I h) fun v s1 qq => ?_
 obtain ⟨x, H1, I1, r1, q1⟩ := qq
 obtain ⟨a, e, ⟨xs, hq⟩, q⟩ := q1
 subst e
 cases r1
 obtain ⟨aF, rv, p, hz⟩ := I1.tuple hq
 refine wpAny_pyIter_tuple (show s1.heap.IsTuple a aF.toArray from p) ?_
 refine ⟨s1.heap.objs.size, [s1.heap.objs.size], _, _, H1, rfl, I1.kept (t' := s1.toks) fun b o e => Heap.get?_push_of_some _ e, xj a _, ⟨_, Heap.get?_push_size _ rfl, rfl, rfl⟩, fun b hb => ?_, q⟩
 have e : b = s1.heap.objs.size := by simpa using hb
 subst e
 exact I1.Dv (zA0 _) (I1.bD.fresh (zA0 _))
def LX (wi : TI) (g : TG) (tb : TS) : TS := fun D σ H => wi σ H fun J H1 => ∃ W : Nat -> Nat -> St -> Hp -> Prop, (∃ m, W 0 m σ H1) /\ ∀ i m σ H, W i m σ H ->
 (J.stop i H /\ D.nx σ H) \/ (J.go i H /\ ∃ N : St -> Hp -> Prop, (∀ σ' H', N σ' H' -> ∃ m', m' < m /\ W (i + 1) m' σ' H') /\ ∀ x H', J.BP i H x H' -> g x σ H' fun σ2 H2 => tb { D with nx := N, ct := N, bk := D.nx } σ2 H2)
def pL (fp : List Addr) (h : Heap) : List (Addr × Obj) := fp.filterMap fun b => (h.get? b).map fun o => (b, o)
theorem kh {fp : List Addr} {h : Heap} {b : Addr} {o : Obj} (hb : b ∈ fp) (e : h.get? b = some o) : (b, o) ∈ pL fp h := List.mem_filterMap.mpr ⟨b, hb, by rw [e]; rfl⟩
theorem AJ {fp : List Addr} {h : Heap} {p : Addr × Obj} (hp : p ∈ pL fp h) : p.1 ∈ fp /\ h.get? p.1 = some p.2 := by
 obtain ⟨b, hb, e⟩ := List.mem_filterMap.mp hp
 cases q : h.get? b with
 | none => rw [q] at e; cases e
 | some o =>
  rw [q] at e
  have e' : (b, o) = p := Option.some.inj e
  subst e'
  exact ⟨hb, q⟩
theorem Inv.pinned {pins : List (Addr × Obj)} {σ : St} {H : Hp} {s : Shared} {fp : List Addr} (I : Inv X pins σ H s) (hf : ∀ b ∈ fp, qC X pins H b) (ho : ∀ b ∈ fp, ∃ o, s.heap.get? b = some o /\ ∀ v, o.data ≠ .cell v) : Inv X (pins ++ pL fp s.heap) σ H s :=
 I.tZ fun p hp => (List.mem_append.mp hp).elim (fun z => I.pin p (List.mem_append_right _ z)) fun z => by
  obtain ⟨hb, e⟩ := AJ z
  obtain ⟨f0, f1, f2, _⟩ := hf p.1 hb
  obtain ⟨o, e', d⟩ := ho p.1 hb
  rw [e] at e'; cases e'
  exact ⟨e, f0, f1, f2, d⟩
theorem Inv.kH {pins pl : List (Addr × Obj)} {σ : St} {H : Hp} {s : Shared} (I : Inv X (pins ++ pl) σ H s) : Inv X pins σ H s := I.tZ fun p hp => I.pin p (List.mem_append_right _ (List.mem_append_left _ hp))
theorem m6 {iter : Expr} {body : List Stmt} {wi : TI} {g : TG} {tb : TS} {pos : Pos} (hp : PassesOwn (model X.prog X.w) X.A X.env X.xe) (hc : X.calm = true) (hi : PI X tg iter wi) (hg : PG X tg g) (hb : Ak X body tb)
  (hs : ∀ x, foldedSetIterable iter X.env x = pure x := by intro _; rfl) : PS X (.For tg iter body [] pos) (LX wi g tb) := by
 intro pins s σ H D I h
 refine wpAny_For (bI (hi pins s σ H _ I h) fun v s1 h1 => bI h1 fun MI s2 h2 => ?_) hs
 obtain ⟨it, fp, tn, J, H2, e, I2, T, jl, f2, W, ⟨m0, w0⟩, turn⟩ := h2
 subst e
 have stat : ∀ {H' : Hp}, (∀ b ∈ fp, H' b = none) -> ∀ b ∈ fp, qC X pins H' b := fun hn b hb => ⟨hn b hb, (f2 b hb).2⟩
 refine codeAny_forLoop_any (fun n s' => ∃ i σ' H', Inv X pins σ' H' s' /\ tn i s'.heap /\ (∀ b ∈ fp, H' b = none) /\ W i n σ' H') ?_ m0 ⟨0, σ, H2, I2, jl, fun b hb => (f2 b hb).1, w0⟩
 rintro n s3 ⟨i, σ3, H3, I3, Lg, Pa, w3⟩
 rcases turn i n σ3 H3 w3 with ⟨stop, qn⟩ | ⟨go, N, hN, step⟩
 ·refine wpAny_passesOwn hp (bI (T.done X rfl rfl rfl hc i pins s3 σ3 H3 X.xe I3 (stat Pa) Lg stop) fun r s4 qq => ?_)
  obtain ⟨hr, I4⟩ := qq
  subst hr
  exact wpAny_execs_nil ⟨σ3, H3, I4, qn⟩
 ·refine wpAny_passesOwn hp (bI (T.item X rfl rfl rfl hc i pins s3 σ3 H3 X.xe I3 (stat Pa) Lg go) fun r s4 qq => ?_)
  obtain ⟨u, hr, h4⟩ := qq
  subst hr
  refine wpAny_passesOwn hp (bI h4 fun _ s5 qq => ?_)
  obtain ⟨x, H5, I5, r5, y5, IJ, QZ⟩ := qq
  have Ry := I5.pinned (stat QZ) (T.obj _ _ IJ)
  refine wpAny_passesOwn hp (bI (hg _ s5 σ3 H5 x u _ Ry r5 (step x H5 y5)) fun _ s6 qq => ?_)
  obtain ⟨σ6, H6, I6, q6⟩ := qq
  refine wpAny_passesOwn hp (bI (hb _ s6 σ6 H6 _ I6 q6) fun f s7 q7 => ?_)
  have again : ∀ {σ7 : St} {H7 : Hp}, Inv X (pins ++ pL fp s5.heap) σ7 H7 s7 -> N σ7 H7 -> ∃ m, m < n /\ ∃ i σ' H', Inv X pins σ' H' s7 /\ tn i s7.heap /\ (∀ b ∈ fp, H' b = none) /\ W i m σ' H' := fun {σ7 H7} I7 n7 => by
   obtain ⟨m', hm, w7⟩ := hN σ7 H7 n7
   refine ⟨m', hm, i + 1, σ7, H7, I7.kH, T.keep _ _ _ IJ fun b hb o e => (I7.pin (b, o) (List.mem_append_right _ (List.mem_append_right _ (kh hb e)))).1, fun b hb => ?_, w7⟩
   obtain ⟨o, e, d⟩ := T.obj _ _ IJ b hb
   exact (I7.pin (b, o) (List.mem_append_right _ (List.mem_append_right _ (kh hb e)))).2.1
  cases f with
  | next => obtain ⟨σ7, H7, I7, n7⟩ := q7; exact again I7 n7
  | cont => obtain ⟨σ7, H7, I7, n7⟩ := q7; exact again I7 n7
  | brk => obtain ⟨σ7, H7, I7, q7⟩ := q7; exact ⟨σ7, H7, I7.kH, q7⟩
  | ret v => obtain ⟨x7, σ7, H7, I7, r7, q7⟩ := q7; exact ⟨x7, σ7, H7, I7.kH, r7, q7⟩
end
theorem wx {K : PySem.W.Frag} {a : Addr} {xs : List V} {g : TG} {tb : TS} {D : Ends} {σ : St} {H : Hp} (Pv : Nat -> St -> Hp -> Prop) (h0 : Pv 0 σ H) (hl : ∀ i σ H, i <= xs.length -> Pv i σ H -> eu K H a xs)
  (hs : ∀ i x σ H, xs[i]? = some x -> Pv i σ H -> g x σ H fun σ2 H2 => tb { D with nx := Pv (i + 1), ct := Pv (i + 1), bk := D.nx } σ2 H2) (hd : ∀ σ H, Pv xs.length σ H -> D.nx σ H) :
  ∃ W : Nat -> Nat -> St -> Hp -> Prop, (∃ m, W 0 m σ H) /\ ∀ i m σ H, W i m σ H ->
   ((Gz K a).stop i H /\ D.nx σ H) \/ ((Gz K a).go i H /\ ∃ N : St -> Hp -> Prop, (∀ σ' H', N σ' H' -> ∃ m', m' < m /\ W (i + 1) m' σ' H') /\ ∀ x H', (Gz K a).BP i H x H' -> g x σ H' fun σ2 H2 => tb { D with nx := N, ct := N, bk := D.nx } σ2 H2) := by
 refine ⟨fun i m σ H => m = xs.length - i /\ i <= xs.length /\ Pv i σ H, ⟨xs.length, by simp, Nat.zero_le _, h0⟩, ?_⟩
 rintro i m σ H ⟨rfl, hi, p⟩
 have q := hl i σ H hi p
 by_cases hW : i < xs.length
 ·refine .inr ⟨⟨xs, xs[i], q, by simp [hW]⟩, Pv (i + 1), fun σ' H' p' => ⟨xs.length - (i + 1), by omega, rfl, hW, p'⟩, fun x H' y => ?_⟩
  obtain ⟨e, y⟩ := y
  subst e
  exact hs i x σ _ (y xs q) p
 ·have e : i = xs.length := by omega
  subst e
  exact .inl ⟨⟨xs, q, zA0 _⟩, hd σ H p⟩
theorem Fp {K : PySem.W.Frag} {a : Addr} {xs : List V} {g : TG} {tb : TS} {D : Ends} {σ : St} {H : Hp} (Pv : Nat -> St -> Hp -> Prop) (h0 : Pv 0 σ H) (hl : ∀ i σ H, i <= xs.length -> Pv i σ H -> ft K H a xs)
  (hs : ∀ i x σ H, xs[i]? = some x -> Pv i σ H -> g x σ H fun σ2 H2 => tb { D with nx := Pv (i + 1), ct := Pv (i + 1), bk := D.nx } σ2 H2) (hd : ∀ σ H, Pv xs.length σ H -> D.nx σ H) :
  ∃ W : Nat -> Nat -> St -> Hp -> Prop, (∃ m, W 0 m σ H) /\ ∀ i m σ H, W i m σ H ->
   ((Gy K a).stop i H /\ D.nx σ H) \/ ((Gy K a).go i H /\ ∃ N : St -> Hp -> Prop, (∀ σ' H', N σ' H' -> ∃ m', m' < m /\ W (i + 1) m' σ' H') /\ ∀ x H', (Gy K a).BP i H x H' -> g x σ H' fun σ2 H2 => tb { D with nx := N, ct := N, bk := D.nx } σ2 H2) := by
 refine ⟨fun i m σ H => m = xs.length - i /\ i <= xs.length /\ Pv i σ H, ⟨xs.length, by simp, Nat.zero_le _, h0⟩, ?_⟩
 rintro i m σ H ⟨rfl, hi, p⟩
 have q := hl i σ H hi p
 by_cases hW : i < xs.length
 ·refine .inr ⟨⟨xs, xs[i], q, by simp [hW]⟩, Pv (i + 1), fun σ' H' p' => ⟨xs.length - (i + 1), by omega, rfl, hW, p'⟩, fun x H' y => ?_⟩
  obtain ⟨e, y⟩ := y
  subst e
  exact hs i x σ _ (y xs q) p
 ·have e : i = xs.length := by omega
  subst e
  exact .inl ⟨⟨xs, q, zA0 _⟩, hd σ H p⟩
end L2
namespace L2
open PySem Spec PyProof.Rows
abbrev R2 := V -> V -> Hp -> VK -> Prop
def ox (X : Cx) (f : Value -> Value -> Sem Value) (r : R2) : Prop :=
 ∀ (pins : List (Addr × Obj)) (s : Shared) (σ : St) (H : Hp) (x y : V) (v u : Value) (Q : VK), Inv X pins σ H s -> RelV x v -> RelV y u -> r x y H Q ->
  wpAny (model X.prog X.w) X.A (f v u) (EP X pins σ Q) X.xe s
def NM (X : Cx) (f : Value -> Sem Value) (r : V -> Hp -> VK -> Prop) : Prop :=
 ∀ (pins : List (Addr × Obj)) (s : Shared) (σ : St) (H : Hp) (x : V) (v : Value) (Q : VK), Inv X pins σ H s -> RelV x v -> r x H Q ->
  wpAny (model X.prog X.w) X.A (f v) (EP X pins σ Q) X.xe s
def lR (X : Cx) (f : Value) (r : List V -> Hp -> VK -> Prop) : Prop :=
 ∀ (pins : List (Addr × Obj)) (s : Shared) (σ : St) (H : Hp) (xs : List V) (us : List Value) (Q : VK), Inv X pins σ H s -> Vals xs us -> r xs H Q ->
  wpAny (model X.prog X.w) X.A (call f us) (EP X pins σ Q) X.xe s
def II (r : R2) (ta tb : TE) : TE := fun σ H Q => ta σ H fun x H1 => tb σ H1 fun y H2 => r x y H2 Q
def P1 (r : V -> Hp -> VK -> Prop) (ta : TE) : TE := fun σ H Q => ta σ H fun x H1 => r x H1 Q
def rI (C : Int -> Int -> Prop) (g : Int -> Int -> V) : R2 := fun x y H Q => ∃ i j, x = .int i /\ y = .int j /\ C i j /\ Q (g i j) H
def GL (g : Int -> Int -> V) : R2 := fun x y H Q => ∃ i j, x = .int i /\ y = .int j /\ Q (g i j) H
def rU (g : Int -> V) : V -> Hp -> VK -> Prop := fun x H Q => ∃ i, x = .int i /\ Q (g i) H
section
variable {X : Cx} {a b c : Expr} {ta tb tc : TE} {pos : Pos}
theorem Iu (ha : PE X a ta) (hb : PE X b tb) {pins : List (Addr × Obj)} {s : Shared} {σ : St} {H : Hp} {R : V -> V -> Hp -> Prop} (I : Inv X pins σ H s)
  (h : ta σ H fun x H1 => tb σ H1 fun y H2 => R x y H2) {Q : Value -> Shared -> Prop} {f : Value -> Value -> Sem Value}
  (hf : ∀ v u s2 x y H2, Inv X pins σ H2 s2 -> RelV x v -> RelV y u -> R x y H2 -> wpAny (model X.prog X.w) X.A (f v u) Q X.xe s2) :
  wpAny (model X.prog X.w) X.A (eval a X.env) (fun v s₁ => wpAny (model X.prog X.w) X.A (eval b X.env) (fun u s₂ => wpAny (model X.prog X.w) X.A (f v u) Q X.xe s₂) X.xe s₁) X.xe s := by
 refine bI (ha pins s σ H _ I h) fun v s1 qq => ?_
 obtain ⟨x, H1, I1, r1, q1⟩ := qq
 refine bI (hb pins s1 σ H1 _ I1 q1) fun u s2 qq => ?_
 obtain ⟨y, H2, I2, r2, q2⟩ := qq
 exact hf v u s2 x y H2 I2 r1 r2 q2
theorem e9 {op : Operator} {r : R2} (ho : ox X (binaryOp op) r) (ha : PE X a ta) (hb : PE X b tb) : PE X (.BinOp a op b pos) (II r ta tb) := by
 intro pins s σ H Q I h
 exact wpAny_BinOp (Iu ha hb I h fun v u s2 x y H2 I2 rx ry q => ho pins s2 σ H2 x y v u Q I2 rx ry q)
theorem pM {op : UnaryOp} {r : V -> Hp -> VK -> Prop} (ho : NM X (unaryOp op) r) (ha : PE X a ta) : PE X (.UnaryOp op a pos) (P1 r ta) := by
 intro pins s σ H Q I h
 exact UnaryOp_ (bI (ha pins s σ H _ I h) fun v s1 ⟨x, H1, I1, r1, q1⟩ => ho pins s1 σ H1 x v Q I1 r1 q1)
theorem PR {f : Value -> Value -> Sem Value} {C : Int -> Int -> Prop} {g : Int -> Int -> Int}
  (rule : ∀ (i j : Int) (t u : Tok) (s : Shared) (Q : Value -> Shared -> Prop) (E : Value -> Shared -> Prop), C i j -> Q (.int (g i j) s.toks) { s with toks := s.toks + 1 } -> wpAny (model X.prog X.w) X.A (f (.int i t) (.int j u)) Q E s) :
  ox X f (rI C fun i j => .int (g i j)) := by
 intro pins s σ H x y v u Q I rx ry h
 obtain ⟨i, j, rfl, rfl, hc, q⟩ := h
 obtain ⟨t, rfl⟩ := rx
 obtain ⟨t', rfl⟩ := ry
 exact rule i j t t' s _ _ hc ⟨.int (g i j), H, I.tok _, ⟨_, rfl⟩, q⟩
theorem JO {f : Value -> Value -> Sem Value} {g : Int -> Int -> Int}
  (rule : ∀ (i j : Int) (t u : Tok) (s : Shared) (Q : Value -> Shared -> Prop) (E : Value -> Shared -> Prop), Q (.int (g i j) s.toks) { s with toks := s.toks + 1 } -> wpAny (model X.prog X.w) X.A (f (.int i t) (.int j u)) Q E s) :
  ox X f (GL fun i j => .int (g i j)) := by
 intro pins s σ H x y v u Q I rx ry h
 obtain ⟨i, j, rfl, rfl, q⟩ := h
 obtain ⟨t, rfl⟩ := rx
 obtain ⟨t', rfl⟩ := ry
 exact rule i j t t' s _ _ ⟨.int (g i j), H, I.tok _, ⟨_, rfl⟩, q⟩
theorem GZ {f : Value -> Value -> Sem Value} {g : Int -> Int -> Bool}
  (rule : ∀ (i j : Int) (t u : Tok) (s : Shared) (Q : Value -> Shared -> Prop) (E : Value -> Shared -> Prop), Q (.bool (g i j)) s -> wpAny (model X.prog X.w) X.A (f (.int i t) (.int j u)) Q E s) :
  ox X f (GL fun i j => .bl (g i j)) := by
 intro pins s σ H x y v u Q I rx ry h
 obtain ⟨i, j, rfl, rfl, q⟩ := h
 obtain ⟨t, rfl⟩ := rx
 obtain ⟨t', rfl⟩ := ry
 exact rule i j t t' s _ _ ⟨.bl (g i j), H, I, rfl, q⟩
def IE (i j : Int) : Prop := (-(2 ^ 64) < i /\ i < 2 ^ 64) \/ (-(2 ^ 64) < j /\ j < 2 ^ 64)
theorem IE.ok {i j : Int} (h : IE i j) : IntMulOk i j := by
 rcases h with ⟨h1, h2⟩ | ⟨h1, h2⟩
 ·exact .of_left (intBits_le_64 h1 h2)
 ·exact .of_right (intBits_le_64 h1 h2)
theorem fU : ox X (binaryOp .Add) (GL fun i j => .int (i + j)) := JO fun _ _ _ _ _ _ _ q => add_int q
theorem CG : ox X (binaryOp .Sub) (GL fun i j => .int (i - j)) := JO fun _ _ _ _ _ _ _ q => sub_int q
theorem CH : ox X (binaryOp .Mult) (rI IE fun i j => .int (i * j)) := PR fun _ _ _ _ _ _ _ hc q => mul_int q hc.ok
theorem P0 {f : Value -> Sem Value} {g : Int -> Int}
  (rule : ∀ (i : Int) (t : Tok) (s : Shared) (Q : Value -> Shared -> Prop) (E : Value -> Shared -> Prop), Q (.int (g i) s.toks) { s with toks := s.toks + 1 } -> wpAny (model X.prog X.w) X.A (f (.int i t)) Q E s) :
  NM X f (rU fun i => .int (g i)) := by
 intro pins s σ H x v Q I rx h
 obtain ⟨i, rfl, q⟩ := h
 obtain ⟨t, rfl⟩ := rx
 exact rule i t s _ _ ⟨.int (g i), H, I.tok _, ⟨_, rfl⟩, q⟩
theorem jM : NM X (unaryOp .USub) (rU fun i => .int (-i)) := P0 fun _ _ _ _ _ q => neg_int q
end
noncomputable def JD : V -> V -> Bool
 | .bf, .bf => true | .bf, .int _ => true | .int _, .bf => true | .bf, .bl _ => true | .bl _, .bf => true | .bf, .str _ => true | .str _, .bf => true
 | .int _, .int _ => true | .bl _, .bl _ => true | .str _, .str _ => true | .wZ _, .wZ _ => true
 | .int _, .str _ => true | .str _, .int _ => true | .bl _, .str _ => true | .str _, .bl _ => true
 | _, _ => false
def PK : R2 := fun x y H Q => JD x y = true /\ Q (.bl (decide (x = y))) H
def PJ : R2 := fun x y H Q => JD x y = true /\ Q (.bl (!decide (x = y))) H
theorem zW {i j : Int} : decide (V.int i = V.int j) = (i == j) := by
 rw [Bool.eq_iff_iff]
 simp
theorem D9 {i j : Bool} : decide (V.bl i = V.bl j) = (i == j) := by
 rw [Bool.eq_iff_iff]
 simp
theorem zV {i j : Str} : decide (V.str i = V.str j) = (i == j) := by
 rw [Bool.eq_iff_iff]
 simp
theorem zX {i j : Array UInt8} : decide (V.wZ i = V.wZ j) = (i.toList == j.toList) := by
 rw [Bool.eq_iff_iff]
 cases i
 cases j
 simp
section
variable {X : Cx} {a b c : Expr} {ta tb tc : TE} {pos : Pos}
theorem bu {pins : List (Addr × Obj)} {σ : St} {H : Hp} {s : Shared} {Q : VK} {k k' : Bool} (I : Inv X pins σ H s) (q : Q (.bl k) H) (e : k = k') : EP X pins σ Q (.bool k') s := by
 subst e
 exact ⟨.bl k, H, I, rfl, q⟩
theorem dC : ox X (compareOp .Eq) PK := by
 intro pins s σ H x y v u Q I rx ry h
 obtain ⟨hs, q⟩ := h
 cases x with
 | bf =>
  cases rx
  cases y with
  | bf => cases ry; exact PySem.EqNone.eq_none_none (bu I q (by simp))
  | bl j => cases ry; exact PySem.EqNone.eq_none_bool (bu I q (by simp))
  | int j => obtain ⟨t', rfl⟩ := ry; exact PySem.EqNone.eq_none_int (bu I q (by simp))
  | str j => obtain ⟨t', rfl⟩ := ry; exact PySem.EqNone.eq_none_str (bu I q (by simp))
  | _ => cases (show false = true from hs)
 | bl i =>
  cases rx
  cases y with
  | bf => cases ry; exact PySem.EqNone.eq_bool_none (bu I q (by simp))
  | bl j => cases ry; exact eq_bool (bu I q D9)
  | str j => obtain ⟨t', rfl⟩ := ry; exact PySem.EqMixed.eq_bool_str (bu I q (by simp))
  | _ => cases (show false = true from hs)
 | int i =>
  obtain ⟨t, rfl⟩ := rx
  cases y with
  | bf => cases ry; exact PySem.EqNone.eq_int_none (bu I q (by simp))
  | int j => obtain ⟨t', rfl⟩ := ry; exact eq_int (bu I q zW)
  | str j => obtain ⟨t', rfl⟩ := ry; exact PySem.EqMixed.eq_int_str (bu I q (by simp))
  | _ => cases (show false = true from hs)
 | str i =>
  obtain ⟨t, rfl⟩ := rx
  cases y with
  | bf => cases ry; exact PySem.EqNone.eq_str_none (bu I q (by simp))
  | bl j => cases ry; exact PySem.EqMixed.eq_str_bool (bu I q (by simp))
  | int j => obtain ⟨t', rfl⟩ := ry; exact PySem.EqMixed.eq_str_int (bu I q (by simp))
  | str j => obtain ⟨t', rfl⟩ := ry; exact eq_str (bu I q zV)
  | _ => cases (show false = true from hs)
 | wZ i =>
  obtain ⟨t, rfl⟩ := rx
  cases y with
  | wZ j => obtain ⟨t', rfl⟩ := ry; exact W.eq_bytes (bu I q zX)
  | _ => cases (show false = true from hs)
 | _ => cases y <;> cases (show false = true from hs)
theorem zD : ox X (compareOp .NotEq) PJ := by
 intro pins s σ H x y v u Q I rx ry h
 obtain ⟨hs, q⟩ := h
 cases x with
 | bf =>
  cases rx
  cases y with
  | bf => cases ry; exact PySem.EqNone.ne_none_none (bu I q (by simp))
  | bl j => cases ry; exact PySem.EqNone.ne_none_bool (bu I q (by simp))
  | int j => obtain ⟨t', rfl⟩ := ry; exact PySem.EqNone.ne_none_int (bu I q (by simp))
  | str j => obtain ⟨t', rfl⟩ := ry; exact PySem.EqNone.ne_none_str (bu I q (by simp))
  | _ => cases (show false = true from hs)
 | bl i =>
  cases rx
  cases y with
  | bf => cases ry; exact PySem.EqNone.ne_bool_none (bu I q (by simp))
  | bl j => cases ry; exact ne_bool (bu I q (congrArg not D9))
  | str j => obtain ⟨t', rfl⟩ := ry; exact PySem.EqMixed.ne_bool_str (bu I q (by simp))
  | _ => cases (show false = true from hs)
 | int i =>
  obtain ⟨t, rfl⟩ := rx
  cases y with
  | bf => cases ry; exact PySem.EqNone.ne_int_none (bu I q (by simp))
  | int j => obtain ⟨t', rfl⟩ := ry; exact ne_int (bu I q (congrArg not zW))
  | str j => obtain ⟨t', rfl⟩ := ry; exact PySem.EqMixed.ne_int_str (bu I q (by simp))
  | _ => cases (show false = true from hs)
 | str i =>
  obtain ⟨t, rfl⟩ := rx
  cases y with
  | bf => cases ry; exact PySem.EqNone.ne_str_none (bu I q (by simp))
  | bl j => cases ry; exact PySem.EqMixed.ne_str_bool (bu I q (by simp))
  | int j => obtain ⟨t', rfl⟩ := ry; exact PySem.EqMixed.ne_str_int (bu I q (by simp))
  | str j => obtain ⟨t', rfl⟩ := ry; exact ne_str (bu I q (congrArg not zV))
  | _ => cases (show false = true from hs)
 | wZ i =>
  obtain ⟨t, rfl⟩ := rx
  cases y with
  | wZ j => obtain ⟨t', rfl⟩ := ry; exact W.ne_bytes (bu I q (congrArg not zX))
  | _ => cases (show false = true from hs)
 | _ => cases y <;> cases (show false = true from hs)
theorem pQ : ox X (compareOp .Lt) (GL fun i j => .bl (decide (i < j))) := GZ fun _ _ _ _ _ _ _ q => lt_int q
theorem gW : ox X (compareOp .LtE) (GL fun i j => .bl (decide (i <= j))) := GZ fun _ _ _ _ _ _ _ q => le_int q
theorem nS : ox X (compareOp .Gt) (GL fun i j => .bl (decide (j < i))) := GZ fun _ _ _ _ _ _ _ q => gt_int q
theorem gJ : ox X (compareOp .Is) (fun x y H Q => y = .bf /\ Q (.bl (decide (x = .bf))) H) := by
 intro pins s σ H x y v u Q I rx ry h
 obtain ⟨rfl, q⟩ := h
 cases ry
 refine is_none_gen (bu I q ?_)
 cases x <;> first
  | (cases rx; rfl)
  | (obtain ⟨t, rfl⟩ := rx; rfl)
theorem lx : ox X (compareOp .IsNot) (fun x y H Q => y = .bf /\ Q (.bl (!decide (x = .bf))) H) := by
 intro pins s σ H x y v u Q I rx ry h
 obtain ⟨rfl, q⟩ := h
 cases ry
 refine isnot_none_gen (bu I q ?_)
 cases x <;> first
  | (cases rx; rfl)
  | (obtain ⟨t, rfl⟩ := rx; rfl)
theorem aH (b : Expr) {op : CmpOp} (h : op ≠ .In := by decide) (h2 : op ≠ .NotIn := by decide) : behindInMarks op b = false := by
 have e1 : (op == CmpOp.In) = false := by cases op <;> first | rfl | exact absurd rfl h
 have e2 : (op == CmpOp.NotIn) = false := by cases op <;> first | rfl | exact absurd rfl h2
 cases b <;> simp [behindInMarks, e1, e2]
theorem oO {op : CmpOp} {r : R2} (ho : ox X (compareOp op) r) (ha : PE X a ta) (hb : PE X b tb) (hm : behindInMarks op b = false) : PE X (.Compare a [op] [b] pos) (II r ta tb) := by
 intro pins s σ H Q I h
 exact wpAny_Compare1 (Iu ha hb I h fun v u s2 x y H2 I2 rx ry q => ho pins s2 σ H2 x y v u Q I2 rx ry q) hm
def FQ (t : TE) : TT := fun σ H Q => t σ H fun x H' => ∃ k, x = .bl k /\ Q k H'
theorem aA {op : CmpOp} {r : R2} (ho : ox X (compareOp op) r) (ha : PE X a ta) (hb : PE X b tb) (hm : behindInMarks op b = false) : PT X (.Compare a [op] [b] pos) (FQ (II r ta tb)) := by
 intro pins s σ H Q I h
 refine wpAny_isTrue_Compare1 (bI (ha pins s σ H _ I h) fun v s1 ⟨x, H1, I1, r1, q1⟩ => bI (hb pins s1 σ H1 _ I1 q1) fun u s2 ⟨y, H2, I2, r2, q2⟩ =>
  bI (ho pins s2 σ H2 x y v u _ I2 r1 r2 q2) fun c s3 ⟨z, H3, I3, r3, k, e, q3⟩ => ?_) hm
 subst e
 cases r3
 exact wpAny_truthy_bool ⟨H3, I3, q3⟩
def Cc (r r' : R2) (ta tb tc : TE) : TE := fun σ H Q => ta σ H fun x H1 => tb σ H1 fun y H2 => r x y H2 fun z H3 => ∃ k, z = .bl k /\
 (if k = true then tc σ H3 fun w' H4 => r' y w' H4 Q else Q (.bl false) H3)
theorem lq {op Hc : CmpOp} {r r' : R2} (ho : ox X (compareOp op) r) (wg : ox X (compareOp Hc) r') (ha : PE X a ta) (hb : PE X b tb) (hc : PE X c tc)
  (hm : lastMarks [op, Hc] [b, c] = false := by with_unfolding_all rfl) : PE X (.Compare a [op, Hc] [b, c] pos) (Cc r r' ta tb tc) := by
 intro pins s σ H Q I h
 refine Compare_chain (bI (ha pins s σ H _ I h) fun v s1 ⟨x, H1, I1, r1, q1⟩ => chain_link (bI (hb pins s1 σ H1 _ I1 q1) fun u s2 ⟨y, H2, I2, r2, q2⟩ =>
  bI (ho pins s2 σ H2 x y v u _ I2 r1 r2 q2) fun d s3 ⟨z, H3, I3, r3, k, e, q3⟩ => ?_)) hm
 subst e
 cases r3
 refine wpAny_truthy_bool ?_
 cases k with
 | false => exact ite_ff ⟨.bl false, H3, I3, rfl, q3⟩
 | true => exact ite_tt (chain_last (bI (hc pins s3 σ H3 _ I3 q3) fun w' s4 ⟨z', H4, I4, r4, q4⟩ => wg pins s4 σ H4 y z' u w' Q I4 r2 r4 q4))
theorem v8 {op Hc : CmpOp} {r r' : R2} (ho : ox X (compareOp op) r) (wg : ox X (compareOp Hc) r') (ha : PE X a ta) (hb : PE X b tb) (hc : PE X c tc)
  (hm : lastMarks [op, Hc] [b, c] = false := by with_unfolding_all rfl) : PT X (.Compare a [op, Hc] [b, c] pos) (FQ (Cc r r' ta tb tc)) := by
 intro pins s σ H Q I h
 refine isTrue_chain (bI (ha pins s σ H _ I h) fun v s1 ⟨x, H1, I1, r1, q1⟩ => test_link (bI (hb pins s1 σ H1 _ I1 q1) fun u s2 ⟨y, H2, I2, r2, q2⟩ =>
  bI (ho pins s2 σ H2 x y v u _ I2 r1 r2 q2) fun d s3 ⟨z, H3, I3, r3, k, e, q3⟩ => ?_)) hm
 subst e
 cases r3
 refine wpAny_truthy_bool ?_
 cases k with
 | false =>
  obtain ⟨k', e', q'⟩ := q3
  cases e'
  exact ite_ff ⟨H3, I3, q'⟩
 | true =>
  refine ite_tt (test_last (bI (hc pins s3 σ H3 _ I3 q3) fun w' s4 ⟨z', H4, I4, r4, q4⟩ => bI (wg pins s4 σ H4 y z' u w' _ I4 r2 r4 q4) fun d' s5 qq => ?_))
  obtain ⟨z2, H5, I5, r5, k2, e2, q5⟩ := qq
  subst e2
  cases r5
  exact wpAny_truthy_bool ⟨H5, I5, q5⟩
theorem ux : (sizeLine : Nat) < 2 ^ 63 := by rw [sizeLine_eq]; decide
theorem vals1 {x : V} {us : List Value} (r : Vals [x] us) : ∃ u, us = [u] /\ RelV x u := by
 cases r with
 | cons r1 r2 => cases r2; exact ⟨_, rfl, r1⟩
theorem vals2 {x y : V} {us : List Value} (r : Vals [x, y] us) : ∃ u w', us = [u, w'] /\ RelV x u /\ RelV y w' := by
 cases r with
 | cons r1 r2 =>
  cases r2 with
  | cons r3 r4 => cases r4; exact ⟨_, _, rfl, r1, r3⟩
theorem uO : lR X (.type "str") (fun xs H Q => ∃ i, xs = [.int i] /\ i.natAbs.log2 < 1920 /\ Q (.str (toString i)) H) := by
 intro pins s σ H xs us Q I r h
 obtain ⟨i, rfl, hz, q⟩ := h
 obtain ⟨u, rfl, t, rfl⟩ := vals1 r
 exact PySem.P.str_of_int hz ⟨.str _, H, I.tok _, ⟨_, rfl⟩, q⟩
theorem DI : lR X (.builtin "ord") (fun xs H Q => ∃ x, xs = [.str x] /\ x.length = 1 /\ Q (.int (x.cps.getD 0 0 : Nat)) H) := by
 intro pins s σ H xs us Q I r h
 obtain ⟨x, rfl, hz, q⟩ := h
 obtain ⟨u, rfl, t, rfl⟩ := vals1 r
 exact ord_of_one hz ⟨.int _, H, I.tok _, ⟨_, rfl⟩, q⟩
end
end L2
namespace L2
open PySem Spec PyProof.Rows
structure BG (h : Heap) (x dx C : Addr) (mA : Str -> Option Value) : Prop where
 obj : h.get? x = some (W.instObj C dx)
 ns : h.Ns1 dx mA
 ne : dx ≠ x
theorem AU {h : Heap} {dx : Addr} {mA : Str -> Option Value} (n : h.Ns1 dx mA) : ∃ od, h.get? dx = some od /\ ∀ name, W.lookIn name od = some (mA name) := by
 obtain ⟨o, es, ep, ho, hd, hk, _, hm⟩ := n
 refine ⟨o, ho, fun name => ?_⟩
 have e := hm name
 unfold nsFind findBy at e
 rw [<- Array.find?_toList] at e
 unfold W.lookIn
 rw [hd]
 dsimp only
 split
 ·rename_i y q
  rw [q] at e
  exact congrArg some e
 ·rename_i q
  rw [q] at e
  have a : es.toList.any (·.refKey) = false := by
   rw [List.any_eq_false]
   intro y hy
   obtain ⟨z, t, Nc⟩ := hk y (Array.mem_toList_iff.mp hy)
   simp [DictEntry.refKey, Nc]
  have a' : ¬ es.toList.any (·.refKey) = true := by rw [a]; exact Bool.false_ne_true
  rw [if_neg a']
  exact congrArg some e
theorem BG.look {h : Heap} {x dx C : Addr} {mA : Str -> Option Value} (I : BG h x dx C mA) : ∃ od, W.InstAt h x (W.instObj C dx) C (some od) /\ ∀ name, W.lookIn name od = some (mA name) :=
 let ⟨od, ho, hl⟩ := AU I.ns
 ⟨od, ⟨I.obj, rfl, rfl, ho⟩, hl⟩
section
variable {prog : Program} {w : World} {A : Around} {E : Value -> Shared -> Prop} {s : Shared} {K : W.Frag} {x dx C f : Addr} {mA : Str -> Option Value} {name : Str} {v : Value}
theorem get_map {expr : Bool} {Q : Value -> Shared -> Prop} (X : K.In s.heap) (I : BG s.heap x dx C mA) (hg : W.plainGet K C name = true) (hh : W.hasDictIn K C = true)
  (ha : W.findIn K (.ref C) name = some none) (hv : mA name = some v) (Lv : W.handedIn v = true) (h : Q v { s with toks := s.toks + 1 }) :
  wpAny (model prog w) A (getAttr (.ref x) name expr) Q E s := by
 obtain ⟨od, J, hl⟩ := I.look
 exact W.get_value X J (W.plainGet_of hg).1 (W.findObj_own hh ha rfl (by rw [hl, hv])) Lv h
theorem Ew {ns : List Str} {Q : Unit -> Shared -> Prop} (X : K.In s.heap) (I : BG s.heap x dx C mA)
  (hs : W.findIn K (.ref C) "__setattr__" = some (some (.builtin "object.__setattr__"))) (hp : W.plainOver K C = true) (ht : W.takerIn K C name = some none) (hh : W.hasDictIn K C = true)
  (hw : PySem.Within mA ns) (hsz : ns.length <= sizeLine)
  (h : ∀ h', BG h' x dx C (fun y => if y = name then some v else mA y) -> Heap.SameBut dx s.heap h' -> Q () { s with heap := h', toks := s.toks + 2 }) :
  wpAny (model prog w) A (setAttr (.ref x) name v) Q E s := by
 obtain ⟨od, J, hl⟩ := I.look
 refine W.set_plain X J hs (W.osa_open (s := { s with toks := s.toks + 1 }) (r := none) X J hp ht fun b => ?_)
 obtain ⟨cd, hc, Nm⟩ := W.any_some hh
 have hx : s.heap.get? x = some ⟨.ref C, some dx, .plain, #[]⟩ := I.obj
 refine wpAny_bind (wpAny_pure (wpAny_bind (wpAny_bind (wpAny_loadPart hx (wpAny_bind (W.Looks.here (s := { s with toks := s.toks + 1 }) (W.looks_clsIn X hc) ?_))))))
 rw [Nm]
 refine wpAny_pure (a := some dx) (wpAny_bind (wpAny_pure (wpAny_bind ?_)))
 refine wpAny_nsSet1 (s := { s with toks := s.toks + 1 }) I.ns fun h' OJ OG => ?_
 obtain ⟨oD, Sb, Sd, Q9, QK, QN⟩ := OJ.count (PySem.Within.cons name v hw)
 refine wpAny_bind (wpAny_lookBehind Q9 (by rw [QK]; exact pastItsLine_dict (Nat.le_trans QN (by rw [List.length_cons]; omega))) ?_)
 exact wpAny_pure (h _ ⟨(OG.2 _ (Ne.symm I.ne)).trans I.obj, OJ, I.ne⟩ OG)
theorem CU {R : Result -> Shared -> Prop} {vs : List Value} {kw : List (Str × Value)} (X : K.In s.heap) (hm : W.makesIn K C = true)
  (hi : W.findIn K (.ref C) "__init__" = some (some (.ref f))) (hf : W.typeIn K (.ref f) = some (.type "function"))
  (h : codeAny (model prog w) (A.under (.builtin "type.__call__" ⟨.ref C :: vs, kw⟩)) (.call (.ref f) ⟨.ref (s.heap.objs.size + 1) :: vs, kw⟩) (W.InitBack (s.heap.objs.size + 1) R)
   { s with heap := (s.heap.push W.emptyDict).push (W.instObj C s.heap.objs.size) }) :
  codeAny (model prog w) A (.call (.ref C) ⟨vs, kw⟩) R s := by
 obtain ⟨hh, g, d, t, os⟩ := s
 exact W.make_core (W.makes_of X hm) (W.looks_findIn X hi) (fun self => W.bind_fn X self hf) (.inl rfl) h
end
noncomputable def br (f : Str) (v : V) : List (Str × V) -> List (Str × V)
 | [] => [(f, v)]
 | (g, x) :: r => if g = f then (g, v) :: r else (g, x) :: br f v r
theorem nW (f g : Str) (v : V) : ∀ fs : List (Str × V), (br f v fs).lookup g = if g = f then some v else fs.lookup g
 | [] => by
  show List.lookup g [(f, v)] = _
  by_cases h : g = f
  ·have hb : (g == f) = true := beq_iff_eq.mpr h
   simp only [List.lookup, hb, if_pos h]
  ·have hb : (g == f) = false := beq_eq_false_iff_ne.mpr h
   simp only [List.lookup, hb, if_neg h]
 | (k, x) :: r => by
  have ih := nW f g v r
  rw [show br f v ((k, x) :: r) = (if k = f then (k, v) :: r else (k, x) :: br f v r) from rfl]
  by_cases hk : k = f
  ·rw [if_pos hk]
   by_cases h : g = k
   ·have hb : (g == k) = true := beq_iff_eq.mpr h
    simp only [List.lookup, hb, if_pos (h.trans hk)]
   ·have hb : (g == k) = false := beq_eq_false_iff_ne.mpr h
    simp only [List.lookup, hb, if_neg (fun e : g = f => h (e.trans hk.symm))]
  ·rw [if_neg hk]
   by_cases h : g = k
   ·have hb : (g == k) = true := beq_iff_eq.mpr h
    simp only [List.lookup, hb, if_neg (fun e : g = f => hk (h.symm.trans e))]
   ·have hb : (g == k) = false := beq_eq_false_iff_ne.mpr h
    simp only [List.lookup, hb]
    exact ih
theorem mX (f : Str) (v : V) : ∀ fs : List (Str × V), f ∈ (br f v fs).map (·.1) /\ ∀ g, g ∈ fs.map (·.1) -> g ∈ (br f v fs).map (·.1)
 | [] => ⟨by simp [br], fun g h => by simp at h⟩
 | (k, x) :: r => by
  obtain ⟨i1, i2⟩ := mX f v r
  rw [show br f v ((k, x) :: r) = (if k = f then (k, v) :: r else (k, x) :: br f v r) from rfl]
  by_cases hk : k = f
  ·rw [if_pos hk]
   subst hk
   exact ⟨by simp, fun g h => by simpa using h⟩
  ·rw [if_neg hk]
   refine ⟨?_, fun g h => ?_⟩
   ·rw [List.map_cons]
    exact zA1 _ i1
   ·rw [List.map_cons] at h ⊢
    rcases List.mem_cons.mp h with e | e
    ·exact List.mem_cons.mpr (.inl e)
    ·exact zA1 _ (i2 g e)
theorem nY (f : Str) (v : V) : ∀ fs : List (Str × V), (br f v fs).length <= fs.length + 1
 | [] => by simp [br]
 | (k, x) :: r => by
  have ih := nY f v r
  rw [show br f v ((k, x) :: r) = (if k = f then (k, v) :: r else (k, x) :: br f v r) from rfl]
  by_cases hk : k = f
  ·rw [if_pos hk, List.length_cons, List.length_cons]; omega
  ·rw [if_neg hk, List.length_cons, List.length_cons]; omega
theorem nI.some_of {v : V} {o : Option Value} (r : nI (some v) o) : ∃ u, o = some u /\ RelV v u := by
 cases o with
 | none => exact (show False from r).elim
 | some u => exact ⟨u, rfl, r⟩
theorem Bk {v : V} {u : Value} (r : RelV v u) : W.handedIn u = true := by
 cases v with
 | bf => cases (show u = Value.none from r); rfl
 | bl b => cases (show u = Value.bool b from r); rfl
 | int i => obtain ⟨t, e⟩ := (show ∃ t, u = Value.int i t from r); cases e; rfl
 | str x => obtain ⟨t, e⟩ := (show ∃ t, u = Value.str x t from r); cases e; rfl
 | wZ b => obtain ⟨t, e⟩ := (show ∃ t, u = Value.bytes b t from r); cases e; rfl
 | Ie b => obtain ⟨t, e⟩ := (show ∃ t, u = Value.float b t from r); cases e; rfl
 | ref a => cases (show u = Value.ref a from r); rfl
 | ty n => cases (show u = Value.type n from r); rfl
section
variable {P : Program} {w : World} {H H' : Hp} {h h' : Heap} {a C dx : Addr} {fs Eh : List (Str × V)}
theorem uy (bD : k7 P w H h) (e : H a = some (.ins C dx fs)) : ∃ mA, BG h a dx C mA /\ (∀ f, nI (fs.lookup f) (mA f)) /\ PySem.Within mA (fs.map (·.1)) /\ fs.length <= 1000 /\ H dx = some (.own a) := by
 obtain ⟨d, z, ne, ob, mA, n, r, q⟩ := (show bC P w H h a (.ins C dx fs) from bD a _ e)
 exact ⟨mA, ⟨ob, n, ne⟩, r, q, z, d⟩
end
structure Ej (K : W.Frag) (C : Addr) : Prop where
 pg : W.plainGet K C Str.empty = true
 hd : W.hasDictIn K C = true
 po : W.plainOver K C = true
 sa : W.findIn K (.ref C) "__setattr__" = some (some (.builtin "object.__setattr__"))
theorem Ej.get {K : W.Frag} {C : Addr} (c : Ej K C) (f : Str) : W.plainGet K C f = true := c.pg
def jf (K : W.Frag) (C : Addr) (f : Str) : Prop := W.findIn K (.ref C) f = some none
theorem jf.Jn {K : W.Frag} {C : Addr} {f : Str} (n : jf K C f) : W.takerIn K C f = some none := by
 unfold W.takerIn
 rw [show W.findIn K (.ref C) f = some none from n]
 rfl
section
variable {X : Cx} {pins : List (Addr × Obj)} {σ : St} {H : Hp} {s : Shared} {a C dx : Addr} {fs : List (Str × V)} {f : Str} {v : V} {A : Around} {E : Value -> Shared -> Prop}
theorem qj {b : Bool} {Q : Value -> Shared -> Prop} (I : Inv X pins σ H s) (e : H a = some (.ins C dx fs)) (c : Ej X.K C) (n : jf X.K C f) (l : fs.lookup f = some v)
  (h : ∀ u s', Inv X pins σ H s' -> RelV v u -> Q u s') : wpAny (model X.prog X.w) A (getAttr (.ref a) f b) Q E s := by
 obtain ⟨mA, O, r, _, _, _⟩ := uy I.bD e
 obtain ⟨u, hu, ru⟩ := nI.some_of (v := v) (o := mA f) (by rw [<- l]; exact r f)
 exact get_map I.gu O (c.get f) c.hd n hu (Bk ru) (h u _ (I.tok _) ru)
theorem px {y : V} {u : Value} {Q : Unit -> Shared -> Prop} (I : Inv X pins σ H s) (e : H a = some (.ins C dx fs)) (c : Ej X.K C) (n : jf X.K C f) (hl : fs.length < 1000) (ry : RelV y u)
  (h : ∀ s', Inv X pins σ (upd H a (.ins C dx (br f y fs))) s' -> Q () s') : wpAny (model X.prog X.w) A (setAttr (.ref a) f u) Q E s := by
 obtain ⟨mA, O, r, wi, _, ho⟩ := uy I.bD e
 have hz : (fs.map (·.1)).length <= sizeLine := by rw [List.length_map, sizeLine_eq]; omega
 refine Ew I.gu O c.sa c.po n.Jn c.hd wi hz fun h' O' sb => h _ ?_
 have hd : ∃ o, h'.get? dx = some o := let ⟨o, _, _, e', _⟩ := O'.ns; ⟨o, e'⟩
 refine I.write (x := a) (e := dx) (by rw [e]; exact True.intro) (.inr ho) (fun b q hb z => (sb.2 b hb).trans z) hd ?_
 refine ⟨by rw [ak O.ne]; exact ho, ?_, O.ne, O'.obj, _, O'.ns, fun g => ?_, fun g hg => ?_⟩
 ·have := nY f y fs; omega
 ·show nI ((br f y fs).lookup g) (if g = f then some u else mA g)
  rw [nW]
  by_cases q : g = f
  ·rw [if_pos q, if_pos q]; exact ry
  ·rw [if_neg q, if_neg q]; exact r g
 ·by_cases q : g = f
  ·rw [q]; exact (mX f y fs).1
  ·refine (mX f y fs).2 g (wi g fun z => hg ?_)
   show (if g = f then some u else mA g) = none
   rw [if_neg q]; exact z
theorem Inv.made (I : Inv X pins σ H s) : Inv X pins σ (upd (upd H s.heap.objs.size (.own (s.heap.objs.size + 1))) (s.heap.objs.size + 1) (.ins C s.heap.objs.size []))
  { s with heap := (s.heap.push W.emptyDict).push (W.instObj C s.heap.objs.size) } := by
 have e1 : (s.heap.push W.emptyDict).get? s.heap.objs.size = some W.emptyDict := Heap.get?_push_size s.heap rfl
 have e2 : ((s.heap.push W.emptyDict).push (W.instObj C s.heap.objs.size)).get? (s.heap.objs.size + 1) = some (W.instObj C s.heap.objs.size) := by
  have := Heap.get?_push_size (s.heap.push W.emptyDict) (o := W.instObj C s.heap.objs.size) rfl
  rwa [Heap.size_push] at this
 have e3 : (s.heap.push W.emptyDict).Ns s.heap.objs.size (fun _ => none) := ⟨W.emptyDict, #[], _, e1, rfl, (fun e he => absurd he (by simp)), fun _ => rfl⟩
 have I1 := I.laid (a := s.heap.objs.size) (o := .own (s.heap.objs.size + 1)) (h' := s.heap.push W.emptyDict) (t' := s.toks) (fun b u q => Heap.get?_push_of_some _ q) (zA0 _) ⟨_, e1⟩
 refine I1.laid (a := s.heap.objs.size + 1) (o := .ins C s.heap.objs.size []) (t' := s.toks) (fun b u q => Heap.get?_push_of_some _ q) (Nat.le_of_eq (Heap.size_push _ _)) ?_
 have ne : s.heap.objs.size ≠ s.heap.objs.size + 1 := Nat.ne_of_lt (Nat.lt_succ_self _)
 refine ⟨by rw [ak ne, ah], Nat.zero_le _, ne, e2, fun _ => none, (Heap.Ns1.of_empty e3).at fun o q => Heap.get?_push_of_some _ q, fun _ => True.intro, fun y hy => absurd rfl hy⟩
theorem F9 {prog : Program} {w : World} {env : Env} {e : Expr} {f : Str} {pos : Pos} {s : Shared} {Q : Value -> Shared -> Prop} (hb : attributeBase e f env (eval e env) = eval e env)
  (h : wpAny (model prog w) A (eval e env) (fun o s₁ => wpAny (model prog w) A (getAttr o f true) Q E s₁) E s) : wpAny (model prog w) A (eval (.Attribute e f pos) env) Q E s :=
 Attribute_any_ h (by rw [arm_eval_Attribute, hb])
end
def J2 (K : W.Frag) (ta : TE) (f : Str) : TE := fun σ H Q => ta σ H fun x H1 => ∃ a C dx fs v, x = .ref a /\ H1 a = some (.ins C dx fs) /\ Ej K C /\ jf K C f /\ fs.lookup f = some v /\ Q v H1
def Md (K : W.Frag) (ta tv : TE) (f : Str) : TS := fun D σ H => tv σ H fun y H1 => ta σ H1 fun x H2 => ∃ a C dx fs, x = .ref a /\ H2 a = some (.ins C dx fs) /\ Ej K C /\ jf K C f /\ fs.length < 1000 /\
 D.nx σ (upd H2 a (.ins C dx (br f y fs)))
def KY (X : Cx) (op : Operator) (rd : V -> V -> Hp -> VK -> Prop) : Prop :=
 ∀ (pins : List (Addr × Obj)) (s : Shared) (σ : St) (H : Hp) (x y : V) (u v : Value) (Q : VK), Inv X pins σ H s -> RelV x u -> RelV y v -> rd x y H Q -> wpAny (model X.prog X.w) X.A (inplaceOp op u v) (EP X pins σ Q) X.xe s
def E3 (K : W.Frag) (ta tv : TE) (rd : V -> V -> Hp -> VK -> Prop) (f : Str) : TS := fun D σ H => ta σ H fun x H1 => ∃ a C dx fs v, x = .ref a /\ H1 a = some (.ins C dx fs) /\ Ej K C /\ jf K C f /\ fs.lookup f = some v /\
 tv σ H1 fun y H2 => rd v y H2 fun z H3 => ∃ sM Eh, H3 a = some (.ins C sM Eh) /\ Eh.length < 1000 /\ D.nx σ (upd H3 a (.ins C sM (br f z Eh)))
section
variable {X : Cx} {o e value : Expr} {f : Str} {pos pos' Ax : Pos} {ta tv : TE}
theorem ay (he : PE X e ta) (hb : attributeBase e f X.env (eval e X.env) = eval e X.env) : PE X (.Attribute e f pos) (J2 X.K ta f) := by
 intro pins s σ H Q I h
 refine F9 hb (bI (he pins s σ H _ I h) fun u s1 qq => ?_)
 obtain ⟨x, H1, I1, rx, a, C, dx, fs, v, ex, ea, c, n, l, q⟩ := qq
 subst ex
 obtain rfl : u = Value.ref a := rx
 exact qj I1 ea c n l fun u' s2 I2 ru => ⟨v, H1, I2, ru, q⟩
theorem aP (ha : PE X o ta) (hv : PE X value tv) (hs : swapsWith value (some (.Attribute o f pos')) pos.line X.env = pure false) : PS X (.Assign [.Attribute o f pos'] value pos) (Md X.K ta tv f) := by
 intro pins s σ H D I h
 refine plainObj_wpAny_Assign_Attribute (bI (hv pins s σ H _ I h) fun u s1 ⟨y, H1, I1, ry, q⟩ => bI (ha pins s1 σ H1 _ I1 q) fun ov s2 qq => ?_) hs
 obtain ⟨x, H2, I2, rx, a, C, dx, fs, ex, ea, c, n, l, q2⟩ := qq
 subst ex
 obtain rfl : ov = Value.ref a := rx
 exact px I2 ea c n l ry fun s3 I3 => ⟨σ, _, I3, q2⟩
theorem A9 {op : Operator} {rd : V -> V -> Hp -> VK -> Prop} (ha : PE X o ta) (hv : PE X value tv) (Q6 : KY X op rd) : PS X (.AugAssign (.Attribute o f Ax) op value pos) (E3 X.K ta tv rd f) := by
 intro pins s σ H D I h
 refine wpAny_AugAssign_AttributeAny (bI (ha pins s σ H _ I h) fun ov s1 qq => ?_)
 obtain ⟨x, H1, I1, rx, a, C, dx, fs, v, ex, ea, c, n, l, q⟩ := qq
 subst ex
 obtain rfl : ov = Value.ref a := rx
 refine qj I1 ea c n l fun u s2 I2 ru => bI (hv pins s2 σ H1 _ I2 q) fun w3 s3 ⟨y, H2, I3, ry, q3⟩ => bI (Q6 pins s3 σ H2 v y u w3 _ I3 ru ry q3) fun w4 s4 qq => ?_
 obtain ⟨z, H3, I4, rz, sM, Eh, Rn, l', q4⟩ := qq
 exact px I4 Rn c n l' rz fun s5 I5 => ⟨σ, _, I5, q4⟩
def Mi : V -> V -> Hp -> VK -> Prop := fun x y H Q => ∃ i j, x = .int i /\ y = .int j /\ Q (.int (i - j)) H
theorem HE : KY X .Sub Mi := by
 rintro pins s σ H x y u v Q I rx ry ⟨i, j, rfl, rfl, q⟩
 obtain ⟨t, rfl⟩ := (show ∃ t, u = Value.int i t from rx)
 obtain ⟨t', rfl⟩ := (show ∃ t', v = Value.int j t' from ry)
 exact PyProof.Rows.isub_int ⟨.int (i - j), H, I.tok _, ⟨_, rfl⟩, q⟩
end
section
variable {X : Cx} {pins : List (Addr × Obj)} {σ : St} {H : Hp} {s : Shared} {A : Around} {E : Value -> Shared -> Prop} {Q : Value -> Shared -> Prop} {c : Value} {b : Bool}
inductive nH (K : W.Frag) (H : Hp) : V -> Value -> Prop where
 | bf : nH K H .bf (.type "NoneType")
 | bl (x : Bool) : nH K H (.bl x) (.type "bool")
 | int (i : Int) : nH K H (.int i) (.type "int")
 | str (x : Str) : nH K H (.str x) (.type "str")
 | Ie (x : UInt64) : nH K H (.Ie x) (.type "float")
 | lst {a : Addr} {xs : List V} (e : H a = some (.lst xs)) : nH K H (.ref a) (.type "list")
 | og {a : Addr} {o : Obj} {xs : List V} (e : H a = some (.og o (.lst xs))) : nH K H (.ref a) (.type "list")
 | tup {a : Addr} {xs : List V} (e : H a = some (.tup xs)) : nH K H (.ref a) (.type "tuple")
 | dK {a : Addr} {kvs : List (Key × V)} (e : H a = some (.dK kvs)) : nH K H (.ref a) (.type "dict")
 | dT {a : Addr} {kvs : List (List Key × V)} (e : H a = some (.dT kvs)) : nH K H (.ref a) (.type "dict")
 | ins {a C dx : Addr} {fs : List (Str × V)} (e : H a = some (.ins C dx fs)) (cl : Ej K C) (ha : W.findIn K (.ref C) "__class__" = some (some (.builtin "object.__class__")))
   (hn : W.specialIn K (.builtin "object.__class__") "__get__" = some (some (.builtin "getset_descriptor.__get__"))) (OE : W.takesIn K (.builtin "object.__class__") = some true)
   (hm : W.mroIn K C (.type "object") = some true) : nH K H (.ref a) (.ref C)
theorem Ba {x : V} {u t : Value} (I : Inv X pins σ H s) (rx : RelV x u) (ty : nH X.K H x t) (e : W.kitOne X.K t c = some b) (h : ∀ tk, Q (.bool b) { s with toks := tk }) :
  wpAny (model X.prog X.w) A (call (.builtin "isinstance") [u, c]) Q E s := by
 cases ty with
 | bf => cases (show u = Value.none from rx); exact W.kia_one W.kitx_none I.gu True.intro e (fun z => nomatch z) h
 | bl y => cases (show u = Value.bool y from rx); exact W.kia_one W.kitx_bool I.gu True.intro e (fun z => nomatch z) h
 | int i => obtain ⟨t, q⟩ := (show ∃ t, u = Value.int i t from rx); cases q; exact W.kia_one W.kitx_int I.gu True.intro e (fun z => nomatch z) h
 | str y => obtain ⟨t, q⟩ := (show ∃ t, u = Value.str y t from rx); cases q; exact W.kia_one W.kitx_str I.gu True.intro e (fun z => nomatch z) h
 | Ie y => obtain ⟨t, q⟩ := (show ∃ t, u = Value.float y t from rx); cases q; exact W.kia_one W.kitx_float I.gu True.intro e (fun z => nomatch z) h
 | @lst a xs ea =>
  cases (show u = Value.ref a from rx)
  obtain ⟨_, _, n, _, h1⟩ := (show bC X.prog X.w H s.heap a (.lst xs) from I.bD a _ ea)
  exact W.kia_one W.kitx_list I.gu ⟨_, h1, rfl⟩ e (fun z => nomatch z) h
 | @og a ob xs ea =>
  cases (show u = Value.ref a from rx)
  obtain ⟨_, _, _, n, _, h1⟩ := (show bC X.prog X.w H s.heap a (.og ob (.lst xs)) from I.bD a _ ea)
  exact W.kia_one W.kitx_list I.gu ⟨_, h1, rfl⟩ e (fun z => nomatch z) h
 | @tup a xs ea =>
  cases (show u = Value.ref a from rx)
  obtain ⟨_, _, _, p⟩ := (show bC X.prog X.w H s.heap a (.tup xs) from I.bD a _ ea)
  obtain ⟨o, h1, h2, _⟩ := p
  exact W.kia_one W.kitx_tuple I.gu ⟨o, h1, h2⟩ e (fun z => nomatch z) h
 | @dK a kvs ea =>
  cases (show u = Value.ref a from rx)
  obtain ⟨_, _, vs, _, p⟩ := (show bC X.prog X.w H s.heap a (.dK kvs) from I.bD a _ ea)
  obtain ⟨o, es, ep, h1, h2, _⟩ := p
  exact W.kia_one W.kitx_dict I.gu ⟨o, h1, h2.1⟩ e (fun z => nomatch z) h
 | @dT a kvs ea =>
  cases (show u = Value.ref a from rx)
  obtain ⟨_, _, xs, _, o, es, ep, h1, h2, _⟩ := (show bC X.prog X.w H s.heap a (.dT kvs) from I.bD a _ ea)
  exact W.kia_one W.kitx_dict I.gu ⟨o, h1, h2.1⟩ e (fun z => nomatch z) h
 | @ins a C dx fs ea cl ha hn OE hm =>
  cases (show u = Value.ref a from rx)
  obtain ⟨mA, O, _⟩ := uy I.bD ea
  obtain ⟨od, J, _⟩ := O.look
  exact W.kia_one (W.kitx_own (cl.get _) cl.hd ha hn OE hm) I.gu J e (fun z => nomatch z) h
end
end L2
namespace L2
open PySem Spec PyProof.Rows
structure dc (k : Nat) (A : Around) : Prop where
 hd : A.handled = none
 dp : A.depth + 3 * k + 5 < recursionLimit
 un : A.units + 16 * k + 200 < cLine
theorem dc.mono {j k : Nat} {A : Around} (r : dc k A) (h : j <= k) : dc j A := ⟨r.hd, by have := r.dp; omega, by have := r.un; omega⟩
theorem dc.deeper {k : Nat} {A : Around} (r : dc (k + 1) A) (env : Env) : dc k (A.deeper env) :=
 ⟨r.hd, by have := r.dp; show A.depth + 1 + 3 * k + 5 < _; omega, by have := r.un; show A.units + 3 + 16 * k + 200 < _; omega⟩
theorem yf {A : Around} {C : Addr} {us : List Value} {kw : List (Str × Value)} : (A.under (.builtin "type.__call__" ⟨.ref C :: us, kw⟩)).depth = A.depth + 1 := by
 first | rfl | simp [Around.under, Code.weight, Code.isCreation, Code.isGuard, Code.isCaller, Code.frames, Code.isFrame, guardIds]
theorem ye {A : Around} {C : Addr} {us : List Value} {kw : List (Str × Value)} : (A.under (.builtin "type.__call__" ⟨.ref C :: us, kw⟩)).units = A.units + 1 := by
 first | rfl | simp [Around.under, Code.cUnits, Code.frames, Code.isFrame]
theorem dc.make {k : Nat} {A : Around} (r : dc (k + 1) A) (C : Addr) (us : List Value) (kw : List (Str × Value)) : dc k (A.under (.builtin "type.__call__" ⟨.ref C :: us, kw⟩)) :=
 ⟨r.hd, by have := r.dp; rw [yf]; omega, by have := r.un; rw [ye]; omega⟩
theorem dc.depth {k : Nat} {A : Around} (r : dc k A) : A.depth < recursionLimit := by have := r.dp; omega
theorem dc.units {k : Nat} {A : Around} (r : dc k A) : A.units + 64 < cLine := by have := r.un; omega
def tq : TA := fun _ H Q => Q [] H
def pb (ta : TE) (tr : TA) : TA := fun σ H Q => ta σ H fun x H1 => tr σ H1 fun xs H2 => Q (x :: xs) H2
section
variable {X : Cx} {e : Expr} {es : List Expr} {te : TE} {t : TA} {pos : Pos}
theorem ag : PA X [] tq := fun _ _ _ _ H Q I h => Calls.spliced_nil ⟨[], H, I, .nil, h⟩
theorem aa (ha : PE X e te) (hr : PA X es t) (hs : starEach (e :: es) X.env = (false, eval e X.env) :: starEach es X.env := by rfl) : PA X (e :: es) (pb te t) := by
 intro pos pins s σ H Q I h
 rw [hs]
 show wpAny _ _ (spliced ((false, eval e X.env) :: backTo pos (starEach es X.env))) _ _ s
 refine Calls.spliced_cons (bI (ha pins s σ H _ I h) fun u s1 qq => ?_)
 obtain ⟨x, H1, I1, r1, q1⟩ := qq
 exact bI (hr pos pins s1 σ H1 _ I1 q1) fun us s2 ⟨xs, H2, I2, r2, q2⟩ => ⟨x :: xs, H2, I2, .cons r1 r2, q2⟩
def Jq (t : TA) : TE := fun σ H Q => t σ H fun xs H1 => xs.length <= sizeLine /\ ∀ p, H1 p = none -> Q (.ref p) (upd H1 p (.tup xs))
def G5 (t : TA) : TE := fun σ H Q => t σ H fun xs H1 => xs.length <= sizeLine /\ ∀ p, H1 p = none -> Q (.ref p) (upd H1 p (.lst xs))
theorem gI {x1} (h : PA X es t) : PE X (.Tuple es x1 pos) (Jq t) := by
 intro pins s σ H Q I hq
 refine wpAny_Tuple_spliced (bI (h pos pins s σ H _ I hq) fun us s1 ⟨xs, H1, I1, r, z, q⟩ => ⟨by rw [<- r.length]; exact z, ?_⟩)
 have hf : H1 s1.heap.objs.size = none := I1.bD.fresh (zA0 _)
 refine ⟨.ref s1.heap.objs.size, upd H1 s1.heap.objs.size (.tup xs), I1.laid (t' := s1.toks) (fun b u e => Heap.get?_push_of_some _ e) (zA0 _) ?_, rfl, q _ hf⟩
 exact ⟨z, us, r, ⟨_, Heap.get?_push_size _ rfl, rfl, _, rfl⟩⟩
theorem b7 (h : PA X es t) : PE X (.List es pos) (G5 t) := by
 intro pins s σ H Q I hq
 refine wpAny_List_spliced (bI (h pos pins s σ H _ I hq) fun us s1 ⟨xs, H1, I1, r, z, q⟩ => ⟨by rw [<- r.length]; exact z, ?_⟩)
 have hf : H1 s1.heap.objs.size = none := I1.bD.fresh (zA0 _)
 refine ⟨.ref s1.heap.objs.size, upd H1 s1.heap.objs.size (.lst xs), I1.laid (t' := s1.toks) (fun b u e => Heap.get?_push_of_some _ e) (zA0 _) ?_, rfl, q _ hf⟩
 exact ⟨z, us, 0, r, Heap.get?_push_size _ rfl⟩
end
abbrev Sp := List V -> Hp -> VK -> XK -> Prop
abbrev yW := List Env -> Hp -> Shared -> XK -> Value -> Shared -> Prop
structure yU (P : Program) (w : World) (K : W.Frag) (mg : Str -> Option Value) (base : Heap) (A : Around) (outer : List Env) (s : Shared) (H : Hp) : Prop where
 frames : A.frames = some outer
 mod : Mod K mg base
 bs : ∀ b o, base.get? b = some o -> s.heap.get? b = some o /\ H b = none
 Ei : base.objs.size <= s.heap.objs.size
 kq : s.heap.FunFrames base outer
 Fo : ∀ b ∈ eL outer, H b = none
 bD : k7 P w H s.heap
 bare : AllBare s.gens
def CE (outer : List Env) (P : Program) (w : World) (H : Hp) (s : Shared) (Q : VK) (u : Value) (s' : Shared) : Prop :=
 ∃ v H', s'.os = s.os /\ AllBare s'.gens /\ Un (eL outer) [] H H' s.heap s'.heap /\ k7 P w H' s'.heap /\ RelV v u /\ Q v H'
def CR (CX : yW) (outer : List Env) (P : Program) (w : World) (H : Hp) (s : Shared) (Q : VK) (E : XK) (r : Result) (s' : Shared) : Prop :=
 match r with
 | .ok (.ret u) => CE outer P w H s Q u s'
 | .ok _ => False
 | .error e => CX outer H s E e s'
structure fu (P : Program) (w : World) (K : W.Frag) (mg : Str -> Option Value) (base : Heap) (CX : yW) (k : Nat) (f : Addr) (fd : FuncData) (ps : List Str) (sp : Sp) : Prop where
 len : ∀ vs H Q E, sp vs H Q E -> vs.length = ps.length
 run : ∀ (A : Around) (outer : List Env) (s : Shared) (H : Hp) (args : Args) (us : List Value) (vs : List V) (Q : VK) (E : XK), dc k A -> yU P w K mg base A outer s H -> BindsTo s fd args (ps.zip us) -> Vals vs us -> sp vs H Q E ->
  codeAny (model P w) A (.call (.ref f) args) (CR CX outer P w H s Q E) s
theorem fu.mono {P : Program} {w : World} {K : W.Frag} {mg : Str -> Option Value} {base : Heap} {CX : yW} {j k : Nat} {f : Addr} {fd : FuncData} {ps : List Str} {sp : Sp} (F : fu P w K mg base CX j f fd ps sp) (h : j <= k) :
  fu P w K mg base CX k f fd ps sp := ⟨F.len, fun A outer s H args us vs Q E hr => F.run A outer s H args us vs Q E (hr.mono h)⟩
theorem yU.make {P : Program} {w : World} {K : W.Frag} {mg : Str -> Option Value} {base : Heap} {A : Around} {outer : List Env} {s : Shared} {H : Hp} (e : yU P w K mg base A outer s H) (C : Addr) (us : List Value) (kw : List (Str × Value)) :
  yU P w K mg base (A.under (.builtin "type.__call__" ⟨.ref C :: us, kw⟩)) outer s H := ⟨by first | exact e.frames | (simpa [Around.under, Code.envs, Code.isFrame, pushEnvs] using e.frames), e.mod, e.bs, e.Ei, e.kq, e.Fo, e.bD, e.bare⟩
section
variable {X : Cx} {pins : List (Addr × Obj)} {σ : St} {H : Hp} {s s' : Shared}
theorem Inv.KA (I : Inv X pins σ H s) : yU X.prog X.w X.K X.mg X.base X.A X.stack s H :=
 ⟨I.ok.frames, I.ok.mod, I.bs, Nat.le_trans I.ok.Ei I.sz, I.stack, I.ze, I.bD, I.bare⟩
theorem Inv.after {Q : VK} {u : Value} (I : Inv X pins σ H s) (h : CE X.stack X.prog X.w H s Q u s') : EP X pins σ Q u s' := by
 obtain ⟨v, H', os, bare, un, bD, r, q⟩ := h
 obtain ⟨hh, g, d, t, wX⟩ := s'
 obtain rfl : wX = s.os := os
 exact ⟨v, H', I.call (h' := hh) (g' := g) (d' := d) (t' := t) (ch := []) un bD bare (fun b z => absurd z (by simp)), r, q⟩
end
def zc (sp : Sp) (dvs : List V) (E : XK) (t : TA) : TE := fun σ H Q => t σ H fun vs H1 => sp (vs ++ dvs) H1 Q E
def Binds (K : W.Frag) (fd : FuncData) (ps : List Str) (ds : List Value) : Prop :=
 ∀ (s : Shared) (us : List Value), K.In s.heap -> (us ++ ds).length = ps.length -> BindsTo s fd ⟨us, []⟩ (ps.zip (us ++ ds))
theorem Binds.all {K : W.Frag} {fd : FuncData} {ps : List Str} (h : ∀ us : List Value, us.length = ps.length -> bindArgs fd ⟨us, []⟩ = pure (ps.zip us)) : Binds K fd ps [] := fun s us _ hl => by
 rw [List.append_nil] at hl ⊢
 exact .of_eq (h us hl)
def Passes (CX : yW) (X : Cx) (E : XK) : Prop := ∀ (pins : List (Addr × Obj)) (σ : St) (H : Hp) (s : Shared) (e : Value) (s' : Shared), Inv X pins σ H s -> CX X.stack H s E e s' -> X.xe e s'
section
variable {X : Cx} {CX : yW} {k : Nat} {f C : Addr} {fd : FuncData} {ps : List Str} {sp : Sp} {dvs : List V} {ds : List Value} {E : XK} {x m : Str} {p pos apos : Pos} {e o : Expr} {es : List Expr} {ta : TE} {t : TA}
theorem xB {pins : List (Addr × Obj)} {σ : St} {H : Hp} {s : Shared} {Q : VK} {us : List Value} {vs : List V} (F : fu X.prog X.w X.K X.mg X.base CX k f fd ps sp) (hr : dc k X.A) (hb : Binds X.K fd ps ds) (hd : Vals dvs ds) (hx : Passes CX X E)
  (I : Inv X pins σ H s) (r : Vals vs us) (h : sp (vs ++ dvs) H Q E) : wpAny (model X.prog X.w) X.A (call (.ref f) us) (EP X pins σ Q) X.xe s := by
 have r2 : Vals (vs ++ dvs) (us ++ ds) := r.append hd
 have hl : (us ++ ds).length = ps.length := by rw [<- r2.length]; exact F.len _ _ _ _ h
 refine wpAny_call (codeAny_mono (F.run X.A X.stack s H ⟨us, []⟩ (us ++ ds) (vs ++ dvs) Q E hr I.KA (hb s us I.gu hl) r2 h) fun r s' hq => ?_)
 cases r with
 | error e => exact hx pins σ H s e s' I hq
 | ok fl =>
  cases fl with
  | ret u => exact I.after hq
  | next => exact False.elim hq
  | brk => exact False.elim hq
  | cont => exact False.elim hq
theorem EG (F : fu X.prog X.w X.K X.mg X.base CX k f fd ps sp) (hr : dc k X.A) (hg : Gl X x) (hm : X.mg x = some (.ref f)) (hk : W.keepIn X.K (.ref f) = true) (hb : Binds X.K fd ps ds) (hd : Vals dvs ds) (hx : Passes CX X E)
  (ha : PA X (e :: es) t) (wk : (x == ("__debug__" : Str)) = false := by decide) (he : starEach (e :: es) X.env = (false, eval e X.env) :: starEach es X.env := by rfl) (wb : (backTo pos (starEach es X.env)).any (·.1) = false := by rfl) :
  PE X (.Call (.Name x p) (e :: es) [] pos) (zc sp dvs E t) := by
 intro pins s σ H Q I h
 refine wpAny_Call_Name_kw (fF I hg hm ?_ wk)
 refine W.callWith_K (h₀ := X.base) I.ok.mod.IU hk (bI (ha pos pins s σ H _ I h) fun us s1 ⟨vs, H1, I1, r, q⟩ => ⟨I1.gu, ?_⟩) he wb
 exact xB F hr hb hd hx I1 r q
theorem CC (F : fu X.prog X.w X.K X.mg X.base CX k f fd ps sp) (hr : dc k X.A) (hg : Gl X x) (hm : X.mg x = some (.ref f)) (hk : W.keepIn X.K (.ref f) = true) (hb : Binds X.K fd ps ds) (hd : Vals dvs ds) (hx : Passes CX X E)
  (wk : (x == ("__debug__" : Str)) = false := by decide) : PE X (.Call (.Name x p) [] [] pos) (zc sp dvs E tq) := by
 intro pins s σ H Q I h
 refine wpAny_Call_Name_kw (fF I hg hm ?_ wk)
 exact W.callWith_K0 I.gu hk (xB (us := []) F hr hb hd hx I .nil h)
structure Mk (K : W.Frag) (C f : Addr) : Prop where
 makes : W.makesIn K C = true
 init : W.findIn K (.ref C) "__init__" = some (some (.ref f))
 fn : W.isFn K (.ref f) = true
 kp : W.keepIn K (.ref C) = true
theorem lh {pins : List (Addr × Obj)} {σ : St} {H : Hp} {s : Shared} {Q : VK} {us : List Value} {vs : List V} (M : Mk X.K C f) (F : fu X.prog X.w X.K X.mg X.base CX k f fd ps sp) (hr : dc (k + 1) X.A) (hb : Binds X.K fd ps ds) (hd : Vals dvs ds)
  (hx : Passes CX X E) (I : Inv X pins σ H s) (r : Vals vs us)
  (h : ∀ x dx, H x = none -> H dx = none -> dx ≠ x -> sp (.ref x :: (vs ++ dvs)) (upd (upd H dx (.own x)) x (.ins C dx [])) (fun v H2 => v = .bf /\ Q (.ref x) H2) E) :
  wpAny (model X.prog X.w) X.A (call (.ref C) us) (EP X pins σ Q) X.xe s := by
 have hq := h (s.heap.objs.size + 1) s.heap.objs.size (I.bD.fresh (Nat.le_succ _)) (I.bD.fresh (zA0 _)) (Nat.ne_of_lt (Nat.lt_succ_self _))
 have I2 := Inv.made (C := C) I
 have r2 : Vals (V.ref (s.heap.objs.size + 1) :: (vs ++ dvs)) (Value.ref (s.heap.objs.size + 1) :: (us ++ ds)) := .cons rfl (r.append hd)
 have hl : (Value.ref (s.heap.objs.size + 1) :: us ++ ds).length = ps.length := by
  have e := r2.length
  rw [F.len _ _ _ _ hq] at e
  exact e.symm
 refine wpAny_call (CU (f := f) I.gu M.makes M.init (beq_iff_eq.mp M.fn) (codeAny_mono (F.run _ X.stack _ _ ⟨Value.ref (s.heap.objs.size + 1) :: us, []⟩ (Value.ref (s.heap.objs.size + 1) :: (us ++ ds)) _ _ E (hr.make C us [])
  (I2.KA.make C us []) (hb _ (Value.ref (s.heap.objs.size + 1) :: us) I2.gu hl) r2 hq) fun r s' Gh => ?_))
 cases r with
 | error e => exact hx pins σ _ _ e s' I2 Gh
 | ok fl =>
  cases fl with
  | ret u =>
   obtain ⟨v, H', I3, rv, ev, q3⟩ := I2.after Gh
   subst ev
   exact ⟨rv, ⟨V.ref (s.heap.objs.size + 1), H', I3, rfl, q3⟩⟩
  | next => exact False.elim Gh
  | brk => exact False.elim Gh
  | cont => exact False.elim Gh
end
section
variable {X : Cx} {CX : yW} {k : Nat} {f C : Addr} {fd : FuncData} {ps ks : List Str} {sp : Sp} {E : XK} {x m : Str} {p pos apos Qs : Pos} {e o : Expr} {es : List Expr} {RH : List Keyword} {te ta : TE} {t tk : TA} {nm : Option Str}
variable {g : List Value -> List Value -> List Value} {gV : List V -> List V -> List V}
end
structure aq (N P : List Str) (sc : Scope) : Prop where
 kind : sc.kind = .function
 co : sc.isCoroutine = false
 gen : sc.isGenerator = false
 nd : N.Nodup
 pre : N.take P.length = P
 par : ∀ x ∈ P, sc.names.lookup x = some .local \/ sc.names.lookup x = some .cell
 Hg : ∀ y ∈ sc.names, y.2 ≠ .free
theorem sQ {kindOf : Str -> Option NameKind} {x : Str} : ∀ {binds : List (Str × Value)} {m : Str -> Option Value}, (∀ v, (x, v) ∉ binds) -> bindL kindOf binds m x = m x
 | [], _, _ => rfl
 | (n, v) :: r, m, h => by
  unfold bindL
  rw [sQ fun w hw => h w (List.mem_cons_of_mem _ hw)]
  split
  ·have : x ≠ n := by rintro rfl; exact h v zA2
   simp [this]
  ·rfl
theorem sS {kindOf : Str -> Option NameKind} {x : Str} : ∀ {binds : List (Str × Value)} {m : Str -> Option Value}, (∀ v, (x, v) ∉ binds) -> bindC kindOf binds m x = m x
 | [], _, _ => rfl
 | (n, v) :: r, m, h => by
  unfold bindC
  rw [sS fun w hw => h w (List.mem_cons_of_mem _ hw)]
  split
  ·rfl
  ·have : x ≠ n := by rintro rfl; exact h v zA2
   simp [this]
theorem sR {kindOf : Str -> Option NameKind} {x : Str} {v : Value} : ∀ {P : List Str} {vs : List Value} {i : Nat} {m : Str -> Option Value}, P.Nodup -> P[i]? = some x -> vs[i]? = some v -> kindOf x = some .local ->
  bindL kindOf (P.zip vs) m x = some v
 | [], _, _, _, _, h, _, _ => by simp at h
 | _ :: _, [], _, _, _, _, h, _ => by simp at h
 | p :: P, w :: vs, 0, m, nd, h1, h2, hk => by
  simp at h1 h2; subst h1; subst h2
  show bindL kindOf ((p, w) :: P.zip vs) m p = _
  unfold bindL
  rw [sQ fun v hv => (List.nodup_cons.mp nd).1 (List.of_mem_zip hv).1, if_pos hk]
  simp
 | p :: P, w :: vs, i + 1, m, nd, h1, h2, hk => by
  show bindL kindOf ((p, w) :: P.zip vs) m x = _
  unfold bindL
  exact sR (i := i) (List.nodup_cons.mp nd).2 (by simpa using h1) (by simpa using h2) hk
theorem sU {kindOf : Str -> Option NameKind} {x : Str} {v : Value} : ∀ {P : List Str} {vs : List Value} {i : Nat} {m : Str -> Option Value}, P.Nodup -> P[i]? = some x -> vs[i]? = some v -> kindOf x ≠ some .local ->
  bindC kindOf (P.zip vs) m x = some v
 | [], _, _, _, _, h, _, _ => by simp at h
 | _ :: _, [], _, _, _, _, h, _ => by simp at h
 | p :: P, w :: vs, 0, m, nd, h1, h2, hk => by
  simp at h1 h2; subst h1; subst h2
  show bindC kindOf ((p, w) :: P.zip vs) m p = _
  unfold bindC
  rw [sS fun v hv => (List.nodup_cons.mp nd).1 (List.of_mem_zip hv).1, if_neg hk]
  simp
 | p :: P, w :: vs, i + 1, m, nd, h1, h2, hk => by
  show bindC kindOf ((p, w) :: P.zip vs) m x = _
  unfold bindC
  exact sU (i := i) (List.nodup_cons.mp nd).2 (by simpa using h1) (by simpa using h2) hk
def start (N : List Str) (vs : List V) : St := vs.map some ++ List.replicate (N.length - vs.length) none
noncomputable def dU (CX : yW) (P : Program) (w : World) (K : W.Frag) (mg : Str -> Option Value) (base : Heap) (N : List Str) (qual : Str) (scope : Scope) (f : Addr) (cd : Value) (A : Around) (outer : List Env) (s : Shared) (H : Hp) (E : XK) : Cx where
 prog := P
 w := w
 K := K
 mg := mg
 base := base
 A := A.deeper (envOfC qual scope s.heap.objs.size f cd)
 N := N
 s_0 := s
 H_0 := H
 env := envOfC qual scope s.heap.objs.size f cd
 outer := outer
 stack := envOfC qual scope s.heap.objs.size f cd :: outer
 ex := []
 calm := true
 fn := fun _ => true
 pn := []
 xe := fun e s' => wpAny (model P w) (A.deeper (envOfC qual scope s.heap.objs.size f cd)) (leaving (envOfC qual scope s.heap.objs.size f cd) e) (fun _ Me => CX outer H s E e Me) (fun e' Me => CX outer H s E e' Me) s'
theorem wJ {sc : Scope} {n : Nat} {x : Str} (h : sc.names.lookup x = some .cell) : ∃ c, (cellsFrom n sc.names []).lookup x = some c := by
 have q := W.cellsFrom_some sc.names n [] (.inl h)
 exact Option.isSome_iff_exists.mp q
theorem Bc {CX : yW} {P : Program} {w : World} {K : W.Frag} {mg : Str -> Option Value} {base : Heap} {N ps : List Str} {qual : Str} {scope : Scope} {f : Addr} {cd : Value} {A : Around} {outer : List Env} {s s1 : Shared} {H : Hp} {E : XK} {us : List Value} {vs : List V}
  (S : aq N ps scope) (hd : A.handled = none) (e0 : yU P w K mg base A outer s H) (hl : vs.length = ps.length) (r : Vals vs us)
  (x : InCallC s s.heap.objs.size (bindL (envOfC qual scope s.heap.objs.size f cd).kindOf (ps.zip us) fun _ => none) (cellsFrom (s.heap.objs.size + 1) scope.names []) (bindC (envOfC qual scope s.heap.objs.size f cd).kindOf (ps.zip us) fun _ => none) s1) :
  Inv (dU CX P w K mg base N qual scope f cd A outer s H E) [] (start N vs) H s1 := by
 have wb : ps.length <= N.length := by have := congrArg List.length S.pre; rw [List.length_take] at this; omega
 obtain ⟨h1, tk, rfl, hk⟩ := x.done
 have ER : ∀ b : Addr, b ∉ (dU CX P w K mg base N qual scope f cd A outer s H E).ex := fun b z => absurd (show b ∈ ([] : List Addr) from z) (by simp)
 refine ⟨⟨e0.mod, S.kind, rfl, rfl, zA0 _, fun y z c h1 h2 => ?_, fun y hy => ?_, fun y c _ h => ?_, fun _ => hd, Around.frames_deeper e0.frames, .inr ⟨rfl, rfl⟩, fun b z => absurd z (ER b), e0.bs, e0.Ei, fun b _ _ => ER b, fun b z => absurd z (ER b), e0.kq, e0.Fo⟩,
  rfl, e0.bare, Un.kept hk, ⟨_, x.toInCall.ns, fun i y v h1 h2 h3 => ?_⟩, fun y c h => ⟨_, x.cell y c h⟩, e0.bD.fresh (zA0 _), fun y c h => ?_, fun p hp => absurd (show p ∈ ([] : List (Addr × Obj)) from hp) (by simp), e0.bD.kept hk, ?_⟩
 ·exact name_of_addr x.apart (PySem.mem_of_lookup h1) (PySem.mem_of_lookup h2)
 ·have hy : scope.names.lookup y = some .cell \/ scope.names.lookup y = some .free := hy
  rcases hy with hy | hy
  ·exact wJ hy
  ·exact absurd rfl (S.Hg _ (PySem.mem_of_lookup hy))
 ·exact Nat.le_of_lt (x.above y c (PySem.mem_of_lookup h))
 ·have hi : i < vs.length := by
   unfold start at h2
   by_cases hi : i < vs.length
   ·exact hi
   ·rw [List.getElem?_append_right (by simpa using hi)] at h2
    rw [List.getElem?_replicate] at h2
    split at h2 <;> cases h2
  have ha : vs[i]? = some v := by
   unfold start at h2
   rw [List.getElem?_append_left (by simpa using hi), List.getElem?_map] at h2
   cases e : vs[i]? with
   | none => rw [e] at h2; cases h2
   | some a => rw [e] at h2; cases h2; rfl
  obtain ⟨u, hu, rv⟩ := r.get ha
  have hp : ps[i]? = some y := by
   rw [<- S.pre, List.getElem?_take_of_lt (by omega)]; exact h1
  have O5 : ps.Nodup := by rw [<- S.pre]; exact S.nd.sublist (List.take_sublist _ _)
  refine ⟨u, rv, ?_⟩
  rcases S.par y (List.mem_of_getElem? hp) with k | k
  ·exact .inl ⟨k, sR O5 hp hu k⟩
  ·obtain ⟨c, e⟩ := wJ (n := s.heap.objs.size + 1) k
   refine .inr ⟨.inl k, c, e, ?_⟩
   have q := x.cell y c e
   rw [sU O5 hp hu (by show scope.names.lookup y ≠ _; rw [k]; decide)] at q
   exact q
 ·exact e0.bD.fresh (Nat.le_of_lt (x.above y c (PySem.mem_of_lookup h)))
 ·unfold start
  show _ = N.length
  rw [List.length_append, List.length_map, List.length_replicate]
  omega
theorem K3 {CX : yW} {P : Program} {w : World} {K : W.Frag} {mg : Str -> Option Value} {base : Heap} {k : Nat} {f : Addr} {name qual : Str} {params : Arguments} {body : List Stmt} {scope : Scope} {dV kV doc pm aU ct oc : Value} {an od : Option Addr}
  {o4 : Array (Option Value)} {N ps : List Str} {sp : Sp} (lk : K.lookup f = some ⟨oc, od, .func (W.fnOf name qual params body scope dV kV doc pm an aU ct), o4⟩) (Eg : W.codeIn K aU qual = true) (S : aq N ps scope)
  (len : ∀ vs H Q E, sp vs H Q E -> vs.length = ps.length)
  (qi : ∀ (A : Around) (outer : List Env) (s : Shared) (H : Hp) (vs : List V) (Q : VK) (E : XK), dc k (A.deeper (envOfC qual scope s.heap.objs.size f aU)) -> sp vs H Q E ->
   ∃ t, Ak (dU CX P w K mg base N qual scope f aU A outer s H E) body t /\ t { nx := fun _ H' => Q .bf H', rt := Q } (start N vs) H) :
  fu P w K mg base CX (k + 1) f (W.fnOf name qual params body scope dV kV doc pm an aU ct) ps sp := by
 refine ⟨len, fun A outer s H args us vs Q E hr e0 hb r wY => ?_⟩
 have hl := len _ _ _ _ wY
 have KX : K.In s.heap := e0.mod.IU.keeps fun b o e => (e0.bs b o e).1
 have lim : s.heap.NoLimit := e0.mod.nolimit.keeps fun b o e => (e0.bs b o e).1
 have Ks : ∀ y ∈ ps.zip us, scope.names.lookup y.1 = some .local \/ (scope.names.lookup y.1 = some .cell /\ ((cellsFrom (s.heap.objs.size + 1) scope.names []).lookup y.1).isSome = true) := fun ⟨n, v⟩ hy => by
  rcases S.par n (List.of_mem_zip hy).1 with q | q
  ·exact .inl q
  ·exact .inr ⟨q, W.cellsFrom_some _ _ _ (.inl q)⟩
 refine codeAny_call_function hr.depth (KX _ _ lk) rfl S.co S.gen rfl (W.codeRec_of KX Eg) (hb _ _ _ _ ?_)
 refine wpAny_newFunctionEnv_cells S.kind Ks fun env he s1 x => ?_
 subst he
 refine ⟨lim.keeps x.toInCall.keep, codeAny_func ?_⟩
 obtain ⟨t, ht, hq⟩ := qi A outer s H vs Q E (hr.deeper _) wY
 have I : Inv (dU CX P w K mg base N qual scope f aU A outer s H E) [] (start N vs) H s1 := Bc S hr.hd e0 hl r x
 refine wpAny_mono (ht [] s1 (start N vs) H _ I hq) (fun fl s' hs => ?_) fun e s' hs => hs
 have fin : ∀ {σ' : St} {H' : Hp} {v : V} {u : Value}, Inv (dU CX P w K mg base N qual scope f aU A outer s H E) [] σ' H' s' -> RelV v u -> Q v H' -> CE outer P w H s Q u s' :=
  fun {σ' H' v u} J rv q => ⟨v, H', J.os, J.bare, J.base, J.bD, rv, q⟩
 cases fl with
 | ret u =>
  obtain ⟨v, σ', H', J, rv, q⟩ := hs
  exact fin J rv q
 | next =>
  obtain ⟨σ', H', J, q⟩ := hs
  exact fin (v := V.bf) (u := Value.none) J rfl q
 | brk =>
  obtain ⟨_, _, _, q⟩ := hs
  exact False.elim q
 | cont =>
  obtain ⟨_, _, _, q⟩ := hs
  exact False.elim q
end L2
namespace L2
open PySem Spec PyProof.Rows
section
variable {X : Cx} {x : Str} {p pos : Pos} {e : Expr} {es : List Expr} {t : TA} {id T : String} {r : List V -> Hp -> VK -> Prop}
def Oc (r : List V -> Hp -> VK -> Prop) (t : TA) : TE := fun σ H Q => t σ H fun vs H1 => r vs H1 Q
theorem a7 (hc : lR X (.builtin id) r) (hg : Gl X x) (hm : X.mg x = none) (hv : bootBuiltins x = some (.builtin id)) (ha : PA X (e :: es) t) (hn : x ≠ "__name__" := by decide) (wk : (x == ("__debug__" : Str)) = false := by decide)
  (he : starEach (e :: es) X.env = (false, eval e X.env) :: starEach es X.env := by rfl) (wb : (backTo pos (starEach es X.env)).any (·.1) = false := by rfl) : PE X (.Call (.Name x p) (e :: es) [] pos) (Oc r t) := by
 intro pins s σ H Q I h
 refine wpAny_Call_Name_kw (qc I hg hm hv ?_ hn wk)
 exact PyProof.Rows.callWith_builtin1 (bI (ha pos pins s σ H _ I h) fun us s1 ⟨vs, H1, I1, r1, q1⟩ => hc pins s1 σ H1 vs us Q I1 r1 q1) he wb
theorem eY (hc : lR X (.type T) r) (hg : Gl X x) (hm : X.mg x = none) (hv : bootBuiltins x = some (.type T)) (ha : PA X (e :: es) t) (hn : x ≠ "__name__" := by decide) (wk : (x == ("__debug__" : Str)) = false := by decide)
  (he : starEach (e :: es) X.env = (false, eval e X.env) :: starEach es X.env := by rfl) (wb : (backTo pos (starEach es X.env)).any (·.1) = false := by rfl) : PE X (.Call (.Name x p) (e :: es) [] pos) (Oc r t) := by
 intro pins s σ H Q I h
 refine wpAny_Call_Name_kw (qc I hg hm hv ?_ hn wk)
 exact PyProof.Rows.callWith_type1 (bI (ha pos pins s σ H _ I h) fun us s1 ⟨vs, H1, I1, r1, q1⟩ => hc pins s1 σ H1 vs us Q I1 r1 q1) he wb
end
end L2
namespace HT
open PySem PyProof.Rows
section
open PySem.SeqAt
open PySem.AutoSeq1 (wpAny_loadPart')
open PySem.MeetsSeq PySem.MeetsSeq2 PySem.MeetsSeq3
end
section
variable {prog : Program} {w : World} {A : Around} {E : Value -> Shared -> Prop} {s : Shared}
def dm (n d : Nat) : Option Int -> Nat
 | none => d
 | some v => if v < 0 then (v + (n : Int)).toNat else min v.toNat n
theorem dX (n d k : Nat) : dm n d (some (k : Int)) = min k n := by
 show (if (k : Int) < 0 then ((k : Int) + (n : Int)).toNat else min (k : Int).toNat n) = min k n
 rw [if_neg (by omega), Int.toNat_natCast]
theorem GG (n d : Nat) (hd : d <= n) (o : Option Int) : dm n d o <= n := by
 cases o with
 | none => exact hd
 | some v =>
  show (if v < 0 then (v + (n : Int)).toNat else min v.toNat n) <= n
  by_cases hv : v < 0
  ·rw [if_pos hv]; omega
  ·rw [if_neg hv]; exact Nat.min_le_right _ _
theorem Ac (v : Int) (n d : Nat) : (if v < 0 then max (v + (n : Int)) 0 else min v (n : Int)) = ((dm n d (some v) : Nat) : Int) := by
 show (if v < 0 then max (v + (n : Int)) 0 else min v (n : Int)) = (((if v < 0 then (v + (n : Int)).toNat else min v.toNat n) : Nat) : Int)
 by_cases hv : v < 0
 ·simp only [if_pos hv]; omega
 ·simp only [if_neg hv]; omega
theorem yM (lo hi : Option Int) (n : Nat) : Builtin.Slice.sliceAdjust lo hi 1 (n : Int) = (((dm n 0 lo : Nat) : Int), ((dm n n hi : Nat) : Int)) := by
 have h1 : ¬ ((1 : Int) < 0) := by omega
 unfold Builtin.Slice.sliceAdjust
 simp only [h1, if_false]
 refine Prod.ext ?_ ?_
 ·cases lo with
  | none => rfl
  | some v => exact Ac v n 0
 ·cases hi with
  | none => rfl
  | some v => exact Ac v n n
theorem xJ (i j : Nat) : Builtin.Slice.slicePlaces (i : Int) (j : Int) 1 = j - i := by
 unfold Builtin.Slice.slicePlaces
 have h1 : (1 : Int) > 0 := by omega
 simp only [h1, if_true, Int.ediv_one]
 split <;> omega
theorem pw {v : Value} {o : Option Int} {Q : Option Int -> Shared -> Prop} (p : IsPart v o) (h : Q o s) : wpAny (model prog w) A (Builtin.Slice.slicePartIndex v) Q E s := by
 cases p with
 | none => exact slicePart_none h
 | int i t => exact slicePart_int h
theorem lW {sl : Addr} {vl vu : Value} {lo hi : Option Int} {n : Nat} {Q : Int × Int × Nat -> Shared -> Prop} (hs : s.heap.IsSliceOf sl vl vu .none) (pl : IsPart vl lo) (pu : IsPart vu hi)
  (h : Q (((dm n 0 lo : Nat) : Int), 1, dm n n hi - dm n 0 lo) s) : wpAny (model prog w) A (Builtin.Slice.sliceApplied (.ref sl) (pure (n : Int))) Q E s := by
 obtain ⟨os, Kp, OQ, L7⟩ := id hs
 unfold Builtin.Slice.sliceApplied Builtin.Slice.sliceFields
 refine wpAny_bind (wpAny_bind (wpAny_field Kp L7 (x := vl) rfl (wpAny_bind (wpAny_field Kp L7 (x := vu) rfl (wpAny_bind (wpAny_field Kp L7 (x := .none) rfl (wpAny_pure ?_)))))))
 refine wpAny_bind (slicePart_none ?_)
 show wpAny _ _ (if ((1 : Int) == 0) = true then _ else _) _ _ s
 rw [if_neg (by decide)]
 refine wpAny_bind (pw pl (wpAny_bind (pw pu (wpAny_bind (wpAny_pure ?_)))))
 show wpAny _ _ (match Builtin.Slice.sliceAdjust lo hi 1 (n : Int) with | (lo, hi) => pure (lo, (1 : Int), Builtin.Slice.slicePlaces lo hi 1)) _ _ s
 rw [yM lo hi n]
 show wpAny _ _ (pure (((dm n 0 lo : Nat) : Int), (1 : Int), Builtin.Slice.slicePlaces ((dm n 0 lo : Nat) : Int) ((dm n n hi : Nat) : Int) 1)) _ _ s
 rw [xJ]
 exact wpAny_pure h
theorem C9 (xs : Array Value) (i k : Nat) : ((List.range k).filterMap fun (m : Nat) => xs[((i : Int) + (m : Int) * 1).toNat]?).toArray = ((xs.toList.drop i).take k).toArray := by
 have e : (fun (m : Nat) => xs[((i : Int) + (m : Int) * 1).toNat]?) = fun m => xs[i + m]? := by
  funext m
  have : ((i : Int) + (m : Int) * 1).toNat = i + m := by omega
  rw [this]
 rw [e]
 have := pick_run xs i k
 rw [List.filterMap_map] at this
 have e2 : ((fun x => xs[x]?) ∘ fun x => i + x) = fun m => xs[i + m]? := rfl
 rw [e2] at this
 rw [this]
theorem lE {t sl : Addr} {items : Array Value} {vl vu : Value} {lo hi : Option Int} {Q : Value -> Shared -> Prop} (ht : IsTup s.heap t items) (hs : s.heap.IsSliceOf sl vl vu .none) (pl : IsPart vl lo) (pu : IsPart vu hi)
  (hw : ¬ (dm items.size 0 lo = 0 /\ dm items.size items.size hi = items.size))
  (h : Q (.ref s.heap.objs.size) { s with heap := s.heap.push { cls := .type "tuple", data := .seq ((items.toList.drop (dm items.size 0 lo)).take (dm items.size items.size hi - dm items.size 0 lo)).toArray } })
  (hsz : items.size <= sizeLine) : wpAny (model prog w) A (getItem (.ref t) (.ref sl)) Q E s := by
 have zN : sizeOk (.seq ((items.toList.drop (dm items.size 0 lo)).take (dm items.size items.size hi - dm items.size 0 lo)).toArray) := by
  show ((items.toList.drop (dm items.size 0 lo)).take (dm items.size items.size hi - dm items.size 0 lo)).toArray.size <= sizeLine
  rw [List.size_toArray, List.length_take, List.length_drop, Array.length_toList]
  omega
 have hj : dm items.size items.size hi <= items.size := GG _ _ (zA0 _) hi
 obtain ⟨os, Kp, OQ, L7⟩ := id hs
 have QQ : s.TypeIs (.ref sl) "slice" := ⟨os, Kp, OQ⟩
 unfold getItem
 try with_reducible refine wpAny_holding ?_
 first | refine wpAny_bind (wpAny_pure ?_) | skip
 refine wpAny_bind (wpAny_sequenceKey ht.typeIs (by decide) ?_)
 refine wpAny_bind (wpAny_callSpecial?_slot (name := Str.ofString "__getitem__") ht.typeIs PyProof.Rows.slot_tuple_getitem
  (wpAny_call_entry PyProof.Rows.slot_tuple_getitem ht.typeIs entry_tuple_getitem ?_ (args_tuple_getitem _ _)))
 show wpAny _ _ (Builtin.Tuple.tupleItemsOf (.ref t) >>= _) _ _ s
 refine wpAny_bind (tupleItemsOf_ ht ?_)
 refine wpAny_bind (wpAny_typeOf QQ ?_)
 rw [if_pos (by decide)]
 refine wpAny_bind (lW hs pl pu ?_)
 have HU : ¬ ((((dm items.size 0 lo : Nat) : Int) == 0 && (1 : Int) == 1 && (dm items.size items.size hi - dm items.size 0 lo) == items.size) = true) := by
  intro q
  rw [Bool.and_eq_true, Bool.and_eq_true] at q
  have q1 : ((dm items.size 0 lo : Nat) : Int) = 0 := eq_of_beq q.1.1
  have q2 : dm items.size items.size hi - dm items.size 0 lo = items.size := eq_of_beq q.2
  exact hw ⟨by omega, by omega⟩
 show wpAny _ _ (if (((dm items.size 0 lo : Nat) : Int) == 0 && (1 : Int) == 1 && (dm items.size items.size hi - dm items.size 0 lo) == items.size) = true then _ else _) _ _ s
 rw [if_neg HU, C9]
 first
  | exact wpAny_bind (m := Builtin.Tuple.tupleExact _) (wpAny_newObj_type (wpAny_pure ⟨_, rfl, wpAny_pure h⟩) zN)
  | exact wpAny_bind (m := Builtin.Tuple.tupleExact _) (wpAny_newObj_type (wpAny_bind (wpAny_pure (wpAny_pure ⟨_, rfl, wpAny_pure h⟩))) zN)
  | exact wpAny_bind (wpAny_bind (m := Builtin.Tuple.tupleExact _) (wpAny_newObj_type (wpAny_pure (wpAny_pure ⟨_, rfl, wpAny_pure h⟩)) zN))
  | exact wpAny_bind (wpAny_bind (m := Builtin.Tuple.tupleExact _) (wpAny_newObj_type (wpAny_pure ⟨_, rfl, wpAny_pure h⟩) zN))
end
end HT
namespace L2
open PySem Spec PyProof.Rows
abbrev TO := St -> Hp -> (Option Int -> Hp -> Prop) -> Prop
def PO (X : Cx) (e : Option Expr) (t : TO) : Prop :=
 ∀ (pins : List (Addr × Obj)) (s : Shared) (σ : St) (H : Hp) (Q : Option Int -> Hp -> Prop), Inv X pins σ H s -> t σ H Q ->
  wpAny (model X.prog X.w) X.A (evalPart e X.env) (fun u s' => ∃ o H', Inv X pins σ H' s' /\ IsPart u o /\ Q o H') X.xe s
def Et : TO := fun _ H Q => Q none H
def Jv (t : TE) : TO := fun σ H Q => t σ H fun x H1 => ∃ i, x = .int i /\ Q (some i) H1
section
variable {X : Cx} {e : Expr} {te : TE} {lo hi : Option Expr} {tl th : TO} {pos p2 : Pos}
theorem oN : PO X none Et := by
 intro pins s σ H Q I h
 rw [evalPart_none]
 exact wpAny_pure ⟨none, H, I, .none, h⟩
theorem fB (h : PE X e te) : PO X (some e) (Jv te) := by
 intro pins s σ H Q I hw
 rw [evalPart_some]
 refine bI (h pins s σ H _ I hw) fun u s1 qq => ?_
 obtain ⟨x, H1, I1, r1, q1⟩ := qq
 obtain ⟨i, rfl, q⟩ := q1
 obtain ⟨t, rfl⟩ := r1
 exact ⟨some i, H1, I1, .int i t, q⟩
def NO (X : Cx) (r : V -> Option Int -> Option Int -> Hp -> VK -> Prop) : Prop :=
 ∀ (pins : List (Addr × Obj)) (s : Shared) (σ : St) (H : Hp) (x : V) (v vl vu : Value) (lo hi : Option Int) (sl : Addr) (Q : VK), Inv X pins σ H s -> RelV x v -> s.heap.IsSliceOf sl vl vu .none -> IsPart vl lo -> IsPart vu hi -> r x lo hi H Q ->
  ∃ T id, typeLookup (.type T) "__getitem__" = pure (some (.builtin id)) /\ s.TypeIs v T /\ wpAny (model X.prog X.w) X.A (getItem v (.ref sl)) (EP X pins σ Q) X.xe s
def P2 (r : V -> Option Int -> Option Int -> Hp -> VK -> Prop) (te : TE) (tl th : TO) : TE := fun σ H Q => te σ H fun x H1 => tl σ H1 fun l H2 => th σ H2 fun u H3 => r x l u H3 Q
theorem gj {r : V -> Option Int -> Option Int -> Hp -> VK -> Prop} (hr : NO X r) (he : PE X e te) (hl : PO X lo tl) (hu : PO X hi th) : PE X (.Subscript e (.Slice lo hi none p2) pos) (P2 r te tl th) := by
 intro pins s σ H Q I h
 refine Subscript_ (bI (he pins s σ H _ I h) fun v s1 qq => ?_)
 obtain ⟨x, H1, I1, r1, q1⟩ := qq
 refine wpAny_Slice (bI (hl pins s1 σ H1 _ I1 q1) fun vl s2 ⟨l, H2, I2, pl, q2⟩ => bI (hu pins s2 σ H2 _ I2 q2) fun vu s3 qq => ?_)
 obtain ⟨u, H3, I3, pu, q3⟩ := qq
 rw [evalPart_none]
 refine wpAny_pure ?_
 have I4 : Inv X pins σ H3 { s3 with heap := s3.heap.push { cls := .type "slice", data := .fields #[vl, vu, .none] } } := I3.kept (t' := s3.toks) fun b ob q => Heap.get?_push_of_some _ q
 obtain ⟨T, id, hT, ht, hg⟩ := hr pins { s3 with heap := s3.heap.push { cls := .type "slice", data := .fields #[vl, vu, .none] } } σ H3 x v vl vu l u s3.heap.objs.size Q I4 r1 (Heap.IsSliceOf.new ..) pl pu q3
 show wpAny (model X.prog X.w) X.A (subscriptTail e (.Slice lo hi none p2) v (.ref s3.heap.objs.size)) (EP X pins σ Q) X.xe { s3 with heap := s3.heap.push { cls := .type "slice", data := .fields #[vl, vu, .none] } }
 exact tail_any (ops := [.ref s3.heap.objs.size, v]) ht hT hg (by with_unfolding_all rfl)
def gw (xs : List V) (lo hi : Option Int) : List V := (xs.drop (HT.dm xs.length 0 lo)).take (HT.dm xs.length xs.length hi - HT.dm xs.length 0 lo)
theorem om (xs : List V) (lo hi : Option Int) : (gw xs lo hi).length <= xs.length := by
 unfold gw
 rw [List.length_take, List.length_drop]
 omega
def Mj (K : W.Frag) : V -> Option Int -> Option Int -> Hp -> VK -> Prop := fun x lo hi H Q => ∃ a xs, x = .ref a /\ ft K H a xs /\
 ¬ (HT.dm xs.length 0 lo = 0 /\ HT.dm xs.length xs.length hi = xs.length) /\ ∀ p, H p = none -> Q (.ref p) (upd H p (.tup (gw xs lo hi)))
theorem GA : NO X (Mj X.K) := by
 intro pins s σ H x v vl vu lo hi sl Q I rx hs pl pu h
 obtain ⟨a, xs, rfl, hx, hw, q⟩ := h
 cases rx
 obtain ⟨aF, r, ht, hz⟩ := I.tuple hx
 have hlen : aF.toArray.size = xs.length := by rw [List.size_toArray]; exact r.length.symm
 refine ⟨"tuple", _, PyProof.Rows.slot_tuple_getitem.lookup, ht.typeIs, ?_⟩
 refine HT.lE ht hs pl pu (by rw [hlen]; exact hw) ?_ (by rw [hlen]; exact hz)
 rw [hlen]
 refine ⟨.ref s.heap.objs.size, _, I.laid (t' := s.toks) (o := .tup (gw xs lo hi)) (fun b ob q => Heap.get?_push_of_some _ q) (zA0 _) ?_, rfl, q _ (I.bD.fresh (zA0 _))⟩
 exact ⟨Nat.le_trans (om xs lo hi) hz, _, (r.drop (HT.dm xs.length 0 lo)).take (HT.dm xs.length xs.length hi - HT.dm xs.length 0 lo), IsTup.new _ _⟩
end
end L2
namespace L2
open PySem Spec PyProof.Rows
def BJ (n : Nat) (i : Int) : Option Nat := if 0 <= i then (if i < n then some i.toNat else none) else if -(n : Int) <= i then some (i + n).toNat else none
def gY {α : Type} (xs : List α) (i : Int) : Option α := (BJ xs.length i).bind fun j => xs[j]?
theorem zJ {n : Nat} {i : Int} {j : Nat} (h : BJ n i = some j) : seqIndex? i n = some j /\ j < n /\ -(n : Int) <= i /\ i < n := by
 unfold BJ at h
 by_cases h0 : 0 <= i
 ·rw [if_pos h0] at h
  by_cases h1 : i < n
  ·rw [if_pos h1] at h
   have e : i.toNat = j := Option.some.inj h
   exact ⟨by rw [seqIndex_of h0 h1, e], by omega, by omega, h1⟩
  ·rw [if_neg h1] at h; cases h
 ·rw [if_neg h0] at h
  by_cases h1 : -(n : Int) <= i
  ·rw [if_pos h1] at h
   have e : (i + n).toNat = j := Option.some.inj h
   exact ⟨by rw [seqIndex_neg (by omega) h1, e], by omega, h1, by omega⟩
  ·rw [if_neg h1] at h; cases h
theorem Ai {α : Type} {xs : List α} {i : Int} {v : α} (h : gY xs i = some v) : ∃ j, seqIndex? i xs.length = some j /\ xs[j]? = some v /\ j < xs.length /\ -(xs.length : Int) <= i /\ i < xs.length := by
 unfold gY at h
 cases e : BJ xs.length i with
 | none => rw [e] at h; cases h
 | some j =>
  rw [e] at h
  obtain ⟨h1, h2, h3, h4⟩ := zJ e
  exact ⟨j, h1, h, h2, h3, h4⟩
theorem eW {α : Type} {xs : List α} {j : Nat} {v : α} (h : xs[j]? = some v) : gY xs (j : Int) = some v := by
 have hj : j < xs.length := (List.getElem?_eq_some_iff.mp h).1
 have e : BJ xs.length (j : Int) = some j := by
  unfold BJ
  rw [if_pos (by omega), if_pos (by omega)]; simp
 unfold gY; rw [e]; exact h
def FI (b : Expr) : Prop := ∀ o i, subscripted b false o i = operate [o, i] (getItem o i)
def NT (X : Cx) (r : R2) : Prop :=
 ∀ (value slice : Expr) (pins : List (Addr × Obj)) (s : Shared) (σ : St) (H : Hp) (x y : V) (v u : Value) (Q : VK), Inv X pins σ H s -> RelV x v -> RelV y u -> r x y H Q ->
  subscripted slice false v u = operate [v, u] (getItem v u) -> wpAny (model X.prog X.w) X.A (subscriptTail value slice v u) (EP X pins σ Q) X.xe s
def NR (X : Cx) (id : String) (r : V -> List V -> Hp -> VK -> Prop) : Prop :=
 ∀ (pins : List (Addr × Obj)) (s : Shared) (σ : St) (H : Hp) (x : V) (xs : List V) (v : Value) (us : List Value) (Q : VK), Inv X pins σ H s -> RelV x v -> Vals xs us -> r x xs H Q ->
  wpAny (model X.prog X.w) X.A (call (.builtin id) (v :: us)) (EP X pins σ Q) X.xe s
section
variable {X : Cx} {a b : Expr} {ta tb : TE} {pos : Pos}
theorem aB {r : R2} (hr : NT X r) (ha : PE X a ta) (hb : PE X b tb) (hs : FI b) : PE X (.Subscript a b pos) (II r ta tb) := by
 intro pins s σ H Q I h
 exact Subscript_ (Iu ha hb I h fun v u s2 x y H2 I2 rx ry q => hr a b pins s2 σ H2 x y v u Q I2 rx ry q (hs _ _))
def GK (K : W.Frag) : R2 := fun x y H Q => ∃ p xs i v, x = .ref p /\ y = .int i /\ eu K H p xs /\ gY xs i = some v /\ Q v H
def Mn (K : W.Frag) : R2 := fun x y H Q => ∃ p xs i v, x = .ref p /\ y = .int i /\ ft K H p xs /\ gY xs i = some v /\ Q v H
theorem a5 : NT X (GK X.K) := by
 intro value slice pins s σ H x y v u Q I rx ry h hs
 obtain ⟨p, xs, i, z, rfl, rfl, hq, he, q⟩ := h
 cases rx
 obtain ⟨t, rfl⟩ := ry
 obtain ⟨aF, r, pl, hz⟩ := I.list hq
 obtain ⟨j, h1, h2, h3, h4, h5⟩ := Ai he
 obtain ⟨w, ew, E4⟩ := r.get h2
 have hl := r.length
 have hn := ux
 have fin : EP X pins σ Q w s := ⟨z, H, I, E4, q⟩
 by_cases h0 : 0 <= i
 ·have hj : i.toNat = j := by
   rw [seqIndex_of h0 h5] at h1
   exact Option.some.inj h1
  exact item_listR pl.isList h0 (by omega) (by rw [hj]; simpa using ew) fin hs
 ·have hj : (i + (aF.toArray.size : Int)).toNat = j := by
   rw [seqIndex_neg (by omega) h4] at h1
   rw [List.size_toArray, <- hl]
   exact Option.some.inj h1
  exact subscriptTail_builtinR (x := w) pl.isList.typeIs slot_list_getitem.lookup
   (wpAny_getItem_list_neg (Q := fun r s' => r = w /\ EP X pins σ Q r s') pl.isList (by omega) (by rw [List.size_toArray] <;> omega) (by omega) (by rw [hj]; simpa using ew) ⟨rfl, fin⟩) hs
theorem eK : NT X (Mn X.K) := by
 intro value slice pins s σ H x y v u Q I rx ry h hs
 obtain ⟨p, xs, i, z, rfl, rfl, hq, he, q⟩ := h
 cases rx
 obtain ⟨t, rfl⟩ := ry
 obtain ⟨aF, r, pl, hz⟩ := I.tuple hq
 obtain ⟨j, h1, h2, h3, h4, h5⟩ := Ai he
 obtain ⟨w, ew, E4⟩ := r.get h2
 have hl := r.length
 have hn := ux
 have fin : EP X pins σ Q w s := ⟨z, H, I, E4, q⟩
 exact subscriptTail_builtinR (x := w) pl.typeIs slot_tuple_getitem.lookup
  (getItem_tuple (j := j) (Q := fun r s' => r = w /\ EP X pins σ Q r s') pl (by omega) (by omega) (by rw [List.size_toArray, <- hl]; exact h1) (by simpa using ew) ⟨rfl, fin⟩) hs
theorem yd (aF : List Value) (n j : Nat) (u : Value) : Obj.mapSeq (·.setIfInBounds j u) { cls := .type "list", data := .seq aF.toArray n } = { cls := .type "list", data := .seq (aF.set j u).toArray n } := by
 simp [Obj.mapSeq]
theorem Inv.lst {pins : List (Addr × Obj)} {σ : St} {H : Hp} {s : Shared} {p : Addr} {xs : List V} (I : Inv X pins σ H s) (h : H p = some (.lst xs)) :
  ∃ (aF : List Value) (n : Nat), Vals xs aF /\ s.heap.get? p = some { cls := .type "list", data := .seq aF.toArray n } /\ xs.length <= sizeLine := by
 obtain ⟨z, aF, n, r, e⟩ := I.bD p _ h
 exact ⟨aF, n, r, e, z⟩
theorem Inv.Hu {pins : List (Addr × Obj)} {σ : St} {H : Hp} {s : Shared} {p : Addr} {xs ys : List V} {aF its' : List Value} {n n' : Nat} {f : Obj -> Obj} (I : Inv X pins σ H s) (h : H p = some (.lst xs))
  (ho : s.heap.get? p = some { cls := .type "list", data := .seq aF.toArray n }) (hf : f { cls := .type "list", data := .seq aF.toArray n } = { cls := .type "list", data := .seq its'.toArray n' }) (r : Vals ys its') (hz : ys.length <= sizeLine) (t : Nat) :
  Inv X pins σ (upd H p (.lst ys)) { s with heap := s.heap.update p f, toks := t } := by
 have e : (s.heap.update p f).get? p = some { cls := .type "list", data := .seq its'.toArray n' } := by
  rw [Heap.get?_update_self f ho (by rw [hf] <;> rfl), hf]
 refine I.write (x := p) (e := p) (by rw [h]; trivial) (.inl rfl) (fun b u hb q => (Heap.get?_update_other _ _ (Ne.symm hb)).trans q) ⟨_, e⟩ ?_
 exact ⟨hz, its', n', r, e⟩
def JG : V -> V -> V -> Hp -> (Hp -> Prop) -> Prop := fun o i v H Q => ∃ p xs k j, o = .ref p /\ i = .int k /\ H p = some (.lst xs) /\ BJ xs.length k = some j /\ Q (upd H p (.lst (xs.set j v)))
theorem set_list : KP X JG := by
 intro pins s σ H o i v ov iv u Q I ro ri rv h
 obtain ⟨p, xs, k, j, rfl, rfl, hp, hj, q⟩ := h
 cases ro
 obtain ⟨t, rfl⟩ := ri
 obtain ⟨aF, n, r, ho, hz⟩ := I.lst hp
 obtain ⟨h1, h2, h3, h4⟩ := zJ hj
 have hl := r.length
 have hn := ux
 have I' : Inv X pins σ (upd H p (.lst (xs.set j v))) { s with heap := s.heap.update p (Obj.mapSeq (·.setIfInBounds j u)) } :=
  I.Hu hp ho (yd aF n j u) (r.set rv j) (by rw [List.length_set]; exact hz) s.toks
 by_cases h0 : 0 <= k
 ·have hk : k.toNat = j := by
   rw [seqIndex_of h0 h4] at h1
   exact Option.some.inj h1
  exact W.ki_setAt ho h0 (by omega) (by rw [List.size_toArray, <- hl]; exact h4) (by rw [hk]; exact ⟨_, I', q⟩)
 ·have hk : (k + (aF.toArray.size : Int)).toNat = j := by
   rw [seqIndex_neg (by omega) h3] at h1
   rw [List.size_toArray, <- hl]
   exact Option.some.inj h1
  exact W.ki_setBack ho (by omega) (by rw [List.size_toArray, <- hl]; exact h3) (by omega) (by rw [hk]; exact ⟨_, I', q⟩)
theorem tE (lo hi : Option Int) (n : Nat) : (sliceBounds lo hi none n).1 = ((HT.dm n 0 lo : Nat) : Int) /\ (sliceBounds lo hi none n).2.1 = ((HT.dm n n hi : Nat) : Int) /\ (sliceBounds lo hi none n).2.2 = 1 := by
 refine ⟨?_, ?_, rfl⟩
 ·cases lo with
  | none => simp [sliceBounds, HT.dm]
  | some i =>
   simp only [sliceBounds, HT.dm, Option.getD_none, show (1 : Int) > 0 by decide, if_true]
   by_cases h : i < 0
   ·simp only [h, if_true] <;> omega
   ·simp only [h, if_false] <;> omega
 ·cases hi with
  | none => simp [sliceBounds, HT.dm]
  | some i =>
   simp only [sliceBounds, HT.dm, Option.getD_none, show (1 : Int) > 0 by decide, if_true]
   by_cases h : i < 0
   ·simp only [h, if_true] <;> omega
   ·simp only [h, if_false] <;> omega
theorem qO (aF : List Value) (lo hi : Option Int) : slicePick aF.toArray lo hi none = ((aF.drop (HT.dm aF.length 0 lo)).take (HT.dm aF.length aF.length hi - HT.dm aF.length 0 lo)).toArray := by
 obtain ⟨h1, h2, h3⟩ := tE lo hi aF.toArray.size
 unfold slicePick
 rw [h1, h2, h3]
 simp only [sliceRange_one, pick_run, List.size_toArray] <;> rfl
def Ml (K : W.Frag) : V -> Option Int -> Option Int -> Hp -> VK -> Prop := fun x lo hi H Q => ∃ a xs, x = .ref a /\ eu K H a xs /\ ∀ p, H p = none -> Q (.ref p) (upd H p (.lst (gw xs lo hi)))
theorem kQ : NO X (Ml X.K) := by
 intro pins s σ H x v vl vu lo hi sl Q I rx hs pl pu h
 obtain ⟨a, xs, rfl, hx, q⟩ := h
 cases rx
 obtain ⟨aF, r, ht, hz⟩ := I.list hx
 have hlen := r.length
 refine ⟨"list", _, slot_list_getitem.lookup, ht.isList.typeIs, ?_⟩
 refine wpAny_getItem_list_slice ht.isList hs pl pu .none (by simp) ?_ (by rw [List.size_toArray] <;> omega)
 rw [qO, <- hlen]
 refine ⟨.ref s.heap.objs.size, _, I.laid (t' := s.toks) (o := .lst (gw xs lo hi)) (fun b ob q => Heap.get?_push_of_some _ q) (zA0 _) ?_, rfl, q _ (I.bD.fresh (zA0 _))⟩
 exact ⟨Nat.le_trans (om xs lo hi) hz, _, 0, (r.drop (HT.dm xs.length 0 lo)).take (HT.dm xs.length xs.length hi - HT.dm xs.length 0 lo), Heap.get?_push_size _ rfl⟩
def oh : V -> Bool
 | .bf => true
 | .bl _ => true
 | .int _ => true
 | .str _ => true
 | _ => false
noncomputable def rF : V -> V -> Bool
 | .bf, .bf => true
 | .bl a, .bl b => a == b
 | .bl a, .int b => (if a then 1 else 0) == b
 | .int a, .bl b => a == (if b then 1 else 0)
 | .int a, .int b => a == b
 | .str a, .str b => a == b
 | _, _ => false
theorem Io {A : Around} {s : Shared} {y x : V} {u v : Value} (ry : RelV y u) (rx : RelV x v) (fy : oh y = true) (fx : oh x = true) : SeqAt.EqAt A s u v (rF y x) := by
 cases y with
 | bf =>
  cases ry
  cases x with
  | bf => cases rx; exact SeqAt.EqAt.same _
  | bl b => cases rx; exact SeqAt.EqAt.none_bool b
  | int b => obtain ⟨t, rfl⟩ := rx; exact SeqAt.EqAt.none_int b t
  | str b => obtain ⟨t, rfl⟩ := rx; exact SeqAt.EqAt.none_str b t
  | _ => cases (show false = true from fx)
 | bl a =>
  cases ry
  cases x with
  | bf => cases rx; exact SeqAt.EqAt.bool_none a
  | bl b => cases rx; exact SeqAt.EqAt.bool_bool a b
  | int b => obtain ⟨t, rfl⟩ := rx; exact SeqAt.EqAt.bool_int a b t
  | str b => obtain ⟨t, rfl⟩ := rx; exact SeqAt.EqAt.bool_str a b t
  | _ => cases (show false = true from fx)
 | int a =>
  obtain ⟨t', rfl⟩ := ry
  cases x with
  | bf => cases rx; exact SeqAt.EqAt.int_none a t'
  | bl b => cases rx; exact SeqAt.EqAt.int_bool a t' b
  | int b => obtain ⟨t, rfl⟩ := rx; exact SeqAt.EqAt.int_int a t' b t
  | str b => obtain ⟨t, rfl⟩ := rx; exact SeqAt.EqAt.int_str a t' b t
  | _ => cases (show false = true from fx)
 | str a =>
  obtain ⟨t', rfl⟩ := ry
  cases x with
  | bf => cases rx; exact SeqAt.EqAt.str_none a t'
  | bl b => cases rx; exact SeqAt.EqAt.str_bool a t' b
  | int b => obtain ⟨t, rfl⟩ := rx; exact SeqAt.EqAt.str_int a t' b t
  | str b => obtain ⟨t, rfl⟩ := rx; exact SeqAt.EqAt.str_str a t' b t
  | _ => cases (show false = true from fx)
 | _ => cases (show false = true from fy)
noncomputable def y6 (x : V) (u : Value) : Bool := match u with
 | .none => rF .bf x
 | .bool b => rF (.bl b) x
 | .int i _ => rF (.int i) x
 | .str z _ => rF (.str z) x
 | _ => false
theorem D3 {x y : V} {u : Value} (r : RelV y u) (f : oh y = true) : y6 x u = rF y x := by
 cases y with
 | bf => cases r; rfl
 | bl b => cases r; rfl
 | int i => obtain ⟨t, rfl⟩ := r; rfl
 | str z => obtain ⟨t, rfl⟩ := r; rfl
 | _ => cases (show false = true from f)
theorem lN {x : V} : ∀ {xs : List V} {us : List Value}, Vals xs us -> xs.all oh = true -> us.any (y6 x) = xs.any fun y => rF y x
 | _, _, .nil, _ => rfl
 | y :: xs, u :: us, .cons r t, f => by
  rw [List.all_cons, Bool.and_eq_true] at f
  rw [List.any_cons, List.any_cons, D3 r f.1, lN t f.2]
theorem iN {A : Around} {s : Shared} {x : V} {v : Value} (rx : RelV x v) (fx : oh x = true) : ∀ {xs : List V} {us : List Value}, Vals xs us -> xs.all oh = true -> ∀ u ∈ us, SeqAt.EqAt A s u v (y6 x u)
 | _, _, .nil, _ => fun u hu => by cases hu
 | y :: xs, u :: us, .cons r t, f => fun u' hu => by
  rw [List.all_cons, Bool.and_eq_true] at f
  rcases List.mem_cons.mp hu with rfl | hu
  ·rw [D3 r f.1]; exact Io r rx f.1 fx
  ·exact iN rx fx t f.2 u' hu
noncomputable def Lr (x : V) (xs : List V) : Bool := xs.any fun y => rF y x
def Oj (K : W.Frag) (neg : Bool) : R2 := fun x y H Q => ∃ p xs, y = .ref p /\ (eu K H p xs \/ ft K H p xs) /\ oh x = true /\ xs.all oh = true /\ Q (.bl (if neg then !Lr x xs else Lr x xs)) H
theorem AF : ox X (compareOp .In) (Oj X.K false) := by
 intro pins s σ H x y v u Q I rx ry h
 obtain ⟨p, xs, rfl, hq, fx, fs, q⟩ := h
 cases ry
 rcases hq with hq | hq
 ·obtain ⟨aF, r, pl, hz⟩ := I.list hq
  refine SeqAt.in_listAt (y6 x) pl.isList (fun w hw => iN rx fx r fs w (by simpa using hw)) ⟨.bl _, H, I, rfl, ?_⟩
  rw [show aF.toArray.any (y6 x) = aF.any (y6 x) by simp, lN r fs]
  exact q
 ·obtain ⟨aF, r, pl, hz⟩ := I.tuple hq
  refine SeqAt.in_tupleAt (y6 x) pl (fun w hw => iN rx fx r fs w (by simpa using hw)) ⟨.bl _, H, I, rfl, ?_⟩
  rw [show aF.toArray.any (y6 x) = aF.any (y6 x) by simp, lN r fs]
  exact q
theorem uh : ox X (compareOp .NotIn) (Oj X.K true) := by
 intro pins s σ H x y v u Q I rx ry h
 obtain ⟨p, xs, rfl, hq, fx, fs, q⟩ := h
 cases ry
 rcases hq with hq | hq
 ·obtain ⟨aF, r, pl, hz⟩ := I.list hq
  refine SeqAt.notIn_listAt (y6 x) pl.isList (fun w hw => iN rx fx r fs w (by simpa using hw)) ⟨.bl _, H, I, rfl, ?_⟩
  rw [show aF.toArray.any (y6 x) = aF.any (y6 x) by simp, lN r fs]
  exact q
 ·obtain ⟨aF, r, pl, hz⟩ := I.tuple hq
  refine SeqAt.notIn_tupleAt (y6 x) pl (fun w hw => iN rx fx r fs w (by simpa using hw)) ⟨.bl _, H, I, rfl, ?_⟩
  rw [show aF.toArray.any (y6 x) = aF.any (y6 x) by simp, lN r fs]
  exact q
theorem a9 : lR X (.builtin "len") (fun xs H Q => ∃ p ys, xs = [.ref p] /\ (eu X.K H p ys \/ ft X.K H p ys) /\ Q (.int ys.length) H) := by
 intro pins s σ H xs us Q I r h
 obtain ⟨p, ys, rfl, hq, q⟩ := h
 obtain ⟨u, rfl, rx⟩ := vals1 r
 cases rx
 have hn := ux
 rcases hq with hq | hq
 ·obtain ⟨aF, r', pl, hz⟩ := I.list hq
  have hlen := r'.length
  exact Calls.call_len_list pl.isList (by simp only [List.size_toArray] <;> omega) ⟨.int ys.length, H, I.tok _, ⟨s.toks + 1, by rw [List.size_toArray, hlen]⟩, q⟩
 ·obtain ⟨aF, r', pl, hz⟩ := I.tuple hq
  have hlen := r'.length
  exact len_tuple pl (by simp only [List.size_toArray] <;> omega) ⟨.int ys.length, H, I.tok _, ⟨s.toks + 1, by rw [List.size_toArray, hlen]⟩, q⟩
theorem eT : lR X (.type "list") (fun xs H Q => ∃ p ys, xs = [.ref p] /\ (eu X.K H p ys \/ ft X.K H p ys) /\ ∀ l, H l = none -> Q (.ref l) (upd H l (.lst ys))) := by
 intro pins s σ H xs us Q I r h
 obtain ⟨p, ys, rfl, hq, q⟩ := h
 obtain ⟨u, rfl, rx⟩ := vals1 r
 cases rx
 have fin : ∀ (aF : List Value), Vals ys aF -> ys.length <= sizeLine -> ∀ (h' : Heap) (c' : Nat), (∀ b o', s.heap.get? b = some o' -> h'.get? b = some o') ->
   h'.get? s.heap.objs.size = some { cls := .type "list", dict := none, data := .seq aF.toArray c', slots := #[] } -> EP X pins σ Q (.ref s.heap.objs.size) { s with heap := h' } := fun aF r' hz h' c' kp e =>
  ⟨.ref s.heap.objs.size, _, I.laid (t' := s.toks) kp (zA0 _) (show bC X.prog X.w _ h' _ (.lst ys) from ⟨hz, aF, c', r', e⟩), rfl, q _ (I.bD.fresh (zA0 _))⟩
 rcases hq with hq | hq
 ·obtain ⟨aF, r', pl, hz⟩ := I.list hq
  have hlen := r'.length
  obtain ⟨o, ho, hc, n, hd⟩ := pl.isList
  exact call_list_seq p (.inl rfl) ho hc hd (fun h' c' kp e => fin aF r' hz h' c' kp e) (by simp only [List.size_toArray] <;> omega)
 ·obtain ⟨aF, r', pl, hz⟩ := I.tuple hq
  have hlen := r'.length
  obtain ⟨o, ho, hc, n, hd⟩ := pl
  exact call_list_seq p (.inr rfl) ho hc hd (fun h' c' kp e => fin aF r' hz h' c' kp e) (by simp only [List.size_toArray] <;> omega)
theorem rG : lR X (.type "tuple") (fun xs H Q => ∃ p ys, xs = [.ref p] /\ ((eu X.K H p ys /\ ∀ l, H l = none -> Q (.ref l) (upd H l (.tup ys))) \/ (ft X.K H p ys /\ Q (.ref p) H))) := by
 intro pins s σ H xs us Q I r h
 obtain ⟨p, ys, rfl, h⟩ := h
 obtain ⟨u, rfl, rx⟩ := vals1 r
 cases rx
 rcases h with ⟨hq, q⟩ | ⟨hq, q⟩
 ·obtain ⟨aF, r', pl, hz⟩ := I.list hq
  have hlen := r'.length
  refine call_tuple_list pl.isList (fun h' kp => ?_) (by simp only [List.size_toArray] <;> omega)
  have I1 : Inv X pins σ H { s with heap := h' } := I.kept (t' := s.toks) kp
  have I2 : Inv X pins σ (upd H h'.objs.size (.tup ys)) { s with heap := h'.push { cls := .type "tuple", data := .seq aF.toArray } } :=
   I1.laid (t' := s.toks) (fun b o e => Heap.get?_push_of_some _ e) (zA0 _) (show bC X.prog X.w _ _ _ (.tup ys) from ⟨hz, aF, r', IsTup.new _ _⟩)
  exact ⟨.ref h'.objs.size, _, I2, rfl, q _ (I1.bD.fresh (zA0 _))⟩
 ·obtain ⟨aF, r', pl, hz⟩ := I.tuple hq
  exact call_tuple_same pl ⟨.ref p, H, I, rfl, q⟩
def LN (K : W.Frag) (T : String) (x : V) (H : Hp) : Prop := match x with
 | .str _ => T = "str"
 | .int _ => T = "int"
 | .ref p => (T = "list" /\ ∃ xs, eu K H p xs) \/ (T = "tuple" /\ ∃ o, K.lookup p = some o /\ o.cls = .type "tuple" /\ o.dict = none) \/
   (T = "dict" /\ ((∃ kvs, H p = some (.dK kvs)) \/ ∃ kvs, H p = some (.dT kvs))) \/ (T = "set" /\ ∃ S n, H p = some (.set S n))
 | _ => False
theorem BW {pins : List (Addr × Obj)} {σ : St} {H : Hp} {s : Shared} {T : String} {x : V} {v : Value} (I : Inv X pins σ H s) (r : RelV x v) (ty : LN X.K T x H) :
  s.TypeIs v T /\ ∀ a, v = .ref a -> ∃ ob, s.heap.get? a = some ob /\ ob.dict = none := by
 cases x with
 | str z =>
  obtain ⟨t, rfl⟩ := r
  cases (show T = "str" from ty)
  exact ⟨typeIs_str s z t, fun _ e => nomatch e⟩
 | int i =>
  obtain ⟨t, rfl⟩ := r
  cases (show T = "int" from ty)
  exact ⟨typeIs_int s i t, fun _ e => nomatch e⟩
 | ref p =>
  cases r
  rcases ty with ⟨rfl, xs, hq⟩ | ⟨rfl, o, hk, hc, hd⟩ | ⟨rfl, hk⟩ | ⟨rfl, S, n, hk⟩
  ·obtain ⟨aF, _, pl, _⟩ := I.list hq
   refine ⟨pl.isList.typeIs, fun a e => ?_⟩
   cases e
   obtain ⟨o, n, e, c, hd, _⟩ := pl
   exact ⟨o, e, hd⟩
  ·refine ⟨⟨o, I.gu p o hk, hc⟩, fun a e => ?_⟩
   cases e
   exact ⟨o, I.gu _ o hk, hd⟩
  ·have z : ∃ o, s.heap.get? p = some o /\ o.ExactDict := by
    rcases hk with ⟨kvs, hk⟩ | ⟨kvs, hk⟩
    ·obtain ⟨_, _, _, _, o, _, _, e, ex, _⟩ := I.bD p _ hk
     exact ⟨o, e, ex⟩
    ·obtain ⟨_, _, _, _, o, _, _, e, ex, _⟩ := I.bD p _ hk
     exact ⟨o, e, ex⟩
   obtain ⟨o, e, ex⟩ := z
   refine ⟨⟨o, e, ex.1⟩, fun a e2 => ?_⟩
   cases e2
   exact ⟨o, e, ex.2.1⟩
  ·obtain ⟨o, _, _, _, e, ex, _⟩ := I.bD p _ hk
   refine ⟨⟨o, e, ex.1⟩, fun a e2 => ?_⟩
   cases e2
   exact ⟨o, e, ex.2.1⟩
 | _ => exact False.elim ty
def J6 (K : W.Frag) (T : String) (r : V -> List V -> Hp -> VK -> Prop) (to : TE) : TE := fun σ H Q => to σ H fun x H1 => LN K T x H1 /\ r x [] H1 Q
def Le (K : W.Frag) (T : String) (r : V -> List V -> Hp -> VK -> Prop) (to : TE) (t : TA) : TE := fun σ H Q => to σ H fun x H1 => LN K T x H1 /\ t σ H1 fun xs H2 => r x xs H2 Q
variable {o e : Expr} {es : List Expr} {to : TE} {t : TA} {name : Str} {apos c5 : Pos} {T id : String} {r : V -> List V -> Hp -> VK -> Prop}
theorem GU (pa : PlainAttrs T) (slot : Slot T name id) (Gg : typeOf (.builtin id) = pure (.type "method_descriptor")) (hm : NR X id r) (ho : PE X o to)
  (bS : attributeBase o name X.env (eval o X.env) = eval o X.env := by rfl) (gX : (apos.endLine == c5.line) = true := by rfl) : PE X (.Call (.Attribute o name apos) [] [] c5) (J6 X.K T r to) := by
 intro pins s σ H Q I h
 refine wpAny_Call_method0_late bS gX (bI (ho pins s σ H _ I h) fun v s1 qq => ?_)
 obtain ⟨x, H1, I1, r1, ty, q1⟩ := qq
 obtain ⟨h1, h2⟩ := BW I1 r1 ty
 exact ⟨T, id, pa, slot, Gg, h1, h2, Calls.callWith_builtin rfl (PySem.evalArgs_none (hm pins s1 σ H1 x [] v [] Q I1 r1 .nil q1))⟩
theorem CD (pa : PlainAttrs T) (slot : Slot T name id) (Gg : typeOf (.builtin id) = pure (.type "method_descriptor")) (hm : NR X id r) (ho : PE X o to) (ha : PA X (e :: es) t)
  (bS : attributeBase o name X.env (eval o X.env) = eval o X.env := by rfl)
  (yn : ((backTo c5 (starEach (e :: es) X.env)).all (fun x => !x.1) && (backToKw c5 (keywordEach [] X.env)).all (fun x => x.1.isSome)
   && decide ((e :: es).length + ([] : List Keyword).length + (if ([] : List Keyword).isEmpty then 0 else 1) < 30)) = true := by rfl)
  (gX : (apos.endLine == c5.line) = true := by rfl) (hs : starEach (e :: es) X.env = (false, eval e X.env) :: starEach es X.env := by rfl) (km : (backTo c5 (starEach es X.env)).any (·.1) = false := by rfl) :
  PE X (.Call (.Attribute o name apos) (e :: es) [] c5) (Le X.K T r to t) := by
 intro pins s σ H Q I h
 refine wpAny_Call_method_late bS yn gX rfl (bI (ho pins s σ H _ I h) fun v s1 qq => ?_)
 obtain ⟨x, H1, I1, r1, ty, q1⟩ := qq
 obtain ⟨h1, h2⟩ := BW I1 r1 ty
 refine ⟨T, id, pa, slot, Gg, h1, h2, ?_⟩
 have hA := ha c5 pins s1 σ H1 _ I1 q1
 rw [hs] at hA ⊢
 refine Calls.callWith_builtin (by show (false || (backTo c5 (starEach es X.env)).any (·.1)) = false; rw [km] <;> rfl) (Calls.evalArgs_plain ?_)
 exact bI hA fun us s2 ⟨vs, H2, I2, r2, q2⟩ => hm pins s2 σ H2 x vs v us Q I2 r1 r2 q2
end
end L2
namespace L2
open PySem Spec PyProof.Rows
def NS (X : Cx) (id : String) (r : V -> List V -> Hp -> VK -> Prop) : Prop :=
 ∀ (pins : List (Addr × Obj)) (s : Shared) (σ : St) (H : Hp) (x : V) (xs : List V) (v : Value) (us : List Value) (Q : VK), Inv X pins σ H s -> RelV x v -> Vals xs us -> r x xs H Q ->
  wpAny (model X.prog X.w) X.A (call (.builtin id) (v :: us)) (EP X pins σ Q) X.xe s
theorem Vals.one : ∀ {x : V} {us : List Value}, Vals [x] us -> ∃ u, us = [u] /\ RelV x u
 | _, _, .cons r .nil => ⟨_, rfl, r⟩
theorem Vals.zero : ∀ {us : List Value}, Vals [] us -> us = []
 | _, .nil => rfl
theorem Vals.dropLast {xs : List V} {us : List Value} (h : Vals xs us) : Vals xs.dropLast us.dropLast := by
 induction h with
 | nil => exact .nil
 | cons r t ih =>
  cases t with
  | nil => exact .nil
  | cons q t' => exact .cons r ih
theorem Vals.rep {xs : List V} {us : List Value} (h : Vals xs us) : ∀ k : Nat, Vals (List.replicate k xs).flatten (List.replicate k us).flatten
 | 0 => .nil
 | k + 1 => by
  rw [List.replicate_succ, List.replicate_succ, List.flatten_cons, List.flatten_cons]
  exact Vals.append h (Vals.rep h k)
theorem y4 {α : Type} (l : List α) : l.eraseIdx (l.length - 1) = l.dropLast := by
 induction l with
 | nil => rfl
 | cons a r ih =>
  cases r with
  | nil => rfl
  | cons b r =>
   have e : (a :: b :: r).length - 1 = ((b :: r).length - 1) + 1 := by
    have h1 : (a :: b :: r).length = r.length + 2 := rfl
    have h2 : (b :: r).length = r.length + 1 := rfl
    omega
   rw [e, List.eraseIdx_cons_succ, ih]
   all_goals rfl
theorem foldl_rep (aF : List Value) : ∀ (k : Nat) (acc : List Value),
  List.foldl (fun x1 x2 => x1 ++ x2) acc.toArray (List.replicate k aF.toArray) = (acc ++ (List.replicate k aF).flatten).toArray
 | 0, acc => by simp
 | k + 1, acc => by
  have e : acc.toArray ++ aF.toArray = (acc ++ aF).toArray := by simp
  have e2 : (acc ++ aF) ++ (List.replicate k aF).flatten = acc ++ (List.replicate (k + 1) aF).flatten := by
   rw [List.replicate_succ, List.flatten_cons, List.append_assoc]
  rw [<- e2, <- foldl_rep aF k (acc ++ aF), <- e, List.replicate_succ, List.foldl_cons]
section
variable {X : Cx} {pins : List (Addr × Obj)} {σ : St} {H : Hp} {s : Shared} {l b : Addr} {xs ys zs : List V}
theorem Inv.EZ {aF its' : List Value} {n : Nat} {f : Array Value -> Array Value} {t' : Nat} (I : Inv X pins σ H s) (hH : H l = some (.lst xs))
  (e : s.heap.get? l = some { cls := .type "list", data := .seq aF.toArray n }) (hf : f aF.toArray = its'.toArray) (hv : Vals ys its') (hz : ys.length <= sizeLine) :
  Inv X pins σ (upd H l (.lst ys)) { s with heap := s.heap.update l (Obj.mapSeq f), toks := t' } := by
 have q := PySem.IsL.update e f
 rw [hf] at q
 refine I.write (x := l) (e := l) (by rw [hH]; exact trivial) (.inl rfl) (fun b' u hb hu => (Heap.get?_update_other s.heap (Obj.mapSeq f) (Ne.symm hb)).trans hu) ⟨_, q⟩ ?_
 exact ⟨hz, its', _, hv, q⟩
theorem Inv.Ka {aF : List Value} {t' : Nat} (I : Inv X pins σ H s) (hv : Vals ys aF) (hz : ys.length <= sizeLine) :
  Inv X pins σ (upd H s.heap.objs.size (.lst ys)) { s with heap := s.heap.push { cls := .type "list", data := .seq aF.toArray }, toks := t' } :=
 I.laid (fun _ _ q => Heap.get?_push_of_some _ q) (zA0 _) ⟨hz, aF, 0, hv, Heap.get?_push_size _ rfl⟩
theorem Inv.fresh (I : Inv X pins σ H s) : H s.heap.objs.size = none := I.bD.fresh (zA0 _)
theorem Inv.vW (I : Inv X pins σ H s) (hH : H l = some (.lst xs)) : xs.length <= sizeLine /\ ∃ (aF : List Value) (n : Nat), Vals xs aF /\ xs.length = aF.length /\ s.heap.get? l = some { cls := .type "list", data := .seq aF.toArray n } := by
 obtain ⟨z, aF, n, r, e⟩ := I.bD l _ hH
 exact ⟨z, aF, n, r, r.length, e⟩
theorem pX {n : Nat} (h : n <= sizeLine) : Builtin.List.listTooLong n = false := by
 unfold Builtin.List.listTooLong
 exact decide_eq_false (by omega)
end
section
variable {X : Cx}
def z7 : V -> List V -> Hp -> VK -> Prop := fun x vs H Q => ∃ l xs y, x = .ref l /\ vs = [y] /\ H l = some (.lst xs) /\ xs.length < sizeLine /\ Q .bf (upd H l (.lst (xs ++ [y])))
theorem AO : NS X "list.append" z7 := by
 intro pins s σ H x vs v us Q I rx rv h
 obtain ⟨l, xs, y, rfl, rfl, hH, hz, q⟩ := h
 cases rx
 obtain ⟨u, rfl, ru⟩ := rv.one
 obtain ⟨z, aF, n, r, hl, e⟩ := I.vW hH
 refine call_meets F.slot_list_append ⟨_, e, rfl⟩ F.entry_list_append (F.args_list_append_2 _ _) (PySem.list_append l aF.toArray n u (by rw [List.size_toArray]; omega)) ⟨e, ?_⟩
 refine ⟨.bf, _, I.EZ (its' := aF ++ [u]) hH e (by simp) (r.append (.cons ru .nil)) ?_, rfl, q⟩
 rw [List.length_append, List.length_singleton]
 omega
def zz : V -> List V -> Hp -> VK -> Prop := fun x vs H Q => ∃ l b xs zs, x = .ref l /\ vs = [.ref b] /\ H l = some (.lst xs) /\ H b = some (.lst zs) /\ xs.length + zs.length <= sizeLine /\ Q .bf (upd H l (.lst (xs ++ zs)))
theorem AN : NS X "list.extend" zz := by
 intro pins s σ H x vs v us Q I rx rv h
 obtain ⟨l, b, xs, zs, rfl, rfl, hH, hB, hz, q⟩ := h
 cases rx
 obtain ⟨u, rfl, ru⟩ := rv.one
 cases ru
 obtain ⟨z, aF, n, r, hl, e⟩ := I.vW hH
 obtain ⟨z2, o6, n2, r2, Lz, e2⟩ := I.vW hB
 have hsz : aF.toArray.size + o6.toArray.size <= sizeLine := by rw [List.size_toArray, List.size_toArray]; omega
 have wj : ¬ (!aF.toArray.isEmpty && Builtin.List.listTooLong (aF.toArray.size + o6.toArray.size)) = true := by
  rw [pX hsz, Bool.and_false]
  exact Bool.false_ne_true
 refine call_meets F.slot_list_extend ⟨_, e, rfl⟩ F.entry_list_extend (F.args_list_extend_2 _ _)
  (AutoSeq1.list_extend_list_list_0 l aF.toArray n b o6.toArray n2 wj (by rw [List.size_toArray]; omega) (by omega)) ⟨e, e2, ?_⟩
 refine ⟨.bf, _, I.EZ (its' := aF ++ o6) hH e (by simp) (r.append r2) ?_, rfl, q⟩
 rw [List.length_append]
 omega
def JH : V -> List V -> Hp -> VK -> Prop := fun x vs H Q => ∃ l xs y, x = .ref l /\ vs = [] /\ H l = some (.lst xs) /\ xs[xs.length - 1]? = some y /\ Q y (upd H l (.lst xs.dropLast))
theorem Ho : NS X "list.pop" JH := by
 intro pins s σ H x vs v us Q I rx rv h
 obtain ⟨l, xs, y, rfl, rfl, hH, hy, q⟩ := h
 cases rx
 have Qy := rv.zero
 subst Qy
 obtain ⟨z, aF, n, r, hl, e⟩ := I.vW hH
 obtain ⟨u, hu, ru⟩ := r.get hy
 have Qx : aF.toArray[aF.toArray.size - 1]? = some u := by
  show aF.toArray[aF.length - 1]? = some u
  rw [<- Array.getElem?_toList, <- hl]
  exact hu
 refine call_meets F.slot_list_pop ⟨_, e, rfl⟩ F.entry_list_pop (F.args_list_pop_1 _) (MeetsSeq.list_pop_last l aF.toArray n u Qx (by rw [List.size_toArray]; omega)) ⟨e, ?_⟩
 refine ⟨y, _, I.EZ (its' := aF.dropLast) hH e ?_ r.dropLast ?_, ru, q⟩
 ·show aF.toArray.eraseIdxIfInBounds (aF.toArray.size - 1) = aF.dropLast.toArray
  rw [List.size_toArray, List.eraseIdxIfInBounds_toArray, y4]
 ·rw [List.length_dropLast]
  omega
def Mq : R2 := fun x y H Q => ∃ l b xs zs, x = .ref l /\ y = .ref b /\ H l = some (.lst xs) /\ H b = some (.lst zs) /\ xs.length + zs.length <= sizeLine /\ ∀ p, H p = none -> Q (.ref p) (upd H p (.lst (xs ++ zs)))
theorem CJ : ox X (binaryOp .Add) Mq := by
 intro pins s σ H x y v u Q I rx ry h
 obtain ⟨l, b, xs, zs, rfl, rfl, hH, hB, hz, q⟩ := h
 cases rx
 cases ry
 obtain ⟨z, aF, n, r, hl, e⟩ := I.vW hH
 obtain ⟨z2, o6, n2, r2, Lz, e2⟩ := I.vW hB
 refine PySem.P.add_list e e2 ?_ (by rw [List.size_toArray, List.size_toArray]; omega)
 have ea : aF.toArray ++ o6.toArray = (aF ++ o6).toArray := by simp
 rw [ea]
 exact ⟨.ref _, _, I.Ka (t' := s.toks) (r.append r2) (by rw [List.length_append]; omega), rfl, q _ I.fresh⟩
def Mm : R2 := fun x y H Q => ∃ l k xs, x = .ref l /\ y = .int k /\ H l = some (.lst xs) /\ -(2 ^ 63) <= k /\ k < 2 ^ 63 /\ xs.length * k.toNat <= sizeLine /\
 ∀ p, H p = none -> Q (.ref p) (upd H p (.lst (List.replicate k.toNat xs).flatten))
theorem len_rep {α : Type} (xs : List α) (k : Nat) : (List.replicate k xs).flatten.length = k * xs.length := by
 induction k with
 | zero => simp
 | succ k ih => rw [List.replicate_succ, List.flatten_cons, List.length_append, ih, Nat.succ_mul, Nat.add_comm]
theorem GX : ox X (binaryOp .Mult) Mm := by
 intro pins s σ H x y v u Q I rx ry h
 obtain ⟨l, k, xs, rfl, rfl, hH, h1, h2, hz, q⟩ := h
 cases rx
 obtain ⟨t, rfl⟩ := ry
 obtain ⟨z, aF, n, r, hl, e⟩ := I.vW hH
 have hlen : aF.toArray.size * k.toNat <= sizeLine := by rw [List.size_toArray, <- hl]; exact hz
 have Nn : ¬ aF.toArray.size * k.toNat > (2 ^ 63 - 1) / 8 := by
  have : (sizeLine : Nat) <= (2 ^ 63 - 1) / 8 := by decide
  omega
 have Nk : ¬ (!Builtin.List.listFitsIndex k) = true := by
  rw [fitsIndex_both h1 h2]
  exact Bool.false_ne_true
 have wj : ¬ Builtin.List.listTooLong (aF.toArray.size * k.toNat) = true := by
  rw [pX hlen]
  exact Bool.false_ne_true
 have MY : List.foldl (fun x1 x2 => x1 ++ x2) #[] (List.replicate (if aF.toArray.isEmpty = true then 0 else k.toNat) aF.toArray) = (List.replicate k.toNat aF).flatten.toArray := by
  have f0 : ∀ m : Nat, List.foldl (fun x1 x2 => x1 ++ x2) #[] (List.replicate m aF.toArray) = (List.replicate m aF).flatten.toArray := fun m => by
   have := foldl_rep aF m []
   rw [List.nil_append] at this
   exact this
  rw [f0]
  cases aF with
  | nil => simp
  | cons a r' => rw [if_neg (by simp)]
 refine wpAny_binaryOp_repeat_ref (T := "list") (U := "int") (by decide) ⟨_, e, rfl⟩ (fun s' => typeIs_int s' k t) noFill_list_mul F.fills_int_mul F.slot_int_rmul repeat_list F.slot_int_index.lookup
  (call_meets F.slot_int_rmul (typeIs_int s k t) F.entry_int_rmul (F.args_int_rmul_2 _ _) (int___rmul___int_list k t l aF.toArray n)
   ⟨e, rfl, ⟨_, e, rfl⟩, call_meets F.slot_list_mul ⟨_, e, rfl⟩ F.entry_list_mul (F.args_list_mul_2 _ _) (AutoListH.list___mul___list_int_3 l aF.toArray n k t Nk Nn wj) ⟨e, ?_⟩⟩)
 rw [MY]
 exact ⟨.ref _, _, I.Ka (t' := s.toks) (r.rep k.toNat) (by rw [len_rep, Nat.mul_comm]; exact hz), rfl, q _ I.fresh⟩
end
section
variable {prog : Program} {w : World} {A : Around} {E : Value -> Shared -> Prop} {s : Shared}
end
section
variable {X : Cx}
end
end L2
namespace L2
open PySem Spec PyProof.Rows
theorem Vals.yH : ∀ {bs : List Bool} {us : List Value}, Vals (bs.map V.bl) us -> us = bs.map Value.bool
 | [], us, h => by
  rw [List.map_nil] at h
  cases h
  rfl
 | b :: bs, us, h => by
  rw [List.map_cons] at h
  cases h with
  | cons r t =>
   cases r
   rw [Vals.yH t, List.map_cons]
theorem Vals.Mh {a : Addr} {us : List Value} (r : Vals [V.ref a] us) : us = [Value.ref a] := by
 cases r with
 | cons r t =>
  cases t
  cases r
  rfl
section
variable {prog : Program} {w : World} {A : Around} {E : Value -> Shared -> Prop} {s : Shared} {l : Addr} {aF : List Value} {ns : List Int} {Q : Value -> Shared -> Prop}
end
section
variable {X : Cx}
end
section
variable {X : Cx}
end
section
variable {X : Cx}
end
theorem CZ {prog : Program} {w : World} {A : Around} {E : Value -> Shared -> Prop} {s : Shared} {l : Addr} {items : Array Value} {Q : Value -> Shared -> Prop} (hl : s.heap.IsList l items)
  (h : ∀ s₂ : Shared, s₂ = { s with heap := s.heap.push { cls := .type "list_iterator", data := .fields #[.ref l, .int 0 0] } } ->
   (s₂.heap.IsListIter s.heap.objs.size l 0 /\ s₂.heap.IsList l items) -> l ≠ s.heap.objs.size -> Q (.ref s.heap.objs.size) s₂) : wpAny (model prog w) A (pyIter (.ref l)) Q E s := by
 have hW : l < s.heap.objs.size := by obtain ⟨_, e, _⟩ := hl; exact Heap.lt_size e
 exact wpAny_pyIter_list hl (h _ rfl ⟨⟨_, Heap.get?_push_size _ rfl, rfl, rfl⟩, hl.push _⟩ (Nat.ne_of_lt hW))
theorem vf {prog : Program} {w : World} {A : Around} {bs : List Bool} {aF : List Value} (e : aF = bs.map Value.bool) :
  TruthOf prog w A (fun i v => aF.toArray[i]? = some v) (fun i => bs.getD i false) := fun i v s Q E hv hq => by
 have Lv : aF[i]? = some v := by simpa using hv
 rw [e, List.getElem?_map] at Lv
 obtain ⟨b, hb, rfl⟩ := Option.map_eq_some_iff.mp Lv
 have hg : bs.getD i false = b := by rw [List.getD_eq_getElem?_getD, hb] <;> rfl
 have Gh : Q (bs.getD i false) s := hq
 rw [hg] at Gh
 exact wpAny_truthy_bool Gh
theorem all_range : ∀ bs : List Bool, (List.range bs.length).all (fun i => bs.getD i false) = bs.all id
 | [] => rfl
 | b :: bs => by
  rw [List.length_cons, List.range_succ_eq_map, List.all_cons, List.all_map, List.all_cons, <- all_range bs]
  all_goals rfl
section
variable {X : Cx}
def Mr (K : W.Frag) : List V -> Hp -> VK -> Prop := fun vs H Q => ∃ (a : Addr) (bs : List Bool), vs = [V.ref a] /\ eu K H a (bs.map V.bl) /\ Q (.bl (bs.all id)) H
theorem yC (hc : X.calm = true) : lR X (.builtin "all") (Mr X.K) := by
 intro pins s σ H vs us Q I r h
 obtain ⟨a, bs, rfl, hs, q⟩ := h
 obtain ⟨aF, rv, hl, _⟩ := I.list hs
 rw [Vals.Mh r]
 have hb := rv.yH
 refine call_all_walk (CZ hl.isList fun s₂ e2 st rm => ?_)
 subst e2
 refine ⟨_, _, _, _, _, _, _, rfl, Walks.list (A := X.A.in1) (I.ok.hd hc) _ a rm aF.toArray, st, vf hb, fun h' tk hk => ?_⟩
 refine ⟨.bl _, H, I.kept fun b o eo => hk b o (fun HV => ?_) (Heap.get?_push_of_some _ eo), ?_, q⟩
 ·rcases List.mem_cons.mp HV with e1 | HV
  ·exact absurd (e1 ▸ Heap.lt_size eo) (Nat.lt_irrefl _)
  ·cases HV
 ·show Value.bool _ = Value.bool _
  rw [<- all_range, hb, List.size_toArray, List.length_map]
end
mutual
inductive Dp (K : W.Frag) (H : Hp) : V -> PyData -> Prop
 | bf : Dp K H .bf .none
 | bl (b : Bool) : Dp K H (.bl b) (.bool b)
 | int (i : Int) : Dp K H (.int i) (.int i)
 | str (x : Str) : Dp K H (.str x) (.str x)
 | lst {a : Addr} {xs : List V} {ds : List PyData} : eu K H a xs -> qE K H xs ds -> Dp K H (.ref a) (.list ds)
 | tup {a : Addr} {xs : List V} {ds : List PyData} : ft K H a xs -> qE K H xs ds -> Dp K H (.ref a) (.tuple ds)
inductive qE (K : W.Frag) (H : Hp) : List V -> List PyData -> Prop
 | nil : qE K H [] []
 | cons {v : V} {vs : List V} {d : PyData} {ds : List PyData} : Dp K H v d -> qE K H vs ds -> qE K H (v :: vs) (d :: ds)
end
section
variable {X : Cx} {pins : List (Addr × Obj)} {σ : St} {H : Hp} {s : Shared}
mutual
theorem Dp.reads (I : Inv X pins σ H s) : ∀ (d : PyData) (v : V) (u : Value), Dp X.K H v d -> RelV v u -> ∃ as, Reads s.heap u d as
 | .none, _, _, h, r => by
  cases h
  cases r
  exact ⟨_, Reads.none⟩
 | .bool b, _, _, h, r => by
  cases h
  cases r
  exact ⟨_, Reads.bool b⟩
 | .int i, _, _, h, r => by
  cases h
  obtain ⟨t, rfl⟩ := r
  exact ⟨_, Reads.int i t⟩
 | .str x, _, _, h, r => by
  cases h
  obtain ⟨t, rfl⟩ := r
  exact ⟨_, Reads.str x t⟩
 | .list ds, _, _, h, r => by
  cases h with
  | lst hs ha =>
   cases r
   obtain ⟨aF, rv, ⟨o, n, ho, hc, _, hd⟩, _⟩ := I.list hs
   obtain ⟨as, hr⟩ := Dp.readsAll I ds _ aF ha rv
   exact ⟨_, Reads.list ho hc hd hr⟩
 | .tuple ds, _, _, h, r => by
  cases h with
  | tup hs ha =>
   cases r
   obtain ⟨aF, rv, ⟨o, ho, hc, n, hd⟩, _⟩ := I.tuple hs
   obtain ⟨as, hr⟩ := Dp.readsAll I ds _ aF ha rv
   exact ⟨_, Reads.tuple ho hc hd hr⟩
 | .dict _, _, _, h, _ => by cases h
theorem Dp.readsAll (I : Inv X pins σ H s) : ∀ (ds : List PyData) (vs : List V) (us : List Value), qE X.K H vs ds -> Vals vs us -> ∃ as, ReadsAll s.heap us ds as
 | [], _, _, h, r => by
  cases h
  cases r
  exact ⟨_, ReadsAll.nil⟩
 | d :: ds, _, _, h, r => by
  cases h with
  | cons h1 h2 =>
   cases r with
   | cons r1 r2 =>
    obtain ⟨as, q1⟩ := Dp.reads I d _ _ h1 r1
    obtain ⟨bs, q2⟩ := Dp.readsAll I ds _ _ h2 r2
    exact ⟨_, ReadsAll.cons q1 q2⟩
end
end
section
variable {X : Cx}
def Mo (K : PySem.W.Frag) : R2 := fun x y H Q => ∃ d e, Dp K H x d /\ Dp K H y e /\ SeqAt.shaped d = true /\ SeqAt.shaped e = true /\ Q (.bl (PyData.eqv d e)) H
theorem GY (hu : X.A.units + 64 < cLine) : ox X (compareOp .Eq) (Mo X.K) := by
 intro pins s σ H x y v u Q I rx ry h
 obtain ⟨d, e, hd, he, sd, se, q⟩ := h
 obtain ⟨as, r1⟩ := Dp.reads I d x v hd rx
 obtain ⟨bs, r2⟩ := Dp.reads I e y u he ry
 exact SeqAt.compareEq_shaped r1 r2 sd se hu ⟨.bl _, H, I, rfl, q⟩
end
end L2
namespace L2
open PySem Spec PyProof.Rows
abbrev DX (h : Heap) (c : Addr) (v : Option Value) : Prop := h.IsCell c v
def Mg (scope sc : Scope) : Scope :=
 { scope with names := scope.names.map fun (n, k) => if (k == .free && sc.kind == .function && sc.names.lookup n == some .cell) then (n, .cell) else (n, k) }
noncomputable def bA (cells : List (Str × Addr)) : List (Str × NameKind) -> List (Str × Addr) -> List (Str × Addr)
 | [], acc => acc
 | (n, k) :: r, acc => if k == .free then bA cells r ((n, (cells.lookup n).getD 0) :: acc) else bA cells r acc
theorem lJ (env : Env) (f : Str × NameKind -> List (Str × Addr) -> Sem (ForInStep (List (Str × Addr))))
  (hf : ∀ n k c, f (n, k) c = if k == .free then (do let a <- cellOf env n; pure (.yield ((n, a) :: c))) else pure (.yield c)) :
  ∀ (names : List (Str × NameKind)) (acc : List (Str × Addr)), (∀ y ∈ names, y.2 = .free -> ∃ c, env.cells.lookup y.1 = some c) -> forIn names acc f = pure (bA env.cells names acc)
 | [], acc, _ => by rw [List.forIn_nil]; rfl
 | (n, k) :: r, acc, h => by
  rw [List.forIn_cons, hf]
  have ih := fun acc => lJ env f hf r acc fun y hy => h y (zA1 _ hy)
  unfold bA
  by_cases hk : (k == NameKind.free) = true
  ·rw [if_pos hk, if_pos hk]
   obtain ⟨c, hc⟩ := h (n, k) zA2 (by simpa using hk)
   have e : cellOf env n = pure c := by unfold cellOf; rw [hc]
   rw [e]
   have e2 : (env.cells.lookup n).getD 0 = c := by rw [hc]; rfl
   rw [e2]
   exact ih _
  ·rw [if_neg hk, if_neg hk]
   exact ih _
theorem yD {scope : Scope} {env : Env} (h : ∀ y ∈ scope.names, y.2 = .free -> ∃ c, env.cells.lookup y.1 = some c) : closureFor scope env = pure (bA env.cells scope.names []) := by
 simp only [closureFor]
 rw [lJ env _ (fun n k c => rfl) scope.names [] h]
 rfl
theorem mem_lookup {α : Type} : ∀ {l : List (Str × α)} {n : Str} {c : α}, (n, c) ∈ l -> ∃ c', l.lookup n = some c'
 | (k, v) :: r, n, c, h => by
  rw [List.lookup_cons]
  cases hb : n == k with
  | true => exact ⟨_, rfl⟩
  | false =>
   rcases List.mem_cons.mp h with e | h
   ·cases e; simp at hb
   ·exact mem_lookup h
theorem fH {cells : List (Str × Addr)} : ∀ {names : List (Str × NameKind)} {acc : List (Str × Addr)} {n : Str} {c : Addr}, (n, c) ∈ bA cells names acc -> (n, c) ∈ acc \/ ((n, .free) ∈ names /\ c = (cells.lookup n).getD 0)
 | [], _, _, _, h => .inl h
 | (m, k) :: r, acc, n, c, h => by
  unfold bA at h
  split at h
  ·rename_i hk
   have hk : k = .free := by simpa using hk
   rcases fH h with h | ⟨h1, h2⟩
   ·rcases List.mem_cons.mp h with e | h
    ·cases e; exact .inr ⟨hk ▸ zA2, rfl⟩
    ·exact .inl h
   ·exact .inr ⟨zA1 _ h1, h2⟩
  ·rcases fH h with h | ⟨h1, h2⟩
   ·exact .inl h
   ·exact .inr ⟨zA1 _ h1, h2⟩
theorem iY {cells : List (Str × Addr)} : ∀ {names : List (Str × NameKind)} {acc : List (Str × Addr)} {p : Str × Addr}, p ∈ acc -> p ∈ bA cells names acc
 | [], _, _, h => h
 | (m, k) :: r, acc, p, h => by
  unfold bA
  split
  ·exact iY (zA1 _ h)
  ·exact iY h
theorem iX {cells : List (Str × Addr)} : ∀ {names : List (Str × NameKind)} {acc : List (Str × Addr)} {n : Str}, (n, .free) ∈ names -> (n, (cells.lookup n).getD 0) ∈ bA cells names acc
 | (m, k) :: r, acc, n, h => by
  unfold bA
  rcases List.mem_cons.mp h with e | h
  ·cases e
   exact iY zA2
  ·split
   ·exact iX h
   ·exact iX h
theorem gx : ∀ {names : List (Str × NameKind)} {h : Heap} {acc : List (Str × Addr)} {x : Str} {c : Addr}, (x, c) ∈ cellsFrom h.objs.size names acc ->
  (x, c) ∈ acc \/ ((x, .cell) ∈ names /\ h.objs.size <= c /\ DX (pushCells h names) c none)
 | [], _, _, _, _, h => .inl h
 | (n, k) :: r, h, acc, x, c, hm => by
  unfold cellsFrom at hm
  unfold pushCells
  split at hm
  ·rename_i hk
   rw [if_pos hk]
   have hk : k = .cell := by simpa using hk
   rw [<- Heap.size_push h { cls := .type "cell", data := .cell none }] at hm
   rcases gx hm with hm | ⟨h1, h2, h3⟩
   ·rcases List.mem_cons.mp hm with e | hm
    ·cases e
     exact .inr ⟨hk ▸ zA2, zA0 _, _, pushCells_keeps r _ _ _ (Heap.get?_push_size _ rfl), rfl⟩
    ·exact .inl hm
   ·rw [Heap.size_push] at h2
    exact .inr ⟨zA1 _ h1, Nat.le_of_succ_le h2, h3⟩
  ·rename_i hk
   rw [if_neg hk]
   rcases gx hm with hm | ⟨h1, h2, h3⟩
   ·exact .inl hm
   ·exact .inr ⟨zA1 _ h1, h2, h3⟩
theorem jz : ∀ {names : List (Str × NameKind)} {n : Nat} {acc : List (Str × Addr)} {p : Str × Addr}, p ∈ acc -> p ∈ cellsFrom n names acc
 | [], _, _, _, h => h
 | (m, k) :: r, n, acc, p, h => by
  unfold cellsFrom
  split
  ·exact jz (zA1 _ h)
  ·exact jz h
theorem nB : ∀ {names : List (Str × NameKind)} {n : Nat} {acc : List (Str × Addr)} {x : Str}, (x, .cell) ∈ names -> ∃ c, (x, c) ∈ cellsFrom n names acc
 | (m, k) :: r, n, acc, x, h => by
  unfold cellsFrom
  rcases List.mem_cons.mp h with e | h
  ·cases e
   exact ⟨n, jz zA2⟩
  ·split
   ·exact nB h
   ·exact nB h
theorem nA : ∀ {names : List (Str × NameKind)} {h : Heap} {acc : List (Str × Addr)} {x y : Str} {c : Addr}, (∀ p ∈ acc, p.2 < h.objs.size) -> (∀ x y c, (x, c) ∈ acc -> (y, c) ∈ acc -> x = y) ->
  (x, c) ∈ cellsFrom h.objs.size names acc -> (y, c) ∈ cellsFrom h.objs.size names acc -> x = y
 | [], _, _, _, _, _, _, hi, h1, h2 => hi _ _ _ h1 h2
 | (n, k) :: r, h, acc, x, y, c, hl, hi, h1, h2 => by
  unfold cellsFrom at h1 h2
  split at h1
  ·rename_i hk
   rw [if_pos hk] at h2
   rw [<- Heap.size_push h { cls := .type "cell", data := .cell none }] at h1 h2
   refine nA (h := h.push _) (fun p hp => ?_) (fun x y c a b => ?_) h1 h2
   ·rw [Heap.size_push]
    rcases List.mem_cons.mp hp with rfl | hp
    ·exact Nat.lt_succ_self _
    ·exact Nat.lt_succ_of_lt (hl p hp)
   ·rcases List.mem_cons.mp a with e | a <;> rcases List.mem_cons.mp b with e' | b
    ·cases e; cases e'; rfl
    ·cases e; exact absurd (hl _ b) (Nat.lt_irrefl _)
    ·cases e'; exact absurd (hl _ a) (Nat.lt_irrefl _)
    ·exact hi _ _ _ a b
  ·rename_i hk
   rw [if_neg hk] at h2
   exact nA hl hi h1 h2
theorem vO {M : Model} {A : Around} {E : Value -> Shared -> Prop} {s : Shared} {scope : Scope} {globals : Addr} {closure : List (Str × Addr)} {qual : Str} {func : Option Addr} {code : Value} {around : Env} {builtins : Addr} {Q : Env -> Shared -> Prop}
  (h : Q (newEnv scope s.heap.objs.size globals (cellsFrom (s.heap.objs.size + 1) scope.names closure) qual func code (some around) builtins)
   { s with heap := pushCells (s.heap.push { cls := .type "dict", data := .dict #[] }) scope.names }) :
  wpAny M A (newFunctionEnv scope globals closure [] qual func code (some around) builtins) Q E s := by
 simp only [newFunctionEnv, Option.isSome_some, if_true]
 refine wpAny_bind (wpAny_alloc ?_)
 refine wpAny_bind (wpAny_layCells _ (fun n k c => rfl) scope.names closure _ _ ?_)
 rw [show ({ s with heap := s.heap.push { cls := .type "dict", data := .dict #[] } } : Shared).heap.objs.size = s.heap.objs.size + 1 from Heap.size_push ..]
 rw [List.forIn_nil]
 exact wpAny_bind (wpAny_pure (wpAny_pure h))
theorem iR {sc : Scope} : ∀ {names : List (Str × NameKind)} {x : Str} {k : NameKind},
  (names.map fun (n, k) => if (k == NameKind.free && sc.kind == .function && sc.names.lookup n == some .cell) then (n, NameKind.cell) else (n, k)).lookup x = some k ->
  ∃ k', names.lookup x = some k' /\ (k = k' \/ (k' = .free /\ k = .cell))
 | [], _, _, h => by simp at h
 | (n, k₀) :: r, x, k, h => by
  have ih := @iR sc r x k
  have h' : List.lookup x ((if (k₀ == NameKind.free && sc.kind == .function && sc.names.lookup n == some .cell) = true then (n, NameKind.cell) else (n, k₀)) :: (r.map _)) = some k := h
  cases hx : x == n with
  | true =>
   simp only [List.lookup_cons, hx]
   by_cases hc : (k₀ == NameKind.free && sc.kind == .function && sc.names.lookup n == some .cell) = true
   ·rw [if_pos hc] at h'
    simp only [List.lookup_cons, hx] at h'
    cases h'
    simp only [Bool.and_eq_true, beq_iff_eq] at hc
    exact ⟨k₀, rfl, .inr ⟨hc.1.1, rfl⟩⟩
   ·rw [if_neg hc] at h'
    simp only [List.lookup_cons, hx] at h'
    cases h'
    exact ⟨_, rfl, .inl rfl⟩
  | false =>
   simp only [List.lookup_cons, hx]
   by_cases hc : (k₀ == NameKind.free && sc.kind == .function && sc.names.lookup n == some .cell) = true
   ·rw [if_pos hc] at h'
    simp only [List.lookup_cons, hx] at h'
    exact ih h'
   ·rw [if_neg hc] at h'
    simp only [List.lookup_cons, hx] at h'
    exact ih h'
structure Ao (N : List Str) (sc scope : Scope) (own : List (Str × Nat)) : Prop where
 kind : scope.kind = .function
 uniq : ∀ y ∈ scope.names, scope.names.lookup y.1 = some y.2
 ix : ∀ p ∈ own, N[p.2]? = some p.1
 free : ∀ y ∈ scope.names, y.2 = .free -> sc.names.lookup y.1 = some .cell \/ sc.names.lookup y.1 = some .free
 own : ∀ y ∈ scope.names, y.2 = .local \/ y.2 = .cell -> y.1 ∈ own.map (·.1) \/ y.1 ∉ N
noncomputable def wipe (σ : St) : List Nat -> St
 | [] => σ
 | v :: vs => (wipe σ vs).set v none
theorem ig (σ : St) : ∀ vs : List Nat, (wipe σ vs).length = σ.length
 | [] => rfl
 | v :: vs => by unfold wipe; rw [List.length_set, ig σ vs]
theorem lU {σ : St} {i : Nat} {x : V} : ∀ {vs : List Nat}, (wipe σ vs)[i]? = some (some x) -> σ[i]? = some (some x) /\ i ∉ vs
 | [], h => ⟨h, by simp⟩
 | v :: vs, h => by
  unfold wipe at h
  by_cases hi : v = i
  ·subst hi
   by_cases hv : v < (wipe σ vs).length
   ·rw [List.getElem?_set_self hv] at h; cases h
   ·rw [List.getElem?_eq_none (by simpa using hv)] at h; cases h
  ·rw [List.getElem?_set_ne hi] at h
   obtain ⟨h1, h2⟩ := lU h
   exact ⟨h1, by simp only [List.mem_cons, not_or]; exact ⟨fun e => hi e.symm, h2⟩⟩
noncomputable abbrev Cx.xa (X : Cx) (s : Shared) (H : Hp) (scope : Scope) (dz : Env) (fp : List Addr) : Cx := { X with s_0 := s, H_0 := H, env := dz, outer := X.stack, ex := fp, fn := fun x => scope.names.lookup x == some .cell, pn := [], xe := fun _ _ => False }
section
variable {X : Cx} {pins : List (Addr × Obj)} {σ : St} {H : Hp} {s : Shared}
theorem wN {scope : Scope} {own : List (Str × Nat)} {fp : List Addr} (I : Inv X pins σ H s) (ok : Ao X.N X.env.scope scope own) (hN : X.N.Nodup) (IW : ∀ b ∈ fp, qC X pins H b /\ b < s.heap.objs.size) :
  Inv (X.xa s H scope (compEnvC scope (cellsFrom (s.heap.objs.size + 1) scope.names (bA X.env.cells scope.names [])) s.heap.objs.size X.env) fp) [] (wipe σ (own.map (·.2))) H { s with heap := pushCells (s.heap.push { cls := .type "dict", data := .dict #[] }) scope.names } := by
 have sI : ∀ y ∈ scope.names, y.2 = .free -> ∃ c, X.env.cells.lookup y.1 = some c := fun y hy e => by
  rcases ok.free y hy e with k | k
  ·exact I.ok.has _ (.inl k)
  ·exact I.ok.has _ (.inr k)
 generalize wm : compEnvC scope (cellsFrom (s.heap.objs.size + 1) scope.names (bA X.env.cells scope.names [])) s.heap.objs.size X.env = dz
 have kp : ∀ b o, s.heap.get? b = some o -> (pushCells (s.heap.push { cls := .type "dict", data := .dict #[] }) scope.names).get? b = some o := fun b o e => pushCells_keeps _ _ _ _ (Heap.get?_push_of_some _ e)
 have hL : dz.locals = s.heap.objs.size := by rw [<- wm]; rfl
 have HW : dz.cells = cellsFrom (s.heap.objs.size + 1) scope.names (bA X.env.cells scope.names []) := by rw [<- wm]; rfl
 have MQ : dz.scope = Mg scope X.env.scope := by rw [<- wm]; rfl
 rw [<- Heap.size_push s.heap { cls := .type "dict", data := .dict #[] }] at HW
 have cm : ∀ {y c}, (y, c) ∈ bA X.env.cells scope.names [] -> X.env.cells.lookup y = some c /\ c < s.heap.objs.size := fun {y c} hm => by
  rcases fH hm with hm | ⟨h1, rfl⟩
  ·cases hm
  ·obtain ⟨c, hc⟩ := sI _ h1 rfl
   rw [hc]
   obtain ⟨w, z⟩ := I.cell _ _ hc
   exact ⟨rfl, z.lt⟩
 have mem : ∀ {y c}, dz.cells.lookup y = some c -> (X.env.cells.lookup y = some c /\ c < s.heap.objs.size) \/ (s.heap.objs.size + 1 <= c /\ DX (pushCells (s.heap.push { cls := .type "dict", data := .dict #[] }) scope.names) c none) := fun {y c} e => by
  rw [HW] at e
  rcases gx (PySem.mem_of_lookup e) with hm | ⟨_, h2, h3⟩
  ·exact .inl (cm hm)
  ·rw [Heap.size_push] at h2; exact .inr ⟨h2, h3⟩
 have look : ∀ {y}, scope.names.lookup y = some .free -> ∃ c, dz.cells.lookup y = some c /\ X.env.cells.lookup y = some c := fun {y} hl => by
  have hy : (y, NameKind.free) ∈ scope.names := PySem.mem_of_lookup hl
  obtain ⟨c', e'⟩ := mem_lookup (jz (names := scope.names) (n := (s.heap.push { cls := .type "dict", data := .dict #[] }).objs.size) (iX (cells := X.env.cells) (acc := []) hy))
  rw [<- HW] at e'
  refine ⟨c', e', ?_⟩
  rw [HW] at e'
  rcases gx (PySem.mem_of_lookup e') with hm | ⟨h1, _, _⟩
  ·exact (cm hm).1
  ·have := ok.uniq _ h1
   rw [hl] at this; cases this
 have PU : (X.xa s H scope dz fp).Ok := by
  refine ⟨I.ok.mod, by show dz.scope.kind = _; rw [MQ]; exact ok.kind, by show dz.globals = _; rw [<- wm]; exact I.ok.glob, by show dz.builtins = _; rw [<- wm]; exact I.ok.blt, by show s.heap.objs.size <= dz.locals; rw [hL]; exact zA0 _,
   fun y z c e1 e2 => ?_, fun y hy => ?_, fun y c z e => ?_, I.ok.hd, I.ok.frames, .inl rfl, fun b hb => ⟨?_, fun y c e z => ?_⟩, I.bs, Nat.le_trans I.ok.Ei I.sz, fun b o e hb => ?_, fun b hb z => ?_, I.stack, I.ze⟩
  ·have e1 : dz.cells.lookup y = some c := e1
   have e2 : dz.cells.lookup z = some c := e2
   rw [HW] at e1 e2
   refine nA (fun p hp => ?_) (fun y z c a b => I.ok.inj y z c (cm a).1 (cm b).1) (PySem.mem_of_lookup e1) (PySem.mem_of_lookup e2)
   rw [Heap.size_push]
   exact Nat.lt_succ_of_lt (cm (y := p.1) (c := p.2) hp).2
  ·show ∃ c, dz.cells.lookup y = some c
   have key : ∀ k, dz.kindOf y = some k -> (k = .cell \/ k = .free) -> ∃ c, dz.cells.lookup y = some c := fun k hk Nf => by
    unfold Env.kindOf at hk
    rw [MQ] at hk
    obtain ⟨k', e, r⟩ := iR hk
    have : k' = .cell \/ k' = .free := by
     rcases r with rfl | ⟨rfl, _⟩
     ·exact Nf
     ·exact .inr rfl
    rcases this with rfl | rfl
    ·obtain ⟨c, hm⟩ := nB (n := (s.heap.push { cls := .type "dict", data := .dict #[] }).objs.size) (acc := bA X.env.cells scope.names []) (PySem.mem_of_lookup e)
     obtain ⟨c', e'⟩ := mem_lookup hm
     exact ⟨c', by rw [HW]; exact e'⟩
    ·obtain ⟨c, h1, _⟩ := look e
     exact ⟨c, h1⟩
   rcases hy with hy | hy
   ·exact key _ hy (.inl rfl)
   ·exact key _ hy (.inr rfl)
  ·have z : (scope.names.lookup y == some NameKind.cell) = true := z
   have z : scope.names.lookup y = some .cell := by simpa using z
   have e : dz.cells.lookup y = some c := e
   rw [HW] at e
   rcases gx (PySem.mem_of_lookup e) with hm | ⟨_, h2, _⟩
   ·rcases fH hm with hm | ⟨h1, _⟩
    ·cases hm
    ·have q := ok.uniq _ h1
     rw [z] at q; cases q
   ·rw [Heap.size_push] at h2
    exact Nat.le_of_succ_le h2
  ·show b ≠ dz.locals
   rw [hL]; exact Nat.ne_of_lt (IW b hb).2
  ·have e : dz.cells.lookup y = some c := e
   rcases mem e with ⟨h1, _⟩ | ⟨h1, _⟩
   ·exact (IW b hb).1.2.2.2.2.1 y c h1 z
   ·have h2 : s.heap.objs.size + 1 <= b := by rw [<- z]; exact h1
    exact absurd (Nat.lt_of_lt_of_le (IW b hb).2 (Nat.le_of_succ_le h2)) (Nat.lt_irrefl _)
  ·rcases (IW b hb).1.2.2.2.1 with z | z
   ·exact I.ok.AK b o e z
   ·exact absurd (Nat.lt_of_lt_of_le (Heap.lt_size e) (Nat.le_trans I.ok.Ei z)) (Nat.lt_irrefl _)
  ·rcases List.mem_cons.mp (I.xl b z) with z | z
   ·exact (IW b hb).1.2.1 z
   ·exact (IW b hb).1.2.2.1 z
 refine ⟨PU, rfl, I.bare, Un.kept kp, ⟨fun _ => none, ?_, fun i y av e1 e2 e3 => ?_⟩, fun y c e => ?_, ?_, fun y c e => ?_, fun p hp => ?_, I.bD.kept kp, by rw [ig]; exact I.len⟩
 ·show Heap.Ns _ dz.locals _
  rw [hL]
  exact Heap.Ns.keeps (Heap.Ns.new ..) fun b o e => pushCells_keeps _ _ _ _ e
 ·obtain ⟨e2, rm⟩ := lU e2
  have L6 : scope.names.lookup y = some .free /\ (dz.kindOf y = some .cell \/ dz.kindOf y = some .free) := by
   have key : ∀ k, dz.scope.names.lookup y = some k -> k = .local \/ k = .cell \/ k = .free -> scope.names.lookup y = some .free /\ (dz.kindOf y = some .cell \/ dz.kindOf y = some .free) := fun k hk Nf => by
    have OL := hk
    rw [MQ] at hk
    obtain ⟨k', e, r⟩ := iR hk
    have no : ¬ (k' = .local \/ k' = .cell) := fun hh => by
     rcases ok.own _ (PySem.mem_of_lookup e) hh with e' | e'
     ·obtain ⟨p, hp, Q2⟩ := List.mem_map.mp e'
      have e3 := ok.ix p hp
      have : p.1 = y := Q2
      rw [this] at e3
      exact rm (List.mem_map.mpr ⟨p, hp, pY hN e3 e1⟩)
     ·exact e' (List.mem_of_getElem? e1)
    rcases r with rfl | ⟨rfl, rfl⟩
    ·rcases Nf with rfl | rfl | rfl
     ·exact absurd (.inl rfl) no
     ·exact absurd (.inr rfl) no
     ·exact ⟨e, .inr OL⟩
    ·exact ⟨e, .inl OL⟩
   have e3 : Jg dz.scope y := e3
   rcases e3 with e3 | e3 | e3
   ·exact key _ e3 (.inl rfl)
   ·exact key _ e3 (.inr (.inl rfl))
   ·exact key _ e3 (.inr (.inr rfl))
  obtain ⟨m, hn, hl⟩ := I.loc
  have MP : Jg X.env.scope y := (ok.free _ (PySem.mem_of_lookup L6.1) rfl).elim (fun k => .inr (.inl k)) (fun k => .inr (.inr k))
  obtain ⟨w, r, q⟩ := hl i y av e1 e2 MP
  refine ⟨w, r, .inr ⟨L6.2, ?_⟩⟩
  obtain ⟨c, h1, h2⟩ := look L6.1
  rcases q with ⟨k, _⟩ | ⟨_, c', e', z⟩
  ·have k : X.env.scope.names.lookup y = some .local := k
   rcases ok.free _ (PySem.mem_of_lookup L6.1) rfl with k' | k' <;> rw [show X.env.scope.names.lookup y = _ from k'] at k <;> cases k
  ·rw [h2] at e'; cases e'
   exact ⟨c, h1, z.keeps kp⟩
 ·have e : dz.cells.lookup y = some c := e
  rcases mem e with ⟨h1, _⟩ | ⟨_, z⟩
  ·obtain ⟨w, z⟩ := I.cell y c h1
   exact ⟨w, z.keeps kp⟩
  ·exact ⟨_, z⟩
 ·show H dz.locals = none
  rw [hL]; exact I.bD.fresh (zA0 _)
 ·have e : dz.cells.lookup y = some c := e
  rcases mem e with ⟨h1, _⟩ | ⟨h1, _⟩
  ·exact I.fG y c h1
  ·exact I.bD.fresh (Nat.le_of_succ_le h1)
 ·exact absurd (show p ∈ ([] : List (Addr × Obj)) ++ [] from hp) (by simp)
theorem Iw {E : Value -> Shared -> Prop} {D : Addr} {xs : List V} {y : V} {v : Value} {Q : Value -> Shared -> Prop} (I : Inv X pins σ H s) (hD : H D = some (.lst xs)) (hz : xs.length < sizeLine) (r : RelV y v)
  (h : ∀ s', Inv X pins σ (upd H D (.lst (xs ++ [y]))) s' -> Q .none s') : wpAny (model X.prog X.w) X.A (call (.builtin "list.append") [.ref D, v]) Q E s := by
 obtain ⟨RJ, aF, n, ri, e⟩ := I.bD D _ hD
 have hl := ri.length
 refine append_at (hsz := by rw [List.size_toArray]; omega) e fun h' sb wg => ?_
 refine h { s with heap := h' } (I.write (t' := s.toks) (by rw [hD]; trivial) (.inl rfl) (fun b u hb q => (sb.2 b hb).trans q) ⟨_, wg⟩ ⟨by rw [List.length_append]; exact hz, aF ++ [v], n + 1, ri.append (.cons r .nil), ?_⟩)
 rw [wg]
 simp
def NQ (X : Cx) (ifs : List Expr) (t : TT) : Prop :=
 ∀ (pins : List (Addr × Obj)) (s : Shared) (σ : St) (H : Hp) (Q : Bool -> Hp -> Prop), Inv X pins σ H s -> t σ H Q ->
  wpAny (model X.prog X.w) X.A (forIn ifs true fun c r => if r = true then do let ok <- isTrue c X.env (eval c X.env); pure (ForInStep.yield ok) else pure (ForInStep.yield r)) (TP X pins σ Q) X.xe s
def LP : TT := fun _ H Q => Q true H
theorem oK : NQ X [] LP := fun _ _ _ H _ I h => wpAny_tests_nil ⟨H, I, h⟩
end
theorem Ay {α : Type} {t : Sem α} {Q Q' : α -> Shared -> Prop} {M : Model} {A : Around} {E : Value -> Shared -> Prop} {s : Shared} (h : wpAny M A t Q (fun _ _ => False) s) (hQ : ∀ a s, Q a s -> Q' a s) : wpAny M A t Q' E s := wpAny_mono h hQ fun _ _ z => False.elim z
theorem uK {prog : Program} {w : World} {A : Around} {R : Result -> Shared -> Prop} {s : Shared} {elt target iter : Expr} {ifs : List Expr} {scope : Scope} {pos : Pos} {it acc : Value} {env : Env} (I : Nat -> Shared -> Prop)
  (turn : ∀ n s, I n s -> wpAny (model prog w) A (pyNext it) (fun r s₁ => match r with
   | none => R (.ok .next) s₁
   | some v => wpAny (model prog w) A (letOwnedTupleGo target it v) (fun _ s₁' => wpAny (model prog w) A (assign target env v) (fun _ s₂ =>
     wpAny (model prog w) A (forIn ifs true fun c r => if r = true then do let ok <- isTrue c env (eval c env); pure (ForInStep.yield ok) else pure (ForInStep.yield r)) (fun ok s₃ =>
      if ok = true then wpAny (model prog w) A (eval elt env) (fun x s₄ =>
       wpAny (model prog w) A (call (.builtin "list.append") [acc, x]) (fun _ s₅ => ∃ m, m < n /\ I m s₅) (notedBy (model prog w) A env fun e s' => R (.error e) s') s₄) (notedBy (model prog w) A env fun e s' => R (.error e) s') s₃
      else ∃ m, m < n /\ I m s₃) (notedBy (model prog w) A env fun e s' => R (.error e) s') s₂) (notedBy (model prog w) A env fun e s' => R (.error e) s') s₁') (notedBy (model prog w) A env fun e s' => R (.error e) s') s₁) (notedBy (model prog w) A env fun e s' => R (.error e) s') s)
  (n : Nat) (h : I n s) :
  codeAny (model prog w) A (.compLoop (.ListComp elt [⟨target, iter, ifs, 0⟩] scope pos) 0 it acc env) R s := by
 refine codeAny_loop rfl I (fun n s hI => ?_) n h
 show wpAny _ A ((compTurn (.ListComp elt [⟨target, iter, ifs, 0⟩] scope pos) 0 it acc env).onRaise (fun x => do noteFrame x env; theTreesLotGoes x)) _ _ s
 refine wpAny_noted ?_
 rw [compTurn_list]
 refine wpAny_bind (wpAny_standAt (wpAny_bind (wpAny_mono (turn n s hI) (fun r s₁ h₁ => ?_) fun _ _ h' => h')))
 cases r with
 | none => exact wpAny_pure h₁
 | some v =>
  refine wpAny_bind (wpAny_mono h₁ (fun _ s₁' h₁' => ?_) fun _ _ h' => h')
  refine wpAny_bind (wpAny_mono h₁' (fun _ s₂ h₂ => wpAny_bind (wpAny_mono h₂ (fun ok s₃ h₃ => ?_) fun _ _ h' => h')) fun _ _ h' => h')
  cases ok with
  | false => exact wpAny_pure ⟨rfl, h₃⟩
  | true =>
   exact wpAny_bind (wpAny_bind (wpAny_mono h₃ (fun x s₄ h₄ => wpAny_bind (wpAny_mono h₄ (fun _ s₅ h₅ => wpAny_pure (wpAny_pure ⟨rfl, h₅⟩)) fun _ _ h' => h')) fun _ _ h' => h'))
section
variable {X : Cx}
def Ob (wi : TI) (g : TG) (tt : TT) (te : TE) (vs : List Nat) : TE := fun σ H Q => wi σ H fun J H1 => ∀ D, H1 D = none -> ∃ W : Nat -> Nat -> Hp -> Prop, (∃ m, W 0 m (upd H1 D (.lst []))) /\ ∀ i m H, W i m H ->
 (J.stop i H /\ Q (.ref D) H) \/ (J.go i H /\ ∃ Nx : Hp -> Prop, (∀ H', Nx H' -> ∃ m', m' < m /\ W (i + 1) m' H') /\ ∀ x H', J.BP i H x H' -> g x (wipe σ vs) H' fun σ2 H2 => wipe σ2 vs = wipe σ vs /\ tt σ2 H2 fun b H3 =>
  if b = true then te σ2 H3 fun y H4 => ∃ acc, H4 D = some (.lst acc) /\ acc.length < sizeLine /\ Nx (upd H4 D (.lst (acc ++ [y]))) else Nx H3)
theorem Fe {pins : List (Addr × Obj)} {s : Shared} {σ : St} {H : Hp} {Q : VK} {elt tg iter : Expr} {ifs : List Expr} {scope : Scope} {own : List (Str × Nat)} {pos pos' : Pos} {wi : TI} {g : TG} {tt : TT} {te : TE} {use : Option (Value -> Sem Unit)} {Qf : Value -> Shared -> Prop}
  (hc : X.calm = true) (hN : X.N.Nodup) (I : Inv X pins σ H s) (hi : PI X tg iter wi) (ok : Ao X.N X.env.scope scope own)
  (hg : ∀ (s : Shared) (H : Hp) (C : Addr) (cl : List (Str × Addr)) (fp : List Addr), PG (X.xa s H scope (compEnvC scope cl C X.env) fp) tg g) (ht : ∀ (s : Shared) (H : Hp) (C : Addr) (cl : List (Str × Addr)) (fp : List Addr), NQ (X.xa s H scope (compEnvC scope cl C X.env) fp) ifs tt)
  (he : ∀ (s : Shared) (H : Hp) (C : Addr) (cl : List (Str × Addr)) (fp : List Addr), PE (X.xa s H scope (compEnvC scope cl C X.env) fp) elt te) (hs : ∀ x, foldedSetIterable iter X.env x = pure x)
  (h : Ob wi g tt te (own.map (·.2)) σ H Q)
  (QU : ∀ D C s' m H', Inv X pins σ H' s' -> Q (.ref D) H' -> s'.heap.Ns C m -> qC X pins H' C -> compPost (model X.prog X.w) X.A X.xe use Qf (.ref D) C (.ok .next) s') :
  wpAny (model X.prog X.w) X.A (comprehension (.ListComp elt [⟨tg, iter, ifs, 0⟩] scope pos) scope X.env pos' (newList []) false (eval iter X.env) use) Qf X.xe s := by
 have sI : ∀ y ∈ scope.names, y.2 = .free -> ∃ c, X.env.cells.lookup y.1 = some c := fun y hy e => by
  rcases ok.free y hy e with k | k
  ·exact I.ok.has _ (.inl k)
  ·exact I.ok.has _ (.inr k)
 refine wpAny_comprehension_free (use := use) rfl hs (yD sI) ok.kind (fun y hy e => by rw [ok.uniq y hy, e])
  (bI (hi pins s σ H _ I h) fun xv s1 hx => bI hx fun MI s2 h2 => ?_)
 obtain ⟨it, fp, tn, J, H2, e, I2, T, jl, f2, q⟩ := h2
 subst e
 refine wpAny_newObj_type (vO ?_) (by show 0 <= sizeLine; decide)
 generalize hD : s2.heap.objs.size = D
 have QW : H2 D = none := I2.bD.fresh (Nat.le_of_eq hD)
 obtain ⟨W, ⟨m0, w0⟩, turn⟩ := q D QW
 generalize OF : ({ s2 with heap := s2.heap.push { cls := .type "list", data := .seq ([] : List Value).toArray } } : Shared) = s3
 have I3 : Inv X pins σ (upd H2 D (.lst [])) s3 := by
  rw [<- OF]
  refine I2.laid (t' := s2.toks) (fun b o e => Heap.get?_push_of_some _ e) (Nat.le_of_eq hD) ⟨Nat.zero_le _, [], 0, .nil, ?_⟩
  rw [<- hD]
  exact Heap.get?_push_size _ rfl
 have h3 : s3.heap = s2.heap.push { cls := .type "list", data := .seq ([] : List Value).toArray } := by rw [<- OF]
 have sz : ∀ b ∈ fp, b < s2.heap.objs.size := fun b hb => by
  obtain ⟨o, e, _⟩ := T.obj _ _ jl b hb
  exact Heap.lt_size e
 have f3 : ∀ b ∈ fp, qC X pins (upd H2 D (.lst [])) b /\ b < s3.heap.objs.size := fun b hb => by
  have hW := sz b hb
  refine ⟨⟨?_, (f2 b hb).2⟩, by rw [h3, Heap.size_push]; exact Nat.lt_succ_of_lt hW⟩
  rw [ak (by rw [<- hD]; exact Nat.ne_of_lt hW)]
  exact (f2 b hb).1
 have Lg : tn 0 s3.heap := T.keep _ _ _ jl fun b _ o e => by rw [h3]; exact Heap.get?_push_of_some _ e
 have I4 := wN I3 ok hN f3
 have pg := hg s3 (upd H2 D (.lst [])) s3.heap.objs.size (cellsFrom (s3.heap.objs.size + 1) scope.names (bA X.env.cells scope.names [])) fp
 have pt := ht s3 (upd H2 D (.lst [])) s3.heap.objs.size (cellsFrom (s3.heap.objs.size + 1) scope.names (bA X.env.cells scope.names [])) fp
 have pe := he s3 (upd H2 D (.lst [])) s3.heap.objs.size (cellsFrom (s3.heap.objs.size + 1) scope.names (bA X.env.cells scope.names [])) fp
 show codeAny _ _ (.compStart (.ListComp elt [⟨tg, iter, ifs, 0⟩] scope pos) 0 (.ref it) (.ref D) (compEnvC scope (cellsFrom (s3.heap.objs.size + 1) scope.names (bA X.env.cells scope.names [])) s3.heap.objs.size X.env)) (compPost (model X.prog X.w) X.A X.xe use Qf (.ref D) s3.heap.objs.size) { s3 with heap := pushCells (s3.heap.push { cls := .type "dict", data := .dict #[] }) scope.names }
 have O0 : ∀ b ∈ fp, (upd H2 D (.lst [])) b = none := fun b hb => (f3 b hb).1.1
 generalize QM : compEnvC scope (cellsFrom (s3.heap.objs.size + 1) scope.names (bA X.env.cells scope.names [])) s3.heap.objs.size X.env = ce at I4 pg pt pe ⊢
 have cL : ce.locals = s3.heap.objs.size := by subst QM; rfl
 generalize RU : upd H2 D (.lst []) = H3 at I3 I4 pg pt pe w0 O0 f3
 generalize Q1 : ({ s3 with heap := pushCells (s3.heap.push { cls := .type "dict", data := .dict #[] }) scope.names } : Shared) = s4 at I4 ⊢
 have Od : tn 0 s4.heap := T.keep _ _ _ Lg fun b _ o e => by rw [<- Q1]; exact pushCells_keeps _ _ _ _ (Heap.get?_push_of_some _ e)
 have stat : ∀ {σ' : St} {H' : Hp} {s' : Shared}, Inv (X.xa s3 H3 scope ce fp) [] σ' H' s' -> (∀ b ∈ fp, H' b = none) -> ∀ b ∈ fp, qC (X.xa s3 H3 scope ce fp) [] H' b := fun {σ' H' s'} I' hn b hb =>
  ⟨hn b hb, (I'.ok.sL b hb).1, I'.ok.yz b hb, .inl hb, fun x c e => (I'.ok.sL b hb).2 x c e, fun p hp => absurd (show p ∈ ([] : List (Addr × Obj)) ++ [] from hp) (by simp)⟩
 have loop : codeAny (model X.prog X.w) X.A (.compLoop (.ListComp elt [⟨tg, iter, ifs, 0⟩] scope pos) 0 (.ref it) (.ref D) ce) (compPost (model X.prog X.w) X.A X.xe use Qf (.ref D) s3.heap.objs.size) s4 := by
  refine uK (fun n s' => ∃ i H', Inv (X.xa s3 H3 scope ce fp) [] (wipe σ (own.map (·.2))) H' s' /\ tn i s'.heap /\ (∀ b ∈ fp, H' b = none) /\ W i n H') ?_ m0 ⟨0, H3, I4, Od, O0, w0⟩
  rintro n s5 ⟨i, H5, I5, IJ, n5, w5⟩
  rcases turn i n H5 w5 with ⟨stop, qq⟩ | ⟨go, Nx, QV, step⟩
  ·have td := T.done (X.xa s3 H3 scope ce fp) rfl rfl rfl hc i [] s5 _ H5 (fun _ _ => False) I5 (stat I5 n5) IJ stop
   refine Ay td fun r s6 qq => ?_
   obtain ⟨hr, I6⟩ := qq
   subst hr
   have I7 : Inv X pins σ H5 s6 := I3.DJ (ch := fp) I6.os I6.base I6.bD I6.bare fun b hb => ⟨(f3 b hb).1.2.2.2.1, (f3 b hb).1.2.1, (f3 b hb).1.2.2.2.2.1, (f3 b hb).1.2.2.2.2.2⟩
   have nC : H5 s3.heap.objs.size = none := by
    have z : H5 ce.locals = none := I6.free
    rw [cL] at z
    exact z
   obtain ⟨m, hn, _⟩ := I6.loc
   have hn : s6.heap.Ns ce.locals m := hn
   rw [cL] at hn
   exact QU D s3.heap.objs.size s6 m H5 I7 qq hn (I3.Dv (zA0 _) nC)
  ·have ti := T.item (X.xa s3 H3 scope ce fp) rfl rfl rfl hc i [] s5 _ H5 (fun _ _ => False) I5 (stat I5 n5) IJ go
   refine Ay ti fun r s6 qq => ?_
   obtain ⟨u, hr, h6⟩ := qq
   subst hr
   refine Ay h6 fun _ s7 qq => ?_
   obtain ⟨x, H7, I7, r7, y7, Ma, n7⟩ := qq
   have Rx := I7.pinned (stat I7 n7) (T.obj _ _ Ma)
   refine Ay (pg _ s7 _ H7 x u _ Rx r7 (step x H7 y7)) fun _ s8 qq => ?_
   obtain ⟨σ8, H8, I8, OD, q8⟩ := qq
   refine Ay (pt _ s8 σ8 H8 _ I8 q8) fun b s9 qq => ?_
   obtain ⟨H9, I9, q9⟩ := qq
   have fin : ∀ {s' : Shared} {H' : Hp}, Inv (X.xa s3 H3 scope ce fp) ([] ++ pL fp s7.heap) σ8 H' s' -> Nx H' -> ∃ m, m < n /\ ∃ i H', Inv (X.xa s3 H3 scope ce fp) [] (wipe σ (own.map (·.2))) H' s' /\ tn i s'.heap /\ (∀ b ∈ fp, H' b = none) /\ W i m H' := fun {s' H'} I' nx => by
    obtain ⟨m', hm, w'⟩ := QV H' nx
    have JM : ∀ b ∈ fp, ∀ o, s7.heap.get? b = some o -> s'.heap.get? b = some o /\ H' b = none := fun b hb o e =>
     let z := I'.pin (b, o) (List.mem_append_right _ (List.mem_append_right _ (kh hb e)))
     ⟨z.1, z.2.1⟩
    have hl : (wipe σ (own.map (·.2))).length = σ8.length := by rw [<- OD, ig]
    refine ⟨m', hm, i + 1, H', (I'.kH (pins := [])).weak hl (fun j v e => ?_), T.keep _ _ _ Ma fun b hb o e => (JM b hb o e).1, fun b hb => ?_, w'⟩
    ·rw [<- OD] at e
     exact (lU e).1
    ·obtain ⟨o, e, _⟩ := T.obj _ _ Ma b hb
     exact (JM b hb o e).2
   cases b with
   | false =>
    simp only [Bool.false_eq_true, if_false] at q9 ⊢
    exact fin I9 q9
   | true =>
    simp only [if_true] at q9 ⊢
    refine Ay (pe _ s9 σ8 H9 _ I9 q9) fun z RC qq => ?_
    obtain ⟨yv, Sf, R5, PL, acc, Nt, MN, nx⟩ := qq
    exact Iw (X := X.xa s3 H3 scope ce fp) R5 Nt MN PL fun RA Rz => fin Rz nx
 exact codeAny_compStart_list loop (T.self X.A 0 _ _ _ Od loop)
theorem zA {elt tg iter : Expr} {ifs : List Expr} {scope : Scope} {own : List (Str × Nat)} {pos : Pos} {wi : TI} {g : TG} {tt : TT} {te : TE} (hc : X.calm = true) (hN : X.N.Nodup) (hi : PI X tg iter wi) (ok : Ao X.N X.env.scope scope own)
  (hg : ∀ (s : Shared) (H : Hp) (C : Addr) (cl : List (Str × Addr)) (fp : List Addr), PG (X.xa s H scope (compEnvC scope cl C X.env) fp) tg g) (ht : ∀ (s : Shared) (H : Hp) (C : Addr) (cl : List (Str × Addr)) (fp : List Addr), NQ (X.xa s H scope (compEnvC scope cl C X.env) fp) ifs tt)
  (he : ∀ (s : Shared) (H : Hp) (C : Addr) (cl : List (Str × Addr)) (fp : List Addr), PE (X.xa s H scope (compEnvC scope cl C X.env) fp) elt te) (hs : ∀ x, foldedSetIterable iter X.env x = pure x := by intro _; rfl) :
  PE X (.ListComp elt [⟨tg, iter, ifs, 0⟩] scope pos) (Ob wi g tt te (own.map (·.2))) := by
 intro pins s σ H Q I h
 rw [eval_ListComp]
 refine Fe hc hN I hi ok hg ht he hs h fun D C s' m H' I' q hn f => ⟨m, hn, fun LA sb => ?_⟩
 obtain ⟨f0, f1, f2, f3, f4, f5⟩ := f
 exact ⟨.ref D, H', I'.turned (t' := s'.toks) (fun b o hb e => (sb.2 b hb).trans e) f0 f1 f3 f4 f5, rfl, q⟩
end
theorem Fd {K : PySem.W.Frag} {a : Addr} {xs : List V} {g : TG} {tt : TT} {te : TE} {vs : List Nat} {σ : St} {H1 : Hp} {D : Addr} {Qd : Hp -> Prop} (Pv : Nat -> Hp -> Prop) (h0 : Pv 0 (upd H1 D (.lst []))) (hl : ∀ i H, i <= xs.length -> Pv i H -> eu K H a xs)
  (hs : ∀ i x H, xs[i]? = some x -> Pv i H -> g x (wipe σ vs) H fun σ2 H2 => wipe σ2 vs = wipe σ vs /\ tt σ2 H2 fun b H3 =>
   if b = true then te σ2 H3 fun y H4 => ∃ acc, H4 D = some (.lst acc) /\ acc.length < sizeLine /\ Pv (i + 1) (upd H4 D (.lst (acc ++ [y]))) else Pv (i + 1) H3) (hd : ∀ H, Pv xs.length H -> Qd H) :
  ∃ W : Nat -> Nat -> Hp -> Prop, (∃ m, W 0 m (upd H1 D (.lst []))) /\ ∀ i m H, W i m H ->
   ((Gz K a).stop i H /\ Qd H) \/ ((Gz K a).go i H /\ ∃ Nx : Hp -> Prop, (∀ H', Nx H' -> ∃ m', m' < m /\ W (i + 1) m' H') /\ ∀ x H', (Gz K a).BP i H x H' -> g x (wipe σ vs) H' fun σ2 H2 => wipe σ2 vs = wipe σ vs /\ tt σ2 H2 fun b H3 =>
    if b = true then te σ2 H3 fun y H4 => ∃ acc, H4 D = some (.lst acc) /\ acc.length < sizeLine /\ Nx (upd H4 D (.lst (acc ++ [y]))) else Nx H3) := by
 refine ⟨fun i m H => m = xs.length - i /\ i <= xs.length /\ Pv i H, ⟨xs.length, by simp, Nat.zero_le _, h0⟩, ?_⟩
 rintro i m H ⟨rfl, hi, p⟩
 have q := hl i H hi p
 by_cases hW : i < xs.length
 ·refine .inr ⟨⟨xs, xs[i], q, by simp [hW]⟩, Pv (i + 1), fun H' p' => ⟨xs.length - (i + 1), by omega, rfl, hW, p'⟩, fun x H' y => ?_⟩
  obtain ⟨e, y⟩ := y
  subst e
  exact hs i x _ (y xs q) p
 ·have e : i = xs.length := by omega
  subst e
  exact .inl ⟨⟨xs, q, zA0 _⟩, hd H p⟩
theorem CW {K : PySem.W.Frag} {a : Addr} {xs : List V} {g : TG} {tt : TT} {te : TE} {vs : List Nat} {σ : St} {H1 : Hp} {D : Addr} {Qd : Hp -> Prop} (Pv : Nat -> Hp -> Prop) (h0 : Pv 0 (upd H1 D (.lst []))) (hl : ∀ i H, i <= xs.length -> Pv i H -> ft K H a xs)
  (hs : ∀ i x H, xs[i]? = some x -> Pv i H -> g x (wipe σ vs) H fun σ2 H2 => wipe σ2 vs = wipe σ vs /\ tt σ2 H2 fun b H3 =>
   if b = true then te σ2 H3 fun y H4 => ∃ acc, H4 D = some (.lst acc) /\ acc.length < sizeLine /\ Pv (i + 1) (upd H4 D (.lst (acc ++ [y]))) else Pv (i + 1) H3) (hd : ∀ H, Pv xs.length H -> Qd H) :
  ∃ W : Nat -> Nat -> Hp -> Prop, (∃ m, W 0 m (upd H1 D (.lst []))) /\ ∀ i m H, W i m H ->
   ((Gy K a).stop i H /\ Qd H) \/ ((Gy K a).go i H /\ ∃ Nx : Hp -> Prop, (∀ H', Nx H' -> ∃ m', m' < m /\ W (i + 1) m' H') /\ ∀ x H', (Gy K a).BP i H x H' -> g x (wipe σ vs) H' fun σ2 H2 => wipe σ2 vs = wipe σ vs /\ tt σ2 H2 fun b H3 =>
    if b = true then te σ2 H3 fun y H4 => ∃ acc, H4 D = some (.lst acc) /\ acc.length < sizeLine /\ Nx (upd H4 D (.lst (acc ++ [y]))) else Nx H3) := by
 refine ⟨fun i m H => m = xs.length - i /\ i <= xs.length /\ Pv i H, ⟨xs.length, by simp, Nat.zero_le _, h0⟩, ?_⟩
 rintro i m H ⟨rfl, hi, p⟩
 have q := hl i H hi p
 by_cases hW : i < xs.length
 ·refine .inr ⟨⟨xs, xs[i], q, by simp [hW]⟩, Pv (i + 1), fun H' p' => ⟨xs.length - (i + 1), by omega, rfl, hW, p'⟩, fun x H' y => ?_⟩
  obtain ⟨e, y⟩ := y
  subst e
  exact hs i x _ (y xs q) p
 ·have e : i = xs.length := by omega
  subst e
  exact .inl ⟨⟨xs, q, zA0 _⟩, hd H p⟩
noncomputable def B8 (N : List Str) (sc scope : Scope) (own : List (Str × Nat)) : Bool :=
 (match scope.kind with | .function => true | _ => false) && (scope.names.all fun y => decide (scope.names.lookup y.1 = some y.2)) && (own.all fun p => decide (N[p.2]? = some p.1)) &&
  (scope.names.all fun y => match y.2 with
   | .free => (match sc.names.lookup y.1 with | some .cell => true | some .free => true | _ => false)
   | .local => decide (y.1 ∈ own.map (·.1)) || decide (y.1 ∉ N)
   | .cell => decide (y.1 ∈ own.map (·.1)) || decide (y.1 ∉ N)
   | _ => true)
theorem lK {N : List Str} {sc scope : Scope} {own : List (Str × Nat)} (h : B8 N sc scope own = true) : Ao N sc scope own := by
 unfold B8 at h
 simp only [Bool.and_eq_true, List.all_eq_true, decide_eq_true_eq] at h
 obtain ⟨⟨⟨h1, h2⟩, h3⟩, h4⟩ := h
 refine ⟨?_, h2, h3, fun y hy e => ?_, fun y hy e => ?_⟩
 ·split at h1
  ·assumption
  ·cases h1
 ·have q := h4 y hy
  simp only [e] at q
  split at q <;> first | exact .inl (by assumption) | exact .inr (by assumption) | cases q
 ·have q := h4 y hy
  rcases e with e | e <;> (simp only [e, Bool.or_eq_true, decide_eq_true_eq] at q; exact q)
end L2
namespace L2
open PySem Spec PyProof.Rows
section
variable {prog : Program} {w : World} {A : Around} {R : Result -> Shared -> Prop} {s : Shared} {elt t0 i0 t1 i1 : Expr} {Qw Qv : List Expr} {scope : Scope} {pos : Pos} {it acc : Value} {env : Env}
end
section
variable {X : Cx}
end
end L2
namespace L2
open PySem Spec PyProof.Rows
section
variable {κ : Type} [DecidableEq κ]
def uV (kvs : List (κ × V)) (k : κ) : Option V := (kvs.find? fun kv => decide (kv.1 = k)).map (·.2)
theorem BS {p : κ × V} {r : List (κ × V)} {k : κ} (e : p.1 = k) : uV (p :: r) k = some p.2 := by simp [uV, List.find?_cons, e]
theorem BU {p : κ × V} {r : List (κ × V)} {k : κ} (e : ¬ p.1 = k) : uV (p :: r) k = uV r k := by simp [uV, List.find?_cons, e]
theorem nI.mZ {o : Option V} {u : Option Value} (r : nI o u) : o.isSome = u.isSome := by
 cases o with
 | none => cases u with
  | none => rfl
  | some _ => exact (show False from r).elim
 | some _ => cases u with
  | none => exact (show False from r).elim
  | some _ => rfl
theorem KV.val {kvs : List (κ × V)} {vs : List (κ × Value)} (r : KV kvs vs) (k : κ) : nI (uV kvs k) (valueAt vs k) := by
 unfold KV at r
 induction r with
 | nil => exact True.intro
 | @cons p q ps qs h t ih =>
  obtain ⟨h1, h2⟩ := h
  by_cases e : p.1 = k
  ·have e' : q.1 = k := h1.symm.trans e
   have b : valueAt (q :: qs) k = some q.2 := by simp [valueAt, List.find?_cons, e']
   rw [BS e, b]; exact h2
  ·have e' : ¬ q.1 = k := fun z => e (h1.trans z)
   have b : valueAt (q :: qs) k = valueAt qs k := by simp [valueAt, List.find?_cons, e']
   rw [BU e, b]; exact ih
end
theorem Ge {P : Program} {w : World} {k : Key} {u : Value} (r : RelV (kV k) u) : (bN P w).is k u = true := by
 cases k with
 | inl i => obtain ⟨t, e⟩ := (show ∃ t, u = Value.int i t from r); subst e; exact vU P w i t
 | inr x => obtain ⟨t, e⟩ := (show ∃ t, u = Value.str x t from r); subst e; exact vT P w x t
theorem sE {P : Program} {w : World} : ∀ {ks : List Key} {us : List Value}, Vals (ks.map kV) us -> ItemsAre (bN P w) ks us
 | [], _, r => by rw [List.map_nil] at r; cases r; exact .nil
 | k :: ks, _, r => by
  rw [List.map_cons] at r
  cases r with
  | cons h t => exact .cons (Ge h) (sE t)
section
variable {P : Program} {w : World} {H : Hp} {h : Heap} {a : Addr}
end
section
variable {X : Cx} {pins : List (Addr × Obj)} {σ : St} {H : Hp} {s : Shared} {a : Addr} {y v : V} {u r : Value} {o : Option V} {A : Around} {E : Value -> Shared -> Prop}
theorem Inv.big (I : Inv X pins σ H s) : sysModules < s.heap.objs.size := by
 have h : mainGlobals < s.heap.objs.size := (I.mod.glob.keeps I.bk).lt
 exact Nat.lt_trans (by decide) h
theorem zY {h' : Heap} {t' : Nat} {ob : HO} (I : Inv X pins σ H s) (mu : KQ (H a)) (hs : Heap.SameBut a s.heap h') (he : ∃ q, h'.get? a = some q) (new : bC X.prog X.w (upd H a ob) h' a ob) :
  Inv X pins σ (upd H a ob) { s with heap := h', toks := t' } :=
 I.write (x := a) (e := a) mu (.inl rfl) (fun b q hb z => (hs.2 b hb).trans z) he new
end
section
variable {X : Cx} {pins : List (Addr × Obj)} {σ : St} {H : Hp} {s : Shared} {a : Addr} {kvs : List (Key × V)} {k : Key} {u : Value} {A : Around} {E : Value -> Shared -> Prop}
end
def IC (i : Expr) : Prop := ∀ ov iv, subscripted i false ov iv = operate [ov, iv] (getItem ov iv)
theorem zd {prog : Program} {w : World} {A : Around} {E : Value -> Shared -> Prop} {s : Shared} {env : Env} {value slice : Expr} {pos : Pos} {T id : String} {Q : Value -> Shared -> Prop}
  (hl : typeLookup (.type T) "__getitem__" = pure (some (.builtin id))) (hs : IC slice)
  (h : wpAny (model prog w) A (eval value env) (fun o s₁ => wpAny (model prog w) A (eval slice env) (fun i s₂ => s₂.TypeIs o T /\ wpAny (model prog w) A (getItem o i) Q E s₂) E s₁) E s) :
  wpAny (model prog w) A (eval (.Subscript value slice pos) env) Q E s := by
 refine Subscript_ (wpAny_mono h (fun o s₁ h₁ => wpAny_mono h₁ (fun i s₂ h₂ => ?_) fun _ _ x => x) fun _ _ x => x)
 obtain ⟨hT, h₂⟩ := h₂
 unfold subscriptTail
 refine wpAny_bind ?_
 rw [getitemInPython_of_ne hT.not_modules]
 refine wpAny_bind (wpAny_specialOf hT hl ?_)
 have fin : wpAny (model prog w) A (subscripted slice false o i) (fun r s₃ => wpAny (model prog w) A (letTemporaryGo value o r >>= fun _ => pure r) Q E s₃) E s₂ := by
  rw [hs o i]
  exact wpAny_operating (wpAny_mono h₂ (fun r s₃ h₃ => wpAny_bind (wpAny_letTemporaryGo (wpAny_pure h₃))) fun _ _ x => x)
 first
  | exact wpAny_pure (wpAny_bind fin)
  | exact wpAny_bind (wpAny_pure (wpAny_bind fin))
  | exact wpAny_bind fin
section
variable {X : Cx} {o i e value : Expr} {pos pos' Ax : Pos} {td ty tv : TE}
end
section
variable {X : Cx} {pos : Pos}
end
section
variable {X : Cx} {pins : List (Addr × Obj)} {σ : St} {H : Hp} {s : Shared} {a : Addr} {y d : V} {u r : Value} {o : Option V} {A : Around} {E : Value -> Shared -> Prop}
end
section
variable {X : Cx} {o e f : Expr} {apos c5 : Pos} {td ty tx : TE}
end
section
variable {X : Cx} {pins : List (Addr × Obj)} {σ : St} {H : Hp} {s : Shared} {a : Addr} {kvs : List (Key × V)} {A : Around} {E : Value -> Shared -> Prop}
end
section
variable {X : Cx} {pins : List (Addr × Obj)} {σ : St} {H : Hp} {s : Shared} {a : Addr} {y : V} {u : Value} {A : Around} {E : Value -> Shared -> Prop}
end
end L2
namespace L2
open PySem Spec PyProof.Rows
section
variable {prog : Program} {w : World} {A : Around} {E : Value -> Shared -> Prop}
end
section
variable {X : Cx}
end
end L2
namespace L2
open PySem Spec PyProof.Rows
theorem qy : bootBuiltins "reversed" = some (.type "reversed") := by decide +kernel
section
variable {X : Cx} {pins : List (Addr × Obj)} {σ : St} {H : Hp} {s : Shared} {h' : Heap}
theorem Inv.Ar {t' : Nat} {ch : List Addr} {T : Addr} {ob : HO} (I : Inv X pins σ H s) (k : ∀ b o, b ∉ ch -> s.heap.get? b = some o -> h'.get? b = some o) (hf : ∀ b ∈ ch, qC X pins H b) (hT : s.heap.objs.size <= T)
  (new : bC X.prog X.w (upd H T ob) h' T ob) : Inv X pins σ (upd H T ob) { s with heap := h', toks := t' } := by
 have hn : H T = none := I.bD.fresh hT
 have Hh : ∀ b u, H b = some u -> b ∉ ch := fun b u e z => by
  have q := (hf b z).1
  rw [q] at e; cases e
 refine I.step (g' := s.gens) (d' := s.drawn) (ch := ch) (fun b hb => ⟨(hf b hb).2.2.2.1, (hf b hb).2.1, (hf b hb).2.2.2.2.1, (hf b hb).2.2.2.2.2⟩) (fun b o _ _ hc e _ => k b o hc e) (fun b o _ _ hc e _ => ⟨o.slots, k b o hc e⟩)
  (fun b o _ e n => ?_) (fun b o hc e => ⟨o, k b o hc e⟩) (fun b xs e => ?_) (fun b o u e => ?_) (fun b ps e => ⟨#[], ?_⟩) (fun m hm => ?_) (fun b u e => ?_) I.bare
 ·rw [ak (Nat.ne_of_lt (Nat.lt_of_lt_of_le (Heap.lt_size e) hT))]; exact n
 ·rw [ak (aI e hn)]; exact e
 ·rw [ak (aI e hn)]; exact e
 ·rw [ak (aI e hn), e]; simp
 ·obtain ⟨o, es, ep, ho, r⟩ := hm
  exact ⟨o, es, ep, k _ o (fun z => (hf _ z).2.1 rfl) ho, r⟩
 ·by_cases hb : b = T
  ·subst hb
   rw [ah] at e
   cases e
   exact new
  ·rw [ak hb] at e
   refine (I.bD b u e).tw (fun c v hc q => k c v ?_ q) (fun c q => by rw [ak (aI q hn)]; exact q) fun c xs q => by rw [ak (aI q hn)]; exact q
   rcases hc with z | z
   ·rw [z]; exact Hh b u e
   ·exact Hh c _ z
end
section
variable {X : Cx}
theorem ua {tg : Expr} {pins : List (Addr × Obj)} {σ : St} {H : Hp} {s : Shared} {R : It -> Hp -> Prop} {J : It} {tn : Nat -> Heap -> Prop} {tk : Nat} (I : Inv X pins σ H s) (o : Obj)
  (T : Turn X.prog X.w X.K tg J [s.heap.objs.size] s.heap.objs.size tn) (st : tn 0 (s.heap.push o)) (q : R J H) : Pl X pins σ tg R (.ref s.heap.objs.size) { s with heap := s.heap.push o, toks := tk } := by
 refine ⟨s.heap.objs.size, [s.heap.objs.size], tn, J, H, rfl, I.kept fun b ob e => Heap.get?_push_of_some _ e, T, st, fun b hb => ?_, q⟩
 have e : b = s.heap.objs.size := by simpa using hb
 subst e
 exact I.Dv (zA0 _) (I.bD.fresh (zA0 _))
end
section
variable {X : Cx} {tg : Expr}
end
def KS (K : W.Frag) (a : Addr) (n : Nat) : It :=
 ⟨fun i H => i < n /\ ∃ (xs : List V) (x : V), eu K H a xs /\ xs[n - 1 - i]? = some x, fun i H x H' => H' = H /\ ∀ xs, eu K H a xs -> xs[n - 1 - i]? = some x, fun i _ => n <= i⟩
theorem BX {P : Program} {w : World} {K : W.Frag} {tg : Expr} (a it : Addr) (n : Nat) : Turn P w K tg (KS K a n) [it] it (fun i h => i <= n /\ h.IsRevIter it a ((n : Int) - 1 - (i : Nat))) where
 mem := by simp
 obj := fun i h st b hb => by
  have e : b = it := by simpa using hb
  subst e
  obtain ⟨_, o, e, c, d⟩ := st
  exact ⟨o, e, fun v z => by rw [d] at z; cases z⟩
 keep := fun i h h' st k => ⟨st.1, st.2.at fun o e => k it (by simp) o e⟩
 item := by
  intro X hP hw hK hc i pins s σ H E I hf st hg
  subst hP hw hK
  obtain ⟨L5, xs, x, hq, hx⟩ := hg
  obtain ⟨aF, rv, p, hz⟩ := I.list hq
  obtain ⟨u, hu, ru⟩ := rv.get hx
  obtain ⟨f0, f1, f2, f3, f4, f5⟩ := hf it (by simp)
  obtain ⟨_, hit⟩ := st
  have e1 : (n : Int) - 1 - ((i : Nat) : Int) = ((n - 1 - i : Nat) : Int) := by omega
  rw [e1] at hit
  refine wpAny_pyNext_rev_item hit p.isList (x := u) (by simpa using hu) fun h' gz sb => ?_
  have e2 : ((n - 1 - i : Nat) : Int) - 1 = (n : Int) - 1 - ((i + 1 : Nat) : Int) := by omega
  rw [e2] at gz
  have I1 : Inv X pins σ H { s with heap := h' } := I.turned (t' := s.toks) (fun b o hb e => (sb.2 b hb).trans e) f0 f1 f3 f4 f5
  obtain ⟨o, e, c, d⟩ := id gz
  exact ⟨u, rfl, wo (s := { s with heap := h' }) e c d (by decide) ⟨x, H, I1, ru, ⟨rfl, fun ys hy => by rw [I.qb hy hq]; exact hx⟩, ⟨L5, gz⟩, fun b hb => (hf b hb).1⟩⟩
 done := by
  intro X hP hw hK hc i pins s σ H E I hf st hg
  subst hP hw hK
  obtain ⟨f0, f1, f2, f3, f4, f5⟩ := hf it (by simp)
  obtain ⟨L5, hit⟩ := st
  have ON : n <= i := hg
  have e1 : (n : Int) - 1 - ((i : Nat) : Int) = -1 := by omega
  rw [e1] at hit
  exact wpAny_pyNext_rev_end (I.ok.hd hc) hit fun h' eb => ⟨rfl, I.turned (t' := s.toks) (fun b o hb e => eb b o hb e) f0 f1 f3 f4 f5⟩
 self := fun A i s Q E st h => wpAny_pyIter_revIter st.2 h
def MM (K : W.Frag) (ta : TA) : TI := fun σ H R => ta σ H fun vs H1 => ∃ (a : Addr) (xs : List V), vs = [.ref a] /\ eu K H1 a xs /\ R (KS K a xs.length) H1
section
variable {X : Cx} {tg : Expr}
theorem vA {e : Expr} {ta : TA} {p pos : Pos} (hg : Gl X "reversed") (hm : X.mg "reversed" = none) (ha : PA X [e] ta) (hs : starEach [e] X.env = [(false, eval e X.env)] := by rfl) : PI X tg (.Call (.Name "reversed" p) [e] [] pos) (MM X.K ta) := by
 intro pins s σ H R I h
 refine Call_ (qc I hg hm qy (PyProof.Rows.callWith_type1 (bI (ha pos pins s σ H _ I h) fun us s1 qq => ?_) hs rfl))
 obtain ⟨vs, H1, I1, r1, q1⟩ := qq
 obtain ⟨a, xs, e, hq, q⟩ := q1
 subst e
 cases r1 with
 | cons r rr =>
  cases rr
  cases r
  obtain ⟨aF, rv, p', hz⟩ := I1.list hq
  have hl := rv.length
  have e1 : ((aF.toArray.size : Nat) : Int) - 1 = (xs.length : Int) - 1 - ((0 : Nat) : Int) := by simp only [List.size_toArray]; omega
  refine call_reversed_list p'.isList (wpAny_pyIter_revIter (l := a) (i := ((aF.toArray.size : Nat) : Int) - 1) ⟨_, Heap.get?_push_size _ rfl, rfl, rfl⟩ ?_)
  refine ua (tk := s1.toks) I1 _ (BX a _ xs.length) ⟨Nat.zero_le _, ?_⟩ q
  rw [<- e1]
  exact ⟨_, Heap.get?_push_size _ rfl, rfl, rfl⟩
end
def KU (x : Str) : It := ⟨fun i _ => i < x.cps.size, fun i H v H' => H' = H /\ ∃ c, x.cps[i]? = some c /\ v = .str ⟨#[c]⟩, fun i _ => x.cps.size <= i⟩
theorem uZ {P : Program} {w : World} {K : PySem.W.Frag} {tg : Expr} (it : Addr) (x : Str) (t : Tok) (ty : String) (Gg : ty = "str_ascii_iterator" \/ ty = "str_iterator") :
  Turn P w K tg (KU x) [it] it (fun i h => h.IsStrIter it ty x t i) where
 mem := by simp
 obj := fun i h st b hb => by
  have e : b = it := by simpa using hb
  subst e
  obtain ⟨o, e, c, d⟩ := st
  exact ⟨o, e, fun v z => by rw [d] at z; cases z⟩
 keep := fun i h h' st k => let ⟨o, ho, r⟩ := st; ⟨o, k it (by simp) o ho, r⟩
 item := by
  intro X hP hw hK hc i pins s σ H E I hf st hg
  subst hP hw hK
  obtain ⟨f0, f1, f2, f3, f4, f5⟩ := hf it (by simp)
  have W : Walks X.prog X.w X.A it [it] [it] x.cps.size (SignAt x) (fun i h => h.IsStrIter it ty x t i) := by
   rcases Gg with e | e
   ·rw [e]; exact Walks.strAscii (I.ok.hd hc) it x t
   ·rw [e]; exact Walks.strWide (I.ok.hd hc) it x t
  have HU : ["enumerate", "zip", "dict_itemiterator", "dict_reverseitemiterator", "odict_iterator", "itertools.zip_longest", "itertools.pairwise"].contains ty = false := by
   rcases Gg with e | e
   ·rw [e]; decide
   ·rw [e]; decide
  refine W.item i s _ _ hg st fun v h' tk hv gz kk => ?_
  obtain ⟨c, u, QL, rfl⟩ := hv
  have I1 : Inv X pins σ H { s with heap := h', toks := tk } := I.turned (fun b o hb e => kk b o (by simpa using hb) e) f0 f1 f3 f4 f5
  obtain ⟨oi, e, cc, dd⟩ := id gz
  exact ⟨_, rfl, wo (s := { s with heap := h', toks := tk }) e cc dd HU ⟨.str ⟨#[c]⟩, H, I1, ⟨u, rfl⟩, ⟨rfl, c, QL, rfl⟩, gz, fun b hb => (hf b hb).1⟩⟩
 done := by
  intro X hP hw hK hc i pins s σ H E I hf st hg
  subst hP hw hK
  obtain ⟨f0, f1, f2, f3, f4, f5⟩ := hf it (by simp)
  have hx : x.cps[i]? = none := Array.getElem?_eq_none hg
  rcases Gg with e | e
  ·rw [e] at st
   exact wpAny_pyNext_ascii_end (I.ok.hd hc) st hx fun h' eb => ⟨rfl, I.turned (t' := s.toks) (fun b o hb e => eb b o hb e) f0 f1 f3 f4 f5⟩
  ·rw [e] at st
   exact wpAny_pyNext_wide_end (I.ok.hd hc) st hx fun h' eb => ⟨rfl, I.turned (t' := s.toks) (fun b o hb e => eb b o hb e) f0 f1 f3 f4 f5⟩
 self := fun A i s Q E st h => by
  rcases Gg with e | e
  ·rw [e] at st; exact wpAny_pyIter_striter_ascii st h
  ·rw [e] at st; exact wpAny_pyIter_striter_wide st h
def MK (te : TE) : TI := fun σ H R => te σ H fun v H1 => ∃ x, v = .str x /\ R (KU x) H1
theorem GO {X : Cx} {tg e : Expr} {te : TE} (he : PE X e te) : PI X tg e (MK te) := by
 intro pins s σ H R I h
 refine bI (he pins s σ H _ I h) fun v s1 qq => ?_
 obtain ⟨y, H1, I1, r1, x, ex, q⟩ := qq
 subst ex
 obtain ⟨t, rfl⟩ := r1
 cases ha : x.cps.all (· < 128)
 ·exact wpAny_pyIter_wide ha (ua (tk := s1.toks) I1 _ (uZ _ x t "str_iterator" (.inr rfl)) ⟨_, Heap.get?_push_size _ rfl, rfl, rfl⟩ q)
 ·exact wpAny_pyIter_ascii ha (ua (tk := s1.toks) I1 _ (uZ _ x t "str_ascii_iterator" (.inl rfl)) ⟨_, Heap.get?_push_size _ rfl, rfl, rfl⟩ q)
section
variable {prog : Program} {w : World} {A : Around} {E : Value -> Shared -> Prop} {s : Shared}
theorem AZ {d : Addr} {o : Obj} {es : Array DictEntry} {ep : Nat} {Q : Value -> Shared -> Prop} (hd : (d == sysModules) = false) (ho : s.heap.get? d = some o) (hc : o.ExactDict) (Kw : o.data = .dict es ep)
  (hQ : Q (.ref s.heap.objs.size) { s with heap := s.heap.push { cls := .type "dict_keyiterator", data := .fields #[.ref d, .int 0 0, .int es.size 0, .int ep 0] } }) :
  wpAny (model prog w) A (pyIter (.ref d)) Q E s := by
 have hT : s.TypeIs (.ref d) "dict" := ⟨o, ho, hc.1⟩
 refine wpAny_pyIter_slot hT F.slot_dict_iter (wpAny_call_entry F.slot_dict_iter hT F.entry_dict_iter ?_ (F.args_dict_iter_1 _))
 unfold Builtin.«dict.__iter__»
 refine wpAny_bind ?_
 unfold Builtin.Dict.dictSlotNone
 refine wpAny_bind (wpAny_notOrdered_dict hT ?_)
 show wpAny _ _ (pure (Value.ref d)) _ _ s
 refine wpAny_pure ?_
 show wpAny _ _ (Builtin.Dict.showsAll d >>= _) _ _ s
 unfold Builtin.Dict.showsAll
 rw [if_neg (by rw [hd]; exact Bool.false_ne_true)]
 refine wpAny_bind (wpAny_pure ?_)
 refine wpAny_bind (wpAny_dictEntries ho Kw ?_)
 refine wpAny_bind (wpAny_dictEpoch ho Kw ?_)
 refine wpAny_bind (wpAny_newObj_type (wpAny_pure ⟨_, rfl, "dict_keyiterator", _, ⟨_, Heap.get?_push_size _ rfl, rfl⟩, F.slot_dict_keyiterator_next.lookup, ?_⟩))
 simpa [rawInt] using hQ
theorem rj {it d : Addr} {i n ep : Nat} {od : Obj} {es : Array DictEntry} {en : DictEntry} {Q : Option Value -> Shared -> Prop} (hit : s.heap.IsKeyIter it d i n ep) (Dj : s.heap.get? d = some od) (Kv : od.data = .dict es ep)
  (hsz : es.size = n) (hx : es[i]? = some en) (hQ : ∀ h', h'.IsKeyIter it d (i + 1) n ep -> Heap.SameBut it s.heap h' -> Q (some en.key) { s with heap := h' }) : wpAny (model prog w) A (pyNext (.ref it)) Q E s := by
 obtain ⟨o, ho, hc, hd⟩ := id hit
 unfold pyNext
 refine wpAny_bind (wpAny_attempt (wpAny_callSpecial?_slot (name := Str.ofString "__next__") hit.typeIs F.slot_dict_keyiterator_next
  (wpAny_call_entry F.slot_dict_keyiterator_next hit.typeIs F.entry_dict_keyiterator_next ?_ (F.args_dict_keyiterator_next_1 _))))
 refine wpAny_bind (wpAny_pure ?_)
 refine wpAny_bind ?_
 refine wpAny_bind ?_
 first | refine wpAny_bind (wpAny_typeNameOfWhole_keyiter hit.typeIs (wpAny_pure ?_)) | refine wpAny_bind (wpAny_typeNameOf_keyiter hit.typeIs (wpAny_pure ?_))
 refine wpAny_bind (wpAny_fieldsOf ho hd ?_)
 have HQ : Builtin.Dict_items.ownsTuple "dict_keyiterator" = false := by decide
 simp only [HQ, Bool.false_eq_true, if_false]
 show wpAny _ _ (if (Value.ref d == Value.none) = true then _ else _) _ _ s
 rw [if_neg (show ¬ ((Value.ref d == Value.none) = true) from Bool.false_ne_true)]
 refine wpAny_bind (wpAny_pure ?_)
 refine wpAny_bind (wpAny_dictEntries Dj Kv ?_)
 rw [if_neg (by rw [hsz]; simp)]
 refine wpAny_bind (wpAny_pure ?_)
 refine wpAny_bind (wpAny_dictEpoch Dj Kv ?_)
 rw [if_neg (by simp)]
 refine wpAny_pure ?_
 obtain ⟨MZ, QH⟩ := Array.getElem?_eq_some_iff.mp hx
 simp only [show ¬ ((i : Int) < 0) from by omega, if_false, Int.toNat_natCast, Array.getElem?_eq_getElem MZ]
 refine wpAny_bind ?_
 first | refine wpAny_bind (wpAny_typeNameOfWhole_keyiter hit.typeIs (wpAny_pure ?_)) | refine wpAny_bind (wpAny_typeNameOf_keyiter hit.typeIs (wpAny_pure ?_))
 refine wpAny_bind (wpAny_isOneOf_keyiter hit.typeIs ?_)
 show wpAny _ _ (setField (.ref it) 1 (rawInt ((i : Int) + 1)) >>= _) _ _ s
 refine wpAny_bind (wpAny_setField ho hd (by simp) ?_)
 have Fl : (s.heap.update it (Obj.mapFields (·.setIfInBounds 1 (rawInt ((i : Int) + 1))))).IsKeyIter it d (i + 1) n ep :=
  ⟨_, Heap.get?_update_self _ ho (Obj.isFreed_of_fields (Obj.data_mapFields hd _)), (Obj.cls_mapFields ..).trans hc, by rw [Obj.data_mapFields hd]; simp [rawInt]⟩
 refine wpAny_bind (wpAny_holding ?_)
 refine wpAny_bind (wpAny_isOneOf_keyiter (s := { s with heap := s.heap.update it (Obj.mapFields (·.setIfInBounds 1 (rawInt ((i : Int) + 1)))) }) Fl.typeIs ?_)
 show wpAny _ _ (pure es[i].key) _ _ _
 rw [QH]
 exact wpAny_pure (wpAny_pure ⟨_, rfl, wpAny_pure (hQ _ Fl (Heap.SameBut.update ..))⟩)
theorem ur {it d : Addr} {i n ep : Nat} {od : Obj} {es : Array DictEntry} {Q : Option Value -> Shared -> Prop} (hh : A.handled = none) (hit : s.heap.IsKeyIter it d i n ep) (Dj : s.heap.get? d = some od) (Kv : od.data = .dict es ep)
  (hsz : es.size = n) (ON : n <= i) (hQ : ∀ h', Heap.ExtBut it s.heap h' -> Q none { s with heap := h' }) : wpAny (model prog w) A (pyNext (.ref it)) Q E s := by
 obtain ⟨o, ho, hc, hd⟩ := id hit
 unfold pyNext
 refine wpAny_bind (wpAny_attempt (wpAny_callSpecial?_slot (name := Str.ofString "__next__") hit.typeIs F.slot_dict_keyiterator_next
  (wpAny_call_entry F.slot_dict_keyiterator_next hit.typeIs F.entry_dict_keyiterator_next ?_ (F.args_dict_keyiterator_next_1 _))))
 refine wpAny_bind (wpAny_pure ?_)
 refine wpAny_bind ?_
 refine wpAny_bind ?_
 first | refine wpAny_bind (wpAny_typeNameOfWhole_keyiter hit.typeIs (wpAny_pure ?_)) | refine wpAny_bind (wpAny_typeNameOf_keyiter hit.typeIs (wpAny_pure ?_))
 refine wpAny_bind (wpAny_fieldsOf ho hd ?_)
 have HQ : Builtin.Dict_items.ownsTuple "dict_keyiterator" = false := by decide
 simp only [HQ, Bool.false_eq_true, if_false]
 show wpAny _ _ (if (Value.ref d == Value.none) = true then _ else _) _ _ s
 rw [if_neg (show ¬ ((Value.ref d == Value.none) = true) from Bool.false_ne_true)]
 refine wpAny_bind (wpAny_pure ?_)
 refine wpAny_bind (wpAny_dictEntries Dj Kv ?_)
 rw [if_neg (by rw [hsz]; simp)]
 refine wpAny_bind (wpAny_pure ?_)
 refine wpAny_bind (wpAny_dictEpoch Dj Kv ?_)
 rw [if_neg (by simp)]
 refine wpAny_pure ?_
 have Nh : es.size <= i := by rw [hsz]; exact ON
 simp only [show ¬ ((i : Int) < 0) from by omega, if_false, Int.toNat_natCast, Array.getElem?_eq_none Nh]
 refine wpAny_bind ?_
 first | refine wpAny_bind (wpAny_typeNameOfWhole_keyiter hit.typeIs (wpAny_pure ?_)) | refine wpAny_bind (wpAny_typeNameOf_keyiter hit.typeIs (wpAny_pure ?_))
 show wpAny _ _ (setField (.ref it) 0 .none >>= _) _ _ s
 refine wpAny_bind (wpAny_setField ho hd (by simp) ?_)
 show wpAny _ _ (newExc (.type "StopIteration") [] >>= _) _ _ _
 refine wpAny_bind ?_
 simp only [newExc, newTuple]
 refine wpAny_bind (wpAny_newObj_type ?_ (by size_fits))
 refine wpAny_bind (m := firstArgMember _ _) (wpAny_of_eq (a := Value.none) (by first | rfl | (simp only [firstArgMember]; rfl)) ?_)
 refine wpAny_newObj_type ?_ (by size_fits)
 simp only [raiseNew]
 refine wpAny_bind (wpAny_handled ?_)
 rw [show A.in1.handled = none from hh]
 refine wpAny_bind (wpAny_pure (wpAny_throw ?_))
 refine wpAny_bind (wpAny_isInstance (T := "StopIteration") (b := true) ⟨_, Heap.get?_push_size _ rfl, rfl⟩ isSubtype_stop ?_)
 exact wpAny_pure (hQ _ (((Heap.SameBut.update ..).extBut.push _).push _))
end
theorem pP {α β : Type} {G : α -> β -> Prop} {l₁ : List α} {l₂ : List β} (h : Paired G l₁ l₂) : ∀ {i : Nat} {a : α}, l₁[i]? = some a -> ∃ b, l₂[i]? = some b /\ G a b := by
 induction h with
 | nil => intro i a e; simp at e
 | @cons a b l₁ l₂ r t ih =>
  intro i a' e
  cases i with
  | zero =>
   simp only [List.getElem?_cons_zero, Option.some.injEq] at e
   subst e
   exact ⟨b, rfl, r⟩
  | succ j =>
   simp only [List.getElem?_cons_succ] at e ⊢
   exact ih e
section
variable {X : Cx} {pins : List (Addr × Obj)} {σ : St} {H : Hp} {s : Shared} {d : Addr} {o : Obj}
end
section
variable {P : Program} {w : World} {K : W.Frag} {tg : Expr} {d : Addr} {o : Obj} {es : Array DictEntry} {ep : Nat}
end
section
variable {X : Cx} {tg e : Expr} {td : TE} {apos c5 : Pos}
end
def KW (K : W.Frag) (a : Addr) : It :=
 ⟨fun i H => ∃ (xs : List V) (x : V), eu K H a xs /\ xs[i]? = some x, fun i H v H' => ∃ T x, v = .ref T /\ H T = none /\ H' = upd H T (.tup [.int (i : Nat), x]) /\ ∀ xs, eu K H a xs -> xs[i]? = some x, fun i H => ∃ xs : List V, eu K H a xs /\ xs.length <= i⟩
theorem Au {P : Program} {w : World} {K : W.Frag} {elts : List Expr} {kk : Nat} {Ax : Pos} (a e it : Addr) :
  Turn P w K (.Tuple elts kk Ax) (KW K a) [e, it] e (fun i h => (∃ old, IsEnum h e it ((i : Nat) : Int) old) /\ h.IsListIter it a i /\ e ≠ it) where
 mem := by simp
 obj := fun i h st b hb => by
  obtain ⟨⟨old, he⟩, ⟨o, ho, hc, hd⟩, _⟩ := st
  have e' : b = e \/ b = it := by simpa using hb
  rcases e' with z | z
  ·rw [z]; exact ⟨_, he, fun v q => nomatch q⟩
  ·rw [z]; exact ⟨o, ho, fun v q => by rw [hd] at q; cases q⟩
 keep := fun i h h' st k => let ⟨⟨old, he⟩, hi, rm⟩ := st; ⟨⟨old, k e (by simp) _ he⟩, hi.at fun o q => k it (by simp) o q, rm⟩
 item := by
  intro X hP hw hK hc i pins s σ H E I hf st hg
  subst hP hw hK
  obtain ⟨⟨old, he⟩, hit, rm⟩ := st
  obtain ⟨xs, x, hq, hx⟩ := hg
  obtain ⟨aF, rv, p, hz⟩ := I.list hq
  obtain ⟨u, hu, ru⟩ := rv.get hx
  have OO : e < s.heap.objs.size := Heap.lt_size he
  have QE : it < s.heap.objs.size := by obtain ⟨_, q, _⟩ := hit; exact Heap.lt_size q
  refine wpAny_pyNext_enum_item he hit p.isList (x := u) (by simpa using hu) rm fun h' ho Fl hT hsz hk => ?_
  refine ⟨_, rfl, wpAny_letOwnedTupleGo_enum (s := { s with heap := h', toks := s.toks + 1 }) ho fun LA QJ sb => ?_⟩
  have QR : LA.get? s.heap.objs.size = some { cls := .type "tuple", data := .seq #[.int i s.toks, u] } := (sb.2 _ (Nat.ne_of_gt OO)).trans hT
  have new : bC X.prog X.w (upd H s.heap.objs.size (.tup [.int (i : Nat), x])) LA s.heap.objs.size (.tup [.int (i : Nat), x]) :=
   ⟨by show 2 <= sizeLine; decide, [.int i s.toks, u], .cons ⟨_, rfl⟩ (.cons ru .nil), ⟨_, QR, rfl, _, rfl⟩⟩
  have I1 : Inv X pins σ (upd H s.heap.objs.size (.tup [.int (i : Nat), x])) { s with heap := LA, toks := s.toks + 1 } :=
   I.Ar (ch := [e, it]) (fun b ob hb q => (sb.2 b (fun z => hb (by simp [z]))).trans (hk b ob (fun z => hb (by simp [z])) (fun z => hb (by simp [z])) q)) hf (zA0 _) new
  refine ⟨.ref s.heap.objs.size, _, I1, rfl, ⟨_, x, rfl, I.bD.fresh (zA0 _), rfl, fun ys hy => by rw [I.qb hy hq]; exact hx⟩, ⟨⟨u, ?_⟩, Fl.at fun o q => (sb.2 it (Ne.symm rm)).trans q, rm⟩, fun b hb => ?_⟩
  ·have e1 : ((i + 1 : Nat) : Int) = (i : Int) + 1 := by omega
   rw [e1]; exact QJ
  ·have Nq : b < s.heap.objs.size := by
    have e' : b = e \/ b = it := by simpa using hb
    rcases e' with z | z
    ·rw [z]; exact OO
    ·rw [z]; exact QE
   rw [ak (Nat.ne_of_lt Nq)]
   exact (hf b hb).1
 done := by
  intro X hP hw hK hc i pins s σ H E I hf st hg
  subst hP hw hK
  obtain ⟨⟨old, he⟩, hit, rm⟩ := st
  obtain ⟨xs, hq, hx⟩ := hg
  obtain ⟨aF, rv, p, hz⟩ := I.list hq
  obtain ⟨f0, f1, f2, f3, f4, f5⟩ := hf it (by simp)
  have hl := rv.length
  exact wpAny_pyNext_enum_end (I.ok.hd hc) he hit p.isList (by simp; omega) fun h' eb => ⟨rfl, I.turned (t' := s.toks) (fun b o hb q => eb b o hb q) f0 f1 f3 f4 f5⟩
 self := fun A i s Q E st h => let ⟨⟨_, he⟩, _⟩ := st; wpAny_pyIter_enum he h
def Kl (K : W.Frag) (ta : TA) : TI := fun σ H R => ta σ H fun vs H1 => ∃ a xs, vs = [.ref a] /\ eu K H1 a xs /\ R (KW K a) H1
theorem EB {X : Cx} {e : Expr} {ta : TA} {p pos Ax : Pos} {elts : List Expr} {kk : Nat} (hg : Gl X "enumerate") (hm : X.mg "enumerate" = none) (ha : PA X [e] ta) (hs : starEach [e] X.env = [(false, eval e X.env)] := by rfl) :
  PI X (.Tuple elts kk Ax) (.Call (.Name "enumerate" p) [e] [] pos) (Kl X.K ta) := by
 intro pins s σ H R I h
 refine Call_ (qc I hg hm boot_enumerate (PyProof.Rows.callWith_type1 (bI (ha pos pins s σ H _ I h) fun us s1 qq => ?_) hs rfl))
 obtain ⟨vs, H1, I1, r1, q1⟩ := qq
 obtain ⟨a, xs, ex, hq, q⟩ := q1
 subst ex
 cases r1 with
 | cons r rr =>
  cases rr
  cases r
  obtain ⟨aF, rv, p', hz⟩ := I1.list hq
  refine call_enumerate_list p'.isList fun h' he hit hsz hk => wpAny_pyIter_enum he ?_
  have I2 : Inv X pins σ H1 { s1 with heap := h' } := I1.kept (t' := s1.toks) hk
  refine ⟨s1.heap.objs.size + 1, [s1.heap.objs.size + 1, s1.heap.objs.size], _, _, H1, rfl, I2, Au a (s1.heap.objs.size + 1) s1.heap.objs.size, ⟨⟨.none, he⟩, hit, Nat.succ_ne_self _⟩, fun b hb => ?_, q⟩
  have e' : b = s1.heap.objs.size + 1 \/ b = s1.heap.objs.size := by simpa using hb
  have hle : s1.heap.objs.size <= b := by
   rcases e' with z | z
   ·rw [z]; exact Nat.le_add_right _ _
   ·rw [z]; exact zA0 _
  exact I1.Dv hle (I1.bD.fresh hle)
end L2
section
namespace NX
open PySem PyProof.Rows
end NX
end
section
namespace TL
open PySem PySem.Builtin PySem.Builtin.Str PySem.StrLaws
end TL
end
namespace L2
open PySem Spec PyProof.Rows
section
variable {X : Cx} {pins : List (Addr × Obj)} {σ : St} {H : Hp} {s : Shared} {Q : VK}
end
section
variable {X : Cx}
end
section
variable {X : Cx} {o e : Expr} {to te : TE}
end
end L2
namespace L2
open PySem Spec PyProof.Rows
section
variable {X : Cx}
end
end L2
namespace R8
open PySem PySem.W PySem.Calls PyProof.Rows
section
variable {prog : Program} {w : World} {A : Around} {E : Value -> Shared -> Prop} {s : Shared} {K : Frag}
end
end R8
namespace L2
open PySem Spec PyProof.Rows
end L2
namespace L2
open PySem Spec PyProof.Rows
end L2
namespace L2
open PySem Spec PyProof.Rows
def inClass (s : Stmt) (j : Nat) : Stmt := match s with
 | .ClassDef _ _ _ body _ _ _ _ _ _ _ => body.getD j (.Pass ⟨0, 0, 0, 0⟩)
 | _ => .Pass ⟨0, 0, 0, 0⟩
def bB (s : Stmt) : Arguments := match s with
 | .FunctionDef _ a _ _ _ _ _ _ _ _ => a
 | _ => { posonlyargs := [], args := [], vararg := none, kwonlyargs := [], kw_defaults := [], kwarg := none, defaults := [] }
def b8 (s : Stmt) : List Stmt := match s with
 | .FunctionDef _ _ b _ _ _ _ _ _ _ => b
 | _ => []
def aj (s : Stmt) : Scope := match s with
 | .FunctionDef _ _ _ _ _ _ sc _ _ _ => sc
 | _ => { kind := .function, names := [], isGenerator := false, isCoroutine := false }
structure FJ (K : W.Frag) (x qual : Str) (st : Stmt) (f : Addr) (fd : FuncData) : Prop where
 ex : ∃ (oc : Value) (od : Option Addr) (kV doc pm : Value) (an : Option Addr) (aU ct : Value) (o4 : Array (Option Value)),
  fd = W.fnOf x qual (bB st) (b8 st) (aj st) .none kV doc pm an aU ct /\ K.lookup f = some ⟨oc, od, .func fd, o4⟩ /\ W.codeIn K aU qual = true
 kp : W.keepIn K (.ref f) = true
section
variable {P : Program} {w : World} {K : W.Frag} {mg : Str -> Option Value} {base : Heap}
theorem FJ.binds {x qual : Str} {st : Stmt} {f : Addr} {fd : FuncData} {ps : List Str} (F : FJ K x qual st f fd)
  (h : ∀ (kV doc pm : Value) (an : Option Addr) (aU ct : Value) (us : List Value), us.length = ps.length -> bindArgs (W.fnOf x qual (bB st) (b8 st) (aj st) .none kV doc pm an aU ct) ⟨us, []⟩ = pure (ps.zip us)) : Binds K fd ps [] := by
 obtain ⟨oc, od, kV, doc, pm, an, aU, ct, o4, rfl, lk, Eg⟩ := F.ex
 exact .all (h kV doc pm an aU ct)
theorem cX {x qual : Str} {st : Stmt} {f : Addr} {oc : Value} {od an : Option Addr} {o4 : Array (Option Value)} {kV doc pm aU ct : Value} (l : K.lookup f = some ⟨oc, od, .func (W.fnOf x qual (bB st) (b8 st) (aj st) .none kV doc pm an aU ct), o4⟩)
  (c : W.codeIn K aU qual = true) (k : W.keepIn K (.ref f) = true) : FJ K x qual st f (W.fnOf x qual (bB st) (b8 st) (aj st) .none kV doc pm an aU ct) := ⟨⟨oc, od, kV, doc, pm, an, aU, ct, o4, rfl, l, c⟩, k⟩
end
theorem wa {A : Around} {k : Nat} (hr : dc k A) : A.units + 1 < cLine := Nat.lt_of_le_of_lt (Nat.add_le_add_left (by decide : 1 <= 64) _) hr.units
section
variable {X : Cx}
theorem pv (i : Nat) {x : Str} {pos : Pos} (hN : X.N[i]? = some x := by rfl) (hv : Jg X.env.scope x := by first | exact Or.inl rfl | exact Or.inr (Or.inl rfl) | exact Or.inr (Or.inr rfl)) (hd : (x == ("__debug__" : Str)) = false := by decide)
  (Eg : (x == ("__classdict__" : Str)) = false := by decide) : PE X (.Name x pos) (Ca i) := GQ hN hv hd Eg
end
theorem aM {A B : Prop} (h : B) : if false = true then A else B := by
 rw [if_neg Bool.false_ne_true]
 exact h
theorem aZ {A B : Prop} (h : A) : if true = true then A else B := by
 rw [if_pos rfl]
 exact h
def aK (H H' : Hp) : Prop := ∀ b o, H b = some o -> H' b = some o
theorem aK.refl (H : Hp) : aK H H := fun _ _ h => h
theorem aK.trans {H H1 H2 : Hp} (a : aK H H1) (b : aK H1 H2) : aK H H2 := fun c o h => b c o (a c o h)
theorem aK.free {H H' : Hp} (e : aK H H') {l : Addr} (h : H' l = Option.none) : H l = Option.none := by
 cases q : H l with
 | none => rfl
 | some o =>
  rw [e l o q] at h
  cases h
theorem aK.seq {K : W.Frag} {H H' : Hp} {a : Addr} {xs : List V} (e : aK H H') (h : eu K H a xs) : eu K H' a xs := by
 rcases h with (h | ⟨o, h⟩) | h
 ·exact .inl (.inl (e _ _ h))
 ·exact .inl (.inr ⟨o, e _ _ h⟩)
 ·exact .inr h
section
variable {κ : Type} [DecidableEq κ]
end
theorem su {α : Type} {l : List α} (hN : l.Nodup) {i j : Nat} {x : α} (a : l[i]? = some x) (b : l[j]? = some x) : i = j := by
 obtain ⟨h1, e1⟩ := List.getElem?_eq_some_iff.mp a
 obtain ⟨h2, e2⟩ := List.getElem?_eq_some_iff.mp b
 exact (List.getElem_inj hN).mp (e1.trans e2.symm)
end L2
end
section
section
namespace L2
open PySem Spec PyProof.Rows
open PySem.W (WData Codec OpenSpec Well WellAll ReadsW ReadsAllW)
mutual
inductive Dw (K : W.Frag) (H : Hp) : V -> WData -> Prop
 | bf : Dw K H .bf .none
 | bl (b : Bool) : Dw K H (.bl b) (.bool b)
 | int (i : Int) : Dw K H (.int i) (.int i)
 | str (x : Str) : Dw K H (.str x) (.str x)
 | wZ (b : Array UInt8) : Dw K H (.wZ b) (.bytes b.toList)
 | lst {a : Addr} {xs : List V} {ds : List WData} : eu K H a xs -> gZ K H xs ds -> Dw K H (.ref a) (.list ds)
 | tup {a : Addr} {xs : List V} {ds : List WData} : ft K H a xs -> gZ K H xs ds -> Dw K H (.ref a) (.tuple ds)
inductive gZ (K : W.Frag) (H : Hp) : List V -> List WData -> Prop
 | nil : gZ K H [] []
 | cons {v : V} {vs : List V} {d : WData} {ds : List WData} : Dw K H v d -> gZ K H vs ds -> gZ K H (v :: vs) (d :: ds)
end
theorem zT {K : PySem.W.Frag} {H : Hp} : ∀ ns : List Int, gZ K H (ns.map V.int) (ns.map WData.int)
 | [] => .nil
 | n :: r => .cons (.int n) (zT r)
theorem zK {K : PySem.W.Frag} {H : Hp} : ∀ (ns : List Int) (xs : List V), gZ K H xs (ns.map WData.int) -> xs = ns.map V.int
 | [], xs, h => by
  cases h
  rfl
 | n :: r, xs, h => by
  cases h with
  | cons h1 h2 =>
   cases h1
   rw [zK r _ h2] <;> rfl
section
variable {P : Program} {w : World} {K : PySem.W.Frag} {H : Hp} {h : Heap} {R : PySem.W.WRecords} {cl : Str -> Option Addr}
theorem G8 {a : Addr} {xs : List V} (bD : k7 P w H h) (KX : K.In h) (q : eu K H a xs) : ∃ (aF : List Value) (o : Obj) (n : Nat), Vals xs aF /\ h.get? a = some o /\ o.cls = .type "list" /\ o.data = .seq aF.toArray n := by
 rcases q with q | ⟨o, aF, n, e, hc, _, hd, _, hv⟩
 ·obtain ⟨_, aF, n, hv, e⟩ := (show bC P w H h a (.lst xs) from q.ok bD)
  exact ⟨aF, _, n, hv, e, rfl, rfl⟩
 ·exact ⟨aF.toList, o, n, hv, KX _ _ e, hc, by simp [hd]⟩
theorem G7 {a : Addr} {xs : List V} (bD : k7 P w H h) (KX : K.In h) (q : ft K H a xs) : ∃ (aF : List Value) (o : Obj) (n : Nat), Vals xs aF /\ h.get? a = some o /\ o.cls = .type "tuple" /\ o.data = .seq aF.toArray n := by
 rcases q with q | ⟨o, aF, n, e, hc, hd, _, hv⟩
 ·obtain ⟨_, aF, hv, o, e, hc, n, hd⟩ := (show bC P w H h a (.tup xs) from q.ok bD)
  exact ⟨aF, o, n, hv, e, hc, hd⟩
 ·exact ⟨aF.toList, o, n, hv, KX _ _ e, hc, by simp [hd]⟩
mutual
theorem Dw.reads (bD : k7 P w H h) (KX : K.In h) : ∀ (d : WData) (v : V) (u : Value), Dw K H v d -> RelV v u -> ∃ as, ReadsW R cl h u d as
 | .none, _, _, x, r => by
  cases x
  cases r
  exact ⟨_, ReadsW.none⟩
 | .bool b, _, _, x, r => by
  cases x
  cases r
  exact ⟨_, ReadsW.bool b⟩
 | .int i, _, _, x, r => by
  cases x
  obtain ⟨t, rfl⟩ := r
  exact ⟨_, ReadsW.int i t⟩
 | .str s, _, _, x, r => by
  cases x
  obtain ⟨t, rfl⟩ := r
  exact ⟨_, ReadsW.str s t⟩
 | .bytes b, _, _, x, r => by
  cases x
  obtain ⟨t, rfl⟩ := r
  exact ⟨_, ReadsW.bytes _ t⟩
 | .list ds, _, _, x, r => by
  cases x with
  | lst hs ha =>
   cases r
   obtain ⟨aF, o, n, rv, ho, hc, hd⟩ := G8 bD KX hs
   obtain ⟨as, hr⟩ := Dw.readsAll bD KX ds _ aF ha rv
   exact ⟨_, ReadsW.list ho hc hd hr⟩
 | .tuple ds, _, _, x, r => by
  cases x with
  | tup hs ha =>
   cases r
   obtain ⟨aF, o, n, rv, ho, hc, hd⟩ := G7 bD KX hs
   obtain ⟨as, hr⟩ := Dw.readsAll bD KX ds _ aF ha rv
   exact ⟨_, ReadsW.tuple ho hc hd hr⟩
 | .float _, _, _, x, _ => by cases x
 | .dict _, _, _, x, _ => by cases x
 | .bytearray _, _, _, x, _ => by cases x
 | .set _, _, _, x, _ => by cases x
 | .frozenset _, _, _, x, _ => by cases x
 | .obj _ _, _, _, x, _ => by cases x
theorem Dw.readsAll (bD : k7 P w H h) (KX : K.In h) : ∀ (ds : List WData) (vs : List V) (us : List Value), gZ K H vs ds -> Vals vs us -> ∃ as, ReadsAllW R cl h us ds as
 | [], _, _, x, r => by
  cases x
  cases r
  exact ⟨_, ReadsAllW.nil⟩
 | d :: ds, _, _, x, r => by
  cases x with
  | cons h1 h2 =>
   cases r with
   | cons r1 r2 =>
    obtain ⟨as, q1⟩ := Dw.reads bD KX d _ _ h1 r1
    obtain ⟨bs, q2⟩ := Dw.readsAll bD KX ds _ _ h2 r2
    exact ⟨_, ReadsAllW.cons q1 q2⟩
end
end
mutual
def z9 : WData -> Bool
 | .none => true
 | .bool _ => true
 | .int _ => true
 | .str _ => true
 | .bytes _ => true
 | .list xs => o3 xs
 | .tuple xs => o3 xs
 | _ => false
def o3 : List WData -> Bool
 | [] => true
 | x :: r => z9 x && o3 r
end
theorem v9 {α : Type} {f : α -> WData} (h : ∀ a, z9 (f a) = true) : ∀ l : List α, o3 (l.map f) = true
 | [] => rfl
 | x :: r => by
  show (z9 (f x) && o3 (r.map f)) = true
  rw [h x, v9 h r] <;> rfl
theorem iI : ∀ (c : Codec) (a : c.denote), z9 (c.enc a) = true
 | .unit, _ => rfl
 | .bool, _ => rfl
 | .int _ _, _ => rfl
 | .nat _ _, _ => rfl
 | .u8, _ => rfl
 | .bytes _ _, _ => rfl
 | .text _ _ _ _, _ => rfl
 | .list _ _ c, a => v9 (fun x => iI c x) a
 | .pair c d, a => by
  show (z9 (c.enc a.1) && (z9 (d.enc a.2) && true)) = true
  rw [iI c a.1, iI d a.2] <;> rfl
 | .triple c d e, a => by
  show (z9 (c.enc a.1) && (z9 (d.enc a.2.1) && (z9 (e.enc a.2.2) && true))) = true
  rw [iI c a.1, iI d a.2.1, iI e a.2.2] <;> rfl
 | .option c, none => rfl
 | .option c, some x => iI c x
theorem sj : ∀ (cs : List Codec) (a : Codec.denoteAll cs), o3 (Codec.encAll cs a) = true
 | [], _ => rfl
 | c :: cs, a => by
  show (z9 (c.enc a.1) && o3 (Codec.encAll cs a.2)) = true
  rw [iI c a.1, sj cs a.2] <;> rfl
theorem jL : ∀ {xs : List WData} {d : WData}, d ∈ xs -> d.weight <= WData.weightAll xs
 | [], d, h => absurd h (by simp)
 | x :: r, d, h => by
  show d.weight <= x.weight + 1 + WData.weightAll r
  rcases List.mem_cons.mp h with e | m
  ·rw [e]
   omega
  ·have z := jL m
   omega
noncomputable def toV : Value -> V
 | .none => .bf
 | .bool b => .bl b
 | .int i _ => .int i
 | .str x _ => .str x
 | .bytes b _ => .wZ b
 | .ref a => .ref a
 | _ => .bf
def BF (A : List Addr) : Value -> Prop
 | .none => True
 | .bool _ => True
 | .int _ _ => True
 | .str _ _ => True
 | .bytes _ _ => True
 | .ref a => a ∈ A
 | _ => False
theorem BF.mono {A B : List Addr} (h : ∀ a ∈ A, a ∈ B) : ∀ {u : Value}, BF A u -> BF B u := fun {u} x => by
 cases u with
 | ref a => exact h a x
 | none => trivial
 | bool b => trivial
 | int i t => trivial
 | str s t => trivial
 | bytes b t => trivial
 | _ => exact False.elim x
theorem C5 {A : List Addr} {u : Value} (x : BF A u) : RelV (toV u) u := by
 cases u with
 | ref a => rfl
 | none => rfl
 | bool b => rfl
 | int i t => exact ⟨t, rfl⟩
 | str s t => exact ⟨t, rfl⟩
 | bytes b t => exact ⟨t, rfl⟩
 | _ => exact False.elim x
theorem fY {A : List Addr} : ∀ {vs : List Value}, (∀ u ∈ vs, BF A u) -> Vals (vs.map toV) vs
 | [], _ => .nil
 | u :: r, h => .cons (C5 (h u (zA2 ..))) (fY fun x hx => h x (zA1 _ hx))
def hG (h : Heap) (A : List Addr) (a : Addr) : Prop := ∃ vs : List Value, vs.length <= sizeLine /\ (∀ u ∈ vs, BF A u) /\
 (h.get? a = some { cls := .type "list", data := .seq vs.toArray } \/ h.get? a = some { cls := .type "tuple", data := .seq vs.toArray })
theorem hG.mono {h : Heap} {A B : List Addr} {a : Addr} (k : ∀ a ∈ A, a ∈ B) (x : hG h A a) : hG h B a := by
 obtain ⟨vs, h1, h2, h3⟩ := x
 exact ⟨vs, h1, fun u hu => (h2 u hu).mono k, h3⟩
theorem fw {P : Params} {h : Heap} : ∀ {vs : List Value} {ds : List WData}, WellAll P h vs ds -> vs.length = ds.length
 | _, _, .nil => rfl
 | _, _, .cons _ b => by
  show _ + 1 = _ + 1
  rw [fw b]
theorem rP {P : Params} {h : Heap} {v : Value} {ds : List WData} (x : Well P h v (.list ds)) : ∃ (a : Addr) (vs : List Value), v = .ref a /\ h.get? a = some { cls := .type "list", data := .seq vs.toArray } /\ WellAll P h vs ds := by
 cases x with
 | list ho nc => exact ⟨_, _, rfl, ho, nc⟩
theorem oX {P : Params} {h : Heap} {v : Value} {ds : List WData} (x : Well P h v (.tuple ds)) : ∃ (a : Addr) (vs : List Value), v = .ref a /\ h.get? a = some { cls := .type "tuple", data := .seq vs.toArray } /\ WellAll P h vs ds := by
 cases x with
 | tuple ho nc => exact ⟨_, _, rfl, ho, nc⟩
theorem rQ {P : Params} {h : Heap} {us : List Value} {d : WData} {ds : List WData} (x : WellAll P h us (d :: ds)) : ∃ (v : Value) (vs : List Value), us = v :: vs /\ Well P h v d /\ WellAll P h vs ds := by
 cases x with
 | cons a b => exact ⟨_, _, rfl, a, b⟩
theorem eh {n : Nat} (h : n <= 1048576) : n <= sizeLine := Nat.le_trans h (by decide)
section
variable {P : Params} {h : Heap}
mutual
theorem DN : ∀ (d : WData) (v : Value), Well P h v d -> z9 d = true -> d.weight <= 1048576 -> ∃ A : List Addr, BF A v /\ ∀ a ∈ A, hG h A a
 | .none, _, x, _, _ => by
  cases x
  exact ⟨[], trivial, fun a m => absurd m (by simp)⟩
 | .bool b, _, x, _, _ => by
  cases x
  exact ⟨[], trivial, fun a m => absurd m (by simp)⟩
 | .int i, _, x, _, _ => by
  cases x
  exact ⟨[], trivial, fun a m => absurd m (by simp)⟩
 | .str s, _, x, _, _ => by
  cases x
  exact ⟨[], trivial, fun a m => absurd m (by simp)⟩
 | .bytes b, _, x, _, _ => by
  cases x
  exact ⟨[], trivial, fun a m => absurd m (by simp)⟩
 | .list ds, _, x, p, z => by
  obtain ⟨a, vs, rfl, ho, nc⟩ := rP x
  have z2 : WData.weightAll ds <= 1048576 := z
  obtain ⟨A, h1, h2⟩ := lM ds _ nc p fun d hd => Nat.le_trans (jL hd) z2
  have k : ∀ b ∈ A, b ∈ a :: A := fun b hb => zA1 _ hb
  refine ⟨a :: A, zA2 .., fun b hb => ?_⟩
  rcases List.mem_cons.mp hb with e | m
  ·rw [e]
   exact ⟨vs, eh (by rw [fw nc]; exact Nat.le_trans (PySem.W.length_le_weightAllW ds) z2), fun u hu => (h1 u hu).mono k, .inl ho⟩
  ·exact (h2 b m).mono k
 | .tuple ds, _, x, p, z => by
  obtain ⟨a, vs, rfl, ho, nc⟩ := oX x
  have z2 : WData.weightAll ds <= 1048576 := z
  obtain ⟨A, h1, h2⟩ := lM ds _ nc p fun d hd => Nat.le_trans (jL hd) z2
  have k : ∀ b ∈ A, b ∈ a :: A := fun b hb => zA1 _ hb
  refine ⟨a :: A, zA2 .., fun b hb => ?_⟩
  rcases List.mem_cons.mp hb with e | m
  ·rw [e]
   exact ⟨vs, eh (by rw [fw nc]; exact Nat.le_trans (PySem.W.length_le_weightAllW ds) z2), fun u hu => (h1 u hu).mono k, .inr ho⟩
  ·exact (h2 b m).mono k
 | .float _, _, _, p, _ => Bool.noConfusion (show false = true from p)
 | .dict _, _, _, p, _ => Bool.noConfusion (show false = true from p)
 | .bytearray _, _, _, p, _ => Bool.noConfusion (show false = true from p)
 | .set _, _, _, p, _ => Bool.noConfusion (show false = true from p)
 | .frozenset _, _, _, p, _ => Bool.noConfusion (show false = true from p)
 | .obj _ _, _, _, p, _ => Bool.noConfusion (show false = true from p)
theorem lM : ∀ (ds : List WData) (vs : List Value), WellAll P h vs ds -> o3 ds = true -> (∀ d ∈ ds, d.weight <= 1048576) -> ∃ A : List Addr, (∀ u ∈ vs, BF A u) /\ ∀ a ∈ A, hG h A a
 | [], _, x, _, _ => by
  cases x
  exact ⟨[], fun u m => absurd m (by simp), fun a m => absurd m (by simp)⟩
 | d :: ds, _, x, p, z => by
  obtain ⟨v, vs, rfl, x1, x2⟩ := rQ x
  have q : z9 d = true /\ o3 ds = true := Bool.and_eq_true_iff.mp p
  obtain ⟨A, a1, a2⟩ := DN d v x1 q.1 (z d (zA2 ..))
  obtain ⟨B, b1, b2⟩ := lM ds vs x2 q.2 fun e he => z e (zA1 _ he)
  have kA : ∀ b ∈ A, b ∈ A ++ B := fun b hb => List.mem_append.mpr (.inl hb)
  have kB : ∀ b ∈ B, b ∈ A ++ B := fun b hb => List.mem_append.mpr (.inr hb)
  refine ⟨A ++ B, fun u hu => ?_, fun b hb => ?_⟩
  ·rcases List.mem_cons.mp hu with e | m
   ·rw [e]
    exact a1.mono kA
   ·exact (b1 u m).mono kB
  ·rcases List.mem_append.mp hb with m | m
   ·exact (a2 b m).mono kA
   ·exact (b2 b m).mono kB
end
end
noncomputable def Fj (o : Obj) : Option HO := match o.data with
 | .seq vs _ => if (o.cls == Value.type "list") = true then some (.og o (.lst (vs.toList.map toV))) else some (.og o (.tup (vs.toList.map toV)))
 | _ => none
noncomputable def gR (K : PySem.W.Frag) (h : Heap) (A : List Addr) : Hp := fun b => if b ∈ A then (if (K.lookup b).isNone = true then (h.get? b).bind Fj else none) else none
def wW (H : Hp) : Prop := ∀ b, H b = none \/ ∃ o u, H b = some (.og o u)
theorem we (vs : List Value) : Fj { cls := .type "list", data := .seq vs.toArray } = some (.og { cls := .type "list", data := .seq vs.toArray } (.lst (vs.map toV))) := by
 show (if (Value.type "list" == Value.type "list") = true then some (HO.og { cls := .type "list", data := .seq vs.toArray } (.lst (vs.toArray.toList.map toV))) else some (HO.og { cls := .type "list", data := .seq vs.toArray } (.tup (vs.toArray.toList.map toV)))) = _
 rw [if_pos (beq_self_eq_true _)]
theorem wc (vs : List Value) : Fj { cls := .type "tuple", data := .seq vs.toArray } = some (.og { cls := .type "tuple", data := .seq vs.toArray } (.tup (vs.map toV))) := by
 show (if (Value.type "tuple" == Value.type "list") = true then some (HO.og { cls := .type "tuple", data := .seq vs.toArray } (.lst (vs.toArray.toList.map toV))) else some (HO.og { cls := .type "tuple", data := .seq vs.toArray } (.tup (vs.toArray.toList.map toV)))) = _
 rw [if_neg (by decide)]
section
variable {P : Program} {w : World} {K : PySem.W.Frag} {h : Heap} {A : List Addr}
theorem oU {b : Addr} {o : Obj} (hb : b ∈ A) (hk : K.lookup b = none) (e : h.get? b = some o) : gR K h A b = Fj o := by
 unfold gR
 rw [if_pos hb, hk, if_pos (show (none : Option Obj).isNone = true from rfl), e] <;> rfl
theorem EO {b : Addr} {u : HO} (q : gR K h A b = some u) : b ∈ A /\ K.lookup b = none := by
 unfold gR at q
 by_cases hb : b ∈ A
 ·rw [if_pos hb] at q
  cases hk : K.lookup b with
  | none => exact ⟨hb, rfl⟩
  | some o =>
   rw [hk, if_neg (by simp)] at q
   cases q
 ·rw [if_neg hb] at q
  cases q
theorem oS (ar : ∀ a ∈ A, hG h A a) {b : Addr} {u : HO} (q : gR K h A b = some u) : K.lookup b = none /\ ∃ vs : List Value, vs.length <= sizeLine /\ (∀ u ∈ vs, BF A u) /\
  ((h.get? b = some { cls := .type "list", data := .seq vs.toArray } /\ u = .og { cls := .type "list", data := .seq vs.toArray } (.lst (vs.map toV))) \/
  (h.get? b = some { cls := .type "tuple", data := .seq vs.toArray } /\ u = .og { cls := .type "tuple", data := .seq vs.toArray } (.tup (vs.map toV)))) := by
 obtain ⟨hb, hk⟩ := EO q
 obtain ⟨vs, h1, h2, h3⟩ := ar b hb
 refine ⟨hk, vs, h1, h2, ?_⟩
 rcases h3 with e | e
 ·rw [oU hb hk e, we] at q
  exact .inl ⟨e, (Option.some.inj q).symm⟩
 ·rw [oU hb hk e, wc] at q
  exact .inr ⟨e, (Option.some.inj q).symm⟩
theorem BB (ar : ∀ a ∈ A, hG h A a) : wW (gR K h A) := fun b => by
 cases q : gR K h A b with
 | none => exact .inl rfl
 | some u =>
  obtain ⟨_, vs, _, _, ⟨_, e⟩ | ⟨_, e⟩⟩ := oS ar q
  ·exact .inr ⟨_, _, by rw [e]⟩
  ·exact .inr ⟨_, _, by rw [e]⟩
theorem FD (ar : ∀ a ∈ A, hG h A a) : k7 P w (gR K h A) h := fun b u q => by
 obtain ⟨_, vs, h1, h2, ⟨e, rfl⟩ | ⟨e, rfl⟩⟩ := oS ar q
 ·exact ⟨e, by rw [List.length_map]; exact h1, vs, _, fY h2, e⟩
 ·exact ⟨e, by rw [List.length_map]; exact h1, vs, fY h2, _, e, rfl, _, rfl⟩
theorem oJ {c c' : Value} {vs us : List Value} (e : (some { cls := c, data := .seq vs.toArray } : Option Obj) = some { cls := c', data := .seq us.toArray }) : c = c' /\ vs = us := by
 have e1 := Option.some.inj e
 have e2 : c = c' := congrArg Obj.cls e1
 have e3 : Data.seq vs.toArray = Data.seq us.toArray := congrArg Obj.data e1
 injection e3 with e4
 refine ⟨e2, ?_⟩
 have e5 := congrArg Array.toList e4
 simpa using e5
theorem NK (KX : K.In h) (ar : ∀ a ∈ A, hG h A a) {a : Addr} {vs : List Value} (ha : a ∈ A) (e : h.get? a = some { cls := .type "list", data := .seq vs.toArray }) : (∀ u ∈ vs, BF A u) /\ eu K (gR K h A) a (vs.map toV) := by
 obtain ⟨us, h1, h2, h3⟩ := ar a ha
 have hu : us = vs := by
  rcases h3 with q | q
  ·rw [e] at q
   exact (oJ q).2.symm
  ·rw [e] at q
   exact absurd (Value.type.inj (oJ q).1) (by decide)
 subst hu
 refine ⟨h2, ?_⟩
 cases hk : K.lookup a with
 | none => exact .inl (.inr ⟨_, by rw [oU ha hk e, we]⟩)
 | some o =>
  have e2 := KX a o hk
  rw [e] at e2
  obtain rfl := Option.some.inj e2
  exact .inr ⟨_, us.toArray, _, hk, rfl, rfl, rfl, by rw [List.size_toArray]; exact h1, by simpa using fY h2⟩
theorem NJ (KX : K.In h) (ar : ∀ a ∈ A, hG h A a) {a : Addr} {vs : List Value} (ha : a ∈ A) (e : h.get? a = some { cls := .type "tuple", data := .seq vs.toArray }) : (∀ u ∈ vs, BF A u) /\ ft K (gR K h A) a (vs.map toV) := by
 obtain ⟨us, h1, h2, h3⟩ := ar a ha
 have hu : us = vs := by
  rcases h3 with q | q
  ·rw [e] at q
   exact absurd (Value.type.inj (oJ q).1) (by decide)
  ·rw [e] at q
   exact (oJ q).2.symm
 subst hu
 refine ⟨h2, ?_⟩
 cases hk : K.lookup a with
 | none => exact .inl (.inr ⟨_, by rw [oU ha hk e, wc]⟩)
 | some o =>
  have e2 := KX a o hk
  rw [e] at e2
  obtain rfl := Option.some.inj e2
  exact .inr ⟨_, us.toArray, _, hk, rfl, rfl, by rw [List.size_toArray]; exact h1, by simpa using fY h2⟩
mutual
theorem Ip {Pm : Params} (KX : K.In h) (ar : ∀ a ∈ A, hG h A a) : ∀ (d : WData) (v : Value), Well Pm h v d -> z9 d = true -> BF A v -> Dw K (gR K h A) (toV v) d
 | .none, _, x, _, _ => by
  cases x
  exact .bf
 | .bool b, _, x, _, _ => by
  cases x
  exact .bl b
 | .int i, _, x, _, _ => by
  cases x
  exact .int i
 | .str s, _, x, _, _ => by
  cases x
  exact .str s
 | .bytes b, _, x, _, _ => by
  cases x
  have z := Dw.wZ (K := K) (H := gR K h A) b.toArray
  exact z
 | .list ds, _, x, p, hu => by
  obtain ⟨a, vs, rfl, ho, nc⟩ := rP x
  obtain ⟨h2, hs⟩ := NK KX ar hu ho
  exact .lst hs (uJ KX ar ds _ nc p h2)
 | .tuple ds, _, x, p, hu => by
  obtain ⟨a, vs, rfl, ho, nc⟩ := oX x
  obtain ⟨h2, hs⟩ := NJ KX ar hu ho
  exact .tup hs (uJ KX ar ds _ nc p h2)
 | .float _, _, _, p, _ => Bool.noConfusion (show false = true from p)
 | .dict _, _, _, p, _ => Bool.noConfusion (show false = true from p)
 | .bytearray _, _, _, p, _ => Bool.noConfusion (show false = true from p)
 | .set _, _, _, p, _ => Bool.noConfusion (show false = true from p)
 | .frozenset _, _, _, p, _ => Bool.noConfusion (show false = true from p)
 | .obj _ _, _, _, p, _ => Bool.noConfusion (show false = true from p)
theorem uJ {Pm : Params} (KX : K.In h) (ar : ∀ a ∈ A, hG h A a) : ∀ (ds : List WData) (vs : List Value), WellAll Pm h vs ds -> o3 ds = true -> (∀ u ∈ vs, BF A u) -> gZ K (gR K h A) (vs.map toV) ds
 | [], _, x, _, _ => by
  cases x
  exact .nil
 | d :: ds, _, x, p, hu => by
  obtain ⟨v, vs, rfl, x1, x2⟩ := rQ x
  have q : z9 d = true /\ o3 ds = true := Bool.and_eq_true_iff.mp p
  exact .cons (Ip KX ar d v x1 q.1 (hu _ (zA2 ..))) (uJ KX ar ds vs x2 q.2 fun u m => hu u (zA1 _ m))
end
end
theorem A2 {P : Program} {w : World} {K : PySem.W.Frag} {mg mb : Str -> Option Value} {CX : yW} {k : Nat} {fa : Addr} {fd : FuncData} {ps : List Str} {sp : Sp} {s₁ : Shared} {vals : List Value} {ds : List WData} {R : PySem.W.WRecords} {cl : Str -> Option Addr} {d0 : WData}
  (KX : K.In s₁.heap) (OI : s₁.heap.Ns mainGlobals mg) (hb : s₁.heap.Ns builtinsNs mb) (QP : ∀ x : Str, x ≠ "__name__" -> mb x = bootBuiltins x) (Na : s₁.heap.NoLimit) (hg : s₁.gens = #[])
  (HM : WellAll w.params s₁.heap vals ds) (wb : o3 ds = true) (Km : ∀ d ∈ ds, d.weight <= 1048576) (hr : dc k callerA)
  (F : ∀ base : Heap, K.In base -> base.Ns mainGlobals mg -> fu P w K mg base CX k fa fd ps sp) (Kx : ∀ (s : Shared) (us : List Value), us.length = ps.length -> BindsTo s fd ⟨us, []⟩ (ps.zip us)) (hlen : ds.length = ps.length)
  (wY : ∀ (H : Hp) (xs : List V), wW H -> gZ K H xs ds -> sp xs H (fun v H' => Dw K H' v d0) fun _ _ _ => False)
  (Nu : ∀ H e s', CX [] H s₁ (fun _ _ _ => False) e s' -> False) :
  codeAny (model P w) callerA (.call (.ref fa) ⟨vals, []⟩) (fun r s' => ∃ u as, r = .ok (.ret u) /\ ReadsW R cl s'.heap u d0 as /\ OldK s₁.heap s'.heap /\ s'.os = s₁.os /\ AllBare s'.gens) s₁ := by
 obtain ⟨A, ho, ar⟩ := lM ds vals HM wb Km
 have hO : wW (gR K s₁.heap A) := BB ar
 have bD : k7 P w (gR K s₁.heap A) s₁.heap := FD ar
 have hS := uJ KX ar ds vals HM wb ho
 have hV := fY ho
 have hK : ∀ b u, gR K s₁.heap A b = some u -> K.lookup b = none := fun b u q => (oS ar q).1
 have ER : ∀ {b : Addr} {o : Obj} {es : Array DictEntry} {ep : Nat}, s₁.heap.get? b = some o -> o.data = .dict es ep -> gR K s₁.heap A b = none := fun {b o es ep} e d => by
  cases q : gR K s₁.heap A b with
  | none => rfl
  | some u =>
   obtain ⟨_, vs, _, _, ⟨e2, _⟩ | ⟨e2, _⟩⟩ := oS ar q
   ·rw [e2] at e
    cases e
    have d' : Data.seq vs.toArray _ = Data.dict es ep := d
    cases d'
   ·rw [e2] at e
    cases e
    have d' : Data.seq vs.toArray _ = Data.dict es ep := d
    cases d'
 generalize gR K s₁.heap A = H at hO bD hS hK ER
 have Ag : ∀ {b : Addr} {o : Obj}, s₁.heap.get? b = some o -> H b = none -> (uz s₁.heap H).get? b = some o := fun e n => Dk e n
 have Lm : ∀ {b : Addr} {m : Str -> Option Value}, s₁.heap.Ns b m -> (uz s₁.heap H).Ns b m := fun {b m} ⟨o, es, ep, e, d, r⟩ => ⟨o, es, ep, Ag e (ER e d), d, r⟩
 have nK : ∀ b o, K.lookup b = some o -> H b = none := fun b o e => by
  cases q : H b with
  | none => rfl
  | some u =>
   rw [hK b u q] at e
   cases e
 have OX : K.In (uz s₁.heap H) := fun b o e => Ag (KX b o e) (nK b o e)
 have hM : Mod K mg (uz s₁.heap H) := ⟨OX, Lm OI, ⟨mb, Lm hb, QP⟩, let ⟨mc, h1, h2⟩ := Na; ⟨mc, Lm h1, h2⟩⟩
 have e0 : yU P w K mg (uz s₁.heap H) callerA [] s₁ H := ⟨rfl, hM, fun b o e => EN e, Nat.le_of_eq (Bi _ _), trivial, fun b hb => absurd (show b ∈ ([] : List Addr) from hb) (by simp), bD, .of_eq hg⟩
 have hl : vals.length = ps.length := by rw [fw HM]; exact hlen
 refine codeAny_mono ((F _ OX (Lm OI)).run callerA [] s₁ H ⟨vals, []⟩ vals (vals.map toV) _ _ hr e0 (Kx s₁ vals hl) hV (wY H _ hO hS)) fun r s' x => ?_
 cases r with
 | error e => exact (Nu H e s' x).elim
 | ok fl =>
  cases fl with
  | next => exact False.elim x
  | brk => exact False.elim x
  | cont => exact False.elim x
  | ret u =>
   obtain ⟨v, H', os, bare, un, Kq, r', q⟩ := x
   have kept : ∀ b o, s₁.heap.get? b = some o -> s'.heap.get? b = some o := fun b o e => by
    cases q2 : H b with
    | none => exact un.keep b o e q2 (by intro z; exact absurd (show b ∈ ([] : List Addr) from z) (by simp)) (by simp)
    | some u2 =>
     rcases hO b with z | ⟨ob, u3, z⟩
     ·rw [q2] at z
      cases z
     ·have z2 := un.rp b ob _ z
      obtain ⟨e1, _⟩ := bD b _ z
      obtain ⟨e2, _⟩ := Kq b _ z2
      rw [e] at e1
      cases e1
      exact e2
   have Rw : K.In s'.heap := fun b o e => kept b o (KX b o e)
   obtain ⟨as, OH⟩ := Dw.reads (R := R) (cl := cl) Kq Rw d0 v u q r'
   exact ⟨u, as, rfl, OH, OldK.of_keep kept, os, bare⟩
theorem qd {ds : List WData} (h : WData.layableAll ds = true) : ∀ d ∈ ds, d.weight <= 1048576 := fun d hd =>
 (PySem.W.layableW_iff.mp (List.all_eq_true.mp h d hd)).2.2
theorem qo : ∀ (cs : List Codec) (a : Codec.denoteAll cs), (Codec.encAll cs a).length = cs.length
 | [], _ => rfl
 | c :: cs, a => by
  show (Codec.encAll cs a.2).length + 1 = cs.length + 1
  rw [qo cs a.2]
theorem Aq {r : OpenSpec} {k : Nat} {q : Program} {loose : List Str} {XP : (Str -> Option Value) -> Heap -> Prop} {YP : World -> Heap -> Prop} {d : DefRec} {K : Params -> PySem.W.Frag} {CX : World -> yW} {ps : List Str} {sp : World -> Sp}
  (Df : r.wellSaid = true) (OP : d.params.defaults = []) (hlen : r.args.length = ps.length) (hr : dc k callerA)
  (hY : ∀ (w : World) (h : Heap), YP w h -> (K w.params).In h)
  (F : ∀ (w : World) (mg : Str -> Option Value) (fa : Addr) (h : Heap), YP w h -> (K w.params).In h -> h.Ns mainGlobals mg -> mg d.name = some (.ref fa) ->
   ∃ fd : FuncData, (∀ (s : Shared) (us : List Value), us.length = ps.length -> BindsTo s fd ⟨us, []⟩ (ps.zip us)) /\
    ∀ base : Heap, (K w.params).In base -> base.Ns mainGlobals mg -> fu r.prog w (K w.params) mg base (CX w) k fa fd ps (sp w))
  (wY : ∀ (w : World) (H : Hp) (xs : List V) (a : Codec.denoteAll r.args), wW H -> Codec.withinAll r.args a = true -> Codec.app r.args r.asked a = true -> gZ (K w.params) H xs (Codec.encAll r.args a) ->
   sp w xs H (fun v H' => Dw (K w.params) H' v (r.ret.enc (Codec.app r.args r.f a))) fun _ _ _ => False)
  (Nu : ∀ (w : World) (H : Hp) (s : Shared) (e : Value) (s' : Shared), CX w [] H s (fun _ _ _ => False) e s' -> False) :
  PySem.W.WalkOS q loose XP YP r d [] (fun f vs => PySem.call f vs) := by
 intro w s_0 s₁ mg mb G Y fa o pm cd doc dV kV ho hd Eg hD hmg hg args vals as MU Nb OH HM RM
 obtain ⟨a, e1, e2⟩ := PySem.W.os_pre_some MU
 obtain ⟨e3, hwi⟩ := Codec.encAll_of_decAll r.args args a e1
 subst e3
 have KX := hY w _ Y
 obtain ⟨fd, hb, hF⟩ := F w mg fa _ Y KX G.T.g hmg
 refine PySem.W.enter_call (codeAny_mono (A2 (R := []) (cl := classAt s_0.heap) (d0 := r.ret.enc (Codec.app r.args r.f a)) KX G.T.g G.T.b G.T.builtins G.T.nolimit hg HM (sj _ _) (qd Nb) hr hF hb (by rw [qo]; exact hlen)
  (fun H xs hO hS => wY w H xs a hO hwi e2 hS) fun H e s' => Nu w H s₁ e s') fun r' s' hq => ?_)
 obtain ⟨u, Rt, rfl, h1, h2, h3, h4⟩ := hq
 exact ⟨.inl ⟨u, _, Rt, rfl, fun _ => rfl, h1, (OpenSpec.post_iff Df hwi _ _).mpr rfl, fun z => Bool.noConfusion (show false = true from z)⟩, h2, h3, h4⟩
end L2
end
end
namespace L2
open PySem Spec PyProof.Rows
theorem bQ {N P : List Str} {sc : Scope} (a : sc.kind = .function := by rfl) (b : sc.isCoroutine = false := by rfl) (c : sc.isGenerator = false := by rfl) (d : N.Nodup := by decide +kernel) (e : N.take P.length = P := by rfl) (f : ∀ x ∈ P, sc.names.lookup x = some .local \/ sc.names.lookup x = some .cell := by decide +kernel) (g : ∀ y ∈ sc.names, y.2 ≠ .free := by decide +kernel) : aq N P sc := ⟨a, b, c, d, e, f, g⟩
end L2
namespace L2
open PySem Spec PyProof.Rows
theorem bC.there {P : Program} {w : World} {H : Hp} {h : Heap} {a : Addr} {o : HO} (x : bC P w H h a o) : ∃ ob, h.get? a = some ob := by
 cases o with
 | lst xs => obtain ⟨_, _, _, _, e⟩ := x; exact ⟨_, e⟩
 | tup xs => obtain ⟨_, _, _, ob, e, _⟩ := x; exact ⟨ob, e⟩
 | dK kvs => obtain ⟨_, _, _, _, ob, _, _, e, _⟩ := x; exact ⟨ob, e⟩
 | dT kvs => obtain ⟨_, _, _, _, ob, _, _, e, _⟩ := x; exact ⟨ob, e⟩
 | set S n => obtain ⟨ob, _, _, _, e, _⟩ := x; exact ⟨ob, e⟩
 | ins C dx fs => obtain ⟨_, _, _, e, _⟩ := x; exact ⟨_, e⟩
 | own y => exact x
 | xd fs => obtain ⟨_, ⟨ob, _, _, e, _⟩, _⟩ := x; exact ⟨ob, e⟩
 | Li lo hi => obtain ⟨_, _, _, e⟩ := x; exact ⟨_, e⟩
 | og ob u => obtain ⟨e, _⟩ := x; exact ⟨_, e⟩
 | FO ps => exact ⟨_, (show h.get? a = some _ from x)⟩
 | met f y => exact ⟨_, (show h.get? a = some _ from x)⟩
 | ext φ => obtain ⟨_, e, _⟩ := x; exact e
section
variable {X : Cx} {pins : List (Addr × Obj)} {σ : List (Option V)} {H H' : Hp} {s s' : Shared} {h' : Heap}
theorem Inv.K4 {ch : Addr -> Prop} (I : Inv X pins σ H s)
  (zP : ∀ b, ch b -> (b ∈ X.ex \/ X.s_0.heap.get? b = none) /\ b ≠ X.env.locals /\ (∀ x c, X.env.cells.lookup x = some c -> c ≠ b) /\ ∀ p ∈ X.pn ++ pins, p.1 ≠ b)
  (keep : ∀ b o, b ≠ X.env.locals -> b ∉ X.fs -> ¬ ch b -> s.heap.get? b = some o -> h'.get? b = some o)
  (slot : ∀ b o, b ∈ X.fs -> s.heap.get? b = some o -> ∃ sl, h'.get? b = some { o with slots := sl })
  (ns : ∀ m, s.heap.Ns X.env.locals m -> h'.Ns X.env.locals m) (IH : ∀ b, ch b -> H b = none) : Inv X pins σ H { s with heap := h' } := by
 have JX : ∀ b o, X.s_0.heap.get? b = some o -> b ≠ X.env.locals := fun b o e => Nat.ne_of_lt (Nat.lt_of_lt_of_le (Heap.lt_size e) I.ok.above)
 have Hm : ∀ b o, X.s_0.heap.get? b = some o -> b ∉ X.ex -> ¬ ch b := fun b o e hx hb => by
  rcases (zP b hb).1 with z | z
  ·exact hx z
  ·rw [z] at e; cases e
 have cellK : ∀ x c, X.env.cells.lookup x = some c -> ∀ v, s.heap.IsCell c v -> h'.IsCell c v := fun x c e v ⟨o, ho, hd⟩ => by
  have Hn : ¬ ch c := fun z => (zP c z).2.2.1 x c e rfl
  by_cases hc : c ∈ X.fs
  ·obtain ⟨sl, q⟩ := slot c o hc ho
   exact ⟨_, q, hd⟩
  ·exact ⟨o, keep c o (I.Gs x c e) hc Hn ho, hd⟩
 have bD : k7 X.prog X.w H h' := fun b u e => by
  have tw : ∀ c v, H c ≠ none -> s.heap.get? c = some v -> h'.get? c = some v := fun c v hc q => by
   refine keep c v (fun z => hc (by rw [z]; exact I.free)) (fun z => hc ?_) (fun z => hc (IH c z)) q
   obtain ⟨_, o, ho, _⟩ := I.ok.kq.mem z
   exact I.base.free c o ho (I.ok.Fo c z) fun z' => I.ok.yz c z' z
  refine (I.bD b u e).tw (fun c v hc q => tw c v ?_ q) (fun _ q => q) fun _ _ q => q
  rcases hc with rfl | hc
  ·rw [e]; simp
  ·rw [hc]; simp
 refine ⟨I.ok, I.os, I.bare, ⟨fun b o e n hb hx => ?_, fun b o e n hb hx => ?_, I.base.free, fun b o e hx => ?_, I.base.sY, I.base.rp, I.base.tm⟩, ?_, fun x c e => ?_, I.free, I.fG, fun p hp => ?_, bD, I.len⟩
 ·exact keep b o (JX b o e) hb (Hm b o e hx) (I.base.keep b o e n hb hx)
 ·obtain ⟨sl, e1⟩ := I.base.slot b o e n hb hx
  obtain ⟨Mc, e2⟩ := slot b _ hb e1
  exact ⟨Mc, e2⟩
 ·obtain ⟨o', e1⟩ := I.base.there b o e hx
  by_cases hb : b ∈ X.fs
  ·obtain ⟨sl, e2⟩ := slot b o' hb e1
   exact ⟨_, e2⟩
  ·exact ⟨o', keep b o' (JX b o e) hb (Hm b o e hx) e1⟩
 ·obtain ⟨m, hn, hl⟩ := I.loc
  refine ⟨m, ns m hn, fun i x v e1 e2 e3 => ?_⟩
  obtain ⟨u, r, l⟩ := hl i x v e1 e2 e3
  refine ⟨u, r, ?_⟩
  rcases l with l | ⟨k, c, e, z⟩
  ·exact .inl l
  ·exact .inr ⟨k, c, e, cellK x c e _ z⟩
 ·obtain ⟨v, z⟩ := I.cell x c e
  exact ⟨v, cellK x c e v z⟩
 ·obtain ⟨e, n, ne, nf, d⟩ := I.pin p hp
  exact ⟨keep p.1 p.2 ne nf (fun z => (zP p.1 z).2.2.2 p hp rfl) e, n, ne, nf, d⟩
structure je (X : Cx) : Prop where
 DZ : X.stack = X.env :: X.outer
 fr : X.env.frame = some X.env.locals
theorem je.eL (T : je X) : eL X.stack = X.env.locals :: X.fs := by
 rw [T.DZ]
 unfold L2.eL
 rw [List.filterMap_cons, T.fr]
 rfl
theorem Inv.Ja {B : Heap} (T : je X) (I : Inv X pins σ H s) (hB : B.StaysIn h') (hs : s.heap.UpToSlots h')
  (new : ∀ b o, s.heap.get? b = some o -> b ∉ L2.eL X.stack -> B.get? b ≠ some o -> (b ∈ X.ex \/ X.s_0.heap.get? b = none) /\ H b = none /\ (∀ x c, X.env.cells.lookup x = some c -> c ≠ b) /\ ∀ p ∈ X.pn ++ pins, p.1 ≠ b) :
  Inv X pins σ H { s with heap := h' } := by
 have hf := T.eL
 refine I.K4 (ch := fun b => ∃ o, s.heap.get? b = some o /\ b ∉ L2.eL X.stack /\ B.get? b ≠ some o) (fun b hb => ?_) (fun b o h1 h2 h3 e => ?_) (fun b o hb e => ?_) (fun m hm => hs.ns hm) (fun b hb => ?_)
 ·obtain ⟨o, e, n, q⟩ := hb
  obtain ⟨a1, a2, a3, a4⟩ := new b o e n q
  exact ⟨a1, fun z => n (by rw [hf, z]; exact zA2), a3, a4⟩
 ·have n : b ∉ L2.eL X.stack := by
   rw [hf]
   intro z
   rcases List.mem_cons.mp z with z | z
   ·exact h1 z
   ·exact h2 z
  refine hB b o ?_
  cases q : B.get? b with
  | none => exact absurd ⟨o, e, n, by rw [q]; simp⟩ h3
  | some u =>
   by_cases z : u = o
   ·rw [z]
   ·exact absurd ⟨o, e, n, by rw [q]; intro w; exact z (Option.some.inj w)⟩ h3
 ·obtain ⟨_, o', e', nf⟩ := I.kq.mem hb
  rw [e] at e'
  cases e'
  exact hs b o e nf
 ·obtain ⟨o, e, n, q⟩ := hb
  exact (new b o e n q).2.1
end
def fk (P : Program) (w : World) : yW := fun outer H s E e s' => ∃ (ea : Addr) (cls a0 : Value) (H' : Hp) (B : Heap), e = .ref ea /\ s'.os = s.os /\ AllBare s'.gens /\ Un (eL outer) [] H H' s.heap s'.heap /\ k7 P w H' s'.heap /\
 Heap.FlyingW B outer ea cls a0 s'.heap /\ (∀ b o, s'.heap.get? b = some o -> b ∉ eL outer -> ((∃ o', s.heap.get? b = some o') \/ H' b ≠ none) -> B.get? b = some o) /\ E cls none H'
def qB (X : Cx) (E : XK) : Prop := ∀ (pins : List (Addr × Obj)) (σ : St) (H : Hp) (s : Shared) (h' : Heap) (e C : Addr), Inv X pins σ H s -> Heap.MadeExcOf s.heap h' e (.ref C) [] -> E (.ref C) none H -> X.xe (.ref e) { s with heap := h' }
section
variable {P : Program} {w : World} {K : W.Frag} {mg : Str -> Option Value} {base : Heap} {N : List Str} {qual : Str} {scope : Scope} {f : Addr} {cd : Value} {A : Around} {outer : List Env} {s : Shared} {H : Hp} {E : XK}
theorem dh {CX : yW} : je (dU CX P w K mg base N qual scope f cd A outer s H E) := ⟨rfl, rfl⟩
theorem bt : qB (dU (fk P w) P w K mg base N qual scope f cd A outer s H E) E := by
 intro pins σ H1 s1 h' e C I m hE
 have T : je (dU (fk P w) P w K mg base N qual scope f cd A outer s H E) := dh
 have L5 : ∀ env ∈ (dU (fk P w) P w K mg base N qual scope f cd A outer s H E).stack, ∀ b, env.frame = some b -> b ∈ eL (dU (fk P w) P w K mg base N qual scope f cd A outer s H E).stack := fun env he b hb => List.mem_filterMap.mpr ⟨env, he, hb⟩
 refine wpAny_leaves_madeW (base := W.hideAll s1.heap (eL (dU (fk P w) P w K mg base N qual scope f cd A outer s H E).stack)) (h := s1.heap) I.ok.frames rfl (fun b o q => W.of_hideAll _ q) (W.funFrames_hide I.stack L5) m fun h2 t x1 x2 x3 x4 => ?_
 have us : s1.heap.UpToSlots h2 := (Heap.UpToSlots.of_keeps m.keeps).trans x4
 have I2 := I.Ja (h' := h2) T x1.1 us fun b o e n q => absurd (W.hideAll_get _ e n) q
 refine ⟨e, .ref C, .ref t, H1, _, rfl, I.os, I.bare, I2.base, I2.bD, x1, fun b o e n hb => ?_, hE⟩
 have nL : b ≠ (dU (fk P w) P w K mg base N qual scope f cd A outer s H E).env.locals := fun z => by
  rcases hb with ⟨o', e'⟩ | hb
  ·exact absurd (Nat.lt_of_lt_of_le (Heap.lt_size e') I.ok.above) (by rw [<- z]; exact Nat.lt_irrefl _)
  ·exact hb (by rw [z]; exact I.free)
 have n' : b ∉ eL (dU (fk P w) P w K mg base N qual scope f cd A outer s H E).stack := by
  rw [T.eL]
  intro z
  rcases List.mem_cons.mp z with z | z
  ·exact nL z
  ·exact n z
 obtain ⟨o', e'⟩ : ∃ o', s1.heap.get? b = some o' := by
  rcases hb with ⟨o', e'⟩ | hb
  ·exact I.base.there b o' e' (by intro z; exact absurd (show b ∈ ([] : List Addr) from z) (by simp))
  ·cases q : H1 b with
   | none => exact absurd q hb
   | some u => exact (I.bD b u q).there
 have q := W.hideAll_get (eL (dU (fk P w) P w K mg base N qual scope f cd A outer s H E).stack) e' n'
 have q2 := x1.1 b o' q
 rw [show ({ s1 with heap := h2 } : Shared).heap = h2 from rfl] at e
 rw [e] at q2
 cases q2
 exact q
theorem ai : Passes (fk P w) (dU (fk P w) P w K mg base N qual scope f cd A outer s H E) E := by
 intro pins σ H1 s1 e s2 I hx
 obtain ⟨ea, cls, a0, H2, B, rfl, os, bare, un, bD, fl, cb, hE⟩ := hx
 have T : je (dU (fk P w) P w K mg base N qual scope f cd A outer s H E) := dh
 have I1 : Inv (dU (fk P w) P w K mg base N qual scope f cd A outer s H E) pins σ H2 s2 := I.DJ (ch := []) os un bD bare (fun b z => absurd z (by simp))
 refine wpAny_leaves_onW I.ok.frames rfl fl fun h3 Jb us => ?_
 have ER : ∀ b : Addr, b ∉ (dU (fk P w) P w K mg base N qual scope f cd A outer s H E).ex := fun b z => absurd (show b ∈ ([] : List Addr) from z) (by simp)
 have new : ∀ b o, s2.heap.get? b = some o -> b ∉ eL (dU (fk P w) P w K mg base N qual scope f cd A outer s H E).stack -> B.get? b ≠ some o -> s1.heap.get? b = none /\ H2 b = none := fun b o e n q => by
  constructor
  ·cases z : s1.heap.get? b with
   | none => rfl
   | some o' => exact absurd (cb b o e n (.inl ⟨o', z⟩)) q
  ·cases z : H2 b with
   | none => rfl
   | some u => exact absurd (cb b o e n (.inr (by rw [z]; simp))) q
 have I2 := I1.Ja (h' := h3) T Jb.1 us fun b o e n q => by
  obtain ⟨n1, n2⟩ := new b o e n q
  refine ⟨.inr ?_, n2, fun x c hc z => ?_, fun p hp z => ?_⟩
  ·cases z : (dU (fk P w) P w K mg base N qual scope f cd A outer s H E).s_0.heap.get? b with
   | none => rfl
   | some o' =>
    obtain ⟨o2, e2⟩ := I.base.there b o' z (ER b)
    rw [n1] at e2; cases e2
  ·obtain ⟨v, o', e', _⟩ := I.cell x c hc
   rw [z, n1] at e'; cases e'
  ·have := (I.pin p hp).1
   rw [z, n1] at this; cases this
 refine ⟨ea, cls, a0, H2, B, rfl, os.trans I.os, bare, I2.base, I2.bD, Jb, fun b o e n hb => ?_, hE⟩
 have nL : b ≠ (dU (fk P w) P w K mg base N qual scope f cd A outer s H E).env.locals := fun z => by
  rcases hb with ⟨o', e'⟩ | hb
  ·exact absurd (Nat.lt_of_lt_of_le (Heap.lt_size e') I.ok.above) (by rw [<- z]; exact Nat.lt_irrefl _)
  ·exact hb (by rw [z]; exact I1.free)
 have n' : b ∉ eL (dU (fk P w) P w K mg base N qual scope f cd A outer s H E).stack := by
  rw [T.eL]
  intro z
  rcases List.mem_cons.mp z with z | z
  ·exact nL z
  ·exact n z
 have L8 : (∃ o', s1.heap.get? b = some o') \/ H2 b ≠ none := hb.imp (fun ⟨o', e'⟩ => I.base.there b o' e' (ER b)) id
 obtain ⟨o', e'⟩ : ∃ o', s2.heap.get? b = some o' := by
  rcases L8 with ⟨o', e'⟩ | hb
  ·exact un.there b o' e' (by simp)
  ·cases q : H2 b with
   | none => exact absurd q hb
   | some u => exact (bD b u q).there
 have q := cb b o' e' n' L8
 have q2 := Jb.1 b o' q
 rw [show ({ s2 with heap := h3 } : Shared).heap = h3 from rfl] at e
 rw [e] at q2
 cases q2
 exact q
theorem FJ.Lj {x : Str} {st : Stmt} {fd : FuncData} {ps : List Str} {k : Nat} {sp : Sp} (F : FJ K x qual st f fd) (S : aq N ps (aj st)) (len : ∀ vs H Q E, sp vs H Q E -> vs.length = ps.length)
  (qi : ∀ (aU : Value) (A : Around) (outer : List Env) (s : Shared) (H : Hp) (vs : List V) (Q : VK) (E : XK), dc k (A.deeper (envOfC qual (aj st) s.heap.objs.size f aU)) -> sp vs H Q E ->
   ∃ t, Ak (dU (fk P w) P w K mg base N qual (aj st) f aU A outer s H E) (b8 st) t /\ t { nx := fun _ H' => Q .bf H', rt := Q } (start N vs) H) : fu P w K mg base (fk P w) (k + 1) f fd ps sp := by
 obtain ⟨oc, od, kV, doc, pm, an, aU, ct, o4, rfl, lk, Eg⟩ := F.ex
 exact K3 lk Eg S len fun A outer s H vs Q E hr wY => qi aU A outer s H vs Q E hr wY
end
theorem oR {K : W.Frag} {h : Heap} {C : Addr} {F7 : List Value} {newId : String} (X : K.In h) (q : W.excIn K C F7 newId = true) :
  ∃ bm N nm qn bs hdct sn sub ab col dd k0 k1 k2 k3 k5 mN, h.get? C = some (excClassObj nm qn C N bs bm hdct sn sub ab col dd k0 k1 k2 k3 k5 newId) /\ h.Ns N mN /\ mN "__init__" = none /\ OwnTail h F7 bm := by
 unfold W.excIn at q
 split at q
 case h_2 => cases q
 case h_1 dd cd sl look =>
  split at q
  case h_2 => cases q
  case h_1 C' bm k0 k1 k2 k3 n k5 em es =>
   (simp only [Bool.and_eq_true, beq_iff_eq, Bool.not_eq_true'] at q)
   obtain ⟨⟨⟨⟨⟨e1, e2⟩, e3⟩, e4⟩, e5⟩, e6⟩ := q
   subst e1 e2
   cases cd with
   | mk nm bs mro ns qn hd sn sub ab col del =>
    have N6 : mro = Value.ref C' :: bm := em
    have NA : del = false := e3
    subst N6 NA
    have Im : sl = #[k0, k1, k2, k3, some (.builtin n), k5] := by
     cases sl with
     | mk l => exact congrArg Array.mk es
    subst Im
    exact ⟨bm, ns, nm, qn, bs, hd, sn, sub, ab, col, dd, k0, k1, k2, k3, k5, _, X _ _ look, .of_isNs (W.isNs_of_in X e5), W.nsMap_none_of_in X e5 e6, W.tail_of_in X e4⟩
def Cb (C : Addr) (E : XK) : TS := fun _ _ H => E (.ref C) none H
section
variable {X : Cx} {x : Str} {C : Addr} {np c5 pos : Pos} {F7 : List Value} {B newId HD : String} {E : XK}
theorem C8 (hr : qB X E) (hc : X.calm = true) (hg : Gl X x) (hm : X.mg x = some (.ref C)) (hx : W.excIn X.K C F7 newId = true) (FB : ExcBaseFacts B newId HD F7) (hd : (x == ("__debug__" : Str)) = false := by decide) :
  PS X (.Raise (some (.Call (.Name x np) [] [] c5)) none pos) (Cb C E) := by
 intro pins s σ H D I h
 obtain ⟨bm, N, nm, qn, bs, hdct, sn, sub, ab, col, dd, k0, k1, k2, k3, k5, mN, hC, hN, MW, T⟩ := oR I.gu hx
 refine wpAny_Raise_call_subT (nm := nm) (q := qn) (N := N) (bs := bs) (hdct := hdct) (sn := sn) (sub := sub) (ab := ab) (col := col) (dd := dd) (k0 := k0) (k1 := k1) (k2 := k2) (k3 := k3) (k5 := k5) FB (T.hasType FB.hasBase) (I.ok.hd hc) rfl MW (fF I hg hm ⟨rfl, ?_⟩ hd)
 exact evalArgs_empty ⟨rfl, Nat.zero_le _, hC, hN, T, fun h' e m => hr pins σ H s h' e C I m h⟩
end
section
variable {M : Model} {A : Around} {E : Value -> Shared -> Prop}
theorem Bv {nm Ot q q' : Str} {C C' N N' : Addr} {bs Pd bm LH : List Value} {hdct Gi : Bool} {sn Oe : List Str} {sub J8 : List Value} {ab Pg : Bool} {col KG : Option Bool} {dd Je : Option Addr}
  {k0 k1 k2 k3 k5 j0 j1 j2 j3 j5 : Option Value} {newId Hl : String} {h : Heap} {g : Array GenState} {d : Drawn} {t : Nat} {os : OsState} {e : Addr} {oe : Obj} {Q : Bool -> Shared -> Prop}
  (hC : h.get? C = some (excClassObj nm q C N bs bm hdct sn sub ab col dd k0 k1 k2 k3 k5 newId)) (OZ : h.get? C' = some (excClassObj Ot q' C' N' Pd LH Gi Oe J8 Pg KG Je j0 j1 j2 j3 j5 Hl))
  (he : h.get? e = some oe) (Bj : oe.cls = .ref C) (Nq : LH.contains (.type "BaseException") = true) (HU : (Value.ref C :: bm).contains (.ref C') = false) (hq : Q false ⟨h, g, d, t, os⟩) : wpAny M A (excMatches (.ref e) (.ref C')) Q E ⟨h, g, d, t, os⟩ := by
 have QO : (Value.ref C' :: LH).contains (.type "BaseException") = true := by rw [List.contains_cons, Nq, Bool.or_true]
 have f := tc_notTuple
 unfold excMatches
 repeat (first | (with_reducible refine wpAny_loadPart_at he ?_; rw [Bj]) | with_reducible refine wpAny_loadPart_at OZ ?_ | (with_reducible refine wpAny_isSubtype_exc OZ ?_; rw [QO]) | (with_reducible refine wpAny_isSubtype_exc hC ?_; rw [HU]) | wp_step)
 exact hq
end
def NU (X : Cx) (pins : List (Addr × Obj)) (H : Hp) (s : Shared) (ea C : Addr) : Prop := ∃ (a0 : Value) (B : Heap), Heap.FlyingW B X.stack ea (.ref C) a0 s.heap /\
 ∀ b o, s.heap.get? b = some o -> b ∉ eL X.stack -> B.get? b ≠ some o -> (b ∈ X.ex \/ X.s_0.heap.get? b = none) /\ H b = none /\ (∀ x c, X.env.cells.lookup x = some c -> c ≠ b) /\ ∀ p ∈ X.pn ++ pins, p.1 ≠ b
section
variable {X : Cx} {pins : List (Addr × Obj)} {σ : St} {H : Hp} {s : Shared} {ea C : Addr} {h' : Heap}
theorem Ic {B : Heap} {a0 : Value} (I : Inv X pins σ H s) (Pb : Heap.FlyingW B X.stack ea (.ref C) a0 h')
  (new : ∀ b o, s.heap.get? b = some o -> b ∉ eL X.stack -> B.get? b ≠ some o -> (b ∈ X.ex \/ X.s_0.heap.get? b = none) /\ H b = none /\ (∀ x c, X.env.cells.lookup x = some c -> c ≠ b) /\ ∀ p ∈ X.pn ++ pins, p.1 ≠ b) :
  NU X pins H { s with heap := h' } ea C := by
 refine ⟨a0, B, Pb, fun b o e n q => ?_⟩
 have e : h'.get? b = some o := e
 cases z : s.heap.get? b with
 | some o' =>
  refine new b o' z n fun w => q ?_
  have := Pb.1 b o' w
  rw [e] at this
  cases this
  exact w
 | none =>
  refine ⟨?_, ?_, fun x c hc w => ?_, fun p hp w => ?_⟩
  ·by_cases hx : b ∈ X.ex
   ·exact .inl hx
   ·refine .inr ?_
    cases y : X.s_0.heap.get? b with
    | none => rfl
    | some o' =>
     obtain ⟨o2, e2⟩ := I.base.there b o' y hx
     rw [z] at e2; cases e2
  ·cases y : H b with
   | none => rfl
   | some u =>
    obtain ⟨o2, e2⟩ := (I.bD b u y).there
    rw [z] at e2; cases e2
  ·obtain ⟨v, o', e', _⟩ := I.cell x c hc
   rw [w, z] at e'; cases e'
  ·have := (I.pin p hp).1
   rw [w, z] at this; cases this
end
noncomputable abbrev Cx.sG (X : Cx) (ea : Addr) : Cx := { X with A := X.A.mark (some (.ref ea)), calm := false, xe := fun _ _ => False }
theorem Inv.sG {X : Cx} {pins : List (Addr × Obj)} {σ : St} {H : Hp} {s : Shared} (I : Inv X pins σ H s) (ea : Addr) : Inv (X.sG ea) pins σ H s :=
 ⟨⟨I.ok.mod, I.ok.kind, I.ok.glob, I.ok.blt, I.ok.above, I.ok.inj, I.ok.has, I.ok.Jf, fun z => (Bool.noConfusion z), I.ok.frames, I.ok.DZ, I.ok.sL, I.ok.bs, I.ok.Ei, I.ok.AK, I.ok.yz, I.ok.kq, I.ok.Fo⟩,
  I.os, I.bare, I.base, I.loc, I.cell, I.free, I.fG, I.pin, I.bD, I.len⟩
theorem Inv.mH {X : Cx} {pins : List (Addr × Obj)} {σ : St} {H : Hp} {s : Shared} {ea : Addr} (ok : X.Ok) (I : Inv (X.sG ea) pins σ H s) : Inv X pins σ H s :=
 ⟨ok, I.os, I.bare, I.base, I.loc, I.cell, I.free, I.fG, I.pin, I.bD, I.len⟩
theorem SP.mH {X : Cx} {pins : List (Addr × Obj)} {D : Ends} {f : Flow} {s' : Shared} {ea : Addr} (ok : X.Ok) (h : SP (X.sG ea) pins D f s') : SP X pins D f s' := by
 cases f with
 | next => obtain ⟨σ', H', I, q⟩ := h; exact ⟨σ', H', I.mH ok, q⟩
 | brk => obtain ⟨σ', H', I, q⟩ := h; exact ⟨σ', H', I.mH ok, q⟩
 | cont => obtain ⟨σ', H', I, q⟩ := h; exact ⟨σ', H', I.mH ok, q⟩
 | ret u => obtain ⟨v, σ', H', I, r, q⟩ := h; exact ⟨v, σ', H', I.mH ok, r, q⟩
def PH (X : Cx) (hs : List ExceptHandler) (th : Addr -> TS) : Prop :=
 ∀ (pins : List (Addr × Obj)) (s : Shared) (σ : St) (H : Hp) (D : Ends) (ea C : Addr), Inv X pins σ H s -> NU X pins H s ea C -> th C D σ H -> wpAny (model X.prog X.w) X.A (handleBy (.ref ea) X.env hs) (SP X pins D) X.xe s
def yZ : List (Addr × TS) -> Addr -> TS
 | [], _ => G4
 | (C', t) :: r, C => if C = C' then t else yZ r C
theorem zG {C : Addr} {D : Ends} {σ : St} {H : Hp} : ∀ (r : List (Addr × TS)), yZ r C D σ H -> C ∈ r.map (·.1)
 | [], h => h.elim
 | (C2, t2) :: r, h => by
  by_cases h2 : C = C2
  ·rw [h2]; exact zA2
  ·have e : yZ ((C2, t2) :: r) C = yZ r C := if_neg h2
   rw [e] at h
   exact zA1 _ (zG r h)
section
variable {X : Cx}
theorem xO : PH X [] (yZ []) := fun _ _ _ _ _ _ _ _ _ h => h.elim
theorem dZ {x : Str} {C' : Addr} {np pos : Pos} {b0 : Stmt} {FU : List Stmt} {hs : List ExceptHandler} {t : TS} {r : List (Addr × TS)} {F7 : List Value} {newId : String} (T : je X) (hg : Gl X x) (hm : X.mg x = some (.ref C'))
  (hx : W.excIn X.K C' F7 newId = true) (bS : F7.contains (.type "BaseException") = true)
  (ot : ∀ C, C ∈ r.map (·.1) -> W.excIn X.K C F7 newId = true /\ W.mroIn X.K C (.ref C') = some false)
  (Qz : ∀ ea, Ak (X.sG ea) (b0 :: FU) t) (hr : PH X hs (yZ r)) (hd : (x == ("__debug__" : Str)) = false := by decide) :
  PH X (.ExceptHandler (some (.Name x np)) none (b0 :: FU) pos :: hs) (yZ ((C', t) :: r)) := by
 intro pins s σ H D ea C I Ja h
 obtain ⟨a0, B, fl, new⟩ := Ja
 have gl : s.heap.Ns X.env.globals X.mg := by rw [I.ok.glob]; exact I.mod.glob.keeps I.bk
 obtain ⟨oe, vs, T1, oT, ts, he, ⟨Bj, _⟩, _⟩ := fl.2.2.2
 refine wpAny_handleBy_cons (codeAny_handlers_test (Calls.Name_function_global I.ok.kind hg (Calls.loadGlobal_global gl hm ?_) hd)) (by intro q; cases q)
 by_cases hC : C = C'
 ·subst hC
  have h : t D σ H := by
   have e : yZ ((C, t) :: r) C = t := if_pos rfl
   rw [e] at h
   exact h
  obtain ⟨bm, N, nm, qn, bs, hdct, sn, sub, ab, col, dd, k0, k1, k2, k3, k5, mN, oC, hN, MW, TL⟩ := oR I.gu hx
  obtain ⟨hp, g, d, tk, os⟩ := s
  refine wpAny_excMatches_sub_self oC he Bj (TL.hasType bS) (codeAny_handlers_suite ?_)
  refine lands_againW fl fun h1 Ra us => ?_
  have I1 := I.Ja (h' := h1) T Ra.1 us new
  refine wpAny_mono (Qz ea pins _ σ H D (I1.sG ea) h) (fun f s2 q => q.mH I.ok) fun _ _ z => False.elim z
 ·have h : yZ r C D σ H := by
   have e : yZ ((C', t) :: r) C = yZ r C := if_neg hC
   rw [e] at h
   exact h
  have mem : C ∈ r.map (·.1) := zG r h
  obtain ⟨x1, x2⟩ := ot C mem
  obtain ⟨bm, N, nm, qn, bs, hdct, sn, sub, ab, col, dd, k0, k1, k2, k3, k5, mN, oC, hN, MW, TL⟩ := oR I.gu x1
  obtain ⟨LH, N', Ot, RE, Pd, Gi, Oe, J8, Pg, KG, Je, j0, j1, j2, j3, j5, RG, PV, RT, QA, Rv⟩ := oR I.gu hx
  have HU : (Value.ref C :: bm).contains (.ref C') = false := by
   unfold W.mroIn at x2
   obtain ⟨cd, a, b⟩ := Option.bind_eq_some_iff.mp x2
   unfold W.clsIn at a
   split at a
   case h_2 => cases a
   case h_1 lk =>
    cases a
    have e1 := I.gu _ _ lk
    rw [oC] at e1
    cases e1
    rw [if_neg (by simp)] at b
    exact Option.some.inj b
  have K0 := hr pins s σ H D ea C I ⟨a0, B, fl, new⟩ h
  obtain ⟨hp, g, d, tk, os⟩ := s
  exact Bv oC PV he Bj (Rv.hasType bS) HU K0
noncomputable abbrev Cx.Aw (X : Cx) (pins : List (Addr × Obj)) (E : XK) : Cx := { X with pn := X.pn ++ pins, xe := fun e s' => ∃ (σ : St) (H : Hp) (s : Shared) (pins' : List (Addr × Obj)), Inv X (pins ++ pins') σ H s /\ fk X.prog X.w X.stack H s E e s' }
theorem Inv.Jm {pins pins' : List (Addr × Obj)} {σ : St} {H : Hp} {s : Shared} {E : XK} (I : Inv X (pins ++ pins') σ H s) : Inv (X.Aw pins E) pins' σ H s :=
 ⟨⟨I.ok.mod, I.ok.kind, I.ok.glob, I.ok.blt, I.ok.above, I.ok.inj, I.ok.has, I.ok.Jf, I.ok.hd, I.ok.frames, I.ok.DZ, I.ok.sL, I.ok.bs, I.ok.Ei, I.ok.AK, I.ok.yz, I.ok.kq, I.ok.Fo⟩,
  I.os, I.bare, I.base, I.loc, I.cell, I.free, I.fG, fun p hp => I.pin p (by rw [<- List.append_assoc]; exact hp), I.bD, I.len⟩
theorem Inv.oZ {pins pins' : List (Addr × Obj)} {σ : St} {H : Hp} {s : Shared} {E : XK} (I : Inv (X.Aw pins E) pins' σ H s) : Inv X (pins ++ pins') σ H s :=
 ⟨⟨I.ok.mod, I.ok.kind, I.ok.glob, I.ok.blt, I.ok.above, I.ok.inj, I.ok.has, I.ok.Jf, I.ok.hd, I.ok.frames, I.ok.DZ, I.ok.sL, I.ok.bs, I.ok.Ei, I.ok.AK, I.ok.yz, I.ok.kq, I.ok.Fo⟩,
  I.os, I.bare, I.base, I.loc, I.cell, I.free, I.fG, fun p hp => I.pin p (by rw [<- List.append_assoc] at hp; exact hp), I.bD, I.len⟩
theorem jX {pins : List (Addr × Obj)} {E : XK} : Passes (fk X.prog X.w) (X.Aw pins E) E := fun pins' σ H s e s' I h => ⟨σ, H, s, pins', I.oZ, h⟩
def LQ (tb : XK -> TS) (th : Addr -> TS) : TS := fun D σ H => tb (fun cls _ H' => ∃ C, cls = .ref C /\ ∀ σ', th C D σ' H') D σ H
theorem xH {body : List Stmt} {h0 : ExceptHandler} {hs : List ExceptHandler} {pos : Pos} {tb : XK -> TS} {th : Addr -> TS} (T : je X) (hb : ∀ pins E, Ak (X.Aw pins E) body (tb E)) (hh : PH X (h0 :: hs) th) :
  PS X (.Try body (h0 :: hs) [] [] pos) (LQ tb th) := by
 intro pins s σ H D I h
 have I0 : Inv (X.Aw pins (fun cls _ H' => ∃ C, cls = Value.ref C /\ ∀ σ', th C D σ' H')) [] σ H s := Inv.Jm (pins' := []) (by rw [List.append_nil]; exact I)
 refine wpAny_Try_except (wpAny_mono (hb pins _ [] s σ H D I0 h) (fun f s1 q => ?_) fun e s1 q => ?_)
 ·cases f with
  | next =>
   obtain ⟨σ1, H1, I1, q1⟩ := q
   have I2 := I1.oZ
   rw [List.append_nil] at I2
   exact wpAny_execs_nil ⟨σ1, H1, I2, q1⟩
  | brk =>
   obtain ⟨σ1, H1, I1, q1⟩ := q
   have I2 := I1.oZ
   rw [List.append_nil] at I2
   exact ⟨σ1, H1, I2, q1⟩
  | cont =>
   obtain ⟨σ1, H1, I1, q1⟩ := q
   have I2 := I1.oZ
   rw [List.append_nil] at I2
   exact ⟨σ1, H1, I2, q1⟩
  | ret v =>
   obtain ⟨x, σ1, H1, I1, r1, q1⟩ := q
   have I2 := I1.oZ
   rw [List.append_nil] at I2
   exact ⟨x, σ1, H1, I2, r1, q1⟩
 ·obtain ⟨σ1, H1, s0, pins', J, ea, cls, a0, H2, B, rfl, os, bare, un, bD, fl, cb, C, rfl, hE⟩ := q
  have J1 : Inv X (pins ++ pins') σ1 H2 s1 := J.DJ (ch := []) os un bD bare (fun b z => absurd z (by simp))
  have new : ∀ b o, s1.heap.get? b = some o -> b ∉ eL X.stack -> B.get? b ≠ some o -> (b ∈ X.ex \/ X.s_0.heap.get? b = none) /\ H2 b = none /\ (∀ x c, X.env.cells.lookup x = some c -> c ≠ b) /\ ∀ p ∈ X.pn ++ (pins ++ pins'), p.1 ≠ b := fun b o e n q => by
   have n1 : s0.heap.get? b = none := by
    cases z : s0.heap.get? b with
    | none => rfl
    | some o' => exact absurd (cb b o e n (.inl ⟨o', z⟩)) q
   refine ⟨?_, ?_, fun x c hc z => ?_, fun p hp z => ?_⟩
   ·by_cases hx : b ∈ X.ex
    ·exact .inl hx
    ·refine .inr ?_
     cases z : X.s_0.heap.get? b with
     | none => rfl
     | some o' =>
      obtain ⟨o2, e2⟩ := J.base.there b o' z hx
      rw [n1] at e2; cases e2
   ·cases z : H2 b with
    | none => rfl
    | some u => exact absurd (cb b o e n (.inr (by rw [z]; simp))) q
   ·obtain ⟨v, o', e', _⟩ := J.cell x c hc
    rw [z, n1] at e'; cases e'
   ·have := (J.pin p hp).1
    rw [z, n1] at this; cases this
  have fr : X.A.frames = some (X.env :: X.outer) := by rw [I.ok.frames, T.DZ]
  have Rb : Heap.FlyingW B (X.env :: X.outer) ea (.ref C) a0 s1.heap := by rw [<- T.DZ]; exact fl
  refine wpAny_looks_onW fr T.fr Rb fun h2 QI oH => ?_
  refine wpAny_landsW QI fun h3 Jb Pz => ?_
  have us : s1.heap.UpToSlots h3 := oH.trans Pz
  have N2 : Heap.FlyingW B X.stack ea (.ref C) a0 h3 := by rw [T.DZ]; exact Jb
  have J3 := J1.Ja (h' := h3) T Jb.1 us new
  have F3 := Ic (h' := h3) J1 N2 new
  have J4 : Inv X pins σ1 H2 { s1 with heap := h3 } := J3.tZ fun p hp => J3.pin p (List.mem_append_right _ (List.mem_append_left _ hp))
  have F4 : NU X pins H2 { s1 with heap := h3 } ea C := by
   obtain ⟨a1, B1, g1, g2⟩ := F3
   exact ⟨a1, B1, g1, fun b o e n q => let ⟨u1, u2, u3, u4⟩ := g2 b o e n q; ⟨u1, u2, u3, fun p hp => u4 p ((List.mem_append.mp hp).elim (fun z => List.mem_append_left _ z) fun z => List.mem_append_right _ (List.mem_append_left _ z))⟩⟩
  exact hh pins _ σ1 H2 D ea C J4 F4 (hE σ1)
end
end L2
namespace L2
open PySem Spec PyProof.Rows
noncomputable def y8 (K : W.Frag) (C : Addr) : Bool :=
 match K.lookup C with
 | some ⟨cl, _, .cls cd, sl⟩ => cl == .type "type" && cd.mro == [.ref C, .type "object"] && (!cd.hasDel) && W.nsOkIn K cd.ns && (W.nsIn K cd.ns "__eq__" == some none) && (W.nsIn K cd.ns "__ne__" == some none) && sl.size == 6 && Hd.bu (sl.toList.getD 4 none)
 | _ => false
theorem DH {K : W.Frag} {h : Heap} {x C : Addr} {o : Obj} (X : K.In h) (q : y8 K C = true) (hx : h.get? x = some o) (hc : o.cls = .ref C) : h.CmpInst x C [.type "object"] := by
 unfold y8 at q
 split at q
 case h_2 => cases q
 case h_1 cl dd cd sl look =>
  (simp only [Bool.and_eq_true, beq_iff_eq, Bool.not_eq_true'] at q)
  obtain ⟨⟨⟨⟨⟨⟨⟨e0, em⟩, e3⟩, e5⟩, e6⟩, e7⟩, es⟩, eb⟩ := q
  obtain ⟨l⟩ := sl
  obtain ⟨k0, k1, k2, k3, k4, k5, rfl⟩ := Hd.n6 es
  obtain ⟨n, rfl⟩ := Hd.bu_of eb
  cases cd with
  | mk nm bs mro ns qn hd sn sub ab col del =>
   have N6 : mro = [Value.ref C, .type "object"] := em
   have NA : del = false := e3
   subst e0 N6 NA
   exact ⟨o, nm, qn, ns, bs, hd, sn, sub, ab, col, dd, k0, k1, k2, k3, k5, n, _, hx, hc, X _ _ look, .of_isNs (W.isNs_of_in X e5), W.nsMap_none_of_in X e5 e6, W.nsMap_none_of_in X e5 e7⟩
section
variable {prog : Program} {w : World} {A : Around} {E : Value -> Shared -> Prop} {h : Heap} {g : Array GenState} {d : Drawn} {t : Nat} {os : OsState} {C x : Addr}
theorem jt {b : Value} (X : h.CmpInst x C [.type "object"]) (hb : isSame (.ref x) b = pure false) {Q : Option Value -> Shared -> Prop} (hq : Q none ⟨h, g, d, t, os⟩) :
  wpAny (model prog w) A (tryCompare (.ref x) "__eq__" b) Q E ⟨h, g, d, t, os⟩ := by
 (obtain ⟨o, nm, q, N, bs, hdct, sn, sub, ab, col, dd, k0, k1, k2, k3, k5, newId, mN, hx, hc, hC, hn, he, _⟩ := id X)
 simp only [tryCompare]
 refine wpAny_bind (wpAny_callSpecialIfBound?_inst hx hc hC hn he F.cmp_object.mro F.cmp_object.eq (wpAny_call (codeAny_call_builtin F.cmp_object.eq.plain F.cmpEntry_eq
  (wpAny_check_slot_inst F.cmpKind_eq F.cmpSplit_eq (F.cmpArgs_eq _ _) F.cmp_object.hasObject hx hc hC ?_))))
 (unfold Builtin.«object.__eq__»)
 repeat (first | (with_reducible refine wpAny_bind (wpAny_of_eq hb ?_)) | wp_step)
 exact hq
theorem qh {i : Int} {tk : Tok} {dx : Addr} (X : h.CmpInst x C [.type "object"]) (hi : h.get? x = some (W.instObj C dx)) {Q : Option Value -> Shared -> Prop} (hq : Q none ⟨h, g, d, t, os⟩) :
  wpAny (model prog w) A (tryCompare (.int i tk) "__eq__" (.ref x)) Q E ⟨h, g, d, t, os⟩ := by
 (obtain ⟨o, nm, q, N, bs, hdct, sn, sub, ab, col, dd, k0, k1, k2, k3, k5, newId, mN, hx, hc, hC, hn, he, _⟩ := id X)
 have hI : (Value.ref C :: [Value.type "object"]).contains (.type "int") = false := by simp
 rw [hi] at hx
 cases hx
 refine wpAny_tryCompare_declines (typeIs_int _ i tk) F.slot_int_eq (wpAny_call (codeAny_call_builtin F.slot_int_eq.plain F.entry_int_eq (F.slot_int_eq.check _ _ _ _ _ _ _ _ (typeIs_int _ i tk) (F.args_int_eq_2 _ _) ?_)))
 show wpAny _ _ (Builtin.«int.__eq__» _) _ _ _
 repeat (first | (with_reducible refine wpAny_loadPart_at hx ?_; rw [hc]) | (with_reducible refine wpAny_isSubtype_exc hC ?_; rw [hI]) | wp_step)
 exact ⟨rfl, hq⟩
theorem oY {l : Addr} {aF : Array Value} (hl : IsTup h l aF) (X : h.CmpInst x C [.type "object"]) {Q : Option Value -> Shared -> Prop} (hq : Q none ⟨h, g, d, t, os⟩) :
  wpAny (model prog w) A (tryCompare (.ref l) "__eq__" (.ref x)) Q E ⟨h, g, d, t, os⟩ := by
 (obtain ⟨o, nm, q, N, bs, hdct, sn, sub, ab, col, dd, k0, k1, k2, k3, k5, newId, mN, hx, hc, hC, hn, he, _⟩ := id X)
 obtain ⟨ol, ho, BL, n, Dj⟩ := id hl
 have hI : (Value.ref C :: [Value.type "object"]).contains (.type "tuple") = false := by simp
 have hT : (⟨h, g, d, t, os⟩ : Shared).TypeIs (.ref l) "tuple" := ⟨ol, ho, BL⟩
 refine wpAny_tryCompare_declines hT F.slot_tuple_eq (wpAny_call (codeAny_call_builtin F.slot_tuple_eq.plain F.entry_tuple_eq (F.slot_tuple_eq.check _ _ _ _ _ _ _ _ hT (F.args_tuple_eq_2 _ _) ?_)))
 show wpAny _ _ (Builtin.«tuple.__eq__» _) _ _ _
 repeat (first | (with_reducible refine wpAny_loadPart_at hx ?_; rw [hc]) | (with_reducible refine wpAny_isSubtype_exc hC ?_; rw [hI]) | wp_step)
 exact ⟨rfl, hq⟩
theorem nV {Q : Option Value -> Shared -> Prop} (hq : Q none ⟨h, g, d, t, os⟩) : wpAny (model prog w) A (tryCompare .none "__eq__" (.ref x)) Q E ⟨h, g, d, t, os⟩ :=
 wpAny_tryCompare_declines (T := "NoneType") rfl F.slot_NoneType_eq (call_gives F.slot_NoneType_eq rfl F.entry_NoneType_eq (F.args_NoneType_eq_2 _ _) (SeqAt.NoneType___eq___none_ref_0 x) ⟨rfl, hq⟩)
theorem nN {Q : Value -> Shared -> Prop} {o : Obj} (hx : h.get? x = some o) (hc : o.cls = .ref C) (hq : Q (.ref C) ⟨h, g, d, t, os⟩) : wpAny (model prog w) A (typeOf (.ref x)) Q E ⟨h, g, d, t, os⟩ := by
 repeat (first | (with_reducible refine wpAny_loadPart_at hx ?_; rw [hc]) | wp_step)
 exact hq
theorem iH {b : Value} {Tb : String} (X : h.CmpInst x C [.type "object"]) (hT : (⟨h, g, d, t, os⟩ : Shared).TypeIs b Tb) (HN : isSubtype (.type Tb) (.ref C) = pure false) (hu : A.units < cLine)
  (h1 : ∀ Q' : Option Value -> Shared -> Prop, Q' none ⟨h, g, d, t, os⟩ -> wpAny (model prog w) A (tryCompare (.ref x) "__eq__" b) Q' E ⟨h, g, d, t, os⟩)
  (h2 : ∀ Q' : Option Value -> Shared -> Prop, Q' none ⟨h, g, d, t, os⟩ -> wpAny (model prog w) A (tryCompare b "__eq__" (.ref x)) Q' E ⟨h, g, d, t, os⟩)
  (h3 : ∀ Q' : Bool -> Shared -> Prop, Q' false ⟨h, g, d, t, os⟩ -> wpAny (model prog w) A (isSame (.ref x) b) Q' E ⟨h, g, d, t, os⟩)
  {Q : Value -> Shared -> Prop} (hq : Q (.bool false) ⟨h, g, d, t, os⟩) : wpAny (model prog w) A (compareOp .Eq (.ref x) b) Q E ⟨h, g, d, t, os⟩ := by
 (obtain ⟨o, nm, q, N, bs, hdct, sn, sub, ab, col, dd, k0, k1, k2, k3, k5, newId, mN, hx, hc, hC, hn, he, _⟩ := id X)
 show wpAny _ _ (richCompare .Eq (.ref x) b) _ _ _
 (simp only [richCompare, cmpInfo_Eq, oneThing_ref])
 refine wpAny_holding (wpAny_bind (wpAny_cRoomFor hu (wpAny_bind (nN hx hc (wpAny_bind (wpAny_typeOf hT ?_))))))
 have rm : (Value.ref C != Value.type Tb) = true := by simp
 simp only [rm, if_true]
 refine wpAny_bind (wpAny_of_eq HN ?_)
 (simp only [Bool.false_eq_true, if_false, Bool.not_false, if_true])
 refine wpAny_bind (m := tryCompare (.ref x) _ b) (h1 _ ?_)
 refine wpAny_bind (m := tryCompare b _ (.ref x)) (h2 _ ?_)
 exact wpAny_bind (wpAny_rule (wpAny_bind (h3 _ (wpAny_pure hq))))
theorem iG {b : Value} {Tb : String} (X : h.CmpInst x C [.type "object"]) (hT : (⟨h, g, d, t, os⟩ : Shared).TypeIs b Tb) (HN : ([Value.ref C, .type "object"] : List Value).contains (.type Tb) = false) (hu : A.units < cLine)
  (h1 : ∀ Q' : Option Value -> Shared -> Prop, Q' none ⟨h, g, d, t, os⟩ -> wpAny (model prog w) A (tryCompare (.ref x) "__eq__" b) Q' E ⟨h, g, d, t, os⟩)
  (h2 : ∀ Q' : Option Value -> Shared -> Prop, Q' none ⟨h, g, d, t, os⟩ -> wpAny (model prog w) A (tryCompare b "__eq__" (.ref x)) Q' E ⟨h, g, d, t, os⟩)
  (h3 : ∀ Q' : Bool -> Shared -> Prop, Q' false ⟨h, g, d, t, os⟩ -> wpAny (model prog w) A (isSame b (.ref x)) Q' E ⟨h, g, d, t, os⟩)
  {Q : Value -> Shared -> Prop} (hq : Q (.bool false) ⟨h, g, d, t, os⟩) : wpAny (model prog w) A (compareOp .Eq b (.ref x)) Q E ⟨h, g, d, t, os⟩ := by
 (obtain ⟨o, nm, q, N, bs, hdct, sn, sub, ab, col, dd, k0, k1, k2, k3, k5, newId, mN, hx, hc, hC, hn, he, _⟩ := id X)
 show wpAny _ _ (richCompare .Eq b (.ref x)) _ _ _
 simp only [richCompare, cmpInfo_Eq, hT.oneThing_none]
 refine wpAny_holding (wpAny_bind (wpAny_cRoomFor hu (wpAny_bind (wpAny_typeOf hT (wpAny_bind (nN hx hc ?_))))))
 have rm : (Value.type Tb != Value.ref C) = true := by simp
 simp only [rm, if_true]
 refine wpAny_bind (wpAny_isSubtype_exc hC ?_)
 rw [HN]
 (simp only [Bool.false_eq_true, if_false, Bool.not_false, if_true])
 refine wpAny_bind (m := tryCompare b _ (.ref x)) (h2 _ ?_)
 refine wpAny_bind (m := tryCompare (.ref x) _ b) (h1 _ ?_)
 exact wpAny_bind (wpAny_rule (wpAny_bind (h3 _ (wpAny_pure hq))))
end
theorem vm (C : Addr) : isSubtype (.type "int") (.ref C) = pure false := by rw [isSubtype_type]; rfl
theorem tu (C : Addr) : isSubtype (.type "NoneType") (.ref C) = pure false := by rw [isSubtype_type]; rfl
theorem vk (C : Addr) : isSubtype (.type "tuple") (.ref C) = pure false := by rw [isSubtype_type]; rfl
inductive LK where
 | nil
 | int (z : Int)
 | name (b : List Int)
 | obj (a : Addr)
 deriving DecidableEq
inductive jh (K : W.Frag) (H : Hp) : V -> LK -> Prop where
 | nil : jh K H .bf .nil
 | int (z : Int) : jh K H (.int z) (.int z)
 | name {a : Addr} {b : List Int} (h : ft K H a (b.map V.int)) : jh K H (.ref a) (.name b)
 | obj {a C dx : Addr} {fs : List (Str × V)} (h : H a = some (.ins C dx fs)) (e : y8 K C = true) : jh K H (.ref a) (.obj a)
theorem zU {K : W.Frag} {H : Hp} : ∀ b : List Int, qE K H (b.map V.int) (b.map PyData.int)
 | [] => .nil
 | z :: b => .cons (.int z) (zU b)
theorem wB : ∀ a b : List Int, PyData.eqvAll (a.map PyData.int) (b.map PyData.int) = decide (a = b)
 | [], [] => by (simp [PyData.eqvAll])
 | [], _ :: _ => by (simp [PyData.eqvAll])
 | _ :: _, [] => by (simp [PyData.eqvAll])
 | x :: a, y :: b => by
  have ih := wB a b
  simp only [List.map_cons, PyData.eqvAll, PyData.eqv, ih]
  by_cases e : x = y
  ·subst e
   simp
  ·simp [e]
theorem lay_ints : ∀ b : List Int, PyData.canLayAll0 (b.map PyData.int) = true
 | [] => rfl
 | z :: b => by
  show (PyData.canLay0 (.int z) && PyData.canLayAll0 (b.map PyData.int)) = true
  rw [lay_ints b]
  rfl
theorem qr : ∀ b : List Int, PyData.depthAll (b.map PyData.int) = 0
 | [] => rfl
 | z :: b => by
  show max (PyData.depth (.int z)) (PyData.depthAll (b.map PyData.int)) = 0
  rw [qr b]
  rfl
theorem shaped_ints (b : List Int) : SeqAt.shaped (.tuple (b.map PyData.int)) = true := by
 unfold SeqAt.shaped
 have h1 : PyData.canLay0 (.tuple (b.map PyData.int)) = true := lay_ints b
 have h2 : PyData.depth (.tuple (b.map PyData.int)) = 1 := by
  show PyData.depthAll (b.map PyData.int) + 1 = 1
  rw [qr]
 rw [h1, h2]
 rfl
noncomputable def LK.dat : LK -> Option PyData
 | .nil => some .none
 | .int z => some (.int z)
 | .name b => some (.tuple (b.map PyData.int))
 | .obj _ => none
theorem jh.dp {K : W.Frag} {H : Hp} {x : V} {j : LK} {d : PyData} (h : jh K H x j) (e : j.dat = some d) : Dp K H x d /\ SeqAt.shaped d = true := by
 cases h with
 | nil => cases e; exact ⟨.bf, rfl⟩
 | int z => cases e; exact ⟨.int z, rfl⟩
 | name h => cases e; exact ⟨.tup h (zU _), shaped_ints _⟩
 | obj h q => cases e
theorem Fx {j k : LK} {d e : PyData} (hj : j.dat = some d) (hk : k.dat = some e) : PyData.eqv d e = decide (j = k) := by
 cases j <;> cases k <;> first | (cases hj; done) | (cases hk; done) | skip
 all_goals (cases hj; cases hk)
 all_goals first | (simp [PyData.eqv]; done) | skip
 all_goals first | (simp only [PyData.eqv, wB]; simp; done) | (simp [PyData.eqv, Bool.beq_eq_decide_eq]; done)
section
variable {X : Cx} {pins : List (Addr × Obj)} {σ : St} {H : Hp} {s : Shared}
theorem Inv.cmp {a C dx : Addr} {fs : List (Str × V)} (I : Inv X pins σ H s) (h : H a = some (.ins C dx fs)) (e : y8 X.K C = true) : s.heap.CmpInst a C [.type "object"] /\ s.heap.get? a = some (W.instObj C dx) := by
 obtain ⟨_, _, _, q, _⟩ := (show bC X.prog X.w H s.heap a (.ins C dx fs) from I.bD a _ h)
 exact ⟨DH I.gu e q rfl, q⟩
theorem iJ (hu : X.A.units + 64 < cLine) : ox X (compareOp .Eq) (fun x y H Q => ∃ j k, jh X.K H x j /\ jh X.K H y k /\ Q (.bl (decide (j = k))) H) := by
 intro pins s σ H x y v u Q I rx ry h
 obtain ⟨j, k, hj, hk, q⟩ := h
 have Ef : X.A.units < cLine := by omega
 have plain : ∀ d e, j.dat = some d -> k.dat = some e -> wpAny (model X.prog X.w) X.A (compareOp .Eq v u) (EP X pins σ Q) X.xe s := fun d e ed ee => by
  obtain ⟨d1, s1⟩ := hj.dp ed
  obtain ⟨d2, s2⟩ := hk.dp ee
  exact GY hu pins s σ H x y v u Q I rx ry ⟨d, e, d1, d2, s1, s2, by rw [Fx ed ee]; exact q⟩
 have no : decide (j = k) = false -> EP X pins σ Q (.bool false) s := fun z => by rw [z] at q; exact ⟨.bl false, H, I, rfl, q⟩
 cases hj with
 | nil =>
  cases hk with
  | nil => exact plain _ _ rfl rfl
  | int z => exact plain _ _ rfl rfl
  | name h => exact plain _ _ rfl rfl
  | @obj a C dx fs h e =>
   obtain ⟨c, o⟩ := I.cmp h e
   cases rx
   cases ry
   obtain ⟨hp, g, d, t, os⟩ := s
   exact iG (b := .none) c (Tb := "NoneType") rfl (by simp) Ef (fun _ z => jt c rfl z) (fun _ z => nV z) (fun _ z => wpAny_of_eq (rfl : isSame .none (.ref a) = pure false) z) (no (by simp))
 | int i =>
  cases hk with
  | nil => exact plain _ _ rfl rfl
  | int z => exact plain _ _ rfl rfl
  | name h => exact plain _ _ rfl rfl
  | @obj a C dx fs h e =>
   obtain ⟨c, o⟩ := I.cmp h e
   obtain ⟨tk, rfl⟩ := rx
   cases ry
   obtain ⟨hp, g, d, t, os⟩ := s
   exact iG c (typeIs_int _ i tk) (by simp) Ef (fun _ z => jt c rfl z) (fun _ z => qh c o z) (fun _ z => wpAny_of_eq (rfl : isSame (.int i tk) (.ref a) = pure false) z) (no (by simp))
 | @name l b hl =>
  cases hk with
  | nil => exact plain _ _ rfl rfl
  | int z => exact plain _ _ rfl rfl
  | name h => exact plain _ _ rfl rfl
  | @obj a C dx fs h e =>
   obtain ⟨c, o⟩ := I.cmp h e
   obtain ⟨aF, _, ht, _⟩ := I.tuple hl
   cases rx
   cases ry
   obtain ⟨hp, g, d, t, os⟩ := s
   obtain ⟨ol, ho, BL, n, Dj⟩ := id ht
   have ne : l ≠ a := fun z => by
    subst z
    have e2 := Option.some.inj (o.symm.trans ho)
    rw [<- e2] at BL
    cases BL
   exact iG (b := .ref l) c (Tb := "tuple") ⟨ol, ho, BL⟩ (by simp) Ef (fun _ z => tryCompare_eq_other F.cmp_object c ho ne.symm z) (fun _ z => oY ht c z) (fun _ z => SeqAt.wpAny_isSame_ref_other' ne ho o (by intro w; cases w) z) (no (by simp))
 | @obj a C dx fs h e =>
  obtain ⟨c, o⟩ := I.cmp h e
  cases rx
  cases hk with
  | nil =>
   cases ry
   obtain ⟨hp, g, d, t, os⟩ := s
   exact iH (b := .none) c (Tb := "NoneType") rfl (tu C) Ef (fun _ z => jt c rfl z) (fun _ z => nV z) (fun _ z => wpAny_of_eq (rfl : isSame (.ref a) .none = pure false) z) (no (by simp))
  | int i =>
   obtain ⟨tk, rfl⟩ := ry
   obtain ⟨hp, g, d, t, os⟩ := s
   exact iH c (typeIs_int _ i tk) (vm C) Ef (fun _ z => jt c rfl z) (fun _ z => qh c o z) (fun _ z => wpAny_of_eq (rfl : isSame (.ref a) (.int i tk) = pure false) z) (no (by simp))
  | @name l b hl =>
   obtain ⟨aF, _, ht, _⟩ := I.tuple hl
   cases ry
   obtain ⟨hp, g, d, t, os⟩ := s
   obtain ⟨ol, ho, BL, n, Dj⟩ := id ht
   have ne : l ≠ a := fun z => by
    subst z
    have e2 := Option.some.inj (o.symm.trans ho)
    rw [<- e2] at BL
    cases BL
   exact iH (b := .ref l) c (Tb := "tuple") ⟨ol, ho, BL⟩ (vk C) Ef (fun _ z => tryCompare_eq_other F.cmp_object c ho ne.symm z) (fun _ z => oY ht c z) (fun _ z => wpAny_isSame_ref_other ne.symm o ho (by intro w; cases w) z) (no (by simp))
  | @obj a' C' sM Eh h' e' =>
   obtain ⟨c', o'⟩ := I.cmp h' e'
   cases ry
   by_cases ea : a = a'
   ·subst ea
    have q' : EP X pins σ Q (.bool true) s := ⟨.bl true, H, I, rfl, by simpa using q⟩
    obtain ⟨hp, g, d, t, os⟩ := s
    exact compareOp_eq_same F.cmp_object c Ef q'
   ·have q' := no (by simp [ea])
    obtain ⟨hp, g, d, t, os⟩ := s
    exact compareOp_eq_other F.cmp_object F.cmp_object c c' ea Ef q'
end
end L2
namespace L2
open PySem Spec PyProof.Rows
inductive Iy (K : W.Frag) (H : Hp) : V -> Value -> Prop where
 | of {x : V} {t : Value} (h : nH K H x t) : Iy K H x t
 | tup {a : Addr} {xs : List V} (h : ft K H a xs) : Iy K H (.ref a) (.type "tuple")
section
variable {X : Cx}
theorem aY : lR X (.builtin "isinstance") (fun xs H Q => ∃ x c t b, xs = [x, c] /\ Iy X.K H x t /\ (∀ u, RelV c u -> W.kitOne X.K t u = some b) /\ Q (.bl b) H) := by
 intro pins s σ H xs us Q I r h
 obtain ⟨x, c, t, b, rfl, ty, hk, q⟩ := h
 obtain ⟨u, v, rfl, rx, rc⟩ := vals2 r
 have e := hk v rc
 cases ty with
 | of ty => exact Ba I rx ty e fun tk => ⟨.bl b, H, I.tok _, rfl, q⟩
 | @tup a ys hs =>
  cases rx
  obtain ⟨aF, _, ⟨o, h1, h2, _⟩, _⟩ := I.tuple hs
  exact W.kia_one W.kitx_tuple I.gu ⟨o, h1, h2⟩ e (fun z => nomatch z) fun tk => ⟨.bl b, H, I.tok _, rfl, q⟩
end
abbrev Tab := List (List Key × Addr × V)
abbrev KX : Tab -> List (List Key × Addr × Value) -> Prop := Paired fun p q => p.1 = q.1 /\ p.2.1 = q.2.1 /\ RelV p.2.2 q.2.2
def TabObj (P : Program) (w : World) (o : Obj) (kvs : Tab) : Prop := ∃ (xs : List (List Key × Addr × Value)) (es : Array DictEntry) (ep : Nat), KX kvs xs /\ o.ExactDict /\ o.data = .dict es ep /\ es.toList = xs.map (entryOfKey (tupleKind (bN P w))) /\ (xs.map (·.1)).Nodup
def TD (P : Program) (w : World) (a : Addr) (kvs : Tab) : HO := .ext fun h => kvs.length <= sizeLine /\ (a == sysModules) = false /\ ∃ o, h.get? a = some o /\ TabObj P w o kvs
def TK (P : Program) (w : World) (K : W.Frag) (a : Addr) (kvs : Tab) : Prop := kvs.length <= sizeLine /\ (a == sysModules) = false /\ ∃ o, K.lookup a = some o /\ TabObj P w o kvs
def Gv (P : Program) (w : World) (K : W.Frag) (H : Hp) (a : Addr) (kvs : Tab) : Prop := H a = some (TD P w a kvs) \/ TK P w K a kvs
def fX (K : W.Frag) (H : Hp) (kvs : Tab) : Prop := ∀ p ∈ kvs, ft K H p.2.1 (p.1.map kV)
def cq (kvs : Tab) (k : List Key) : Option V := (kvs.find? fun p => decide (p.1 = k)).map (·.2.2)
noncomputable def bK (kvs : Tab) (k : List Key) (b : Addr) (v : V) : Tab :=
 if (cq kvs k).isSome = true then kvs.map (fun p => if p.1 = k then (p.1, p.2.1, v) else p) else kvs ++ [(k, b, v)]
theorem BV (k : List Key) : cq [] k = none := rfl
theorem dq (p : List Key × Addr × V) (r : Tab) (k : List Key) : cq (p :: r) k = if p.1 = k then some p.2.2 else cq r k := by
 unfold cq
 by_cases e : p.1 = k
 ·rw [if_pos e, List.find?_cons_of_pos (by simp [e])]
  rfl
 ·rw [if_neg e, List.find?_cons_of_neg (by simp [e])]
theorem uX (k j : List Key) (v : V) : ∀ kvs : Tab, cq (kvs.map fun p => if p.1 = k then (p.1, p.2.1, v) else p) j = (cq kvs j).map fun x => if j = k then v else x
 | [] => rfl
 | p :: r => by
  have ih := uX k j v r
  rw [List.map_cons, dq, dq, ih]
  by_cases h : p.1 = k
  ·simp only [if_pos h]
   by_cases e : p.1 = j
   ·rw [if_pos e, if_pos e, Option.map_some, if_pos (e.symm.trans h)]
   ·rw [if_neg e, if_neg e]
  ·simp only [if_neg h]
   by_cases e : p.1 = j
   ·rw [if_pos e, if_pos e, Option.map_some, if_neg (fun z => h (e.trans z))]
   ·rw [if_neg e, if_neg e]
theorem rS (k j : List Key) (b : Addr) (v : V) : ∀ kvs : Tab, cq kvs k = none -> cq (kvs ++ [(k, b, v)]) j = if j = k then some v else cq kvs j
 | [], _ => by
  rw [List.nil_append, dq]
  by_cases e : j = k
  ·rw [if_pos e, if_pos e.symm]
  ·rw [if_neg e, if_neg (fun z => e z.symm)]
 | p :: r, hn => by
  rw [dq] at hn
  by_cases h : p.1 = k
  ·rw [if_pos h] at hn; cases hn
  ·rw [if_neg h] at hn
   rw [List.cons_append, dq, dq, rS k j b v r hn]
   by_cases e : p.1 = j
   ·rw [if_pos e, if_pos e, if_neg (fun z => h (e.trans z))]
   ·rw [if_neg e, if_neg e]
theorem uW (kvs : Tab) (k j : List Key) (b : Addr) (v : V) : cq (bK kvs k b v) j = if j = k then some v else cq kvs j := by
 unfold bK
 cases q : cq kvs k with
 | some x =>
  rw [if_pos (show (some x).isSome = true from rfl), uX]
  by_cases e : j = k
  ·rw [if_pos e, e, q, Option.map_some, if_pos rfl]
  ·rw [if_neg e]
   cases cq kvs j with
   | none => rfl
   | some y => rw [Option.map_some, if_neg e]
 | none => rw [if_neg (by simp)]; exact rS k j b v kvs q
theorem fE (kvs : Tab) (k : List Key) (b : Addr) (v : V) : (bK kvs k b v).length <= kvs.length + 1 := by
 unfold bK
 split
 ·rw [List.length_map]; omega
 ·rw [List.length_append, List.length_cons, List.length_nil]; omega
theorem KX.val {kvs : Tab} {xs : List (List Key × Addr × Value)} (r : KX kvs xs) (k : List Key) : nI (cq kvs k) ((atKey xs k).map (·.2)) := by
 induction r with
 | nil => exact True.intro
 | @cons p q ps qs h t ih =>
  obtain ⟨h1, _, h2⟩ := h
  rw [dq]
  by_cases e : p.1 = k
  ·have e' : q.1 = k := h1.symm.trans e
   have b : atKey (q :: qs) k = some q.2 := by simp [atKey, List.find?_cons, e']
   rw [if_pos e, b]; exact h2
  ·have e' : ¬ q.1 = k := fun z => e (h1.trans z)
   have b : atKey (q :: qs) k = atKey qs k := by simp [atKey, List.find?_cons, e']
   rw [if_neg e, b]; exact ih
theorem KX.put {kvs : Tab} {xs : List (List Key × Addr × Value)} (r : KX kvs xs) (k : List Key) (b : Addr) {y : V} {u : Value} (ry : RelV y u) : KX (bK kvs k b y) (storedH xs k b u) := by
 have e : (cq kvs k).isSome = (atKey xs k).isSome := by rw [(r.val k).mZ, Option.isSome_map]
 unfold bK storedH
 rw [e]
 by_cases q : (atKey xs k).isSome = true
 ·rw [if_pos q, if_pos q]
  clear q e
  induction r with
  | nil => exact .nil
  | @cons p q ps qs h t ih =>
   rw [List.map_cons, List.map_cons]
   refine .cons ?_ ih
   obtain ⟨h1, h2, h3⟩ := h
   unfold putAt
   by_cases z : p.1 = k
   ·rw [if_pos z, if_pos (h1.symm.trans z)]; exact ⟨h1, h2, ry⟩
   ·rw [if_neg z, if_neg (fun w => z (h1.trans w))]; exact ⟨h1, h2, h3⟩
 ·rw [if_neg q, if_neg q]; exact Paired.snoc r ⟨rfl, rfl, ry⟩
section
variable {X : Cx} {pins : List (Addr × Obj)} {σ : St} {H : Hp} {s : Shared} {a b : Addr} {kvs : Tab} {k : List Key} {A : Around} {E : Value -> Shared -> Prop}
theorem Inv.AV (I : Inv X pins σ H s) (h : ft X.K H b (k.map kV)) : (tupleKind (bN X.prog X.w)).is s.heap k b := by
 obtain ⟨aF, r, ⟨o, h1, h2, n, h3⟩, _⟩ := I.tuple h
 exact ⟨o, aF.toArray, n, h1, h2, h3, by simpa using sE r⟩
theorem KX.mem {kvs : Tab} {xs : List (List Key × Addr × Value)} (r : KX kvs xs) : ∀ x ∈ xs, ∃ p ∈ kvs, p.1 = x.1 /\ p.2.1 = x.2.1 := by
 induction r with
 | nil => intro x hx; exact nomatch hx
 | @cons p q ps qs h t ih =>
  intro x hx
  rcases List.mem_cons.mp hx with e | hx
  ·subst e; exact ⟨p, zA2, h.1, h.2.1⟩
  ·obtain ⟨p', Q5, e⟩ := ih x hx
   exact ⟨p', zA1 _ Q5, e⟩
theorem Inv.BZ (I : Inv X pins σ H s) (h : Gv X.prog X.w X.K H a kvs) (hk : fX X.K H kvs) : kvs.length <= sizeLine /\ (a == sysModules) = false /\ ∃ xs, KX kvs xs /\ s.heap.DictOfH (tupleKind (bN X.prog X.w)) a xs := by
 have core : ∀ o, s.heap.get? a = some o -> TabObj X.prog X.w o kvs -> ∃ xs, KX kvs xs /\ s.heap.DictOfH (tupleKind (bN X.prog X.w)) a xs := fun o ho ⟨xs, es, ep, r, h1, h2, h3, h4⟩ =>
  ⟨xs, r, o, es, ep, ho, h1, h2, h3, fun x hx => by
   obtain ⟨p, hp, e1, e2⟩ := r.mem x hx
   rw [<- e1, <- e2]
   exact I.AV (hk p hp), h4⟩
 rcases h with h | ⟨z, y, o, lk, t⟩
 ·obtain ⟨⟨z, y, o, ho, t⟩, _, _⟩ := (show bC X.prog X.w H s.heap a (TD X.prog X.w a kvs) from I.bD a _ h)
  exact ⟨z, y, core o ho t⟩
 ·exact ⟨z, y, core o (I.gu a o lk) t⟩
theorem Jp {Q : Value -> Shared -> Prop} {v : V} (hu : A.units + 1 < cLine) (I : Inv X pins σ H s) (h : Gv X.prog X.w X.K H a kvs) (hk : fX X.K H kvs) (hb : ft X.K H b (k.map kV)) (l : cq kvs k = some v)
  (q : ∀ w' s', Inv X pins σ H s' -> RelV v w' -> Q w' s') : wpAny (model X.prog X.w) A (getItem (.ref a) (.ref b)) Q E s := by
 obtain ⟨z, y, xs, rel, dd⟩ := I.BZ h hk
 obtain ⟨w', hw, E4⟩ := nI.some_of (v := v) (o := (atKey xs k).map (·.2)) (by rw [<- l]; exact rel.val k)
 obtain ⟨p, hp, Q4⟩ := Option.map_eq_some_iff.mp hw
 refine wpAny_getItem_heap (tupleKind_room_in1 hu) (I.AV hb) dd hp ?_
 rw [Q4]
 exact q w' _ (I.tok _) E4
theorem LO {Q : Value -> Shared -> Prop} (hu : A.units + 1 < cLine) (I : Inv X pins σ H s) (h : Gv X.prog X.w X.K H a kvs) (hk : fX X.K H kvs) (hb : ft X.K H b (k.map kV))
  (q : ∀ s', Inv X pins σ H s' -> Q (.bool (cq kvs k).isSome) s') : wpAny (model X.prog X.w) A (compareOp .In (.ref b) (.ref a)) Q E s := by
 obtain ⟨z, y, xs, rel, dd⟩ := I.BZ h hk
 refine wpAny_in_heap (tupleKind_room_in1 hu) (I.AV hb) y dd ?_
 have e := (rel.val k).mZ
 rw [Option.isSome_map] at e
 rw [<- e]
 exact q _ (I.tok _)
theorem Er {Q : Value -> Shared -> Prop} (hu : A.units + 1 < cLine) (I : Inv X pins σ H s) (h : Gv X.prog X.w X.K H a kvs) (hk : fX X.K H kvs) (hb : ft X.K H b (k.map kV))
  (q : ∀ s', Inv X pins σ H s' -> Q (.bool (!(cq kvs k).isSome)) s') : wpAny (model X.prog X.w) A (compareOp .NotIn (.ref b) (.ref a)) Q E s := by
 obtain ⟨z, y, xs, rel, dd⟩ := I.BZ h hk
 refine wpAny_notIn_heap (tupleKind_room_in1 hu) (I.AV hb) y dd ?_
 have e := (rel.val k).mZ
 rw [Option.isSome_map] at e
 rw [<- e]
 exact q _ (I.tok _)
theorem BY {P : Program} {w : World} {H' : Hp} {h' : Heap} {o : Obj} (z : kvs.length <= sizeLine) (y : (a == sysModules) = false) (ho : h'.get? a = some o) (t : TabObj P w o kvs) : bC P w H' h' a (TD P w a kvs) :=
 ⟨⟨z, y, o, ho, t⟩, ⟨o, ho⟩, fun h1 h2 p st => let ⟨z, y, o, ho, t⟩ := p; ⟨z, y, o, st o ho, t⟩⟩
theorem Jo {Q : Unit -> Shared -> Prop} {v : V} {r : Value} (hu : A.units + 1 < cLine) (I : Inv X pins σ H s) (h : H a = some (TD X.prog X.w a kvs)) (hk : fX X.K H kvs) (hb : ft X.K H b (k.map kV)) (hl : kvs.length < sizeLine) (rv : RelV v r)
  (q : ∀ s', Inv X pins σ (upd H a (TD X.prog X.w a (bK kvs k b v))) s' -> Q () s') : wpAny (model X.prog X.w) A (setItem (.ref a) (.ref b) r) Q E s := by
 obtain ⟨z, y, xs, rel, dd⟩ := I.BZ (.inl h) hk
 have hz : xs.length <= sizeLine := by rw [<- Paired.length rel]; exact z
 refine wpAny_setItem_heap (hsz := hz) (tupleKind_room_in1 hu) (I.AV hb) dd fun h' Je hs => q _ ?_
 obtain ⟨o, es, ep, hq, h2, h3, h4, _, h5⟩ := Je
 refine zY I (by rw [h]; exact True.intro) hs ⟨o, hq⟩ (BY (by have := fE kvs k b v; omega) y hq ⟨_, es, ep, rel.put k b rv, h2, h3, h4, h5⟩)
theorem Inv.Ep (I : Inv X pins σ H s) (h : Gv X.prog X.w X.K H a kvs) : s.TypeIs (.ref a) "dict" := by
 have core : ∀ o, s.heap.get? a = some o -> TabObj X.prog X.w o kvs -> s.TypeIs (.ref a) "dict" := fun o ho ⟨xs, es, ep, r, h1, h2, h3, h4⟩ => ⟨o, ho, h1.1⟩
 rcases h with h | ⟨z, y, o, lk, t⟩
 ·obtain ⟨⟨z, y, o, ho, t⟩, _, _⟩ := (show bC X.prog X.w H s.heap a (TD X.prog X.w a kvs) from I.bD a _ h)
  exact core o ho t
 ·exact core o (I.gu a o lk) t
end
def Jt (P : Program) (w : World) (K : W.Frag) (td ty : TE) : TE := fun σ H Q => td σ H fun x H1 => ty σ H1 fun y H2 => ∃ a b kvs k v, x = .ref a /\ y = .ref b /\ Gv P w K H2 a kvs /\ fX K H2 kvs /\ ft K H2 b (k.map kV) /\ cq kvs k = some v /\ Q v H2
def LS (P : Program) (w : World) (K : W.Frag) (ty td : TE) : TE := fun σ H Q => ty σ H fun y H1 => td σ H1 fun x H2 => ∃ a b kvs k, x = .ref a /\ y = .ref b /\ Gv P w K H2 a kvs /\ fX K H2 kvs /\ ft K H2 b (k.map kV) /\ Q (.bl (cq kvs k).isSome) H2
def Es (P : Program) (w : World) (K : W.Frag) (ty td : TE) : TE := fun σ H Q => ty σ H fun y H1 => td σ H1 fun x H2 => ∃ a b kvs k, x = .ref a /\ y = .ref b /\ Gv P w K H2 a kvs /\ fX K H2 kvs /\ ft K H2 b (k.map kV) /\ Q (.bl (!(cq kvs k).isSome)) H2
def JF (P : Program) (w : World) (K : W.Frag) (td ty tv : TE) : TS := fun D σ H => tv σ H fun v H1 => td σ H1 fun x H2 => ty σ H2 fun y H3 => ∃ a b kvs k, x = .ref a /\ y = .ref b /\ H3 a = some (TD P w a kvs) /\ fX K H3 kvs /\ ft K H3 b (k.map kV) /\ kvs.length < sizeLine /\
 D.nx σ (upd H3 a (TD P w a (bK kvs k b v)))
def Js (P : Program) (w : World) : TE := fun _ H Q => ∀ p, H p = none -> Q (.ref p) (upd H p (TD P w p []))
section
variable {X : Cx} {o i e value : Expr} {pos pos' : Pos} {td ty tv : TE}
theorem ud (hu : X.A.units + 1 < cLine) (ho : PE X o td) (hi : PE X i ty) (hs : IC i) : PE X (.Subscript o i pos) (Jt X.prog X.w X.K td ty) := by
 intro pins s σ H Q I h
 refine zd PySem.F.slot_dict_getitem.lookup hs (bI (ho pins s σ H _ I h) fun u s1 ⟨x, H1, I1, rx, q1⟩ => bI (hi pins s1 σ H1 _ I1 q1) fun iv s2 qq => ?_)
 obtain ⟨y, H2, I2, ry, a, b, kvs, k, v, ex, ey, g1, g2, g3, g4, q2⟩ := qq
 subst ex ey
 obtain rfl : u = Value.ref a := rx
 obtain rfl : iv = Value.ref b := ry
 exact ⟨I2.Ep g1, Jp hu I2 g1 g2 g3 g4 fun w' s3 I3 E4 => ⟨v, H2, I3, E4, q2⟩⟩
theorem GW (hu : X.A.units + 1 < cLine) (hi : PE X i ty) (ho : PE X o td) : PC X .In i o (LS X.prog X.w X.K ty td) := by
 intro pins s σ H Q I h
 refine bI (hi pins s σ H _ I h) fun iv s1 ⟨y, H1, I1, ry, q1⟩ => bI (ho pins s1 σ H1 _ I1 q1) fun u s2 qq => ?_
 obtain ⟨x, H2, I2, rx, a, b, kvs, k, ex, ey, g1, g2, g3, q2⟩ := qq
 subst ex ey
 obtain rfl : u = Value.ref a := rx
 obtain rfl : iv = Value.ref b := ry
 exact LO hu I2 g1 g2 g3 fun s3 I3 => ⟨.bl (cq kvs k).isSome, H2, I3, rfl, q2⟩
theorem AB (hu : X.A.units + 1 < cLine) (hi : PE X i ty) (ho : PE X o td) : PC X .NotIn i o (Es X.prog X.w X.K ty td) := by
 intro pins s σ H Q I h
 refine bI (hi pins s σ H _ I h) fun iv s1 ⟨y, H1, I1, ry, q1⟩ => bI (ho pins s1 σ H1 _ I1 q1) fun u s2 qq => ?_
 obtain ⟨x, H2, I2, rx, a, b, kvs, k, ex, ey, g1, g2, g3, q2⟩ := qq
 subst ex ey
 obtain rfl : u = Value.ref a := rx
 obtain rfl : iv = Value.ref b := ry
 exact Er hu I2 g1 g2 g3 fun s3 I3 => ⟨.bl (!(cq kvs k).isSome), H2, I3, rfl, q2⟩
theorem tW (hu : X.A.units + 1 < cLine) (ho : PE X o td) (hi : PE X i ty) (hv : PE X value tv) (hs : swapsWith value (some (.Subscript o i pos')) pos.line X.env = pure false) :
  PS X (.Assign [.Subscript o i pos'] value pos) (JF X.prog X.w X.K td ty tv) := by
 intro pins s σ H D I h
 refine wpAny_Assign_Subscript (bI (hv pins s σ H _ I h) fun r s1 ⟨v, H1, I1, rv, q1⟩ => bI (ho pins s1 σ H1 _ I1 q1) fun u s2 ⟨x, H2, I2, rx, q2⟩ => bI (hi pins s2 σ H2 _ I2 q2) fun iv s3 qq => ?_) hs
 obtain ⟨y, H3, I3, ry, a, b, kvs, k, ex, ey, g1, g2, g3, g4, q3⟩ := qq
 subst ex ey
 obtain rfl : u = Value.ref a := rx
 obtain rfl : iv = Value.ref b := ry
 exact Jo hu I3 g1 g2 g3 g4 rv fun s4 I4 => ⟨σ, _, I4, q3⟩
theorem vi {P : Program} {w : World} {H : Hp} (h : Heap) (hb : sysModules < h.objs.size) : bC P w H (h.push { cls := .type "dict", data := .dict #[] }) h.objs.size (TD P w h.objs.size []) :=
 BY (Nat.zero_le _) (beq_eq_false_iff_ne.mpr (Ne.symm (Nat.ne_of_lt hb))) (Heap.get?_push_size _ rfl) ⟨[], #[], 0, .nil, ⟨rfl, rfl, rfl⟩, rfl, rfl, List.nodup_nil⟩
theorem EE : PE X (.Dict [] [] pos) (Js X.prog X.w) := fun pins s σ H Q I h =>
 wpAny_Dict_empty ⟨.ref s.heap.objs.size, _, I.laid (a := s.heap.objs.size) (o := TD X.prog X.w s.heap.objs.size []) (t' := s.toks) (fun _ _ q => Heap.get?_push_of_some _ q) (zA0 _) (vi s.heap I.big), rfl, h _ (I.bD.fresh (zA0 _))⟩
end
def Cd (CX : yW) (P : Program) (w : World) (K : W.Frag) (mg : Str -> Option Value) (base : Heap) (k : Nat) (E : XK) (tf : TE) (t : TA) : TE := fun σ H Q => tf σ H fun x H1 => ∃ f fd ps sp, x = .ref f /\ W.keepIn K (.ref f) = true /\ fu P w K mg base CX k f fd ps sp /\ Binds K fd ps [] /\
 t σ H1 fun vs H2 => sp vs H2 Q E
section
variable {X : Cx} {CX : yW} {k : Nat} {E : XK} {x : Str} {p pos : Pos} {e : Expr} {es : List Expr} {tf : TE} {t : TA}
theorem pN (hr : dc k X.A) (hf : PE X (.Name x p) tf) (hx : Passes CX X E) (ha : PA X (e :: es) t)
  (he : starEach (e :: es) X.env = (false, eval e X.env) :: starEach es X.env := by rfl) (wb : (backTo pos (starEach es X.env)).any (·.1) = false := by rfl) :
  PE X (.Call (.Name x p) (e :: es) [] pos) (Cd CX X.prog X.w X.K X.mg X.base k E tf t) := by
 intro pins s σ H Q I h
 refine wpAny_Call_Name_kw (bI (hf pins s σ H _ I h) fun u s1 qq => ?_)
 obtain ⟨v, H1, I1, rv, f, fd, ps, sp, ev, kp, F, b, q⟩ := qq
 subst ev
 obtain rfl : u = Value.ref f := rv
 refine W.callWith_K (h₀ := X.base) I.ok.mod.IU kp (bI (ha pos pins s1 σ H1 _ I1 q) fun us s2 ⟨vs, H2, I2, r, q2⟩ => ⟨I2.gu, ?_⟩) he wb
 exact xB (dvs := []) (ds := []) F hr b .nil hx I2 r (by rw [List.append_nil]; exact q2)
end
def Itm (kvs : Tab) : It := ⟨fun i _ => i < kvs.length, fun i H x H' => H' = H /\ ∃ p, kvs[i]? = some p /\ x = .ref p.2.1, fun i _ => kvs.length <= i⟩
section
variable {P : Program} {w : World} {K : W.Frag} {tg : Expr} {d : Addr} {o : Obj} {es : Array DictEntry} {ep : Nat}
theorem xk {kvs : Tab} {xs : List (List Key × Addr × Value)} (it : Addr) (lk : K.lookup d = some o) (Dj : o.data = .dict es ep) (hx : KX kvs xs) (he : es.toList = xs.map (entryOfKey (tupleKind (bN P w)))) :
  Turn P w K tg (Itm kvs) [it] it (fun i h => h.IsKeyIter it d i kvs.length ep) where
 mem := by simp
 obj := fun i h st b hb => by
  have e : b = it := by simpa using hb
  subst e
  obtain ⟨oi, e, c, dd⟩ := st
  exact ⟨oi, e, fun v z => by rw [dd] at z; cases z⟩
 keep := fun i h h' st k => st.at fun oi e => k it (by simp) oi e
 item := by
  intro X hP hw hK hc i pins s σ H E I hf st hg
  subst hP hw hK
  have hi : i < kvs.length := hg
  obtain ⟨f0, f1, f2, f3, f4, f5⟩ := hf it (by simp)
  have hsz : es.size = kvs.length := by rw [size_of_entries he]; exact (Paired.length hx).symm
  obtain ⟨p, hp⟩ : ∃ p, kvs[i]? = some p := ⟨kvs[i], List.getElem?_eq_getElem hi⟩
  obtain ⟨q, hq, e1, e2, e3⟩ := pP hx hp
  have en := entry_at he i
  rw [hq] at en
  refine rj st (I.gu _ _ lk) Dj hsz en fun h' gz sb => ?_
  have I1 : Inv X pins σ H { s with heap := h' } := I.turned (t' := s.toks) (fun b ob hb e => (sb.2 b hb).trans e) f0 f1 f3 f4 f5
  obtain ⟨oi, e, c, dd⟩ := id gz
  exact ⟨_, rfl, wo (s := { s with heap := h' }) e c dd (by decide) ⟨.ref p.2.1, H, I1, (by show Value.ref q.2.1 = Value.ref p.2.1; rw [e2]), ⟨rfl, p, hp, rfl⟩, gz, fun b hb => (hf b hb).1⟩⟩
 done := by
  intro X hP hw hK hc i pins s σ H E I hf st hg
  subst hP hw hK
  have hi : kvs.length <= i := hg
  obtain ⟨f0, f1, f2, f3, f4, f5⟩ := hf it (by simp)
  have hsz : es.size = kvs.length := by rw [size_of_entries he]; exact (Paired.length hx).symm
  exact ur (I.ok.hd hc) st (I.gu _ _ lk) Dj hsz hi fun h' eb => ⟨rfl, I.turned (t' := s.toks) (fun b ob hb e => eb b ob hb e) f0 f1 f3 f4 f5⟩
 self := fun A i s Q E st h => by
  refine wpAny_pyIter_slot st.typeIs F.slot_dict_keyiterator_iter (wpAny_call_entry F.slot_dict_keyiterator_iter st.typeIs F.entry_dict_keyiterator_iter ?_ (F.args_dict_keyiterator_iter_1 _))
  show wpAny _ _ (ret (.ref it)) _ _ s
  exact wpAny_pure ⟨_, rfl, "dict_keyiterator", _, st.typeIs, F.slot_dict_keyiterator_next.lookup, h⟩
end
def HL (P : Program) (w : World) (K : W.Frag) (td : TE) : TI := fun σ H R => td σ H fun x H1 => ∃ d kvs, x = .ref d /\ TK P w K d kvs /\ R (Itm kvs) H1
section
variable {X : Cx} {tg e : Expr} {td : TE}
theorem CA (he : PE X e td) : PI X tg e (HL X.prog X.w X.K td) := by
 intro pins s σ H R I h
 refine bI (he pins s σ H _ I h) fun u s1 qq => ?_
 obtain ⟨x, H1, I1, rx, d, kvs, ex, ⟨z, y, o, lk, xs, es, ep, hx, h1, h2, h3, h4⟩, q⟩ := qq
 subst ex
 obtain rfl : u = Value.ref d := rx
 have hsz : es.size = kvs.length := by rw [size_of_entries h3]; exact (Paired.length hx).symm
 refine AZ y (I1.gu _ _ lk) h1 h2 (ua (tk := s1.toks) I1 _ (xk _ lk h2 hx h3) ⟨_, Heap.get?_push_size _ rfl, rfl, ?_⟩ q)
 rw [hsz] <;> rfl
end
theorem Bm {kvs : Tab} {g : TG} {tb : TS} {D : Ends} {σ : St} {H : Hp} (Pv : Nat -> St -> Hp -> Prop) (h0 : Pv 0 σ H)
  (hs : ∀ i p σ H, kvs[i]? = some p -> Pv i σ H -> g (.ref p.2.1) σ H fun σ2 H2 => tb { D with nx := Pv (i + 1), ct := Pv (i + 1), bk := D.nx } σ2 H2) (hd : ∀ σ H, Pv kvs.length σ H -> D.nx σ H) :
  ∃ W : Nat -> Nat -> St -> Hp -> Prop, (∃ m, W 0 m σ H) /\ ∀ i m σ H, W i m σ H ->
   ((Itm kvs).stop i H /\ D.nx σ H) \/ ((Itm kvs).go i H /\ ∃ N : St -> Hp -> Prop, (∀ σ' H', N σ' H' -> ∃ m', m' < m /\ W (i + 1) m' σ' H') /\ ∀ x H', (Itm kvs).BP i H x H' -> g x σ H' fun σ2 H2 => tb { D with nx := N, ct := N, bk := D.nx } σ2 H2) := by
 refine ⟨fun i m σ H => m = kvs.length - i /\ i <= kvs.length /\ Pv i σ H, ⟨kvs.length, by simp, Nat.zero_le _, h0⟩, ?_⟩
 rintro i m σ H ⟨rfl, hi, p⟩
 by_cases hW : i < kvs.length
 ·refine .inr ⟨hW, Pv (i + 1), fun σ' H' p' => ⟨kvs.length - (i + 1), by omega, rfl, hW, p'⟩, fun x H' y => ?_⟩
  obtain ⟨e, q, hq, ex⟩ := y
  subst e ex
  exact hs i q σ _ hq p
 ·have e : i = kvs.length := by omega
  subst e
  exact .inl ⟨zA0 _, hd σ H p⟩
def Jr (P : Program) (w : World) (K : W.Frag) (tk tv : TE) : TE := fun σ H Q => ∀ p, H p = none -> tk σ (upd H p (TD P w p [])) fun x H1 => tv σ H1 fun y H2 => ∃ b ks, x = .ref b /\ ft K H2 b (ks.map kV) /\ H2 p = some (TD P w p []) /\ Q (.ref p) (upd H2 p (TD P w p [(ks, b, y)]))
section
variable {X : Cx} {kx vx : Expr} {pos : Pos} {tk tv : TE}
theorem ED (hu : X.A.units + 1 < cLine) (hk : PE X kx tk) (hv : PE X vx tv) : PE X (.Dict [some kx] [vx] pos) (Jr X.prog X.w X.K tk tv) := by
 intro pins s σ H Q I h
 rw [arm_eval_Dict, zip_pairTrees [some kx] [vx] X.env pos rfl rfl, dictDisplay_pairs (pairTrees [some kx] [vx] X.env pos) (by intro z; cases z) (show 1 < 17 by decide)]
 have hn := I.bD.fresh (Nat.le_refl s.heap.objs.size)
 have I1 := I.laid (a := s.heap.objs.size) (o := TD X.prog X.w s.heap.objs.size []) (h' := s.heap.push { cls := .type "dict", data := .dict #[] }) (t' := s.toks) (fun _ _ q => Heap.get?_push_of_some _ q) (zA0 _) (vi s.heap I.big)
 refine wpAny_bind (wpAny_standAt (wpAny_bind ?_))
 unfold subDict
 refine wpAny_bind (wpAny_alloc (wpAny_bind (wpAny_holding ?_)))
 rw [if_pos (show (pairTrees [some kx] [vx] X.env pos).length <= 15 from (show 1 <= 15 by decide))]
 refine wpAny_bind (pairTrees_cons_walk (bI (hk pins _ σ _ _ I1 (h _ hn)) fun u s1 ⟨x, H1, I2, rx, q1⟩ => bI (hv pins s1 σ H1 _ I2 q1) fun r s2 ⟨y, H2, I3, ry, b, ks, ex, hb, hp, q2⟩ => pairTrees_nil_walk ?_))
 subst ex
 obtain rfl : u = Value.ref b := rx
 refine wpAny_holding ?_
 rw [List.forIn_cons]
 obtain ⟨z, y', xs, rel, dd⟩ := I3.BZ (.inl hp) (fun _ z => nomatch z)
 cases rel
 refine wpAny_bind (wpAny_bind (wpAny_bind (wpAny_dictSet_heap (hsz := Nat.zero_le _) (show X.A.units < cLine by omega) (I3.AV hb) dd fun h' Je hs => wpAny_pure ?_)))
 show wpAny _ _ (forIn [] _ _) _ _ _
 rw [List.forIn_nil]
 refine wpAny_pure (wpAny_pure (wpAny_pure (wpAny_pure ?_)))
 obtain ⟨o, es, ep, hq, h2, h3, h4, _, h5⟩ := Je
 refine ⟨.ref s.heap.objs.size, _, zY I3 (by rw [hp]; exact True.intro) hs ⟨o, hq⟩ (BY (by show 1 <= sizeLine; decide) y' hq ⟨_, es, ep, ?_, h2, h3, h4, h5⟩), rfl, q2⟩
 exact KX.put (kvs := []) (xs := []) Paired.nil ks b ry
end
def KI (P : Program) (w : World) (K : W.Frag) (a : Addr) (kvs : List (Key × V)) : Prop := ∃ (o : Obj) (es : Array DictEntry) (ep : Nat) (vs : List (Key × Value)), K.lookup a = some o /\ o.ExactDict /\ o.data = .dict es ep /\ KeysOf (bN P w) es /\ Pairs (bN P w) es.toList vs /\ (vs.map (·.1)).Nodup /\ KV kvs vs
def J0 (P : Program) (w : World) (K : W.Frag) (td ty : TE) : TE := fun σ H Q => td σ H fun x H1 => ty σ H1 fun y H2 => ∃ a kvs k v, x = .ref a /\ y = kV k /\ KI P w K a kvs /\ uV kvs k = some v /\ Q v H2
section
variable {X : Cx} {o i : Expr} {pos : Pos} {td ty : TE}
theorem zB (ho : PE X o td) (hi : PE X i ty) (hs : IC i) : PE X (.Subscript o i pos) (J0 X.prog X.w X.K td ty) := by
 intro pins s σ H Q I h
 refine zd PySem.F.slot_dict_getitem.lookup hs (bI (ho pins s σ H _ I h) fun u s1 ⟨x, H1, I1, rx, q1⟩ => bI (hi pins s1 σ H1 _ I1 q1) fun iv s2 qq => ?_)
 obtain ⟨y, H2, I2, ry, a, kvs, k, v, ex, ey, ⟨ob, es, ep, vs, lk, g1, g2, g3, g4, g5, g6⟩, l, q2⟩ := qq
 subst ex ey
 obtain rfl : u = Value.ref a := rx
 have dd : s2.heap.DictOf (bN X.prog X.w) a vs := ⟨ob, es, ep, I2.gu _ _ lk, g1, g2, g3, g4, g5⟩
 obtain ⟨w', hw, E4⟩ := nI.some_of (v := v) (o := valueAt vs k) (by rw [<- l]; exact g6.val k)
 exact ⟨dd.typeIs, wpAny_getItem_of (Ge ry) dd.mapOf hw ⟨v, H2, I2.tok _, E4, q2⟩⟩
end
end L2
namespace Lsp
open Sg02
inductive du where
 | look (x : Obj) (e : Env)
 | choice (b c : Obj) (e : Env)
 | seq (l : List Obj) (e : Env)
 | cV (m : Nat)
 | bT (rest found : List Obj) (e : Env)
structure Cfg where
 ahead : List du
 val : Obj
 w : World
inductive RR where
 | more (c : Cfg)
 | stop (o : Out) (w : World)
noncomputable def bU (k : List du) (v : Obj) (w : World) : List Obj -> RR
 | .prim p :: l => (match apply w.heap p l with
  | .ok x => .more ⟨k, x.2, { w with heap := x.1 }⟩
  | .error n => .stop (.fault n) w)
 | .fn i :: l =>
  if l.length ≠ (w.heap.fn i).1.length then .stop (.fault 3) w
  else .more ⟨.look (w.heap.fn i).2.1 (bindAll w.heap (w.heap.fn i).2.2 (w.heap.fn i).1 l).2 :: k, v, { w with heap := (bindAll w.heap (w.heap.fn i).2.2 (w.heap.fn i).1 l).1 }⟩
 | _ => .stop (.fault 5) w
noncomputable def bj (n : Nat) (l : List Obj) (e : Env) (k : List du) (v : Obj) (w : World) : RR := match n, l with
 | 0, [x] => .more ⟨k, x, w⟩
 | 1, [a, b, c] => .more ⟨.look a e :: .choice b c e :: k, v, w⟩
 | 2, [] => .more ⟨k, .nil, w⟩
 | 2, x :: l => .more ⟨.seq (x :: l) e :: k, v, w⟩
 | 3, [.name m, x] => .more ⟨.look x e :: .cV m :: k, v, w⟩
 | 4, [names, body] => (match (items w.heap (w.heap.next + 1) names).bind asNames with
  | some ns => .more ⟨k, .fn w.heap.next, { w with heap := { w.heap with fn := put w.heap.fn w.heap.next (ns, body, e), next := w.heap.next + 1 } }⟩
  | none => .stop (.fault 6) w)
 | _, _ => .stop (.fault 6) w
noncomputable def nO : Obj -> Option Nat
 | .name n => if n < 5 then some n else none
 | _ => none
noncomputable def iV (e : Env) (k : List du) (v : Obj) (w : World) : List Obj -> RR
 | [] => .stop (.fault 6) w
 | x :: l => match nO x with
  | some n => bj n l e k v w
  | none => .more ⟨.look x e :: .bT l [] e :: k, v, w⟩
noncomputable def take1 (k : List du) (v : Obj) (w : World) : du -> RR
 | .look x e => (match x with
  | .name n => (match lookup w.heap w.global (w.heap.next + 1) e n with
   | some u => .more ⟨k, u, w⟩
   | none => .stop (.fault 1) w)
  | .pair i => if w.left = 0 then .stop .spent w else
   (match items w.heap (w.heap.next + 1) (.pair i) with
   | none => .stop (.fault 6) { w with left := w.left - 1 }
   | some l => iV e k v { w with left := w.left - 1 } l)
  | x => .more ⟨k, x, w⟩)
 | .choice b c e => .more ⟨.look (if v = .nil then c else b) e :: k, v, w⟩
 | .seq [] _ => .more ⟨k, v, w⟩
 | .seq [x] e => .more ⟨.look x e :: k, v, w⟩
 | .seq (x :: y :: l) e => .more ⟨.look x e :: .seq (y :: l) e :: k, v, w⟩
 | .cV m => .more ⟨k, v, { w with global := put w.global m (some v) }⟩
 | .bT [] found _ => bU k v w (found ++ [v])
 | .bT (x :: l) found e => .more ⟨.look x e :: .bT l (found ++ [v]) e :: k, v, w⟩
inductive Runs : Cfg -> Out -> World -> Prop where
 | fin (v : Obj) (w : World) : Runs ⟨[], v, w⟩ (.value v) w
 | stop {s k v w o u} (h : take1 k v w s = .stop o u) : Runs ⟨s :: k, v, w⟩ o u
 | more {s k v w c o u} (h : take1 k v w s = .more c) (r : Runs c o u) : Runs ⟨s :: k, v, w⟩ o u
def Aj : RR -> Out -> World -> Prop
 | .more c, o, u => Runs c o u
 | .stop o' u', o, u => o' = o /\ u' = u
theorem Runs.step {s : du} {k : List du} {v : Obj} {w : World} {o : Out} {u : World} (h : Aj (take1 k v w s) o u) : Runs ⟨s :: k, v, w⟩ o u := by
 cases e : take1 k v w s with
 | more c => rw [e] at h; exact .more e h
 | stop o' u' => rw [e] at h; obtain ⟨rfl, rfl⟩ := h; exact .stop e
def Good (y : Out × World) (x : Obj) (e : Env) (w : World) : Prop :=
 y.2.left <= w.left /\ ∀ (k : List du) (v0 : Obj) (o : Out) (u : World),
  (match y.1 with
   | .value v => Runs ⟨k, v, y.2⟩ o u
   | o' => o' = o /\ y.2 = u) -> Runs ⟨.look x e :: k, v0, w⟩ o u
def Jh (ev : Eval) (m : Nat) : Prop := ∀ (w : World) (x : Obj) (e : Env), w.left <= m -> Good (ev w x e) x e w
def DQ (y : Except Out (List Obj) × World) (k : List du) (v0 : Obj) (found : List Obj) (o : Out) (u : World) : Prop :=
 match y.1 with
 | .ok r => ∀ v1, Aj (bU k v1 y.2 (found ++ r)) o u
 | .error o' => o' = o /\ y.2 = u
theorem yL {ev : Eval} {m : Nat} (S : Jh ev m) (e : Env) : ∀ (l : List Obj) (w : World), w.left <= m -> (all ev e l w).2.left <= w.left
 | [], w, _ => zA0 _
 | x :: l, w, h => by
  have g := (S w x e h).1
  unfold all
  cases q : ev w x e with
  | mk o w1 =>
   rw [q] at g
   cases o with
   | value v =>
    have ih := yL S e l w1 (Nat.le_trans g h)
    cases q2 : all ev e l w1 with
    | mk r w2 =>
     rw [q2] at ih
     cases r with
     | ok r => simp only [q2]; exact Nat.le_trans ih g
     | error o => simp only [q2]; exact Nat.le_trans ih g
   | fault n => exact g
   | spent => exact g
theorem gather {ev : Eval} {m : Nat} (S : Jh ev m) (e : Env) : ∀ (l : List Obj) (x : Obj) (found : List Obj) (w : World) (k : List du) (v0 : Obj) (o : Out) (u : World), w.left <= m ->
  DQ (all ev e (x :: l) w) k v0 found o u -> Runs ⟨.look x e :: .bT l found e :: k, v0, w⟩ o u
 | l, x, found, w, k, v0, o, u, h, hw => by
  have g := S w x e h
  refine g.2 _ _ o u ?_
  unfold DQ all at hw
  cases q : ev w x e with
  | mk y w1 =>
   rw [q] at g hw
   cases y with
   | fault n => exact hw
   | spent => exact hw
   | value v =>
    dsimp only at hw ⊢
    refine Runs.step ?_
    cases l with
    | nil =>
     simp only [all] at hw
     exact hw v
    | cons x2 l =>
     show Runs ⟨.look x2 e :: .bT l (found ++ [v]) e :: k, v, w1⟩ o u
     refine gather S e l x2 (found ++ [v]) w1 k v o u (Nat.le_trans g.1 h) ?_
     unfold DQ
     cases q2 : all ev e (x2 :: l) w1 with
     | mk r w2 =>
      rw [q2] at hw
      cases r with
      | ok r => intro v1; have := hw v1; rw [List.append_assoc]; exact this
      | error o' => exact hw
theorem Dc {ev : Eval} {m : Nat} (S : Jh ev m) (e : Env) : ∀ (l : List Obj) (x : Obj) (w : World) (k : List du) (v0 : Obj) (o : Out) (u : World), w.left <= m ->
  (match (inTurn ev e (x :: l) w).1 with
   | .value v => Runs ⟨k, v, (inTurn ev e (x :: l) w).2⟩ o u
   | o' => o' = o /\ (inTurn ev e (x :: l) w).2 = u) -> Runs ⟨.seq (x :: l) e :: k, v0, w⟩ o u
 | [], x, w, k, v0, o, u, h, hw => by
  refine Runs.step (show Runs ⟨.look x e :: k, v0, w⟩ o u from ?_)
  have g := S w x e h
  refine g.2 _ _ o u ?_
  unfold inTurn all at hw
  cases q : ev w x e with
  | mk y w1 =>
   rw [q] at hw
   cases y with
   | fault n => exact hw
   | spent => exact hw
   | value v => exact hw
 | y :: l, x, w, k, v0, o, u, h, hw => by
  refine Runs.step (show Runs ⟨.look x e :: .seq (y :: l) e :: k, v0, w⟩ o u from ?_)
  have g := S w x e h
  refine g.2 _ _ o u ?_
  unfold inTurn at hw
  rw [all] at hw
  cases q : ev w x e with
  | mk z w1 =>
   rw [q] at hw g
   cases z with
   | fault n => exact hw
   | spent => exact hw
   | value v =>
    dsimp only at hw ⊢
    refine Dc S e l y w1 k v o u (Nat.le_trans g.1 h) ?_
    unfold inTurn
    cases q2 : all ev e (y :: l) w1 with
    | mk r w2 =>
     rw [q2] at hw
     cases r with
     | ok r =>
      dsimp only at hw ⊢
      have hr : r ≠ [] := by
       intro z
       subst z
       rw [all] at q2
       cases q3 : ev w1 y e with
       | mk a w3 =>
        rw [q3] at q2
        cases a with
        | value v' =>
         dsimp only at q2
         cases q4 : all ev e l w3 with
         | mk b w4 =>
          rw [q4] at q2
          cases b with
          | ok b => simp at q2
          | error b => simp at q2
        | fault n => simp at q2
        | spent => simp at q2
      have e2 : (v :: r).getLast?.getD .nil = r.getLast?.getD .nil := by
       cases r with
       | nil => exact absurd rfl hr
       | cons a r => rw [List.getLast?_cons_cons]
      rw [e2] at hw
      exact hw
     | error o' => exact hw
theorem qf {h : Heap} {k i : Nat} {l : List Obj} (q : items h (k + 1) (.pair i) = some l) : ∃ r, l = (h.pair i).1 :: r /\ items h k (h.pair i).2 = some r := by
 rw [items] at q
 cases e : items h k (h.pair i).2 with
 | none => rw [e] at q; cases q
 | some r => rw [e] at q; exact ⟨r, (Option.some.inj q).symm, rfl⟩
theorem By (f : Nat) (w : World) (e : Env) (n : Nat) : Sg02.eval (f + 1) w (.name n) e = (match lookup w.heap w.global (w.heap.next + 1) e n with
   | some v => (.value v, w)
   | none => (.fault 1, w)) := by
 rw [Sg02.eval]
 cases lookup w.heap w.global (w.heap.next + 1) e n <;> rfl
def down (w : World) : World := { w with left := w.left - 1 }
theorem Bx (f : Nat) (w : World) (e : Env) (i : Nat) (h0 : ¬ w.left = 0) : Sg02.eval (f + 1) w (.pair i) e = (match items w.heap (w.heap.next + 1) (.pair i) with
   | none => (.fault 6, down w)
   | some l => (match nO (w.heap.pair i).1 with
    | some n => special (Sg02.eval f) n l.tail (down w) e
    | none => (match all (Sg02.eval f) e l (down w) with
     | (.ok r, w) => called (Sg02.eval f) w r
     | (.error o, w) => (o, w)))) := by
 rw [Sg02.eval]
 simp only [h0, if_false, down]
 cases q : items w.heap (w.heap.next + 1) (.pair i) with
 | none => rfl
 | some l =>
  cases hp : (w.heap.pair i).1 with
  | name n =>
   by_cases h5 : n < 5
   ·simp only [nO, h5, if_true]
   ·simp only [nO, h5, if_false]
    cases all (Sg02.eval f) e l { heap := w.heap, global := w.global, left := w.left - 1 } with
    | mk y w1 => cases y <;> rfl
  | nil => rfl
  | int z => rfl
  | pair j => rfl
  | fn j => rfl
  | prim j => rfl
theorem yF {ev : Eval} {m : Nat} (S : Jh ev m) (w : World) (hl : w.left <= m) (r : List Obj) :
  (called ev w r).2.left <= w.left /\ ∀ (k : List du) (v1 : Obj) (o : Out) (u : World),
   (match (called ev w r).1 with
    | .value v => Runs ⟨k, v, (called ev w r).2⟩ o u
    | o' => o' = o /\ (called ev w r).2 = u) -> Aj (bU k v1 w r) o u := by
 cases r with
 | nil => exact ⟨zA0 _, fun k v1 o u hw => hw⟩
 | cons x l =>
  cases x with
  | prim p =>
   cases q : apply w.heap p l with
   | ok y =>
    have e1 : called ev w (.prim p :: l) = (.value y.2, { w with heap := y.1 }) := by unfold called; simp only [q]
    rw [e1]
    exact ⟨zA0 _, fun k v1 o u hw => by unfold bU; simp only [q]; exact hw⟩
   | error n =>
    have e1 : called ev w (.prim p :: l) = (.fault n, w) := by unfold called; simp only [q]
    rw [e1]
    exact ⟨zA0 _, fun k v1 o u hw => by unfold bU; simp only [q]; exact hw⟩
  | fn i =>
   by_cases hn : l.length ≠ (w.heap.fn i).1.length
   ·have e1 : called ev w (.fn i :: l) = (.fault 3, w) := by unfold called; simp only [hn, if_true, ne_eq, not_false_eq_true]
    rw [e1]
    refine ⟨zA0 _, fun k v1 o u hw => ?_⟩
    have e2 : bU k v1 w (.fn i :: l) = .stop (.fault 3) w := if_pos hn
    rw [e2]
    exact hw
   ·have e1 : called ev w (.fn i :: l) = ev { w with heap := (bindAll w.heap (w.heap.fn i).2.2 (w.heap.fn i).1 l).1 } (w.heap.fn i).2.1 (bindAll w.heap (w.heap.fn i).2.2 (w.heap.fn i).1 l).2 := by
     unfold called
     simp only [hn, if_false]
    rw [e1]
    have g := S { w with heap := (bindAll w.heap (w.heap.fn i).2.2 (w.heap.fn i).1 l).1 } (w.heap.fn i).2.1 (bindAll w.heap (w.heap.fn i).2.2 (w.heap.fn i).1 l).2 hl
    refine ⟨g.1, fun k v1 o u hw => ?_⟩
    have e2 : bU k v1 w (.fn i :: l) = .more ⟨.look (w.heap.fn i).2.1 (bindAll w.heap (w.heap.fn i).2.2 (w.heap.fn i).1 l).2 :: k, v1, { w with heap := (bindAll w.heap (w.heap.fn i).2.2 (w.heap.fn i).1 l).1 }⟩ := if_neg hn
    rw [e2]
    exact g.2 k v1 o u hw
  | nil => exact ⟨zA0 _, fun k v1 o u hw => hw⟩
  | int z => exact ⟨zA0 _, fun k v1 o u hw => hw⟩
  | name n => exact ⟨zA0 _, fun k v1 o u hw => hw⟩
  | pair j => exact ⟨zA0 _, fun k v1 o u hw => hw⟩
def KJ (y : Out × World) (k : List du) (o : Out) (u : World) : Prop := match y.1 with
 | .value v => Runs ⟨k, v, y.2⟩ o u
 | o' => o' = o /\ y.2 = u
theorem vp {ev : Eval} {m : Nat} (S : Jh ev m) (w : World) (hl : w.left <= m) (n : Nat) (l : List Obj) (e : Env) :
  (special ev n l w e).2.left <= w.left /\ ∀ (k : List du) (v0 : Obj) (o : Out) (u : World), KJ (special ev n l w e) k o u -> Aj (bj n l e k v0 w) o u := by
 unfold special bj
 split
 ·exact ⟨zA0 _, fun k v0 o u hw => hw⟩
 ·rename_i a b c
  have g := S w a e hl
  cases q : ev w a e with
  | mk y w1 =>
   rw [q] at g
   cases y with
   | value v =>
    have g2 := S w1 (if v = .nil then c else b) e (Nat.le_trans g.1 hl)
    refine ⟨Nat.le_trans g2.1 g.1, fun k v0 o u hw => ?_⟩
    exact g.2 _ _ o u (Runs.step (g2.2 _ _ o u hw))
   | fault n => exact ⟨g.1, fun k v0 o u hw => g.2 _ _ o u hw⟩
   | spent => exact ⟨g.1, fun k v0 o u hw => g.2 _ _ o u hw⟩
 ·cases l with
  | nil =>
   refine ⟨zA0 _, fun k v0 o u hw => ?_⟩
   exact hw
  | cons x l =>
   refine ⟨?_, fun k v0 o u hw => Dc S e l x w k v0 o u hl hw⟩
   have a := yL S e (x :: l) w hl
   unfold inTurn
   cases q : all ev e (x :: l) w with
   | mk y w1 =>
    rw [q] at a
    cases y with
    | ok r => exact a
    | error o => exact a
 ·rename_i mm x
  have g := S w x e hl
  cases q : ev w x e with
  | mk y w1 =>
   rw [q] at g
   cases y with
   | value v => exact ⟨g.1, fun k v0 o u hw => g.2 _ _ o u (Runs.step hw)⟩
   | fault n => exact ⟨g.1, fun k v0 o u hw => g.2 _ _ o u hw⟩
   | spent => exact ⟨g.1, fun k v0 o u hw => g.2 _ _ o u hw⟩
 ·rename_i names body
  cases q : (items w.heap (w.heap.next + 1) names).bind asNames with
  | some ns => exact ⟨zA0 _, fun k v0 o u hw => (by simp only [q]; exact hw)⟩
  | none => exact ⟨zA0 _, fun k v0 o u hw => (by simp only [q]; exact hw)⟩
 ·rename_i h1 h2 h3 h4 h5
  refine ⟨zA0 _, fun k v0 o u hw => ?_⟩
  split
  ·rename_i x; exact absurd rfl (h2 x rfl)
  ·rename_i a b c; exact absurd rfl (h3 a b c rfl)
  ·exact absurd rfl h1
  ·exact absurd rfl h1
  ·rename_i m x; exact absurd rfl (h4 m x rfl)
  ·rename_i a b; exact absurd rfl (h5 a b rfl)
  ·exact hw
theorem q0 {ev : Eval} {e : Env} : ∀ (l : List Obj) (w : World) (v : Obj) (u : World), all ev e l w = (.error (.value v), u) -> False
 | [], w, v, u, h => by simp [all] at h
 | x :: l, w, v, u, h => by
  rw [all] at h
  cases q : ev w x e with
  | mk y w1 =>
   rw [q] at h
   cases y with
   | fault n => simp at h
   | spent => simp at h
   | value z =>
    dsimp only at h
    cases q2 : all ev e l w1 with
    | mk r w2 =>
     rw [q2] at h
     cases r with
     | ok r => simp at h
     | error o =>
      simp at h
      exact q0 l w1 v w2 (by rw [q2, h.1])
theorem qm : ∀ (f m : Nat), m + 1 <= f -> Jh (Sg02.eval f) m
 | 0, m, h => by omega
 | f + 1, m, h => by
  intro w x e hl
  cases x with
  | nil => exact ⟨zA0 _, fun k v0 o u hw => Runs.step hw⟩
  | int z => exact ⟨zA0 _, fun k v0 o u hw => Runs.step hw⟩
  | fn i => exact ⟨zA0 _, fun k v0 o u hw => Runs.step hw⟩
  | prim i => exact ⟨zA0 _, fun k v0 o u hw => Runs.step hw⟩
  | name n =>
   unfold Good
   rw [By]
   cases q : lookup w.heap w.global (w.heap.next + 1) e n with
   | none => exact ⟨zA0 _, fun k v0 o u hw => Runs.step (by unfold take1; simp only [q]; exact hw)⟩
   | some v => exact ⟨zA0 _, fun k v0 o u hw => Runs.step (by unfold take1; simp only [q]; exact hw)⟩
  | pair i =>
   unfold Good
   by_cases h0 : w.left = 0
   ·have e0 : Sg02.eval (f + 1) w (.pair i) e = (.spent, w) := by rw [Sg02.eval]; simp only [h0, if_true]
    rw [e0]
    exact ⟨zA0 _, fun k v0 o u hw => Runs.step (by unfold take1; simp only [h0, if_true]; exact hw)⟩
   ·rw [Bx f w e i h0]
    have hd : (down w).left = w.left - 1 := rfl
    cases q : items w.heap (w.heap.next + 1) (.pair i) with
    | none => exact ⟨Nat.sub_le _ _, fun k v0 o u hw => Runs.step (by unfold take1; simp only [q, h0, if_false]; exact hw)⟩
    | some l =>
     obtain ⟨r, rfl, _⟩ := qf q
     dsimp only
     cases hs : nO (w.heap.pair i).1 with
     | some n =>
      dsimp only
      have S' := vp (qm f (m - 1) (by omega)) (down w) (by omega) n r e
      refine ⟨Nat.le_trans S'.1 (Nat.sub_le _ _), fun k v0 o u hw => Runs.step ?_⟩
      unfold take1
      simp only [q, h0, if_false, iV, hs]
      exact S'.2 k v0 o u hw
     | none =>
      dsimp only
      have S0 := qm f (m - 1) (by omega)
      have a := yL S0 e ((w.heap.pair i).1 :: r) (down w) (by omega)
      cases q2 : all (Sg02.eval f) e ((w.heap.pair i).1 :: r) (down w) with
      | mk y w1 =>
       rw [q2] at a
       have a' : w1.left <= (down w).left := a
       cases y with
       | error o' =>
        refine ⟨by dsimp only; omega, fun k v0 o u hw => Runs.step ?_⟩
        unfold take1
        simp only [q, h0, if_false, iV, hs]
        refine gather S0 e r _ [] (down w) k v0 o u (by omega) ?_
        rw [q2]
        cases o' with
        | value v =>
         exfalso
         exact q0 _ _ _ _ q2
        | fault n => exact hw
        | spent => exact hw
       | ok vs =>
        have C := yF S0 w1 (by omega) vs
        refine ⟨by have := C.1; dsimp only; omega, fun k v0 o u hw => Runs.step ?_⟩
        unfold take1
        simp only [q, h0, if_false, iV, hs]
        refine gather S0 e r _ [] (down w) k v0 o u (by omega) ?_
        rw [q2]
        intro v1
        exact C.2 k v1 o u hw
theorem Bw (s : Abs) (budget : Nat) (x v0 : Obj) : Runs ⟨[.look x none], v0, ⟨s.heap, s.global, budget⟩⟩ (s.eval budget x).1 (s.eval budget x).2 := by
 have g := qm (budget + 2) budget (by omega) ⟨s.heap, s.global, budget⟩ x none (zA0 _)
 refine g.2 [] v0 _ _ ?_
 show match (s.eval budget x).1 with
   | .value v => Runs ⟨[], v, (s.eval budget x).2⟩ (s.eval budget x).1 (s.eval budget x).2
   | o' => o' = (s.eval budget x).1 /\ (s.eval budget x).2 = (s.eval budget x).2
 cases (s.eval budget x).1 with
 | value v => exact .fin v _
 | fault n => exact ⟨rfl, rfl⟩
 | spent => exact ⟨rfl, rfl⟩
end Lsp
namespace Lsp
open Sg02
def Al (h : Heap) : Prop := ∀ i j, ((h.pair i).1 = .pair j \/ (h.pair i).2 = .pair j) -> j < i
def rank : Obj -> Nat
 | .pair i => i + 2
 | _ => 1
theorem v5 (x : Obj) : 1 <= rank x := by cases x <;> simp [rank]
theorem pJ {h : Heap} (o : Al h) (i : Nat) : rank (h.pair i).1 <= i + 1 := by
 cases e : (h.pair i).1 with
 | pair j => have := o i j (.inl e); show j + 2 <= i + 1; omega
 | _ => exact Nat.succ_le_succ (Nat.zero_le _)
theorem pI {h : Heap} (o : Al h) (i : Nat) : rank (h.pair i).2 <= i + 1 := by
 cases e : (h.pair i).2 with
 | pair j => have := o i j (.inr e); show j + 2 <= i + 1; omega
 | _ => exact Nat.succ_le_succ (Nat.zero_le _)
section
variable {s : Abs} (o : Al s.heap)
def restOf (s : Abs) (f : Nat) : Obj -> Bytes
 | .nil => [41]
 | .pair j => 32 :: (textOf s f (.pair j)).drop 1
 | y => ascii " . " ++ (textOf s f y ++ [41])
theorem ij (s : Abs) (f i : Nat) : textOf s (f + 1) (.pair i) = 40 :: (textOf s f (s.heap.pair i).1 ++ restOf s f (s.heap.pair i).2) := by
 rw [textOf]
 cases (s.heap.pair i).2 <;> rfl
include o in
theorem bL : ∀ (f g : Nat) (x : Obj), rank x <= f -> rank x <= g -> textOf s f x = textOf s g x
 | 0, g, x, hf, _ => by have := v5 x; omega
 | f + 1, 0, x, _, hg => by have := v5 x; omega
 | f + 1, g + 1, x, hf, hg => by
  cases x with
  | pair i =>
   have hf : i + 2 <= f + 1 := hf
   have hg : i + 2 <= g + 1 := hg
   have h1 := pJ o i
   have h2 := pI o i
   rw [ij, ij, bL f g _ (by omega) (by omega)]
   refine congrArg (fun z => 40 :: (textOf s g (s.heap.pair i).1 ++ z)) ?_
   cases e : (s.heap.pair i).2 with
   | nil => rfl
   | pair j =>
    rw [e] at h2
    unfold restOf
    dsimp only
    rw [bL f g _ (by omega) (by omega)]
   | int z => rw [e] at h2; unfold restOf; dsimp only; rw [bL f g _ (by omega) (by omega)]
   | name z => rw [e] at h2; unfold restOf; dsimp only; rw [bL f g _ (by omega) (by omega)]
   | fn z => rw [e] at h2; unfold restOf; dsimp only; rw [bL f g _ (by omega) (by omega)]
   | prim z => rw [e] at h2; unfold restOf; dsimp only; rw [bL f g _ (by omega) (by omega)]
  | nil => rfl
  | int z => rfl
  | name z => rfl
  | fn z => rfl
  | prim z => rfl
def tx (s : Abs) (x : Obj) : Bytes := textOf s (rank x) x
include o in
theorem tj (x : Obj) (f : Nat) (h : rank x <= f) : textOf s f x = tx s x := bL o f _ x h (zA0 _)
include o in
theorem El (i : Nat) : tx s (.pair i) = 40 :: (tx s (s.heap.pair i).1 ++ restOf s (i + 1) (s.heap.pair i).2) := by
 show textOf s (i + 2) (.pair i) = _
 rw [ij, tj o _ _ (pJ o i)]
def rt (s : Abs) (y : Obj) : Bytes := restOf s (rank y) y
include o in
theorem rest_eq (y : Obj) (f : Nat) (h : rank y <= f) : restOf s f y = rt s y := by
 cases y with
 | nil => rfl
 | pair j => unfold rt restOf; dsimp only; rw [bL o f _ _ h (Nat.le_refl _)]
 | int z => unfold rt restOf; dsimp only; rw [bL o f _ _ h (Nat.le_refl _)]
 | name z => unfold rt restOf; dsimp only; rw [bL o f _ _ h (Nat.le_refl _)]
 | fn z => unfold rt restOf; dsimp only; rw [bL o f _ _ h (Nat.le_refl _)]
 | prim z => unfold rt restOf; dsimp only; rw [bL o f _ _ h (Nat.le_refl _)]
include o in
theorem kJ (i : Nat) : tx s (.pair i) = 40 :: (tx s (s.heap.pair i).1 ++ rt s (s.heap.pair i).2) := by
 rw [El o, rest_eq o _ _ (pI o i)]
include o in
theorem zx (j : Nat) : rt s (.pair j) = 32 :: (tx s (s.heap.pair j).1 ++ rt s (s.heap.pair j).2) := by
 show 32 :: (textOf s (j + 2) (.pair j)).drop 1 = _
 rw [tj o (.pair j) (j + 2) (Nat.le_refl _), kJ o]
 rfl
theorem GH : rt s .nil = [41] := rfl
theorem iD {y : Obj} (h1 : y ≠ .nil) (h2 : ∀ j, y ≠ .pair j) : rt s y = ascii " . " ++ (tx s y ++ [41]) := by
 cases y with
 | nil => exact absurd rfl h1
 | pair j => exact absurd rfl (h2 j)
 | int z => rfl
 | name z => rfl
 | fn z => rfl
 | prim z => rfl
include o in
theorem En (x : Obj) (h : ∀ i, x = .pair i -> i < s.heap.next) : s.text x = tx s x := by
 refine tj o x _ ?_
 cases x with
 | pair i => have := h i rfl; show i + 2 <= _; omega
 | _ => exact Nat.succ_le_succ (Nat.zero_le _)
theorem fC (s : Abs) : ∀ n, (lengths s n).length = n
 | 0 => rfl
 | n + 1 => by
  rw [lengths]
  rw [List.length_append, fC s n]
  rfl
theorem uY {x : Obj} (h : ∀ i, x ≠ .pair i) : tx s x = textOf s 1 x := by
 cases x with
 | pair i => exact absurd rfl (h i)
 | _ => rfl
include o in
theorem fD : ∀ (n i : Nat), i < n -> (lengths s n).getD i 0 = (tx s (.pair i)).length
 | 0, i, h => by omega
 | n + 1, i, h => by
  have Bd : ∀ x, rank x <= n + 1 -> lengthIn s (lengths s n) x = (tx s x).length := fun x hx => by
   cases x with
   | pair j => have hx : j + 2 <= n + 1 := hx; exact fD n j (by omega)
   | _ => rfl
  rw [lengths]
  by_cases hi : i < n
  ·rw [List.getD_eq_getElem?_getD, List.getElem?_append_left (by rw [fC]; exact hi), <- List.getD_eq_getElem?_getD]
   exact fD n i hi
  ·have e : i = n := by omega
   subst e
   rw [List.getD_eq_getElem?_getD, List.getElem?_append_right (by rw [fC]; exact zA0 _), fC, Nat.sub_self]
   show (match (s.heap.pair i).2 with
    | .nil => lengthIn s (lengths s i) (s.heap.pair i).1 + 2
    | .pair j => lengthIn s (lengths s i) (s.heap.pair i).1 + 1 + (lengths s i).getD j 0
    | y => lengthIn s (lengths s i) (s.heap.pair i).1 + 5 + lengthIn s (lengths s i) y) = _
   rw [Bd _ (pJ o i), kJ o]
   have h2 := pI o i
   cases e : (s.heap.pair i).2 with
   | nil => rw [GH]; simp
   | pair j =>
    rw [e] at h2
    have h2 : j + 2 <= i + 1 := h2
    rw [zx o]
    dsimp only
    rw [fD i j (by omega), kJ o]
    simp only [List.length_cons, List.length_append]
    exact (show ∀ a b c : Nat, a + 1 + (b + c + 1) = a + (b + c + 1) + 1 from fun a b c => by omega) _ _ _
   | int z =>
    rw [e] at h2
    rw [iD (by simp) (by simp)]
    dsimp only
    rw [Bd _ h2]
    simp only [List.length_cons, List.length_append, List.length_nil]
    exact (show ∀ a b : Nat, a + 5 + b = a + (3 + (b + (0 + 1))) + 1 from fun a b => by omega) _ _
   | name z =>
    rw [e] at h2
    rw [iD (by simp) (by simp)]
    dsimp only
    rw [Bd _ h2]
    simp only [List.length_cons, List.length_append, List.length_nil]
    exact (show ∀ a b : Nat, a + 5 + b = a + (3 + (b + (0 + 1))) + 1 from fun a b => by omega) _ _
   | fn z =>
    rw [e] at h2
    rw [iD (by simp) (by simp)]
    dsimp only
    rw [Bd _ h2]
    simp only [List.length_cons, List.length_append, List.length_nil]
    exact (show ∀ a b : Nat, a + 5 + b = a + (3 + (b + (0 + 1))) + 1 from fun a b => by omega) _ _
   | prim z =>
    rw [e] at h2
    rw [iD (by simp) (by simp)]
    dsimp only
    rw [Bd _ h2]
    simp only [List.length_cons, List.length_append, List.length_nil]
    exact (show ∀ a b : Nat, a + 5 + b = a + (3 + (b + (0 + 1))) + 1 from fun a b => by omega) _ _
include o in
theorem zI (x : Obj) (h : ∀ i, x = .pair i -> i < s.heap.next) : s.long x = (tx s x).length := by
 unfold Abs.long
 cases x with
 | pair i => exact fD o _ i (h i rfl)
 | _ => rfl
end
inductive Piece where
 | part (x : Obj)
 | rest (x : Obj)
noncomputable def Piece.tx (s : Abs) : Piece -> Bytes
 | .part x => Lsp.tx s x
 | .rest x => rt s x
noncomputable def FN (s : Abs) (l : List Piece) : Bytes := l.flatMap (Piece.tx s)
theorem kI (s : Abs) (p : Piece) (l : List Piece) : FN s (p :: l) = p.tx s ++ FN s l := List.flatMap_cons
end Lsp
namespace Lsp
open Sg02
inductive Chain (h : Heap) : Obj -> Nat -> Prop where
 | plain {x : Obj} (n : Nat) (hx : ∀ i, x ≠ .pair i) : Chain h x n
 | pair {i n : Nat} (c : Chain h (h.pair i).2 n) : Chain h (.pair i) (n + 1)
theorem Chain.mono {h : Heap} {x : Obj} {n : Nat} (c : Chain h x n) : ∀ {m : Nat}, n <= m -> Chain h x m := by
 induction c with
 | plain n hx => intro m _; exact .plain m hx
 | pair c ih =>
  intro m hm
  obtain ⟨k, rfl⟩ : ∃ k, m = k + 1 := ⟨m - 1, by omega⟩
  exact .pair (ih (by omega))
theorem iU {h : Heap} {x : Obj} (k : Nat) (hx : ∀ i, x ≠ .pair i) : items h k x = if x = .nil then some [] else none := by
 cases x with
 | nil => cases k <;> rfl
 | pair i => exact absurd rfl (hx i)
 | int z => cases k <;> rfl
 | name z => cases k <;> rfl
 | fn z => cases k <;> rfl
 | prim z => cases k <;> rfl
theorem Chain.items {h : Heap} {x : Obj} {n : Nat} (c : Chain h x n) : ∀ {k j : Nat}, n <= k -> n <= j -> items h k x = items h j x := by
 induction c with
 | plain n hx => intro k j _ _; rw [iU k hx, iU j hx]
 | @pair i n c ih =>
  intro k j hk hj
  obtain ⟨k', rfl⟩ : ∃ k', k = k' + 1 := ⟨k - 1, by omega⟩
  obtain ⟨j', rfl⟩ : ∃ j', j = j' + 1 := ⟨j - 1, by omega⟩
  rw [Sg02.items, Sg02.items, ih (k := k') (j := j') (by omega) (by omega)]
def ji (h : Heap) : Prop := ∀ i j, (h.bind i).2.2 = some j -> j < i
def jI : Env -> Nat
 | none => 0
 | some i => i + 1
def lk (h : Heap) (g : Nat -> Option Obj) (e : Env) (n : Nat) : Option Obj := lookup h g (jI e) e n
theorem nX {h : Heap} (o : ji h) (g : Nat -> Option Obj) (n : Nat) : ∀ (k j : Nat) (e : Env), jI e <= k -> jI e <= j -> lookup h g k e n = lookup h g j e n
 | k, j, none, _, _ => by cases k <;> cases j <;> rfl
 | 0, j, some i, hk, _ => absurd hk (by simp [jI])
 | k + 1, 0, some i, _, hj => absurd hj (by simp [jI])
 | k + 1, j + 1, some i, hk, hj => by
  rw [lookup, lookup]
  by_cases c : (h.bind i).1 = n
  ·rw [if_pos c, if_pos c]
  ·rw [if_neg c, if_neg c]
   have hk : i + 1 <= k + 1 := hk
   have hj : i + 1 <= j + 1 := hj
   refine nX o g n k j _ ?_ ?_ <;>
   ·cases e : (h.bind i).2.2 with
    | none => exact Nat.zero_le _
    | some m => have := o i m e; show m + 1 <= _; omega
theorem sx {h : Heap} (o : ji h) (g : Nat -> Option Obj) (n k : Nat) (e : Env) (hk : jI e <= k) : lookup h g k e n = lk h g e n := nX o g n k _ e hk (zA0 _)
theorem Fc (h : Heap) (g : Nat -> Option Obj) (n : Nat) : lk h g none n = g n := rfl
theorem Fb {h : Heap} (o : ji h) (g : Nat -> Option Obj) (n i : Nat) : lk h g (some i) n = if (h.bind i).1 = n then some (h.bind i).2.1 else lk h g (h.bind i).2.2 n := by
 show lookup h g (i + 1) (some i) n = _
 rw [lookup]
 by_cases c : (h.bind i).1 = n
 ·rw [if_pos c, if_pos c]
 ·rw [if_neg c, if_neg c]
  refine sx o g n i _ ?_
  cases e : (h.bind i).2.2 with
  | none => exact Nat.zero_le _
  | some m => have := o i m e; show m + 1 <= _; omega
inductive Bound (h : Heap) : Env -> List Nat -> List Obj -> Env -> Prop where
 | nil (e : Env) : Bound h e [] [] e
 | cons {e e' : Env} {n i : Nat} {x : Obj} {ns : List Nat} {xs : List Obj} (hb : h.bind i = (n, x, e)) (hi : i < h.next) (r : Bound h (some i) ns xs e') : Bound h e (n :: ns) (x :: xs) e'
noncomputable def dD : List Nat -> List Obj -> Nat -> Option Obj
 | n :: ns, x :: xs, m => (match dD ns xs m with
  | some y => some y
  | none => if n = m then some x else none)
 | _, _, _ => none
theorem Bound.lk {h : Heap} (o : ji h) (g : Nat -> Option Obj) (m : Nat) {e e' : Env} {ns : List Nat} {xs : List Obj} (b : Bound h e ns xs e') : lk h g e' m = (match dD ns xs m with
  | some y => some y
  | none => Lsp.lk h g e m) := by
 induction b with
 | nil e => rfl
 | @cons e e' n i x ns xs hb hi r ih =>
  rw [ih]
  have e1 : dD (n :: ns) (x :: xs) m = (match dD ns xs m with
   | some y => some y
   | none => if n = m then some x else none) := rfl
  rw [e1]
  cases dD ns xs m with
  | some y => rfl
  | none =>
   show Lsp.lk h g (some i) m = _
   rw [Fb o, hb]
   by_cases c : n = m
   ·rw [if_pos c, if_pos c]
   ·rw [if_neg c, if_neg c]
structure lP (h h' : Heap) : Prop where
 next : h.next <= h'.next
 pair : ∀ i, i < h.next -> h'.pair i = h.pair i
 fn : ∀ i, i < h.next -> h'.fn i = h.fn i
 bind : ∀ i, i < h.next -> h'.bind i = h.bind i
theorem lP.refl (h : Heap) : lP h h := ⟨zA0 _, fun _ _ => rfl, fun _ _ => rfl, fun _ _ => rfl⟩
theorem lP.trans {a b c : Heap} (x : lP a b) (y : lP b c) : lP a c :=
 ⟨Nat.le_trans x.next y.next, fun i hi => (y.pair i (Nat.lt_of_lt_of_le hi x.next)).trans (x.pair i hi), fun i hi => (y.fn i (Nat.lt_of_lt_of_le hi x.next)).trans (x.fn i hi), fun i hi => (y.bind i (Nat.lt_of_lt_of_le hi x.next)).trans (x.bind i hi)⟩
theorem bH {α : Type} (f : Nat -> α) (i : Nat) (x : α) : put f i x i = x := if_pos rfl
theorem bY {α : Type} (f : Nat -> α) {i j : Nat} (x : α) (h : j ≠ i) : put f i x j = f j := if_neg h
theorem lP.cons (h : Heap) (a d : Obj) : lP h (h.cons a d).1 :=
 ⟨Nat.le_succ _, fun i hi => bY _ _ (Nat.ne_of_lt hi), fun _ _ => rfl, fun _ _ => rfl⟩
def addFn (h : Heap) (ns : List Nat) (b : Obj) (e : Env) : Heap := { h with fn := put h.fn h.next (ns, b, e), next := h.next + 1 }
theorem lP.addFn (h : Heap) (ns : List Nat) (b : Obj) (e : Env) : lP h (Lsp.addFn h ns b e) :=
 ⟨Nat.le_succ _, fun _ _ => rfl, fun i hi => bY _ _ (Nat.ne_of_lt hi), fun _ _ => rfl⟩
def gT (h : Heap) (n : Nat) (x : Obj) (e : Env) : Heap := { h with bind := put h.bind h.next (n, x, e), next := h.next + 1 }
theorem lP.gT (h : Heap) (n : Nat) (x : Obj) (e : Env) : lP h (Lsp.gT h n x e) :=
 ⟨Nat.le_succ _, fun _ _ => rfl, fun _ _ => rfl, fun i hi => bY _ _ (Nat.ne_of_lt hi)⟩
theorem eV (h : Heap) (e : Env) (n : Nat) (x : Obj) (ns : List Nat) (xs : List Obj) : bindAll h e (n :: ns) (x :: xs) = bindAll (gT h n x e) (some h.next) ns xs := by rw [bindAll]; rfl
theorem gQ : ∀ (ns : List Nat) (xs : List Obj) (h : Heap) (e : Env), lP h (bindAll h e ns xs).1
 | [], xs, h, e => by rw [bindAll]; exact .refl h; intros; simp_all
 | n :: ns, [], h, e => by rw [bindAll]; exact .refl h; intros; simp_all
 | n :: ns, x :: xs, h, e => by
  rw [eV]
  exact (lP.gT h n x e).trans (gQ ns xs _ _)
theorem Bound.mono {h h' : Heap} (l : lP h h') {e e' : Env} {ns : List Nat} {xs : List Obj} (b : Bound h e ns xs e') : Bound h' e ns xs e' := by
 induction b with
 | nil e => exact .nil e
 | cons hb hi r ih => exact .cons ((l.bind _ hi).trans hb) (Nat.lt_of_lt_of_le hi l.next) ih
theorem jJ : ∀ (ns : List Nat) (xs : List Obj) (h : Heap) (e : Env), ns.length = xs.length -> Bound (bindAll h e ns xs).1 e ns xs (bindAll h e ns xs).2
 | [], [], h, e, _ => by rw [bindAll]; exact .nil e; intros; simp_all
 | [], _ :: _, _, _, hl => by simp at hl
 | _ :: _, [], _, _, hl => by simp at hl
 | n :: ns, x :: xs, h, e, hl => by
  rw [eV]
  have le := gQ ns xs (gT h n x e) (some h.next)
  refine .cons (i := h.next) ?_ (Nat.lt_of_lt_of_le (Nat.lt_succ_self _) le.next) (jJ ns xs _ _ (by simpa using hl))
  rw [le.bind _ (Nat.lt_succ_self _)]
  exact bH _ _ _
theorem Chain.up {h h' : Heap} (l : lP h h') (ol : ∀ i j, i < h.next -> (h.pair i).2 = .pair j -> j < h.next) {x : Obj} {n : Nat} (c : Chain h x n) : (∀ i, x = .pair i -> i < h.next) -> Chain h' x n := by
 induction c with
 | @plain x n np => intro _; exact .plain n np
 | @pair i n c ih =>
  intro hx
  refine .pair ?_
  have hi := hx i rfl
  rw [l.pair i hi]
  exact ih fun j e => ol i j hi e
def df (h : Heap) : List Obj -> Obj -> Heap × Obj
 | [], x => (h, x)
 | o :: os, x => (df h os x).1.cons o (df h os x).2
end Lsp
namespace Lsp
open PySem Spec PyProof.Rows L2
def bz (b : Sg02.Bytes) : List Int := b.map fun c => (c.toNat : Int)
def bE (b : Sg02.Bytes) : List Key := (bz b).map Sum.inl
theorem fg (b : Sg02.Bytes) : (bE b).map kV = (bz b).map V.int := by
 unfold bE
 rw [List.map_map]
 rfl
theorem uP {a b : Sg02.Bytes} (h : bz a = bz b) : a = b := by
 unfold bz at h
 refine List.map_inj_right (fun x y e => ?_) |>.mp h
 exact UInt8.toNat_inj.mp (by omega)
theorem iS {a b : Sg02.Bytes} (h : bE a = bE b) : a = b := by
 unfold bE at h
 exact uP ((List.map_inj_right fun x y e => Sum.inl.inj e).mp h)
structure Mp where
 pa : Nat -> Option Addr
 fa : Nat -> Option Addr
 qa : Nat -> Option Addr
 im : Addr -> Prop
structure Ad where
 cP : Addr
 cF : Addr
 cQ : Addr
 cB : Addr
noncomputable def pairF (a d : V) : List (Str × V) := br "tail" d (br "head" a [])
noncomputable def LB (n b e : V) : List (Str × V) := br "bindings" e (br "body" b (br "names" n []))
noncomputable def z8 (n : V) : List (Str × V) := br "name" n []
noncomputable def Gu (b o : V) : List (Str × V) := br "outer" o (br "bound" b [])
def nM (K : W.Frag) (a : Addr) (xs : List V) : Prop :=
 ∃ (o : PySem.Obj) (aF : Array Value) (n : Nat), K.lookup a = some o /\ o.cls = .type "tuple" /\ o.data = .seq aF n /\ aF.size <= sizeLine /\ Vals xs aF.toList
section
variable (P : Program) (w : World) (A : Ad) (K : W.Frag) (H : Hp) (ns : List Sg02.Bytes) (μ : Mp)
def nJ (a : Addr) (b : Sg02.Bytes) : Prop := nM K a ((bz b).map V.int) \/ (μ.im a /\ H a = some (.tup ((bz b).map V.int)))
def VR : Sg02.Obj -> V -> Prop
 | .nil, v => v = .bf
 | .int z, v => v = .int z /\ Sg02.inRange z = true
 | .name n, v => ∃ (a : Addr) (b : Sg02.Bytes), v = .ref a /\ ns[n]? = some b /\ nJ K H μ a b
 | .pair i, v => ∃ a, v = .ref a /\ μ.pa i = some a
 | .fn i, v => ∃ a, v = .ref a /\ μ.fa i = some a
 | .prim k, v => ∃ a, v = .ref a /\ μ.qa k = some a
structure rJ (nl : List Nat) (xs : List Sg02.Obj) (kvs : Tab) : Prop where
 keys : ∀ p ∈ kvs, ∃ (n : Nat) (b : Sg02.Bytes), ns[n]? = some b /\ p.1 = bE b /\ nJ K H μ p.2.1 b
 Bd : ∀ n ∈ nl, n < ns.length
 val : ∀ (n : Nat) (b : Sg02.Bytes), ns[n]? = some b -> match dD nl xs n with
  | some x => ∃ v, cq kvs (bE b) = some v /\ VR K H ns μ x v
  | none => cq kvs (bE b) = none
inductive qD (h : Sg02.Heap) : Nat -> Sg02.Env -> V -> Prop where
 | top : qD h 0 none .bf
 | vX {n : Nat} {e e' : Sg02.Env} {b d dx : Addr} {o : V} {kvs : Tab} {nl : List Nat} {xs : List Sg02.Obj} (ib : μ.im b) (hb : H b = some (.ins A.cB dx (Gu (.ref d) o))) (id : μ.im d) (hd : H d = some (TD P w d kvs))
   (ho : qD h n e' o) (bd : Bound h e' nl xs e) (tb : rJ K H ns μ nl xs kvs) : qD h (n + 1) e (.ref b)
def jF (h : Sg02.Heap) (e : Sg02.Env) (v : V) : Prop := ∃ n, qD P w A K H ns μ h n e v
structure fJ : Prop where
 nd : ns.Nodup
 known : ∀ i, i < 16 -> ns[i]? = Sg02.known[i]?
 ne : ∀ b ∈ ns, b ≠ []
 le : ∀ b ∈ ns, b.length <= 15
structure WR (h : Sg02.Heap) (B : Nat) : Prop where
 pairs : ∀ i a, μ.pa i = some a -> i < h.next /\ μ.im a /\ (∃ dx v1 v2, H a = some (.ins A.cP dx (pairF v1 v2)) /\ VR K H ns μ (h.pair i).1 v1 /\ VR K H ns μ (h.pair i).2 v2) /\ Chain h (.pair i) B
 qT : ∀ i j a, μ.pa i = some a -> μ.pa j = some a -> i = j
 fns : ∀ i a, μ.fa i = some a -> i < h.next /\ μ.im a /\ ∃ dx l vb ve vs, H a = some (.ins A.cF dx (LB (.ref l) vb ve)) /\ μ.im l /\ H l = some (.lst vs) /\ Paired (fun n v => VR K H ns μ (.name n) v) (h.fn i).1 vs /\ VR K H ns μ (h.fn i).2.1 vb /\ jF P w A K H ns μ h (h.fn i).2.2 ve
 r6 : ∀ i j a, μ.fa i = some a -> μ.fa j = some a -> i = j
 e8 : ∀ k a, μ.qa k = some a -> k < 10 /\ μ.im a /\ ∃ dx t, H a = some (.ins A.cQ dx (z8 (.ref t))) /\ nM K t ((bz (Sg02.ascii (Sg02.primitives.getD k ""))).map V.int)
 qS : ∀ i j a, μ.qa i = some a -> μ.qa j = some a -> i = j
 gp : Al h
 low : ∀ i j, (h.pair i).2 = .pair j -> j < h.next
 fi : ji h
 names : fJ ns
 cn : B <= h.next
 y9 : ∀ a, μ.im a -> ∃ o, H a = some o
end
def bF (μ : Mp) (H H' : Hp) : Prop := ∀ a o, μ.im a -> H a = some o -> H' a = some o
structure dB (μ μ' : Mp) : Prop where
 pa : ∀ i a, μ.pa i = some a -> μ'.pa i = some a
 fa : ∀ i a, μ.fa i = some a -> μ'.fa i = some a
 qa : ∀ i a, μ.qa i = some a -> μ'.qa i = some a
 im : ∀ a, μ.im a -> μ'.im a
theorem dB.refl (μ : Mp) : dB μ μ := ⟨fun _ _ h => h, fun _ _ h => h, fun _ _ h => h, fun _ h => h⟩
theorem dB.trans {a b c : Mp} (x : dB a b) (y : dB b c) : dB a c := ⟨fun i a h => y.pa i a (x.pa i a h), fun i a h => y.fa i a (x.fa i a h), fun i a h => y.qa i a (x.qa i a h), fun a h => y.im a (x.im a h)⟩
def jg (ns ju : List Sg02.Bytes) : Prop := ∀ (n : Nat) b, ns[n]? = some b -> ju[n]? = some b
theorem jg.refl (ns : List Sg02.Bytes) : jg ns ns := fun _ _ h => h
theorem jg.trans {a b c : List Sg02.Bytes} (x : jg a b) (y : jg b c) : jg a c := fun n z h => y n z (x n z h)
section
variable {P : Program} {w : World} {A : Ad} {K : W.Frag} {H H' : Hp} {ns ju : List Sg02.Bytes} {μ μ' : Mp} {h h' : Sg02.Heap} {B : Nat}
theorem nJ.mono {a : Addr} {b : Sg02.Bytes} (x : nJ K H μ a b) (m : dB μ μ') (i : bF μ H H') : nJ K H' μ' a b := x.imp id fun ⟨z, e⟩ => ⟨m.im a z, i a _ z e⟩
theorem nJ.sq {a : Addr} {b : Sg02.Bytes} (x : nJ K H μ a b) : ft K H a ((bz b).map V.int) := x.elim (fun z => .inr z) fun z => .inl (.inl z.2)
theorem VR.mono {x : Sg02.Obj} {v : V} (r : VR K H ns μ x v) (m : dB μ μ') (i : bF μ H H') (n : jg ns ju) : VR K H' ju μ' x v := by
 cases x with
 | nil => exact r
 | int z => exact r
 | name k => obtain ⟨a, b, e, e1, e2⟩ := r; exact ⟨a, b, e, n k b e1, e2.mono m i⟩
 | pair k => obtain ⟨a, e, e1⟩ := r; exact ⟨a, e, m.pa k a e1⟩
 | fn k => obtain ⟨a, e, e1⟩ := r; exact ⟨a, e, m.fa k a e1⟩
 | prim k => obtain ⟨a, e, e1⟩ := r; exact ⟨a, e, m.qa k a e1⟩
theorem bG {α : Type} {l : List α} {i : Nat} {x : α} (h : l[i]? = some x) : i < l.length := (List.getElem?_eq_some_iff.mp h).1
theorem sy : ∀ {nl : List Nat} {xs : List Sg02.Obj} {n : Nat} {x : Sg02.Obj}, dD nl xs n = some x -> n ∈ nl
 | [], xs, n, x, h => by simp [dD] at h
 | m :: nl, [], n, x, h => by simp [dD] at h
 | m :: nl, y :: xs, n, x, h => by
  unfold dD at h
  split at h
  ·rename_i z e
   exact zA1 _ (sy e)
  ·split at h
   ·rename_i e
    rw [e]; exact zA2
   ·cases h
theorem rJ.mono {nl : List Nat} {xs : List Sg02.Obj} {kvs : Tab} (t : rJ K H ns μ nl xs kvs) (m : dB μ μ') (i : bF μ H H') (n : jg ns ju) (nd : ju.Nodup) : rJ K H' ju μ' nl xs kvs := by
 refine ⟨fun p hp => ?_, fun k hk => ?_, fun k b e => ?_⟩
 ·obtain ⟨k, b, e1, e2, e3⟩ := t.keys p hp
  exact ⟨k, b, n k b e1, e2, e3.mono m i⟩
 ·have hk := t.Bd k hk
  exact bG (n k _ (List.getElem?_eq_getElem hk))
 ·by_cases hk : k < ns.length
  ·have e0 := List.getElem?_eq_getElem hk
   have e1 := n k _ e0
   rw [e] at e1
   have eb : b = ns[k] := Option.some.inj e1
   subst eb
   have v := t.val k _ e0
   cases q : dD nl xs k with
   | none => rw [q] at v; exact v
   | some x =>
    rw [q] at v
    obtain ⟨u, v1, v2⟩ := v
    exact ⟨u, v1, v2.mono m i n⟩
  ·have q : dD nl xs k = none := by
    cases q : dD nl xs k with
    | none => rfl
    | some x => exact absurd (t.Bd k (sy q)) hk
   rw [q]
   show cq kvs (bE b) = none
   cases z : cq kvs (bE b) with
   | none => rfl
   | some v =>
    exfalso
    unfold cq at z
    obtain ⟨p, hp, _⟩ := Option.map_eq_some_iff.mp z
    have hm := List.mem_of_find?_eq_some hp
    have Nd := List.find?_some hp
    obtain ⟨j, c, e1, e2, _⟩ := t.keys p hm
    have ec : c = b := iS (e2.symm.trans (of_decide_eq_true Nd))
    subst ec
    have e3 := n j c e1
    have : j = k := su nd e3 e
    subst this
    exact hk (bG e1)
theorem qD.mono {k : Nat} {e : Sg02.Env} {v : V} (r : qD P w A K H ns μ h k e v) (m : dB μ μ') (i : bF μ H H') (n : jg ns ju) (nd : ju.Nodup) (l : lP h h') : qD P w A K H' ju μ' h' k e v := by
 induction r with
 | top => exact .top
 | vX ib hb Lu hd ho bd tb ih => exact .vX (m.im _ ib) (i _ _ ib hb) (m.im _ Lu) (i _ _ Lu hd) ih (bd.mono l) (tb.mono m i n nd)
theorem jF.mono {e : Sg02.Env} {v : V} (r : jF P w A K H ns μ h e v) (m : dB μ μ') (i : bF μ H H') (n : jg ns ju) (nd : ju.Nodup) (l : lP h h') : jF P w A K H' ju μ' h' e v :=
 r.imp fun _ z => z.mono m i n nd l
theorem aE {α β : Type} {F G : α -> β -> Prop} {l₁ : List α} {l₂ : List β} (p : Paired F l₁ l₂) (f : ∀ a b, F a b -> G a b) : Paired G l₁ l₂ := L2.Paired.Ht p f
theorem WR.mono (W : WR P w A K H ns μ h B) (i : bF μ H H') : WR P w A K H' ns μ h B := by
 have m := dB.refl μ
 have n := jg.refl ns
 have nd := W.names.nd
 refine ⟨fun k a e => ?_, W.qT, fun k a e => ?_, W.r6, fun k a e => ?_, W.qS, W.gp, W.low, W.fi, W.names, W.cn, fun a z => let ⟨o, e⟩ := W.y9 a z; ⟨o, i a o z e⟩⟩
 ·obtain ⟨h1, h2, ⟨dx, v1, v2, h3, h4, h5⟩, h6⟩ := W.pairs k a e
  exact ⟨h1, h2, ⟨dx, v1, v2, i _ _ h2 h3, h4.mono m i n, h5.mono m i n⟩, h6⟩
 ·obtain ⟨h1, h2, dx, l, vb, ve, vs, h3, h4, h5, h6, h7, h8⟩ := W.fns k a e
  exact ⟨h1, h2, dx, l, vb, ve, vs, i _ _ h2 h3, h4, i _ _ h4 h5, aE h6 fun _ _ z => z.mono m i n, h7.mono m i n, h8.mono m i n nd (.refl h)⟩
 ·obtain ⟨h0, h1, dx, t, h2, h3⟩ := W.e8 k a e
  exact ⟨h0, h1, dx, t, i _ _ h1 h2, h3⟩
theorem WR.more (W : WR P w A K H ns μ h B) (n : jg ns ju) (ok : fJ ju) : WR P w A K H ju μ h B := by
 have m := dB.refl μ
 have i : bF μ H H := fun _ _ _ e => e
 refine ⟨fun k a e => ?_, W.qT, fun k a e => ?_, W.r6, W.e8, W.qS, W.gp, W.low, W.fi, ok, W.cn, W.y9⟩
 ·obtain ⟨h1, h2, ⟨dx, v1, v2, h3, h4, h5⟩, h6⟩ := W.pairs k a e
  exact ⟨h1, h2, ⟨dx, v1, v2, h3, h4.mono m i n, h5.mono m i n⟩, h6⟩
 ·obtain ⟨h1, h2, dx, l, vb, ve, vs, h3, h4, h5, h6, h7, h8⟩ := W.fns k a e
  exact ⟨h1, h2, dx, l, vb, ve, vs, h3, h4, h5, aE h6 fun _ _ z => z.mono m i n, h7.mono m i n, h8.mono m i n ok.nd (.refl h)⟩
noncomputable def Mp.add (μ : Mp) (a : Addr) : Mp := { μ with im := fun b => b = a \/ μ.im b }
noncomputable def Mp.yN (μ : Mp) (i : Nat) (a : Addr) : Mp := { μ with pa := Sg02.put μ.pa i (some a), im := fun b => b = a \/ μ.im b }
noncomputable def Mp.BD (μ : Mp) (i : Nat) (a l : Addr) : Mp := { μ with fa := Sg02.put μ.fa i (some a), im := fun b => b = a \/ b = l \/ μ.im b }
theorem dB.add (μ : Mp) (a : Addr) : dB μ (μ.add a) := ⟨fun _ _ h => h, fun _ _ h => h, fun _ _ h => h, fun _ h => .inr h⟩
theorem VR.jY (W : WR P w A K H ns μ h B) {x : Sg02.Obj} {v : V} (r : VR K H ns μ x v) : ∀ i, x = .pair i -> i < h.next := fun i e => by
 subst e
 obtain ⟨a, _, e⟩ := r
 exact (W.pairs i a e).1
theorem VR.chain (W : WR P w A K H ns μ h B) {x : Sg02.Obj} {v : V} (r : VR K H ns μ x v) : Chain h x B := by
 cases x with
 | pair i =>
  obtain ⟨a, _, e⟩ := r
  exact (W.pairs i a e).2.2.2
 | nil => exact .plain _ (by simp)
 | int z => exact .plain _ (by simp)
 | name z => exact .plain _ (by simp)
 | fn z => exact .plain _ (by simp)
 | prim z => exact .plain _ (by simp)
theorem bF.of_same (s : L2.aK H H') : bF μ H H' := fun a o _ e => s a o e
theorem WR.cons {a d : Sg02.Obj} {va vd : V} {x dx : Addr} (W : WR P w A K H ns μ h B) (ra : VR K H ns μ a va) (rd : VR K H ns μ d vd) (nx : H x = Option.none) (hx : H' x = some (.ins A.cP dx (pairF va vd))) (i : bF μ H H') :
  dB μ (μ.yN h.next x) /\ WR P w A K H' ns (μ.yN h.next x) (h.cons a d).1 (B + 1) /\ VR K H' ns (μ.yN h.next x) (.pair h.next) (.ref x) := by
 have lt : ∀ k b, μ.pa k = some b -> k ≠ h.next := fun k b e => Nat.ne_of_lt (W.pairs k b e).1
 have m : dB μ (μ.yN h.next x) := ⟨fun k b e => (bY _ _ (lt k b e)).trans e, fun _ _ e => e, fun _ _ e => e, fun _ e => .inr e⟩
 have n := jg.refl ns
 have nd := W.names.nd
 have l := lP.cons h a d
 have hp : (h.cons a d).1.pair h.next = (a, d) := bH _ _ _
 have ho : ∀ k, k ≠ h.next -> (h.cons a d).1.pair k = h.pair k := fun k e => bY _ _ e
 have low : ∀ k j, (h.pair k).2 = .pair j -> j < h.next := W.low
 have up : ∀ {z : Sg02.Obj} {c : Nat}, Chain h z c -> (∀ k, z = .pair k -> k < h.next) -> Chain (h.cons a d).1 z c := fun c hz => c.up l (fun k j _ e => low k j e) hz
 refine ⟨m, ⟨fun k b e => ?_, fun k j b e1 e2 => ?_, fun k b e => ?_, W.r6, fun k b e => ?_, W.qS, fun k j e => ?_, fun k j e => ?_, W.fi, W.names, Nat.succ_le_succ W.cn, fun b z => z.elim (fun z => ⟨_, (congrArg H' z).trans hx⟩) fun z => let ⟨o, e⟩ := W.y9 b z; ⟨o, i b o z e⟩⟩, ⟨x, rfl, bH _ _ _⟩⟩
 ·by_cases hk : k = h.next
  ·subst hk
   have eb : x = b := Option.some.inj ((bH μ.pa h.next (some x)).symm.trans e)
   subst eb
   refine ⟨Nat.lt_succ_self _, .inl rfl, ⟨dx, va, vd, hx, ?_, ?_⟩, .pair ?_⟩
   ·rw [hp]; exact ra.mono m i n
   ·rw [hp]; exact rd.mono m i n
   ·rw [hp]; exact up (rd.chain W) (rd.jY W)
  ·have e' : μ.pa k = some b := (bY μ.pa (some x) hk).symm.trans e
   obtain ⟨h1, h2, ⟨dy, v1, v2, h3, h4, h5⟩, h6⟩ := W.pairs k b e'
   refine ⟨Nat.lt_succ_of_lt h1, .inr h2, ⟨dy, v1, v2, i _ _ h2 h3, ?_, ?_⟩, ?_⟩
   ·rw [ho k hk]; exact h4.mono m i n
   ·rw [ho k hk]; exact h5.mono m i n
   ·exact (up h6 (fun j ej => by cases ej; exact h1)).mono (Nat.le_succ _)
 ·have old : ∀ k b, k ≠ h.next -> (μ.yN h.next x).pa k = some b -> μ.pa k = some b /\ b ≠ x := fun k b hk e => by
   have e' : μ.pa k = some b := (bY μ.pa (some x) hk).symm.trans e
   obtain ⟨_, _, ⟨_, _, _, h3, _⟩, _⟩ := W.pairs k b e'
   exact ⟨e', fun z => by rw [z, nx] at h3; cases h3⟩
  have new : ∀ b, (μ.yN h.next x).pa h.next = some b -> b = x := fun b e => (Option.some.inj ((bH μ.pa h.next (some x)).symm.trans e)).symm
  by_cases hk : k = h.next
  ·by_cases hj : j = h.next
   ·rw [hk, hj]
   ·subst hk
    exact absurd (new b e1) (old j b hj e2).2
  ·by_cases hj : j = h.next
   ·subst hj
    exact absurd (new b e2) (old k b hk e1).2
   ·exact W.qT k j b (old k b hk e1).1 (old j b hj e2).1
 ·obtain ⟨h1, h2, dy, q, vb, ve, vs, h3, h4, h5, h6, h7, h8⟩ := W.fns k b e
  exact ⟨Nat.lt_succ_of_lt h1, .inr h2, dy, q, vb, ve, vs, i _ _ h2 h3, .inr h4, i _ _ h4 h5, aE h6 fun _ _ z => z.mono m i n, h7.mono m i n, h8.mono m i n nd l⟩
 ·obtain ⟨h0, h1, dy, t, h2, h3⟩ := W.e8 k b e
  exact ⟨h0, .inr h1, dy, t, i _ _ h1 h2, h3⟩
 ·by_cases hk : k = h.next
  ·subst hk
   rw [hp] at e
   rcases e with e | e
   ·exact ra.jY W j e
   ·exact rd.jY W j e
  ·rw [ho k hk] at e
   exact W.gp k j e
 ·by_cases hk : k = h.next
  ·subst hk
   rw [hp] at e
   exact Nat.lt_succ_of_lt (rd.jY W j e)
  ·rw [ho k hk] at e
   exact Nat.lt_succ_of_lt (W.low k j e)
theorem WR.binds (W : WR P w A K H ns μ h B) (l : lP h h') (ep : h'.pair = h.pair) (ef : h'.fn = h.fn) (bo : ji h') : WR P w A K H ns μ h' B := by
 have m := dB.refl μ
 have i : bF μ H H := fun _ _ _ e => e
 have n := jg.refl ns
 refine ⟨fun k b e => ?_, W.qT, fun k b e => ?_, W.r6, W.e8, W.qS, fun k j e => ?_, fun k j e => ?_, bo, W.names, Nat.le_trans W.cn l.next, W.y9⟩
 ·obtain ⟨h1, h2, ⟨dy, v1, v2, h3, h4, h5⟩, h6⟩ := W.pairs k b e
  refine ⟨Nat.lt_of_lt_of_le h1 l.next, h2, ⟨dy, v1, v2, h3, ?_, ?_⟩, h6.up l (fun k j _ e => W.low k j e) (fun j ej => by cases ej; exact h1)⟩
  ·rw [ep]; exact h4
  ·rw [ep]; exact h5
 ·obtain ⟨h1, h2, dy, q, vb, ve, vs, h3, h4, h5, h6, h7, h8⟩ := W.fns k b e
  refine ⟨Nat.lt_of_lt_of_le h1 l.next, h2, dy, q, vb, ve, vs, h3, h4, h5, ?_, ?_, ?_⟩
  ·rw [ef]; exact h6
  ·rw [ef]; exact h7
  ·rw [ef]; exact h8.mono m i n W.names.nd l
 ·rw [ep] at e; exact W.gp k j e
 ·rw [ep] at e; exact Nat.lt_of_lt_of_le (W.low k j e) l.next
theorem lL : ∀ (nl : List Nat) (xs : List Sg02.Obj) (h : Sg02.Heap) (e : Sg02.Env), (Sg02.bindAll h e nl xs).1.pair = h.pair /\ (Sg02.bindAll h e nl xs).1.fn = h.fn
 | [], xs, h, e => by rw [Sg02.bindAll]; exact ⟨rfl, rfl⟩; intros; simp_all
 | n :: nl, [], h, e => by rw [Sg02.bindAll]; exact ⟨rfl, rfl⟩; intros; simp_all
 | n :: nl, x :: xs, h, e => by rw [eV]; exact lL nl xs _ _
theorem jd : ∀ (nl : List Nat) (xs : List Sg02.Obj) (h : Sg02.Heap) (e : Sg02.Env), ji h -> jI e <= h.next -> ji (Sg02.bindAll h e nl xs).1
 | [], xs, h, e, o, _ => by rw [Sg02.bindAll]; exact o; intros; simp_all
 | n :: nl, [], h, e, o, _ => by rw [Sg02.bindAll]; exact o; intros; simp_all
 | n :: nl, x :: xs, h, e, o, r => by
  rw [eV]
  refine jd nl xs _ _ (fun i j q => ?_) (zA0 _)
  by_cases hi : i = h.next
  ·subst hi
   have e1 : (gT h n x e).bind h.next = (n, x, e) := bH _ _ _
   rw [e1] at q
   have q : e = some j := q
   subst q
   exact r
  ·have e1 : (gT h n x e).bind i = h.bind i := bY _ _ hi
   rw [e1] at q
   exact o i j q
theorem Bound.rank {e e' : Sg02.Env} {nl : List Nat} {xs : List Sg02.Obj} (b : Bound h e nl xs e') : jI e <= h.next -> jI e' <= h.next := by
 induction b with
 | nil e => exact id
 | cons hb hi r ih => exact fun _ => ih hi
theorem qD.rank {k : Nat} {e : Sg02.Env} {v : V} (r : qD P w A K H ns μ h k e v) : jI e <= h.next := by
 induction r with
 | top => exact Nat.zero_le _
 | vX ib hb Lu hd ho bd tb ih => exact bd.rank ih
theorem WR.func {nl : List Nat} {body : Sg02.Obj} {e : Sg02.Env} {x dx l : Addr} {vb ve : V} {vs : List V} (W : WR P w A K H ns μ h B) (rb : VR K H ns μ body vb) (re : jF P w A K H ns μ h e ve) (nx : H x = Option.none)
  (hx : H' x = some (.ins A.cF dx (LB (.ref l) vb ve))) (hl : H' l = some (.lst vs)) (rn : Paired (fun n v => VR K H ns μ (.name n) v) nl vs) (i : bF μ H H') :
  dB μ (μ.BD h.next x l) /\ WR P w A K H' ns (μ.BD h.next x l) (addFn h nl body e) B /\ VR K H' ns (μ.BD h.next x l) (.fn h.next) (.ref x) := by
 have lt : ∀ k b, μ.fa k = some b -> k ≠ h.next := fun k b e => Nat.ne_of_lt (W.fns k b e).1
 have m : dB μ (μ.BD h.next x l) := ⟨fun _ _ e => e, fun k b e => (bY _ _ (lt k b e)).trans e, fun _ _ e => e, fun _ e => .inr (.inr e)⟩
 have n := jg.refl ns
 have nd := W.names.nd
 have le := lP.addFn h nl body e
 have hp : (addFn h nl body e).fn h.next = (nl, body, e) := bH _ _ _
 have ho : ∀ k, k ≠ h.next -> (addFn h nl body e).fn k = h.fn k := fun k e => bY _ _ e
 refine ⟨m, ⟨fun k b e => ?_, W.qT, fun k b e => ?_, fun k j b e1 e2 => ?_, fun k b e => ?_, W.qS, W.gp, fun k j e => Nat.lt_succ_of_lt (W.low k j e), W.fi, W.names, Nat.le_succ_of_le W.cn, fun b z => z.elim (fun z => ⟨_, (congrArg H' z).trans hx⟩) fun z => z.elim (fun z => ⟨_, (congrArg H' z).trans hl⟩) fun z => let ⟨o, e⟩ := W.y9 b z; ⟨o, i b o z e⟩⟩, ⟨x, rfl, bH _ _ _⟩⟩
 ·obtain ⟨h1, h2, ⟨dy, v1, v2, h3, h4, h5⟩, h6⟩ := W.pairs k b e
  exact ⟨Nat.lt_succ_of_lt h1, .inr (.inr h2), ⟨dy, v1, v2, i _ _ h2 h3, h4.mono m i n, h5.mono m i n⟩, h6.up le (fun k j _ e => W.low k j e) (fun j ej => by cases ej; exact h1)⟩
 ·by_cases hk : k = h.next
  ·subst hk
   have eb : x = b := Option.some.inj ((bH μ.fa h.next (some x)).symm.trans e)
   subst eb
   refine ⟨Nat.lt_succ_self _, .inl rfl, dx, l, vb, ve, vs, hx, .inr (.inl rfl), hl, ?_, ?_, ?_⟩
   ·rw [hp]; exact aE rn fun _ _ z => z.mono m i n
   ·rw [hp]; exact rb.mono m i n
   ·rw [hp]; exact re.mono m i n nd le
  ·have e' : μ.fa k = some b := (bY μ.fa (some x) hk).symm.trans e
   obtain ⟨h1, h2, dy, q, Py, Px, Pu, h3, h4, h5, h6, h7, h8⟩ := W.fns k b e'
   refine ⟨Nat.lt_succ_of_lt h1, .inr (.inr h2), dy, q, Py, Px, Pu, i _ _ h2 h3, .inr (.inr h4), i _ _ h4 h5, ?_, ?_, ?_⟩
   ·rw [ho k hk]; exact aE h6 fun _ _ z => z.mono m i n
   ·rw [ho k hk]; exact h7.mono m i n
   ·rw [ho k hk]; exact h8.mono m i n nd le
 ·have old : ∀ k b, k ≠ h.next -> (μ.BD h.next x l).fa k = some b -> μ.fa k = some b /\ b ≠ x := fun k b hk e => by
   have e' : μ.fa k = some b := (bY μ.fa (some x) hk).symm.trans e
   obtain ⟨_, _, _, _, _, _, _, h3, _⟩ := W.fns k b e'
   exact ⟨e', fun z => by rw [z, nx] at h3; cases h3⟩
  have new : ∀ b, (μ.BD h.next x l).fa h.next = some b -> b = x := fun b e => (Option.some.inj ((bH μ.fa h.next (some x)).symm.trans e)).symm
  by_cases hk : k = h.next
  ·by_cases hj : j = h.next
   ·rw [hk, hj]
   ·subst hk
    exact absurd (new b e1) (old j b hj e2).2
  ·by_cases hj : j = h.next
   ·subst hj
    exact absurd (new b e2) (old k b hk e1).2
   ·exact W.r6 k j b (old k b hk e1).1 (old j b hj e2).1
 ·obtain ⟨h0, h1, dy, t, h2, h3⟩ := W.e8 k b e
  exact ⟨h0, .inr (.inr h1), dy, t, i _ _ h1 h2, h3⟩
theorem rJ.empty : rJ K H ns μ [] [] [] := ⟨(fun _ h => nomatch h), (fun _ h => nomatch h), fun _ _ _ => rfl⟩
theorem qe : ∀ (nl : List Nat) (xs : List Sg02.Obj) (n : Nat) (x : Sg02.Obj) (m : Nat), nl.length = xs.length -> dD (nl ++ [n]) (xs ++ [x]) m = if n = m then some x else dD nl xs m
 | [], [], n, x, m, _ => by
  show (match dD [] [] m with | some y => some y | none => if n = m then some x else none) = _
  rfl
 | [], _ :: _, _, _, _, h => by (simp at h)
 | _ :: _, [], _, _, _, h => by (simp at h)
 | k :: nl, y :: xs, n, x, m, h => by
  have ih := qe nl xs n x m (by simpa using h)
  show (match dD (nl ++ [n]) (xs ++ [x]) m with | some y => some y | none => if k = m then some y else none) = _
  rw [ih]
  by_cases c : n = m
  ·rw [if_pos c, if_pos c]
  ·rw [if_neg c, if_neg c]
   rfl
theorem rJ.put {nl : List Nat} {xs : List Sg02.Obj} {kvs : Tab} {n : Nat} {x : Sg02.Obj} {b : Sg02.Bytes} {ba : Addr} {v : V} (t : rJ K H ns μ nl xs kvs) (hl : nl.length = xs.length) (nd : ns.Nodup) (en : ns[n]? = some b) (nb : nJ K H μ ba b) (rx : VR K H ns μ x v) :
  rJ K H ns μ (nl ++ [n]) (xs ++ [x]) (bK kvs (bE b) ba v) := by
 refine ⟨fun p hp => ?_, fun k hk => ?_, fun k c e => ?_⟩
 ·unfold bK at hp
  split at hp
  ·obtain ⟨q, hq, e⟩ := List.mem_map.mp hp
   by_cases z : q.1 = bE b
   ·rw [if_pos z] at e
    subst e
    exact t.keys q hq
   ·rw [if_neg z] at e
    subst e
    exact t.keys q hq
  ·rcases List.mem_append.mp hp with hp | hp
   ·exact t.keys p hp
   ·rw [List.mem_singleton] at hp
    subst hp
    exact ⟨n, b, en, rfl, nb⟩
 ·rcases List.mem_append.mp hk with hk | hk
  ·exact t.Bd k hk
  ·rw [List.mem_singleton] at hk
   subst hk
   exact bG en
 ·rw [qe nl xs n x k hl, uW]
  by_cases c' : n = k
  ·subst c'
   have : b = c := Option.some.inj (en.symm.trans e)
   subst this
   rw [if_pos rfl, if_pos rfl]
   exact ⟨v, rfl, rx⟩
  ·have ne : ¬ bE c = bE b := fun z => by
    have := iS z
    subst this
    exact c' (su nd en e)
   rw [if_neg c', if_neg ne]
   exact t.val k c e
structure DR (P : Program) (w : World) (K : W.Frag) (H : Hp) (ns : List Sg02.Bytes) (μ : Mp) (g : Nat -> Option Sg02.Obj) (d : Addr) (kvs : Tab) : Prop where
 at_ : H d = some (TD P w d kvs)
 keys : ∀ p ∈ kvs, ∃ (n : Nat) (b : Sg02.Bytes), ns[n]? = some b /\ p.1 = bE b /\ nJ K H μ p.2.1 b
 val : ∀ (n : Nat) (b : Sg02.Bytes), ns[n]? = some b -> match g n with
  | some x => ∃ v, cq kvs (bE b) = some v /\ VR K H ns μ x v
  | none => cq kvs (bE b) = none
 Bd : ∀ n, g n ≠ none -> n < ns.length
theorem keysOk {kvs : Tab} (k : ∀ p ∈ kvs, ∃ (n : Nat) (b : Sg02.Bytes), ns[n]? = some b /\ p.1 = bE b /\ nJ K H μ p.2.1 b) : fX K H kvs := fun p hp => by
 obtain ⟨n, b, _, e2, e3⟩ := k p hp
 rw [e2, fg]
 exact e3.sq
end
end Lsp
namespace L2
open PySem Spec PyProof.Rows
section
variable (P : Program) (w : World) (K : W.Frag) (mg : Str -> Option Value) (base : Heap)
def aX (k : Nat) (x : Str) (ps : List Str) (sp : Sp) : Prop := ∃ f fd, mg x = some (.ref f) /\ W.keepIn K (.ref f) = true /\ Binds K fd ps [] /\ fu P w K mg base (fk P w) k f fd ps sp
def FT (x qual : Str) (st : Stmt) (ps : List Str) : Prop := ∃ f fd, mg x = some (.ref f) /\ W.keepIn K (.ref f) = true /\ Binds K fd ps [] /\ FJ K x qual st f fd
end
section
variable {P : Program} {w : World} {K : W.Frag} {mg : Str -> Option Value} {base : Heap}
theorem aX.mono {j k : Nat} {x : Str} {ps : List Str} {sp : Sp} (h : aX P w K mg base j x ps sp) (l : j <= k) : aX P w K mg base k x ps sp := let ⟨f, fd, a, b, c, d⟩ := h; ⟨f, fd, a, b, c, d.mono l⟩
theorem FT.ok {x qual : Str} {st : Stmt} {N ps : List Str} {k : Nat} {sp : Sp} (T : FT K mg x qual st ps) (S : aq N ps (aj st)) (len : ∀ vs H Q E, sp vs H Q E -> vs.length = ps.length)
  (qi : ∀ (f : Addr) (aU : Value) (A : Around) (outer : List Env) (s : Shared) (H : Hp) (vs : List V) (Q : VK) (E : XK), dc k (dU (fk P w) P w K mg base N qual (aj st) f aU A outer s H E).A -> sp vs H Q E ->
   ∃ t, Ak (dU (fk P w) P w K mg base N qual (aj st) f aU A outer s H E) (b8 st) t /\ t { nx := fun _ H' => Q .bf H', rt := Q } (start N vs) H) : aX P w K mg base (k + 1) x ps sp := by
 obtain ⟨f, fd, hm, hk, hb, F⟩ := T
 exact ⟨f, fd, hm, hk, hb, F.Lj S len fun aU A outer s H vs Q E hr wY => qi f aU A outer s H vs Q E hr wY⟩
end
section
variable {X : Cx} {k : Nat} {x : Str} {ps : List Str} {sp : Sp} {E : XK} {p pos : Pos} {e : Expr} {es : List Expr} {t : TA}
theorem aW (F : aX X.prog X.w X.K X.mg X.base k x ps sp) (hr : dc k X.A) (hg : Gl X x) (hx : Passes (fk X.prog X.w) X E) (ha : PA X (e :: es) t) (wk : (x == ("__debug__" : Str)) = false := by decide)
  (he : starEach (e :: es) X.env = (false, eval e X.env) :: starEach es X.env := by rfl) (wb : (backTo pos (starEach es X.env)).any (·.1) = false := by rfl) : PE X (.Call (.Name x p) (e :: es) [] pos) (zc sp [] E t) := by
 obtain ⟨f, fd, hm, hk, hb, G⟩ := F
 exact EG G hr hg hm hk hb .nil hx ha wk he wb
theorem JN (F : aX X.prog X.w X.K X.mg X.base k x ps sp) (hr : dc k X.A) (hg : Gl X x) (hx : Passes (fk X.prog X.w) X E) (wk : (x == ("__debug__" : Str)) = false := by decide) : PE X (.Call (.Name x p) [] [] pos) (zc sp [] E tq) := by
 obtain ⟨f, fd, hm, hk, hb, G⟩ := F
 exact CC G hr hg hm hk hb .nil hx wk
end
def Cm (C : Addr) (g : List V -> Hp -> (List (Str × V) -> Hp -> Prop) -> Prop) (n : Nat) : Sp := fun vs H Q _ => ∃ (p dx : Addr) (us : List V), vs = .ref p :: us /\ us.length = n /\ H p = some (.ins C dx []) /\ g us H fun fs H1 => ∀ H2 : Hp, H2 p = some (.ins C dx fs) -> (∀ b o, H1 b = some o -> b ≠ p -> H2 b = some o) -> Q .bf H2
structure CT (K : W.Frag) (mg : Str -> Option Value) (x : Str) (C : Addr) (fields : List Str) : Prop where
 kg : mg x = some (.ref C)
 cl : Ej K C
 na : ∀ f ∈ fields, jf K C f
 O7 : W.makesIn K C = true
 kp : W.keepIn K (.ref C) = true
def CI (K : W.Frag) (C : Addr) (qual : Str) (st : Stmt) (ps : List Str) : Prop := ∃ f fd, W.findIn K (.ref C) "__init__" = some (some (.ref f)) /\ W.isFn K (.ref f) = true /\ Binds K fd ps [] /\ FJ K "__init__" qual st f fd
def fK (P : Program) (w : World) (K : W.Frag) (mg : Str -> Option Value) (base : Heap) (x : Str) (C : Addr) (n : Nat) (g : List V -> Hp -> (List (Str × V) -> Hp -> Prop) -> Prop) : Prop :=
 ∃ f fd ps, mg x = some (.ref C) /\ Mk K C f /\ Binds K fd ps [] /\ fu P w K mg base (fk P w) 1 f fd ps (Cm C g n)
section
variable {P : Program} {w : World} {K : W.Frag} {mg : Str -> Option Value} {base : Heap}
theorem CI.ok {x qual : Str} {st : Stmt} {N ps : List Str} {C : Addr} {fields : List Str} {n : Nat} {g : List V -> Hp -> (List (Str × V) -> Hp -> Prop) -> Prop} (T : CI K C qual st ps) (c : CT K mg x C fields) (S : aq N ps (aj st)) (hn : ps.length = n + 1)
  (qi : ∀ (f : Addr) (aU : Value) (A : Around) (outer : List Env) (s : Shared) (H : Hp) (p dx : Addr) (us : List V) (Q : VK) (E : XK), us.length = n -> H p = some (.ins C dx []) -> (g us H fun fs H1 => ∀ H2 : Hp, H2 p = some (.ins C dx fs) -> (∀ b o, H1 b = some o -> b ≠ p -> H2 b = some o) -> Q .bf H2) ->
   ∃ t, Ak (dU (fk P w) P w K mg base N qual (aj st) f aU A outer s H E) (b8 st) t /\ t { nx := fun _ H' => Q .bf H', rt := Q } (start N (.ref p :: us)) H) : fK P w K mg base x C n g := by
 obtain ⟨f, fd, h1, h2, hb, F⟩ := T
 refine ⟨f, fd, ps, c.kg, ⟨c.O7, h1, h2, c.kp⟩, hb, F.Lj S (fun vs H Q E h => ?_) fun aU A outer s H vs Q E hr wY => ?_⟩
 ·obtain ⟨p, dx, us, rfl, hl, _⟩ := h
  rw [hn, List.length_cons, hl]
 ·obtain ⟨p, dx, us, rfl, hl, hp, q⟩ := wY
  exact qi f aU A outer s H p dx us Q E hl hp q
end
section
variable {X : Cx} {x : Str} {C : Addr} {n : Nat} {g : List V -> Hp -> (List (Str × V) -> Hp -> Prop) -> Prop} {E : XK} {p pos : Pos} {e : Expr} {es : List Expr} {t : TA}
theorem xY {H1 : Hp} {vs : List V} {Q : VK} (h : vs.length = n /\ ∀ x dx xb, H1 x = none -> H1 dx = none -> dx ≠ x -> aK H1 xb -> (∀ b, b ≠ x -> b ≠ dx -> xb b = H1 b) -> xb x = some (.ins C dx []) ->
  g vs xb fun fs H2 => ∀ H3 : Hp, H3 x = some (.ins C dx fs) -> (∀ b o, H2 b = some o -> b ≠ x -> H3 b = some o) -> Q (.ref x) H3)
  (gm : ∀ us H R R', (∀ fs H, R fs H -> R' fs H) -> g us H R -> g us H R') :
  ∀ x dx, H1 x = none -> H1 dx = none -> dx ≠ x -> Cm C g n (.ref x :: (vs ++ [])) (upd (upd H1 dx (.own x)) x (.ins C dx [])) (fun v H2 => v = .bf /\ Q (.ref x) H2) E := by
 intro x dx nx nd ne
 refine ⟨x, dx, vs, by rw [List.append_nil], h.1, ah, ?_⟩
 refine gm _ _ _ _ (fun fs H2 q => fun H3 a b => ⟨rfl, q H3 a b⟩) (h.2 x dx _ nx nd ne (fun b o e => ?_) (fun b h1 h2 => ?_) ah)
 ·rw [ak (aI e nx), ak (aI e nd)]
  exact e
 ·rw [ak h1, ak h2]
end
def jx (fs : List V -> List (Str × V)) : List V -> Hp -> (List (Str × V) -> Hp -> Prop) -> Prop := fun us H R => R (fs us) H
theorem Dq (fs : List V -> List (Str × V)) : ∀ us H (R R' : List (Str × V) -> Hp -> Prop), (∀ f H, R f H -> R' f H) -> jx fs us H R -> jx fs us H R' := fun _ _ _ _ h q => h _ _ q
theorem JV {C : Addr} {n : Nat} {fs : List V -> List (Str × V)} {vs : List V} {H1 : Hp} {Q : VK} (hl : vs.length = n) (h : ∀ x dx H3, H1 x = none -> H3 x = some (.ins C dx (fs vs)) -> aK H1 H3 -> Q (.ref x) H3) :
  vs.length = n /\ ∀ x dx xb, H1 x = none -> H1 dx = none -> dx ≠ x -> aK H1 xb -> (∀ b, b ≠ x -> b ≠ dx -> xb b = H1 b) -> xb x = some (.ins C dx []) ->
   jx fs vs xb fun fs H2 => ∀ H3 : Hp, H3 x = some (.ins C dx fs) -> (∀ b o, H2 b = some o -> b ≠ x -> H3 b = some o) -> Q (.ref x) H3 :=
 ⟨hl, fun x dx xb nx nd ne sm _ hx H3 h3 k => h x dx H3 nx h3 fun b o e => k b o (sm b o e) (aI e nx)⟩
def Jy (C : Addr) (fs : List V -> List (Str × V)) (n : Nat) (t : TA) : TE := fun σ H Q => t σ H fun vs H1 => vs.length = n /\ ∀ x dx H3, H1 x = none -> H3 x = some (.ins C dx (fs vs)) -> aK H1 H3 -> Q (.ref x) H3
section
variable {X : Cx} {x : Str} {C : Addr} {n : Nat} {fs : List V -> List (Str × V)} {E : XK} {p pos : Pos} {e : Expr} {es : List Expr} {t : TA}
theorem b6 (M : fK X.prog X.w X.K X.mg X.base x C n (jx fs)) (hr : dc 2 X.A) (hg : Gl X x) (hx : Passes (fk X.prog X.w) X E) (ha : PA X (e :: es) t) (wk : (x == ("__debug__" : Str)) = false := by decide)
  (he : starEach (e :: es) X.env = (false, eval e X.env) :: starEach es X.env := by rfl) (wb : (backTo pos (starEach es X.env)).any (·.1) = false := by rfl) : PE X (.Call (.Name x p) (e :: es) [] pos) (Jy C fs n t) := by
 obtain ⟨f, fd, ps, hm, M, hb, G⟩ := M
 intro pins s σ H Q I h
 refine wpAny_Call_Name_kw (fF I hg hm ?_ wk)
 refine W.callWith_K (h₀ := X.base) I.ok.mod.IU M.kp (bI (ha pos pins s σ H _ I h) fun us s1 ⟨vs, H1, I1, r, q⟩ => ⟨I1.gu, ?_⟩) he wb
 exact lh (E := E) M G hr hb .nil hx I1 r (xY (JV q.1 q.2) (Dq fs))
end
end L2
namespace Lsp
open PySem L2
def top (i : Nat) : Stmt := PySem.Challenge.pw_smalllisp_s01_answers.main.body.getD i (.Pass ⟨0, 0, 0, 0⟩)
abbrev iA : Stmt := inClass (top 25) 0
abbrev eI : Stmt := inClass (top 26) 0
abbrev dQ : Stmt := inClass (top 27) 0
abbrev i5 : Stmt := top 28
abbrev my : Stmt := top 29
abbrev mx : Stmt := top 30
abbrev d4 : Stmt := top 31
abbrev s_same : Stmt := top 32
abbrev jS : Stmt := top 33
abbrev tQ : Stmt := top 35
abbrev eC : Stmt := top 36
abbrev mz : Stmt := top 37
abbrev xx : Stmt := top 38
abbrev tS : Stmt := top 39
abbrev tR : Stmt := top 40
abbrev x8 : Stmt := top 41
abbrev tT : Stmt := top 42
abbrev x9 : Stmt := top 43
abbrev cU : Stmt := top 44
abbrev C1 : Stmt := top 45
abbrev C0 : Stmt := top 46
abbrev xA : Stmt := top 47
abbrev s_eq : Stmt := top 48
abbrev d5 : Stmt := top 50
abbrev cK : Stmt := top 51
abbrev eJ : Stmt := inClass (top 53) 0
abbrev ff : Stmt := inClass (top 54) 0
abbrev iB : Stmt := inClass (top 55) 0
abbrev fT : Stmt := inClass (top 56) 0
abbrev eG : Stmt := inClass (top 57) 0
abbrev fS : Stmt := inClass (top 58) 0
abbrev dR : Stmt := inClass (top 59) 0
abbrev mw : Stmt := top 60
abbrev jQ : Stmt := top 61
abbrev iy : Stmt := top 62
abbrev xy : Stmt := top 63
abbrev eB : Stmt := top 64
abbrev gG : Stmt := top 65
abbrev jR : Stmt := top 66
abbrev dj : Stmt := top 67
abbrev fQ : Stmt := top 68
abbrev i7 : Stmt := top 69
abbrev fN : Stmt := top 70
abbrev pG : Stmt := top 71
abbrev gF : Stmt := top 72
abbrev pE : Stmt := top 73
abbrev fR : Stmt := top 74
abbrev dk : Stmt := top 75
abbrev eH : Stmt := inClass (top 93) 0
abbrev fe : Stmt := inClass (top 94) 0
abbrev gE : Stmt := top 95
abbrev fc : Stmt := top 96
abbrev gD : Stmt := top 97
abbrev iz : Stmt := top 98
abbrev fO : Stmt := top 99
abbrev dJ : Stmt := top 100
abbrev mv : Stmt := top 101
abbrev pF : Stmt := top 102
abbrev Cz : Stmt := top 103
abbrev de : Stmt := top 104
abbrev dI : Stmt := top 105
abbrev i6 : Stmt := top 106
abbrev cI : Stmt := top 107
abbrev dH : Stmt := top 108
abbrev i9 : Stmt := inClass (top 117) 0
abbrev i8 : Stmt := inClass (top 118) 0
abbrev mq : Stmt := top 119
abbrev gC : Stmt := top 120
abbrev gB : Stmt := top 121
abbrev i4 : Stmt := top 122
abbrev jq : Stmt := top 123
abbrev iC : Stmt := inClass (top 135) 0
abbrev jT : Stmt := top 136
abbrev eR : Stmt := top 137
abbrev dN : Stmt := top 138
abbrev d6 : Stmt := top 139
abbrev c8 : Stmt := top 140
abbrev dP : Stmt := top 141
abbrev eE : Stmt := top 142
abbrev eD : Stmt := top 143
abbrev bX : Stmt := top 144
abbrev dO : Stmt := top 145
abbrev dM : Stmt := top 146
abbrev jr : Stmt := top 148
abbrev fP : Stmt := top 149
end Lsp
namespace Lsp
open PySem Spec PyProof.Rows L2
theorem Fq {K : PySem.W.Frag} {a : Addr} {xs : List V} {g : TG} {tb : TS} {D : Ends} {σ : L2.St} {H : Hp} (Pv : Nat -> L2.St -> Hp -> Prop) (h0 : Pv 0 σ H) (hl : ∀ i σ H, i <= xs.length -> Pv i σ H -> eu K H a xs)
  (hs : ∀ i x σ H, i < xs.length -> xs[xs.length - 1 - i]? = some x -> Pv i σ H -> g x σ H fun σ2 H2 => tb { D with nx := Pv (i + 1), ct := Pv (i + 1), bk := D.nx } σ2 H2) (hd : ∀ σ H, Pv xs.length σ H -> D.nx σ H) :
  ∃ W : Nat -> Nat -> L2.St -> Hp -> Prop, (∃ m, W 0 m σ H) /\ ∀ i m σ H, W i m σ H ->
   ((KS K a xs.length).stop i H /\ D.nx σ H) \/ ((KS K a xs.length).go i H /\ ∃ N : L2.St -> Hp -> Prop, (∀ σ' H', N σ' H' -> ∃ m', m' < m /\ W (i + 1) m' σ' H') /\ ∀ x H', (KS K a xs.length).BP i H x H' -> g x σ H' fun σ2 H2 => tb { D with nx := N, ct := N, bk := D.nx } σ2 H2) := by
 refine ⟨fun i m σ H => m = xs.length - i /\ i <= xs.length /\ Pv i σ H, ⟨xs.length, by simp, Nat.zero_le _, h0⟩, ?_⟩
 rintro i m σ H ⟨rfl, hi, p⟩
 have q := hl i σ H hi p
 by_cases hW : i < xs.length
 ·have hx : xs.length - 1 - i < xs.length := by omega
  refine .inr ⟨⟨hW, xs, xs[xs.length - 1 - i], q, List.getElem?_eq_getElem hx⟩, Pv (i + 1), fun σ' H' p' => ⟨xs.length - (i + 1), by omega, rfl, hW, p'⟩, fun x H' y => ?_⟩
  obtain ⟨e, y⟩ := y
  subst e
  exact hs i x σ _ hW (y xs q) p
 ·have e : i = xs.length := by omega
  subst e
  exact .inl ⟨zA0 _, hd σ H p⟩
theorem eA {α β : Type} {G : α -> β -> Prop} {l₁ : List α} {l₂ : List β} (h : Paired G l₁ l₂) : ∀ {i : Nat} {b : β}, l₂[i]? = some b -> ∃ a, l₁[i]? = some a /\ G a b := by
 induction h with
 | nil => intro i a e; simp at e
 | @cons a b l₁ l₂ r t ih =>
  intro i b' e
  cases i with
  | zero =>
   simp only [List.getElem?_cons_zero, Option.some.injEq] at e
   subst e
   exact ⟨a, rfl, r⟩
  | succ j =>
   simp only [List.getElem?_cons_succ] at e ⊢
   exact ih e
def cv (mg : Str -> Option Value) (x : Str) (n : Int) : Prop := ∃ u, mg x = some u /\ RelV (.int n) u
section
variable {P : Program} {w : World} {K : W.Frag} {mg : Str -> Option Value} {base : Heap}
theorem tN : aq ["self", "head", "tail"] ["self", "head", "tail"] (aj iA) := bQ
noncomputable def sJ : List V -> List (Str × V) := fun us => pairF (us.getD 0 .bf) (us.getD 1 .bf)
theorem EV {C : Addr} (T : CI K C "Pair.__init__" iA ["self", "head", "tail"]) (c : CT K mg "Pair" C ["head", "tail"]) : fK P w K mg base "Pair" C 2 (jx sJ) := by
 refine T.ok c tN rfl fun f aU A outer s H p dx us Q E hl hp q => ?_
 obtain ⟨a, d, rfl⟩ := Hd.n2 hl
 refine ⟨_, af (aP (pv 0) (pv 1) rfl) (ae (aP (pv 0) (pv 2) rfl)), ?_⟩
 refine ⟨_, rfl, _, rfl, p, C, dx, [], rfl, hp, c.cl, c.na _ (by simp), Hd.t0, ?_⟩
 refine ⟨_, rfl, _, rfl, p, C, dx, _, rfl, ah, c.cl, c.na _ (by simp), Hd.t1, ?_⟩
 exact q _ ah fun b o e hb => by rw [ak hb, ak hb]; exact e
theorem mi : aq ["self", "names", "body", "bindings"] ["self", "names", "body", "bindings"] (aj eI) := bQ
noncomputable def Dt : List V -> List (Str × V) := fun us => LB (us.getD 0 .bf) (us.getD 1 .bf) (us.getD 2 .bf)
theorem vR {C : Addr} (T : CI K C "Function.__init__" eI ["self", "names", "body", "bindings"]) (c : CT K mg "Function" C ["names", "body", "bindings"]) : fK P w K mg base "Function" C 3 (jx Dt) := by
 refine T.ok c mi rfl fun f aU A outer s H p dx us Q E hl hp q => ?_
 obtain ⟨a, b, d, rfl⟩ := Hd.n3 hl
 refine ⟨_, af (aP (pv 0) (pv 1) rfl) (af (aP (pv 0) (pv 2) rfl) (ae (aP (pv 0) (pv 3) rfl))), ?_⟩
 refine ⟨_, rfl, _, rfl, p, C, dx, [], rfl, hp, c.cl, c.na _ (by simp), Hd.t0, ?_⟩
 refine ⟨_, rfl, _, rfl, p, C, dx, _, rfl, ah, c.cl, c.na _ (by simp), Hd.t1, ?_⟩
 refine ⟨_, rfl, _, rfl, p, C, dx, _, rfl, ah, c.cl, c.na _ (by simp), Hd.t2, ?_⟩
 exact q _ ah fun b o e hb => by rw [ak hb, ak hb, ak hb]; exact e
theorem lb : aq ["self", "name"] ["self", "name"] (aj dQ) := bQ
noncomputable def Dn : List V -> List (Str × V) := fun us => z8 (us.getD 0 .bf)
theorem uv {C : Addr} (T : CI K C "Primitive.__init__" dQ ["self", "name"]) (c : CT K mg "Primitive" C ["name"]) : fK P w K mg base "Primitive" C 1 (jx Dn) := by
 refine T.ok c lb rfl fun f aU A outer s H p dx us Q E hl hp q => ?_
 obtain ⟨a, rfl⟩ := Hd.n1 hl
 refine ⟨_, ae (aP (pv 0) (pv 1) rfl), ?_⟩
 refine ⟨_, rfl, _, rfl, p, C, dx, [], rfl, hp, c.cl, c.na _ (by simp), Hd.t0, ?_⟩
 exact q _ ah fun b o e hb => by rw [ak hb]; exact e
theorem bIsX : bootBuiltins "isinstance" = some (.builtin "isinstance") := by decide +kernel
def ir (K : W.Frag) (c : Value) : Sp := fun vs H Q _ => ∃ x t b, vs = [x] /\ Iy K H x t /\ W.kitOne K t c = some b /\ Q (.bl b) H
theorem rY {K : W.Frag} {c : Value} : ∀ (vs : List V) (H : Hp) (Q : VK) (E : XK), ir K c vs H Q E -> vs.length = 1 := fun vs H Q E h => by
 obtain ⟨x, t, b, rfl, _⟩ := h
 rfl
theorem tI : aq ["thing"] ["thing"] (aj i5) := bQ
theorem um (T : FT K mg "is_number" "is_number" i5 ["thing"]) (b1 : mg "isinstance" = none) (b2 : mg "int" = none) : aX P w K mg base 1 "is_number" ["thing"] (ir K (.type "int")) := by
 refine T.ok tI rY fun f aU A outer s H vs Q E hr h => ?_
 obtain ⟨x, t, b, rfl, ty, hk, q⟩ := h
 refine ⟨_, ae (a6 (a7 aY (by rfl) b1 bIsX (aa (pv 0) (aa (zC (by rfl) b2 boot_int (v := .ty "int") rfl) ag)))), ?_⟩
 exact ⟨_, rfl, x, .ty "int", t, b, rfl, ty, (fun u hu => by cases hu; exact hk), q⟩
theorem xu : aq ["thing"] ["thing"] (aj my) := bQ
theorem xW (T : FT K mg "is_name" "is_name" my ["thing"]) (b1 : mg "isinstance" = none) (b2 : mg "tuple" = none) : aX P w K mg base 1 "is_name" ["thing"] (ir K (.type "tuple")) := by
 refine T.ok xu rY fun f aU A outer s H vs Q E hr h => ?_
 obtain ⟨x, t, b, rfl, ty, hk, q⟩ := h
 refine ⟨_, ae (a6 (a7 aY (by rfl) b1 bIsX (aa (pv 0) (aa (zC (by rfl) b2 boot_tuple (v := .ty "tuple") rfl) ag)))), ?_⟩
 exact ⟨_, rfl, x, .ty "tuple", t, b, rfl, ty, (fun u hu => by cases hu; exact hk), q⟩
def t7 : Sp := fun vs H Q _ => ∃ z : Int, vs = [.int z] /\ Q (.bl (Sg02.inRange z)) H
theorem jP : aq ["number"] ["number"] (aj d4) := bQ
theorem jZ (T : FT K mg "in_number_range" "in_number_range" d4 ["number"]) (c1 : cv mg "LOWEST" (-2147483648)) (c2 : cv mg "HIGHEST" 2147483647) : aX P w K mg base 1 "in_number_range" ["number"] t7 := by
 obtain ⟨u1, m1, r1⟩ := c1
 obtain ⟨u2, m2, r2⟩ := c2
 refine T.ok jP (fun vs H Q E h => by obtain ⟨z, rfl, _⟩ := h; rfl) fun f aU A outer s H vs Q E hr h => ?_
 obtain ⟨z, rfl, q⟩ := h
 refine ⟨_, ae (a6 (lq gW gW (ax (by rfl) m1 r1) (pv 0) (ax (by rfl) m2 r2))), ?_⟩
 refine ⟨_, rfl, _, _, rfl, rfl, _, rfl, ?_⟩
 unfold Sg02.inRange at q
 by_cases h1 : (-2147483648 : Int) <= z
 ·rw [decide_eq_true h1] at q ⊢
  exact aZ ⟨_, _, rfl, rfl, q⟩
 ·rw [decide_eq_false h1] at q ⊢
  exact aM q
def xm (K : W.Frag) : Sp := fun vs H Q _ => ∃ x y j k, vs = [x, y] /\ jh K H x j /\ jh K H y k /\ Q (.bl (decide (j = k))) H
theorem Ex : aq ["one", "other"] ["one", "other"] (aj s_same) := bQ
theorem EH (T : FT K mg "same" "same" s_same ["one", "other"]) : aX P w K mg base 1 "same" ["one", "other"] (xm K) := by
 refine T.ok Ex (fun vs H Q E h => by obtain ⟨x, y, j, k, rfl, _⟩ := h; rfl) fun f aU A outer s H vs Q E hr h => ?_
 obtain ⟨x, y, j, k, rfl, hj, hk, q⟩ := h
 refine ⟨_, ae (a6 (oO (iJ hr.units) (pv 0) (pv 1) (aH _))), ?_⟩
 exact ⟨_, rfl, _, rfl, j, k, hj, hk, q⟩
def rW (P : Program) (w : World) (A : Ad) (K : W.Frag) : Sp := fun vs H Q _ => ∃ (pl : Addr) (us : List V) (v : V) (os : List Sg02.Obj) (x : Sg02.Obj) (ns : List Sg02.Bytes) (μ : Mp) (h : Sg02.Heap) (B : Nat), vs = [.ref pl, v] /\ eu K H pl us /\ WR P w A K H ns μ h B /\
 Paired (fun o u => VR K H ns μ o u) os us /\ VR K H ns μ x v /\ ∀ (v' : V) (H' : Hp) (μ' : Mp), aK H H' -> dB μ μ' -> (∀ a, μ'.im a -> μ.im a \/ H a = Option.none) -> WR P w A K H' ns μ' (df h os x).1 (B + os.length) -> VR K H' ns μ' (df h os x).2 v' -> Q v' H'
theorem f9 : aq ["parts", "last", "thing", "part"] ["parts", "last"] (aj jS) := bQ
theorem vI {A : Ad} (T : FT K mg "pairs_of" "pairs_of" jS ["parts", "last"]) (b1 : mg "reversed" = none) (M : fK P w K mg base "Pair" A.cP 2 (jx sJ)) : aX P w K mg base 3 "pairs_of" ["parts", "last"] (rW P w A K) := by
 refine T.ok f9 (fun vs H Q E h => by obtain ⟨_, _, _, _, _, _, _, _, _, rfl, _⟩ := h; rfl) fun f aU A' outer s H vs Q E hr h => ?_
 obtain ⟨pl, us, v, os, x, ns, μ, h, B, rfl, hS, W, pr, rx, q⟩ := h
 refine ⟨_, af (aJ (i := 2) f9.nd rfl (Or.inl rfl) (pv 1)) (af (m6 PassesOwn.leaving rfl (vA (by rfl) b1 (aa (pv 0) ag)) (dA (i := 3) f9.nd rfl (Or.inl rfl))
  (ae (aJ (i := 2) f9.nd rfl (Or.inl rfl) (b6 M hr (by rfl) ai (aa (pv 3) (aa (pv 2) ag)))))) (ae (a6 (pv 2)))), ?_⟩
 refine ⟨_, rfl, _, rfl, pl, us, rfl, hS, Fq (K := K) (a := pl) (xs := us) (fun i σ H' => ∃ (v' : V) (u : Option V) (μ' : Mp), σ = [some (.ref pl), some v, some v', u] /\ aK H H' /\ dB μ μ' /\ (∀ a, μ'.im a -> μ.im a \/ H a = Option.none) /\
   WR P w A K H' ns μ' (df h (os.drop (os.length - i)) x).1 (B + i) /\ VR K H' ns μ' (df h (os.drop (os.length - i)) x).2 v') ?_ (fun i σ H' _ ⟨_, _, _, _, sm, _⟩ => sm.seq hS) ?_ ?_⟩
 ·refine ⟨v, none, μ, rfl, aK.refl H, .refl μ, fun a h => .inl h, ?_, ?_⟩
  ·rw [Nat.sub_zero, List.drop_length]; exact W
  ·rw [Nat.sub_zero, List.drop_length]; exact rx
 ·rintro i y σ H' hi hy ⟨v', u, μ', rfl, sm, ml, k8, W', r'⟩
  have hl : os.length = us.length := pr.length
  obtain ⟨o, ho, ro⟩ : ∃ o, os[os.length - 1 - i]? = some o /\ VR K H ns μ o y := by
   rw [<- hl] at hy
   exact eA pr hy
  have e : os.drop (os.length - (i + 1)) = o :: os.drop (os.length - i) := by
   have e1 : os.length - (i + 1) = os.length - 1 - i := by omega
   rw [e1, List.drop_eq_getElem_cons (bG ho)]
   have e2 : os[os.length - 1 - i]'(bG ho) = o := (List.getElem?_eq_some_iff.mp ho).2
   rw [e2]
   congr 2
   omega
  refine ⟨_, rfl, _, rfl, rfl, fun x2 dx H3 nx hx Og => ?_⟩
  have i3 : bF μ' H' H3 := bF.of_same Og
  obtain ⟨m1, W1, r1⟩ := W'.cons (ro.mono ml (bF.of_same sm) (.refl ns)) r' nx hx i3
  refine ⟨_, _, _, rfl, sm.trans Og, ml.trans m1, fun a ha => ?_, ?_, ?_⟩
  ·rcases ha with ha | ha
   ·exact .inr (by rw [ha]; exact sm.free nx)
   ·exact k8 a ha
  ·rw [e]; exact W1
  ·rw [e]; exact r1
 ·rintro σ H' ⟨v', u, μ', rfl, sm, ml, k8, W', r'⟩
  rw [<- pr.length, Nat.sub_self, List.drop_zero] at W' r'
  exact ⟨_, rfl, q v' H' μ' sm ml k8 W' r'⟩
end
end Lsp
namespace Lsp
open PySem Spec PyProof.Rows L2
inductive Kd where
 | nil | int | name | pair | fn | prim
 deriving DecidableEq
def kdOf : Sg02.Obj -> Kd
 | .nil => .nil
 | .int _ => .int
 | .name _ => .name
 | .pair _ => .pair
 | .fn _ => .fn
 | .prim _ => .prim
def IG (A : Ad) : Kd -> Value
 | .nil => .type "NoneType"
 | .int => .type "int"
 | .name => .type "tuple"
 | .pair => .ref A.cP
 | .fn => .ref A.cF
 | .prim => .ref A.cQ
structure yV (K : W.Frag) (C : Addr) : Prop where
 cl : Ej K C
 ha : W.findIn K (.ref C) "__class__" = some (some (.builtin "object.__class__"))
 hn : W.specialIn K (.builtin "object.__class__") "__get__" = some (some (.builtin "getset_descriptor.__get__"))
 tk : W.takesIn K (.builtin "object.__class__") = some true
 hm : W.mroIn K C (.type "object") = some true
structure sV (A : Ad) (K : W.Frag) : Prop where
 iP : yV K A.cP
 iF : yV K A.cF
 iQ : yV K A.cQ
 eP : y8 K A.cP = true
 eF : y8 K A.cF = true
 eQ : y8 K A.cQ = true
 int : ∀ k, W.kitOne K (IG A k) (.type "int") = some (decide (k = .int))
 tup : ∀ k, W.kitOne K (IG A k) (.type "tuple") = some (decide (k = .name))
 pair : ∀ k, W.kitOne K (IG A k) (.ref A.cP) = some (decide (k = .pair))
 fn : ∀ k, W.kitOne K (IG A k) (.ref A.cF) = some (decide (k = .fn))
 prim : ∀ k, W.kitOne K (IG A k) (.ref A.cQ) = some (decide (k = .prim))
section
variable {P : Program} {w : World} {A : Ad} {K : W.Frag} {H : Hp} {ns : List Sg02.Bytes} {μ : Mp} {h : Sg02.Heap} {B : Nat}
theorem VR.ty {x : Sg02.Obj} {v : V} (r : VR K H ns μ x v) (W : WR P w A K H ns μ h B) (i : sV A K) : Iy K H v (IG A (kdOf x)) := by
 cases x with
 | nil => cases r; exact .of .bf
 | int z => cases r.1; exact .of (.int z)
 | name n => obtain ⟨a, b, rfl, _, e⟩ := r; exact .tup e.sq
 | pair k => obtain ⟨a, rfl, e⟩ := r; obtain ⟨_, _, ⟨dx, v1, v2, e1, _⟩, _⟩ := W.pairs k a e; exact .of (.ins e1 i.iP.cl i.iP.ha i.iP.hn i.iP.tk i.iP.hm)
 | fn k => obtain ⟨a, rfl, e⟩ := r; obtain ⟨_, _, dx, l, vb, ve, vs, e1, _⟩ := W.fns k a e; exact .of (.ins e1 i.iF.cl i.iF.ha i.iF.hn i.iF.tk i.iF.hm)
 | prim k => obtain ⟨a, rfl, e⟩ := r; obtain ⟨_, _, dx, t, e1, _⟩ := W.e8 k a e; exact .of (.ins e1 i.iQ.cl i.iQ.ha i.iQ.hn i.iQ.tk i.iQ.hm)
theorem VR.lk {x : Sg02.Obj} {v : V} (r : VR K H ns μ x v) (W : WR P w A K H ns μ h B) (i : sV A K) : ∃ j, jh K H v j /\ ((j = .nil /\ x = .nil) \/ (∃ z, j = .int z /\ x = .int z) \/ (∃ n b, j = .name (bz b) /\ x = .name n /\ ns[n]? = some b) \/
  (∃ k a, j = .obj a /\ x = .pair k /\ μ.pa k = some a) \/ (∃ k a, j = .obj a /\ x = .fn k /\ μ.fa k = some a) \/ (∃ k a, j = .obj a /\ x = .prim k /\ μ.qa k = some a)) := by
 cases x with
 | nil => cases r; exact ⟨_, .nil, .inl ⟨rfl, rfl⟩⟩
 | int z => cases r.1; exact ⟨_, .int z, .inr (.inl ⟨z, rfl, rfl⟩)⟩
 | name n => obtain ⟨a, b, rfl, e0, e⟩ := r; exact ⟨_, .name e.sq, .inr (.inr (.inl ⟨n, b, rfl, rfl, e0⟩))⟩
 | pair k => obtain ⟨a, rfl, e⟩ := r; obtain ⟨_, _, ⟨dx, v1, v2, e1, _⟩, _⟩ := W.pairs k a e; exact ⟨_, .obj e1 i.eP, .inr (.inr (.inr (.inl ⟨k, a, rfl, rfl, e⟩)))⟩
 | fn k => obtain ⟨a, rfl, e⟩ := r; obtain ⟨_, _, dx, l, vb, ve, vs, e1, _⟩ := W.fns k a e; exact ⟨_, .obj e1 i.eF, .inr (.inr (.inr (.inr (.inl ⟨k, a, rfl, rfl, e⟩))))⟩
 | prim k => obtain ⟨a, rfl, e⟩ := r; obtain ⟨_, _, dx, t, e1, _⟩ := W.e8 k a e; exact ⟨_, .obj e1 i.eQ, .inr (.inr (.inr (.inr (.inr ⟨k, a, rfl, rfl, e⟩))))⟩
theorem m9 (a d : V) : (pairF a d).length = 2 := rfl
theorem u9 (a b d : V) : (LB a b d).length = 3 := rfl
theorem m7 (a : V) : (z8 a).length = 1 := rfl
theorem kl {H : Hp} {a C C' dx sM : Addr} {fs Eh : List (Str × V)} (e : H a = some (.ins C dx fs)) (e' : H a = some (.ins C' sM Eh)) : fs = Eh := by
 rw [e] at e'
 cases e'
 rfl
theorem VR.same {x y : Sg02.Obj} {v u : V} (r : VR K H ns μ x v) (q : VR K H ns μ y u) (W : WR P w A K H ns μ h B) (i : sV A K) : ∃ j k, jh K H v j /\ jh K H u k /\ decide (j = k) = decide (x = y) := by
 obtain ⟨j, hj, cj⟩ := r.lk W i
 obtain ⟨k, hk, ck⟩ := q.lk W i
 refine ⟨j, k, hj, hk, ?_⟩
 have pf : ∀ {k1 k2 a}, μ.pa k1 = some a -> μ.fa k2 = some a -> False := fun {k1 k2 a} e1 e2 => by
  obtain ⟨_, _, ⟨_, _, _, o1, _⟩, _⟩ := W.pairs k1 a e1
  obtain ⟨_, _, _, _, _, _, _, o2, _⟩ := W.fns k2 a e2
  exact absurd (congrArg List.length (kl o1 o2)) (by simp [m9, u9, m7])
 have pq : ∀ {k1 k2 a}, μ.pa k1 = some a -> μ.qa k2 = some a -> False := fun {k1 k2 a} e1 e2 => by
  obtain ⟨_, _, ⟨_, _, _, o1, _⟩, _⟩ := W.pairs k1 a e1
  obtain ⟨_, _, _, _, o2, _⟩ := W.e8 k2 a e2
  exact absurd (congrArg List.length (kl o1 o2)) (by simp [m9, u9, m7])
 have fq : ∀ {k1 k2 a}, μ.fa k1 = some a -> μ.qa k2 = some a -> False := fun {k1 k2 a} e1 e2 => by
  obtain ⟨_, _, _, _, _, _, _, o1, _⟩ := W.fns k1 a e1
  obtain ⟨_, _, _, _, o2, _⟩ := W.e8 k2 a e2
  exact absurd (congrArg List.length (kl o1 o2)) (by simp [m9, u9, m7])
 have fin : ∀ {p q : Prop} [Decidable p] [Decidable q], (p ↔ q) -> decide p = decide q := fun h => by simp [h]
 refine fin ?_
 rcases cj with ⟨rfl, rfl⟩ | ⟨z, rfl, rfl⟩ | ⟨n, b, rfl, rfl, e⟩ | ⟨k1, a, rfl, rfl, e⟩ | ⟨k1, a, rfl, rfl, e⟩ | ⟨k1, a, rfl, rfl, e⟩ <;>
 rcases ck with ⟨rfl, rfl⟩ | ⟨z', rfl, rfl⟩ | ⟨n', b', rfl, rfl, e'⟩ | ⟨k2, a', rfl, rfl, e'⟩ | ⟨k2, a', rfl, rfl, e'⟩ | ⟨k2, a', rfl, rfl, e'⟩ <;>
 first
  | (simp; done)
  | exact ⟨fun z => by (injection z with z; have z' := uP z; subst z'; rw [su W.names.nd e e']), fun z => by (injection z with z; subst z; rw [e] at e'; cases e'; rfl)⟩
  | exact ⟨fun z => by (injection z with z; subst z; rw [W.qT _ _ _ e e']), fun z => by (injection z with z; subst z; rw [e] at e'; cases e'; rfl)⟩
  | exact ⟨fun z => by (injection z with z; subst z; rw [W.r6 _ _ _ e e']), fun z => by (injection z with z; subst z; rw [e] at e'; cases e'; rfl)⟩
  | exact ⟨fun z => by (injection z with z; subst z; rw [W.qS _ _ _ e e']), fun z => by (injection z with z; subst z; rw [e] at e'; cases e'; rfl)⟩
  | exact ⟨fun z => by (injection z with z; subst z; first | exact (pf e e').elim | exact (pq e e').elim | exact (fq e e').elim | exact (pf e' e).elim | exact (pq e' e).elim | exact (fq e' e).elim), fun z => by cases z⟩
end
def Ir : List Value := [.type "Exception", .type "BaseException", .type "object"]
structure jK (K : W.Frag) (mg : Str -> Option Value) (x : Str) (C : Addr) : Prop where
 kg : mg x = some (.ref C)
 ex : W.excIn K C Ir "Exception.__new__" = true
theorem bZ {X : Cx} {x : Str} {C : Addr} {np c5 pos : Pos} {E : XK} (T : jK X.K X.mg x C) (hr : qB X E) (hc : X.calm = true) (hg : Gl X x) (hd : (x == ("__debug__" : Str)) = false := by decide) : PS X (.Raise (some (.Call (.Name x np) [] [] c5)) none pos) (Cb C E) :=
 C8 hr hc hg T.kg T.ex F.excBase_Exception hd
structure oV (K : W.Frag) (mg : Str -> Option Value) (x : Str) (a : Addr) (l : List Int) : Prop where
 yc : mg x = some (.ref a)
 tup : nM K a (l.map V.int)
section
variable {P : Program} {w : World} {A : Ad} {K : W.Frag} {mg : Str -> Option Value} {base : Heap}
def kM (aT : Addr) : Sp := fun vs H Q _ => ∃ b : Bool, vs = [.bl b] /\ Q (if b = true then .ref aT else .bf) H
theorem Cu : aq ["holds"] ["holds"] (aj tQ) := bQ
theorem CL {aT : Addr} (T : FT K mg "truth" "truth" tQ ["holds"]) (n : oV K mg "NAME_T" aT [116]) : aX P w K mg base 1 "truth" ["holds"] (kM aT) := by
 refine T.ok Cu (fun vs H Q E h => by obtain ⟨_, rfl, _⟩ := h; rfl) fun f aU A' outer s H vs Q E hr h => ?_
 obtain ⟨b, rfl, q⟩ := h
 refine ⟨_, ae (a6 (gn (bc (pv 0)) (ax (v := .ref aT) (by rfl) n.yc rfl) bq)), ?_⟩
 refine ⟨_, rfl, b, rfl, ?_⟩
 cases b with
 | true => exact aZ q
 | false => exact aM q
theorem kG {H : Hp} {ns : List Sg02.Bytes} {μ : Mp} {aT : Addr} (n : oV K mg "NAME_T" aT [116]) (nk : fJ ns) (b : Bool) : VR K H ns μ (Sg02.truth b) (if b = true then .ref aT else .bf) := by
 cases b with
 | true =>
  refine ⟨aT, [116], rfl, ?_, .inl n.tup⟩
  rw [nk.known 5 (by decide)]
  rfl
 | false => exact rfl
def isInt : Sg02.Obj -> Bool
 | .int _ => true
 | _ => false
def dt (P : Program) (w : World) (A : Ad) (K : W.Frag) (e2 : Addr) : Sp := fun vs H Q E => ∃ (al : Addr) (us : List V) (os : List Sg02.Obj) (ns : List Sg02.Bytes) (μ : Mp) (h : Sg02.Heap) (B : Nat), vs = [.ref al] /\ eu K H al us /\ WR P w A K H ns μ h B /\ Paired (fun o u => VR K H ns μ o u) os us /\
 (os.all isInt = true -> Q .bf H) /\ (os.all isInt = false -> E (.ref e2) none H)
theorem fZ : aq ["arguments", "argument"] ["arguments"] (aj eC) := bQ
theorem mU {e2 : Addr} (T : FT K mg "check_numbers" "check_numbers" eC ["arguments"]) (i : sV A K) (x2 : jK K mg "WrongKind" e2) (F1 : aX P w K mg base 1 "is_number" ["thing"] (ir K (.type "int"))) :
  aX P w K mg base 2 "check_numbers" ["arguments"] (dt P w A K e2) := by
 refine T.ok fZ (fun vs H Q E h => by obtain ⟨_, _, _, _, _, _, _, rfl, _⟩ := h; rfl) fun f aU A' outer s H vs Q E hr h => ?_
 obtain ⟨al, us, os, ns, μ, h, B, rfl, hS, W, pr, q1, q2⟩ := h
 refine ⟨_, ae (m6 PassesOwn.leaving rfl (ub (pv 0)) (dA (i := 1) fZ.nd rfl (Or.inl rfl)) (ae (aL (c9 (bc (aW F1 hr (by rfl) ai (aa (pv 1) ag)))) (ae (bZ x2 bt rfl (by rfl))) aG))), ?_⟩
 refine ⟨_, rfl, al, rfl, ⟨_, hS⟩, wx (K := K) (a := al) (xs := us) (fun k σ H' => H' = H /\ (∃ v, σ = [some (.ref al), v]) /\ (os.take k).all isInt = true) ⟨rfl, ⟨none, rfl⟩, rfl⟩ (fun k σ H' _ ⟨e, _⟩ => by rw [e]; exact hS) ?_ ?_⟩
 ·rintro k y σ H' hy ⟨rfl, ⟨v, rfl⟩, ha⟩
  obtain ⟨o, ho, ro⟩ := eA pr hy
  refine ⟨_, rfl, y, _, _, rfl, ro.ty W i, i.int (kdOf o), _, rfl, ?_⟩
  have et : os.take (k + 1) = os.take k ++ [o] := by
   rw [List.take_add_one, ho]
   rfl
  by_cases c : kdOf o = .int
  ·rw [decide_eq_true c]
   refine aM ⟨rfl, ⟨_, rfl⟩, ?_⟩
   rw [et, List.all_append, ha]
   cases o <;> first | rfl | cases c
  ·rw [decide_eq_false c]
   refine aZ (q2 ?_)
   have hm : o ∈ os := List.mem_of_getElem? ho
   cases z : os.all isInt with
   | false => rfl
   | true =>
    have := List.all_eq_true.mp z o hm
    cases o <;> first | exact absurd rfl c | cases this
 ·rintro σ H' ⟨rfl, ⟨v, rfl⟩, ha⟩
  rw [<- pr.length, List.take_length] at ha
  exact q1 ha
def jm (e4 : Addr) : Sp := fun vs H Q E => ∃ z : Int, vs = [.int z] /\ (Sg02.inRange z = true -> Q (.int z) H) /\ (Sg02.inRange z = false -> E (.ref e4) none H)
theorem xw : aq ["number"] ["number"] (aj mz) := bQ
theorem xX {e4 : Addr} (T : FT K mg "checked" "checked" mz ["number"]) (x4 : jK K mg "OutOfRange" e4) (F1 : aX P w K mg base 1 "in_number_range" ["number"] t7) : aX P w K mg base 2 "checked" ["number"] (jm e4) := by
 refine T.ok xw (fun vs H Q E h => by obtain ⟨_, rfl, _⟩ := h; rfl) fun f aU A' outer s H vs Q E hr h => ?_
 obtain ⟨z, rfl, q1, q2⟩ := h
 refine ⟨_, af (aL (c9 (bc (aW F1 hr (by rfl) ai (aa (pv 0) ag)))) (ae (bZ x4 bt rfl (by rfl))) aG) (ae (a6 (pv 0))), ?_⟩
 refine ⟨_, rfl, z, rfl, _, rfl, ?_⟩
 cases c : Sg02.inRange z with
 | true => exact aM ⟨_, rfl, q1 c⟩
 | false => exact aZ (q2 c)
def c6 (P : Program) (w : World) (A : Ad) (K : W.Frag) (ex : Nat -> Addr) (k n : Nat) : Sp := fun vs H Q E => ∃ (al : Addr) (us : List V) (os : List Sg02.Obj) (ns : List Sg02.Bytes) (μ : Mp) (h : Sg02.Heap) (B : Nat), vs = [.ref al] /\ eu K H al us /\ us.length = n /\ WR P w A K H ns μ h B /\ Paired (fun o u => VR K H ns μ o u) os us /\
 match Sg02.apply h k os with
 | .ok r => ∀ (v : V) (H' : Hp) (μ' : Mp) (B' : Nat), aK H H' -> dB μ μ' -> (∀ a, μ'.im a -> μ.im a \/ H a = Option.none) -> B' <= B + 1 -> WR P w A K H' ns μ' r.1 B' -> VR K H' ns μ' r.2 v -> Q v H'
 | .error e => E (.ref (ex e)) none H
theorem bP {ex : Nat -> Addr} {k n : Nat} : ∀ (vs : List V) (H : Hp) (Q : VK) (E : XK), c6 P w A K ex k n vs H Q E -> vs.length = 1 := fun vs H Q E h => by obtain ⟨_, _, _, _, _, _, _, rfl, _⟩ := h; rfl
theorem two {F : Sg02.Obj -> V -> Prop} {os : List Sg02.Obj} {us : List V} (p : Paired F os us) (h : us.length = 2) : ∃ a b u v, os = [a, b] /\ us = [u, v] /\ F a u /\ F b v := by
 cases p with
 | nil => simp at h
 | cons r t =>
  cases t with
  | nil => simp at h
  | cons r2 t2 =>
   cases t2 with
   | nil => exact ⟨_, _, _, _, rfl, rfl, r, r2⟩
   | cons _ _ => simp at h
theorem one {F : Sg02.Obj -> V -> Prop} {os : List Sg02.Obj} {us : List V} (p : Paired F os us) (h : us.length = 1) : ∃ a u, os = [a] /\ us = [u] /\ F a u := by
 cases p with
 | nil => simp at h
 | cons r t =>
  cases t with
  | nil => exact ⟨_, _, rfl, rfl, r⟩
  | cons _ _ => simp at h
theorem fj (h : Sg02.Heap) (k : Nat) (hk : k < 5) (a b : Sg02.Obj) (n : [a, b].all isInt = false) : Sg02.apply h k [a, b] = .error 2 := by
 match k, hk with
 | 0, _ => cases a <;> cases b <;> first | rfl | (simp [isInt] at n)
 | 1, _ => cases a <;> cases b <;> first | rfl | (simp [isInt] at n)
 | 2, _ => cases a <;> cases b <;> first | rfl | (simp [isInt] at n)
 | 3, _ => cases a <;> cases b <;> first | rfl | (simp [isInt] at n)
 | 4, _ => cases a <;> cases b <;> first | rfl | (simp [isInt] at n)
theorem jc {a b : Sg02.Obj} (n : [a, b].all isInt = true) : ∃ x y, a = .int x /\ b = .int y := by
 cases a <;> cases b <;> first | exact ⟨_, _, rfl, rfl⟩ | (simp [isInt] at n)
theorem Eu {x : Int} (h : Sg02.inRange x = true) : -(2 ^ 64) < x /\ x < 2 ^ 64 := by
 unfold Sg02.inRange at h
 rw [Bool.and_eq_true] at h
 have h1 := of_decide_eq_true h.1
 have h2 := of_decide_eq_true h.2
 constructor <;> omega
theorem Ey : aq ["arguments"] ["arguments"] (aj xx) := bQ
theorem EI {ex : Nat -> Addr} (T : FT K mg "plus" "plus" xx ["arguments"]) (F1 : aX P w K mg base 2 "check_numbers" ["arguments"] (dt P w A K (ex 2))) (F2 : aX P w K mg base 2 "checked" ["number"] (jm (ex 4))) :
  aX P w K mg base 3 "plus" ["arguments"] (c6 P w A K ex 0 2) := by
 refine T.ok Ey bP fun f aU A' outer s H vs Q E hr h => ?_
 obtain ⟨al, us, os, ns, μ, h, B, rfl, hS, hn, W, pr, q⟩ := h
 obtain ⟨a, b, u, v, rfl, rfl, ra, rb⟩ := two pr hn
 refine ⟨_, af (a8 (aW F1 hr (by rfl) ai (aa (pv 0) ag))) (ae (a6 (aW F2 hr (by rfl) ai (aa (e9 fU (aB a5 (pv 0) aw (fun _ _ => rfl)) (aB a5 (pv 0) aw (fun _ _ => rfl))) ag)))), ?_⟩
 refine ⟨_, rfl, al, _, _, ns, μ, h, B, rfl, hS, W, pr, fun all => ?_, fun no => ?_⟩
 ·obtain ⟨x, y, rfl, rfl⟩ := jc all
  obtain ⟨rfl, xr⟩ := ra
  obtain ⟨rfl, yr⟩ := rb
  have e : Sg02.apply h 0 [.int x, .int y] = if Sg02.inRange (x + y) = true then .ok (h, .int (x + y)) else .error 4 := by
   show Except.map _ (if Sg02.inRange (x + y) = true then _ else _) = _
   split <;> rfl
  rw [e] at q
  refine ⟨_, rfl, al, _, _, _, rfl, rfl, hS, rfl, _, rfl, al, _, _, _, rfl, rfl, hS, rfl, _, _, rfl, rfl, _, rfl, fun c => ?_, fun c => ?_⟩
  ·rw [if_pos c] at q
   exact q _ H μ B (aK.refl H) (.refl μ) (fun a z => .inl z) (Nat.le_succ _) W ⟨rfl, c⟩
  ·rw [if_neg (by rw [c]; simp)] at q
   exact q
 ·rw [fj h 0 (by decide) a b no] at q
  exact q
theorem Cw : aq ["arguments"] ["arguments"] (aj tS) := bQ
theorem CN {ex : Nat -> Addr} (T : FT K mg "minus" "minus" tS ["arguments"]) (F1 : aX P w K mg base 2 "check_numbers" ["arguments"] (dt P w A K (ex 2))) (F2 : aX P w K mg base 2 "checked" ["number"] (jm (ex 4))) :
  aX P w K mg base 3 "minus" ["arguments"] (c6 P w A K ex 1 2) := by
 refine T.ok Cw bP fun f aU A' outer s H vs Q E hr h => ?_
 obtain ⟨al, us, os, ns, μ, h, B, rfl, hS, hn, W, pr, q⟩ := h
 obtain ⟨a, b, u, v, rfl, rfl, ra, rb⟩ := two pr hn
 refine ⟨_, af (a8 (aW F1 hr (by rfl) ai (aa (pv 0) ag))) (ae (a6 (aW F2 hr (by rfl) ai (aa (e9 CG (aB a5 (pv 0) aw (fun _ _ => rfl)) (aB a5 (pv 0) aw (fun _ _ => rfl))) ag)))), ?_⟩
 refine ⟨_, rfl, al, _, _, ns, μ, h, B, rfl, hS, W, pr, fun all => ?_, fun no => ?_⟩
 ·obtain ⟨x, y, rfl, rfl⟩ := jc all
  obtain ⟨rfl, xr⟩ := ra
  obtain ⟨rfl, yr⟩ := rb
  have e : Sg02.apply h 1 [.int x, .int y] = if Sg02.inRange (x - y) = true then .ok (h, .int (x - y)) else .error 4 := by
   show Except.map _ (if Sg02.inRange (x - y) = true then _ else _) = _
   split <;> rfl
  rw [e] at q
  refine ⟨_, rfl, al, _, _, _, rfl, rfl, hS, rfl, _, rfl, al, _, _, _, rfl, rfl, hS, rfl, _, _, rfl, rfl, _, rfl, fun c => ?_, fun c => ?_⟩
  ·rw [if_pos c] at q
   exact q _ H μ B (aK.refl H) (.refl μ) (fun a z => .inl z) (Nat.le_succ _) W ⟨rfl, c⟩
  ·rw [if_neg (by rw [c]; simp)] at q
   exact q
 ·rw [fj h 1 (by decide) a b no] at q
  exact q
theorem Cv : aq ["arguments"] ["arguments"] (aj tR) := bQ
theorem CM {ex : Nat -> Addr} (T : FT K mg "times" "times" tR ["arguments"]) (F1 : aX P w K mg base 2 "check_numbers" ["arguments"] (dt P w A K (ex 2))) (F2 : aX P w K mg base 2 "checked" ["number"] (jm (ex 4))) :
  aX P w K mg base 3 "times" ["arguments"] (c6 P w A K ex 2 2) := by
 refine T.ok Cv bP fun f aU A' outer s H vs Q E hr h => ?_
 obtain ⟨al, us, os, ns, μ, h, B, rfl, hS, hn, W, pr, q⟩ := h
 obtain ⟨a, b, u, v, rfl, rfl, ra, rb⟩ := two pr hn
 refine ⟨_, af (a8 (aW F1 hr (by rfl) ai (aa (pv 0) ag))) (ae (a6 (aW F2 hr (by rfl) ai (aa (e9 CH (aB a5 (pv 0) aw (fun _ _ => rfl)) (aB a5 (pv 0) aw (fun _ _ => rfl))) ag)))), ?_⟩
 refine ⟨_, rfl, al, _, _, ns, μ, h, B, rfl, hS, W, pr, fun all => ?_, fun no => ?_⟩
 ·obtain ⟨x, y, rfl, rfl⟩ := jc all
  obtain ⟨rfl, xr⟩ := ra
  obtain ⟨rfl, yr⟩ := rb
  have e : Sg02.apply h 2 [.int x, .int y] = if Sg02.inRange (x * y) = true then .ok (h, .int (x * y)) else .error 4 := by
   show Except.map _ (if Sg02.inRange (x * y) = true then _ else _) = _
   split <;> rfl
  rw [e] at q
  refine ⟨_, rfl, al, _, _, _, rfl, rfl, hS, rfl, _, rfl, al, _, _, _, rfl, rfl, hS, rfl, _, _, rfl, rfl, .inl (Eu xr), _, rfl, fun c => ?_, fun c => ?_⟩
  ·rw [if_pos c] at q
   exact q _ H μ B (aK.refl H) (.refl μ) (fun a z => .inl z) (Nat.le_succ _) W ⟨rfl, c⟩
  ·rw [if_neg (by rw [c]; simp)] at q
   exact q
 ·rw [fj h 2 (by decide) a b no] at q
  exact q
theorem E0 : aq ["arguments"] ["arguments"] (aj x8) := bQ
theorem EK {ex : Nat -> Addr} {aT : Addr} (T : FT K mg "less" "less" x8 ["arguments"]) (nT : oV K mg "NAME_T" aT [116]) (F1 : aX P w K mg base 2 "check_numbers" ["arguments"] (dt P w A K (ex 2))) (F2 : aX P w K mg base 1 "truth" ["holds"] (kM aT)) :
  aX P w K mg base 3 "less" ["arguments"] (c6 P w A K ex 3 2) := by
 refine T.ok E0 bP fun f aU A' outer s H vs Q E hr h => ?_
 obtain ⟨al, us, os, ns, μ, h, B, rfl, hS, hn, W, pr, q⟩ := h
 obtain ⟨a, b, u, v, rfl, rfl, ra, rb⟩ := two pr hn
 refine ⟨_, af (a8 (aW F1 hr (by rfl) ai (aa (pv 0) ag))) (ae (a6 (aW F2 (hr.mono (by decide)) (by rfl) ai (aa (oO pQ (aB a5 (pv 0) aw (fun _ _ => rfl)) (aB a5 (pv 0) aw (fun _ _ => rfl)) (aH _)) ag)))), ?_⟩
 refine ⟨_, rfl, al, _, _, ns, μ, h, B, rfl, hS, W, pr, fun all => ?_, fun no => ?_⟩
 ·obtain ⟨x, y, rfl, rfl⟩ := jc all
  obtain ⟨rfl, xr⟩ := ra
  obtain ⟨rfl, yr⟩ := rb
  have e : Sg02.apply h 3 [.int x, .int y] = .ok (h, Sg02.truth (decide (x < y))) := rfl
  rw [e] at q
  exact ⟨_, rfl, al, _, _, _, rfl, rfl, hS, rfl, _, rfl, al, _, _, _, rfl, rfl, hS, rfl, _, _, rfl, rfl, _, rfl, q _ H μ B (aK.refl H) (.refl μ) (fun a z => .inl z) (Nat.le_succ _) W (kG nT W.names _)⟩
 ·rw [fj h 3 (by decide) a b no] at q
  exact q
theorem Cy : aq ["arguments"] ["arguments"] (aj tT) := bQ
theorem CO {ex : Nat -> Addr} {aT : Addr} (T : FT K mg "equal" "equal" tT ["arguments"]) (nT : oV K mg "NAME_T" aT [116]) (F1 : aX P w K mg base 2 "check_numbers" ["arguments"] (dt P w A K (ex 2))) (F2 : aX P w K mg base 1 "truth" ["holds"] (kM aT)) :
  aX P w K mg base 3 "equal" ["arguments"] (c6 P w A K ex 4 2) := by
 refine T.ok Cy bP fun f aU A' outer s H vs Q E hr h => ?_
 obtain ⟨al, us, os, ns, μ, h, B, rfl, hS, hn, W, pr, q⟩ := h
 obtain ⟨a, b, u, v, rfl, rfl, ra, rb⟩ := two pr hn
 refine ⟨_, af (a8 (aW F1 hr (by rfl) ai (aa (pv 0) ag))) (ae (a6 (aW F2 (hr.mono (by decide)) (by rfl) ai (aa (oO dC (aB a5 (pv 0) aw (fun _ _ => rfl)) (aB a5 (pv 0) aw (fun _ _ => rfl)) (aH _)) ag)))), ?_⟩
 refine ⟨_, rfl, al, _, _, ns, μ, h, B, rfl, hS, W, pr, fun all => ?_, fun no => ?_⟩
 ·obtain ⟨x, y, rfl, rfl⟩ := jc all
  obtain ⟨rfl, xr⟩ := ra
  obtain ⟨rfl, yr⟩ := rb
  have e : Sg02.apply h 4 [.int x, .int y] = .ok (h, Sg02.truth (decide (x = y))) := rfl
  rw [e] at q
  refine ⟨_, rfl, al, _, _, _, rfl, rfl, hS, rfl, _, rfl, al, _, _, _, rfl, rfl, hS, rfl, rfl, _, rfl, ?_⟩
  have e2 : decide (V.int x = V.int y) = decide (x = y) := by simp
  rw [e2]
  exact q _ H μ B (aK.refl H) (.refl μ) (fun a z => .inl z) (Nat.le_succ _) W (kG nT W.names _)
 ·rw [fj h 4 (by decide) a b no] at q
  exact q
theorem E1 : aq ["arguments"] ["arguments"] (aj x9) := bQ
theorem EL {ex : Nat -> Addr} (T : FT K mg "cons" "cons" x9 ["arguments"]) (M : fK P w K mg base "Pair" A.cP 2 (jx sJ)) : aX P w K mg base 3 "cons" ["arguments"] (c6 P w A K ex 5 2) := by
 refine T.ok E1 bP fun f aU A' outer s H vs Q E hr h => ?_
 obtain ⟨al, us, os, ns, μ, h, B, rfl, hS, hn, W, pr, q⟩ := h
 obtain ⟨a, b, u, v, rfl, rfl, ra, rb⟩ := two pr hn
 refine ⟨_, ae (a6 (b6 M hr (by rfl) ai (aa (aB a5 (pv 0) aw (fun _ _ => rfl)) (aa (aB a5 (pv 0) aw (fun _ _ => rfl)) ag)))), ?_⟩
 refine ⟨_, rfl, al, _, _, _, rfl, rfl, hS, rfl, _, rfl, al, _, _, _, rfl, rfl, hS, rfl, rfl, fun x dx H3 nx hx sm => ?_⟩
 obtain ⟨m1, W1, r1⟩ := W.cons ra rb nx hx (bF.of_same sm)
 exact q _ H3 _ _ sm m1 (fun a ha => ha.elim (fun z => .inr (by rw [z]; exact nx)) .inl) (zA0 _) W1 r1
def Ki : Sg02.Obj -> Bool
 | .pair _ => true
 | .nil => true
 | _ => false
def jn (P : Program) (w : World) (A : Ad) (K : W.Frag) (e2 : Addr) : Sp := fun vs H Q E => ∃ (u : V) (o : Sg02.Obj) (ns : List Sg02.Bytes) (μ : Mp) (h : Sg02.Heap) (B : Nat), vs = [u] /\ WR P w A K H ns μ h B /\ VR K H ns μ o u /\
 (Ki o = true -> Q .bf H) /\ (Ki o = false -> E (.ref e2) none H)
theorem iw : aq ["thing"] ["thing"] (aj cU) := bQ
theorem iL {e2 : Addr} (T : FT K mg "check_pair_or_nil" "check_pair_or_nil" cU ["thing"]) (i : sV A K) (b1 : mg "isinstance" = none) (cP : mg "Pair" = some (.ref A.cP)) (x2 : jK K mg "WrongKind" e2) :
  aX P w K mg base 1 "check_pair_or_nil" ["thing"] (jn P w A K e2) := by
 refine T.ok iw (fun vs H Q E h => by obtain ⟨_, _, _, _, _, _, rfl, _⟩ := h; rfl) fun f aU A' outer s H vs Q E hr h => ?_
 obtain ⟨u, o, ns, μ, h, B, rfl, W, r, q1, q2⟩ := h
 refine ⟨_, ae (aL (pK (aA lx (pv 0) bq (aH _)) (ll (c9 (bc (a7 aY (by rfl) b1 bIsX (aa (pv 0) (aa (ax (v := .ref A.cP) (by rfl) cP rfl) ag))))))).pt (ae (bZ x2 bt rfl (by rfl))) aG), ?_⟩
 refine ⟨_, rfl, rfl, _, rfl, ?_⟩
 by_cases c : u = .bf
 ·rw [decide_eq_true c]
  refine aM (aM (q1 ?_))
  subst c
  cases o with
  | nil => rfl
  | int z => cases r.1
  | name n => obtain ⟨_, _, e, _⟩ := r; cases e
  | pair n => rfl
  | fn n => obtain ⟨_, e, _⟩ := r; cases e
  | prim n => obtain ⟨_, e, _⟩ := r; cases e
 ·rw [decide_eq_false c]
  refine aZ ⟨_, rfl, u, _, _, _, rfl, r.ty W i, (fun v hv => by cases hv; exact i.pair (kdOf o)), _, rfl, ?_⟩
  by_cases d : kdOf o = .pair
  ·rw [decide_eq_true d]
   refine aM (q1 ?_)
   cases o <;> first | rfl | cases d
  ·rw [decide_eq_false d]
   refine aZ (q2 ?_)
   cases o <;> first | rfl | exact absurd rfl d | exact absurd r c
theorem GF : aq ["arguments"] ["arguments"] (aj C1) := bQ
theorem Hf {ex : Nat -> Addr} (T : FT K mg "car" "car" C1 ["arguments"]) (c : CT K mg "Pair" A.cP ["head", "tail"]) (F1 : aX P w K mg base 1 "check_pair_or_nil" ["thing"] (jn P w A K (ex 2))) : aX P w K mg base 2 "car" ["arguments"] (c6 P w A K ex 6 1) := by
 refine T.ok GF bP fun f aU A' outer s H vs Q E hr h => ?_
 obtain ⟨al, us, os, ns, μ, h, B, rfl, hS, hn, W, pr, q⟩ := h
 obtain ⟨a, u, rfl, rfl, ra⟩ := one pr hn
 refine ⟨_, af (a8 (aW F1 hr (by rfl) ai (aa (aB a5 (pv 0) aw (fun _ _ => rfl)) ag))) (ae (a6 (gn (aA gJ (aB a5 (pv 0) aw (fun _ _ => rfl)) bq (aH _)) bq (ay (aB a5 (pv 0) aw (fun _ _ => rfl)) rfl)))), ?_⟩
 refine ⟨_, rfl, al, _, _, _, rfl, rfl, hS, rfl, u, a, ns, μ, h, B, rfl, W, ra, fun yes => ?_, fun no => ?_⟩
 ·refine ⟨_, rfl, al, _, _, _, rfl, rfl, hS, rfl, rfl, _, rfl, ?_⟩
  cases a with
  | nil =>
   cases ra
   exact aZ (q _ H μ B (aK.refl H) (.refl μ) (fun a z => .inl z) (Nat.le_succ _) W rfl)
  | pair n =>
   obtain ⟨x, rfl, e⟩ := ra
   obtain ⟨_, _, ⟨dx, v1, v2, e1, r1, r2⟩, _⟩ := W.pairs n x e
   refine aM ⟨_, rfl, al, _, _, _, rfl, rfl, hS, rfl, x, A.cP, dx, _, _, rfl, e1, c.cl, c.na _ (by simp), rfl, ?_⟩
   exact q _ H μ B (aK.refl H) (.refl μ) (fun a z => .inl z) (Nat.le_succ _) W r1
  | int z => cases yes
  | name z => cases yes
  | fn z => cases yes
  | prim z => cases yes
 ·have e : Sg02.apply h 6 [a] = .error 2 := by cases a <;> first | rfl | cases no
  rw [e] at q
  exact q
theorem GD : aq ["arguments"] ["arguments"] (aj C0) := bQ
theorem He {ex : Nat -> Addr} (T : FT K mg "cdr" "cdr" C0 ["arguments"]) (c : CT K mg "Pair" A.cP ["head", "tail"]) (F1 : aX P w K mg base 1 "check_pair_or_nil" ["thing"] (jn P w A K (ex 2))) : aX P w K mg base 2 "cdr" ["arguments"] (c6 P w A K ex 7 1) := by
 refine T.ok GD bP fun f aU A' outer s H vs Q E hr h => ?_
 obtain ⟨al, us, os, ns, μ, h, B, rfl, hS, hn, W, pr, q⟩ := h
 obtain ⟨a, u, rfl, rfl, ra⟩ := one pr hn
 refine ⟨_, af (a8 (aW F1 hr (by rfl) ai (aa (aB a5 (pv 0) aw (fun _ _ => rfl)) ag))) (ae (a6 (gn (aA gJ (aB a5 (pv 0) aw (fun _ _ => rfl)) bq (aH _)) bq (ay (aB a5 (pv 0) aw (fun _ _ => rfl)) rfl)))), ?_⟩
 refine ⟨_, rfl, al, _, _, _, rfl, rfl, hS, rfl, u, a, ns, μ, h, B, rfl, W, ra, fun yes => ?_, fun no => ?_⟩
 ·refine ⟨_, rfl, al, _, _, _, rfl, rfl, hS, rfl, rfl, _, rfl, ?_⟩
  cases a with
  | nil =>
   cases ra
   exact aZ (q _ H μ B (aK.refl H) (.refl μ) (fun a z => .inl z) (Nat.le_succ _) W rfl)
  | pair n =>
   obtain ⟨x, rfl, e⟩ := ra
   obtain ⟨_, _, ⟨dx, v1, v2, e1, r1, r2⟩, _⟩ := W.pairs n x e
   refine aM ⟨_, rfl, al, _, _, _, rfl, rfl, hS, rfl, x, A.cP, dx, _, _, rfl, e1, c.cl, c.na _ (by simp), rfl, ?_⟩
   exact q _ H μ B (aK.refl H) (.refl μ) (fun a z => .inl z) (Nat.le_succ _) W r2
  | int z => cases yes
  | name z => cases yes
  | fn z => cases yes
  | prim z => cases yes
 ·have e : Sg02.apply h 7 [a] = .error 2 := by cases a <;> first | rfl | cases no
  rw [e] at q
  exact q
theorem E2 : aq ["arguments"] ["arguments"] (aj xA) := bQ
theorem EM {ex : Nat -> Addr} {aT : Addr} (T : FT K mg "atom" "atom" xA ["arguments"]) (i : sV A K) (b1 : mg "isinstance" = none) (cP : mg "Pair" = some (.ref A.cP)) (nT : oV K mg "NAME_T" aT [116]) (F2 : aX P w K mg base 1 "truth" ["holds"] (kM aT)) :
  aX P w K mg base 2 "atom" ["arguments"] (c6 P w A K ex 8 1) := by
 refine T.ok E2 bP fun f aU A' outer s H vs Q E hr h => ?_
 obtain ⟨al, us, os, ns, μ, h, B, rfl, hS, hn, W, pr, q⟩ := h
 obtain ⟨a, u, rfl, rfl, ra⟩ := one pr hn
 refine ⟨_, ae (a6 (aW F2 hr (by rfl) ai (aa (GS (a7 aY (by rfl) b1 bIsX (aa (aB a5 (pv 0) aw (fun _ _ => rfl)) (aa (ax (v := .ref A.cP) (by rfl) cP rfl) ag)))) ag))), ?_⟩
 refine ⟨_, rfl, al, _, _, _, rfl, rfl, hS, rfl, u, _, _, _, rfl, ra.ty W i, (fun v hv => by cases hv; exact i.pair (kdOf a)), _, rfl, _, rfl, ?_⟩
 have e : Sg02.apply h 8 [a] = .ok (h, Sg02.truth (!decide (kdOf a = .pair))) := by cases a <;> rfl
 rw [e] at q
 exact q _ H μ B (aK.refl H) (.refl μ) (fun a z => .inl z) (Nat.le_succ _) W (kG nT W.names _)
theorem JE : aq ["arguments"] ["arguments"] (aj s_eq) := bQ
theorem JP {ex : Nat -> Addr} {aT : Addr} (T : FT K mg "eq" "eq" s_eq ["arguments"]) (i : sV A K) (nT : oV K mg "NAME_T" aT [116]) (F1 : aX P w K mg base 1 "same" ["one", "other"] (xm K)) (F2 : aX P w K mg base 1 "truth" ["holds"] (kM aT)) :
  aX P w K mg base 2 "eq" ["arguments"] (c6 P w A K ex 9 2) := by
 refine T.ok JE bP fun f aU A' outer s H vs Q E hr h => ?_
 obtain ⟨al, us, os, ns, μ, h, B, rfl, hS, hn, W, pr, q⟩ := h
 obtain ⟨a, b, u, v, rfl, rfl, ra, rb⟩ := two pr hn
 refine ⟨_, ae (a6 (aW F2 hr (by rfl) ai (aa (aW F1 hr (by rfl) ai (aa (aB a5 (pv 0) aw (fun _ _ => rfl)) (aa (aB a5 (pv 0) aw (fun _ _ => rfl)) ag))) ag))), ?_⟩
 obtain ⟨j, k, hj, hk, N7⟩ := ra.same rb W i
 refine ⟨_, rfl, al, _, _, _, rfl, rfl, hS, rfl, _, rfl, al, _, _, _, rfl, rfl, hS, rfl, u, v, j, k, rfl, hj, hk, _, rfl, ?_⟩
 rw [N7]
 have e : Sg02.apply h 9 [a, b] = .ok (h, Sg02.truth (decide (a = b))) := rfl
 rw [e] at q
 exact q _ H μ B (aK.refl H) (.refl μ) (fun a z => .inl z) (Nat.le_succ _) W (kG nT W.names _)
def AA (k : Nat) : Sg02.Bytes := Sg02.ascii (Sg02.primitives.getD k "")
def arity (k : Nat) : Nat := if k = 6 \/ k = 7 \/ k = 8 then 1 else 2
theorem wU (h : Sg02.Heap) : ∀ (k : Nat), k < 10 -> ∀ (os : List Sg02.Obj), os.length ≠ arity k -> Sg02.apply h k os = .error 3 := by
 intro k hk os hn
 match k, hk with
 | 0, _ => match os, hn with
  | [], _ => rfl
  | [a], _ => cases a <;> rfl
  | [_, _], hn => exact absurd rfl hn
  | a :: b :: c :: r, _ => cases a <;> cases b <;> rfl
 | 1, _ => match os, hn with
  | [], _ => rfl
  | [a], _ => cases a <;> rfl
  | [_, _], hn => exact absurd rfl hn
  | a :: b :: c :: r, _ => cases a <;> cases b <;> rfl
 | 2, _ => match os, hn with
  | [], _ => rfl
  | [a], _ => cases a <;> rfl
  | [_, _], hn => exact absurd rfl hn
  | a :: b :: c :: r, _ => cases a <;> cases b <;> rfl
 | 3, _ => match os, hn with
  | [], _ => rfl
  | [a], _ => cases a <;> rfl
  | [_, _], hn => exact absurd rfl hn
  | a :: b :: c :: r, _ => cases a <;> cases b <;> rfl
 | 4, _ => match os, hn with
  | [], _ => rfl
  | [a], _ => cases a <;> rfl
  | [_, _], hn => exact absurd rfl hn
  | a :: b :: c :: r, _ => cases a <;> cases b <;> rfl
 | 5, _ => match os, hn with
  | [], _ => rfl
  | [a], _ => rfl
  | [_, _], hn => exact absurd rfl hn
  | a :: b :: c :: r, _ => rfl
 | 6, _ => match os, hn with
  | [], _ => rfl
  | [a], hn => exact absurd rfl hn
  | a :: b :: r, _ => cases a <;> rfl
 | 7, _ => match os, hn with
  | [], _ => rfl
  | [a], hn => exact absurd rfl hn
  | a :: b :: r, _ => cases a <;> rfl
 | 8, _ => match os, hn with
  | [], _ => rfl
  | [a], hn => exact absurd rfl hn
  | a :: b :: r, _ => cases a <;> rfl
 | 9, _ => match os, hn with
  | [], _ => rfl
  | [a], _ => rfl
  | [_, _], hn => exact absurd rfl hn
  | a :: b :: c :: r, _ => rfl
structure NP (P : Program) (w : World) (A : Ad) (K : W.Frag) (mg : Str -> Option Value) (base : Heap) (ex : Nat -> Addr) (aD : Addr) (kvs : Tab) : Prop where
 Lq : mg "PRIMITIVES" = some (.ref aD)
 tk : TK P w K aD kvs
 keys : ∀ p ∈ kvs, nM K p.2.1 (p.1.map kV)
 len : kvs.length = 10
 Ll : ∀ k, k < 10 -> ∃ t e, kvs[k]? = some (bE (AA k), t, .ref e) /\ cq kvs (bE (AA k)) = some (.ref e) /\ ∃ f fd ps, nM K e [.int (arity k), .ref f] /\ W.keepIn K (.ref f) = true /\ Binds K fd ps [] /\ fu P w K mg base (fk P w) 3 f fd ps (c6 P w A K ex k (arity k))
def zw (P : Program) (w : World) (A : Ad) (K : W.Frag) (ex : Nat -> Addr) : Sp := fun vs H Q E => ∃ (a : Addr) (k : Nat) (al : Addr) (us : List V) (os : List Sg02.Obj) (ns : List Sg02.Bytes) (μ : Mp) (h : Sg02.Heap) (B : Nat), vs = [.ref a, .ref al] /\ μ.qa k = some a /\ eu K H al us /\ WR P w A K H ns μ h B /\ Paired (fun o u => VR K H ns μ o u) os us /\
 match Sg02.apply h k os with
 | .ok r => ∀ (v : V) (H' : Hp) (μ' : Mp) (B' : Nat), aK H H' -> dB μ μ' -> (∀ a, μ'.im a -> μ.im a \/ H a = Option.none) -> B' <= B + 1 -> WR P w A K H' ns μ' r.1 B' -> VR K H' ns μ' r.2 v -> Q v H'
 | .error e => E (.ref (ex e)) none H
theorem di : aq ["primitive", "arguments", "entry", "work"] ["primitive", "arguments"] (aj d5) := bQ
theorem ka {ex : Nat -> Addr} {aD : Addr} {kvs : Tab} (T : FT K mg "apply_primitive" "apply_primitive" d5 ["primitive", "arguments"]) (R : NP P w A K mg base ex aD kvs) (cQ : CT K mg "Primitive" A.cQ ["name"]) (b1 : mg "len" = none) (x3 : jK K mg "WrongCount" (ex 3)) :
  aX P w K mg base 4 "apply_primitive" ["primitive", "arguments"] (zw P w A K ex) := by
 refine T.ok di (fun vs H Q E h => by obtain ⟨_, _, _, _, _, _, _, _, _, rfl, _⟩ := h; rfl) fun f aU A' outer s H vs Q E hr h => ?_
 obtain ⟨a, k, al, us, os, ns, μ, h, B, rfl, hq, hS, W, pr, q⟩ := h
 have hu := wa hr
 refine ⟨_, af (aJ (i := 2) di.nd rfl (Or.inl rfl) (ud hu (ax (v := .ref aD) (by rfl) R.Lq rfl) (ay (pv 0) rfl) (fun _ _ => rfl)))
  (af (aL (aA zD (a7 a9 (by rfl) b1 PySem.boot_len (aa (pv 1) ag)) (aB eK (pv 2) aw (fun _ _ => rfl)) (aH _)) (ae (bZ x3 bt rfl (by rfl))) aG)
  (af (aJ (i := 3) di.nd rfl (Or.inl rfl) (aB eK (pv 2) aw (fun _ _ => rfl)))
  (ae (a6 (pN hr (pv 3) ai (aa (pv 1) ag)))))), ?_⟩
 obtain ⟨hk, _, dx, t, e1, kt⟩ := W.e8 k a hq
 obtain ⟨t', e, n1, n2, fn, fd, ps, ke, kp, bi, F⟩ := R.Ll k hk
 refine ⟨_, rfl, a, A.cQ, dx, _, _, rfl, e1, cQ.cl, cQ.na _ (by simp), rfl, aD, t, kvs, bE (AA k), _, rfl, rfl, .inr R.tk, (fun p hp => .inr (R.keys p hp)), .inr (by rw [fg]; exact kt), n2, ?_⟩
 refine ⟨_, rfl, al, us, rfl, .inl hS, _, rfl, e, _, _, _, rfl, rfl, .inr ke, rfl, rfl, _, rfl, ?_⟩
 by_cases c : os.length = arity k
 ·have c' : us.length = arity k := by rw [<- pr.length]; exact c
  have c2 : decide (V.int (us.length : Nat) = V.int (arity k : Nat)) = true := by rw [c']; simp
  rw [c2]
  refine aM ⟨_, rfl, e, _, _, _, rfl, rfl, .inr ke, rfl, _, rfl, fn, fd, ps, _, rfl, kp, F, bi, _, rfl, ?_⟩
  exact ⟨al, us, os, ns, μ, h, B, rfl, hS, c', W, pr, q⟩
 ·have c2 : decide (V.int (us.length : Nat) = V.int (arity k : Nat)) = false := by
   refine decide_eq_false fun z => c ?_
   injection z with z
   rw [pr.length]
   omega
  rw [c2]
  rw [wU h k hk os c] at q
  exact aZ q
end
end Lsp
namespace Lsp
open PySem Spec PyProof.Rows L2
section
variable {P : Program} {w : World} {A : Ad} {K : W.Frag} {H H' : Hp} {ns ju : List Sg02.Bytes} {μ μ' : Mp} {h : Sg02.Heap} {B : Nat} {g : Nat -> Option Sg02.Obj} {d : Addr} {kvs : Tab}
theorem DR.mono (D : DR P w K H ns μ g d kvs) (m : dB μ μ') (i : bF μ H H') (n : jg ns ju) (nd : ju.Nodup) (hd : H' d = some (TD P w d kvs)) : DR P w K H' ju μ' g d kvs := by
 refine ⟨hd, fun p hp => ?_, fun k b e => ?_, fun k hk => ?_⟩
 ·obtain ⟨k, b, e1, e2, e3⟩ := D.keys p hp
  exact ⟨k, b, n k b e1, e2, e3.mono m i⟩
 ·by_cases hk : k < ns.length
  ·have e0 := List.getElem?_eq_getElem hk
   have e1 := n k _ e0
   rw [e] at e1
   have eb : b = ns[k] := Option.some.inj e1
   subst eb
   have v := D.val k _ e0
   cases q : g k with
   | none => rw [q] at v; exact v
   | some x =>
    rw [q] at v
    obtain ⟨u, v1, v2⟩ := v
    exact ⟨u, v1, v2.mono m i n⟩
  ·have q : g k = none := by
    cases q : g k with
    | none => rfl
    | some x => exact absurd (D.Bd k (by rw [q]; simp)) hk
   rw [q]
   show cq kvs (bE b) = none
   cases z : cq kvs (bE b) with
   | none => rfl
   | some v =>
    exfalso
    unfold cq at z
    obtain ⟨p, hp, _⟩ := Option.map_eq_some_iff.mp z
    have hm := List.mem_of_find?_eq_some hp
    have Nd := List.find?_some hp
    obtain ⟨j, c, e1, e2, _⟩ := D.keys p hm
    have ec : c = b := iS (e2.symm.trans (of_decide_eq_true Nd))
    subst ec
    have e3 := n j c e1
    have : j = k := su nd e3 e
    subst this
    exact hk (bG e1)
 ·have hk := D.Bd k hk
  exact bG (n k _ (List.getElem?_eq_getElem hk))
theorem DR.put {n : Nat} {x : Sg02.Obj} {b : Sg02.Bytes} {ba : Addr} {v : V} (D : DR P w K H ns μ g d kvs) (nd : ns.Nodup) (en : ns[n]? = some b) (nb : nJ K H μ ba b) (rx : VR K H ns μ x v) (i : bF μ H H') (hd : H' d = some (TD P w d (bK kvs (bE b) ba v))) :
  DR P w K H' ns μ (Sg02.put g n (some x)) d (bK kvs (bE b) ba v) := by
 have m := dB.refl μ
 have nr := jg.refl ns
 refine ⟨hd, fun p hp => ?_, fun k c e => ?_, fun k hk => ?_⟩
 ·unfold bK at hp
  split at hp
  ·obtain ⟨q, hq, e⟩ := List.mem_map.mp hp
   obtain ⟨k, b', e1, e2, e3⟩ := D.keys q hq
   by_cases z : q.1 = bE b
   ·rw [if_pos z] at e
    subst e
    exact ⟨k, b', e1, e2, e3.mono m i⟩
   ·rw [if_neg z] at e
    subst e
    exact ⟨k, b', e1, e2, e3.mono m i⟩
  ·rcases List.mem_append.mp hp with hp | hp
   ·obtain ⟨k, b', e1, e2, e3⟩ := D.keys p hp
    exact ⟨k, b', e1, e2, e3.mono m i⟩
   ·rw [List.mem_singleton] at hp
    subst hp
    exact ⟨n, b, en, rfl, nb.mono m i⟩
 ·rw [uW]
  by_cases c' : k = n
  ·subst c'
   have : b = c := Option.some.inj (en.symm.trans e)
   subst this
   rw [bH, if_pos rfl]
   exact ⟨v, rfl, rx.mono m i nr⟩
  ·have ne : ¬ bE c = bE b := fun z => by
    have := iS z
    subst this
    exact c' (su nd e en)
   rw [bY _ _ c', if_neg ne]
   have v := D.val k c e
   cases q : g k with
   | none => rw [q] at v; exact v
   | some x =>
    rw [q] at v
    obtain ⟨u, v1, v2⟩ := v
    exact ⟨u, v1, v2.mono m i nr⟩
 ·by_cases c' : k = n
  ·subst c'
   exact bG en
  ·rw [bY _ _ c'] at hk
   exact D.Bd k hk
noncomputable def Mp.addQ (μ : Mp) (k : Nat) (a : Addr) : Mp := { μ with qa := Sg02.put μ.qa k (some a), im := fun b => b = a \/ μ.im b }
theorem WR.addQ {k : Nat} {x dx t : Addr} (W : WR P w A K H ns μ h B) (hk : k < 10) (hq : μ.qa k = none) (nx : H x = Option.none) (hx : H' x = some (.ins A.cQ dx (z8 (.ref t)))) (kt : nM K t ((bz (AA k)).map V.int)) (i : bF μ H H') :
  dB μ (μ.addQ k x) /\ WR P w A K H' ns (μ.addQ k x) h B /\ VR K H' ns (μ.addQ k x) (.prim k) (.ref x) := by
 have ne : ∀ j b, μ.qa j = some b -> j ≠ k := fun j b e z => by rw [z, hq] at e; cases e
 have m : dB μ (μ.addQ k x) := ⟨fun _ _ e => e, fun _ _ e => e, fun j b e => (bY _ _ (ne j b e)).trans e, fun _ e => .inr e⟩
 have n := jg.refl ns
 have nd := W.names.nd
 refine ⟨m, ⟨fun j b e => ?_, W.qT, fun j b e => ?_, W.r6, fun j b e => ?_, fun j l b e1 e2 => ?_, W.gp, W.low, W.fi, W.names, W.cn, fun b z => z.elim (fun z => ⟨_, (congrArg H' z).trans hx⟩) fun z => let ⟨o, e⟩ := W.y9 b z; ⟨o, i b o z e⟩⟩, ⟨x, rfl, bH _ _ _⟩⟩
 ·obtain ⟨h1, h2, ⟨dy, v1, v2, h3, h4, h5⟩, h6⟩ := W.pairs j b e
  exact ⟨h1, .inr h2, ⟨dy, v1, v2, i _ _ h2 h3, h4.mono m i n, h5.mono m i n⟩, h6⟩
 ·obtain ⟨h1, h2, dy, q, vb, ve, vs, h3, h4, h5, h6, h7, h8⟩ := W.fns j b e
  exact ⟨h1, .inr h2, dy, q, vb, ve, vs, i _ _ h2 h3, .inr h4, i _ _ h4 h5, aE h6 fun _ _ z => z.mono m i n, h7.mono m i n, h8.mono m i n nd (.refl h)⟩
 ·by_cases hj : j = k
  ·subst hj
   have eb : x = b := Option.some.inj ((bH μ.qa j (some x)).symm.trans e)
   subst eb
   exact ⟨hk, .inl rfl, dx, t, hx, kt⟩
  ·have e' : μ.qa j = some b := (bY μ.qa (some x) hj).symm.trans e
   obtain ⟨h0, h1, dy, t', h2, h3⟩ := W.e8 j b e'
   exact ⟨h0, .inr h1, dy, t', i _ _ h1 h2, h3⟩
 ·have old : ∀ j b, j ≠ k -> (μ.addQ k x).qa j = some b -> μ.qa j = some b /\ b ≠ x := fun j b hj e => by
   have e' : μ.qa j = some b := (bY μ.qa (some x) hj).symm.trans e
   obtain ⟨_, _, _, _, h3, _⟩ := W.e8 j b e'
   exact ⟨e', fun z => by rw [z, nx] at h3; cases h3⟩
  have new : ∀ b, (μ.addQ k x).qa k = some b -> b = x := fun b e => (Option.some.inj ((bH μ.qa k (some x)).symm.trans e)).symm
  by_cases hj : j = k
  ·by_cases hl : l = k
   ·rw [hj, hl]
   ·subst hj
    exact absurd (new b e1) (old l b hl e2).2
  ·by_cases hl : l = k
   ·subst hl
    exact absurd (new b e2) (old j b hj e1).2
   ·exact W.qS j l b (old j b hj e1).1 (old l b hl e2).1
end
def ES : Mp := ⟨fun _ => none, fun _ => none, fun _ => none, fun _ => False⟩
theorem lA : fJ Sg02.known := ⟨by decide, fun i hi => rfl, by decide, by decide⟩
section
variable {P : Program} {w : World} {A : Ad} {K : W.Frag} {mg : Str -> Option Value} {base : Heap}
theorem Pt (H : Hp) : WR P w A K H Sg02.known ES Sg02.fresh.heap 0 where
 pairs := fun _ _ e => nomatch e
 qT := fun _ _ _ e _ => nomatch e
 fns := fun _ _ e => nomatch e
 r6 := fun _ _ _ e _ => nomatch e
 e8 := fun _ _ e => nomatch e
 qS := fun _ _ _ e _ => nomatch e
 gp := fun i j e => by rcases e with e | e <;> cases e
 low := fun i j e => by cases e
 fi := fun i j e => by cases e
 names := lA
 cn := zA0 _
 y9 := fun _ z => z.elim
def g0 (i : Nat) : Nat -> Option Sg02.Obj := fun n => if n = 5 then some Sg02.T else if 6 <= n /\ n < 6 + i then some (.prim (n - 6)) else none
theorem Fn (i : Nat) : Sg02.put (g0 i) (6 + i) (some (.prim i)) = g0 (i + 1) := by
 funext n
 unfold Sg02.put g0
 by_cases h : n = 6 + i
 ·subst h
  rw [if_pos rfl, if_neg (by omega), if_pos (by omega)]
  congr 2
  omega
 ·rw [if_neg h]
  by_cases h5 : n = 5
  ·rw [if_pos h5, if_pos h5]
  ·rw [if_neg h5, if_neg h5]
   by_cases hn : 6 <= n /\ n < 6 + i
   ·rw [if_pos hn, if_pos (by omega)]
   ·rw [if_neg hn, if_neg (by omega)]
theorem Ib : g0 10 = Sg02.fresh.global := rfl
theorem yg : ∀ k, k < 10 -> Sg02.known[6 + k]? = some (AA k) := by decide
def zt (P : Program) (w : World) (A : Ad) (K : W.Frag) : Sp := fun vs H Q _ => vs = [] /\ ∀ (d : Addr) (H' : Hp) (μ : Mp) (kvs : Tab), H d = Option.none -> aK H H' -> (∀ a, μ.im a -> H a = Option.none) -> ¬ μ.im d -> WR P w A K H' Sg02.known μ Sg02.fresh.heap 0 -> DR P w K H' Sg02.known μ Sg02.fresh.global d kvs -> kvs.length <= 11 -> Q (.ref d) H'
theorem c7 : aq ["definitions", "name"] [] (aj cK) := bQ
theorem iK {ex : Nat -> Addr} {aD aT : Addr} {kvs : Tab} (T : FT K mg "first_definitions" "first_definitions" cK []) (R : NP P w A K mg base ex aD kvs) (nT : oV K mg "NAME_T" aT [116]) (M : fK P w K mg base "Primitive" A.cQ 1 (jx Dn)) :
  aX P w K mg base 3 "first_definitions" [] (zt P w A K) := by
 refine T.ok c7 (fun vs H Q E h => by obtain ⟨rfl, _⟩ := h; rfl) fun f aU A' outer s H vs Q E hr h => ?_
 obtain ⟨rfl, q⟩ := h
 have hu := wa hr
 refine ⟨_, af (aJ (i := 0) c7.nd rfl (Or.inl rfl) (ED hu (ax (v := .ref aT) (by rfl) nT.yc rfl) (ax (v := .ref aT) (by rfl) nT.yc rfl)))
  (af (m6 PassesOwn.leaving rfl (CA (ax (v := .ref aD) (by rfl) R.Lq rfl)) (dA (i := 1) c7.nd rfl (Or.inl rfl))
   (ae (tW hu (pv 0) (pv 1) (b6 M hr (by rfl) ai (aa (pv 1) ag)) rfl)))
  (ae (a6 (pv 0)))), ?_⟩
 intro d nd
 refine ⟨aT, bE [116], rfl, .inr (by rw [fg]; exact nT.tup), ah, aD, kvs, rfl, R.tk, Bm (kvs := kvs) (fun i σ H' => ∃ (v : Option V) (μ : Mp) (ks : Tab), σ = [some (.ref d), v] /\ aK H H' /\ (∀ a, μ.im a -> H a = Option.none) /\ ¬ μ.im d /\ (∀ j, i <= j -> μ.qa j = none) /\
   WR P w A K H' Sg02.known μ Sg02.fresh.heap 0 /\ DR P w K H' Sg02.known μ (g0 i) d ks /\ ks.length <= 1 + i) ?_ ?_ ?_⟩
 ·refine ⟨none, ES, _, rfl, fun b o e => ?_, fun a z => z.elim, fun z => z.elim, fun _ _ => rfl, Pt _, ⟨ah, fun p hp => ?_, fun n b e => ?_, fun n hn => ?_⟩, zA0 _⟩
  ·rw [ak (aI e nd), ak (aI e nd)]
   exact e
  ·rw [List.mem_singleton] at hp
   subst hp
   exact ⟨5, [116], rfl, rfl, .inl nT.tup⟩
  ·rw [dq, BV]
   by_cases h5 : n = 5
   ·subst h5
    have : b = [116] := (Option.some.inj (show some ([116] : Sg02.Bytes) = some b from e)).symm
    subst this
    rw [if_pos rfl]
    exact ⟨.ref aT, rfl, aT, [116], rfl, rfl, .inl nT.tup⟩
   ·have eg : g0 0 n = none := by unfold g0; rw [if_neg h5, if_neg (by omega)]
    rw [eg]
    show (if bE [116] = bE b then _ else _) = _
    rw [if_neg fun z => ?_]
    have := iS z
    subst this
    exact h5 (su lA.nd e (show Sg02.known[5]? = some [116] from rfl))
  ·unfold g0 at hn
   by_cases h5 : n = 5
   ·subst h5; decide
   ·rw [if_neg h5, if_neg (by omega)] at hn
    exact absurd rfl hn
 ·rintro i p σ H' hp ⟨v, μ, ks, rfl, sm, jB, sH, qn, W, D, hl⟩
  have hi : i < 10 := by rw [<- R.len]; exact bG hp
  obtain ⟨t, e, n1, n2, fn, fd, ps, ke, kp, bi, F⟩ := R.Ll i hi
  rw [n1] at hp
  have ep := Option.some.inj hp
  subst ep
  have kt := R.keys _ (List.mem_of_getElem? n1)
  refine ⟨_, rfl, rfl, fun x dx H3 nx hx s3 => ?_⟩
  have OA : nM K t ((bz (AA i)).map V.int) := by rw [<- fg]; exact kt
  obtain ⟨m1, W1, r1⟩ := W.addQ hi (qn i (zA0 _)) nx hx OA (bF.of_same s3)
  have D1 := D.mono m1 (bF.of_same s3) (.refl _) lA.nd (s3 _ _ D.at_)
  refine ⟨_, rfl, _, rfl, d, t, ks, bE (AA i), rfl, rfl, D1.at_, keysOk D1.keys, .inr kt, Nat.lt_of_le_of_lt hl (Nat.lt_of_le_of_lt (show 1 + i <= 1000 by omega) (by decide)), ?_⟩
  have kd : ¬ (μ.addQ i x).im d := fun z => z.elim (fun z => by rw [<- z, D.at_] at nx; cases nx) sH
  have HF : bF (μ.addQ i x) H3 (upd H3 d (TD P w d (bK ks (bE (AA i)) t (.ref x)))) := fun a o ia ea => by
   rw [ak fun z => kd (by rw [<- z]; exact ia)]
   exact ea
  refine ⟨_, μ.addQ i x, bK ks (bE (AA i)) t (.ref x), rfl, fun b o eb => ?_, fun a ia => ?_, kd, fun j hj => ?_, W1.mono HF, ?_, ?_⟩
  ·rw [ak (aI eb nd)]
   exact s3 _ _ (sm _ _ eb)
  ·rcases ia with z | z
   ·rw [z]; exact sm.free nx
   ·exact jB a z
  ·show Sg02.put μ.qa i (some x) j = none
   rw [bY _ _ (by omega)]
   exact qn j (by omega)
  ·have D2 := D1.put lA.nd (yg i hi) (.inl OA) r1 HF ah
   rw [Fn] at D2
   exact D2
  ·exact Nat.le_trans (fE _ _ _ _) (by omega)
 ·rintro σ H' ⟨v, μ, ks, rfl, sm, jB, sH, qn, W, D, hl⟩
  rw [R.len] at D hl
  rw [Ib] at D
  exact ⟨_, rfl, q d H' μ ks nd sm jB sH W D hl⟩
end
end Lsp
namespace Lsp
open PySem Spec PyProof.Rows L2
structure oW where
 cM : Addr
 cL : Addr
 cC : Addr
 cS : Addr
 cN : Addr
 cG : Addr
noncomputable def iO (d l a v : V) : List (Str × V) := br "value" v (br "ahead" a (br "forms_left" l (br "definitions" d [])))
noncomputable def zH (x e : V) : List (Str × V) := br "bindings" e (br "thing" x [])
noncomputable def Ae (p e : V) : List (Str × V) := br "bindings" e (br "parts" p [])
noncomputable def JC (p i e : V) : List (Str × V) := br "bindings" e (br "at" i (br "parts" p []))
noncomputable def JY (n : V) : List (Str × V) := br "name" n []
noncomputable def Gk (p e f : V) : List (Str × V) := br "found" f (br "bindings" e (br "parts" p []))
section
variable (P : Program) (w : World) (A : Ad) (G : oW) (K : W.Frag) (ns : List Sg02.Bytes) (H : Hp) (μ : Mp) (h : Sg02.Heap) (B : Nat)
def k6 : du -> V -> Prop
 | .look x e, v => ∃ a dx vx ve, v = .ref a /\ μ.im a /\ H a = some (.ins G.cL dx (zH vx ve)) /\ VR K H ns μ x vx /\ jF P w A K H ns μ h e ve
 | .choice b c e, v => ∃ a dx pl p0 p1 vb vc ve, v = .ref a /\ μ.im a /\ H a = some (.ins G.cC dx (Ae (.ref pl) ve)) /\ μ.im pl /\ H pl = some (.lst [p0, p1, vb, vc]) /\ VR K H ns μ b vb /\ VR K H ns μ c vc /\ jF P w A K H ns μ h e ve
 | .seq l e, v => ∃ a dx pl us i ve, v = .ref a /\ μ.im a /\ H a = some (.ins G.cS dx (JC (.ref pl) (.int (i : Nat)) ve)) /\ μ.im pl /\ H pl = some (.lst us) /\ Paired (fun o u => VR K H ns μ o u) l (us.drop i) /\ l ≠ [] /\ jF P w A K H ns μ h e ve
 | .cV n, v => ∃ a dx vn, v = .ref a /\ μ.im a /\ H a = some (.ins G.cN dx (JY vn)) /\ VR K H ns μ (.name n) vn
 | .bT _ _ _, _ => False
def lQ (rest found : List Sg02.Obj) (e : Sg02.Env) (v : V) (fl : Addr) : Prop :=
 ∃ a dx pl us fs ve, v = .ref a /\ μ.im a /\ H a = some (.ins G.cG dx (Gk (.ref pl) ve (.ref fl))) /\ μ.im pl /\ H pl = some (.lst us) /\ H fl = some (.lst fs) /\ ¬ μ.im fl /\ Paired (fun o u => VR K H ns μ o u) found fs /\
  Paired (fun o u => VR K H ns μ o u) rest (us.drop (found.length + 1)) /\ found.length + 1 + rest.length = us.length /\ us.length <= B /\ jF P w A K H ns μ h e ve
inductive cY : List du -> List V -> List Addr -> Prop where
 | nil : cY [] [] []
 | plain {s : du} {v : V} {k : List du} {us : List V} {gl : List Addr} (r : k6 P w A G K ns H μ h s v) (t : cY k us gl) : cY (s :: k) (v :: us) gl
 | bT {rest found : List Sg02.Obj} {e : Sg02.Env} {v : V} {fl : Addr} {k : List du} {us : List V} {gl : List Addr} (r : lQ P w A G K ns H μ h B rest found e v fl) (n : fl ∉ gl) (t : cY k us gl) : cY (.bT rest found e :: k) (v :: us) (fl :: gl)
end
section
variable {P : Program} {w : World} {A : Ad} {G : oW} {K : W.Frag} {ns : List Sg02.Bytes} {H H' : Hp} {μ μ' : Mp} {h h' : Sg02.Heap} {B B' : Nat}
theorem k6.mono {s : du} {v : V} (r : k6 P w A G K ns H μ h s v) (m : dB μ μ') (i : bF μ H H') (nd : ns.Nodup) (l : lP h h') : k6 P w A G K ns H' μ' h' s v := by
 have n := jg.refl ns
 cases s with
 | look x e => obtain ⟨a, dx, vx, ve, h1, h2, h3, h4, h5⟩ := r; exact ⟨a, dx, vx, ve, h1, m.im _ h2, i _ _ h2 h3, h4.mono m i n, h5.mono m i n nd l⟩
 | choice b c e => obtain ⟨a, dx, pl, p0, p1, vb, vc, ve, h1, h2, h3, h4, h5, h6, h7, h8⟩ := r; exact ⟨a, dx, pl, p0, p1, vb, vc, ve, h1, m.im _ h2, i _ _ h2 h3, m.im _ h4, i _ _ h4 h5, h6.mono m i n, h7.mono m i n, h8.mono m i n nd l⟩
 | seq q e => obtain ⟨a, dx, pl, us, j, ve, h1, h2, h3, h4, h5, h6, h7, h8⟩ := r; exact ⟨a, dx, pl, us, j, ve, h1, m.im _ h2, i _ _ h2 h3, m.im _ h4, i _ _ h4 h5, aE h6 fun _ _ z => z.mono m i n, h7, h8.mono m i n nd l⟩
 | cV k => obtain ⟨a, dx, vn, h1, h2, h3, h4⟩ := r; exact ⟨a, dx, vn, h1, m.im _ h2, i _ _ h2 h3, h4.mono m i n⟩
 | bT _ _ _ => exact r.elim
theorem lQ.there {rest found : List Sg02.Obj} {e : Sg02.Env} {v : V} {fl : Addr} (r : lQ P w A G K ns H μ h B rest found e v fl) : ∃ fs, H fl = some (.lst fs) := by
 obtain ⟨_, _, _, _, fs, _, _, _, _, _, _, h1, _⟩ := r
 exact ⟨fs, h1⟩
theorem lQ.mono {rest found : List Sg02.Obj} {e : Sg02.Env} {v : V} {fl : Addr} (r : lQ P w A G K ns H μ h B rest found e v fl) (m : dB μ μ') (i : bF μ H H') (nd : ns.Nodup) (l : lP h h') (b : B <= B') (g : H' fl = H fl)
  (ni : ∀ a, μ'.im a -> μ.im a \/ H a = Option.none) : lQ P w A G K ns H' μ' h' B' rest found e v fl := by
 have n := jg.refl ns
 obtain ⟨a, dx, pl, us, fs, ve, h1, h2, h3, h4, h5, h6, h7, h8, h9, Ny, Nw, Nv⟩ := r
 refine ⟨a, dx, pl, us, fs, ve, h1, m.im _ h2, i _ _ h2 h3, m.im _ h4, i _ _ h4 h5, g.trans h6, fun z => ?_, aE h8 fun _ _ z => z.mono m i n, aE h9 fun _ _ z => z.mono m i n, Ny, Nat.le_trans Nw b, Nv.mono m i n nd l⟩
 rcases ni _ z with z | z
 ·exact h7 z
 ·rw [h6] at z; cases z
theorem cY.there {k : List du} {us : List V} {gl : List Addr} (r : cY P w A G K ns H μ h B k us gl) : ∀ f ∈ gl, (∃ fs, H f = some (.lst fs)) /\ ¬ μ.im f := by
 induction r with
 | nil => intro f z; exact nomatch z
 | plain r t ih => exact ih
 | bT r n t ih =>
  intro f z
  rcases List.mem_cons.mp z with z | z
  ·subst z
   refine ⟨r.there, ?_⟩
   obtain ⟨_, _, _, _, fs, _, _, _, _, _, _, _, h1, _⟩ := r
   exact h1
  ·exact ih f z
theorem cY.mono {k : List du} {us : List V} {gl : List Addr} (r : cY P w A G K ns H μ h B k us gl) (m : dB μ μ') (i : bF μ H H') (nd : ns.Nodup) (l : lP h h') (b : B <= B') (g : ∀ f ∈ gl, H' f = H f)
  (ni : ∀ a, μ'.im a -> μ.im a \/ H a = Option.none) : cY P w A G K ns H' μ' h' B' k us gl := by
 induction r with
 | nil => exact .nil
 | plain r t ih => exact .plain (r.mono m i nd l) (ih g)
 | bT r n t ih => exact .bT (r.mono m i nd l b (g _ zA2) ni) n (ih fun f hf => g f (zA1 _ hf))
theorem cY.len {k : List du} {us : List V} {gl : List Addr} (r : cY P w A G K ns H μ h B k us gl) : k.length = us.length := by
 induction r with
 | nil => rfl
 | plain r t ih => simp [ih]
 | bT r n t ih => simp [ih]
end
structure rK (H0 : Hp) (μ0 : Mp) (d : Addr) (H : Hp) (μ : Mp) : Prop where
 fr : ∀ a o, a ≠ d -> H0 a = some o -> H a = some o
 ml : dB μ0 μ
 k8 : ∀ a, μ.im a -> μ0.im a \/ H0 a = Option.none
 Ga : ¬ μ0.im d
 dd : H0 d ≠ Option.none
theorem rK.nd {H0 : Hp} {μ0 : Mp} {d : Addr} {H : Hp} {μ : Mp} (o : rK H0 μ0 d H μ) : ¬ μ.im d := fun z => (o.k8 d z).elim o.Ga o.dd
theorem rK.same {H0 : Hp} {μ0 : Mp} {d : Addr} {H H' : Hp} {μ μ' : Mp} (o : rK H0 μ0 d H μ) (s : aK H H') (m : dB μ μ') (hd : H d ≠ Option.none) (i : ∀ a, μ'.im a -> μ.im a \/ H a = Option.none) : rK H0 μ0 d H' μ' := by
 refine ⟨fun a x n e => s _ _ (o.fr a x n e), o.ml.trans m, fun a z => ?_, o.Ga, o.dd⟩
 rcases i a z with z | z
 ·exact o.k8 a z
 ·by_cases e : a = d
  ·subst e; exact absurd z hd
  ·cases q : H0 a with
   | none => exact .inr rfl
   | some x => rw [o.fr a x e q] at z; cases z
theorem rK.upd {H0 : Hp} {μ0 : Mp} {d a : Addr} {H : Hp} {μ : Mp} {x : HO} (o : rK H0 μ0 d H μ) (n : a = d \/ H0 a = Option.none) : rK H0 μ0 d (L2.upd H a x) μ := by
 refine ⟨fun b y nb e => ?_, o.ml, o.k8, o.Ga, o.dd⟩
 have : b ≠ a := by
  rcases n with n | n
  ·rw [n]; exact nb
  ·exact aI e n
 rw [ak this]
 exact o.fr b y nb e
section
variable (P : Program) (w : World) (A : Ad) (G : oW) (K : W.Frag) (ns : List Sg02.Bytes) (H0 : Hp) (μ0 : Mp) (m d al : Addr) (sz : Nat)
structure dw (dx : Addr) (vv : V) (us : List V) (gl : List Addr) (kvs : Tab) (B : Nat) (H : Hp) (μ : Mp) (k : List du) (v : Sg02.Obj) (W : Sg02.World) : Prop where
 cA : H m = some (.ins G.cM dx (iO (.ref d) (.int (W.left : Nat)) (.ref al) vv))
 val : VR K H ns μ v vv
 cH : H al = some (.lst us.reverse)
 vo : cY P w A G K ns H μ W.heap B k us gl
 wr : WR P w A K H ns μ W.heap B
 dr : DR P w K H ns μ W.global d kvs
 nm : ¬ μ.im m
 na : ¬ μ.im al
 BN : al ∉ gl
 out : rK H0 μ0 d H μ
 fm : H0 m = Option.none
 r8 : H0 al = Option.none
 BM : ∀ f ∈ gl, H0 f = Option.none
 cn : B + kvs.length <= sz
def MR (H : Hp) (μ : Mp) (k : List du) (v : Sg02.Obj) (W : Sg02.World) : Prop := ∃ dx vv us gl kvs B, dw P w A G K ns H0 μ0 m d al sz dx vv us gl kvs B H μ k v W
def AR (H : Hp) (μ : Mp) (W : Sg02.World) : Prop := ∃ kvs B, WR P w A K H ns μ W.heap B /\ DR P w K H ns μ W.global d kvs /\ rK H0 μ0 d H μ /\ B + kvs.length <= sz
def KN (ex : Nat -> Addr) (Q : VK) (E : XK) : RR -> Prop
 | .more c => ∀ H' μ', MR P w A G K ns H0 μ0 m d al sz H' μ' c.ahead c.val c.w -> Q .bf H'
 | .stop (.fault n) W => ∀ H' μ', AR P w A K ns H0 μ0 d sz H' μ' W -> E (.ref (ex n)) none H'
 | .stop .spent W => ∀ H' μ', AR P w A K ns H0 μ0 d sz H' μ' W -> E (.ref (ex 7)) none H'
 | .stop (.value _) _ => True
end
section
variable {P : Program} {w : World} {A : Ad} {G : oW} {K : W.Frag} {ns : List Sg02.Bytes} {H0 : Hp} {μ0 : Mp} {m d al : Addr} {sz : Nat}
variable {dx : Addr} {vv : V} {us : List V} {gl : List Addr} {kvs : Tab} {B : Nat} {H H' : Hp} {μ μ' : Mp} {k : List du} {v : Sg02.Obj} {W : Sg02.World}
theorem dw.ar (M : dw P w A G K ns H0 μ0 m d al sz dx vv us gl kvs B H μ k v W) : AR P w A K ns H0 μ0 d sz H μ W := ⟨kvs, B, M.wr, M.dr, M.out, M.cn⟩
theorem dw.ma (M : dw P w A G K ns H0 μ0 m d al sz dx vv us gl kvs B H μ k v W) : m ≠ al := fun z => by have := M.cA; rw [z, M.cH] at this; cases this
theorem dw.md (M : dw P w A G K ns H0 μ0 m d al sz dx vv us gl kvs B H μ k v W) : m ≠ d := fun z => by have := M.cA; rw [z, M.dr.at_] at this; cases this
theorem dw.ad (M : dw P w A G K ns H0 μ0 m d al sz dx vv us gl kvs B H μ k v W) : al ≠ d := fun z => by have := M.cH; rw [z, M.dr.at_] at this; cases this
theorem dw.mg (M : dw P w A G K ns H0 μ0 m d al sz dx vv us gl kvs B H μ k v W) : ∀ f ∈ gl, f ≠ m /\ f ≠ d /\ f ≠ al := fun f hf => by
 obtain ⟨fs, e⟩ := (M.vo.there f hf).1
 refine ⟨fun z => ?_, fun z => ?_, fun z => M.BN (by rw [<- z]; exact hf)⟩
 ·rw [z, M.cA] at e; cases e
 ·rw [z, M.dr.at_] at e; cases e
theorem dw.Ro (M : dw P w A G K ns H0 μ0 m d al sz dx vv us gl kvs B H μ k v W) : H d ≠ Option.none := by rw [M.dr.at_]; simp
theorem dw.grow {h' : Sg02.Heap} {B' : Nat} (M : dw P w A G K ns H0 μ0 m d al sz dx vv us gl kvs B H μ k v W) (s : aK H H') (ml : dB μ μ') (i : ∀ a, μ'.im a -> μ.im a \/ H a = Option.none) (l : lP W.heap h') (b1 : B <= B') (b2 : B' + kvs.length <= sz)
  (W' : WR P w A K H' ns μ' h' B') : dw P w A G K ns H0 μ0 m d al sz dx vv us gl kvs B' H' μ' k v { W with heap := h' } := by
 have im : bF μ H H' := bF.of_same s
 have n := jg.refl ns
 have nd := M.wr.names.nd
 have g : ∀ f ∈ gl, H' f = H f := fun f hf => by
  obtain ⟨fs, e⟩ := (M.vo.there f hf).1
  rw [e, s _ _ e]
 refine ⟨s _ _ M.cA, M.val.mono ml im n, s _ _ M.cH, M.vo.mono ml im nd l b1 g i, W', M.dr.mono ml im n nd (s _ _ M.dr.at_), fun z => ?_, fun z => ?_, M.BN, M.out.same s ml M.Ro i, M.fm, M.r8, M.BM, b2⟩
 ·rcases i _ z with z | z
  ·exact M.nm z
  ·rw [M.cA] at z; cases z
 ·rcases i _ z with z | z
  ·exact M.na z
  ·rw [M.cH] at z; cases z
theorem dw.same (M : dw P w A G K ns H0 μ0 m d al sz dx vv us gl kvs B H μ k v W) (s : aK H H') : dw P w A G K ns H0 μ0 m d al sz dx vv us gl kvs B H' μ k v W :=
 M.grow s (.refl μ) (fun a z => .inl z) (.refl _) (zA0 _) M.cn (M.wr.mono (bF.of_same s))
theorem WR.FG {h : Sg02.Heap} (W : WR P w A K H ns μ h B) (a : Addr) (ha : ∃ o, H a = some o) : WR P w A K H ns (μ.add a) h B := by
 have m := dB.add μ a
 have i : bF μ H H := fun _ _ _ e => e
 have n := jg.refl ns
 have nd := W.names.nd
 refine ⟨fun k b e => ?_, W.qT, fun k b e => ?_, W.r6, fun k b e => ?_, W.qS, W.gp, W.low, W.fi, W.names, W.cn, fun b z => z.elim (fun z => by rw [z]; exact ha) (W.y9 b)⟩
 ·obtain ⟨h1, h2, ⟨dx, v1, v2, h3, h4, h5⟩, h6⟩ := W.pairs k b e
  exact ⟨h1, .inr h2, ⟨dx, v1, v2, h3, h4.mono m i n, h5.mono m i n⟩, h6⟩
 ·obtain ⟨h1, h2, dx, l, vb, ve, vs, h3, h4, h5, h6, h7, h8⟩ := W.fns k b e
  exact ⟨h1, .inr h2, dx, l, vb, ve, vs, h3, .inr h4, h5, aE h6 fun _ _ z => z.mono m i n, h7.mono m i n, h8.mono m i n nd (.refl h)⟩
 ·obtain ⟨h0, h1, dx, t, h2, h3⟩ := W.e8 k b e
  exact ⟨h0, .inr h1, dx, t, h2, h3⟩
theorem dw.og {a : Addr} (M : dw P w A G K ns H0 μ0 m d al sz dx vv us gl kvs B H μ k v W) (n1 : a ≠ m) (n2 : a ≠ al) (n3 : a ≠ d) (n4 : a ∉ gl) (n5 : H0 a = Option.none) (ha : ∃ o, H a = some o) : dw P w A G K ns H0 μ0 m d al sz dx vv us gl kvs B H (μ.add a) k v W := by
 have ml := dB.add μ a
 have im : bF μ H H := fun _ _ _ e => e
 have n := jg.refl ns
 have nd := M.wr.names.nd
 have st : ∀ {k us gl}, cY P w A G K ns H μ W.heap B k us gl -> a ∉ gl -> cY P w A G K ns H (μ.add a) W.heap B k us gl := by
  intro k us gl r
  induction r with
  | nil => intro _; exact .nil
  | plain r t ih => intro hn; exact .plain (r.mono ml im nd (.refl _)) (ih hn)
  | @bT rest found e v fl k us gl r n0 t ih =>
   intro hn
   refine .bT ?_ n0 (ih fun z => hn (zA1 _ z))
   obtain ⟨b, dx, pl, us, fs, ve, h1, h2, h3, h4, h5, h6, h7, h8, h9, Ny, Nw, Nv⟩ := r
   exact ⟨b, dx, pl, us, fs, ve, h1, .inr h2, h3, .inr h4, h5, h6, fun z => z.elim (fun z => hn (by rw [<- z]; exact zA2)) h7, aE h8 fun _ _ z => z.mono ml im n, aE h9 fun _ _ z => z.mono ml im n, Ny, Nw, Nv.mono ml im n nd (.refl _)⟩
 refine ⟨M.cA, M.val.mono ml im n, M.cH, st M.vo n4, M.wr.FG a ha, M.dr.mono ml im n nd M.dr.at_, fun z => z.elim (fun z => n1 z.symm) M.nm, fun z => z.elim (fun z => n2 z.symm) M.na, M.BN, ⟨M.out.fr, M.out.ml.trans ml, fun b z => ?_, M.out.Ga, M.out.dd⟩, M.fm, M.r8, M.BM, M.cn⟩
 rcases z with z | z
 ·exact .inr (by rw [z]; exact n5)
 ·exact M.out.k8 b z
theorem dw.fresh {a : Addr} (M : dw P w A G K ns H0 μ0 m d al sz dx vv us gl kvs B H μ k v W) (n : H a = Option.none) : H0 a = Option.none /\ a ≠ m /\ a ≠ al /\ a ≠ d /\ a ∉ gl := by
 have nd : a ≠ d := fun z => by rw [z, M.dr.at_] at n; cases n
 refine ⟨?_, fun z => (by rw [z, M.cA] at n; cases n), fun z => (by rw [z, M.cH] at n; cases n), nd, fun z => ?_⟩
 ·cases q : H0 a with
  | none => rfl
  | some x => rw [M.out.fr a x nd q] at n; cases n
 ·obtain ⟨fs, e⟩ := (M.vo.there a z).1
  rw [n] at e; cases e
theorem dw.new {a : Addr} {o : HO} (M : dw P w A G K ns H0 μ0 m d al sz dx vv us gl kvs B H μ k v W) (n : H a = Option.none) (ha : H' a = some o) (s : aK H H') : dw P w A G K ns H0 μ0 m d al sz dx vv us gl kvs B H' (μ.add a) k v W :=
 let ⟨f1, f2, f3, f4, f5⟩ := M.fresh n
 (M.same s).og f2 f3 f4 f5 f1 ⟨_, ha⟩
theorem fh {a : Addr} {o : HO} (n : ¬ μ.im a) : bF μ H (upd H a o) := fun b x ib e => by rw [ak fun z => n (by rw [<- z]; exact ib)]; exact e
theorem dw.value {x : Sg02.Obj} {u : V} (M : dw P w A G K ns H0 μ0 m d al sz dx vv us gl kvs B H μ k v W) (r : VR K H ns μ x u) : dw P w A G K ns H0 μ0 m d al sz dx u us gl kvs B (upd H m (.ins G.cM dx (br "value" u (iO (.ref d) (.int (W.left : Nat)) (.ref al) vv)))) μ k x W := by
 have im : bF μ H (upd H m (.ins G.cM dx (br "value" u (iO (.ref d) (.int (W.left : Nat)) (.ref al) vv)))) := fh M.nm
 have ml := dB.refl μ
 have n := jg.refl ns
 have nd := M.wr.names.nd
 exact ⟨ah, r.mono ml im n, (ak M.ma.symm).trans M.cH, M.vo.mono ml im nd (.refl _) (zA0 _) (fun f hf => ak (M.mg f hf).1) (fun a z => .inl z), M.wr.mono im, M.dr.mono ml im n nd ((ak M.md.symm).trans M.dr.at_), M.nm, M.na, M.BN, M.out.upd (.inr M.fm), M.fm, M.r8, M.BM, M.cn⟩
theorem dw.less (M : dw P w A G K ns H0 μ0 m d al sz dx vv us gl kvs B H μ k v W) (hl : ¬ W.left = 0) : dw P w A G K ns H0 μ0 m d al sz dx vv us gl kvs B (upd H m (.ins G.cM dx (br "forms_left" (.int ((W.left : Int) - 1)) (iO (.ref d) (.int (W.left : Nat)) (.ref al) vv)))) μ k v { W with left := W.left - 1 } := by
 have im : bF μ H (upd H m (.ins G.cM dx (br "forms_left" (.int ((W.left : Int) - 1)) (iO (.ref d) (.int (W.left : Nat)) (.ref al) vv)))) := fh M.nm
 have ml := dB.refl μ
 have n := jg.refl ns
 have nd := M.wr.names.nd
 refine ⟨?_, M.val.mono ml im n, (ak M.ma.symm).trans M.cH, M.vo.mono ml im nd (.refl _) (zA0 _) (fun f hf => ak (M.mg f hf).1) (fun a z => .inl z), M.wr.mono im, M.dr.mono ml im n nd ((ak M.md.symm).trans M.dr.at_), M.nm, M.na, M.BN, M.out.upd (.inr M.fm), M.fm, M.r8, M.BM, M.cn⟩
 rw [ah]
 have e : ((W.left - 1 : Nat) : Int) = (W.left : Int) - 1 := by omega
 show some (HO.ins G.cM dx (iO (.ref d) (.int ((W.left : Int) - 1)) (.ref al) vv)) = some (HO.ins G.cM dx (iO (.ref d) (.int ((W.left - 1 : Nat) : Int)) (.ref al) vv))
 rw [e]
theorem dw.ahead {us' : List V} (M : dw P w A G K ns H0 μ0 m d al sz dx vv us gl kvs B H μ k v W) {k' : List du} {Dl : List Addr} (s : cY P w A G K ns H μ W.heap B k' us' Dl) (n1 : al ∉ Dl) (n2 : ∀ f ∈ Dl, H0 f = Option.none) :
  dw P w A G K ns H0 μ0 m d al sz dx vv us' Dl kvs B (upd H al (.lst us'.reverse)) μ k' v W := by
 have im : bF μ H (upd H al (.lst us'.reverse)) := fh M.na
 have ml := dB.refl μ
 have n := jg.refl ns
 have nd := M.wr.names.nd
 exact ⟨(ak M.ma).trans M.cA, M.val.mono ml im n, ah, s.mono ml im nd (.refl _) (zA0 _) (fun f hf => ak fun z => n1 (by rw [<- z]; exact hf)) (fun a z => .inl z), M.wr.mono im, M.dr.mono ml im n nd ((ak M.ad.symm).trans M.dr.at_), M.nm, M.na, n1, M.out.upd (.inr M.r8), M.fm, M.r8, n2, M.cn⟩
theorem dw.push {s : du} {u : V} (M : dw P w A G K ns H0 μ0 m d al sz dx vv us gl kvs B H μ k v W) (r : k6 P w A G K ns H μ W.heap s u) : dw P w A G K ns H0 μ0 m d al sz dx vv (u :: us) gl kvs B (upd H al (.lst (us.reverse ++ [u]))) μ (s :: k) v W := by
 have := M.ahead (us' := u :: us) (.plain r M.vo) M.BN M.BM
 rw [List.reverse_cons] at this
 exact this
theorem dw.FZ {rest found : List Sg02.Obj} {e : Sg02.Env} {fl : Addr} {u : V} (M : dw P w A G K ns H0 μ0 m d al sz dx vv us gl kvs B H μ k v W) (r : lQ P w A G K ns H μ W.heap B rest found e u fl) (n1 : fl ∉ gl) (n2 : fl ≠ al) (n3 : H0 fl = Option.none) :
  dw P w A G K ns H0 μ0 m d al sz dx vv (u :: us) (fl :: gl) kvs B (upd H al (.lst (us.reverse ++ [u]))) μ (.bT rest found e :: k) v W := by
 have := M.ahead (us' := u :: us) (.bT r n1 M.vo) (fun z => (List.mem_cons.mp z).elim (fun z => n2 z.symm) M.BN) (fun f hf => (List.mem_cons.mp hf).elim (fun z => by rw [z]; exact n3) (M.BM f))
 rw [List.reverse_cons] at this
 exact this
theorem dw.other {a : Addr} {o : HO} (M : dw P w A G K ns H0 μ0 m d al sz dx vv us gl kvs B H μ k v W) (n0 : ¬ μ.im a) (n1 : a ≠ m) (n2 : a ≠ al) (n3 : a ≠ d) (n4 : a ∉ gl) (n5 : H0 a = Option.none) : dw P w A G K ns H0 μ0 m d al sz dx vv us gl kvs B (upd H a o) μ k v W := by
 have im : bF μ H (upd H a o) := fh n0
 have ml := dB.refl μ
 have n := jg.refl ns
 have nd := M.wr.names.nd
 exact ⟨(ak n1.symm).trans M.cA, M.val.mono ml im n, (ak n2.symm).trans M.cH, M.vo.mono ml im nd (.refl _) (zA0 _) (fun f hf => ak fun z => n4 (by rw [<- z]; exact hf)) (fun a z => .inl z), M.wr.mono im, M.dr.mono ml im n nd ((ak n3.symm).trans M.dr.at_), M.nm, M.na, M.BN, M.out.upd (.inr n5), M.fm, M.r8, M.BM, M.cn⟩
theorem dw.define {n : Nat} {b : Sg02.Bytes} {ba : Addr} (M : dw P w A G K ns H0 μ0 m d al sz dx vv us gl kvs B H μ k v W) (en : ns[n]? = some b) (nb : nJ K H μ ba b) :
  dw P w A G K ns H0 μ0 m d al (sz + 1) dx vv us gl (bK kvs (bE b) ba vv) B (upd H d (TD P w d (bK kvs (bE b) ba vv))) μ k v { W with global := Sg02.put W.global n (some v) } := by
 have Ga := M.out.nd
 have im : bF μ H (upd H d (TD P w d (bK kvs (bE b) ba vv))) := fh Ga
 have ml := dB.refl μ
 have nr := jg.refl ns
 have nd := M.wr.names.nd
 have hl := fE kvs (bE b) ba vv
 have hb := M.cn
 exact ⟨(ak M.md).trans M.cA, M.val.mono ml im nr, (ak M.ad).trans M.cH, M.vo.mono ml im nd (.refl _) (zA0 _) (fun f hf => ak (M.mg f hf).2.1) (fun a z => .inl z), M.wr.mono im, M.dr.put nd en nb M.val im ah, M.nm, M.na, M.BN, M.out.upd (.inl rfl), M.fm, M.r8, M.BM, by omega⟩
theorem dw.mr (M : dw P w A G K ns H0 μ0 m d al sz dx vv us gl kvs B H μ k v W) : MR P w A G K ns H0 μ0 m d al sz H μ k v W := ⟨dx, vv, us, gl, kvs, B, M⟩
theorem dw.le {sz' : Nat} (M : dw P w A G K ns H0 μ0 m d al sz dx vv us gl kvs B H μ k v W) (l : sz <= sz') : dw P w A G K ns H0 μ0 m d al sz' dx vv us gl kvs B H μ k v W :=
 ⟨M.cA, M.val, M.cH, M.vo, M.wr, M.dr, M.nm, M.na, M.BN, M.out, M.fm, M.r8, M.BM, Nat.le_trans M.cn l⟩
theorem dw.post {ex : Nat -> Addr} {Q : VK} {E : XK} {c : Cfg} (M : dw P w A G K ns H0 μ0 m d al sz dx vv us gl kvs B H μ k v W) (q : KN P w A G K ns H0 μ0 m d al sz ex Q E (.more c)) (e : c = ⟨k, v, W⟩) : Q .bf H := by
 subst e
 exact q H μ M.mr
end
def kj : du -> Bool
 | .look _ _ => true
 | _ => false
def wt (s : du) : Nat := if kj s = true then 0 else 1
def Jl (k : List du) : Nat := (k.map wt).sum
def yA : du -> Nat
 | .cV _ => 1
 | .bT [] _ _ => 1
 | _ => 0
structure Sh (C sz : Nat) (k : List du) (left : Nat) : Prop where
 top : ∀ s ∈ k.tail, kj s = false
 sum : sz + Jl k + left <= C
theorem bx (s : du) (k : List du) : Jl (s :: k) = wt s + Jl k := by simp [Jl]
theorem yX : ∀ (k : List du), (∀ s ∈ k, kj s = false) -> Jl k = k.length
 | [], _ => rfl
 | s :: k, h => by
  rw [bx, yX k fun t ht => h t (List.mem_cons_of_mem _ ht), List.length_cons]
  have : wt s = 1 := by unfold wt; rw [h s List.mem_cons_self]; rfl
  omega
theorem Sh.len {C sz left : Nat} {k : List du} (h : Sh C sz k left) : k.length <= C + 1 := by
 cases k with
 | nil => exact Nat.zero_le _
 | cons s k =>
  have e := yX k h.top
  have := h.sum
  rw [bx] at this
  rw [List.length_cons]
  omega
theorem Sh.step {C sz : Nat} {s : du} {k : List du} {v : Sg02.Obj} {W : Sg02.World} {c : Cfg} (h : Sh C sz (s :: k) W.left) (e : take1 k v W s = .more c) : Sh C (sz + yA s) c.ahead c.w.left := by
 have ht : ∀ t ∈ k, kj t = false := h.top
 have hs := h.sum
 rw [bx] at hs
 have Dg : ∀ t ∈ k.tail, kj t = false := fun t z => ht t (List.mem_of_mem_tail z)
 have h1 : ∀ (t : du), kj t = false -> ∀ r ∈ (t :: k), kj r = false := fun t h0 r hr => (List.mem_cons.mp hr).elim (fun z => by rw [z]; exact h0) (ht r)
 cases s with
 | look x e' =>
  have w0 : wt (.look x e') = 0 := rfl
  have d0 : yA (.look x e') = 0 := rfl
  rw [w0] at hs
  rw [d0]
  cases x with
  | nil => cases e; exact ⟨Dg, by dsimp only; omega⟩
  | int z => cases e; exact ⟨Dg, by dsimp only; omega⟩
  | fn z => cases e; exact ⟨Dg, by dsimp only; omega⟩
  | prim z => cases e; exact ⟨Dg, by dsimp only; omega⟩
  | name n =>
   unfold take1 at e
   dsimp only at e
   cases q : Sg02.lookup W.heap W.global (W.heap.next + 1) e' n with
   | none => rw [q] at e; cases e
   | some u => rw [q] at e; cases e; exact ⟨Dg, by dsimp only; omega⟩
  | pair i =>
   unfold take1 at e
   dsimp only at e
   by_cases hl : W.left = 0
   ·rw [if_pos hl] at e; cases e
   ·rw [if_neg hl] at e
    cases q : Sg02.items W.heap (W.heap.next + 1) (.pair i) with
    | none => rw [q] at e; cases e
    | some l =>
     rw [q] at e
     dsimp only at e
     unfold iV at e
     split at e
     ·cases e
     ·rename_i x r
      split at e
      ·rename_i n hn
       unfold bj at e
       split at e
       ·cases e; exact ⟨Dg, by dsimp only; omega⟩
       ·cases e; exact ⟨h1 _ rfl, by rw [bx, bx]; dsimp only; rw [show ∀ a b c, wt (.choice a b c) = 1 from fun _ _ _ => rfl, show ∀ a b, wt (.look a b) = 0 from fun _ _ => rfl]; omega⟩
       ·cases e; exact ⟨Dg, by dsimp only; omega⟩
       ·cases e; exact ⟨ht, by rw [bx]; dsimp only; rw [show ∀ a b, wt (.seq a b) = 1 from fun _ _ => rfl]; omega⟩
       ·cases e; exact ⟨h1 _ rfl, by rw [bx, bx]; dsimp only; rw [show ∀ a, wt (.cV a) = 1 from fun _ => rfl, show ∀ a b, wt (.look a b) = 0 from fun _ _ => rfl]; omega⟩
       ·split at e
        ·cases e; exact ⟨Dg, by dsimp only; omega⟩
        ·cases e
       ·cases e
      ·cases e; exact ⟨h1 _ rfl, by rw [bx, bx]; dsimp only; rw [show ∀ a b c, wt (.bT a b c) = 1 from fun _ _ _ => rfl, show ∀ a b, wt (.look a b) = 0 from fun _ _ => rfl]; omega⟩
 | choice b c' e' =>
  cases e
  rw [show wt (.choice b c' e') = 1 from rfl] at hs
  rw [show yA (.choice b c' e') = 0 from rfl]
  exact ⟨ht, by rw [bx]; dsimp only; rw [show ∀ a b, wt (.look a b) = 0 from fun _ _ => rfl]; omega⟩
 | seq l e' =>
  rw [show wt (.seq l e') = 1 from rfl] at hs
  rw [show yA (.seq l e') = 0 from rfl]
  match l with
  | [] => cases e; exact ⟨Dg, by dsimp only; omega⟩
  | [x] => cases e; exact ⟨ht, by rw [bx]; dsimp only; rw [show ∀ a b, wt (.look a b) = 0 from fun _ _ => rfl]; omega⟩
  | x :: y :: l => cases e; exact ⟨h1 _ rfl, by rw [bx, bx]; dsimp only; rw [show ∀ a b, wt (.seq a b) = 1 from fun _ _ => rfl, show ∀ a b, wt (.look a b) = 0 from fun _ _ => rfl]; omega⟩
 | cV n =>
  cases e
  rw [show wt (.cV n) = 1 from rfl] at hs
  rw [show yA (.cV n) = 1 from rfl]
  exact ⟨Dg, by dsimp only; omega⟩
 | bT rest found e' =>
  rw [show wt (.bT rest found e') = 1 from rfl] at hs
  match rest with
  | [] =>
   rw [show yA (.bT [] found e') = 1 from rfl]
   have e : bU k v W (found ++ [v]) = .more c := e
   unfold bU at e
   split at e
   ·split at e
    ·cases e; exact ⟨Dg, by dsimp only; omega⟩
    ·cases e
   ·split at e
    ·cases e
    ·cases e; exact ⟨ht, by rw [bx]; dsimp only; rw [show ∀ a b, wt (.look a b) = 0 from fun _ _ => rfl]; omega⟩
   ·cases e
  | x :: l =>
   cases e
   rw [show yA (.bT (x :: l) found e') = 0 from rfl]
   exact ⟨h1 _ rfl, by rw [bx, bx]; dsimp only; rw [show ∀ a b c, wt (.bT a b c) = 1 from fun _ _ _ => rfl, show ∀ a b, wt (.look a b) = 0 from fun _ _ => rfl]; omega⟩
end Lsp
namespace Lsp
open PySem Spec PyProof.Rows L2
def gL (fs : List V -> V -> List (Str × V)) : List V -> Hp -> (List (Str × V) -> Hp -> Prop) -> Prop := fun us H R => ∀ fl, H fl = Option.none -> R (fs us (.ref fl)) (upd H fl (.lst []))
theorem zR (fs : List V -> V -> List (Str × V)) : ∀ us H (R R' : List (Str × V) -> Hp -> Prop), (∀ f H, R f H -> R' f H) -> gL fs us H R -> gL fs us H R' := fun _ _ _ _ h q fl n => h _ _ (q fl n)
theorem JW {C : Addr} {n : Nat} {fs : List V -> V -> List (Str × V)} {vs : List V} {H1 : Hp} {Q : VK} (hl : vs.length = n)
  (h : ∀ x dx fl H3, H1 x = Option.none -> H1 fl = Option.none -> x ≠ fl -> H3 x = some (.ins C dx (fs vs (.ref fl))) -> H3 fl = some (.lst []) -> aK H1 H3 -> Q (.ref x) H3) :
  vs.length = n /\ ∀ x dx xb, H1 x = Option.none -> H1 dx = Option.none -> dx ≠ x -> aK H1 xb -> (∀ b, b ≠ x -> b ≠ dx -> xb b = H1 b) -> xb x = some (.ins C dx []) ->
   gL fs vs xb fun fs H2 => ∀ H3 : Hp, H3 x = some (.ins C dx fs) -> (∀ b o, H2 b = some o -> b ≠ x -> H3 b = some o) -> Q (.ref x) H3 := by
 refine ⟨hl, fun x dx xb nx nd ne sm _ hx fl nf H3 h3 k => ?_⟩
 have Oz : fl ≠ x := fun z => by rw [z, hx] at nf; cases nf
 refine h x dx fl H3 nx (sm.free nf) Oz.symm h3 (k fl _ ah Oz) fun b o e => k b o ?_ (aI e nx)
 rw [ak (aI e (sm.free nf))]
 exact sm b o e
def FR (C : Addr) (fs : List V -> V -> List (Str × V)) (n : Nat) (t : TA) : TE := fun σ H Q => t σ H fun vs H1 => vs.length = n /\ ∀ x dx fl H3, H1 x = Option.none -> H1 fl = Option.none -> x ≠ fl -> H3 x = some (.ins C dx (fs vs (.ref fl))) -> H3 fl = some (.lst []) -> aK H1 H3 -> Q (.ref x) H3
section
variable {X : Cx} {x : Str} {C : Addr} {n : Nat} {fs : List V -> V -> List (Str × V)} {E : XK} {p pos : Pos} {e : Expr} {es : List Expr} {t : TA}
theorem uf (M : fK X.prog X.w X.K X.mg X.base x C n (gL fs)) (hr : dc 2 X.A) (hg : Gl X x) (hx : Passes (fk X.prog X.w) X E) (ha : PA X (e :: es) t) (wk : (x == ("__debug__" : Str)) = false := by decide)
  (he : starEach (e :: es) X.env = (false, eval e X.env) :: starEach es X.env := by rfl) (wb : (backTo pos (starEach es X.env)).any (·.1) = false := by rfl) : PE X (.Call (.Name x p) (e :: es) [] pos) (FR C fs n t) := by
 obtain ⟨f, fd, ps, hm, M, hb, G⟩ := M
 intro pins s σ H Q I h
 refine wpAny_Call_Name_kw (fF I hg hm ?_ wk)
 refine W.callWith_K (h₀ := X.base) I.ok.mod.IU M.kp (bI (ha pos pins s σ H _ I h) fun us s1 ⟨vs, H1, I1, r, q⟩ => ⟨I1.gu, ?_⟩) he wb
 exact lh (E := E) M G hr hb .nil hx I1 r (xY (JW q.1 q.2) (zR fs))
end
section
variable {P : Program} {w : World} {K : W.Frag} {mg : Str -> Option Value} {base : Heap}
theorem mj : aq ["self", "bound", "outer"] ["self", "bound", "outer"] (aj eJ) := bQ
noncomputable def Du : List V -> List (Str × V) := fun us => Gu (us.getD 0 .bf) (us.getD 1 .bf)
theorem vS {C : Addr} (T : CI K C "Bindings.__init__" eJ ["self", "bound", "outer"]) (c : CT K mg "Bindings" C ["bound", "outer"]) : fK P w K mg base "Bindings" C 2 (jx Du) := by
 refine T.ok c mj rfl fun f aU A outer s H p dx us Q E hl hp q => ?_
 obtain ⟨a, d, rfl⟩ := Hd.n2 hl
 refine ⟨_, af (aP (pv 0) (pv 1) rfl) (ae (aP (pv 0) (pv 2) rfl)), ?_⟩
 refine ⟨_, rfl, _, rfl, p, C, dx, [], rfl, hp, c.cl, c.na _ (by simp), Hd.t0, ?_⟩
 refine ⟨_, rfl, _, rfl, p, C, dx, _, rfl, ah, c.cl, c.na _ (by simp), Hd.t1, ?_⟩
 exact q _ ah fun b o e hb => by rw [ak hb, ak hb]; exact e
theorem tO : aq ["self", "thing", "bindings"] ["self", "thing", "bindings"] (aj iB) := bQ
noncomputable def Gn : List V -> List (Str × V) := fun us => zH (us.getD 0 .bf) (us.getD 1 .bf)
theorem EW {C : Addr} (T : CI K C "Look.__init__" iB ["self", "thing", "bindings"]) (c : CT K mg "Look" C ["thing", "bindings"]) : fK P w K mg base "Look" C 2 (jx Gn) := by
 refine T.ok c tO rfl fun f aU A outer s H p dx us Q E hl hp q => ?_
 obtain ⟨a, d, rfl⟩ := Hd.n2 hl
 refine ⟨_, af (aP (pv 0) (pv 1) rfl) (ae (aP (pv 0) (pv 2) rfl)), ?_⟩
 refine ⟨_, rfl, _, rfl, p, C, dx, [], rfl, hp, c.cl, c.na _ (by simp), Hd.t0, ?_⟩
 refine ⟨_, rfl, _, rfl, p, C, dx, _, rfl, ah, c.cl, c.na _ (by simp), Hd.t1, ?_⟩
 exact q _ ah fun b o e hb => by rw [ak hb, ak hb]; exact e
theorem pD : aq ["self", "parts", "bindings"] ["self", "parts", "bindings"] (aj fT) := bQ
noncomputable def zS : List V -> List (Str × V) := fun us => Ae (us.getD 0 .bf) (us.getD 1 .bf)
theorem AS {C : Addr} (T : CI K C "Choice.__init__" fT ["self", "parts", "bindings"]) (c : CT K mg "Choice" C ["parts", "bindings"]) : fK P w K mg base "Choice" C 2 (jx zS) := by
 refine T.ok c pD rfl fun f aU A outer s H p dx us Q E hl hp q => ?_
 obtain ⟨a, d, rfl⟩ := Hd.n2 hl
 refine ⟨_, af (aP (pv 0) (pv 1) rfl) (ae (aP (pv 0) (pv 2) rfl)), ?_⟩
 refine ⟨_, rfl, _, rfl, p, C, dx, [], rfl, hp, c.cl, c.na _ (by simp), Hd.t0, ?_⟩
 refine ⟨_, rfl, _, rfl, p, C, dx, _, rfl, ah, c.cl, c.na _ (by simp), Hd.t1, ?_⟩
 exact q _ ah fun b o e hb => by rw [ak hb, ak hb]; exact e
theorem mf : aq ["self", "parts", "at", "bindings"] ["self", "parts", "at", "bindings"] (aj eG) := bQ
noncomputable def Kz : List V -> List (Str × V) := fun us => JC (us.getD 0 .bf) (us.getD 1 .bf) (us.getD 2 .bf)
theorem vP {C : Addr} (T : CI K C "Sequence.__init__" eG ["self", "parts", "at", "bindings"]) (c : CT K mg "Sequence" C ["parts", "at", "bindings"]) : fK P w K mg base "Sequence" C 3 (jx Kz) := by
 refine T.ok c mf rfl fun f aU A outer s H p dx us Q E hl hp q => ?_
 obtain ⟨a, b, d, rfl⟩ := Hd.n3 hl
 refine ⟨_, af (aP (pv 0) (pv 1) rfl) (af (aP (pv 0) (pv 2) rfl) (ae (aP (pv 0) (pv 3) rfl))), ?_⟩
 refine ⟨_, rfl, _, rfl, p, C, dx, [], rfl, hp, c.cl, c.na _ (by simp), Hd.t0, ?_⟩
 refine ⟨_, rfl, _, rfl, p, C, dx, _, rfl, ah, c.cl, c.na _ (by simp), Hd.t1, ?_⟩
 refine ⟨_, rfl, _, rfl, p, C, dx, _, rfl, ah, c.cl, c.na _ (by simp), Hd.t2, ?_⟩
 exact q _ ah fun b o e hb => by rw [ak hb, ak hb, ak hb]; exact e
theorem pC : aq ["self", "name"] ["self", "name"] (aj fS) := bQ
noncomputable def K1 : List V -> List (Str × V) := fun us => JY (us.getD 0 .bf)
theorem AQ {C : Addr} (T : CI K C "Naming.__init__" fS ["self", "name"]) (c : CT K mg "Naming" C ["name"]) : fK P w K mg base "Naming" C 1 (jx K1) := by
 refine T.ok c pC rfl fun f aU A outer s H p dx us Q E hl hp q => ?_
 obtain ⟨a, rfl⟩ := Hd.n1 hl
 refine ⟨_, ae (aP (pv 0) (pv 1) rfl), ?_⟩
 refine ⟨_, rfl, _, rfl, p, C, dx, [], rfl, hp, c.cl, c.na _ (by simp), Hd.t0, ?_⟩
 exact q _ ah fun b o e hb => by rw [ak hb]; exact e
theorem bh {H : Hp} {a b : Addr} {o : HO} (e : upd H a o b = Option.none) : b ≠ a /\ H b = Option.none := by
 have n : b ≠ a := fun z => by rw [z, ah] at e; cases e
 rw [ak n] at e
 exact ⟨n, e⟩
theorem lg : aq ["self", "parts", "bindings"] ["self", "parts", "bindings"] (aj dR) := bQ
noncomputable def Gp : List V -> V -> List (Str × V) := fun us f => Gk (us.getD 0 .bf) (us.getD 1 .bf) f
theorem uw {C : Addr} (T : CI K C "Gathering.__init__" dR ["self", "parts", "bindings"]) (c : CT K mg "Gathering" C ["parts", "bindings", "found"]) : fK P w K mg base "Gathering" C 2 (gL Gp) := by
 refine T.ok c lg rfl fun f aU A outer s H p dx us Q E hl hp q => ?_
 obtain ⟨a, d, rfl⟩ := Hd.n2 hl
 refine ⟨_, af (aP (pv 0) (pv 1) rfl) (af (aP (pv 0) (pv 2) rfl) (ae (aP (pv 0) (b7 ag) rfl))), ?_⟩
 refine ⟨_, rfl, _, rfl, p, C, dx, [], rfl, hp, c.cl, c.na _ (by simp), Hd.t0, ?_⟩
 refine ⟨_, rfl, _, rfl, p, C, dx, _, rfl, ah, c.cl, c.na _ (by simp), Hd.t1, ?_⟩
 refine ⟨Nat.zero_le _, fun fl nf => ⟨_, rfl, p, C, dx, _, rfl, (ak (bh nf).1.symm).trans ah, c.cl, c.na _ (by simp), Hd.t2, ?_⟩⟩
 obtain ⟨n1, nf⟩ := bh nf
 obtain ⟨_, nf⟩ := bh nf
 refine q fl nf _ ah fun b o e hb => ?_
 rw [ak hb]
 by_cases c : b = fl
 ·subst c
  rw [ah] at e ⊢
  exact e
 ·rw [ak c] at e ⊢
  rw [ak hb, ak hb]
  exact e
theorem oz : aq ["self", "definitions", "budget"] ["self", "definitions", "budget"] (aj ff) := bQ
noncomputable def Gm : List V -> V -> List (Str × V) := fun us f => iO (us.getD 0 .bf) (us.getD 1 .bf) f .bf
theorem yb {C : Addr} (T : CI K C "Machine.__init__" ff ["self", "definitions", "budget"]) (c : CT K mg "Machine" C ["definitions", "forms_left", "ahead", "value"]) : fK P w K mg base "Machine" C 2 (gL Gm) := by
 refine T.ok c oz rfl fun f aU A outer s H p dx us Q E hl hp q => ?_
 obtain ⟨a, d, rfl⟩ := Hd.n2 hl
 refine ⟨_, af (aP (pv 0) (pv 1) rfl) (af (aP (pv 0) (pv 2) rfl) (af (aP (pv 0) (b7 ag) rfl) (ae (aP (pv 0) bq rfl)))), ?_⟩
 refine ⟨_, rfl, _, rfl, p, C, dx, [], rfl, hp, c.cl, c.na _ (by simp), Hd.t0, ?_⟩
 refine ⟨_, rfl, _, rfl, p, C, dx, _, rfl, ah, c.cl, c.na _ (by simp), Hd.t1, ?_⟩
 refine ⟨Nat.zero_le _, fun fl nf => ⟨_, rfl, p, C, dx, _, rfl, (ak (bh nf).1.symm).trans ah, c.cl, c.na _ (by simp), Hd.t2, ?_⟩⟩
 refine ⟨_, rfl, p, C, dx, _, rfl, ah, c.cl, c.na _ (by simp), Hd.t3, ?_⟩
 obtain ⟨n1, nf⟩ := bh nf
 obtain ⟨_, nf⟩ := bh nf
 refine q fl nf _ ah fun b o e hb => ?_
 rw [ak hb, ak hb]
 by_cases c : b = fl
 ·subst c
  rw [ah] at e ⊢
  exact e
 ·rw [ak c] at e ⊢
  rw [ak hb, ak hb]
  exact e
end
section
variable {P : Program} {w : World} {A : Ad} {K : W.Frag} {mg : Str -> Option Value} {base : Heap}
def xo (P : Program) (w : World) (A : Ad) (K : W.Frag) (e1 : Addr) : Sp := fun vs H Q E => ∃ (vn ve : V) (d : Addr) (n : Nat) (e : Sg02.Env) (ns : List Sg02.Bytes) (μ : Mp) (h : Sg02.Heap) (B : Nat) (g : Nat -> Option Sg02.Obj) (kvs : Tab), vs = [vn, ve, .ref d] /\ WR P w A K H ns μ h B /\ DR P w K H ns μ g d kvs /\
 VR K H ns μ (.name n) vn /\ jF P w A K H ns μ h e ve /\ match lk h g e n with
 | some x => ∀ v, VR K H ns μ x v -> Q v H
 | none => E (.ref e1) none H
theorem dF : aq ["name", "bindings", "definitions", "layer"] ["name", "bindings", "definitions"] (aj eB) := bQ
theorem mJ {e1 : Addr} (T : FT K mg "value_of_name" "value_of_name" eB ["name", "bindings", "definitions"]) (c : CT K mg "Bindings" A.cB ["bound", "outer"]) (x1 : jK K mg "NoValue" e1) :
  aX P w K mg base 1 "value_of_name" ["name", "bindings", "definitions"] (xo P w A K e1) := by
 refine T.ok dF (fun vs H Q E h => by obtain ⟨_, _, _, _, _, _, _, _, _, _, _, rfl, _⟩ := h; rfl) fun f aU A' outer s H vs Q E hr h => ?_
 obtain ⟨vn, ve, d, n, e, ns, μ, h, B, g, kvs, rfl, W, D, ⟨na, b, rfl, hn, nb⟩, ⟨k, re⟩, q⟩ := h
 have hu := wa hr
 have hb : ft K H na ((bE b).map kV) := by rw [fg]; exact nb.sq
 refine ⟨_, af (aJ (i := 3) dF.nd rfl (Or.inl rfl) (pv 1)) (af (d8 PassesOwn.leaving (aA lx (pv 3) bq (aH _))
   (af (aL (C7 (GW hu (pv 0) (ay (pv 3) rfl))) (ae (a6 (ud hu (ay (pv 3) rfl) (pv 0) (fun _ _ => rfl)))) aG) (ae (aJ (i := 3) dF.nd rfl (Or.inl rfl) (ay (pv 3) rfl)))))
  (af (aL (C7 (AB hu (pv 0) (pv 2))) (ae (bZ x1 bt rfl (by rfl))) aG) (ae (a6 (ud hu (pv 2) (pv 0) (fun _ _ => rfl)))))), ?_⟩
 refine ⟨_, rfl, fun j σ H' => H' = H /\ ∃ (e' : Sg02.Env) (v' : V), σ = [some (.ref na), some ve, some (.ref d), some v'] /\ qD P w A K H ns μ h j e' v' /\ lk h g e' n = lk h g e n, ⟨k, rfl, e, ve, rfl, re, rfl⟩, ?_⟩
 rintro j σ H' ⟨rfl, e', v', rfl, GJ, el⟩
 refine ⟨_, rfl, rfl, _, rfl, ?_⟩
 cases GJ with
 | top =>
  refine aM ?_
  refine ⟨_, rfl, _, rfl, d, na, kvs, bE b, rfl, rfl, .inl D.at_, keysOk D.keys, hb, _, rfl, ?_⟩
  have dv := D.val n b hn
  rw [Fc] at el
  rw [<- el] at q
  cases z : g n with
  | none =>
   rw [z] at dv q
   rw [dv]
   exact aZ q
  | some x =>
   rw [z] at dv q
   obtain ⟨v, dv, rv⟩ := dv
   rw [dv]
   exact aM ⟨_, rfl, _, rfl, d, na, kvs, bE b, v, rfl, rfl, .inl D.at_, keysOk D.keys, hb, dv, q v rv⟩
 | @vX j e' e2 bb dd dx o O9 nl xs ib ob Lu od ho bd tb =>
  refine aZ ⟨fun σ' DU => DU = H' /\ ∃ (e' : Sg02.Env) (v' : V), σ' = [some (.ref na), some ve, some (.ref d), some v'] /\ qD P w A K H' ns μ h j e' v' /\ lk h g e' n = lk h g e n, fun σ' DU p => ⟨j, Nat.lt_succ_self _, p⟩, ?_⟩
  refine ⟨_, rfl, _, rfl, bb, A.cB, dx, _, _, rfl, ob, c.cl, c.na _ (by simp), rfl, dd, na, O9, bE b, rfl, rfl, .inl od, keysOk tb.keys, hb, _, rfl, ?_⟩
  have tv := tb.val n b hn
  have bl := bd.lk W.fi g n
  cases z : dD nl xs n with
  | some x =>
   rw [z] at tv bl
   obtain ⟨v, tv, rv⟩ := tv
   rw [tv]
   rw [<- el, bl] at q
   exact aZ ⟨_, rfl, bb, A.cB, dx, _, _, rfl, ob, c.cl, c.na _ (by simp), rfl, _, rfl, dd, na, O9, bE b, v, rfl, rfl, .inl od, keysOk tb.keys, hb, tv, q v rv⟩
  | none =>
   rw [z] at tv bl
   rw [tv]
   refine aM ⟨_, rfl, bb, A.cB, dx, _, _, rfl, ob, c.cl, c.na _ (by simp), rfl, rfl, e2, o, rfl, ho, ?_⟩
   rw [<- el, bl]
def aF (h : Sg02.Heap) (x : Sg02.Obj) : Option (List Sg02.Obj) := Sg02.items h (h.next + 1) x
theorem CY {h : Sg02.Heap} {i n : Nat} (c : Chain h (.pair i) n) (hn : n <= h.next) : aF h (.pair i) = (aF h (h.pair i).2).map fun l => (h.pair i).1 :: l := by
 cases c with
 | plain n hx => exact absurd rfl (hx i)
 | @pair i n c =>
  unfold aF
  rw [Sg02.items, c.items (k := h.next) (j := h.next + 1) (by omega) (by omega)]
theorem Fg (h : Sg02.Heap) : aF h .nil = some [] := rfl
theorem AY {h : Sg02.Heap} {x : Sg02.Obj} (h1 : ∀ i, x ≠ .pair i) (h2 : x ≠ .nil) : aF h x = none := by
 unfold aF
 rw [iU _ h1, if_neg h2]
def oI (P : Program) (w : World) (A : Ad) (K : W.Frag) (e6 : Addr) : Sp := fun vs H Q E => ∃ (v : V) (x : Sg02.Obj) (ns : List Sg02.Bytes) (μ : Mp) (h : Sg02.Heap) (B : Nat), vs = [v] /\ WR P w A K H ns μ h B /\ VR K H ns μ x v /\ B < sizeLine /\
 match aF h x with
 | some l => ∀ (p : Addr) (us : List V) (H' : Hp), H p = Option.none -> aK H H' -> H' p = some (.lst us) -> Paired (fun o u => VR K H ns μ o u) l us -> l.length <= B -> Q (.ref p) H'
 | none => ∀ H', aK H H' -> E (.ref e6) none H'
theorem f7 : aq ["thing", "parts", "rest"] ["thing"] (aj jR) := bQ
theorem az {H : Hp} {p : Addr} {o : HO} (n : H p = Option.none) : aK H (upd H p o) := fun b x e => by rw [ak (aI e n)]; exact e
theorem aR {X : Cx} {o e : Expr} {to te : TE} {apos c5 : Pos} (ho : PE X o to) (he : PE X e te) (bS : attributeBase o "append" X.env (eval o X.env) = eval o X.env := by rfl)
  (yn : ((backTo c5 (starEach [e] X.env)).all (fun x => !x.1) && (backToKw c5 (keywordEach [] X.env)).all (fun x => x.1.isSome)
   && decide ([e].length + ([] : List Keyword).length + (if ([] : List Keyword).isEmpty then 0 else 1) < 30)) = true := by rfl)
  (gX : (apos.endLine == c5.line) = true := by rfl) (hs : starEach [e] X.env = (false, eval e X.env) :: starEach [] X.env := by rfl) (km : (backTo c5 (starEach [] X.env)).any (·.1) = false := by rfl) : PE X (.Call (.Attribute o "append" apos) [e] [] c5) (Le X.K "list" z7 to (pb te tq)) :=
 CD PySem.F.plainAttrs_list PySem.F.slot_list_append PySem.F.type_list_append AO ho (aa he ag hs) bS yn gX hs km
theorem vH {e6 : Addr} (T : FT K mg "parts_of" "parts_of" jR ["thing"]) (i : sV A K) (b1 : mg "isinstance" = none) (c : CT K mg "Pair" A.cP ["head", "tail"]) (x6 : jK K mg "MalformedForm" e6) :
  aX P w K mg base 1 "parts_of" ["thing"] (oI P w A K e6) := by
 refine T.ok f7 (fun vs H Q E h => by obtain ⟨_, _, _, _, _, _, rfl, _⟩ := h; rfl) fun f aU A' outer s H vs Q E hr h => ?_
 obtain ⟨v, x, ns, μ, h, B, rfl, W, r, hB, q⟩ := h
 refine ⟨_, af (aJ (i := 1) f7.nd rfl (Or.inl rfl) (b7 ag)) (af (aJ (i := 2) f7.nd rfl (Or.inl rfl) (pv 0)) (af (d8 PassesOwn.leaving (bc (a7 aY (by rfl) b1 bIsX (aa (pv 2) (aa (ax (v := .ref A.cP) (by rfl) c.kg rfl) ag))))
   (af (a8 (aR (pv 1) (ay (pv 2) rfl))) (ae (aJ (i := 2) f7.nd rfl (Or.inl rfl) (ay (pv 2) rfl)))))
  (af (aL (aA lx (pv 2) bq (aH _)) (ae (bZ x6 bt rfl (by rfl))) aG) (ae (a6 (pv 1)))))), ?_⟩
 refine ⟨Nat.zero_le _, fun p np => ⟨_, rfl, ?_⟩⟩
 refine ⟨fun n σ H' => ∃ (us : List V) (l : List Sg02.Obj) (y : Sg02.Obj) (u : V), σ = [some v, some (.ref p), some u] /\ H' = upd H p (.lst us) /\ Paired (fun o u => VR K H ns μ o u) l us /\ VR K H ns μ y u /\ Chain h y n /\ us.length + n <= B /\ aF h x = (aF h y).map (fun r => l ++ r), ⟨B, [], [], x, v, rfl, rfl, .nil, r, r.chain W, by simp, by simp⟩, ?_⟩
 rintro n σ H' ⟨us, l, y, u, rfl, rfl, pr, ry, cy, hn, el⟩
 have sm : aK H (upd H p (.lst us)) := az np
 have W1 := W.mono (bF.of_same (μ := μ) sm)
 have P9 : VR K (upd H p (.lst us)) ns μ y u := ry.mono (.refl μ) (bF.of_same sm) (.refl ns)
 refine ⟨_, rfl, u, _, _, _, rfl, P9.ty W1 i, (fun v hv => by cases hv; exact i.pair (kdOf y)), _, rfl, ?_⟩
 by_cases k : kdOf y = .pair
 ·rw [decide_eq_true k]
  obtain ⟨j, rfl⟩ : ∃ j, y = .pair j := by
   cases y with
   | pair j => exact ⟨j, rfl⟩
   | nil => cases k
   | int z => cases k
   | name z => cases k
   | fn z => cases k
   | prim z => cases k
  have Rp := cy
  cases cy with
  | plain _ hx => exact absurd rfl (hx j)
  | @pair j n' cy =>
  obtain ⟨a, rfl, ea⟩ := ry
  obtain ⟨_, _, ⟨dx, v1, v2, o1, r1, r2⟩, _⟩ := W.pairs j a ea
  have o2 : upd H p (.lst us) a = some (.ins A.cP dx (pairF v1 v2)) := sm _ _ o1
  refine aZ ⟨fun σ' DU => ∃ (us : List V) (l : List Sg02.Obj) (y : Sg02.Obj) (u : V), σ' = [some v, some (.ref p), some u] /\ DU = upd H p (.lst us) /\ Paired (fun o u => VR K H ns μ o u) l us /\ VR K H ns μ y u /\ Chain h y n' /\ us.length + n' <= B /\ aF h x = (aF h y).map (fun r => l ++ r), fun σ' DU z => ⟨n', Nat.lt_succ_self _, z⟩, ?_⟩
  refine ⟨_, rfl, .inl ⟨rfl, us, .inl (.inl ah)⟩, _, rfl, a, A.cP, dx, _, _, rfl, o2, c.cl, c.na _ (by simp), rfl, p, us, v1, rfl, rfl, ah, by omega, ?_⟩
  have ap : a ≠ p := fun z => by rw [z, np] at o1; cases o1
  refine ⟨_, rfl, a, A.cP, dx, _, _, rfl, (ak ap).trans o2, c.cl, c.na _ (by simp), rfl, ?_⟩
  refine ⟨us ++ [v1], l ++ [(h.pair j).1], (h.pair j).2, v2, rfl, by rw [jk], Paired.snoc pr r1, r2, cy, ?_, ?_⟩
  ·rw [List.length_append, List.length_singleton]; omega
  ·rw [el, CY Rp (Nat.le_trans (by omega) W.cn)]
   cases aF h (h.pair j).2 with
   | none => rfl
   | some r => simp
 ·rw [decide_eq_false k]
  refine aM ⟨_, rfl, rfl, _, rfl, ?_⟩
  by_cases kn : kdOf y = .nil
  ·obtain rfl : y = .nil := by
    cases y with
    | nil => rfl
    | pair j => cases kn
    | int z => cases kn
    | name z => cases kn
    | fn z => cases kn
    | prim z => cases kn
   cases ry
   rw [el, Fg, Option.map_some, List.append_nil] at q
   refine aM ⟨_, rfl, q p us _ np sm ah pr ?_⟩
   rw [pr.length]; omega
  ·have e0 : aF h y = none := AY (fun i z => k (by rw [z]; rfl)) (fun z => kn (by rw [z]; rfl))
   rw [el, e0, Option.map_none] at q
   have nu : ¬ u = .bf := fun z => by
    subst z
    cases y with
    | nil => exact kn rfl
    | pair j => exact k rfl
    | int z => cases ry.1
    | name z => obtain ⟨_, _, e, _⟩ := ry; cases e
    | fn z => obtain ⟨_, e, _⟩ := ry; cases e
    | prim z => obtain ⟨_, e, _⟩ := ry; cases e
   rw [decide_eq_false nu]
   exact aZ (q _ sm)
def kO (K : W.Frag) (e6 : Addr) : Sp := fun vs H Q E => ∃ (p : Addr) (us : List V) (n : Nat), vs = [.ref p, .int n] /\ eu K H p us /\ (us.length = n -> Q .bf H) /\ (us.length ≠ n -> E (.ref e6) none H)
theorem j7 : aq ["parts", "count"] ["parts", "count"] (aj dj) := bQ
theorem j8 {e6 : Addr} (T : FT K mg "check_part_count" "check_part_count" dj ["parts", "count"]) (b1 : mg "len" = none) (x6 : jK K mg "MalformedForm" e6) :
  aX P w K mg base 1 "check_part_count" ["parts", "count"] (kO K e6) := by
 refine T.ok j7 (fun vs H Q E h => by obtain ⟨_, _, _, rfl, _⟩ := h; rfl) fun f aU A' outer s H vs Q E hr h => ?_
 obtain ⟨p, us, n, rfl, hS, q1, q2⟩ := h
 refine ⟨_, ae (aL (aA zD (a7 a9 (by rfl) b1 PySem.boot_len (aa (pv 0) ag)) (pv 1) (aH _)) (ae (bZ x6 bt rfl (by rfl))) aG), ?_⟩
 refine ⟨_, rfl, p, us, rfl, .inl hS, _, rfl, rfl, _, rfl, ?_⟩
 by_cases c : us.length = n
 ·have c2 : decide (V.int (us.length : Nat) = V.int (n : Nat)) = true := by rw [c]; simp
  rw [c2]
  exact aM (q1 c)
 ·have c2 : decide (V.int (us.length : Nat) = V.int (n : Nat)) = false := by
   refine decide_eq_false fun z => c ?_
   injection z with z
   omega
  rw [c2]
  exact aZ (q2 c)
end
end Lsp
namespace Lsp
open PySem Spec PyProof.Rows L2
theorem Dx {K : PySem.W.Frag} {a : Addr} {xs : List V} {g : TG} {tb : TS} {D : Ends} {σ : L2.St} {H : Hp} (Pv : Nat -> L2.St -> Hp -> Prop) (h0 : Pv 0 σ H) (hl : ∀ i σ H, i <= xs.length -> Pv i σ H -> eu K H a xs)
  (hs : ∀ i x T σ H, xs[i]? = some x -> H T = Option.none -> Pv i σ H -> g (.ref T) σ (upd H T (.tup [.int (i : Nat), x])) fun σ2 H2 => tb { D with nx := Pv (i + 1), ct := Pv (i + 1), bk := D.nx } σ2 H2) (hd : ∀ σ H, Pv xs.length σ H -> D.nx σ H) :
  ∃ W : Nat -> Nat -> L2.St -> Hp -> Prop, (∃ m, W 0 m σ H) /\ ∀ i m σ H, W i m σ H ->
   ((KW K a).stop i H /\ D.nx σ H) \/ ((KW K a).go i H /\ ∃ N : L2.St -> Hp -> Prop, (∀ σ' H', N σ' H' -> ∃ m', m' < m /\ W (i + 1) m' σ' H') /\ ∀ x H', (KW K a).BP i H x H' -> g x σ H' fun σ2 H2 => tb { D with nx := N, ct := N, bk := D.nx } σ2 H2) := by
 refine ⟨fun i m σ H => m = xs.length - i /\ i <= xs.length /\ Pv i σ H, ⟨xs.length, by simp, Nat.zero_le _, h0⟩, ?_⟩
 rintro i m σ H ⟨rfl, hi, p⟩
 have q := hl i σ H hi p
 by_cases hW : i < xs.length
 ·refine .inr ⟨⟨xs, xs[i], q, by simp [hW]⟩, Pv (i + 1), fun σ' H' p' => ⟨xs.length - (i + 1), by omega, rfl, hW, p'⟩, fun x H' y => ?_⟩
  obtain ⟨T, z, rfl, nT, rfl, y⟩ := y
  exact hs i z T σ H (y xs q) nT p
 ·have e : i = xs.length := by omega
  subst e
  exact .inl ⟨⟨xs, q, zA0 _⟩, hd σ H p⟩
section
variable {P : Program} {w : World} {A : Ad} {K : W.Frag} {mg : Str -> Option Value} {base : Heap}
def zu (P : Program) (w : World) (A : Ad) (K : W.Frag) (e3 : Addr) : Sp := fun vs H Q E => ∃ (fa l : Addr) (i : Nat) (us : List V) (args : List Sg02.Obj) (ns : List Sg02.Bytes) (μ : Mp) (h : Sg02.Heap) (B : Nat), vs = [.ref fa, .ref l] /\ WR P w A K H ns μ h B /\ μ.fa i = some fa /\ eu K H l us /\
 Paired (fun o u => VR K H ns μ o u) args us /\ args.length < sizeLine /\ (args.length ≠ (h.fn i).1.length -> E (.ref e3) none H) /\
 (args.length = (h.fn i).1.length -> ∀ v' H' μ', aK H H' -> dB μ μ' -> (∀ a, μ'.im a -> μ.im a \/ H a = Option.none) -> WR P w A K H' ns μ' (Sg02.bindAll h (h.fn i).2.2 (h.fn i).1 args).1 B ->
  jF P w A K H' ns μ' (Sg02.bindAll h (h.fn i).2.2 (h.fn i).1 args).1 (Sg02.bindAll h (h.fn i).2.2 (h.fn i).1 args).2 v' -> Q v' H')
theorem bR : aq ["function", "arguments", "bound", "place", "name"] ["function", "arguments"] (aj dk) := bQ
theorem j9 {e3 : Addr} (T : FT K mg "bindings_of_call" "bindings_of_call" dk ["function", "arguments"]) (b1 : mg "len" = none) (b2 : mg "enumerate" = none) (c : CT K mg "Function" A.cF ["names", "body", "bindings"]) (x3 : jK K mg "WrongCount" e3)
  (M : fK P w K mg base "Bindings" A.cB 2 (jx Du)) : aX P w K mg base 3 "bindings_of_call" ["function", "arguments"] (zu P w A K e3) := by
 refine T.ok bR (fun vs H Q E h => by obtain ⟨_, _, _, _, _, _, _, _, _, rfl, _⟩ := h; rfl) fun f aU A' outer s H vs Q E hr h => ?_
 obtain ⟨fa, l, i, us, args, ns, μ, h, B, rfl, W, ef, hS, pr, hz, q1, q2⟩ := h
 have hu := wa hr
 obtain ⟨hi, RI, dx, ln, vb, ve, vs, o1, Qu, o2, pn, rb, re⟩ := W.fns i fa ef
 refine ⟨_, af (aL (aA zD (a7 a9 (by rfl) b1 PySem.boot_len (aa (pv 1) ag)) (a7 a9 (by rfl) b1 PySem.boot_len (aa (ay (pv 0) rfl) ag)) (aH _)) (ae (bZ x3 bt rfl (by rfl))) aG)
  (af (aJ (i := 2) bR.nd rfl (Or.inl rfl) EE)
  (af (m6 PassesOwn.leaving rfl (EB (by rfl) b2 (aa (ay (pv 0) rfl) ag)) (GP (n := 2) rfl (vB (dA (i := 3) bR.nd rfl (Or.inl rfl)) (vB (dA (i := 4) bR.nd rfl (Or.inl rfl)) EC)))
   (ae (tW hu (pv 2) (pv 4) (aB a5 (pv 1) (pv 3) (fun _ _ => rfl)) rfl)))
  (ae (a6 (b6 M hr (by rfl) ai (aa (pv 2) (aa (ay (pv 0) rfl) ag))))))), ?_⟩
 refine ⟨_, rfl, l, us, rfl, .inl hS, _, rfl, fa, A.cF, dx, _, _, rfl, o1, c.cl, c.na _ (by simp), rfl, ln, vs, rfl, .inl (.inl (.inl o2)), rfl, _, rfl, ?_⟩
 have el : us.length = args.length := pr.length.symm
 have en : vs.length = (h.fn i).1.length := pn.length.symm
 by_cases cc : args.length = (h.fn i).1.length
 ·have c2 : decide (V.int (us.length : Nat) = V.int (vs.length : Nat)) = true := by rw [el, en, cc]; simp
  rw [c2]
  refine aM fun d nd => ?_
  have IK : aK H (upd H d (TD P w d [])) := az nd
  refine ⟨_, rfl, fa, A.cF, dx, _, _, rfl, IK _ _ o1, c.cl, c.na _ (by simp), rfl, ln, vs, rfl, .inl (.inl (IK _ _ o2)), ?_⟩
  refine Dx (K := K) (a := ln) (xs := vs) (fun k σ H' => ∃ (kvs : Tab) (u1 u2 : Option V), σ = [some (.ref fa), some (.ref l), some (.ref d), u1, u2] /\ aK H H' /\ H' d = some (TD P w d kvs) /\ rJ K H ns μ ((h.fn i).1.take k) (args.take k) kvs /\ kvs.length <= k) ?_ (fun k σ H' _ ⟨_, _, _, _, sm, _⟩ => .inl (.inl (sm _ _ o2))) ?_ ?_
  ·exact ⟨[], none, none, rfl, IK, ah, .empty, zA0 _⟩
  ·rintro k x Tp σ H' hx nT ⟨kvs, u1, u2, rfl, sm, od, tb, hk⟩
   have sT : aK H' (upd H' Tp (.tup [.int (k : Nat), x])) := az nT
   obtain ⟨n, hn, rn⟩ := eA pn hx
   have RD := rn
   obtain ⟨na, b, rfl, eb, nb⟩ := rn
   have RO : k < args.length := by have := bG hx; omega
   obtain ⟨y, hy⟩ : ∃ y, us[k]? = some y := ⟨us[k]'(by omega), List.getElem?_eq_getElem _⟩
   obtain ⟨o, ho, ro⟩ := eA pr hy
   have Lh : aK H (upd H' Tp (.tup [.int (k : Nat), .ref na])) := sm.trans sT
   have kT := tb.mono (.refl μ) (bF.of_same Lh) (.refl ns) W.names.nd
   have Ql : nJ K (upd H' Tp (.tup [.int (k : Nat), .ref na])) μ na b := nb.mono (.refl μ) (bF.of_same Lh)
   refine ⟨Tp, [.int (k : Nat), .ref na], rfl, .inl (.inl ah), rfl, _, _, rfl, _, _, rfl, rfl, ?_⟩
   refine ⟨_, rfl, _, rfl, l, us, _, y, rfl, rfl, Lh.seq hS, eW hy, _, rfl, _, rfl, d, na, kvs, bE b, rfl, rfl, sT _ _ od, keysOk kT.keys, by rw [fg]; exact Ql.sq, by omega, ?_⟩
   refine ⟨bK kvs (bE b) na y, _, _, rfl, fun b' o' e' => ?_, ah, ?_, ?_⟩
   ·rw [ak (aI e' nd)]
    exact Lh _ _ e'
   ·rw [List.take_add_one, List.take_add_one, hn, ho]
    refine tb.put ?_ W.names.nd eb nb ro
    rw [List.length_take, List.length_take, cc]
   ·exact Nat.le_trans (fE _ _ _ _) (by omega)
  ·rintro σ H' ⟨kvs, u1, u2, rfl, sm, od, tb, hk⟩
   rw [en, List.take_length, <- cc, List.take_length] at tb
   refine ⟨_, rfl, _, rfl, fa, A.cF, dx, _, _, rfl, sm _ _ o1, c.cl, c.na _ (by simp), rfl, rfl, fun x sM H3 nx hx s3 => ?_⟩
   have s4 := sm.trans s3
   have ml : dB μ ((μ.add d).add x) := (dB.add μ d).trans (dB.add _ x)
   have Kj : bF μ H H3 := bF.of_same s4
   obtain ⟨kk, GJ⟩ := re
   have hb := gQ (h.fn i).1 args h (h.fn i).2.2
   have hp := lL (h.fn i).1 args h (h.fn i).2.2
   have bo := jd (h.fn i).1 args h (h.fn i).2.2 W.fi GJ.rank
   refine q2 cc (.ref x) H3 ((μ.add d).add x) s4 ml (fun a z => ?_) ((((W.mono Kj).binds hb hp.1 hp.2 bo).FG d ⟨_, s3 _ _ od⟩).FG x ⟨_, hx⟩) ⟨kk + 1, ?_⟩
   ·rcases z with z | z | z
    ·exact .inr (by rw [z]; exact sm.free nx)
    ·exact .inr (by rw [z]; exact nd)
    ·exact .inl z
   ·exact .vX (.inl rfl) hx (.inr (.inl rfl)) (s3 _ _ od) (GJ.mono ml Kj (.refl ns) W.names.nd hb) (jJ _ _ h _ cc.symm) (tb.mono ml Kj (.refl ns) W.names.nd)
 ·have c2 : decide (V.int (us.length : Nat) = V.int (vs.length : Nat)) = false := by
   refine decide_eq_false fun z => cc ?_
   injection z with z
   omega
  rw [c2]
  exact aZ (q1 cc)
theorem ou : ∀ (l : List Sg02.Obj), (∀ o ∈ l, kdOf o = .name) -> ∃ nl, Sg02.asNames l = some nl /\ l = nl.map .name
 | [], _ => ⟨[], rfl, rfl⟩
 | o :: l, h => by
  obtain ⟨nl, e1, e2⟩ := ou l fun x hx => h x (zA1 _ hx)
  have := h o zA2
  cases o with
  | name n => exact ⟨n :: nl, by rw [Sg02.asNames, e1]; rfl, by rw [e2]; rfl⟩
  | nil => cases this
  | int z => cases this
  | pair z => cases this
  | fn z => cases this
  | prim z => cases this
theorem oq : ∀ (l : List Sg02.Obj) (o : Sg02.Obj), o ∈ l -> kdOf o ≠ .name -> Sg02.asNames l = none
 | [], _, h, _ => nomatch h
 | x :: l, o, h, n => by
  cases x with
  | name m =>
   rw [Sg02.asNames]
   rcases List.mem_cons.mp h with z | z
   ·subst z; exact absurd rfl n
   ·rw [oq l o z n]; rfl
  | nil => rfl
  | int z => rfl
  | pair z => rfl
  | fn z => rfl
  | prim z => rfl
noncomputable def Bl (h : Sg02.Heap) : List Sg02.Obj -> Option (List Nat × Sg02.Obj)
 | [names, body] => ((aF h names).bind Sg02.asNames).map fun l => (l, body)
 | _ => none
def Cn (P : Program) (w : World) (A : Ad) (K : W.Frag) (e6 : Addr) : Sp := fun vs H Q E => ∃ (pl : Addr) (ve : V) (us : List V) (l : List Sg02.Obj) (e : Sg02.Env) (ns : List Sg02.Bytes) (μ : Mp) (h : Sg02.Heap) (B : Nat), vs = [.ref pl, ve] /\ WR P w A K H ns μ h B /\ eu K H pl us /\ l ≠ [] /\
 Paired (fun o u => VR K H ns μ o u) l us /\ B < sizeLine /\ jF P w A K H ns μ h e ve /\ match Bl h l.tail with
 | some (nl, body) => ∀ x H' μ', aK H H' -> dB μ μ' -> (∀ a, μ'.im a -> μ.im a \/ H a = Option.none) -> WR P w A K H' ns μ' (addFn h nl body e) B -> VR K H' ns μ' (.fn h.next) (.ref x) -> Q (.ref x) H'
 | none => ∀ H', aK H H' -> E (.ref e6) none H'
theorem fb : aq ["parts", "bindings", "names", "name"] ["parts", "bindings"] (aj fN) := bQ
theorem pO {α β γ : Type} {F : α -> β -> Prop} (g : γ -> α) : ∀ {l : List γ} {us : List β}, Paired F (l.map g) us -> Paired (fun x u => F (g x) u) l us
 | [], us, h => by cases h; exact .nil
 | x :: l, us, h => by
  cases h with
  | cons r t => exact .cons r (pO g t)
theorem pR {e6 : Addr} (T : FT K mg "function_of" "function_of" fN ["parts", "bindings"]) (i : sV A K) (x6 : jK K mg "MalformedForm" e6) (F1 : aX P w K mg base 1 "check_part_count" ["parts", "count"] (kO K e6)) (F2 : aX P w K mg base 1 "parts_of" ["thing"] (oI P w A K e6))
  (F3 : aX P w K mg base 1 "is_name" ["thing"] (ir K (.type "tuple"))) (M : fK P w K mg base "Function" A.cF 3 (jx Dt)) : aX P w K mg base 3 "function_of" ["parts", "bindings"] (Cn P w A K e6) := by
 refine T.ok fb (fun vs H Q E h => by obtain ⟨_, _, _, _, _, _, _, _, _, rfl, _⟩ := h; rfl) fun f aU A' outer s H vs Q E hr h => ?_
 obtain ⟨pl, ve, us, l, e, ns, μ, h, B, rfl, W, hS, rm, pr, hB, re, q⟩ := h
 have jw := hr.mono (show 1 <= 2 by decide)
 refine ⟨_, af (a8 (aW F1 jw (by rfl) ai (aa (pv 0) (aa aw ag)))) (af (aJ (i := 2) fb.nd rfl (Or.inl rfl) (aW F2 jw (by rfl) ai (aa (aB a5 (pv 0) aw (fun _ _ => rfl)) ag)))
  (af (m6 PassesOwn.leaving rfl (ub (pv 2)) (dA (i := 3) fb.nd rfl (Or.inl rfl)) (ae (aL (c9 (bc (aW F3 jw (by rfl) ai (aa (pv 3) ag)))) (ae (bZ x6 bt rfl (by rfl))) aG)))
  (ae (a6 (b6 M hr (by rfl) ai (aa (pv 2) (aa (aB a5 (pv 0) aw (fun _ _ => rfl)) (aa (pv 1) ag)))))))), ?_⟩
 refine ⟨_, rfl, pl, us, 3, rfl, hS, fun c3 => ?_, fun n3 => ?_⟩
 ·obtain ⟨x0, x1, x2, u0, u1, u2, rfl, rfl, r0, r1, r2⟩ : ∃ x0 x1 x2 u0 u1 u2, l = [x0, x1, x2] /\ us = [u0, u1, u2] /\ VR K H ns μ x0 u0 /\ VR K H ns μ x1 u1 /\ VR K H ns μ x2 u2 := by
   cases pr with
   | nil => simp at c3
   | cons r t =>
    cases t with
    | nil => simp at c3
    | cons r' t' =>
     cases t' with
     | nil => simp at c3
     | cons PM P6 =>
      cases P6 with
      | nil => exact ⟨_, _, _, _, _, _, rfl, rfl, r, r', PM⟩
      | cons _ _ => simp at c3
  have q : match ((aF h x1).bind Sg02.asNames).map fun l => (l, x2) with
    | some (nl, body) => ∀ x H' μ', aK H H' -> dB μ μ' -> (∀ a, μ'.im a -> μ.im a \/ H a = Option.none) -> WR P w A K H' ns μ' (addFn h nl body e) B -> VR K H' ns μ' (.fn h.next) (.ref x) -> Q (.ref x) H'
    | none => ∀ H', aK H H' -> E (.ref e6) none H' := q
  refine ⟨_, rfl, pl, _, _, _, rfl, rfl, hS, rfl, u1, x1, ns, μ, h, B, rfl, W, r1, hB, ?_⟩
  cases z : aF h x1 with
  | none =>
   rw [z] at q
   exact q
  | some l1 =>
   rw [z, Option.bind_some] at q
   intro p Oa H1 np sm op Mu RN
   have W1 := W.mono (bF.of_same (μ := μ) sm)
   refine ⟨_, rfl, p, rfl, ⟨Oa, .inl (.inl op)⟩, wx (K := K) (a := p) (xs := Oa) (fun k σ H' => H' = H1 /\ (∃ v, σ = [some (.ref pl), some ve, some (.ref p), v]) /\ ∀ o ∈ l1.take k, kdOf o = .name) ⟨rfl, ⟨none, rfl⟩, (fun o ho => by simp at ho)⟩ (fun k σ H' _ ⟨e, _⟩ => by rw [e]; exact .inl (.inl op)) ?_ ?_⟩
   ·rintro k y σ H' hy ⟨rfl, ⟨v, rfl⟩, ha⟩
    obtain ⟨o, ho, ro⟩ := eA Mu hy
    have PD : VR K H' ns μ o y := ro.mono (.refl μ) (bF.of_same sm) (.refl ns)
    refine ⟨_, rfl, y, _, _, rfl, PD.ty W1 i, i.tup (kdOf o), _, rfl, ?_⟩
    by_cases c : kdOf o = .name
    ·rw [decide_eq_true c]
     refine aM ⟨rfl, ⟨_, rfl⟩, fun o' wg => ?_⟩
     rw [List.take_add_one, ho] at wg
     rcases List.mem_append.mp wg with m | m
     ·exact ha o' m
     ·have m : o' ∈ [o] := m
      rw [List.mem_singleton] at m
      rw [m]; exact c
    ·rw [decide_eq_false c]
     rw [oq l1 o (List.mem_of_getElem? ho) c, Option.map_none] at q
     exact aZ (q _ sm)
   ·rintro σ H' ⟨rfl, ⟨v, rfl⟩, ha⟩
    rw [<- Mu.length, List.take_length] at ha
    obtain ⟨nl, e1, e2⟩ := ou l1 ha
    rw [e1, Option.map_some] at q
    subst e2
    refine ⟨_, rfl, _, rfl, pl, _, _, _, rfl, rfl, sm.seq hS, rfl, _, rfl, rfl, fun x dx H3 nx hx s3 => ?_⟩
    have s4 := sm.trans s3
    obtain ⟨m1, W2, r3⟩ := W.func (l := p) r2 re (sm.free nx) hx (s3 _ _ op) (pO _ Mu) (bF.of_same s4)
    refine q x H3 _ s4 m1 (fun a z => ?_) W2 r3
    rcases z with z | z | z
    ·exact .inr (by rw [z]; exact sm.free nx)
    ·exact .inr (by rw [z]; exact np)
    ·exact .inl z
 ·have q : ∀ H', aK H H' -> E (.ref e6) none H' := by
   have hn : Bl h l.tail = none := by
    have hl : l.length ≠ 3 := by rw [pr.length]; exact n3
    match l, rm, hl with
    | [a], _, _ => rfl
    | [a, b], _, _ => rfl
    | [a, b, c], _, hl => exact absurd rfl hl
    | a :: b :: c :: d :: r, _, _ => rfl
   rw [hn] at q
   exact q
  exact q H (aK.refl H)
end
end Lsp
namespace Lsp
open PySem Spec PyProof.Rows L2
inductive Sk where
 | L | C | S | N | G
 deriving DecidableEq
def sA (G : oW) : Sk -> Addr
 | .L => G.cL
 | .C => G.cC
 | .S => G.cS
 | .N => G.cN
 | .G => G.cG
def GC : du -> Sk
 | .look _ _ => .L
 | .choice _ _ _ => .C
 | .seq _ _ => .S
 | .cV _ => .N
 | .bT _ _ _ => .G
structure NN (G : oW) (K : W.Frag) : Prop where
 i : ∀ s, yV K (sA G s)
 Ed : ∀ s t, W.kitOne K (.ref (sA G s)) (.ref (sA G t)) = some (decide (s = t))
structure MX where
 ns : List Sg02.Bytes
 H0 : Hp
 ES : Mp
 m : Addr
 d : Addr
 al : Addr
 sz : Nat
 dx : Addr
 vv : V
 us : List V
 gl : List Addr
 kvs : Tab
 B : Nat
 mu : Mp
 k : List du
 v : Sg02.Obj
 W : Sg02.World
section
variable (P : Program) (w : World) (A : Ad) (G : oW) (K : W.Frag)
structure MX.R (X : MX) (H : Hp) : Prop where
 r : dw P w A G K X.ns X.H0 X.ES X.m X.d X.al X.sz X.dx X.vv X.us X.gl X.kvs X.B H X.mu X.k X.v X.W
 hk : X.k.length + 4 <= sizeLine
 hz : X.sz + 4 <= sizeLine
abbrev MX.Po (X : MX) (sz : Nat) (ex : Nat -> Addr) (Q : VK) (E : XK) (r : RR) : Prop := KN P w A G K X.ns X.H0 X.ES X.m X.d X.al sz ex Q E r
structure yQ (X : MX) (H : Hp) (pl : Addr) (ps : List V) (l : List Sg02.Obj) (e : Sg02.Env) (ve : V) : Prop where
 im : X.mu.im pl
 at_ : H pl = some (.lst ps)
 pr : Paired (fun o u => VR K H X.ns X.mu o u) l ps
 ne : l ≠ []
 len : ps.length <= X.B
 env : jF P w A K H X.ns X.mu X.W.heap e ve
structure DW (mg : Str -> Option Value) (base : Heap) : Prop where
 cM : CT K mg "Machine" G.cM ["definitions", "forms_left", "ahead", "value"]
 cL : CT K mg "Look" G.cL ["thing", "bindings"]
 cC : CT K mg "Choice" G.cC ["parts", "bindings"]
 cS : CT K mg "Sequence" G.cS ["parts", "at", "bindings"]
 cN : CT K mg "Naming" G.cN ["name"]
 cG : CT K mg "Gathering" G.cG ["parts", "bindings", "found"]
 mM : fK P w K mg base "Machine" G.cM 2 (gL Gm)
 mL : fK P w K mg base "Look" G.cL 2 (jx Gn)
 mC : fK P w K mg base "Choice" G.cC 2 (jx zS)
 mS : fK P w K mg base "Sequence" G.cS 3 (jx Kz)
 mN : fK P w K mg base "Naming" G.cN 1 (jx K1)
 mG : fK P w K mg base "Gathering" G.cG 2 (gL Gp)
end
section
variable {P : Program} {w : World} {A : Ad} {G : oW} {K : W.Frag} {mg : Str -> Option Value} {base : Heap} {ex : Nat -> Addr}
theorem MX.R.au {X : MX} {H : Hp} (R : X.R P w A G K H) : X.us.reverse.length < sizeLine /\ X.us.reverse.length + 1 < sizeLine := by
 have := R.r.vo.len
 have := R.hk
 rw [List.length_reverse]
 omega
theorem kP {us : List V} {u : V} (h : us.reverse.length + 1 < sizeLine) : (u :: us).reverse.length < sizeLine := by
 rw [List.length_reverse] at h ⊢
 rw [List.length_cons]
 exact h
theorem dw.lp {ns : List Sg02.Bytes} {H0 : Hp} {μ0 : Mp} {m d al : Addr} {sz : Nat} {dx : Addr} {vv : V} {us : List V} {gl : List Addr} {kvs : Tab} {B : Nat} {H H3 : Hp} {μ : Mp} {k : List du} {v : Sg02.Obj} {W : Sg02.World}
  {x : Sg02.Obj} {e : Sg02.Env} {vx ve : V} {a dy : Addr} (M : dw P w A G K ns H0 μ0 m d al sz dx vv us gl kvs B H μ k v W) (rx : VR K H ns μ x vx) (re : jF P w A K H ns μ W.heap e ve) (na : H a = Option.none) (ha : H3 a = some (.ins G.cL dy (zH vx ve))) (s : aK H H3) :
  dw P w A G K ns H0 μ0 m d al sz dx vv (.ref a :: us) gl kvs B (upd H3 al (.lst (us.reverse ++ [.ref a]))) (μ.add a) (.look x e :: k) v W := by
 have im : bF μ H H3 := bF.of_same s
 exact (M.new na ha s).push (s := .look x e) ⟨a, dy, vx, ve, rfl, .inl rfl, ha, rx.mono (.add μ a) im (.refl ns), re.mono (.add μ a) im (.refl ns) M.wr.names.nd (.refl _)⟩
def t8 (P : Program) (w : World) (A : Ad) (G : oW) (K : W.Frag) (ex : Nat -> Addr) : Sp := fun vs H Q E => ∃ (X : MX) (pl : Addr) (ps : List V) (l : List Sg02.Obj) (e : Sg02.Env) (ve : V), vs = [.ref X.m, .ref pl, ve] /\ X.R P w A G K H /\ yQ P w A K X H pl ps l e ve /\ X.Po P w A G K X.sz ex Q E (bj 2 l.tail e X.k X.v X.W)
theorem pA : aq ["machine", "parts", "bindings"] ["machine", "parts", "bindings"] (aj fQ) := bQ
theorem pU (T : FT K mg "begin_progn" "begin_progn" fQ ["machine", "parts", "bindings"]) (V0 : DW P w G K mg base) (b1 : mg "len" = none) : aX P w K mg base 3 "begin_progn" ["machine", "parts", "bindings"] (t8 P w A G K ex) := by
 refine T.ok pA (fun vs H Q E h => by obtain ⟨_, _, _, _, _, _, rfl, _⟩ := h; rfl) fun f aU A' outer s H vs Q E hr h => ?_
 obtain ⟨X, pl, ps, l, e, ve, rfl, R, pr, q⟩ := h
 have M := R.r
 refine ⟨_, ae (aL (aA dC (a7 a9 (by rfl) b1 PySem.boot_len (aa (pv 1) ag)) aw (aH _)) (ae (aP (pv 0) bq rfl)) (ae (a8 (aR (ay (pv 0) rfl) (b6 V0.mS hr (by rfl) ai (aa (pv 1) (aa aw (aa (pv 2) ag)))))))), ?_⟩
 refine ⟨_, rfl, pl, ps, rfl, .inl (.inl (.inl pr.at_)), rfl, _, rfl, ?_⟩
 have hl := pr.pr.length
 match l, pr.ne with
 | [x], _ =>
  have c2 : decide (V.int (ps.length : Nat) = V.int 1) = true := by rw [<- hl]; rfl
  rw [c2]
  exact aZ ⟨_, rfl, X.m, G.cM, X.dx, _, rfl, M.cA, V0.cM.cl, V0.cM.na _ (by simp), Hd.t4, (M.value (x := .nil) rfl).post q rfl⟩
 | x :: y :: r, _ =>
  have c2 : decide (V.int (ps.length : Nat) = V.int 1) = false := by
   refine decide_eq_false fun z => ?_
   injection z with z
   simp only [List.length_cons] at hl
   omega
  rw [c2]
  refine aM ⟨_, rfl, X.m, G.cM, X.dx, _, _, rfl, M.cA, V0.cM.cl, V0.cM.na _ (by simp), rfl, .inl ⟨rfl, _, .inl (.inl M.cH)⟩, _, rfl, _, rfl, rfl, fun a dy H3 na ha s3 => ⟨X.al, _, _, rfl, rfl, s3 _ _ M.cH, R.au.1, ?_⟩⟩
  have im : bF X.mu H H3 := bF.of_same s3
  refine ((M.new na ha s3).push (s := .seq (y :: r) e) ⟨a, dy, pl, ps, 1, ve, rfl, .inl rfl, ha, .inr pr.im, s3 _ _ pr.at_, ?_, by simp, pr.env.mono (.add X.mu a) im (.refl X.ns) M.wr.names.nd (.refl _)⟩).post q rfl
  cases pr.pr with
  | cons r0 t0 => exact aE t0 fun _ _ z => z.mono (.add X.mu a) im (.refl X.ns)
def FY (P : Program) (w : World) (A : Ad) (G : oW) (K : W.Frag) (ex : Nat -> Addr) : Sp := fun vs H Q E => ∃ (X : MX) (pl : Addr) (ps : List V) (l : List Sg02.Obj) (e : Sg02.Env) (ve : V), vs = [.ref X.m, .ref pl, ve] /\ X.R P w A G K H /\ yQ P w A K X H pl ps l e ve /\ X.Po P w A G K X.sz ex Q E (bj 3 l.tail e X.k X.v X.W)
theorem tK : aq ["machine", "parts", "bindings"] ["machine", "parts", "bindings"] (aj i7) := bQ
theorem t4 {r : List Sg02.Obj} {e : Sg02.Env} {k : List du} {v : Sg02.Obj} {W : Sg02.World} (h : r.length ≠ 2) : bj 3 r e k v W = .stop (.fault 6) W := by
 match r, h with
 | [], _ => rfl
 | [a], _ => cases a <;> rfl
 | [a, b], h => exact absurd rfl h
 | a :: b :: c :: r, _ => cases a <;> rfl
theorem qN {x y : Sg02.Obj} {e : Sg02.Env} {k : List du} {v : Sg02.Obj} {W : Sg02.World} (h : kdOf x ≠ .name) : bj 3 [x, y] e k v W = .stop (.fault 6) W := by
 cases x <;> first | rfl | exact absurd rfl h
theorem three {F : Sg02.Obj -> V -> Prop} {os : List Sg02.Obj} {us : List V} (p : Paired F os us) (h : us.length = 3) : ∃ a b c u v x, os = [a, b, c] /\ us = [u, v, x] /\ F a u /\ F b v /\ F c x := by
 cases p with
 | nil => simp at h
 | cons r t =>
  obtain ⟨a, b, u, v, rfl, rfl, h1, h2⟩ := two t (by simpa using h)
  exact ⟨_, a, b, _, u, v, rfl, rfl, r, h1, h2⟩
theorem uq (T : FT K mg "begin_def" "begin_def" i7 ["machine", "parts", "bindings"]) (V0 : DW P w G K mg base) (i : sV A K) (x6 : jK K mg "MalformedForm" (ex 6)) (F1 : aX P w K mg base 1 "check_part_count" ["parts", "count"] (kO K (ex 6)))
  (F3 : aX P w K mg base 1 "is_name" ["thing"] (ir K (.type "tuple"))) : aX P w K mg base 3 "begin_def" ["machine", "parts", "bindings"] (FY P w A G K ex) := by
 refine T.ok tK (fun vs H Q E h => by obtain ⟨_, _, _, _, _, _, rfl, _⟩ := h; rfl) fun f aU A' outer s H vs Q E hr h => ?_
 obtain ⟨X, pl, ps, l, e, ve, rfl, R, pr, q⟩ := h
 have M := R.r
 have jw := hr.mono (show 1 <= 2 by decide)
 refine ⟨_, af (a8 (aW F1 jw (by rfl) ai (aa (pv 1) (aa aw ag)))) (af (aL (c9 (bc (aW F3 jw (by rfl) ai (aa (aB a5 (pv 1) aw (fun _ _ => rfl)) ag)))) (ae (bZ x6 bt rfl (by rfl))) aG)
  (af (a8 (aR (ay (pv 0) rfl) (b6 V0.mN hr (by rfl) ai (aa (aB a5 (pv 1) aw (fun _ _ => rfl)) ag)))) (ae (a8 (aR (ay (pv 0) rfl) (b6 V0.mL hr (by rfl) ai (aa (aB a5 (pv 1) aw (fun _ _ => rfl)) (aa (pv 2) ag)))))))), ?_⟩
 refine ⟨_, rfl, pl, ps, 3, rfl, .inl (.inl pr.at_), fun c3 => ?_, fun n3 => ?_⟩
 ·obtain ⟨x0, x1, x2, u0, u1, u2, rfl, rfl, r0, r1, r2⟩ := three pr.pr c3
  refine ⟨_, rfl, pl, _, _, _, rfl, rfl, .inl (.inl pr.at_), rfl, u1, _, _, rfl, r1.ty M.wr i, i.tup (kdOf x1), _, rfl, ?_⟩
  by_cases c : kdOf x1 = .name
  ·rw [decide_eq_true c]
   obtain ⟨n, rfl⟩ : ∃ n, x1 = .name n := by cases x1 <;> first | exact ⟨_, rfl⟩ | cases c
   refine aM ⟨_, rfl, X.m, G.cM, X.dx, _, _, rfl, M.cA, V0.cM.cl, V0.cM.na _ (by simp), rfl, .inl ⟨rfl, _, .inl (.inl M.cH)⟩, _, rfl, pl, _, _, _, rfl, rfl, .inl (.inl pr.at_), rfl, rfl, fun a dy H3 na ha s3 => ⟨X.al, _, _, rfl, rfl, s3 _ _ M.cH, R.au.1, ?_⟩⟩
   have im : bF X.mu H H3 := bF.of_same s3
   have M1 := (M.new na ha s3).push (s := .cV n) ⟨a, dy, u1, rfl, .inl rfl, ha, r1.mono (.add X.mu a) im (.refl X.ns)⟩
   have jB : bF X.mu H (upd H3 X.al (.lst (X.us.reverse ++ [.ref a]))) := fun b o ib e => by
    rw [ak fun z => M.na (by rw [<- z]; exact ib)]
    exact im b o ib e
   refine ⟨_, rfl, X.m, G.cM, X.dx, _, _, rfl, M1.cA, V0.cM.cl, V0.cM.na _ (by simp), rfl, .inl ⟨rfl, _, .inl (.inl M1.cH)⟩, _, rfl, pl, _, _, _, rfl, rfl, .inl (.inl (jB _ _ pr.im pr.at_)), rfl, _, rfl, rfl, fun a2 KD H4 AM yp s4 => ⟨X.al, _, _, rfl, rfl, s4 _ _ M1.cH, kP R.au.2, ?_⟩⟩
   exact (M1.lp (r2.mono (.add X.mu a) jB (.refl X.ns)) (pr.env.mono (.add X.mu a) jB (.refl X.ns) M.wr.names.nd (.refl _)) AM yp s4).post q rfl
  ·rw [decide_eq_false c]
   have e6 : bj 3 ([x0, x1, x2] : List Sg02.Obj).tail e X.k X.v X.W = .stop (.fault 6) X.W := qN c
   rw [e6] at q
   exact aZ (q H X.mu M.ar)
 ·have e6 : bj 3 l.tail e X.k X.v X.W = .stop (.fault 6) X.W := t4 (by
   have := pr.pr.length
   have := pr.ne
   cases l with
   | nil => exact absurd rfl pr.ne
   | cons a r => simp only [List.length_cons, List.tail_cons] at *; omega)
  rw [e6] at q
  exact q H X.mu M.ar
end
end Lsp
namespace Lsp
open PySem Spec PyProof.Rows L2
def kn (i : Nat) : Sg02.Bytes := Sg02.known.getD i []
section
variable {P : Program} {w : World} {A : Ad} {G : oW} {K : W.Frag} {mg : Str -> Option Value} {base : Heap} {ex : Nat -> Addr}
theorem Kg : ∀ i, i < 16 -> Sg02.known[i]? = some (kn i) := by decide
theorem FK {i : Nat} (hi : i < 16) {x : Str} {a : Addr} (n : oV K mg x a (bz (kn i))) {ns : List Sg02.Bytes} (nk : fJ ns) (H : Hp) (μ : Mp) : VR K H ns μ (.name i) (.ref a) :=
 ⟨a, kn i, rfl, by rw [nk.known i hi]; exact Kg i hi, .inl n.tup⟩
theorem t6 {r : List Sg02.Obj} {e : Sg02.Env} {k : List du} {v : Sg02.Obj} {W : Sg02.World} (h : r.length ≠ 1) : bj 0 r e k v W = .stop (.fault 6) W := by
 match r, h with
 | [], _ => rfl
 | [a], h => exact absurd rfl h
 | a :: b :: r, _ => rfl
theorem t5 {r : List Sg02.Obj} {e : Sg02.Env} {k : List du} {v : Sg02.Obj} {W : Sg02.World} (h : r.length ≠ 3) : bj 1 r e k v W = .stop (.fault 6) W := by
 match r, h with
 | [], _ => rfl
 | [a], _ => rfl
 | [a, b], _ => rfl
 | [a, b, c], h => exact absurd rfl h
 | a :: b :: c :: d :: r, _ => rfl
theorem qL {r : List Sg02.Obj} {e : Sg02.Env} {k : List du} {v : Sg02.Obj} {W : Sg02.World} {nl : List Nat} {body : Sg02.Obj} (h : Bl W.heap r = some (nl, body)) : bj 4 r e k v W = .more ⟨k, .fn W.heap.next, { W with heap := addFn W.heap nl body e }⟩ := by
 match r, h with
 | [], h => cases h
 | [a], h => cases h
 | [a, b], h =>
  have h : ((aF W.heap a).bind Sg02.asNames).map (fun l => (l, b)) = some (nl, body) := h
  obtain ⟨l, e1, e2⟩ := Option.map_eq_some_iff.mp h
  cases e2
  unfold bj
  unfold aF at e1
  simp only [e1]
  rfl
 | a :: b :: c :: r, h => cases h
theorem qM {r : List Sg02.Obj} {e : Sg02.Env} {k : List du} {v : Sg02.Obj} {W : Sg02.World} (h : Bl W.heap r = none) : bj 4 r e k v W = .stop (.fault 6) W := by
 match r, h with
 | [], h => rfl
 | [a], h => rfl
 | [a, b], h =>
  have h : ((aF W.heap a).bind Sg02.asNames).map (fun l => (l, b)) = none := h
  rw [Option.map_eq_none_iff] at h
  unfold bj
  unfold aF at h
  simp only [h]
 | a :: b :: c :: r, h => rfl
theorem cZ {n : Nat} (hn : n < 5) (r : List Sg02.Obj) (e : Sg02.Env) (k : List du) (v : Sg02.Obj) (W : Sg02.World) : iV e k v W (.name n :: r) = bj n r e k v W := by
 unfold iV
 have : nO (.name n) = some n := if_pos hn
 simp only [this]
theorem wu {x : Sg02.Obj} (hx : ∀ n, n < 5 -> x ≠ .name n) (r : List Sg02.Obj) (e : Sg02.Env) (k : List du) (v : Sg02.Obj) (W : Sg02.World) : iV e k v W (x :: r) = .more ⟨.look x e :: .bT r [] e :: k, v, W⟩ := by
 unfold iV
 have : nO x = none := by
  cases x with
  | name n =>
   unfold nO
   by_cases h : n < 5
   ·exact absurd rfl (hx n h)
   ·dsimp only; rw [if_neg h]
  | nil => rfl
  | int z => rfl
  | pair z => rfl
  | fn z => rfl
  | prim z => rfl
 simp only [this]
theorem four {F : Sg02.Obj -> V -> Prop} {os : List Sg02.Obj} {us : List V} (p : Paired F os us) (h : us.length = 4) : ∃ a b c d u v x y, os = [a, b, c, d] /\ us = [u, v, x, y] /\ F a u /\ F b v /\ F c x /\ F d y := by
 cases p with
 | nil => simp at h
 | cons r t =>
  obtain ⟨a, b, c, u, v, x, rfl, rfl, h1, h2, h3⟩ := three t (by simpa using h)
  exact ⟨_, a, b, c, _, u, v, x, rfl, rfl, r, h1, h2, h3⟩
structure Ph (K : W.Frag) (mg : Str -> Option Value) (a : Nat -> Addr) : Prop where
 n0 : oV K mg "NAME_QUOTE" (a 0) (bz (kn 0))
 n1 : oV K mg "NAME_IF" (a 1) (bz (kn 1))
 n2 : oV K mg "NAME_PROGN" (a 2) (bz (kn 2))
 n3 : oV K mg "NAME_DEF" (a 3) (bz (kn 3))
 n4 : oV K mg "NAME_LAMBDA" (a 4) (bz (kn 4))
theorem VR.Ri {H : Hp} {ns : List Sg02.Bytes} {μ : Mp} {h : Sg02.Heap} {B n : Nat} {x : Sg02.Obj} {v : V} {a : Addr} {s : Str} (r : VR K H ns μ x v) (W : WR P w A K H ns μ h B) (i : sV A K) (hn : n < 16) (t : oV K mg s a (bz (kn n))) :
  ∃ j k, jh K H v j /\ jh K H (.ref a) k /\ decide (j = k) = decide (x = .name n) := r.same (FK hn t W.names H μ) W i
def Co (P : Program) (w : World) (A : Ad) (G : oW) (K : W.Frag) (ex : Nat -> Addr) : Sp := fun vs H Q E => ∃ (X : MX) (fa : Addr) (i : Nat) (e : Sg02.Env) (ve : V), vs = [.ref X.m, .ref fa, ve] /\ X.R P w A G K H /\ X.mu.pa i = some fa /\ jF P w A K H X.ns X.mu X.W.heap e ve /\
 X.Po P w A G K X.sz ex Q E (take1 X.k X.v X.W (.look (.pair i) e))
theorem fL : aq ["machine", "form", "bindings", "parts", "first"] ["machine", "form", "bindings"] (aj gG) := bQ
theorem vF {α β : Type} {F : α -> β -> Prop} {l : List α} {us : List β} (p : Paired F l us) (i : Nat) {a : α} (e : l[i]? = some a) : ∃ b, us[i]? = some b /\ F a b := pP p e
theorem qZ {aN : Nat -> Addr} (T : FT K mg "begin_form" "begin_form" gG ["machine", "form", "bindings"]) (V0 : DW P w G K mg base) (i : sV A K) (S5 : Ph K mg aN) (x7 : jK K mg "OverBudget" (ex 7)) (F1 : aX P w K mg base 1 "check_part_count" ["parts", "count"] (kO K (ex 6)))
  (F2 : aX P w K mg base 1 "parts_of" ["thing"] (oI P w A K (ex 6))) (F4 : aX P w K mg base 3 "begin_progn" ["machine", "parts", "bindings"] (t8 P w A G K ex)) (F5 : aX P w K mg base 3 "begin_def" ["machine", "parts", "bindings"] (FY P w A G K ex))
  (F6 : aX P w K mg base 3 "function_of" ["parts", "bindings"] (Cn P w A K (ex 6))) : aX P w K mg base 4 "begin_form" ["machine", "form", "bindings"] (Co P w A G K ex) := by
 refine T.ok fL (fun vs H Q E h => by obtain ⟨_, _, _, _, _, rfl, _⟩ := h; rfl) fun f aU A' outer s H vs Q E hr h => ?_
 obtain ⟨X, fa, j, e, ve, rfl, R, ej, re, q⟩ := h
 have M := R.r
 have jw := hr.mono (show 1 <= 3 by decide)
 have rl := hr.mono (show 2 <= 3 by decide)
 refine ⟨_, af (aL (aA dC (ay (pv 0) rfl) aw (aH _)) (ae (bZ x7 bt rfl (by rfl))) aG) (af (A9 (pv 0) aw HE)
  (af (aJ (i := 3) fL.nd rfl (Or.inl rfl) (aW F2 jw (by rfl) ai (aa (pv 1) ag)))
  (af (aJ (i := 4) fL.nd rfl (Or.inl rfl) (aB a5 (pv 3) aw (fun _ _ => rfl)))
  (ae (aL (aA (iJ hr.units) (pv 4) (ax (v := .ref (aN 0)) (by rfl) S5.n0.yc rfl) (aH _))
    (af (a8 (aW F1 jw (by rfl) ai (aa (pv 3) (aa aw ag)))) (ae (aP (pv 0) (aB a5 (pv 3) aw (fun _ _ => rfl)) rfl)))
   (ae (aL (aA (iJ hr.units) (pv 4) (ax (v := .ref (aN 1)) (by rfl) S5.n1.yc rfl) (aH _))
    (af (a8 (aW F1 jw (by rfl) ai (aa (pv 3) (aa aw ag)))) (af (a8 (aR (ay (pv 0) rfl) (b6 V0.mC rl (by rfl) ai (aa (pv 3) (aa (pv 2) ag)))))
     (ae (a8 (aR (ay (pv 0) rfl) (b6 V0.mL rl (by rfl) ai (aa (aB a5 (pv 3) aw (fun _ _ => rfl)) (aa (pv 2) ag))))))))
   (ae (aL (aA (iJ hr.units) (pv 4) (ax (v := .ref (aN 2)) (by rfl) S5.n2.yc rfl) (aH _))
    (ae (a8 (aW F4 hr (by rfl) ai (aa (pv 0) (aa (pv 3) (aa (pv 2) ag))))))
   (ae (aL (aA (iJ hr.units) (pv 4) (ax (v := .ref (aN 3)) (by rfl) S5.n3.yc rfl) (aH _))
    (ae (a8 (aW F5 hr (by rfl) ai (aa (pv 0) (aa (pv 3) (aa (pv 2) ag))))))
   (ae (aL (aA (iJ hr.units) (pv 4) (ax (v := .ref (aN 4)) (by rfl) S5.n4.yc rfl) (aH _))
    (ae (aP (pv 0) (aW F6 hr (by rfl) ai (aa (pv 3) (aa (pv 2) ag))) rfl))
    (af (a8 (aR (ay (pv 0) rfl) (uf V0.mG rl (by rfl) ai (aa (pv 3) (aa (pv 2) ag)))))
     (ae (a8 (aR (ay (pv 0) rfl) (b6 V0.mL rl (by rfl) ai (aa (pv 4) (aa (pv 2) ag)))))))))))))))))))), ?_⟩
 refine ⟨_, rfl, X.m, G.cM, X.dx, _, _, rfl, M.cA, V0.cM.cl, V0.cM.na _ (by simp), rfl, rfl, _, rfl, ?_⟩
 by_cases h0 : X.W.left = 0
 ·have c2 : decide (V.int (X.W.left : Nat) = V.int 0) = true := by rw [h0]; rfl
  rw [c2]
  have et : take1 X.k X.v X.W (.look (.pair j) e) = .stop .spent X.W := by unfold take1; simp only [h0, if_true]
  rw [et] at q
  exact aZ (q H X.mu M.ar)
 ·have c2 : decide (V.int (X.W.left : Nat) = V.int 0) = false := by
   refine decide_eq_false fun z => h0 ?_
   injection z with z
   omega
  rw [c2]
  have M1 := M.less h0
  refine aM ⟨_, rfl, X.m, G.cM, X.dx, _, _, rfl, M.cA, V0.cM.cl, V0.cM.na _ (by simp), rfl, _, _, rfl, rfl, X.dx, _, M.cA, Hd.t4, ?_⟩
  have jB : bF X.mu H (upd H X.m (.ins G.cM X.dx (br "forms_left" (.int ((X.W.left : Int) - 1)) (iO (.ref X.d) (.int (X.W.left : Nat)) (.ref X.al) X.vv)))) := fh M.nm
  have rf : VR K (upd H X.m (.ins G.cM X.dx (br "forms_left" (.int ((X.W.left : Int) - 1)) (iO (.ref X.d) (.int (X.W.left : Nat)) (.ref X.al) X.vv)))) X.ns X.mu (.pair j) (.ref fa) := ⟨fa, rfl, ej⟩
  have IP := re.mono (.refl X.mu) jB (.refl X.ns) M.wr.names.nd (.refl _)
  have hb := M.cn
  have hz := R.hz
  refine ⟨_, rfl, .ref fa, .pair j, X.ns, X.mu, X.W.heap, X.B, rfl, M1.wr, rf, by omega, ?_⟩
  have et : take1 X.k X.v X.W (.look (.pair j) e) = (match aF X.W.heap (.pair j) with
   | none => .stop (.fault 6) { X.W with left := X.W.left - 1 }
   | some l => iV e X.k X.v { X.W with left := X.W.left - 1 } l) := by unfold take1; simp only [h0, if_false]; rfl
  rw [et] at q
  clear et
  cases zi : aF X.W.heap (.pair j) with
  | none =>
   rw [zi] at q
   intro H' s'
   exact q H' X.mu (M1.same s').ar
  | some l =>
   rw [zi] at q
   dsimp only at q
   obtain ⟨r, rfl, _⟩ := qf (show Sg02.items X.W.heap (X.W.heap.next + 1) (.pair j) = some l from zi)
   generalize (X.W.heap.pair j).1 = x0 at q
   generalize RV : upd H X.m (.ins G.cM X.dx (br "forms_left" (.int ((X.W.left : Int) - 1)) (iO (.ref X.d) (.int (X.W.left : Nat)) (.ref X.al) X.vv))) = H1 at M1 jB rf IP ⊢
   intro p ps H2 np s2 op pr QC
   have M2 := M1.new np op s2
   have sH : bF X.mu H1 H2 := bF.of_same s2
   have E9 : Paired (fun o u => VR K H2 X.ns (X.mu.add p) o u) (x0 :: r) ps := aE pr fun _ _ z => z.mono (.add X.mu p) sH (.refl X.ns)
   have IM := IP.mono (.add X.mu p) sH (.refl X.ns) M.wr.names.nd (.refl _)
   clear pr IP re rf jB sH M1
   have hlen := E9.length
   obtain ⟨u0, Ef, r0⟩ := vF E9 0 rfl
   refine ⟨_, rfl, p, ps, 0, u0, rfl, rfl, .inl (.inl op), eW (j := 0) Ef, ?_⟩
   let X2 : MX := ⟨X.ns, X.H0, X.ES, X.m, X.d, X.al, X.sz, X.dx, X.vv, X.us, X.gl, X.kvs, X.B, X.mu.add p, X.k, X.v, { X.W with left := X.W.left - 1 }⟩
   have R2 : X2.R P w A G K H2 := ⟨M2, R.hk, R.hz⟩
   have pt : yQ P w A K X2 H2 p ps (x0 :: r) e ve := ⟨.inl rfl, op, E9, by simp, by rw [<- hlen]; exact QC, IM⟩
   have cmp : ∀ (n : Nat) (a : Addr) (st : Str), n < 16 -> oV K mg st a (bz (kn n)) -> ∃ jj kk, jh K H2 u0 jj /\ jh K H2 (.ref a) kk /\ decide (jj = kk) = decide (x0 = .name n) := fun n a st hn t => r0.Ri M2.wr i hn t
   obtain ⟨j0, k0, a0, b0, e0⟩ := cmp 0 _ _ (by decide) S5.n0
   refine ⟨_, rfl, j0, k0, a0, b0, _, rfl, ?_⟩
   rw [e0]
   by_cases c0 : x0 = .name 0
   ·rw [decide_eq_true c0]
    subst c0
    rw [cZ (by decide)] at q
    refine aZ ⟨_, rfl, p, ps, 2, rfl, .inl (.inl op), fun cl => ?_, fun cl => ?_⟩
    ·obtain ⟨y0, y1, v0, v1, ey, rfl, g0, g1⟩ := two E9 cl
     cases ey
     exact ⟨_, rfl, p, _, _, _, rfl, rfl, .inl (.inl op), rfl, _, rfl, X.m, G.cM, X.dx, _, rfl, M2.cA, V0.cM.cl, V0.cM.na _ (by simp), Hd.t4, (M2.value g1).post q rfl⟩
    ·have e6 : bj 0 r e X.k X.v { X.W with left := X.W.left - 1 } = .stop (.fault 6) { X.W with left := X.W.left - 1 } := t6 (by simp only [List.length_cons] at hlen; omega)
     rw [e6] at q
     exact q H2 _ M2.ar
   ·rw [decide_eq_false c0]
    obtain ⟨j1, k1, a1, b1, e1⟩ := cmp 1 _ _ (by decide) S5.n1
    refine aM ⟨_, rfl, j1, k1, a1, b1, _, rfl, ?_⟩
    rw [e1]
    by_cases c1 : x0 = .name 1
    ·rw [decide_eq_true c1]
     subst c1
     rw [cZ (by decide)] at q
     refine aZ ⟨_, rfl, p, ps, 4, rfl, .inl (.inl op), fun cl => ?_, fun cl => ?_⟩
     ·obtain ⟨y0, y1, y2, y3, v0, v1, v2, v3, ey, rfl, g0, g1, g2, g3⟩ := four E9 cl
      cases ey
      refine ⟨_, rfl, X.m, G.cM, X.dx, _, _, rfl, M2.cA, V0.cM.cl, V0.cM.na _ (by simp), rfl, .inl ⟨rfl, _, .inl (.inl M2.cH)⟩, _, rfl, _, rfl, rfl, fun a dy H3 na ha s3 => ⟨X.al, _, _, rfl, rfl, s3 _ _ M2.cH, R.au.1, ?_⟩⟩
      have im : bF (X.mu.add p) H2 H3 := bF.of_same s3
      have ml := dB.add (X.mu.add p) a
      have M3 := (M2.new na ha s3).push (s := .choice y2 y3 e) ⟨a, dy, p, v0, v1, v2, v3, ve, rfl, .inl rfl, ha, .inr (.inl rfl), s3 _ _ op, g2.mono ml im (.refl X.ns), g3.mono ml im (.refl X.ns), IM.mono ml im (.refl X.ns) M.wr.names.nd (.refl _)⟩
      have jB : bF (X.mu.add p) H2 (upd H3 X.al (.lst (X.us.reverse ++ [.ref a]))) := fun b o ib eb => by
       rw [ak fun z => M2.na (by rw [<- z]; exact ib)]
       exact im b o ib eb
      refine ⟨_, rfl, X.m, G.cM, X.dx, _, _, rfl, M3.cA, V0.cM.cl, V0.cM.na _ (by simp), rfl, .inl ⟨rfl, _, .inl (.inl M3.cH)⟩, _, rfl, p, _, _, _, rfl, rfl, .inl (.inl (jB _ _ (.inl rfl) op)), rfl, _, rfl, rfl, fun a2 KD H4 AM yp s4 => ⟨X.al, _, _, rfl, rfl, s4 _ _ M3.cH, kP R.au.2, ?_⟩⟩
      exact (M3.lp (g1.mono ml jB (.refl X.ns)) (IM.mono ml jB (.refl X.ns) M.wr.names.nd (.refl _)) AM yp s4).post q rfl
     ·have e6 : bj 1 r e X.k X.v { X.W with left := X.W.left - 1 } = .stop (.fault 6) { X.W with left := X.W.left - 1 } := t5 (by simp only [List.length_cons] at hlen; omega)
      rw [e6] at q
      exact q H2 _ M2.ar
    ·rw [decide_eq_false c1]
     obtain ⟨j2, k2, a2, b2, e2⟩ := cmp 2 _ _ (by decide) S5.n2
     refine aM ⟨_, rfl, j2, k2, a2, b2, _, rfl, ?_⟩
     rw [e2]
     by_cases c2 : x0 = .name 2
     ·rw [decide_eq_true c2]
      subst c2
      rw [cZ (by decide)] at q
      exact aZ ⟨_, rfl, _, rfl, _, rfl, X2, p, ps, _, e, ve, rfl, R2, pt, q⟩
     ·rw [decide_eq_false c2]
      obtain ⟨j3, k3, a3, b3, e3⟩ := cmp 3 _ _ (by decide) S5.n3
      refine aM ⟨_, rfl, j3, k3, a3, b3, _, rfl, ?_⟩
      rw [e3]
      by_cases c3 : x0 = .name 3
      ·rw [decide_eq_true c3]
       subst c3
       rw [cZ (by decide)] at q
       exact aZ ⟨_, rfl, _, rfl, _, rfl, X2, p, ps, _, e, ve, rfl, R2, pt, q⟩
      ·rw [decide_eq_false c3]
       obtain ⟨j4, k4, a4, b4, e4⟩ := cmp 4 _ _ (by decide) S5.n4
       refine aM ⟨_, rfl, j4, k4, a4, b4, _, rfl, ?_⟩
       rw [e4]
       by_cases c4 : x0 = .name 4
       ·rw [decide_eq_true c4]
        subst c4
        rw [cZ (by decide)] at q
        refine aZ ⟨_, rfl, _, rfl, p, ve, ps, _, e, X.ns, X.mu.add p, X.W.heap, X.B, rfl, M2.wr, .inl (.inl op), by simp, E9, by omega, IM, ?_⟩
        show match Bl X.W.heap r with
         | some (nl, body) => _
         | none => _
        cases zf : Bl X.W.heap r with
        | none =>
         have e6 : bj 4 r e X.k X.v { X.W with left := X.W.left - 1 } = .stop (.fault 6) { X.W with left := X.W.left - 1 } := qM zf
         rw [e6] at q
         intro H3 s3
         exact q H3 _ (M2.same s3).ar
        | some nb =>
         obtain ⟨nl, body⟩ := nb
         have e6 : bj 4 r e X.k X.v { X.W with left := X.W.left - 1 } = .more ⟨X.k, .fn X.W.heap.next, { X.W with heap := addFn X.W.heap nl body e, left := X.W.left - 1 }⟩ := qL zf
         rw [e6] at q
         intro x H3 μ3 s3 m3 i3 W3 r3
         have M3 := M2.grow s3 m3 i3 (lP.addFn X.W.heap nl body e) (zA0 _) M.cn W3
         exact ⟨_, rfl, X.m, G.cM, X.dx, _, rfl, M3.cA, V0.cM.cl, V0.cM.na _ (by simp), Hd.t4, (M3.value r3).post q rfl⟩
       ·rw [decide_eq_false c4]
        rw [wu fun n hn z => by
         match n, hn with
         | 0, _ => exact c0 z
         | 1, _ => exact c1 z
         | 2, _ => exact c2 z
         | 3, _ => exact c3 z
         | 4, _ => exact c4 z] at q
        refine aM ⟨_, rfl, X.m, G.cM, X.dx, _, _, rfl, M2.cA, V0.cM.cl, V0.cM.na _ (by simp), rfl, .inl ⟨rfl, _, .inl (.inl M2.cH)⟩, _, rfl, _, rfl, rfl, fun a dy fl H3 na nf ne ha hf s3 => ⟨X.al, _, _, rfl, rfl, s3 _ _ M2.cH, R.au.1, ?_⟩⟩
        have im : bF (X.mu.add p) H2 H3 := bF.of_same s3
        have ml := dB.add (X.mu.add p) a
        obtain ⟨f1, f2, f3, f4, f5⟩ := M2.fresh nf
        have M3 := (M2.new na ha s3).FZ (rest := r) (found := []) (e := e) (fl := fl) (u := .ref a) ⟨a, dy, p, ps, [], ve, rfl, .inl rfl, ha, .inr (.inl rfl), s3 _ _ op, hf, (fun z => by
          rcases z with z | z
          ·exact ne z.symm
          ·obtain ⟨o, eo⟩ := M2.wr.y9 fl z
           rw [nf] at eo; cases eo), .nil, (by
          cases E9 with
          | cons g0 t0 => exact aE t0 fun _ _ z => z.mono ml im (.refl X.ns)), (by simp only [List.length_cons] at hlen; simp only [List.length_nil]; omega), pt.len, IM.mono ml im (.refl X.ns) M.wr.names.nd (.refl _)⟩ f5 f3 f1
        have jB : bF (X.mu.add p) H2 (upd H3 X.al (.lst (X.us.reverse ++ [.ref a]))) := fun b o ib eb => by
         rw [ak fun z => M2.na (by rw [<- z]; exact ib)]
         exact im b o ib eb
        refine ⟨_, rfl, X.m, G.cM, X.dx, _, _, rfl, M3.cA, V0.cM.cl, V0.cM.na _ (by simp), rfl, .inl ⟨rfl, _, .inl (.inl M3.cH)⟩, _, rfl, _, rfl, rfl, fun a2 KD H4 AM yp s4 => ⟨X.al, _, _, rfl, rfl, s4 _ _ M3.cH, kP R.au.2, ?_⟩⟩
        exact (M3.lp (r0.mono ml jB (.refl X.ns)) (IM.mono ml jB (.refl X.ns) M.wr.names.nd (.refl _)) AM yp s4).post q rfl
end
end Lsp
namespace Lsp
open PySem Spec PyProof.Rows L2
section
variable {P : Program} {w : World} {A : Ad} {G : oW} {K : W.Frag} {mg : Str -> Option Value} {base : Heap} {ex : Nat -> Addr}
def Ci (P : Program) (w : World) (A : Ad) (G : oW) (K : W.Frag) (ex : Nat -> Addr) : Sp := fun vs H Q E => ∃ (X : MX) (x : Sg02.Obj) (vx : V) (e : Sg02.Env) (ve : V), vs = [.ref X.m, vx, ve] /\ X.R P w A G K H /\ VR K H X.ns X.mu x vx /\ jF P w A K H X.ns X.mu X.W.heap e ve /\
 X.Po P w A G K X.sz ex Q E (take1 X.k X.v X.W (.look x e))
theorem Ez : aq ["machine", "thing", "bindings"] ["machine", "thing", "bindings"] (aj xy) := bQ
theorem EJ (T : FT K mg "look" "look" xy ["machine", "thing", "bindings"]) (V0 : DW P w G K mg base) (i : sV A K) (b1 : mg "isinstance" = none) (cP : mg "Pair" = some (.ref A.cP)) (F1 : aX P w K mg base 4 "begin_form" ["machine", "form", "bindings"] (Co P w A G K ex))
  (F2 : aX P w K mg base 1 "value_of_name" ["name", "bindings", "definitions"] (xo P w A K (ex 1))) (F3 : aX P w K mg base 1 "is_name" ["thing"] (ir K (.type "tuple"))) : aX P w K mg base 5 "look" ["machine", "thing", "bindings"] (Ci P w A G K ex) := by
 refine T.ok Ez (fun vs H Q E h => by obtain ⟨_, _, _, _, _, rfl, _⟩ := h; rfl) fun f aU A' outer s H vs Q E hr h => ?_
 obtain ⟨X, x, vx, e, ve, rfl, R, rx, re, q⟩ := h
 have M := R.r
 have jw := hr.mono (show 1 <= 4 by decide)
 refine ⟨_, ae (aL (bc (a7 aY (by rfl) b1 bIsX (aa (pv 1) (aa (ax (v := .ref A.cP) (by rfl) cP rfl) ag))))
   (ae (a8 (aW F1 hr (by rfl) ai (aa (pv 0) (aa (pv 1) (aa (pv 2) ag))))))
  (ae (aL (bc (aW F3 jw (by rfl) ai (aa (pv 1) ag)))
   (ae (aP (pv 0) (aW F2 jw (by rfl) ai (aa (pv 1) (aa (pv 2) (aa (ay (pv 0) rfl) ag)))) rfl))
   (ae (aP (pv 0) (pv 1) rfl))))), ?_⟩
 refine ⟨_, rfl, vx, _, _, _, rfl, rx.ty M.wr i, (fun v hv => by cases hv; exact i.pair (kdOf x)), _, rfl, ?_⟩
 by_cases c : kdOf x = .pair
 ·rw [decide_eq_true c]
  obtain ⟨j, rfl⟩ : ∃ j, x = .pair j := by cases x <;> first | exact ⟨_, rfl⟩ | cases c
  obtain ⟨fa, rfl, ej⟩ := rx
  exact aZ ⟨_, rfl, _, rfl, _, rfl, X, fa, j, e, ve, rfl, R, ej, re, q⟩
 ·rw [decide_eq_false c]
  refine aM ⟨_, rfl, vx, _, _, rfl, rx.ty M.wr i, i.tup (kdOf x), _, rfl, ?_⟩
  by_cases c2 : kdOf x = .name
  ·rw [decide_eq_true c2]
   obtain ⟨n, rfl⟩ : ∃ n, x = .name n := by cases x <;> first | exact ⟨_, rfl⟩ | cases c2
   obtain ⟨kk, GJ⟩ := re
   have el : Sg02.lookup X.W.heap X.W.global (X.W.heap.next + 1) e n = lk X.W.heap X.W.global e n := sx M.wr.fi _ _ _ _ (Nat.le_succ_of_le GJ.rank)
   have et : take1 X.k X.v X.W (.look (.name n) e) = (match lk X.W.heap X.W.global e n with
    | some u => .more ⟨X.k, u, X.W⟩
    | none => .stop (.fault 1) X.W) := by
    unfold take1
    dsimp only
    rw [el]
    all_goals (cases lk X.W.heap X.W.global e n <;> rfl)
   rw [et] at q
   refine aZ ⟨_, rfl, _, rfl, _, rfl, X.m, G.cM, X.dx, _, _, rfl, M.cA, V0.cM.cl, V0.cM.na _ (by simp), rfl, vx, ve, X.d, n, e, X.ns, X.mu, X.W.heap, X.B, X.W.global, X.kvs, rfl, M.wr, M.dr, rx, ⟨kk, GJ⟩, ?_⟩
   cases zl : lk X.W.heap X.W.global e n with
   | none =>
    rw [zl] at q
    exact q H X.mu M.ar
   | some u =>
    rw [zl] at q
    intro v rv
    exact ⟨_, rfl, X.m, G.cM, X.dx, _, rfl, M.cA, V0.cM.cl, V0.cM.na _ (by simp), Hd.t4, (M.value rv).post q rfl⟩
  ·rw [decide_eq_false c2]
   have et : take1 X.k X.v X.W (.look x e) = .more ⟨X.k, x, X.W⟩ := by cases x <;> first | rfl | exact absurd rfl c | exact absurd rfl c2
   rw [et] at q
   exact aM ⟨_, rfl, _, rfl, X.m, G.cM, X.dx, _, rfl, M.cA, V0.cM.cl, V0.cM.na _ (by simp), Hd.t4, (M.value rx).post q rfl⟩
def jN (P : Program) (w : World) (A : Ad) (G : oW) (K : W.Frag) (ex : Nat -> Addr) (s0 : Sk) : Sp := fun vs H Q E => ∃ (X : MX) (s : du) (u : V), vs = [.ref X.m, u] /\ GC s = s0 /\ X.R P w A G K H /\ k6 P w A G K X.ns H X.mu X.W.heap s u /\
 X.Po P w A G K X.sz ex Q E (take1 X.k X.v X.W s)
theorem pk {s0 : Sk} : ∀ (vs : List V) (H : Hp) (Q : VK) (E : XK), jN P w A G K ex s0 vs H Q E -> vs.length = 2 := fun vs H Q E h => by obtain ⟨_, _, _, rfl, _⟩ := h; rfl
theorem sg : aq ["machine", "step", "chosen"] ["machine", "step"] (aj pG) := bQ
theorem VR.zF {H : Hp} {ns : List Sg02.Bytes} {μ : Mp} {x : Sg02.Obj} {v : V} (r : VR K H ns μ x v) : v = .bf ↔ x = .nil := by
 cases x with
 | nil => exact ⟨fun _ => rfl, fun _ => r⟩
 | int z => exact ⟨fun e => (by rw [r.1] at e; cases e), fun e => by cases e⟩
 | name n => obtain ⟨_, _, e, _⟩ := r; exact ⟨fun h => (by rw [e] at h; cases h), fun h => by cases h⟩
 | pair n => obtain ⟨_, e, _⟩ := r; exact ⟨fun h => (by rw [e] at h; cases h), fun h => by cases h⟩
 | fn n => obtain ⟨_, e, _⟩ := r; exact ⟨fun h => (by rw [e] at h; cases h), fun h => by cases h⟩
 | prim n => obtain ⟨_, e, _⟩ := r; exact ⟨fun h => (by rw [e] at h; cases h), fun h => by cases h⟩
theorem AI (T : FT K mg "choose" "choose" pG ["machine", "step"]) (V0 : DW P w G K mg base) : aX P w K mg base 3 "choose" ["machine", "step"] (jN P w A G K ex .C) := by
 refine T.ok sg pk fun f aU A' outer s H vs Q E hr h => ?_
 obtain ⟨X, st, u, rfl, es, R, pr, q⟩ := h
 have M := R.r
 obtain ⟨b, c, e, rfl⟩ : ∃ b c e, st = .choice b c e := by cases st <;> first | exact ⟨_, _, _, rfl⟩ | cases es
 obtain ⟨a, dx, pl, p0, p1, vb, vc, ve, rfl, ia, oa, ip, op, rb, rc, re⟩ := pr
 refine ⟨_, af (aJ (i := 2) sg.nd rfl (Or.inl rfl) (gn (aA gJ (ay (pv 0) rfl) bq (aH _)) (aB a5 (ay (pv 1) rfl) aw (fun _ _ => rfl)) (aB a5 (ay (pv 1) rfl) aw (fun _ _ => rfl))))
  (ae (a8 (aR (ay (pv 0) rfl) (b6 V0.mL hr (by rfl) ai (aa (pv 2) (aa (ay (pv 1) rfl) ag)))))), ?_⟩
 refine ⟨_, rfl, X.m, G.cM, X.dx, _, _, rfl, M.cA, V0.cM.cl, V0.cM.na _ (by simp), rfl, rfl, _, rfl, ?_⟩
 have fin : ∀ (x : Sg02.Obj) (vx : V), VR K H X.ns X.mu x vx -> (take1 X.k X.v X.W (.choice b c e) = .more ⟨.look x e :: X.k, X.v, X.W⟩) -> ∀ a2 dy H3, H a2 = Option.none -> H3 a2 = some (.ins G.cL dy (zH vx ve)) -> aK H H3 -> Q .bf (upd H3 X.al (.lst (X.us.reverse ++ [.ref a2]))) := fun x vx rx et a2 dy H3 na ha s3 => by
  rw [et] at q
  exact (M.lp rx re na ha s3).post q rfl
 by_cases c0 : X.v = .nil
 ·rw [decide_eq_true (M.val.zF.mpr c0)]
  have et : take1 X.k X.v X.W (.choice b c e) = .more ⟨.look c e :: X.k, X.v, X.W⟩ := by
   show RR.more _ = _
   rw [if_pos c0]
  refine aZ ⟨_, rfl, a, G.cC, dx, _, _, rfl, oa, V0.cC.cl, V0.cC.na _ (by simp), rfl, pl, _, _, _, rfl, rfl, .inl (.inl op), rfl, ?_⟩
  exact ⟨_, rfl, X.m, G.cM, X.dx, _, _, rfl, M.cA, V0.cM.cl, V0.cM.na _ (by simp), rfl, .inl ⟨rfl, _, .inl (.inl M.cH)⟩, _, rfl, _, rfl, a, G.cC, dx, _, _, rfl, oa, V0.cC.cl, V0.cC.na _ (by simp), rfl, rfl, fun a2 dy H3 na ha s3 => ⟨X.al, _, _, rfl, rfl, s3 _ _ M.cH, R.au.1, fin c vc rc et a2 dy H3 na ha s3⟩⟩
 ·rw [decide_eq_false fun z => c0 (M.val.zF.mp z)]
  have et : take1 X.k X.v X.W (.choice b c e) = .more ⟨.look b e :: X.k, X.v, X.W⟩ := by
   show RR.more _ = _
   rw [if_neg c0]
  refine aM ⟨_, rfl, a, G.cC, dx, _, _, rfl, oa, V0.cC.cl, V0.cC.na _ (by simp), rfl, pl, _, _, _, rfl, rfl, .inl (.inl op), rfl, ?_⟩
  exact ⟨_, rfl, X.m, G.cM, X.dx, _, _, rfl, M.cA, V0.cM.cl, V0.cM.na _ (by simp), rfl, .inl ⟨rfl, _, .inl (.inl M.cH)⟩, _, rfl, _, rfl, a, G.cC, dx, _, _, rfl, oa, V0.cC.cl, V0.cC.na _ (by simp), rfl, rfl, fun a2 dy H3 na ha s3 => ⟨X.al, _, _, rfl, rfl, s3 _ _ M.cH, R.au.1, fin b vb rb et a2 dy H3 na ha s3⟩⟩
theorem qR : aq ["machine", "step"] ["machine", "step"] (aj gF) := bQ
theorem sN {α : Type} {us : List α} {i : Nat} {u : α} {r : List α} (h : us.drop i = u :: r) : us[i]? = some u /\ us.drop (i + 1) = r /\ i + 1 + r.length = us.length := by
 have hi : i < us.length := by
  rcases Nat.lt_or_ge i us.length with z | z
  ·exact z
  ·rw [List.drop_eq_nil_of_le z] at h; cases h
 rw [List.drop_eq_getElem_cons hi] at h
 injection h with h1 h2
 refine ⟨by rw [List.getElem?_eq_getElem hi, h1], h2, ?_⟩
 rw [<- h2, List.length_drop]
 omega
theorem qY (T : FT K mg "go_through" "go_through" gF ["machine", "step"]) (V0 : DW P w G K mg base) (b1 : mg "len" = none) : aX P w K mg base 3 "go_through" ["machine", "step"] (jN P w A G K ex .S) := by
 refine T.ok qR pk fun f aU A' outer s H vs Q E hr h => ?_
 obtain ⟨X, st, u, rfl, es, R, pr, q⟩ := h
 have M := R.r
 obtain ⟨l, e, rfl⟩ : ∃ l e, st = .seq l e := by cases st <;> first | exact ⟨_, _, rfl⟩ | cases es
 obtain ⟨a, dx, pl, us, j, ve, rfl, ia, oa, ip, op, pr, ne, re⟩ := pr
 refine ⟨_, af (aL (aA pQ (e9 fU (ay (pv 1) rfl) aw) (a7 a9 (by rfl) b1 PySem.boot_len (aa (ay (pv 1) rfl) ag)) (aH _))
   (ae (a8 (aR (ay (pv 0) rfl) (b6 V0.mS hr (by rfl) ai (aa (ay (pv 1) rfl) (aa (e9 fU (ay (pv 1) rfl) aw) (aa (ay (pv 1) rfl) ag))))))) aG)
  (ae (a8 (aR (ay (pv 0) rfl) (b6 V0.mL hr (by rfl) ai (aa (aB a5 (ay (pv 1) rfl) (ay (pv 1) rfl) (fun _ _ => rfl)) (aa (ay (pv 1) rfl) ag)))))), ?_⟩
 refine ⟨_, rfl, a, G.cS, dx, _, _, rfl, oa, V0.cS.cl, V0.cS.na _ (by simp), rfl, _, _, rfl, rfl, _, rfl, a, G.cS, dx, _, _, rfl, oa, V0.cS.cl, V0.cS.na _ (by simp), rfl, pl, us, rfl, .inl (.inl (.inl op)), _, _, rfl, rfl, _, rfl, ?_⟩
 generalize hd : us.drop j = dr at pr
 cases pr with
 | nil => exact absurd rfl ne
 | @cons x u l dr rx EA =>
 obtain ⟨h1, h2, h3⟩ := sN hd
 have hl := EA.length
 cases EA with
 | nil =>
  have c2 : decide ((j : Int) + 1 < (us.length : Nat)) = false := decide_eq_false (by simp at h3; omega)
  rw [c2]
  have et : take1 X.k X.v X.W (.seq [x] e) = .more ⟨.look x e :: X.k, X.v, X.W⟩ := rfl
  rw [et] at q
  exact aM ⟨_, rfl, X.m, G.cM, X.dx, _, _, rfl, M.cA, V0.cM.cl, V0.cM.na _ (by simp), rfl, .inl ⟨rfl, _, .inl (.inl M.cH)⟩, _, rfl, a, G.cS, dx, _, _, rfl, oa, V0.cS.cl, V0.cS.na _ (by simp), rfl, _, rfl, a, G.cS, dx, _, _, rfl, oa, V0.cS.cl, V0.cS.na _ (by simp), rfl,
   pl, us, _, u, rfl, rfl, .inl (.inl op), eW h1, _, rfl, a, G.cS, dx, _, _, rfl, oa, V0.cS.cl, V0.cS.na _ (by simp), rfl, rfl, fun a2 dy H3 na ha s3 => ⟨X.al, _, _, rfl, rfl, s3 _ _ M.cH, R.au.1, (M.lp rx re na ha s3).post q rfl⟩⟩
 | @cons y u2 l dr ry E9 =>
  have c2 : decide ((j : Int) + 1 < (us.length : Nat)) = true := decide_eq_true (by simp at h3; omega)
  rw [c2]
  have et : take1 X.k X.v X.W (.seq (x :: y :: l) e) = .more ⟨.look x e :: .seq (y :: l) e :: X.k, X.v, X.W⟩ := rfl
  rw [et] at q
  refine aZ ⟨_, rfl, X.m, G.cM, X.dx, _, _, rfl, M.cA, V0.cM.cl, V0.cM.na _ (by simp), rfl, .inl ⟨rfl, _, .inl (.inl M.cH)⟩, _, rfl, a, G.cS, dx, _, _, rfl, oa, V0.cS.cl, V0.cS.na _ (by simp), rfl, _, rfl, a, G.cS, dx, _, _, rfl, oa, V0.cS.cl, V0.cS.na _ (by simp), rfl, _, _, rfl, rfl,
   _, rfl, a, G.cS, dx, _, _, rfl, oa, V0.cS.cl, V0.cS.na _ (by simp), rfl, rfl, fun a1 dy H3 na ha s3 => ⟨X.al, _, _, rfl, rfl, s3 _ _ M.cH, R.au.1, ?_⟩⟩
  have im : bF X.mu H H3 := bF.of_same s3
  have ml := dB.add X.mu a1
  have M1 := (M.new na ha s3).push (s := .seq (y :: l) e) ⟨a1, dy, pl, us, j + 1, ve, rfl, .inl rfl, ha, .inr ip, s3 _ _ op, by rw [h2]; exact aE (Paired.cons ry E9) fun _ _ z => z.mono ml im (.refl X.ns), by simp, re.mono ml im (.refl X.ns) M.wr.names.nd (.refl _)⟩
  have jB : bF X.mu H (upd H3 X.al (.lst (X.us.reverse ++ [.ref a1]))) := fun b o ib eb => by
   rw [ak fun z => M.na (by rw [<- z]; exact ib)]
   exact im b o ib eb
  have BI := jB _ _ ia oa
  exact ⟨_, rfl, X.m, G.cM, X.dx, _, _, rfl, M1.cA, V0.cM.cl, V0.cM.na _ (by simp), rfl, .inl ⟨rfl, _, .inl (.inl M1.cH)⟩, _, rfl, a, G.cS, dx, _, _, rfl, BI, V0.cS.cl, V0.cS.na _ (by simp), rfl, _, rfl, a, G.cS, dx, _, _, rfl, BI, V0.cS.cl, V0.cS.na _ (by simp), rfl,
   pl, us, _, u, rfl, rfl, .inl (.inl (jB _ _ ip op)), eW h1, _, rfl, a, G.cS, dx, _, _, rfl, BI, V0.cS.cl, V0.cS.na _ (by simp), rfl, rfl, fun a2 KD H4 AM yp s4 => ⟨X.al, _, _, rfl, rfl, s4 _ _ M1.cH, kP R.au.2, (M1.lp (rx.mono ml jB (.refl X.ns)) (re.mono ml jB (.refl X.ns) M.wr.names.nd (.refl _)) AM yp s4).post q rfl⟩⟩
def vw (P : Program) (w : World) (A : Ad) (G : oW) (K : W.Frag) (ex : Nat -> Addr) : Sp := fun vs H Q E => ∃ (X : MX) (x : Sg02.Obj) (vx : V) (l : Addr) (us : List V) (args : List Sg02.Obj), vs = [.ref X.m, vx, .ref l] /\ X.R P w A G K H /\ VR K H X.ns X.mu x vx /\ eu K H l us /\ Paired (fun o u => VR K H X.ns X.mu o u) args us /\ args.length < sizeLine /\
 X.Po P w A G K (X.sz + 1) ex Q E (bU X.k X.v X.W (x :: args))
theorem pB : aq ["machine", "applied", "arguments"] ["machine", "applied", "arguments"] (aj fR) := bQ
theorem l9 {h h' : Sg02.Heap} {l : List Sg02.Obj} {o : Sg02.Obj} (f : Int -> Int -> Except Nat Sg02.Obj) (e : (match l with
  | [.int x, .int y] => (f x y).map fun o => (h, o)
  | [_, _] => Except.error 2
  | _ => Except.error 3 : Except Nat (Sg02.Heap × Sg02.Obj)) = .ok (h', o)) : lP h h' := by
 split at e
 ·rename_i a b
  cases z : f a b with
  | error n => rw [z] at e; cases e
  | ok u => rw [z] at e; cases e; exact .refl h
 ·cases e
 ·cases e
theorem qz {h h' : Sg02.Heap} {k : Nat} {l : List Sg02.Obj} {o : Sg02.Obj} (e : Sg02.apply h k l = .ok (h', o)) : lP h h' := by
 match k, e with
 | 0, e => exact l9 (fun x y => if Sg02.inRange (x + y) = true then Except.ok (Sg02.Obj.int (x + y)) else Except.error 4) e
 | 1, e => exact l9 (fun x y => if Sg02.inRange (x - y) = true then Except.ok (Sg02.Obj.int (x - y)) else Except.error 4) e
 | 2, e => exact l9 (fun x y => if Sg02.inRange (x * y) = true then Except.ok (Sg02.Obj.int (x * y)) else Except.error 4) e
 | 3, e => exact l9 (fun x y => Except.ok (Sg02.truth (decide (x < y)))) e
 | 4, e => exact l9 (fun x y => Except.ok (Sg02.truth (decide (x = y)))) e
 | 5, e =>
  match l, e with
  | [], e => cases e
  | [a], e => cases e
  | [a, b], e => cases e; exact lP.cons h a b
  | a :: b :: c :: r, e => cases e
 | 6, e =>
  match l, e with
  | [], e => cases e
  | [a], e => cases a <;> first | (cases e; exact .refl _) | cases e
  | a :: b :: r, e => cases a <;> cases e
 | 7, e =>
  match l, e with
  | [], e => cases e
  | [a], e => cases a <;> first | (cases e; exact .refl _) | cases e
  | a :: b :: r, e => cases a <;> cases e
 | 8, e =>
  match l, e with
  | [], e => cases e
  | [a], e => cases a <;> first | (cases e; exact .refl _) | cases e
  | a :: b :: r, e => cases a <;> cases e
 | k + 9, e =>
  match l, e with
  | [], e => cases e
  | [a], e => cases e
  | [a, b], e => cases e; exact .refl _
  | a :: b :: c :: r, e => cases e
theorem pV (T : FT K mg "apply_first" "apply_first" fR ["machine", "applied", "arguments"]) (V0 : DW P w G K mg base) (i : sV A K) (b1 : mg "isinstance" = none) (cQ : mg "Primitive" = some (.ref A.cQ)) (cF : CT K mg "Function" A.cF ["names", "body", "bindings"]) (x5 : jK K mg "NoFunction" (ex 5))
  (F1 : aX P w K mg base 4 "apply_primitive" ["primitive", "arguments"] (zw P w A K ex)) (F2 : aX P w K mg base 3 "bindings_of_call" ["function", "arguments"] (zu P w A K (ex 3))) : aX P w K mg base 5 "apply_first" ["machine", "applied", "arguments"] (vw P w A G K ex) := by
 refine T.ok pB (fun vs H Q E h => by obtain ⟨_, _, _, _, _, _, rfl, _⟩ := h; rfl) fun f aU A' outer s H vs Q E hr h => ?_
 obtain ⟨X, x, vx, l, us, args, rfl, R, rx, hS, pr, hz, q⟩ := h
 have M := R.r
 have rl := hr.mono (show 2 <= 4 by decide)
 have IV := hr.mono (show 3 <= 4 by decide)
 refine ⟨_, ae (aL (bc (a7 aY (by rfl) b1 bIsX (aa (pv 1) (aa (ax (v := .ref A.cQ) (by rfl) cQ rfl) ag))))
   (ae (aP (pv 0) (aW F1 hr (by rfl) ai (aa (pv 1) (aa (pv 2) ag))) rfl))
  (ae (aL (bc (a7 aY (by rfl) b1 bIsX (aa (pv 1) (aa (ax (v := .ref A.cF) (by rfl) cF.kg rfl) ag))))
   (ae (a8 (aR (ay (pv 0) rfl) (b6 V0.mL rl (by rfl) ai (aa (ay (pv 1) rfl) (aa (aW F2 IV (by rfl) ai (aa (pv 1) (aa (pv 2) ag))) ag))))))
   (ae (bZ x5 bt rfl (by rfl)))))), ?_⟩
 refine ⟨_, rfl, vx, _, _, _, rfl, rx.ty M.wr i, (fun v hv => by cases hv; exact i.prim (kdOf x)), _, rfl, ?_⟩
 by_cases c : kdOf x = .prim
 ·rw [decide_eq_true c]
  obtain ⟨j, rfl⟩ : ∃ j, x = .prim j := by cases x <;> first | exact ⟨_, rfl⟩ | cases c
  obtain ⟨a, rfl, ej⟩ := rx
  have hb := M.cn
  refine aZ ⟨_, rfl, _, rfl, a, j, l, us, args, X.ns, X.mu, X.W.heap, X.B, rfl, ej, hS, M.wr, pr, ?_⟩
  cases za : Sg02.apply X.W.heap j args with
  | error n =>
   have et : bU X.k X.v X.W (.prim j :: args) = .stop (.fault n) X.W := by unfold bU; simp only [za]
   rw [et] at q
   exact q H X.mu (M.le (Nat.le_succ _)).ar
  | ok r =>
   obtain ⟨h', o⟩ := r
   have et : bU X.k X.v X.W (.prim j :: args) = .more ⟨X.k, o, { X.W with heap := h' }⟩ := by unfold bU; simp only [za]
   rw [et] at q
   intro v H' μ' B' s3 m3 i3 hB W3 r3
   by_cases cb : X.B <= B'
   ·have M1 := (M.le (Nat.le_succ X.sz)).grow s3 m3 i3 (qz za) cb (by omega) W3
    exact ⟨_, rfl, X.m, G.cM, X.dx, _, rfl, M1.cA, V0.cM.cl, V0.cM.na _ (by simp), Hd.t4, (M1.value r3).post q rfl⟩
   ·have W4 : WR P w A K H' X.ns μ' h' X.B := ⟨fun k a e => let ⟨g1, g2, g3, g4⟩ := W3.pairs k a e; ⟨g1, g2, g3, g4.mono (by omega)⟩, W3.qT, W3.fns, W3.r6, W3.e8, W3.qS, W3.gp, W3.low, W3.fi, W3.names, Nat.le_trans M.wr.cn (qz za).next, W3.y9⟩
    have M1 := (M.le (Nat.le_succ X.sz)).grow s3 m3 i3 (qz za) (zA0 _) (by omega) W4
    exact ⟨_, rfl, X.m, G.cM, X.dx, _, rfl, M1.cA, V0.cM.cl, V0.cM.na _ (by simp), Hd.t4, (M1.value r3).post q rfl⟩
 ·rw [decide_eq_false c]
  refine aM ⟨_, rfl, vx, _, _, _, rfl, rx.ty M.wr i, (fun v hv => by cases hv; exact i.fn (kdOf x)), _, rfl, ?_⟩
  by_cases c2 : kdOf x = .fn
  ·rw [decide_eq_true c2]
   obtain ⟨j, rfl⟩ : ∃ j, x = .fn j := by cases x <;> first | exact ⟨_, rfl⟩ | cases c2
   obtain ⟨a, rfl, ej⟩ := rx
   obtain ⟨_, ia, dy, ln, vb, ve, vs, o1, Qu, o2, pn, rb, re⟩ := M.wr.fns j a ej
   refine aZ ⟨_, rfl, X.m, G.cM, X.dx, _, _, rfl, M.cA, V0.cM.cl, V0.cM.na _ (by simp), rfl, .inl ⟨rfl, _, .inl (.inl M.cH)⟩, _, rfl, a, A.cF, dy, _, _, rfl, o1, cF.cl, cF.na _ (by simp), rfl, _, rfl, _, rfl, a, l, j, us, args, X.ns, X.mu, X.W.heap, X.B, rfl, M.wr, ej, hS, pr, hz, fun hn => ?_, fun hn => ?_⟩
   ·have et : bU X.k X.v X.W (.fn j :: args) = .stop (.fault 3) X.W := if_pos hn
    rw [et] at q
    exact q H X.mu (M.le (Nat.le_succ _)).ar
   ·have et : bU X.k X.v X.W (.fn j :: args) = .more ⟨.look (X.W.heap.fn j).2.1 (Sg02.bindAll X.W.heap (X.W.heap.fn j).2.2 (X.W.heap.fn j).1 args).2 :: X.k, X.v, { X.W with heap := (Sg02.bindAll X.W.heap (X.W.heap.fn j).2.2 (X.W.heap.fn j).1 args).1 }⟩ := if_neg (by rw [hn]; simp)
    rw [et] at q
    intro v' H' μ' s3 m3 i3 W3 PF
    have M1 := (M.le (Nat.le_succ X.sz)).grow s3 m3 i3 (gQ _ _ _ _) (zA0 _) (Nat.le_succ_of_le M.cn) W3
    refine ⟨rfl, fun a2 KD H4 AM yp s4 => ⟨X.al, _, _, rfl, rfl, s4 _ _ M1.cH, R.au.1, ?_⟩⟩
    exact (M1.lp (rb.mono m3 (bF.of_same s3) (.refl X.ns)) PF AM yp s4).post q rfl
  ·rw [decide_eq_false c2]
   have et : bU X.k X.v X.W (x :: args) = .stop (.fault 5) X.W := by cases x <;> first | rfl | exact absurd rfl c | exact absurd rfl c2
   rw [et] at q
   exact aM (q H X.mu (M.le (Nat.le_succ _)).ar)
end
end Lsp
namespace Lsp
open PySem Spec PyProof.Rows L2
section
variable {P : Program} {w : World} {A : Ad} {G : oW} {K : W.Frag} {mg : Str -> Option Value} {base : Heap} {ex : Nat -> Addr}
def vt (P : Program) (w : World) (A : Ad) (G : oW) (K : W.Frag) (ex : Nat -> Addr) : Sp := fun vs H Q E => ∃ (X : MX) (rest found : List Sg02.Obj) (e : Sg02.Env) (u : V) (fl : Addr), vs = [.ref X.m, u] /\ X.R P w A G K H /\ lQ P w A G K X.ns H X.mu X.W.heap X.B rest found e u fl /\ fl ∉ X.gl /\ fl ≠ X.al /\ X.H0 fl = Option.none /\
 X.Po P w A G K (X.sz + yA (.bT rest found e)) ex Q E (take1 X.k X.v X.W (.bT rest found e))
theorem A4 : aq ["machine", "step"] ["machine", "step"] (aj pE) := bQ
theorem NG (us : List V) (x : V) : gw (x :: us) (some 1) none = us := by
 have h1 : HT.dm (x :: us).length 0 (some 1) = 1 := by
  have := HT.dX (x :: us).length 0 1
  rw [show ((1 : Nat) : Int) = 1 from rfl] at this
  rw [this, List.length_cons]
  omega
 have h2 : HT.dm (x :: us).length (x :: us).length none = (x :: us).length := rfl
 unfold gw
 rw [h1, h2, List.drop_succ_cons, List.drop_zero, List.length_cons, Nat.add_sub_cancel, List.take_length]
theorem AG (T : FT K mg "gather" "gather" pE ["machine", "step"]) (V0 : DW P w G K mg base) (b1 : mg "len" = none) (F1 : aX P w K mg base 5 "apply_first" ["machine", "applied", "arguments"] (vw P w A G K ex)) : aX P w K mg base 6 "gather" ["machine", "step"] (vt P w A G K ex) := by
 refine T.ok A4 (fun vs H Q E h => by obtain ⟨_, _, _, _, _, _, rfl, _⟩ := h; rfl) fun f aU A' outer s H vs Q E hr h => ?_
 obtain ⟨X, rest, found, e, u, fl, rfl, R, gr, O2, IS, O3, q⟩ := h
 have M := R.r
 have rl := hr.mono (show 2 <= 5 by decide)
 obtain ⟨a, dy, pl, us, fs, ve, rfl, ia, oa, ip, op, of, M7, Om, PN, hlen, hB, re⟩ := gr
 refine ⟨_, af (a8 (aR (ay (pv 1) rfl) (ay (pv 0) rfl))) (ae (aL (aA pQ (a7 a9 (by rfl) b1 PySem.boot_len (aa (ay (pv 1) rfl) ag)) (a7 a9 (by rfl) b1 PySem.boot_len (aa (ay (pv 1) rfl) ag)) (aH _))
   (af (a8 (aR (ay (pv 0) rfl) (pv 1))) (ae (a8 (aR (ay (pv 0) rfl) (b6 V0.mL rl (by rfl) ai (aa (aB a5 (ay (pv 1) rfl) (a7 a9 (by rfl) b1 PySem.boot_len (aa (ay (pv 1) rfl) ag)) (fun _ _ => rfl)) (aa (ay (pv 1) rfl) ag)))))))
   (ae (a8 (aW F1 hr (by rfl) ai (aa (pv 0) (aa (aB a5 (ay (pv 1) rfl) aw (fun _ _ => rfl)) (aa (gj kQ (ay (pv 1) rfl) (fB aw) oN) ag)))))))), ?_⟩
 have hb := M.cn
 have hz := R.hz
 have Rm := Om.length
 have Qj : fl ≠ X.m := fun z => by rw [z, M.cA] at of; cases of
 have Qk : fl ≠ X.d := fun z => by rw [z, M.dr.at_] at of; cases of
 refine ⟨_, rfl, a, G.cG, dy, _, _, rfl, oa, V0.cG.cl, V0.cG.na _ (by simp), rfl, .inl ⟨rfl, _, .inl (.inl of)⟩, _, rfl, X.m, G.cM, X.dx, _, _, rfl, M.cA, V0.cM.cl, V0.cM.na _ (by simp), rfl, fl, fs, X.vv, rfl, rfl, of, by omega, ?_⟩
 have jB : bF X.mu H (upd H fl (.lst (fs ++ [X.vv]))) := fh M7
 have M1 := M.other (o := .lst (fs ++ [X.vv])) M7 Qj IS Qk O2 O3
 have IQ : upd H fl (.lst (fs ++ [X.vv])) fl = some (.lst (fs ++ [X.vv])) := ah
 have BI := jB _ _ ia oa
 have Mw := jB _ _ ip op
 have IP := re.mono (.refl X.mu) jB (.refl X.ns) M.wr.names.nd (.refl _)
 have E8 : Paired (fun o u => VR K (upd H fl (.lst (fs ++ [X.vv]))) X.ns X.mu o u) (found ++ [X.v]) (fs ++ [X.vv]) := Paired.snoc (aE Om fun _ _ z => z.mono (.refl X.mu) jB (.refl X.ns)) M1.val
 have JI : Paired (fun o u => VR K (upd H fl (.lst (fs ++ [X.vv]))) X.ns X.mu o u) rest (us.drop (found.length + 1)) := aE PN fun _ _ z => z.mono (.refl X.mu) jB (.refl X.ns)
 generalize upd H fl (.lst (fs ++ [X.vv])) = H1 at *
 have lf : (fs ++ [X.vv]).length = found.length + 1 := by rw [List.length_append, Rm]; rfl
 refine ⟨_, rfl, a, G.cG, dy, _, _, rfl, BI, V0.cG.cl, V0.cG.na _ (by simp), rfl, fl, _, rfl, .inl (.inl (.inl IQ)), _, rfl, a, G.cG, dy, _, _, rfl, BI, V0.cG.cl, V0.cG.na _ (by simp), rfl, pl, _, rfl, .inl (.inl (.inl Mw)), _, _, rfl, rfl, _, rfl, ?_⟩
 rw [lf]
 cases rest with
 | nil =>
  have c2 : decide (((found.length + 1 : Nat) : Int) < (us.length : Nat)) = false := decide_eq_false (by simp at hlen; omega)
  rw [c2]
  have et : take1 X.k X.v X.W (.bT [] found e) = bU X.k X.v X.W (found ++ [X.v]) := rfl
  rw [et, show yA (.bT [] found e) = 1 from rfl] at q
  generalize QG : found ++ [X.v] = fo at E8 q
  generalize RP : fs ++ [X.vv] = fv at E8 IQ lf
  cases E8 with
  | nil => simp at QG
  | @cons x0 u0 args av r0 Oo =>
  refine aM ⟨_, rfl, _, rfl, a, G.cG, dy, _, _, rfl, BI, V0.cG.cl, V0.cG.na _ (by simp), rfl, fl, _, _, u0, rfl, rfl, .inl (.inl IQ), eW (j := 0) rfl, _, rfl, a, G.cG, dy, _, _, rfl, BI, V0.cG.cl, V0.cG.na _ (by simp), rfl, _, rfl, fl, _, rfl, .inl (.inl IQ), fun p np => ?_⟩
  have s2 : aK H1 (upd H1 p (.lst (gw (u0 :: av) (some 1) none))) := az np
  have M2 := M1.same s2
  rw [NG] at s2 M2 ⊢
  have sH : bF X.mu H1 (upd H1 p (.lst av)) := bF.of_same s2
  refine ⟨X, x0, u0, p, av, args, rfl, ⟨M2, R.hk, R.hz⟩, r0.mono (.refl X.mu) sH (.refl X.ns), .inl (.inl ah), aE Oo fun _ _ z => z.mono (.refl X.mu) sH (.refl X.ns), ?_, q⟩
  have := Oo.length
  simp only [List.length_cons, List.length_nil] at lf hlen
  omega
 | cons x r =>
  have c2 : decide (((found.length + 1 : Nat) : Int) < (us.length : Nat)) = true := decide_eq_true (by simp at hlen; omega)
  rw [c2]
  have et : take1 X.k X.v X.W (.bT (x :: r) found e) = .more ⟨.look x e :: .bT r (found ++ [X.v]) e :: X.k, X.v, X.W⟩ := rfl
  rw [et, show yA (.bT (x :: r) found e) = 0 from rfl] at q
  generalize hd : us.drop (found.length + 1) = dr at JI
  cases JI with
  | @cons x u r dr rx Mt =>
  obtain ⟨h1, h2, h3⟩ := sN hd
  have M2 := M1.FZ (rest := r) (found := found ++ [X.v]) (e := e) (fl := fl) (u := .ref a) ⟨a, dy, pl, us, _, ve, rfl, ia, BI, ip, Mw, IQ, M7, E8, by rw [List.length_append]; show Paired _ r (us.drop (found.length + 1 + 1)); rw [h2]; exact Mt, by rw [List.length_append]; simp only [List.length_cons, List.length_nil] at hlen ⊢; omega, hB, IP⟩ O2 IS O3
  have sH : bF X.mu H1 (upd H1 X.al (.lst (X.us.reverse ++ [.ref a]))) := fh M.na
  have of2 : upd H1 X.al (.lst (X.us.reverse ++ [.ref a])) fl = some (.lst (fs ++ [X.vv])) := (ak IS).trans IQ
  refine aZ ⟨_, rfl, X.m, G.cM, X.dx, _, _, rfl, M1.cA, V0.cM.cl, V0.cM.na _ (by simp), rfl, .inl ⟨rfl, _, .inl (.inl M1.cH)⟩, _, rfl, X.al, _, _, rfl, rfl, M1.cH, R.au.1, ?_⟩
  refine ⟨_, rfl, X.m, G.cM, X.dx, _, _, rfl, M2.cA, V0.cM.cl, V0.cM.na _ (by simp), rfl, .inl ⟨rfl, _, .inl (.inl M2.cH)⟩, _, rfl, a, G.cG, dy, _, _, rfl, sH _ _ ia BI, V0.cG.cl, V0.cG.na _ (by simp), rfl, _, rfl, a, G.cG, dy, _, _, rfl, sH _ _ ia BI, V0.cG.cl, V0.cG.na _ (by simp), rfl, fl, _, rfl, .inl (.inl (.inl of2)),
   pl, us, _, u, rfl, rfl, .inl (.inl (sH _ _ ip Mw)), by rw [lf]; exact eW h1, _, rfl, a, G.cG, dy, _, _, rfl, sH _ _ ia BI, V0.cG.cl, V0.cG.na _ (by simp), rfl, rfl, fun a2 KD H4 AM yp s4 => ⟨X.al, _, _, rfl, rfl, s4 _ _ M2.cH, kP R.au.2, ?_⟩⟩
  exact (M2.lp (rx.mono (.refl X.mu) sH (.refl X.ns)) (IP.mono (.refl X.mu) sH (.refl X.ns) M.wr.names.nd (.refl _)) AM yp s4).post q rfl
def FH (P : Program) (w : World) (A : Ad) (G : oW) (K : W.Frag) (X : MX) (H : Hp) (u : V) : du -> Prop
 | .bT rest found e => ∃ fl, lQ P w A G K X.ns H X.mu X.W.heap X.B rest found e u fl /\ fl ∉ X.gl /\ fl ≠ X.al /\ X.H0 fl = Option.none
 | s => k6 P w A G K X.ns H X.mu X.W.heap s u
def Cf (P : Program) (w : World) (A : Ad) (G : oW) (K : W.Frag) (ex : Nat -> Addr) : Sp := fun vs H Q E => ∃ (X : MX) (s : du) (u : V), vs = [.ref X.m, u] /\ X.R P w A G K H /\ FH P w A G K X H u s /\ (∀ l e, s = .seq l e -> l ≠ []) /\
 X.Po P w A G K (X.sz + yA s) ex Q E (take1 X.k X.v X.W s)
theorem FH.ty {X : MX} {H : Hp} {s : du} {u : V} (r : FH P w A G K X H u s) (i : NN G K) : Iy K H u (.ref (sA G (GC s))) := by
 have h : ∀ (c : Sk) (a dx : Addr) (fs : List (Str × V)), H a = some (.ins (sA G c) dx fs) -> Iy K H (.ref a) (.ref (sA G c)) := fun c a dx fs e => .of (.ins e (i.i c).cl (i.i c).ha (i.i c).hn (i.i c).tk (i.i c).hm)
 cases s with
 | look x e => obtain ⟨a, dx, vx, ve, rfl, _, o, _⟩ := r; exact h .L a dx _ o
 | choice b c e => obtain ⟨a, dx, pl, p0, p1, vb, vc, ve, rfl, _, o, _⟩ := r; exact h .C a dx _ o
 | seq l e => obtain ⟨a, dx, pl, us, j, ve, rfl, _, o, _⟩ := r; exact h .S a dx _ o
 | cV n => obtain ⟨a, dx, vn, rfl, _, o, _⟩ := r; exact h .N a dx _ o
 | bT rest found e => obtain ⟨fl, ⟨a, dx, pl, us, fs, ve, rfl, _, o, _⟩, _⟩ := r; exact h .G a dx _ o
theorem tF : aq ["machine", "step"] ["machine", "step"] (aj iy) := bQ
theorem ui (T : FT K mg "take_step" "take_step" iy ["machine", "step"]) (V0 : DW P w G K mg base) (i : NN G K) (b1 : mg "isinstance" = none) (F1 : aX P w K mg base 5 "look" ["machine", "thing", "bindings"] (Ci P w A G K ex)) (F2 : aX P w K mg base 3 "choose" ["machine", "step"] (jN P w A G K ex .C))
  (F3 : aX P w K mg base 3 "go_through" ["machine", "step"] (jN P w A G K ex .S)) (F4 : aX P w K mg base 6 "gather" ["machine", "step"] (vt P w A G K ex)) : aX P w K mg base 7 "take_step" ["machine", "step"] (Cf P w A G K ex) := by
 refine T.ok tF (fun vs H Q E h => by obtain ⟨_, _, _, rfl, _⟩ := h; rfl) fun f aU A' outer s H vs Q E hr h => ?_
 obtain ⟨X, st, u, rfl, R, pr, Lp, q⟩ := h
 have M := R.r
 have hu := wa hr
 have MS := hr.mono (show 5 <= 6 by decide)
 have IV := hr.mono (show 3 <= 6 by decide)
 refine ⟨_, ae (aL (bc (a7 aY (by rfl) b1 bIsX (aa (pv 1) (aa (ax (v := .ref (sA G .L)) (by rfl) V0.cL.kg rfl) ag))))
   (ae (a8 (aW F1 MS (by rfl) ai (aa (pv 0) (aa (ay (pv 1) rfl) (aa (ay (pv 1) rfl) ag))))))
  (ae (aL (bc (a7 aY (by rfl) b1 bIsX (aa (pv 1) (aa (ax (v := .ref (sA G .C)) (by rfl) V0.cC.kg rfl) ag))))
   (ae (a8 (aW F2 IV (by rfl) ai (aa (pv 0) (aa (pv 1) ag)))))
  (ae (aL (bc (a7 aY (by rfl) b1 bIsX (aa (pv 1) (aa (ax (v := .ref (sA G .S)) (by rfl) V0.cS.kg rfl) ag))))
   (ae (a8 (aW F3 IV (by rfl) ai (aa (pv 0) (aa (pv 1) ag)))))
  (ae (aL (bc (a7 aY (by rfl) b1 bIsX (aa (pv 1) (aa (ax (v := .ref (sA G .N)) (by rfl) V0.cN.kg rfl) ag))))
   (ae (tW hu (ay (pv 0) rfl) (ay (pv 1) rfl) (ay (pv 0) rfl) rfl))
   (ae (a8 (aW F4 hr (by rfl) ai (aa (pv 0) (aa (pv 1) ag)))))))))))), ?_⟩
 have ty := pr.ty i
 refine ⟨_, rfl, u, _, _, _, rfl, ty, (fun v hv => by cases hv; exact i.Ed (GC st) .L), _, rfl, ?_⟩
 cases st with
 | look x e =>
  obtain ⟨a, dx, vx, ve, rfl, _, o, rx, re⟩ := pr
  exact aZ ⟨_, rfl, _, rfl, a, G.cL, dx, _, _, rfl, o, V0.cL.cl, V0.cL.na _ (by simp), rfl, _, rfl, a, G.cL, dx, _, _, rfl, o, V0.cL.cl, V0.cL.na _ (by simp), rfl, X, x, vx, e, ve, rfl, R, rx, re, q⟩
 | choice b c e =>
  refine aM ⟨_, rfl, u, _, _, _, rfl, ty, (fun v hv => by cases hv; exact i.Ed .C .C), _, rfl, ?_⟩
  exact aZ ⟨_, rfl, _, rfl, X, .choice b c e, u, rfl, rfl, R, pr, q⟩
 | seq l e =>
  refine aM ⟨_, rfl, u, _, _, _, rfl, ty, (fun v hv => by cases hv; exact i.Ed .S .C), _, rfl, ?_⟩
  refine aM ⟨_, rfl, u, _, _, _, rfl, ty, (fun v hv => by cases hv; exact i.Ed .S .S), _, rfl, ?_⟩
  exact aZ ⟨_, rfl, _, rfl, X, .seq l e, u, rfl, rfl, R, pr, q⟩
 | cV n =>
  refine aM ⟨_, rfl, u, _, _, _, rfl, ty, (fun v hv => by cases hv; exact i.Ed .N .C), _, rfl, ?_⟩
  refine aM ⟨_, rfl, u, _, _, _, rfl, ty, (fun v hv => by cases hv; exact i.Ed .N .S), _, rfl, ?_⟩
  refine aM ⟨_, rfl, u, _, _, _, rfl, ty, (fun v hv => by cases hv; exact i.Ed .N .N), _, rfl, ?_⟩
  obtain ⟨a, dx, vn, rfl, _, o, na, b, rfl, eb, nb⟩ := pr
  have hb := M.cn
  have hz := R.hz
  refine aZ ⟨_, rfl, X.m, G.cM, X.dx, _, _, rfl, M.cA, V0.cM.cl, V0.cM.na _ (by simp), rfl, _, rfl, X.m, G.cM, X.dx, _, _, rfl, M.cA, V0.cM.cl, V0.cM.na _ (by simp), rfl, _, rfl, a, G.cN, dx, _, _, rfl, o, V0.cN.cl, V0.cN.na _ (by simp), rfl,
   X.d, na, X.kvs, bE b, rfl, rfl, M.dr.at_, keysOk M.dr.keys, by rw [fg]; exact nb.sq, by omega, ?_⟩
  exact (M.define eb nb).post q rfl
 | bT rest found e =>
  refine aM ⟨_, rfl, u, _, _, _, rfl, ty, (fun v hv => by cases hv; exact i.Ed .G .C), _, rfl, ?_⟩
  refine aM ⟨_, rfl, u, _, _, _, rfl, ty, (fun v hv => by cases hv; exact i.Ed .G .S), _, rfl, ?_⟩
  refine aM ⟨_, rfl, u, _, _, _, rfl, ty, (fun v hv => by cases hv; exact i.Ed .G .N), _, rfl, ?_⟩
  obtain ⟨fl, g1, g2, g3, g4⟩ := pr
  exact aM ⟨_, rfl, _, rfl, X, rest, found, e, u, fl, rfl, R, g1, g2, g3, g4, q⟩
end
end Lsp
namespace Lsp
open PySem Spec PyProof.Rows L2
inductive qA : Nat -> Cfg -> Sg02.Out -> Sg02.World -> Prop where
 | fin (v : Sg02.Obj) (w : Sg02.World) : qA 0 ⟨[], v, w⟩ (.value v) w
 | stop {s k v w o u} (h : take1 k v w s = .stop o u) : qA 0 ⟨s :: k, v, w⟩ o u
 | more {n s k v w c o u} (h : take1 k v w s = .more c) (r : qA n c o u) : qA (n + 1) ⟨s :: k, v, w⟩ o u
theorem Runs.count {c : Cfg} {o : Sg02.Out} {u : Sg02.World} (r : Runs c o u) : ∃ n, qA n c o u := by
 induction r with
 | fin v w => exact ⟨0, .fin v w⟩
 | stop h => exact ⟨0, .stop h⟩
 | more h r ih => obtain ⟨n, z⟩ := ih; exact ⟨n + 1, .more h z⟩
theorem Iq (s : du) : yA s <= wt s := by
 cases s with
 | look x e => exact zA0 _
 | choice a b e => exact Nat.zero_le _
 | seq l e => exact Nat.zero_le _
 | cV n => exact zA0 _
 | bT r f e => cases r with
  | nil => exact zA0 _
  | cons _ _ => exact Nat.zero_le _
theorem iM {h : Sg02.Heap} {l : List Sg02.Obj} {n : Nat} (f : Int -> Int -> Except Nat Sg02.Obj) (hf : ∀ x y m, f x y = .error m -> m = 4) (e : (match l with
  | [.int x, .int y] => (f x y).map fun o => (h, o)
  | [_, _] => Except.error 2
  | _ => Except.error 3 : Except Nat (Sg02.Heap × Sg02.Obj)) = .error n) : 2 <= n /\ n <= 4 := by
 split at e
 ·rename_i a b
  cases z : f a b with
  | error m => rw [z] at e; cases e; rw [hf a b _ z]; decide
  | ok u => rw [z] at e; cases e
 ·cases e; decide
 ·cases e; decide
theorem nE (z : Int) (m : Nat) (h : (if Sg02.inRange z = true then Except.ok (Sg02.Obj.int z) else Except.error 4) = .error m) : m = 4 := by
 split at h
 ·cases h
 ·cases h; rfl
theorem BC {h : Sg02.Heap} {k n : Nat} {l : List Sg02.Obj} (e : Sg02.apply h k l = .error n) : 2 <= n /\ n <= 4 := by
 match k, e with
 | 0, e => exact iM (fun x y => if Sg02.inRange (x + y) = true then Except.ok (Sg02.Obj.int (x + y)) else Except.error 4) (fun x y m => nE _ m) e
 | 1, e => exact iM (fun x y => if Sg02.inRange (x - y) = true then Except.ok (Sg02.Obj.int (x - y)) else Except.error 4) (fun x y m => nE _ m) e
 | 2, e => exact iM (fun x y => if Sg02.inRange (x * y) = true then Except.ok (Sg02.Obj.int (x * y)) else Except.error 4) (fun x y m => nE _ m) e
 | 3, e => exact iM (fun x y => Except.ok (Sg02.truth (decide (x < y)))) (fun x y m z => by cases z) e
 | 4, e => exact iM (fun x y => Except.ok (Sg02.truth (decide (x = y)))) (fun x y m z => by cases z) e
 | 5, e =>
  match l, e with
  | [], e => cases e; decide
  | [a], e => cases e; decide
  | [a, b], e => cases e
  | a :: b :: c :: r, e => cases e; decide
 | 6, e =>
  match l, e with
  | [], e => cases e; decide
  | [a], e => cases a <;> first | (cases e; done) | (cases e; decide)
  | a :: b :: r, e => cases a <;> (cases e; decide)
 | 7, e =>
  match l, e with
  | [], e => cases e; decide
  | [a], e => cases a <;> first | (cases e; done) | (cases e; decide)
  | a :: b :: r, e => cases a <;> (cases e; decide)
 | 8, e =>
  match l, e with
  | [], e => cases e; decide
  | [a], e => cases a <;> first | (cases e; done) | (cases e; decide)
  | a :: b :: r, e => cases a <;> (cases e; decide)
 | k + 9, e =>
  match l, e with
  | [], e => cases e; decide
  | [a], e => cases e; decide
  | [a, b], e => cases e
  | a :: b :: c :: r, e => cases e; decide
theorem qK {n : Nat} {l : List Sg02.Obj} {e : Sg02.Env} {k : List du} {v : Sg02.Obj} {W u : Sg02.World} {m : Nat} (h : bj n l e k v W = .stop (.fault m) u) : m = 6 := by
 unfold bj at h
 split at h
 ·cases h
 ·cases h
 ·cases h
 ·cases h
 ·cases h
 ·split at h
  ·cases h
  ·cases h; rfl
 ·cases h; rfl
theorem vj {k : List du} {v : Sg02.Obj} {W u : Sg02.World} {s : du} {n : Nat} (h : take1 k v W s = .stop (.fault n) u) : 1 <= n /\ n <= 6 := by
 cases s with
 | look x e =>
  cases x with
  | nil => cases h
  | int z => cases h
  | fn z => cases h
  | prim z => cases h
  | name m =>
   unfold take1 at h
   dsimp only at h
   cases q : Sg02.lookup W.heap W.global (W.heap.next + 1) e m with
   | none => rw [q] at h; cases h; decide
   | some u => rw [q] at h; cases h
  | pair i =>
   unfold take1 at h
   dsimp only at h
   by_cases hl : W.left = 0
   ·rw [if_pos hl] at h; cases h
   ·rw [if_neg hl] at h
    cases q : Sg02.items W.heap (W.heap.next + 1) (.pair i) with
    | none => rw [q] at h; cases h; decide
    | some l =>
     rw [q] at h
     dsimp only at h
     unfold iV at h
     split at h
     ·cases h; decide
     ·split at h
      ·rw [qK h]; decide
      ·cases h
 | choice a b e => cases h
 | seq l e =>
  match l, h with
  | [], h => cases h
  | [x], h => cases h
  | x :: y :: l, h => cases h
 | cV m => cases h
 | bT rest found e =>
  cases rest with
  | nil =>
   have h : bU k v W (found ++ [v]) = .stop (.fault n) u := h
   unfold bU at h
   split at h
   ·split at h
    ·cases h
    ·rename_i m q
     cases h
     have := BC q
     omega
   ·split at h
    ·cases h; decide
    ·cases h
   ·cases h; decide
  | cons x r => cases h
theorem pH {c : Cfg} {o : Sg02.Out} {u : Sg02.World} (r : Runs c o u) : ∀ n, o = .fault n -> 1 <= n /\ n <= 6 := by
 induction r with
 | fin v w => intro n e; cases e
 | stop h => intro n e; subst e; exact vj h
 | more h r ih => exact ih
section
variable {P : Program} {w : World} {A : Ad} {G : oW} {K : W.Frag} {mg : Str -> Option Value} {base : Heap} {ex : Nat -> Addr}
theorem AR.le {ns : List Sg02.Bytes} {H0 : Hp} {μ0 : Mp} {d : Addr} {sz sz' : Nat} {H : Hp} {μ : Mp} {W : Sg02.World} (a : AR P w A K ns H0 μ0 d sz H μ W) (l : sz <= sz') : AR P w A K ns H0 μ0 d sz' H μ W := by
 obtain ⟨kvs, B, h1, h2, h3, h4⟩ := a
 exact ⟨kvs, B, h1, h2, h3, Nat.le_trans h4 l⟩
theorem AR.same {ns : List Sg02.Bytes} {H0 : Hp} {μ0 : Mp} {d : Addr} {sz : Nat} {H H' : Hp} {μ : Mp} {W : Sg02.World} (a : AR P w A K ns H0 μ0 d sz H μ W) (s : aK H H') : AR P w A K ns H0 μ0 d sz H' μ W := by
 obtain ⟨kvs, B, h1, h2, h3, h4⟩ := a
 exact ⟨kvs, B, h1.mono (bF.of_same s), h2.mono (.refl μ) (bF.of_same s) (.refl ns) h1.names.nd (s _ _ h2.at_), h3.same s (.refl μ) (by rw [h2.at_]; simp) (fun a z => .inl z), h4⟩
structure Pn (P : Program) (w : World) (A : Ad) (K : W.Frag) (H : Hp) (vx : V) (d : Addr) (b : Nat) (ns : List Sg02.Bytes) (μ : Mp) (h : Sg02.Heap) (g : Nat -> Option Sg02.Obj) (sz : Nat) (x : Sg02.Obj) : Prop where
 wr : ∃ B kvs, WR P w A K H ns μ h B /\ DR P w K H ns μ g d kvs /\ B + kvs.length <= sz
 nd : ¬ μ.im d
 rx : VR K H ns μ x vx
 line : sz + b + 10 <= sizeLine
def zg (P : Program) (w : World) (A : Ad) (K : W.Frag) (ex : Nat -> Addr) : Sp := fun vs H Q E => ∃ (vx : V) (d : Addr) (b : Nat) (ns : List Sg02.Bytes) (μ : Mp) (h : Sg02.Heap) (g : Nat -> Option Sg02.Obj) (sz : Nat) (x : Sg02.Obj) (o : Sg02.Out) (u : Sg02.World), vs = [vx, .ref d, .int (b : Nat)] /\ Pn P w A K H vx d b ns μ h g sz x /\
 Runs ⟨[.look x none], .nil, ⟨h, g, b⟩⟩ o u /\ match o with
 | .value y => ∀ v H' μ', AR P w A K ns H μ d (sz + b) H' μ' u -> VR K H' ns μ' y v -> Q v H'
 | .fault n => ∀ H' μ', AR P w A K ns H μ d (sz + b) H' μ' u -> E (.ref (ex n)) none H'
 | .spent => ∀ H' μ', AR P w A K ns H μ d (sz + b) H' μ' u -> E (.ref (ex 7)) none H'
theorem nP : aq ["thing", "definitions", "budget", "machine"] ["thing", "definitions", "budget"] (aj jQ) := bQ
theorem ue {X : Cx} {o : Expr} {to : TE} {apos c5 : Pos} (ho : PE X o to) (bS : attributeBase o "pop" X.env (eval o X.env) = eval o X.env := by rfl) (gX : (apos.endLine == c5.line) = true := by rfl) : PE X (.Call (.Attribute o "pop" apos) [] [] c5) (J6 X.K "list" JH to) :=
 GU PySem.F.plainAttrs_list PySem.F.slot_list_pop PySem.F.type_list_pop Ho ho bS gX
theorem dw.JK {ns : List Sg02.Bytes} {H0 : Hp} {μ0 : Mp} {m d al : Addr} {sz : Nat} {dx : Addr} {vv : V} {us : List V} {gl : List Addr} {kvs : Tab} {B : Nat} {H : Hp} {μ : Mp} {st : du} {k : List du} {v : Sg02.Obj} {W : Sg02.World}
  (M : dw P w A G K ns H0 μ0 m d al sz dx vv us gl kvs B H μ (st :: k) v W) (hk : k.length + 4 <= sizeLine) (hz : sz + 4 <= sizeLine) : ∃ uu us' Dl, us = uu :: us' /\
   (⟨ns, H0, μ0, m, d, al, sz, dx, vv, us', Dl, kvs, B, μ, k, v, W⟩ : MX).R P w A G K (upd H al (.lst us'.reverse)) /\ FH P w A G K ⟨ns, H0, μ0, m, d, al, sz, dx, vv, us', Dl, kvs, B, μ, k, v, W⟩ (upd H al (.lst us'.reverse)) uu st /\ ∀ l e, st = .seq l e -> l ≠ [] := by
 have vo := M.vo
 cases vo with
 | @plain _ uu _ us' _ r t =>
  have im : bF μ H (upd H al (.lst us'.reverse)) := fh M.na
  have r1 := r.mono (.refl μ) im M.wr.names.nd (.refl _)
  refine ⟨uu, us', gl, rfl, ⟨M.ahead t M.BN M.BM, hk, hz⟩, ?_, fun l e z => ?_⟩
  ·cases st with
   | bT _ _ _ => exact r.elim
   | look x e => exact r1
   | choice a b e => exact r1
   | seq l e => exact r1
   | cV n => exact r1
  ·subst z
   obtain ⟨_, _, _, _, _, _, _, _, _, _, _, _, ne, _⟩ := r
   exact ne
 | @bT rest found e uu fl _ us' Dl r n t =>
  have im : bF μ H (upd H al (.lst us'.reverse)) := fh M.na
  have IS : fl ≠ al := (M.mg fl zA2).2.2
  refine ⟨uu, us', Dl, rfl, ⟨M.ahead t (fun z => M.BN (zA1 _ z)) (fun f hf => M.BM f (zA1 _ hf)), hk, hz⟩, ?_, fun l e z => by cases z⟩
  exact ⟨fl, r.mono (.refl μ) im M.wr.names.nd (.refl _) (zA0 _) (ak IS) (fun a z => .inl z), n, IS, M.BM fl zA2⟩
theorem vG (T : FT K mg "value_of" "value_of" jQ ["thing", "definitions", "budget"]) (V0 : DW P w G K mg base) (b1 : mg "len" = none) (F1 : aX P w K mg base 7 "take_step" ["machine", "step"] (Cf P w A G K ex)) : aX P w K mg base 8 "value_of" ["thing", "definitions", "budget"] (zg P w A K ex) := by
 refine T.ok nP (fun vs H Q E h => by obtain ⟨_, _, _, _, _, _, _, _, _, _, _, rfl, _⟩ := h; rfl) fun f aU A' outer s H vs Q E hr h => ?_
 obtain ⟨vx, d, b, ns, μ, h, g, sz, x, o, u, rfl, ⟨⟨B, kvs, W, D, hb⟩, Hi, rx, gX⟩, run, q⟩ := h
 have rl := hr.mono (show 2 <= 7 by decide)
 refine ⟨_, af (aJ (i := 3) nP.nd rfl (Or.inl rfl) (uf V0.mM rl (by rfl) ai (aa (pv 1) (aa (pv 2) ag))))
  (af (a8 (aR (ay (pv 3) rfl) (b6 V0.mL rl (by rfl) ai (aa (pv 0) (aa bq ag)))))
  (af (d8 PassesOwn.leaving (aA nS (a7 a9 (by rfl) b1 PySem.boot_len (aa (ay (pv 3) rfl) ag)) aw (aH _))
   (ae (a8 (aW F1 hr (by rfl) ai (aa (pv 3) (aa (ue (ay (pv 3) rfl)) ag))))))
  (ae (a6 (ay (pv 3) rfl))))), ?_⟩
 refine ⟨_, rfl, _, rfl, rfl, fun m dx al H1 nm na Ln hm ko s1 => ?_⟩
 have jB : bF μ H H1 := bF.of_same s1
 have JU : ∀ a, H a = Option.none -> ¬ μ.im a := fun a e z => by obtain ⟨o, eo⟩ := W.y9 a z; rw [e] at eo; cases eo
 have M1 : dw P w A G K ns H μ m d al sz dx .bf [] [] kvs B H1 μ [] .nil ⟨h, g, b⟩ :=
  ⟨hm, rfl, ko, .nil, W.mono jB, D.mono (.refl μ) jB (.refl ns) W.names.nd (s1 _ _ D.at_), JU m nm, JU al na, by simp, ⟨fun a o _ e => s1 a o e, .refl μ, fun a z => .inl z, Hi, by rw [D.at_]; simp⟩, nm, na, (fun f hf => nomatch hf), hb⟩
 refine ⟨_, rfl, m, G.cM, dx, _, _, rfl, hm, V0.cM.cl, V0.cM.na _ (by simp), rfl, .inl ⟨rfl, _, .inl (.inl ko)⟩, _, rfl, rfl, fun a dy H2 AM yp s2 => ⟨al, _, _, rfl, rfl, s2 _ _ ko, (by show 0 < sizeLine; decide), ?_⟩⟩
 have M2 := M1.lp (rx.mono (.refl μ) jB (.refl ns)) (e := none) (ve := .bf) ⟨0, .top⟩ AM yp s2
 obtain ⟨n0, Mf⟩ := run.count
 refine ⟨fun n σ H' => ∃ (sz' : Nat) (μ' : Mp) (c : Cfg), σ = [some vx, some (.ref d), some (.int (b : Nat)), some (.ref m)] /\ MR P w A G K ns H μ m d al sz' H' μ' c.ahead c.val c.w /\ qA n c o u /\ Sh (sz + b) sz' c.ahead c.w.left, ⟨n0, sz, _, ⟨[.look x none], .nil, ⟨h, g, b⟩⟩, rfl, M2.mr, Mf, ⟨(fun s hs => nomatch hs), zA0 _⟩⟩, ?_⟩
 rintro n σ H' ⟨sz', μ', c, rfl, ⟨sM, vv, us, gl, Qr, B', M⟩, rn, sh⟩
 refine ⟨_, rfl, m, G.cM, sM, _, _, rfl, M.cA, V0.cM.cl, V0.cM.na _ (by simp), rfl, al, us.reverse, rfl, .inl (.inl (.inl M.cH)), _, _, rfl, rfl, _, rfl, ?_⟩
 have hlen := M.vo.len
 have Kn := sh.sum
 cases rn with
 | fin v w' =>
  have c2 : decide ((0 : Int) < (us.reverse.length : Nat)) = false := decide_eq_false (by rw [List.length_reverse, <- hlen]; simp)
  rw [c2]
  exact aM ⟨_, rfl, m, G.cM, sM, _, _, rfl, M.cA, V0.cM.cl, V0.cM.na _ (by simp), rfl, q vv H' μ' (M.ar.le (by omega)) M.val⟩
 | @stop st k v w' o u ht =>
  have hl := sh.len
  dsimp only at *
  rw [bx] at Kn
  have hd := Iq st
  simp only [List.length_cons] at hl
  obtain ⟨uu, us', Dl, rfl, XR, pop, Lp⟩ := M.JK (by omega) (by omega)
  have c2 : decide ((0 : Int) < ((uu :: us').reverse.length : Nat)) = true := decide_eq_true (by rw [List.length_reverse, List.length_cons]; omega)
  rw [c2]
  refine aZ ⟨fun _ _ => False, (fun _ _ z => z.elim), ?_⟩
  have ed : (uu :: us').reverse.dropLast = us'.reverse := by rw [List.reverse_cons]; simp
  refine ⟨_, rfl, _, rfl, m, G.cM, sM, _, _, rfl, M.cA, V0.cM.cl, V0.cM.na _ (by simp), rfl, .inl ⟨rfl, _, .inl (.inl M.cH)⟩, al, _, uu, rfl, rfl, M.cH, by rw [List.length_reverse, List.reverse_cons]; simp, ?_⟩
  rw [ed]
  refine ⟨_, st, uu, rfl, XR, pop, Lp, ?_⟩
  unfold MX.Po
  rw [ht]
  cases o with
  | value y => exact True.intro
  | fault n => exact fun H2 μ2 a => q H2 μ2 (a.le (show sz' + yA st <= sz + b by omega))
  | spent => exact fun H2 μ2 a => q H2 μ2 (a.le (show sz' + yA st <= sz + b by omega))
 | @more n st k v w' c o u ht rn =>
  have hl := sh.len
  have P8 := sh.step ht
  dsimp only at *
  rw [bx] at Kn
  simp only [List.length_cons] at hl
  obtain ⟨uu, us', Dl, rfl, XR, pop, Lp⟩ := M.JK (by omega) (by omega)
  have c2 : decide ((0 : Int) < ((uu :: us').reverse.length : Nat)) = true := decide_eq_true (by rw [List.length_reverse, List.length_cons]; omega)
  rw [c2]
  refine aZ ⟨fun σ H' => ∃ (sz' : Nat) (μ' : Mp) (c : Cfg), σ = [some vx, some (.ref d), some (.int (b : Nat)), some (.ref m)] /\ MR P w A G K ns H μ m d al sz' H' μ' c.ahead c.val c.w /\ qA n c o u /\ Sh (sz + b) sz' c.ahead c.w.left, (fun σ' H' z => ⟨n, Nat.lt_succ_self _, z⟩), ?_⟩
  have ed : (uu :: us').reverse.dropLast = us'.reverse := by rw [List.reverse_cons]; simp
  refine ⟨_, rfl, _, rfl, m, G.cM, sM, _, _, rfl, M.cA, V0.cM.cl, V0.cM.na _ (by simp), rfl, .inl ⟨rfl, _, .inl (.inl M.cH)⟩, al, _, uu, rfl, rfl, M.cH, by rw [List.length_reverse, List.reverse_cons]; simp, ?_⟩
  rw [ed]
  refine ⟨_, st, uu, rfl, XR, pop, Lp, ?_⟩
  unfold MX.Po
  rw [ht]
  exact fun H2 μ2 mr => ⟨sz' + yA st, μ2, c, rfl, mr, rn, P8⟩
structure Ji (K : W.Frag) (mg : Str -> Option Value) (ex : Nat -> Addr) : Prop where
 x1 : jK K mg "NoValue" (ex 1)
 x2 : jK K mg "WrongKind" (ex 2)
 x3 : jK K mg "WrongCount" (ex 3)
 x4 : jK K mg "OutOfRange" (ex 4)
 x5 : jK K mg "NoFunction" (ex 5)
 x6 : jK K mg "MalformedForm" (ex 6)
 x7 : jK K mg "OverBudget" (ex 7)
 mro : ∀ m n, 1 <= m -> m <= 7 -> 1 <= n -> n <= 7 -> m ≠ n -> W.mroIn K (ex m) (.ref (ex n)) = some false
 inj : ∀ m n, 1 <= m -> m <= 7 -> 1 <= n -> n <= 7 -> m ≠ n -> ex m ≠ ex n
theorem Ji.Rf {K : W.Frag} {mg : Str -> Option Value} {ex : Nat -> Addr} (F : Ji K mg ex) : ∀ n, 1 <= n -> n <= 7 -> W.excIn K (ex n) Ir "Exception.__new__" = true := fun n h1 h7 => by
 match n, h1, h7 with
 | 1, _, _ => exact F.x1.ex
 | 2, _, _ => exact F.x2.ex
 | 3, _, _ => exact F.x3.ex
 | 4, _, _ => exact F.x4.ex
 | 5, _, _ => exact F.x5.ex
 | 6, _, _ => exact F.x6.ex
 | 7, _, _ => exact F.x7.ex
def tH (n : Nat) : TS := G3 (Jq (pb (tC (.int (n : Nat))) (pb (tC .bf) tq)))
def BK (ex : Nat -> Addr) (a : Nat) : Nat -> List (Addr × TS)
 | 0 => []
 | k + 1 => (ex a, tH a) :: BK ex (a + 1) k
theorem zO {ex : Nat -> Addr} {C : Addr} : ∀ (k a : Nat), C ∈ (BK ex a k).map (·.1) -> ∃ n, a <= n /\ n < a + k /\ C = ex n
 | 0, a, h => nomatch h
 | k + 1, a, h => by
  rcases List.mem_cons.mp h with h | h
  ·exact ⟨a, zA0 _, by omega, h⟩
  ·obtain ⟨n, h1, h2, h3⟩ := zO k (a + 1) h
   exact ⟨n, by omega, by omega, h3⟩
theorem Dh {ex : Nat -> Addr} (F : Ji K mg ex) : ∀ (k a n : Nat), 1 <= a -> a + k <= 8 -> a <= n -> n < a + k -> yZ (BK ex a k) (ex n) = tH n
 | 0, a, n, _, _, h1, h2 => by omega
 | k + 1, a, n, ha, hk, h1, h2 => by
  show (if ex n = ex a then tH a else yZ (BK ex (a + 1) k) (ex n)) = tH n
  by_cases e : n = a
  ·rw [if_pos (by rw [e]), e]
  ·rw [if_neg (F.inj n a (by omega) (by omega) (by omega) (by omega) e)]
   exact Dh F k (a + 1) n (by omega) (by omega) (by omega) (by omega)
def mD : Sg02.Out -> Nat
 | .value _ => 0
 | .fault n => n
 | .spent => 7
def rX (P : Program) (w : World) (A : Ad) (K : W.Frag) : Sp := fun vs H Q E => ∃ (vx : V) (d : Addr) (b : Nat) (ns : List Sg02.Bytes) (μ : Mp) (h : Sg02.Heap) (g : Nat -> Option Sg02.Obj) (sz : Nat) (x : Sg02.Obj) (o : Sg02.Out) (u : Sg02.World), vs = [vx, .ref d, .int (b : Nat)] /\ Pn P w A K H vx d b ns μ h g sz x /\
 Runs ⟨[.look x none], .nil, ⟨h, g, b⟩⟩ o u /\ ∀ (t : Addr) (v : V) (H' : Hp) (μ' : Mp), AR P w A K ns H μ d (sz + b) H' μ' u -> H' t = some (.tup [.int (mD o : Nat), v]) -> (∀ y, o = .value y -> VR K H' ns μ' y v) -> Q (.ref t) H'
theorem pz : aq ["thing", "definitions", "budget", "value"] ["thing", "definitions", "budget"] (aj mw) := bQ
theorem xU (T : FT K mg "outcome" "outcome" mw ["thing", "definitions", "budget"]) (F : Ji K mg ex) (F1 : aX P w K mg base 8 "value_of" ["thing", "definitions", "budget"] (zg P w A K ex)) : aX P w K mg base 9 "outcome" ["thing", "definitions", "budget"] (rX P w A K) := by
 refine T.ok pz (fun vs H Q E h => by obtain ⟨_, _, _, _, _, _, _, _, _, _, _, rfl, _⟩ := h; rfl) fun f aU A' outer s H vs Q E hr h => ?_
 obtain ⟨vx, d, b, ns, μ, h, g, sz, x, o, u, rfl, ev, run, q⟩ := h
 have ot : ∀ (n k : Nat), 1 <= n -> n + 1 + k <= 8 -> ∀ C, C ∈ (BK ex (n + 1) k).map (·.1) -> W.excIn K C Ir "Exception.__new__" = true /\ W.mroIn K C (.ref (ex n)) = some false := fun n k h1 h2 C hC => by
  obtain ⟨j, j1, j2, rfl⟩ := zO k (n + 1) hC
  exact ⟨F.Rf j (by omega) (by omega), F.mro j n (by omega) (by omega) (by omega) (by omega) (by omega)⟩
 have bS : Ir.contains (.type "BaseException") = true := by decide
 refine ⟨_, af (xH dh (fun pins E' => ae (aJ (i := 3) pz.nd rfl (Or.inl rfl) (aW (E := E') F1 hr (by rfl) jX (aa (pv 0) (aa (pv 1) (aa (pv 2) ag))))))
   (dZ (r := BK ex 2 6) dh (by rfl) F.x1.kg F.x1.ex bS (ot 1 6 (by decide) (by decide)) (fun ea => ae (a6 (gI (aa aw (aa bq ag)))))
   (dZ (r := BK ex 3 5) dh (by rfl) F.x2.kg F.x2.ex bS (ot 2 5 (by decide) (by decide)) (fun ea => ae (a6 (gI (aa aw (aa bq ag)))))
   (dZ (r := BK ex 4 4) dh (by rfl) F.x3.kg F.x3.ex bS (ot 3 4 (by decide) (by decide)) (fun ea => ae (a6 (gI (aa aw (aa bq ag)))))
   (dZ (r := BK ex 5 3) dh (by rfl) F.x4.kg F.x4.ex bS (ot 4 3 (by decide) (by decide)) (fun ea => ae (a6 (gI (aa aw (aa bq ag)))))
   (dZ (r := BK ex 6 2) dh (by rfl) F.x5.kg F.x5.ex bS (ot 5 2 (by decide) (by decide)) (fun ea => ae (a6 (gI (aa aw (aa bq ag)))))
   (dZ (r := BK ex 7 1) dh (by rfl) F.x6.kg F.x6.ex bS (ot 6 1 (by decide) (by decide)) (fun ea => ae (a6 (gI (aa aw (aa bq ag)))))
   (dZ (r := []) dh (by rfl) F.x7.kg F.x7.ex bS (ot 7 0 (by decide) (by decide)) (fun ea => ae (a6 (gI (aa aw (aa bq ag)))))
   xO))))))))
  (ae (a6 (gI (aa aw (aa (pv 3) ag))))), ?_⟩
 refine ⟨_, rfl, _, rfl, _, rfl, vx, d, b, ns, μ, h, g, sz, x, o, u, rfl, ev, run, ?_⟩
 have bad : ∀ n, 1 <= n -> n <= 7 -> mD o = n -> (∀ y, o ≠ .value y) -> ∀ (D : Ends), D.rt = Q -> ∀ H' μ', AR P w A K ns H μ d (sz + b) H' μ' u -> ∃ C, Value.ref (ex n) = Value.ref C /\ ∀ σ', yZ (BK ex 1 7) C D σ' H' := fun n h1 h7 hn nv D hD H' μ' a => by
  refine ⟨ex n, rfl, fun σ' => ?_⟩
  rw [Dh F 7 1 n (by decide) (by decide) h1 (by omega)]
  refine ⟨(by show 2 <= sizeLine; decide), fun t nt => ?_⟩
  rw [hD]
  refine q t .bf _ μ' (a.same (az nt)) ?_ fun y e => absurd e (nv y)
  rw [hn]
  exact ah
 cases o with
 | value y =>
  intro v H' μ' a rv
  refine ⟨_, rfl, (by show 2 <= sizeLine; decide), fun t nt => ?_⟩
  refine q t v _ μ' (a.same (az nt)) ah fun y' e => ?_
  cases e
  exact rv.mono (.refl μ') (bF.of_same (az nt)) (.refl ns)
 | fault n =>
  obtain ⟨h1, h6⟩ := pH run n rfl
  exact fun H' μ' a => bad n h1 (by omega) rfl (fun y z => by cases z) _ rfl H' μ' a
 | spent => exact fun H' μ' a => bad 7 (by decide) (by decide) rfl (fun y z => by cases z) _ rfl H' μ' a
end
end Lsp
namespace Lsp
open Sg02
inductive Fr where
 | list (ps : List Tree) (dot : Option Nat)
 | quote
inductive RS where
 | go (b : Bytes) (st : List Fr)
 | done (t : Tree) (b : Bytes)
 | bad
def chain (ps : List Tree) (d : Tree) : Tree := ps.foldr Tree.pair d
def qt (t : Tree) : Tree := .pair (.name (ascii "quote")) (.pair t .nil)
noncomputable def bK (b : Bytes) : List Fr -> Tree -> RS
 | .quote :: st, t => bK b st (qt t)
 | .list ps d :: st, t => .go b (.list (ps ++ [t]) d :: st)
 | [], t => .done t b
noncomputable def jy (ps : List Tree) : Option Nat -> Option Tree
 | none => some (chain ps .nil)
 | some n => if ps.length ≠ n + 1 then none else some (chain ps.dropLast (ps.getLast?.getD .nil))
noncomputable def dn (b : Bytes) : List Fr -> RS
 | .list ps d :: st => (match jy ps d with
  | some t => bK b st t
  | none => .bad)
 | _ => .bad
noncomputable def gv (b : Bytes) : List Fr -> RS
 | .list ps d :: st => if ps = [] \/ d ≠ none then .bad else .go b (.list ps (some ps.length) :: st)
 | _ => .bad
noncomputable def ie (b : Bytes) (st : List Fr) : Word -> RS
 | .int z => bK b st (.int z)
 | .nil => bK b st .nil
 | .name n => bK b st (.name n)
 | .dot => gv b st
 | .bad => .bad
noncomputable def kL (st : List Fr) : Bytes -> RS
 | [] => .bad
 | c :: r => if c = 40 then .go r (.list [] none :: st)
  else if c = 39 then .go r (.quote :: st)
  else if c = 41 then dn r st
  else ie (word (c :: r)).2 st (wordOf (word (c :: r)).1)
theorem b9 (st : List Fr) (c : UInt8) (r : Bytes) : kL st (c :: r) = if c = 40 then .go r (.list [] none :: st)
  else if c = 39 then .go r (.quote :: st)
  else if c = 41 then dn r st
  else ie (word (c :: r)).2 st (wordOf (word (c :: r)).1) := rfl
noncomputable def cz (b : Bytes) (st : List Fr) : RS := kL st (skip b.length b)
inductive Reads : Bytes -> List Fr -> Option (Tree × Bytes) -> Prop where
 | bad {b st} (h : cz b st = .bad) : Reads b st none
 | done {b st t r} (h : cz b st = .done t r) : Reads b st (some (t, r))
 | go {b st b' gz res} (h : cz b st = .go b' gz) (n : Reads b' gz res) : Reads b st res
def kz : RS -> Option (Tree × Bytes) -> Prop
 | .bad, res => res = none
 | .done t r, res => res = some (t, r)
 | .go b st, res => Reads b st res
theorem Reads.step {b : Bytes} {st : List Fr} {res : Option (Tree × Bytes)} (h : kz (cz b st) res) : Reads b st res := by
 cases e : cz b st with
 | bad => rw [e] at h; cases h; exact .bad e
 | done t r => rw [e] at h; cases h; exact .done e
 | go b' gz => rw [e] at h; exact .go e h
theorem g9 : ∀ (k : Nat) (b : Bytes), (skip k b).length <= b.length
 | 0, b => by rw [skip]; exact zA0 _
 | k + 1, [] => by rw [skip]; exact zA0 _
 | k + 1, c :: r => by
  rw [skip]
  split
  ·exact Nat.le_trans (g9 k r) (by simp)
  ·split
   ·refine Nat.le_trans (g9 k _) ?_
    have := (List.dropWhile_suffix (fun x : UInt8 => x != 10) (l := r)).length_le
    simp only [List.length_cons]
    omega
   ·exact zA0 _
theorem dE : ∀ (k : Nat) (b : Bytes) (c : UInt8) (r : Bytes), b.length <= k -> skip k b = c :: r -> blank c = false /\ c ≠ 59
 | 0, b, c, r, h, e => by
  rw [skip] at e
  subst e
  simp at h
 | k + 1, [], c, r, h, e => by rw [skip] at e; cases e
 | k + 1, x :: b, c, r, h, e => by
  rw [skip] at e
  split at e
  ·exact dE k b c r (by simp at h; omega) e
  ·split at e
   ·refine dE k _ c r ?_ e
    have := (List.dropWhile_suffix (fun x : UInt8 => x != 10) (l := b)).length_le
    simp at h
    omega
   ·rename_i h1 h2
    cases e
    exact ⟨by simpa using h1, h2⟩
theorem g7 {c : UInt8} {r : Bytes} (h : ends c = false) : (word (c :: r)).2.length < (c :: r).length := by
 unfold word
 show (List.dropWhile (fun c => !ends c) (c :: r)).length < (c :: r).length
 rw [List.dropWhile_cons, if_pos (by simp [h])]
 have := (List.dropWhile_suffix (fun x : UInt8 => !ends x) (l := r)).length_le
 simp only [List.length_cons]
 omega
theorem uI {c : UInt8} (h1 : blank c = false /\ c ≠ 59) (h2 : ¬ c = 40) (h3 : ¬ c = 39) (h4 : ¬ c = 41) : ends c = false := by
 unfold ends
 rw [h1.1]
 simp [h1.2, h2, h3, h4]
def eX (n : Nat) : RS -> Prop
 | .go b _ => b.length < n
 | .done _ b => b.length < n
 | .bad => True
theorem eX.mono {n m : Nat} (h : n <= m) : ∀ {s : RS}, eX n s -> eX m s
 | .go b st, x => Nat.lt_of_lt_of_le (show b.length < n from x) h
 | .done t b, x => Nat.lt_of_lt_of_le (show b.length < n from x) h
 | .bad, _ => trivial
theorem d7 {n : Nat} {b : Bytes} (h : b.length < n) : ∀ (st : List Fr) (t : Tree), eX n (bK b st t)
 | [], t => h
 | .quote :: st, t => d7 h st _
 | .list ps d :: st, t => h
theorem qu {n : Nat} {b : Bytes} (h : b.length < n) (st : List Fr) : eX n (dn b st) := by
 unfold dn
 split
 ·split
  ·exact d7 h _ _
  ·trivial
 ·trivial
theorem qG {n : Nat} {b : Bytes} (h : b.length < n) (st : List Fr) (w : Word) : eX n (ie b st w) := by
 cases w with
 | int z => exact d7 h _ _
 | nil => exact d7 h _ _
 | name z => exact d7 h _ _
 | bad => trivial
 | dot =>
  show eX n (gv b st)
  unfold gv
  split
  ·split
   ·trivial
   ·exact h
  ·trivial
theorem sZ {b : Bytes} {st : List Fr} (hb : ∀ c r, b = c :: r -> blank c = false /\ c ≠ 59) : eX b.length (kL st b) := by
 cases b with
 | nil => trivial
 | cons c r =>
  have h := hb c r rfl
  have hr : r.length < (c :: r).length := by simp
  rw [b9]
  split
  ·exact hr
  ·split
   ·exact hr
   ·split
    ·exact qu hr st
    ·rename_i h1 h2 h3
     exact qG (g7 (uI h h1 h2 h3)) st _
theorem jH (b : Bytes) (st : List Fr) : eX b.length (cz b st) :=
 (sZ fun c r e => dE _ b c r (zA0 _) e).mono (g9 _ _)
def Full : Fr -> Prop
 | .list ps (some n) => n + 1 <= ps.length
 | _ => False
def Over : Fr -> Prop
 | .list ps (some n) => n + 2 <= ps.length
 | _ => False
def BH : List Fr -> Prop
 | [] => False
 | f :: st => Over f \/ ∃ g ∈ st, Full g
theorem Over.full : ∀ {f : Fr}, Over f -> Full f
 | .list ps (some n), h => Nat.le_of_succ_le h
 | .list ps none, h => h
 | .quote, h => h
def An : RS -> Prop
 | .go _ st => BH st
 | .done _ _ => False
 | .bad => True
theorem gi {b : Bytes} : ∀ (st : List Fr) (t : Tree), (∃ g ∈ st, Full g) -> An (bK b st t)
 | [], t, ⟨g, hg, _⟩ => nomatch hg
 | .quote :: st, t, ⟨g, hg, hf⟩ => by
  refine gi st _ ⟨g, ?_, hf⟩
  rcases List.mem_cons.mp hg with e | h
  ·subst e; exact absurd hf (by intro z; exact z)
  ·exact h
 | .list ps d :: st, t, ⟨g, hg, hf⟩ => by
  show Over (.list (ps ++ [t]) d) \/ _
  rcases List.mem_cons.mp hg with e | h
  ·subst e
   cases d with
   | none => exact absurd hf (by intro z; exact z)
   | some n =>
    refine .inl ?_
    have : n + 1 <= ps.length := hf
    show n + 2 <= (ps ++ [t]).length
    simp
    omega
  ·exact .inr ⟨g, h, hf⟩
theorem jW {b : Bytes} {st : List Fr} (t : Tree) (h : BH st) : An (bK b st t) := by
 cases st with
 | nil => exact absurd h (by intro z; exact z)
 | cons f st =>
  rcases h with h | ⟨g, hg, hf⟩
  ·exact gi _ _ ⟨f, zA2, h.full⟩
  ·exact gi _ _ ⟨g, zA1 _ hg, hf⟩
theorem xD {b : Bytes} {st : List Fr} (h : BH st) : An (cz b st) := by
 unfold cz
 cases skip b.length b with
 | nil => trivial
 | cons c r =>
  rw [b9]
  have push : ∀ f, BH (f :: st) := fun f => by
   cases st with
   | nil => exact absurd h (by intro z; exact z)
   | cons g st =>
    rcases h with h | ⟨g', hg, hf⟩
    ·exact .inr ⟨g, zA2, h.full⟩
    ·exact .inr ⟨g', zA1 _ hg, hf⟩
  split
  ·exact push _
  ·split
   ·exact push _
   ·split
    ·unfold dn
     split
     ·rename_i ps d st
      split
      ·rename_i t q
       rcases h with h | h
       ·exfalso
        cases d with
        | none => exact h
        | some n =>
         have h : n + 2 <= ps.length := h
         have e : jy ps (some n) = none := if_pos (by omega)
         rw [e] at q
         cases q
       ·exact gi _ _ h
      ·trivial
     ·trivial
    ·generalize (wordOf (word (c :: r)).1) = w
     cases w with
     | int z => exact jW _ h
     | nil => exact jW _ h
     | name z => exact jW _ h
     | bad => trivial
     | dot =>
      show An (gv _ st)
      unfold gv
      split
      ·rename_i ps d st
       split
       ·trivial
       ·rename_i hn
        rcases h with h | h
        ·exfalso
         cases d with
         | none => exact h
         | some n => exact hn (.inr (by simp))
        ·exact .inr h
      ·trivial
theorem qp : ∀ (n : Nat) (b : Bytes) (st : List Fr), b.length <= n -> BH st -> Reads b st none
 | 0, b, st, hb, h => by
  have e : b = [] := List.eq_nil_of_length_eq_zero (by omega)
  subst e
  exact .bad rfl
 | n + 1, b, st, hb, h => by
  have d := xD (b := b) h
  have s := jH b st
  refine Reads.step ?_
  cases e : cz b st with
  | bad => rfl
  | done t r => rw [e] at d; exact d.elim
  | go b' gz =>
   rw [e] at d s
   have s : b'.length < b.length := s
   exact qp n b' gz (by omega) d
theorem nU (k : Nat) (b : Bytes) : object (k + 1) b = match skip b.length b with
  | [] => .none_
  | c :: r =>
   if c = 40 then rest k true r
   else if c = 41 then .bad
   else if c = 39 then (match object k r with
    | .ok t s => .ok (qt t) s
    | _ => .bad)
   else match wordOf (word (c :: r)).1 with
    | .int z => .ok (.int z) (word (c :: r)).2
    | .nil => .ok .nil (word (c :: r)).2
    | .name n => .ok (.name n) (word (c :: r)).2
    | _ => .bad := by rw [object]; rfl
theorem A5 (k : Nat) (first : Bool) (b : Bytes) : Sg02.rest (k + 1) first b = match skip b.length b with
  | [] => .bad
  | c :: r =>
   if c = 41 then .ok .nil r
   else if ends c = false /\ wordOf (word (c :: r)).1 = .dot then
    (if first = true then .bad
    else match object k (word (c :: r)).2 with
     | .ok t s => (match skip s.length s with
      | 41 :: u => .ok t u
      | _ => .bad)
     | _ => .bad)
   else match object k (c :: r) with
    | .ok t s => (match Sg02.rest k false s with
     | .ok d u => .ok (.pair t d) u
     | _ => .bad)
    | _ => .bad := by rw [Sg02.rest]; rfl
def NV : List Fr -> Prop
 | [] => True
 | .quote :: _ => True
 | .list ps (some n) :: _ => ps.length = n
 | .list _ none :: _ => False
theorem yE {b : Bytes} {st : List Fr} (h : NV st) : dn b st = .bad := by
 match st, h with
 | [], _ => rfl
 | .quote :: _, _ => rfl
 | .list ps (some n) :: st, h =>
  have h : ps.length = n := h
  have e : jy ps (some n) = none := if_pos (by omega)
  unfold dn
  simp only [e]
theorem D5 {b : Bytes} {st : List Fr} (h : NV st) : gv b st = .bad := by
 match st, h with
 | [], _ => rfl
 | .quote :: _, _ => rfl
 | .list ps (some n) :: st, h => exact if_pos (.inr (by simp))
def Gx (b : Bytes) : Prop := ∀ c r, skip b.length b = c :: r -> c ≠ 41 /\ ¬ (ends c = false /\ wordOf (word (c :: r)).1 = .dot)
def bC (b : Bytes) : Got -> Prop
 | .ok t r => r.length < b.length /\ ∀ st res, kz (bK r st t) res -> Reads b st res
 | .none_ => skip b.length b = []
 | .bad => skip b.length b ≠ [] /\ ∀ st, NV st \/ Gx b -> Reads b st none
def IB (b : Bytes) (first : Bool) : Got -> Prop
 | .ok d r => r.length < b.length /\ ∀ ps st res, first = ps.isEmpty -> kz (bK r st (chain ps d)) res -> Reads b (.list ps none :: st) res
 | .none_ => False
 | .bad => ∀ ps st, first = ps.isEmpty -> Reads b (.list ps none :: st) none
theorem lX {b : Bytes} {c : UInt8} {r : Bytes} (h : skip b.length b = c :: r) : skip (c :: r).length (c :: r) = c :: r := by
 have q := dE _ b c r (zA0 _) h
 show skip (r.length + 1) (c :: r) = c :: r
 rw [skip]
 simp only [q.1, q.2, if_false, Bool.false_eq_true]
theorem jU {b : Bytes} {c : UInt8} {r : Bytes} {st : List Fr} {res : Option (Tree × Bytes)} (h : skip b.length b = c :: r) (q : Reads (c :: r) st res) : Reads b st res := by
 have e : cz b st = cz (c :: r) st := by unfold cz; rw [h, lX h]
 cases q with
 | bad h => exact .bad (e.trans h)
 | done h => exact .done (e.trans h)
 | go h n => exact .go (e.trans h) n
theorem chain_snoc (ps : List Tree) (t d : Tree) : chain (ps ++ [t]) d = chain ps (.pair t d) := by
 unfold chain
 rw [List.foldr_append]
 rfl
theorem bg {b : Bytes} {c : UInt8} {r : Bytes} {st : List Fr} {res : Option (Tree × Bytes)} (h : skip b.length b = c :: r) (q : kz (kL st (c :: r)) res) : Reads b st res := by
 refine Reads.step ?_
 unfold cz
 rw [h]
 exact q
mutual
theorem gq : ∀ (k : Nat) (b : Bytes), 2 * b.length + 1 <= k -> bC b (object k b)
 | 0, b, h => by omega
 | k + 1, b, h => by
  rw [nU]
  cases e : skip b.length b with
  | nil => exact e
  | cons c r =>
   have hc := dE _ b c r (zA0 _) e
   have hl := g9 b.length b
   rw [e, List.length_cons] at hl
   dsimp only
   by_cases HZ : c = 40
   ·rw [if_pos HZ]
    have R := zy k true r (by omega)
    have first : ∀ st, kL st (c :: r) = .go r (.list [] none :: st) := fun st => by rw [b9, if_pos HZ]
    cases q : Sg02.rest k true r with
    | ok d s =>
     rw [q] at R
     refine ⟨by have := R.1; omega, fun st res hr => bg e ?_⟩
     rw [first]
     exact R.2 [] st res rfl hr
    | none_ => rw [q] at R; exact R.elim
    | bad =>
     rw [q] at R
     refine ⟨by rw [e]; simp, fun st _ => bg e ?_⟩
     rw [first]
     exact R [] st rfl
   ·rw [if_neg HZ]
    by_cases yq : c = 41
    ·rw [if_pos yq]
     refine ⟨by rw [e]; simp, fun st hs => bg e ?_⟩
     rcases hs with hs | hs
     ·rw [b9, if_neg HZ, if_neg (by rw [yq]; decide), if_pos yq, yE hs]
      exact rfl
     ·exact absurd yq (hs c r e).1
    ·rw [if_neg yq]
     by_cases Ky : c = 39
     ·rw [if_pos Ky]
      have O := gq k r (by omega)
      have first : ∀ st, kL st (c :: r) = .go r (.quote :: st) := fun st => by rw [b9, if_neg HZ, if_pos Ky]
      cases q : object k r with
      | ok t s =>
       rw [q] at O
       refine ⟨by have := O.1; omega, fun st res hr => bg e ?_⟩
       rw [first]
       exact O.2 (.quote :: st) res hr
      | none_ =>
       rw [q] at O
       refine ⟨by rw [e]; simp, fun st _ => bg e ?_⟩
       rw [first]
       refine Reads.step ?_
       unfold cz
       rw [show skip r.length r = [] from O]
       exact rfl
      | bad =>
       rw [q] at O
       refine ⟨by rw [e]; simp, fun st _ => bg e ?_⟩
       rw [first]
       exact O.2 (.quote :: st) (.inl trivial)
     ·rw [if_neg Ky]
      have he := uI hc HZ Ky yq
      have hw := g7 (r := r) he
      rw [List.length_cons] at hw
      have first : ∀ st, kL st (c :: r) = ie (word (c :: r)).2 st (wordOf (word (c :: r)).1) := fun st => by rw [b9, if_neg HZ, if_neg Ky, if_neg yq]
      cases q : wordOf (word (c :: r)).1 with
      | int z => exact ⟨by omega, fun st res hr => bg e (by rw [first, q]; exact hr)⟩
      | nil => exact ⟨by omega, fun st res hr => bg e (by rw [first, q]; exact hr)⟩
      | name z => exact ⟨by omega, fun st res hr => bg e (by rw [first, q]; exact hr)⟩
      | bad => exact ⟨by rw [e]; simp, fun st _ => bg e (by rw [first, q]; exact rfl)⟩
      | dot =>
       refine ⟨by rw [e]; simp, fun st hs => bg e ?_⟩
       rw [first, q]
       rcases hs with hs | hs
       ·show kz (gv _ st) none
        rw [D5 hs]
        exact rfl
       ·exact absurd ⟨he, q⟩ (hs c r e).2
theorem zy : ∀ (k : Nat) (first : Bool) (b : Bytes), 2 * b.length + 2 <= k -> IB b first (Sg02.rest k first b)
 | 0, first, b, h => by omega
 | k + 1, first, b, h => by
  rw [A5]
  cases e : skip b.length b with
  | nil =>
   intro ps st _
   refine Reads.step ?_
   unfold cz
   rw [e]
   exact rfl
  | cons c r =>
   have hc := dE _ b c r (zA0 _) e
   have hl := g9 b.length b
   rw [e, List.length_cons] at hl
   dsimp only
   by_cases yq : c = 41
   ·rw [if_pos yq]
    refine ⟨by omega, fun ps st res _ hr => bg e ?_⟩
    rw [b9, if_neg (by rw [yq]; decide), if_neg (by rw [yq]; decide), if_pos yq]
    exact hr
   ·rw [if_neg yq]
    by_cases hd : ends c = false /\ wordOf (word (c :: r)).1 = .dot
    ·rw [if_pos hd]
     have hw := g7 (r := r) hd.1
     rw [List.length_cons] at hw
     have Qm : ¬ c = 40 := fun z => by rw [z] at hd; exact absurd hd.1 (by decide)
     have Qn : ¬ c = 39 := fun z => by rw [z] at hd; exact absurd hd.1 (by decide)
     have tok : ∀ st, kL st (c :: r) = gv (word (c :: r)).2 st := fun st => by rw [b9, if_neg Qm, if_neg Qn, if_neg yq, hd.2]; rfl
     by_cases hf : first = true
     ·rw [if_pos hf]
      intro ps st hp
      refine bg e ?_
      rw [tok]
      have : ps = [] := by rw [hf] at hp; exact List.isEmpty_iff.mp hp.symm
      have e2 : gv (word (c :: r)).2 (.list ps none :: st) = .bad := if_pos (.inl this)
      rw [e2]
      exact rfl
     ·rw [if_neg hf]
      have Kt : ∀ ps st, first = ps.isEmpty -> gv (word (c :: r)).2 (.list ps none :: st) = .go (word (c :: r)).2 (.list ps (some ps.length) :: st) := fun ps st hp => by
       refine if_neg ?_
       rintro (z | z)
       ·rw [z] at hp; exact hf hp
       ·exact z rfl
      have O := gq k (word (c :: r)).2 (by omega)
      cases q : object k (word (c :: r)).2 with
      | none_ =>
       rw [q] at O
       intro ps st hp
       refine bg e ?_
       rw [tok, Kt ps st hp]
       refine Reads.step ?_
       unfold cz
       rw [show skip (word (c :: r)).2.length (word (c :: r)).2 = [] from O]
       exact rfl
      | bad =>
       rw [q] at O
       intro ps st hp
       refine bg e ?_
       rw [tok, Kt ps st hp]
       exact O.2 _ (.inl rfl)
      | ok t s =>
       rw [q] at O
       have O1 := O.1
       dsimp only
       cases e2 : skip s.length s with
       | nil =>
        intro ps st hp
        refine bg e ?_
        rw [tok, Kt ps st hp]
        refine O.2 _ _ ?_
        refine Reads.step ?_
        unfold cz
        rw [e2]
        exact rfl
       | cons x u =>
        have Lz := g9 s.length s
        rw [e2, List.length_cons] at Lz
        by_cases hx : x = 41
        ·subst hx
         refine ⟨by omega, fun ps st res hp hr => bg e ?_⟩
         rw [tok, Kt ps st hp]
         refine O.2 _ _ (bg e2 ?_)
         have e3 : kL (.list (ps ++ [t]) (some ps.length) :: st) (41 :: u) = bK u st (chain ps t) := by
          rw [b9, if_neg (by decide), if_neg (by decide), if_pos rfl]
          have e4 : jy (ps ++ [t]) (some ps.length) = some (chain ps t) := by
           show (if (ps ++ [t]).length ≠ ps.length + 1 then none else some (chain (ps ++ [t]).dropLast ((ps ++ [t]).getLast?.getD .nil))) = _
           rw [if_neg (by simp), List.dropLast_concat, List.getLast?_concat]
           rfl
          unfold dn
          simp only [e4]
         rw [e3]
         exact hr
        ·split
         ·rename_i z; cases z; exact absurd rfl hx
         ·intro ps st hp
          refine bg e ?_
          rw [tok, Kt ps st hp]
          refine O.2 _ _ ?_
          show Reads s (.list (ps ++ [t]) (some ps.length) :: st) none
          have full : Full (.list (ps ++ [t]) (some ps.length)) := by show ps.length + 1 <= (ps ++ [t]).length; simp
          have fin : ∀ (b' : Bytes) (gz : List Fr), BH gz -> Reads b' gz none := fun b' gz h => qp _ b' gz (zA0 _) h
          have putD : ∀ (b' : Bytes) (t' : Tree), kz (bK b' (.list (ps ++ [t]) (some ps.length) :: st) t') none := fun b' t' => by
           have := gi (b := b') (.list (ps ++ [t]) (some ps.length) :: st) t' ⟨_, zA2, full⟩
           exact fin _ _ this
          refine bg e2 ?_
          rw [b9]
          split
          ·exact fin _ _ (.inr ⟨_, zA2, full⟩)
          ·split
           ·exact fin _ _ (.inr ⟨_, zA2, full⟩)
           ·try rw [if_neg hx]
            generalize wordOf (word (x :: u)).1 = w
            cases w with
            | int z => exact putD _ _
            | nil => exact putD _ _
            | name z => exact putD _ _
            | bad => exact rfl
            | dot =>
             have e6 : gv (word (x :: u)).2 (.list (ps ++ [t]) (some ps.length) :: st) = .bad := if_pos (.inr (by simp))
             show kz (gv (word (x :: u)).2 (.list (ps ++ [t]) (some ps.length) :: st)) none
             rw [e6]
             exact rfl
    ·rw [if_neg hd]
     have O := gq k (c :: r) (by rw [List.length_cons]; omega)
     have ns : Gx (c :: r) := fun c' r' z => by
      rw [lX e] at z
      cases z
      exact ⟨yq, hd⟩
     cases q : object k (c :: r) with
     | none_ =>
      rw [q] at O
      have O : skip (c :: r).length (c :: r) = [] := O
      rw [lX e] at O
      cases O
     | bad =>
      rw [q] at O
      intro ps st hp
      exact jU e (O.2 _ (.inr ns))
     | ok t s =>
      rw [q] at O
      have O1 := O.1
      rw [List.length_cons] at O1
      have R := zy k false s (by omega)
      dsimp only
      have ne : ∀ ps : List Tree, false = (ps ++ [t]).isEmpty := fun ps => by simp
      cases q2 : Sg02.rest k false s with
      | none_ => rw [q2] at R; exact R.elim
      | bad =>
       rw [q2] at R
       intro ps st hp
       exact jU e (O.2 _ _ (R (ps ++ [t]) st (ne ps)))
      | ok d u =>
       rw [q2] at R
       have R1 := R.1
       refine ⟨by omega, fun ps st res hp hr => jU e (O.2 _ _ (R.2 (ps ++ [t]) st res (ne ps) ?_))⟩
       rw [chain_snoc]
       exact hr
end
def js : Got -> Option (Tree × Bytes)
 | .ok t r => some (t, r)
 | _ => none
theorem xF (b : Bytes) (h : skip b.length b ≠ []) : Reads b [] (js (Sg02.read b)) /\ Sg02.read b ≠ .none_ := by
 have O := gq (2 * b.length + 2) b (by omega)
 unfold Sg02.read
 cases q : object (2 * b.length + 2) b with
 | ok t r => rw [q] at O; exact ⟨O.2 [] _ rfl, by simp⟩
 | none_ => rw [q] at O; exact absurd O h
 | bad => rw [q] at O; exact ⟨O.2 [] (.inl trivial), by simp⟩
theorem A7 (b : Bytes) (h : skip b.length b = []) : Sg02.read b = .none_ := by
 unfold Sg02.read
 rw [nU, h]
theorem tV {b r : Bytes} {t : Tree} (h : Sg02.read b = .ok t r) : r.length < b.length := by
 have O := gq (2 * b.length + 2) b (by omega)
 unfold Sg02.read at h
 rw [h] at O
 exact O.1
end Lsp
namespace Lsp
open Sg02
def fW (ns : List Bytes) (b : Bytes) : List Bytes := if ns.contains b = true then ns else ns ++ [b]
noncomputable def mk : Tree -> List Bytes -> Heap -> List Bytes × Heap × Obj
 | .nil, ns, h => (ns, h, .nil)
 | .int z, ns, h => (ns, h, .int z)
 | .name b, ns, h => (fW ns b, h, .name ((fW ns b).idxOf b))
 | .pair a d, ns, h => ((mk d (mk a ns h).1 (mk a ns h).2.1).1, ((mk d (mk a ns h).1 (mk a ns h).2.1).2.1.cons (mk a ns h).2.2 (mk d (mk a ns h).1 (mk a ns h).2.1).2.2))
theorem vV (ns : List Bytes) (b : Bytes) : b ∈ fW ns b := by
 unfold fW
 split
 ·rename_i h; simpa using h
 ·simp
theorem wV (ns : List Bytes) (b : Bytes) : ns <+: fW ns b := by
 unfold fW
 split
 ·exact List.prefix_refl _
 ·exact List.prefix_append _ _
theorem jv : ∀ (t : Tree) (ns : List Bytes), ns <+: t.known ns
 | .nil, ns => List.prefix_refl _
 | .int z, ns => List.prefix_refl _
 | .name b, ns => wV ns b
 | .pair a d, ns => (jv a ns).trans (jv d _)
theorem zM (e : List Bytes) (b : Bytes) : ∀ ns : List Bytes, b ∈ ns -> (ns ++ e).idxOf b = ns.idxOf b
 | [], h => nomatch h
 | x :: r, h => by
  rw [List.cons_append, List.idxOf_cons, List.idxOf_cons]
  by_cases z : (x == b) = true
  ·rw [z]; rfl
  ·have z : (x == b) = false := by simpa using z
   rw [z]
   have h : b ∈ r := (List.mem_cons.mp h).elim (fun w => by rw [w] at z; simp at z) id
   show (r ++ e).idxOf b + 1 = r.idxOf b + 1
   rw [zM e b r h]
theorem Fi {ns l : List Bytes} {b : Bytes} (h : b ∈ ns) (p : ns <+: l) : l.idxOf b = ns.idxOf b := by
 obtain ⟨e, rfl⟩ := p
 exact zM e b ns h
theorem mk_eq : ∀ (t : Tree) (ns : List Bytes) (h : Heap) (l : List Bytes), t.known ns <+: l -> mk t ns h = (t.known ns, t.make l h)
 | .nil, ns, h, l, _ => rfl
 | .int z, ns, h, l, _ => rfl
 | .name b, ns, h, l, p => by
  have e : l.idxOf b = (fW ns b).idxOf b := Fi (vV ns b) p
  show (fW ns b, h, Obj.name ((fW ns b).idxOf b)) = (fW ns b, h, Obj.name (l.idxOf b))
  rw [e]
 | .pair a d, ns, h, l, p => by
  have p : d.known (a.known ns) <+: l := p
  have ea := mk_eq a ns h l ((jv d _).trans p)
  have ed := mk_eq d (a.known ns) (a.make l h).1 l p
  show ((mk d (mk a ns h).1 (mk a ns h).2.1).1, ((mk d (mk a ns h).1 (mk a ns h).2.1).2.1.cons (mk a ns h).2.2 (mk d (mk a ns h).1 (mk a ns h).2.1).2.2)) = _
  rw [ea]
  dsimp only
  rw [ed]
  rfl
noncomputable def bw : List Tree -> List Bytes -> Heap -> List Bytes × Heap × List Obj
 | [], ns, h => (ns, h, [])
 | t :: ts, ns, h => ((bw ts (mk t ns h).1 (mk t ns h).2.1).1, (bw ts (mk t ns h).1 (mk t ns h).2.1).2.1, (mk t ns h).2.2 :: (bw ts (mk t ns h).1 (mk t ns h).2.1).2.2)
theorem kf : ∀ (ps : List Tree) (t : Tree) (ns : List Bytes) (h : Heap), bw (ps ++ [t]) ns h = ((mk t (bw ps ns h).1 (bw ps ns h).2.1).1, (mk t (bw ps ns h).1 (bw ps ns h).2.1).2.1, (bw ps ns h).2.2 ++ [(mk t (bw ps ns h).1 (bw ps ns h).2.1).2.2])
 | [], t, ns, h => rfl
 | p :: ps, t, ns, h => by
  show ((bw (ps ++ [t]) (mk p ns h).1 (mk p ns h).2.1).1, (bw (ps ++ [t]) (mk p ns h).1 (mk p ns h).2.1).2.1, (mk p ns h).2.2 :: (bw (ps ++ [t]) (mk p ns h).1 (mk p ns h).2.1).2.2) = _
  rw [kf ps t]
  rfl
theorem gs : ∀ (ps : List Tree) (ns : List Bytes) (h : Heap), (bw ps ns h).2.2.length = ps.length
 | [], _, _ => rfl
 | p :: ps, ns, h => by
  show ((mk p ns h).2.2 :: (bw ps (mk p ns h).1 (mk p ns h).2.1).2.2).length = _
  rw [List.length_cons, gs ps, List.length_cons]
theorem pZ : ∀ (ps : List Tree) (d : Tree) (ns : List Bytes) (h : Heap), mk (chain ps d) ns h = ((mk d (bw ps ns h).1 (bw ps ns h).2.1).1, df (mk d (bw ps ns h).1 (bw ps ns h).2.1).2.1 (bw ps ns h).2.2 (mk d (bw ps ns h).1 (bw ps ns h).2.1).2.2)
 | [], d, ns, h => rfl
 | p :: ps, d, ns, h => by
  have ih := pZ ps d (mk p ns h).1 (mk p ns h).2.1
  show ((mk (chain ps d) (mk p ns h).1 (mk p ns h).2.1).1, ((mk (chain ps d) (mk p ns h).1 (mk p ns h).2.1).2.1.cons (mk p ns h).2.2 (mk (chain ps d) (mk p ns h).1 (mk p ns h).2.1).2.2)) = _
  rw [ih]
  rfl
theorem zL (b : Bytes) : ∀ ns : List Bytes, b ∈ ns -> ns[ns.idxOf b]? = some b
 | [], h => nomatch h
 | x :: r, h => by
  rw [List.idxOf_cons]
  by_cases z : (x == b) = true
  ·rw [z]
   show some x = some b
   rw [eq_of_beq z]
  ·have z : (x == b) = false := by simpa using z
   rw [z]
   have h : b ∈ r := (List.mem_cons.mp h).elim (fun w => by rw [w] at z; simp at z) id
   show (x :: r)[r.idxOf b + 1]? = some b
   rw [List.getElem?_cons_succ]
   exact zL b r h
theorem Hs : ∀ (t : Tree) (ns : List Bytes) (h : Heap), ns <+: (mk t ns h).1
 | t, ns, h => by rw [mk_eq t ns h _ (List.prefix_refl _)]; exact jv t ns
theorem sv : ∀ (ps : List Tree) (ns : List Bytes) (h : Heap), ns <+: (bw ps ns h).1
 | [], ns, h => List.prefix_refl _
 | p :: ps, ns, h => (Hs p ns h).trans (sv ps _ _)
theorem tY {ns l : List Bytes} (p : ns <+: l) {n : Nat} {b : Bytes} (h : ns[n]? = some b) : l[n]? = some b := by
 obtain ⟨e, rfl⟩ := p
 obtain ⟨hl, _⟩ := List.getElem?_eq_some_iff.mp h
 rw [List.getElem?_append_left hl]
 exact h
def sk (b : Bytes) : Bytes := skip b.length b
theorem lY : ∀ (k j : Nat) (b : Bytes), b.length <= k -> b.length <= j -> skip k b = skip j b
 | 0, j, b, hk, _ => by
  have : b = [] := List.eq_nil_of_length_eq_zero (by omega)
  subst this
  cases j <;> rfl
 | k + 1, 0, b, _, hj => by
  have : b = [] := List.eq_nil_of_length_eq_zero (by omega)
  subst this
  rfl
 | k + 1, j + 1, [], _, _ => rfl
 | k + 1, j + 1, c :: r, hk, hj => by
  have hk : r.length <= k := by simpa using hk
  have hj : r.length <= j := by simpa using hj
  rw [skip, skip]
  have d := (List.dropWhile_suffix (fun x : UInt8 => x != 10) (l := r)).length_le
  rw [lY k j r hk hj, lY k j _ (by omega) (by omega)]
theorem kR (c : UInt8) (r : Bytes) : sk (c :: r) = if blank c = true then sk r else if c = 59 then sk (r.dropWhile fun x => x != 10) else c :: r := by
 show skip (r.length + 1) (c :: r) = _
 rw [skip]
 have d := (List.dropWhile_suffix (fun x : UInt8 => x != 10) (l := r)).length_le
 unfold sk
 rw [lY r.length (r.dropWhile fun x => x != 10).length (r.dropWhile fun x => x != 10) d (Nat.le_refl _)]
def Eb (b : Bool) (r : Bytes) : Bytes := if b = true then sk (r.dropWhile fun x => x != 10) else sk r
theorem Ct (b : Bool) (r : Bytes) : Eb b (59 :: r) = Eb true r := by
 cases b with
 | true => show sk (List.dropWhile _ (59 :: r)) = sk _; rfl
 | false => show sk (59 :: r) = _; rw [kR]; rfl
theorem GB (b : Bool) (r : Bytes) : Eb b (10 :: r) = Eb false r := by
 cases b with
 | true => show sk (List.dropWhile _ (10 :: r)) = sk r; rw [show (List.dropWhile (fun x : UInt8 => x != 10) (10 :: r)) = 10 :: r from rfl, kR]; rfl
 | false => show sk (10 :: r) = sk r; rw [kR]; rfl
theorem A3 (b : Bool) (c : UInt8) (r : Bytes) (h : b = true \/ blank c = true) (h1 : c ≠ 59) (h2 : c ≠ 10) : Eb b (c :: r) = Eb b r := by
 cases b with
 | true =>
  show sk (List.dropWhile _ (c :: r)) = sk _
  rw [List.dropWhile_cons, if_pos (by simpa using h2)]
 | false =>
  have h : blank c = true := h.elim (fun z => by cases z) id
  show sk (c :: r) = sk r
  rw [kR, if_pos h]
theorem Cs (c : UInt8) (r : Bytes) (h : blank c = false) (h1 : c ≠ 59) : Eb false (c :: r) = c :: r := by
 show sk (c :: r) = _
 rw [kR, if_neg (by simp [h]), if_neg h1]
theorem A8 {ns : List Bytes} (k : ns[0]? = known[0]?) : ns.contains (ascii "quote") = true /\ ns.idxOf (ascii "quote") = 0 := by
 cases ns with
 | nil => cases k
 | cons b r =>
  have : b = ascii "quote" := Option.some.inj k
  subst this
  exact ⟨by simp, by simp⟩
theorem CP {ns : List Bytes} (k : ns[0]? = known[0]?) (t : Tree) (h : Heap) : mk (qt t) ns h = ((mk t ns h).1, ((mk t ns h).2.1.cons (mk t ns h).2.2 .nil).1.cons (.name 0) ((mk t ns h).2.1.cons (mk t ns h).2.2 .nil).2) := by
 obtain ⟨h1, h2⟩ := A8 k
 have e : fW ns (ascii "quote") = ns := by unfold fW; rw [if_pos h1]
 show ((mk (.pair t .nil) (fW ns (ascii "quote")) h).1, ((mk (.pair t .nil) (fW ns (ascii "quote")) h).2.1.cons (.name ((fW ns (ascii "quote")).idxOf (ascii "quote"))) (mk (.pair t .nil) (fW ns (ascii "quote")) h).2.2)) = _
 rw [e, h2]
 rfl
end Lsp
namespace Lsp
open Sg02
def n9 (b : Bytes) : Bytes := if b.head? = some 45 then b.tail else b
def rh (b : Bytes) : Bool := decide (n9 b ≠ []) && (n9 b).all fun c => decide (48 <= c) && decide (c <= 57)
def DY (b : Bytes) : Int := if b.head? = some 45 then -(value (n9 b) : Int) else (value (n9 b) : Int)
def CS (b : Bytes) : Bool := b.all fun c => decide (33 <= c) && decide (c <= 126)
theorem vM (b : Bytes) : rh b = digits (n9 b) := by
 unfold rh digits
 cases n9 b with
 | nil => rfl
 | cons c r => rfl
theorem BQ {b : Bytes} (h : 15 < b.length \/ b.head? = some 35 \/ CS b = false) : wordOf b = .bad := by
 unfold wordOf
 rw [if_pos]
 rcases h with h | h | h
 ·exact .inl h
 ·exact .inr (.inr (.inl h))
 ·exact .inr (.inr (.inr h))
theorem Ek {b : Bytes} (n : b ≠ []) (nd : b ≠ [46]) (h : ¬ 15 < b.length) (h1 : ¬ b.head? = some 35) (h2 : ¬ CS b = false) : wordOf b = if rh b = true then (if inRange (DY b) = true then .int (DY b) else .bad) else if b = ascii "nil" then .nil else .name b := by
 have c : ¬ (15 < b.length \/ b = [] \/ b.head? = some 35 \/ (b.all fun c => decide (33 <= c) && decide (c <= 126)) = false) := by
  rintro (z | z | z | z)
  ·exact h z
  ·exact n z
  ·exact h1 z
  ·exact h2 z
 unfold wordOf
 rw [if_neg c, if_neg nd, vM]
 unfold DY n9
 by_cases m : b.head? = some 45
 ·have d0 : digits b = false := by
   cases b with
   | nil => exact absurd rfl n
   | cons x r =>
    have : x = 45 := Option.some.inj m
    subst this
    rfl
  simp only [m, d0, if_true, if_false, true_and, Bool.false_eq_true]
 ·simp only [m, if_false, false_and]
theorem xi (l : Bytes) (c : UInt8) : value (l ++ [c]) = 10 * value l + (c.toNat - 48) := by
 unfold value
 rw [List.foldl_append]
 rfl
theorem FL (a b : UInt8) : (a <= b) = (a.toNat <= b.toNat) := propext UInt8.le_iff_toNat_le
theorem CQ (c : UInt8) : (decide (33 <= c) && decide (c <= 126)) = (decide ((33 : Int) <= (c.toNat : Int)) && decide ((c.toNat : Int) <= 126)) := by
 simp only [FL]
 have e1 : (33 : UInt8).toNat = 33 := rfl
 have e2 : (126 : UInt8).toNat = 126 := rfl
 rw [e1, e2]
 congr 1 <;> exact decide_eq_decide.mpr (by omega)
theorem wF (c : UInt8) : (decide (48 <= c) && decide (c <= 57)) = (decide ((48 : Int) <= (c.toNat : Int)) && decide ((c.toNat : Int) <= 57)) := by
 simp only [FL]
 have e1 : (48 : UInt8).toNat = 48 := rfl
 have e2 : (57 : UInt8).toNat = 57 := rfl
 rw [e1, e2]
 congr 1 <;> exact decide_eq_decide.mpr (by omega)
theorem sW (c : UInt8) (n : Nat) (h : n < 256) : ((c.toNat : Int) = (n : Int)) ↔ c = UInt8.ofNat n := by
 constructor
 ·intro z
  apply UInt8.toNat_inj.mp
  rw [UInt8.toNat_ofNat_of_lt' h]
  omega
 ·intro z
  rw [z, UInt8.toNat_ofNat_of_lt' h]
theorem drop_cons {T : Bytes} {n : Nat} {c : UInt8} (h : T[n]? = some c) : T.drop n = c :: T.drop (n + 1) := by
 obtain ⟨hl, e⟩ := List.getElem?_eq_some_iff.mp h
 rw [List.drop_eq_getElem_cons hl, e]
theorem Az (r : Bytes) : r = r.takeWhile (fun c => !ends c) ++ r.dropWhile (fun c => !ends c) := (List.takeWhile_append_dropWhile ..).symm
end Lsp
namespace Lsp
open PySem Spec PyProof.Rows L2
def tv (T : Sg02.Bytes) : List V := (bz T).map V.int
theorem b5 (T : Sg02.Bytes) : (tv T).length = T.length := by unfold tv bz; simp
theorem G0 {T : Sg02.Bytes} {k : Nat} {c : UInt8} (h : T[k]? = some c) : (tv T)[k]? = some (.int (c.toNat : Nat)) := by unfold tv bz; simp [h]
theorem sX {T : Sg02.Bytes} {k : Nat} {x : V} (h : (tv T)[k]? = some x) : ∃ c, T[k]? = some c /\ x = .int (c.toNat : Nat) := by
 unfold tv bz at h
 rw [List.map_map, List.getElem?_map] at h
 obtain ⟨c, h1, h2⟩ := Option.map_eq_some_iff.mp h
 exact ⟨c, h1, h2.symm⟩
theorem kK {T : Sg02.Bytes} {k : Nat} {c : UInt8} (h : T[k]? = some c) : gY (tv T) (k : Nat) = some (.int (c.toNat : Nat)) := eW (G0 h)
theorem lV (a b : Sg02.Bytes) : tv (a ++ b) = tv a ++ tv b := by unfold tv bz; simp
theorem eU (c : UInt8) (n : Nat) (h : n < 256) : decide (V.int (c.toNat : Nat) = V.int (n : Nat)) = decide (c = UInt8.ofNat n) :=
 decide_eq_decide.mpr ⟨fun z => (sW c n h).mp (by injection z), fun z => by rw [(sW c n h).mpr z]⟩
theorem cg (c : UInt8) (n : Nat) (h : n < 256) : rF (.int (n : Nat)) (.int (c.toNat : Nat)) = (c == UInt8.ofNat n) := by
 show ((n : Int) == (c.toNat : Int)) = _
 by_cases e : c = UInt8.ofNat n
 ·have := (sW c n h).mpr e
  rw [this, e]
  simp
 ·have : ¬ (c.toNat : Int) = n := fun z => e ((sW c n h).mp z)
  have h1 : ((n : Int) == (c.toNat : Int)) = false := by simpa using fun z : (n : Int) = (c.toNat : Int) => this z.symm
  rw [h1]
  simpa using e
theorem Be (c : UInt8) : Lr (.int (c.toNat : Nat)) (([32, 9, 10, 13] : List Int).map V.int) = Sg02.blank c := by
 show (rF (.int (32 : Nat)) _ || (rF (.int (9 : Nat)) _ || (rF (.int (10 : Nat)) _ || (rF (.int (13 : Nat)) _ || false)))) = _
 rw [cg c 32 (by decide), cg c 9 (by decide), cg c 10 (by decide), cg c 13 (by decide)]
 unfold Sg02.blank
 rw [Bool.or_false, Bool.or_assoc, Bool.or_assoc]
 rfl
theorem Fh (c : UInt8) : Lr (.int (c.toNat : Nat)) (([32, 9, 10, 13, 40, 41, 39, 59] : List Int).map V.int) = Sg02.ends c := by
 show (rF (.int (32 : Nat)) _ || (rF (.int (9 : Nat)) _ || (rF (.int (10 : Nat)) _ || (rF (.int (13 : Nat)) _ || (rF (.int (40 : Nat)) _ || (rF (.int (41 : Nat)) _ || (rF (.int (39 : Nat)) _ || (rF (.int (59 : Nat)) _ || false)))))))) = _
 rw [cg c 32 (by decide), cg c 9 (by decide), cg c 10 (by decide), cg c 13 (by decide), cg c 40 (by decide), cg c 41 (by decide), cg c 39 (by decide), cg c 59 (by decide)]
 unfold Sg02.ends Sg02.blank
 simp only [List.contains_cons, List.contains_nil, Bool.or_false, Bool.or_assoc]
 rfl
theorem rH {G S : Prop} {b : Bool} (h1 : b = true -> G) (h2 : b = false -> S) : if b = true then G else S := by
 cases b with
 | true => exact aZ (h1 rfl)
 | false => exact aM (h2 rfl)
theorem B5 {G S : Prop} {b : Bool} (h1 : b = false -> G) (h2 : b = true -> S) : if (!b) = true then G else S := by
 cases b with
 | true => exact aM (h2 rfl)
 | false => exact aZ (h1 rfl)
theorem Pe {G S : Prop} {b b' : Bool} (e : b = b') (h1 : b' = true -> G) (h2 : b' = false -> S) : if b = true then G else S := by
 subst e
 exact rH h1 h2
structure yP (K : W.Frag) (mg : Str -> Option Value) (lT lS cp cu : Addr) : Prop where
 lf : cv mg "LINE_FEED" 10
 Ru : cv mg "APOSTROPHE" 39
 Mv : cv mg "OPENING_reader" 40
 cls : cv mg "CLOSING_reader" 41
 semi : cv mg "SEMICOLON" 59
 bl : oV K mg "BLANKS" lT [32, 9, 10, 13]
 en : oV K mg "WORD_ENDS" lS [32, 9, 10, 13, 40, 41, 39, 59]
 low : cv mg "LOWEST_IN_WORD" 33
 high : cv mg "HIGHEST_IN_WORD" 126
 long : cv mg "LONGEST_WORD" 15
 hash : cv mg "HASH_reader" 35
 minus : cv mg "MINUS" 45
 zero : cv mg "ZERO" 48
 nine : cv mg "NINE" 57
 dot : oV K mg "WORD_DOT" cp [46]
 nil : oV K mg "WORD_NIL_reader" cu [110, 105, 108]
 fV : mg "len" = none
 F8 : mg "all" = none
 Iv : mg "tuple" = none
section
variable {P : Program} {w : World} {A : Ad} {K : W.Frag} {mg : Str -> Option Value} {base : Heap} {lT lS cp cu : Addr}
def tD (K : W.Frag) : Sp := fun vs H Q _ => ∃ (tl : Addr) (T : Sg02.Bytes) (n : Nat), vs = [.ref tl, .int (n : Nat)] /\ eu K H tl (tv T) /\ n <= T.length /\ Q (.int ((T.length - (sk (T.drop n)).length : Nat) : Int)) H
theorem cf : aq ["text", "at", "in_comment"] ["text", "at"] (aj fc) := bQ
theorem o5 (T : FT K mg "after_blanks" "after_blanks" fc ["text", "at"]) (C : yP K mg lT lS cp cu) : aX P w K mg base 1 "after_blanks" ["text", "at"] (tD K) := by
 refine T.ok cf (fun vs H Q E h => by obtain ⟨_, _, _, rfl, _⟩ := h; rfl) fun f aU A' outer s H vs Q E hr h => ?_
 obtain ⟨tl, T, n, rfl, hS, hn, q⟩ := h
 obtain ⟨u1, m1, r1⟩ := C.semi
 obtain ⟨u2, m2, r2⟩ := C.lf
 refine ⟨_, af (aJ (i := 2) cf.nd rfl (Or.inl rfl) vC)
  (af (d8 PassesOwn.leaving (pK (aA pQ (pv 1) (a7 a9 (by rfl) C.fV PySem.boot_len (aa (pv 0) ag)) (aH _)) (ll (lj (bc (pv 2)) (lj (aA AF (aB a5 (pv 0) (pv 1) (fun _ _ => rfl)) (ax (v := .ref lT) (by rfl) C.bl.yc rfl) (by rfl)) (jV (aA dC (aB a5 (pv 0) (pv 1) (fun _ _ => rfl)) (ax (by rfl) m1 r1) (aH _))))).pt)).pt
   (af (aL (aA dC (aB a5 (pv 0) (pv 1) (fun _ _ => rfl)) (ax (by rfl) m1 r1) (aH _)) (ae (aJ (i := 2) cf.nd rfl (Or.inl rfl) vC))
    (ae (aL (aA dC (aB a5 (pv 0) (pv 1) (fun _ _ => rfl)) (ax (by rfl) m2 r2) (aH _)) (ae (aJ (i := 2) cf.nd rfl (Or.inl rfl) vC)) aG)))
   (ae (xI (i := 1) cf.nd rfl (Or.inl rfl) aw yh))))
  (ae (a6 (pv 1)))), ?_⟩
 refine ⟨fun m σ H' => H' = H /\ ∃ (k : Nat) (b : Bool), σ = [some (.ref tl), some (.int (k : Nat)), some (.bl b)] /\ k <= T.length /\ m = T.length - k /\ Eb b (T.drop k) = sk (T.drop n), ⟨_, rfl, n, false, rfl, hn, rfl, rfl⟩, ?_⟩
 rintro m σ H' ⟨rfl, k, b, rfl, hk, rfl, he⟩
 refine ⟨_, rfl, _, rfl, tl, _, rfl, .inl hS, _, _, rfl, rfl, _, rfl, ?_⟩
 rw [b5]
 by_cases hW : k < T.length
 ·rw [decide_eq_true (show ((k : Nat) : Int) < (T.length : Nat) by omega)]
  obtain ⟨c, hc⟩ : ∃ c, T[k]? = some c := ⟨_, List.getElem?_eq_getElem hW⟩
  have hd := drop_cons hc
  rw [hd] at he
  refine aZ ⟨_, rfl, b, rfl, rH (fun hb => ?_) fun hb => ⟨_, rfl, _, rfl, tl, _, _, _, rfl, rfl, hS, kK hc, lT, _, rfl, .inr (.inr C.bl.tup), rfl, rfl, _, rfl, Pe (Be c) (fun OU => ?_) fun OU => ⟨_, rfl, _, rfl, tl, _, _, _, rfl, rfl, hS, kK hc, rfl, _, rfl, Pe (eU c 59 (by decide)) (fun Np => ?_) fun Np => ?exit⟩⟩⟩
  case exit =>
   subst hb
   have IT : c ≠ 59 := by simpa using Np
   rw [Cs c _ OU IT] at he
   refine ⟨_, rfl, ?_⟩
   rw [<- he, List.length_cons, List.length_drop] at q
   rw [show T.length - (T.length - (k + 1) + 1) = k by omega] at q
   exact q
  all_goals
   have go : b = true \/ Sg02.blank c = true \/ c = 59 := by first | exact .inl (by assumption) | exact .inr (.inl (by assumption)) | exact .inr (.inr (by simpa using Np))
   refine ⟨fun σ' DU => DU = H' /\ ∃ b', σ' = [some (.ref tl), some (.int ((k + 1 : Nat) : Int)), some (.bl b')] /\ Eb b' (T.drop (k + 1)) = sk (T.drop n), (fun σ' DU ⟨e, b', e2, e3⟩ => ⟨T.length - (k + 1), by omega, e, k + 1, b', e2, by omega, rfl, e3⟩), ?_⟩
   refine ⟨_, rfl, _, rfl, tl, _, _, _, rfl, rfl, hS, kK hc, rfl, _, rfl, ?_⟩
   show if (decide (V.int (c.toNat : Nat) = V.int (59 : Nat))) = true then _ else _
   rw [eU c 59 (by decide)]
   refine rH (fun N9 => ⟨_, rfl, _, _, rfl, rfl, rfl, true, rfl, ?_⟩) fun IT => ⟨_, rfl, _, rfl, tl, _, _, _, rfl, rfl, hS, kK hc, rfl, _, rfl, ?_⟩
   ·have N9 : c = 59 := by simpa using N9
    rw [N9, Ct] at he
    exact he
   ·have IT : c ≠ 59 := by simpa using IT
    show if (decide (V.int (c.toNat : Nat) = V.int (10 : Nat))) = true then _ else _
    rw [eU c 10 (by decide)]
    refine rH (fun NB => ⟨_, rfl, _, _, rfl, rfl, rfl, false, rfl, ?_⟩) fun MC => ⟨_, rfl, _, _, rfl, rfl, rfl, b, rfl, ?_⟩
    ·have NB : c = 10 := by simpa using NB
     rw [NB, GB] at he
     exact he
    ·have MC : c ≠ 10 := by simpa using MC
     rw [A3 b c _ (go.imp id fun z => z.elim id fun z => absurd z IT) IT MC] at he
     exact he
 ·rw [decide_eq_false (show ¬ ((k : Nat) : Int) < (T.length : Nat) by omega)]
  refine aM (aM ⟨_, rfl, ?_⟩)
  have e : T.drop k = [] := List.drop_eq_nil_of_le (by omega)
  rw [e] at he
  have e2 : Eb b [] = [] := by cases b <;> rfl
  rw [<- he, e2] at q
  rw [show T.length - ([] : Sg02.Bytes).length = k by simp; omega] at q
  exact q
def Cp (K : W.Frag) : Sp := fun vs H Q _ => ∃ (tl : Addr) (T : Sg02.Bytes) (n : Nat), vs = [.ref tl, .int (n : Nat)] /\ eu K H tl (tv T) /\ n <= T.length /\ Q (.int ((T.length - ((T.drop n).dropWhile fun c => !Sg02.ends c).length : Nat) : Int)) H
theorem iu : aq ["text", "at"] ["text", "at"] (aj fO) := bQ
theorem pS (T : FT K mg "end_of_word" "end_of_word" fO ["text", "at"]) (C : yP K mg lT lS cp cu) : aX P w K mg base 1 "end_of_word" ["text", "at"] (Cp K) := by
 refine T.ok iu (fun vs H Q E h => by obtain ⟨_, _, _, rfl, _⟩ := h; rfl) fun f aU A' outer s H vs Q E hr h => ?_
 obtain ⟨tl, T, n, rfl, hS, hn, q⟩ := h
 refine ⟨_, af (d8 PassesOwn.leaving (pK (aA pQ (pv 1) (a7 a9 (by rfl) C.fV PySem.boot_len (aa (pv 0) ag)) (aH _)) (ll (aA uh (aB a5 (pv 0) (pv 1) (fun _ _ => rfl)) (ax (v := .ref lS) (by rfl) C.en.yc rfl) (by rfl)))).pt
   (ae (xI (i := 1) iu.nd rfl (Or.inl rfl) aw yh)))
  (ae (a6 (pv 1))), ?_⟩
 refine ⟨fun m σ H' => H' = H /\ ∃ (k : Nat), σ = [some (.ref tl), some (.int (k : Nat))] /\ k <= T.length /\ m = T.length - k /\ (T.drop k).dropWhile (fun c => !Sg02.ends c) = (T.drop n).dropWhile (fun c => !Sg02.ends c), ⟨_, rfl, n, rfl, hn, rfl, rfl⟩, ?_⟩
 rintro m σ H' ⟨rfl, k, rfl, hk, rfl, he⟩
 refine ⟨_, rfl, _, rfl, tl, _, rfl, .inl hS, _, _, rfl, rfl, _, rfl, ?_⟩
 rw [b5]
 by_cases hW : k < T.length
 ·rw [decide_eq_true (show ((k : Nat) : Int) < (T.length : Nat) by omega)]
  obtain ⟨c, hc⟩ : ∃ c, T[k]? = some c := ⟨_, List.getElem?_eq_getElem hW⟩
  have hd := drop_cons hc
  rw [hd, List.dropWhile_cons] at he
  refine aZ ⟨_, rfl, _, rfl, tl, _, _, _, rfl, rfl, hS, kK hc, lS, _, rfl, .inr (.inr C.en.tup), rfl, rfl, _, rfl, ?_⟩
  rw [if_pos rfl, Fh]
  refine B5 (fun hb => ?_) fun hb => ?_
  ·rw [hb] at he
   have he : List.dropWhile (fun c => !Sg02.ends c) (List.drop (k + 1) T) = _ := he
   exact ⟨fun σ' DU => DU = H' /\ σ' = [some (.ref tl), some (.int ((k + 1 : Nat) : Int))], (fun σ' DU ⟨e, e2⟩ => ⟨T.length - (k + 1), by omega, e, k + 1, e2, by omega, rfl, he⟩), _, rfl, _, _, rfl, rfl, rfl, rfl⟩
  ·rw [hb] at he
   have he : c :: List.drop (k + 1) T = _ := he
   refine ⟨_, rfl, ?_⟩
   rw [<- he, List.length_cons, List.length_drop, show T.length - (T.length - (k + 1) + 1) = k by omega] at q
   exact q
 ·rw [decide_eq_false (show ¬ ((k : Nat) : Int) < (T.length : Nat) by omega)]
  refine aM (aM ⟨_, rfl, ?_⟩)
  have e : T.drop k = [] := List.drop_eq_nil_of_le (by omega)
  rw [e] at he
  rw [<- he] at q
  rw [show T.length - (List.dropWhile (fun c => !Sg02.ends c) ([] : Sg02.Bytes)).length = k by simp; omega] at q
  exact q
end
end Lsp
namespace Lsp
open Sg02
theorem D7 (n : Nat) : (Nat.digitChar n).toNat < 128 := by
 by_cases h : n < 16
 ·have : ∀ m : Fin 16, (Nat.digitChar m.val).toNat < 128 := by decide
  exact this ⟨n, h⟩
 ·have e : Nat.digitChar n = '*' := by
   unfold Nat.digitChar
   repeat rw [if_neg (by omega)]
  rw [e]
  decide
theorem Ab : ∀ (f n : Nat) (ds : List Char), (∀ c ∈ ds, c.toNat < 128) -> ∀ c ∈ Nat.toDigitsCore 10 f n ds, c.toNat < 128
 | 0, n, ds, h => by unfold Nat.toDigitsCore; exact h
 | f + 1, n, ds, h => by
  have hd : ∀ c ∈ Nat.digitChar (n % 10) :: ds, c.toNat < 128 := fun c hc => (List.mem_cons.mp hc).elim (fun z => by rw [z]; exact D7 _) (h c)
  unfold Nat.toDigitsCore
  simp only
  split
  ·exact hd
  ·exact Ab f _ _ hd
theorem Bz (n : Nat) : ∀ c ∈ Nat.toDigits 10 n, c.toNat < 128 := Ab _ _ _ (by simp)
theorem wH : ∀ (f k n : Nat) (ds : List Char), n < 10 ^ (k + 1) -> (Nat.toDigitsCore 10 f n ds).length <= k + 1 + ds.length
 | 0, k, n, ds, h => by unfold Nat.toDigitsCore; omega
 | f + 1, k, n, ds, h => by
  unfold Nat.toDigitsCore
  simp only
  split
  ·rw [List.length_cons]; omega
  ·rename_i hz
   cases k with
   | zero =>
    exfalso
    apply hz
    have : n < 10 := by simpa using h
    omega
   | succ k =>
    have h2 : n / 10 < 10 ^ (k + 1) := by
     rw [Nat.div_lt_iff_lt_mul (by decide)]
     rw [Nat.pow_succ] at h
     exact h
    have := wH f k (n / 10) (Nat.digitChar (n % 10) :: ds) h2
    rw [List.length_cons] at this
    omega
theorem yB (n : Nat) : Nat.toDigits 10 n ≠ [] := by
 have : ∀ (f n : Nat) (ds : List Char), ds ≠ [] -> Nat.toDigitsCore 10 f n ds ≠ [] := by
  intro f
  induction f with
  | zero => intro n ds h; unfold Nat.toDigitsCore; exact h
  | succ f ih =>
   intro n ds h
   unfold Nat.toDigitsCore
   simp only
   split
   ·simp
   ·exact ih _ _ (by simp)
 unfold Nat.toDigits
 unfold Nat.toDigitsCore
 simp only
 split
 ·simp
 ·exact this _ _ _ (by simp)
theorem qI (z : Int) : (toString z).toList = (if z < 0 then ['-'] else []) ++ Nat.toDigits 10 z.natAbs := by
 cases z with
 | ofNat n =>
  rw [if_neg (by simp)]
  show (toString n).toList = [] ++ Nat.toDigits 10 n
  show (Nat.repr n).toList = Nat.toDigits 10 n
  unfold Nat.repr
  simp
 | negSucc n =>
  rw [if_pos (by exact Int.negSucc_lt_zero n)]
  show ("-" ++ Nat.repr (n + 1)).toList = ['-'] ++ Nat.toDigits 10 (n + 1)
  unfold Nat.repr
  simp
theorem wG (z : Int) : (decimal z).map UInt8.toNat = (toString z).toList.map Char.toNat := by
 rw [qI]
 unfold decimal
 rw [List.map_append, List.map_append]
 congr 1
 ·split <;> rfl
 ·rw [List.map_map]
  refine List.map_congr_left fun c hc => ?_
  have := Bz _ c hc
  exact UInt8.toNat_ofNat_of_lt' (by show c.toNat < 256; omega)
theorem oj {z : Int} (h : inRange z = true) : (decimal z).length <= 15 /\ decimal z ≠ [] := by
 unfold inRange at h
 rw [Bool.and_eq_true] at h
 have h1 := of_decide_eq_true h.1
 have h2 := of_decide_eq_true h.2
 have hn : z.natAbs < 10 ^ (9 + 1) := by
  have : (10 : Nat) ^ (9 + 1) = 10000000000 := by decide
  omega
 have hl := wH (z.natAbs + 1) 9 z.natAbs [] hn
 have hl : (Nat.toDigits 10 z.natAbs).length <= 10 := hl
 unfold decimal
 constructor
 ·rw [List.length_append, List.length_map]
  split
  ·rw [List.length_singleton]; omega
  ·rw [List.length_nil]; omega
 ·intro e
  have := (List.append_eq_nil_iff.mp e).2
  exact yB _ (List.map_eq_nil_iff.mp this)
theorem Hv {z : Int} (h : inRange z = true) : z.natAbs.log2 < 1920 := by
 unfold inRange at h
 rw [Bool.and_eq_true] at h
 have h1 := of_decide_eq_true h.1
 have h2 := of_decide_eq_true h.2
 by_cases e : z.natAbs = 0
 ·rw [e]; decide
 ·have p : (2 : Nat) ^ 32 = 4294967296 := by decide
  have : z.natAbs.log2 < 32 := (Nat.log2_lt e).mpr (by omega)
  omega
end Lsp
namespace L2
open PySem Spec PyProof.Rows
def DT (K : W.Frag) (a : Addr) (xs : List V) : Prop := ∃ (aF : Array Value) (n : Nat), K.lookup a = some { cls := .type "tuple", dict := none, data := .seq aF n, slots := #[] } /\ aF.size <= sizeLine /\ Vals xs aF.toList
def v7 (K : W.Frag) : V -> List V -> Hp -> VK -> Prop := fun x vs H Q => ∃ l b xs zs, x = .ref l /\ vs = [.ref b] /\ H l = some (.lst xs) /\ DT K b zs /\ xs.length + zs.length <= sizeLine /\ Q .bf (upd H l (.lst (xs ++ zs)))
theorem xZ {X : Cx} : NR X "list.extend" (v7 X.K) := by
 intro pins s σ H x vs v us Q I rx rv h
 obtain ⟨l, b, xs, zs, rfl, rfl, hH, ⟨o6, n2, lk, _, r2⟩, hz, q⟩ := h
 cases rx
 obtain ⟨u, rfl, ru⟩ := rv.one
 cases ru
 obtain ⟨z, aF, n, r, hl, e⟩ := I.vW hH
 have e2 := I.gu b _ lk
 have Lz := r2.length
 have hsz : aF.toArray.size + o6.size <= sizeLine := by rw [List.size_toArray, <- Array.length_toList]; omega
 have wj : ¬ (!aF.toArray.isEmpty && Builtin.List.listTooLong (aF.toArray.size + o6.size)) = true := by
  rw [pX hsz, Bool.and_false]
  exact Bool.false_ne_true
 refine call_meets F.slot_list_extend ⟨_, e, rfl⟩ F.entry_list_extend (F.args_list_extend_2 _ _)
  (AutoSeq1.list_extend_list_tuple_0 l aF.toArray n b o6 n2 wj (by rw [List.size_toArray]; omega) (by omega)) ⟨e, e2, ?_⟩
 refine ⟨.bf, _, I.EZ (its' := aF ++ o6.toList) hH e (by apply Array.toList_inj.mp; simp) (r.append r2) ?_, rfl, q⟩
 rw [List.length_append]
 omega
theorem Hw {x : Str} {g : TG} {tt : TT} {te : TE} {vs : List Nat} {σ : St} {H1 : Hp} {D : Addr} {Qd : Hp -> Prop} (Pv : Nat -> Hp -> Prop) (h0 : Pv 0 (upd H1 D (.lst [])))
  (hs : ∀ i c H, x.cps[i]? = some c -> Pv i H -> g (.str ⟨#[c]⟩) (wipe σ vs) H fun σ2 H2 => wipe σ2 vs = wipe σ vs /\ tt σ2 H2 fun b H3 =>
   if b = true then te σ2 H3 fun y H4 => ∃ acc, H4 D = some (.lst acc) /\ acc.length < sizeLine /\ Pv (i + 1) (upd H4 D (.lst (acc ++ [y]))) else Pv (i + 1) H3) (hd : ∀ H, Pv x.cps.size H -> Qd H) :
  ∃ W : Nat -> Nat -> Hp -> Prop, (∃ m, W 0 m (upd H1 D (.lst []))) /\ ∀ i m H, W i m H ->
   ((KU x).stop i H /\ Qd H) \/ ((KU x).go i H /\ ∃ Nx : Hp -> Prop, (∀ H', Nx H' -> ∃ m', m' < m /\ W (i + 1) m' H') /\ ∀ y H', (KU x).BP i H y H' -> g y (wipe σ vs) H' fun σ2 H2 => wipe σ2 vs = wipe σ vs /\ tt σ2 H2 fun b H3 =>
    if b = true then te σ2 H3 fun y H4 => ∃ acc, H4 D = some (.lst acc) /\ acc.length < sizeLine /\ Nx (upd H4 D (.lst (acc ++ [y]))) else Nx H3) := by
 refine ⟨fun i m H => m = x.cps.size - i /\ i <= x.cps.size /\ Pv i H, ⟨x.cps.size, by simp, Nat.zero_le _, h0⟩, ?_⟩
 rintro i m H ⟨rfl, hi, p⟩
 by_cases hW : i < x.cps.size
 ·refine .inr ⟨hW, Pv (i + 1), fun H' p' => ⟨x.cps.size - (i + 1), by omega, rfl, hW, p'⟩, fun y H' z => ?_⟩
  obtain ⟨e, c, hc, e2⟩ := z
  subst e e2
  exact hs i c _ hc p
 ·have e : i = x.cps.size := by omega
  subst e
  exact .inl ⟨zA0 _, hd H p⟩
end L2
namespace Lsp
open PySem Spec PyProof.Rows L2
theorem gP : bootBuiltins "list" = some (.type "list") := by decide +kernel
theorem B6 : bootBuiltins "str" = some (.type "str") := by decide +kernel
theorem B7 : bootBuiltins "ord" = some (.builtin "ord") := by decide +kernel
structure Wc where
 cT : Addr
 cE : Addr
noncomputable def G1 (v : V) : List (Str × V) := br "thing" v []
structure KH (K : W.Frag) (mg : Str -> Option Value) (A : Ad) (U : Wc) (cu BE cp : Addr) : Prop where
 sp : cv mg "SPACE" 32
 hash : cv mg "HASH_writer" 35
 Mv : cv mg "OPENING_writer" 40
 cls : cv mg "CLOSING_writer" 41
 nil : oV K mg "WORD_NIL_writer" cu [110, 105, 108]
 fn : oV K mg "WORD_FUNCTION" BE [35, 102, 110]
 NF : mg "DOT_BETWEEN_SPACES" = some (.ref cp)
 ND : DT K cp (([32, 46, 32] : List Int).map V.int)
 fV : mg "len" = none
 Ah : mg "list" = none
 NH : mg "str" = none
 NI : mg "ord" = none
 yJ : mg "isinstance" = none
 iT : yV K U.cT
 iE : yV K U.cE
 kT : W.kitOne K (.ref U.cT) (.ref U.cT) = some true
 kE : W.kitOne K (.ref U.cE) (.ref U.cT) = some false
 cP : mg "Pair" = some (.ref A.cP)
 cQ : CT K mg "Primitive" A.cQ ["name"]
section
variable {P : Program} {w : World} {A : Ad} {U : Wc} {K : W.Frag} {mg : Str -> Option Value} {base : Heap} {cu BE cp : Addr}
theorem tM : aq ["self", "thing"] ["self", "thing"] (aj i9) := bQ
noncomputable def Ia : List V -> List (Str × V) := fun us => G1 (us.getD 0 .bf)
theorem EU {C : Addr} (T : CI K C "Part.__init__" i9 ["self", "thing"]) (c : CT K mg "Part" C ["thing"]) : fK P w K mg base "Part" C 1 (jx Ia) := by
 refine T.ok c tM rfl fun f aU A outer s H p dx us Q E hl hp q => ?_
 obtain ⟨a, rfl⟩ := Hd.n1 hl
 refine ⟨_, ae (aP (pv 0) (pv 1) rfl), ?_⟩
 refine ⟨_, rfl, _, rfl, p, C, dx, [], rfl, hp, c.cl, c.na _ (by simp), Hd.t0, ?_⟩
 exact q _ ah fun b o e hb => by rw [ak hb]; exact e
theorem tL : aq ["self", "thing"] ["self", "thing"] (aj i8) := bQ
theorem ET {C : Addr} (T : CI K C "Rest.__init__" i8 ["self", "thing"]) (c : CT K mg "Rest" C ["thing"]) : fK P w K mg base "Rest" C 1 (jx Ia) := by
 refine T.ok c tL rfl fun f aU A outer s H p dx us Q E hl hp q => ?_
 obtain ⟨a, rfl⟩ := Hd.n1 hl
 refine ⟨_, ae (aP (pv 0) (pv 1) rfl), ?_⟩
 refine ⟨_, rfl, _, rfl, p, C, dx, [], rfl, hp, c.cl, c.na _ (by simp), Hd.t0, ?_⟩
 exact q _ ah fun b o e hb => by rw [ak hb]; exact e
theorem kF {s : Sg02.Abs} {H : Hp} {μ : Mp} {h : Sg02.Heap} {B : Nat} (W : WR P w A K H s.names μ h B) {x : Sg02.Obj} {v : V} (r : VR K H s.names μ x v) (np : ∀ i, x ≠ .pair i) : (Sg02.textOf s 1 x).length <= 15 /\ Sg02.textOf s 1 x ≠ [] := by
 cases x with
 | nil => exact ⟨(show (Sg02.ascii "nil").length <= 15 by decide), (show Sg02.ascii "nil" ≠ [] by decide)⟩
 | int z => exact oj r.2
 | name n =>
  obtain ⟨a, b, _, e, _⟩ := r
  show (s.names.getD n []).length <= 15 /\ s.names.getD n [] ≠ []
  (rw [List.getD_eq_getElem?_getD, e])
  exact ⟨W.names.le b (List.mem_of_getElem? e), W.names.ne b (List.mem_of_getElem? e)⟩
 | pair i => exact absurd rfl (np i)
 | fn i => exact ⟨(show (Sg02.ascii "#fn").length <= 15 by decide), (show Sg02.ascii "#fn" ≠ [] by decide)⟩
 | prim k =>
  obtain ⟨a, _, e⟩ := r
  have hk := (W.e8 k a e).1
  have : ∀ k : Fin 10, ((35 : UInt8) :: Sg02.ascii (Sg02.primitives.getD k.val "")).length <= 15 := by decide
  exact ⟨this ⟨k, hk⟩, by simp [Sg02.textOf]⟩
def pj (P : Program) (w : World) (A : Ad) (K : W.Frag) : Sp := fun vs H Q _ => ∃ (v : V) (x : Sg02.Obj) (s : Sg02.Abs) (μ : Mp) (h : Sg02.Heap) (B : Nat), vs = [v] /\ WR P w A K H s.names μ h B /\ VR K H s.names μ x v /\ (∀ i, x ≠ .pair i) /\ ∀ l H', H l = Option.none -> aK H H' -> H' l = some (.lst (tv (Sg02.textOf s 1 x))) -> Q (.ref l) H'
theorem jO : aq ["thing", "sign"] ["thing"] (aj jq) := bQ
theorem zZ (z : Int) : ((toString z : Str)).cps.toList = (Sg02.decimal z).map UInt8.toNat := by
 rw [wG]
 show (Str.ofString (toString z)).cps.toList = _
 rw [Str.ofString_eq_toList]
theorem xR (T : FT K mg "word_of" "word_of" jq ["thing"]) (C : KH K mg A U cu BE cp) (i : sV A K) (F1 : aX P w K mg base 1 "is_number" ["thing"] (ir K (.type "int"))) (F2 : aX P w K mg base 1 "is_name" ["thing"] (ir K (.type "tuple"))) : aX P w K mg base 2 "word_of" ["thing"] (pj P w A K) := by
 obtain ⟨u1, m1, r1⟩ := C.hash
 refine T.ok jO (fun vs H Q E h => by obtain ⟨_, _, _, _, _, _, rfl, _⟩ := h; rfl) fun f aU A' outer s0 H vs Q E hr h => ?_
 obtain ⟨v, x, s, μ, h, B, rfl, W, rv, np, q⟩ := h
 refine ⟨_, af (aL (aA gJ (pv 0) bq (aH _)) (ae (a6 (eY eT (by rfl) C.Ah gP (aa (ax (v := .ref cu) (by rfl) C.nil.yc rfl) ag)))) aG)
  (af (aL (bc (aW F1 hr (by rfl) ai (aa (pv 0) ag))) (ae (a6 (zA (own := [("sign", 1)]) rfl jO.nd (GO (eY uO (by rfl) C.NH B6 (aa (pv 0) ag))) (lK (show B8 ["thing", "sign"] (aj jq) { kind := .function, names := [(".0", .local), ("sign", .local), ("ord", .globalImplicit)], isGenerator := false, isCoroutine := false } [("sign", 1)] = true from by decide +kernel)) (fun s H C cl fp => dA (i := 1) jO.nd rfl (Or.inl rfl)) (fun s H C cl fp => oK)
    (fun s H _ cl fp => a7 DI (by rfl) C.NI B7 (aa (pv 1) ag))))) aG)
  (af (aL (bc (aW F2 hr (by rfl) ai (aa (pv 0) ag))) (ae (a6 (eY eT (by rfl) C.Ah gP (aa (pv 0) ag)))) aG)
  (af (aL (bc (a7 aY (by rfl) C.yJ bIsX (aa (pv 0) (aa (ax (v := .ref A.cQ) (by rfl) C.cQ.kg rfl) ag)))) (ae (a6 (e9 CJ (b7 (aa (ax (by rfl) m1 r1) ag)) (eY eT (by rfl) C.Ah gP (aa (ay (pv 0) rfl) ag))))) aG)
  (ae (a6 (eY eT (by rfl) C.Ah gP (aa (ax (v := .ref BE) (by rfl) C.fn.yc rfl) ag))))))), ?_⟩
 have ty := rv.ty W i
 refine ⟨_, rfl, rfl, _, rfl, ?_⟩
 cases x with
 | nil =>
  have : v = .bf := rv
  subst this
  exact aZ ⟨cu, _, rfl, .inr (.inr C.nil.tup), fun l nl => q l _ nl (az nl) ah⟩
 | pair j => exact absurd rfl (np j)
 | int z =>
  obtain ⟨rfl, hz⟩ := rv
  refine aM ⟨_, rfl, _, _, _, rfl, ty, i.int _, _, rfl, aZ ⟨_, rfl, z, rfl, Hv hz, _, rfl, fun D nD => Hw (x := (toString z : Str)) (fun k H' => H' = upd H D (.lst (tv ((Sg02.decimal z).take k)))) rfl ?_ ?_⟩⟩
  ·rintro k c H' hc rfl
   have OS : ((toString z : Str)).cps.toList[k]? = some c := by rw [Array.getElem?_toList]; exact hc
   rw [zZ, List.getElem?_map] at OS
   obtain ⟨d, hd, rfl⟩ := Option.map_eq_some_iff.mp OS
   have hk := (oj hz).1
   refine ⟨rfl, _, rfl, _, rfl, rfl, _, ah, ?_, ?_⟩
   ·rw [b5, List.length_take]
    exact Nat.lt_of_le_of_lt (show _ <= 15 by omega) (by decide)
   ·rw [jk, List.take_add_one, hd]
    show _ = upd H D (.lst (tv ((Sg02.decimal z).take k ++ [d])))
    rw [lV]
    rfl
  ·rintro H' rfl
   have e : (toString z : Str).cps.size = (Sg02.decimal z).length := by rw [<- Array.length_toList, zZ, List.length_map]
   rw [e, List.take_length]
   exact q D _ nD (az nD) ah
 | name n =>
  obtain ⟨a, b, rfl, en, nb⟩ := rv
  refine aM ⟨_, rfl, _, _, _, rfl, ty, i.int _, _, rfl, aM ⟨_, rfl, _, _, _, rfl, ty, i.tup _, _, rfl, aZ ⟨_, rfl, a, _, rfl, .inr nb.sq, fun l nl => q l _ nl (az nl) ?_⟩⟩⟩
  have e : Sg02.textOf s 1 (.name n) = b := by
   show s.names.getD n [] = b
   rw [List.getD_eq_getElem?_getD, en]
   rfl
  rw [ah, e]
  rfl
 | fn j =>
  obtain ⟨a, rfl, e⟩ := rv
  exact aM ⟨_, rfl, _, _, _, rfl, ty, i.int _, _, rfl, aM ⟨_, rfl, _, _, _, rfl, ty, i.tup _, _, rfl, aM ⟨_, rfl, _, _, _, _, rfl, ty, (fun u hu => by cases hu; exact i.prim _), _, rfl, aM ⟨BE, _, rfl, .inr (.inr C.fn.tup), fun l nl => q l _ nl (az nl) ah⟩⟩⟩⟩
 | prim k =>
  obtain ⟨a, rfl, e⟩ := rv
  obtain ⟨_, _, dx, t, o1, kt⟩ := W.e8 k a e
  refine aM ⟨_, rfl, _, _, _, rfl, ty, i.int _, _, rfl, aM ⟨_, rfl, _, _, _, rfl, ty, i.tup _, _, rfl, aM ⟨_, rfl, _, _, _, _, rfl, ty, (fun u hu => by cases hu; exact i.prim _), _, rfl, aZ ?_⟩⟩⟩
  refine ⟨(by show 1 <= sizeLine; decide), fun l1 n1 => ⟨_, rfl, a, A.cQ, dx, _, _, rfl, (az n1) _ _ o1, C.cQ.cl, C.cQ.na _ (by simp), rfl, t, _, rfl, .inr (.inr kt), fun l2 n2 => ?_⟩⟩
  obtain ⟨Qo, RF⟩ := bh n2
  refine ⟨l1, l2, _, _, rfl, rfl, (ak Qo.symm).trans ah, ah, ?_, fun l3 n3 => ?_⟩
  ·have hk := (kF W (x := .prim k) (v := .ref a) ⟨a, rfl, e⟩ (by simp)).1
   have hk : ((35 : UInt8) :: Sg02.ascii (Sg02.primitives.getD k "")).length <= 15 := hk
   rw [List.length_cons] at hk
   rw [List.length_map]
   unfold bz
   rw [List.length_map, List.length_singleton]
   exact Nat.le_trans (show _ <= 15 by omega) (by decide)
  ·refine q l3 _ (bh (bh n3).2).2 (((az n1).trans (az n2)).trans (az n3)) ?_
   rw [ah]
   rfl
end
end Lsp
namespace Lsp
open PySem Spec PyProof.Rows L2
def ID (tl al : Addr) (H H' : Hp) : Prop := ∀ b o, b ≠ tl -> b ≠ al -> H b = some o -> H' b = some o
theorem m8 {X : Cx} {o e : Expr} {to : TE} {t : TA} {apos c5 : Pos} (ho : PE X o to) (ha : PA X [e] t) (bS : attributeBase o "extend" X.env (eval o X.env) = eval o X.env := by rfl)
  (yn : ((backTo c5 (starEach [e] X.env)).all (fun x => !x.1) && (backToKw c5 (keywordEach [] X.env)).all (fun x => x.1.isSome) && decide ([e].length + ([] : List Keyword).length + (if ([] : List Keyword).isEmpty then 0 else 1) < 30)) = true := by rfl)
  (gX : (apos.endLine == c5.line) = true := by rfl) (hs : starEach [e] X.env = (false, eval e X.env) :: starEach [] X.env := by rfl) (km : (backTo c5 (starEach [] X.env)).any (·.1) = false := by rfl) :
  PE X (.Call (.Attribute o "extend" apos) [e] [] c5) (Le X.K "list" zz to t) := CD PySem.F.plainAttrs_list PySem.F.slot_list_extend PySem.F.type_list_extend AN ho ha bS yn gX hs km
theorem xP {X : Cx} {o e : Expr} {to : TE} {t : TA} {apos c5 : Pos} (ho : PE X o to) (ha : PA X [e] t) (bS : attributeBase o "extend" X.env (eval o X.env) = eval o X.env := by rfl)
  (yn : ((backTo c5 (starEach [e] X.env)).all (fun x => !x.1) && (backToKw c5 (keywordEach [] X.env)).all (fun x => x.1.isSome) && decide ([e].length + ([] : List Keyword).length + (if ([] : List Keyword).isEmpty then 0 else 1) < 30)) = true := by rfl)
  (gX : (apos.endLine == c5.line) = true := by rfl) (hs : starEach [e] X.env = (false, eval e X.env) :: starEach [] X.env := by rfl) (km : (backTo c5 (starEach [] X.env)).any (·.1) = false := by rfl) :
  PE X (.Call (.Attribute o "extend" apos) [e] [] c5) (Le X.K "list" (v7 X.K) to t) := CD PySem.F.plainAttrs_list PySem.F.slot_list_extend PySem.F.type_list_extend xZ ho ha bS yn gX hs km
section
variable {P : Program} {w : World} {A : Ad} {U : Wc} {K : W.Frag} {mg : Str -> Option Value} {base : Heap} {cu BE cp : Addr}
theorem cJ {H : Hp} {a b C dx : Addr} {fs : List (Str × V)} {us : List V} (h1 : H a = some (.ins C dx fs)) (h2 : H b = some (.lst us)) : a ≠ b := fun z => by rw [z, h2] at h1; cases h1
theorem eS {n : Nat} (h : n <= 400000) : n < sizeLine := Nat.lt_of_le_of_lt h (by decide)
def t9 (A : Ad) (U : Wc) : Sp := fun vs H Q _ => ∃ (a dx al : Addr) (v1 v2 : V) (us : List V), vs = [.ref a, .ref al] /\ H a = some (.ins A.cP dx (pairF v1 v2)) /\ H al = some (.lst us) /\ us.length <= 300000 /\ ∀ r p d1 d2 H', H' r = some (.ins U.cE d1 (G1 v2)) -> H' p = some (.ins U.cT d2 (G1 v1)) ->
 H' al = some (.lst (us ++ [.ref r, .ref p])) -> (∀ b o, b ≠ al -> H b = some o -> H' b = some o) -> Q .bf H'
theorem tG : aq ["pair", "ahead"] ["pair", "ahead"] (aj i4) := bQ
theorem uk (T : FT K mg "put_ahead" "put_ahead" i4 ["pair", "ahead"]) (c : CT K mg "Pair" A.cP ["head", "tail"]) (MT : fK P w K mg base "Part" U.cT 1 (jx Ia)) (ME : fK P w K mg base "Rest" U.cE 1 (jx Ia)) : aX P w K mg base 3 "put_ahead" ["pair", "ahead"] (t9 A U) := by
 refine T.ok tG (fun vs H Q E h => by obtain ⟨_, _, _, _, _, _, rfl, _⟩ := h; rfl) fun f aU A' outer s H vs Q E hr h => ?_
 obtain ⟨a, dx, al, v1, v2, us, rfl, ha, ko, hl, q⟩ := h
 refine ⟨_, af (a8 (aR (pv 1) (b6 ME hr (by rfl) ai (aa (ay (pv 0) rfl) ag)))) (ae (a8 (aR (pv 1) (b6 MT hr (by rfl) ai (aa (ay (pv 0) rfl) ag))))), ?_⟩
 have JZ := cJ ha ko
 refine ⟨_, rfl, .inl ⟨rfl, _, .inl (.inl ko)⟩, _, rfl, a, A.cP, dx, _, _, rfl, ha, c.cl, c.na _ (by simp), rfl, rfl, fun r d1 H1 n1 e1 s1 => ⟨al, _, _, rfl, rfl, s1 _ _ ko, eS (by omega), ?_⟩⟩
 have Oq : r ≠ al := fun z => by rw [z, ko] at n1; cases n1
 generalize LG : upd H1 al (.lst (us ++ [.ref r])) = H2
 have yp : H2 a = some (.ins A.cP dx (pairF v1 v2)) := by rw [<- LG, ak JZ]; exact s1 _ _ ha
 have HY : H2 al = some (.lst (us ++ [.ref r])) := by rw [<- LG]; exact ah
 refine ⟨_, rfl, .inl ⟨rfl, _, .inl (.inl HY)⟩, _, rfl, a, A.cP, dx, _, _, rfl, yp, c.cl, c.na _ (by simp), rfl, rfl, fun p d2 H3 n3 e3 s3 => ⟨al, _, _, rfl, rfl, s3 _ _ HY, eS (by rw [List.length_append, List.length_singleton]; omega), ?_⟩⟩
 have PX : p ≠ al := fun z => by rw [z, HY] at n3; cases n3
 refine q r p d1 d2 _ ?_ ?_ ?_ fun b o hb e => ?_
 ·rw [ak Oq]
  refine s3 _ _ ?_
  rw [<- LG, ak Oq]
  exact e1
 ·rw [ak PX]; exact e3
 ·rw [ah, List.append_assoc]; rfl
 ·rw [ak hb]
  refine s3 _ _ ?_
  rw [<- LG, ak hb]
  exact s1 _ _ e
def yR (K : W.Frag) (U : Wc) (ns : List Sg02.Bytes) (μ : Mp) (h : Sg02.Heap) (tl al : Addr) (txt us : List V) (c : Int) (i : Nat) (H : Hp) (Q : VK) : Prop := ∀ v1 v2 r p d1 d2 H', VR K H ns μ (h.pair i).1 v1 -> VR K H ns μ (h.pair i).2 v2 -> H' r = some (.ins U.cE d1 (G1 v2)) -> H' p = some (.ins U.cT d2 (G1 v1)) ->
 H' tl = some (.lst (txt ++ [.int c])) -> H' al = some (.lst (us ++ [.ref r, .ref p])) -> ID tl al H H' -> Q .bf H'
def yO (tl al : Addr) (txt us : List V) (b : Sg02.Bytes) (H : Hp) (Q : VK) : Prop := ∀ H', H' tl = some (.lst (txt ++ tv b)) -> H' al = some (.lst us) -> ID tl al H H' -> Q .bf H'
def JA (P : Program) (w : World) (A : Ad) (U : Wc) (K : W.Frag) : Sp := fun vs H Q _ => ∃ (v : V) (x : Sg02.Obj) (s : Sg02.Abs) (μ : Mp) (B : Nat) (tl al : Addr) (txt us : List V), vs = [v, .ref tl, .ref al] /\ WR P w A K H s.names μ s.heap B /\ VR K H s.names μ x v /\ H tl = some (.lst txt) /\ H al = some (.lst us) /\ tl ≠ al /\ txt.length <= 300000 /\ us.length <= 300000 /\
 (∀ i, x = .pair i -> yR K U s.names μ s.heap tl al txt us 40 i H Q) /\ ((∀ i, x ≠ .pair i) -> yO tl al txt us (Sg02.textOf s 1 x) H Q)
theorem qQ : aq ["thing", "text", "ahead"] ["thing", "text", "ahead"] (aj gC) := bQ
theorem OB {x : Sg02.Obj} {i : Nat} (e : x = .pair i) : decide (kdOf x = Kd.pair) = true := by subst e; rfl
theorem Kh {x : Sg02.Obj} (e : ∀ i, x ≠ .pair i) : decide (kdOf x = Kd.pair) = false := by cases x <;> first | rfl | exact absurd rfl (e _)
theorem vL (x : Sg02.Obj) : (∃ i, x = .pair i) \/ ∀ i, x ≠ .pair i := by cases x <;> first | exact .inl ⟨_, rfl⟩ | exact .inr (by simp)
theorem qV (T : FT K mg "write_part" "write_part" gC ["thing", "text", "ahead"]) (C : KH K mg A U cu BE cp) (i : sV A K) (F1 : aX P w K mg base 3 "put_ahead" ["pair", "ahead"] (t9 A U)) (F2 : aX P w K mg base 2 "word_of" ["thing"] (pj P w A K)) : aX P w K mg base 4 "write_part" ["thing", "text", "ahead"] (JA P w A U K) := by
 obtain ⟨u1, m1, r1⟩ := C.Mv
 refine T.ok qQ (fun vs H Q E h => by obtain ⟨_, _, _, _, _, _, _, _, _, rfl, _⟩ := h; rfl) fun f aU A' outer s0 H vs Q E hr h => ?_
 obtain ⟨v, x, s, μ, B, tl, al, txt, us, rfl, W, rv, k9, ko, vN, lt, lu, q1, q2⟩ := h
 have rl := hr.mono (show 2 <= 3 by decide)
 refine ⟨_, ae (aL (bc (a7 aY (by rfl) C.yJ bIsX (aa (pv 0) (aa (ax (v := .ref A.cP) (by rfl) C.cP rfl) ag))))
  (af (a8 (aR (pv 1) (ax (by rfl) m1 r1))) (ae (a8 (aW F1 hr (by rfl) ai (aa (pv 0) (aa (pv 2) ag))))))
  (ae (a8 (m8 (pv 1) (aa (aW F2 rl (by rfl) ai (aa (pv 0) ag)) ag))))), ?_⟩
 refine ⟨_, rfl, _, _, _, _, rfl, rv.ty W i, (fun u hu => by cases hu; exact i.pair _), _, rfl, ?_⟩
 rcases vL x with ⟨j, rfl⟩ | np
 ·rw [OB rfl]
  obtain ⟨a, rfl, e⟩ := rv
  obtain ⟨_, _, ⟨dx, v1, v2, o1, ra, rd⟩, _⟩ := W.pairs j a e
  refine aZ ⟨_, rfl, .inl ⟨rfl, _, .inl (.inl k9)⟩, tl, _, _, rfl, rfl, k9, eS (by omega), ?_⟩
  refine ⟨_, rfl, _, rfl, a, dx, al, v1, v2, us, rfl, (ak (cJ o1 k9)).trans o1, (ak vN.symm).trans ko, lu, fun r p d1 d2 H' h1 h2 h3 h4 => ?_⟩
  exact q1 j rfl v1 v2 r p d1 d2 H' ra rd h1 h2 (h4 _ _ vN ah) h3 fun b o n1 n2 e => h4 b o n2 (by rw [ak n1]; exact e)
 ·rw [Kh np]
  have hw := (kF W rv np).1
  refine aM ⟨_, rfl, .inl ⟨rfl, _, .inl (.inl k9)⟩, _, rfl, v, x, s, μ, s.heap, B, rfl, W, rv, np, fun l H' nl s1 hl => ?_⟩
  refine ⟨tl, l, _, _, rfl, rfl, s1 _ _ k9, hl, Nat.le_of_lt (eS (by rw [b5]; omega)), ?_⟩
  exact q2 np _ ah ((ak vN.symm).trans (s1 _ _ ko)) fun b o n1 n2 e => by rw [ak n1]; exact s1 _ _ e
def J9 (P : Program) (w : World) (A : Ad) (U : Wc) (K : W.Frag) : Sp := fun vs H Q _ => ∃ (v : V) (x : Sg02.Obj) (s : Sg02.Abs) (μ : Mp) (B : Nat) (tl al : Addr) (txt us : List V), vs = [v, .ref tl, .ref al] /\ WR P w A K H s.names μ s.heap B /\ VR K H s.names μ x v /\ H tl = some (.lst txt) /\ H al = some (.lst us) /\ tl ≠ al /\ ¬ μ.im tl /\ txt.length <= 300000 /\ us.length <= 300000 /\
 (∀ i, x = .pair i -> yR K U s.names μ s.heap tl al txt us 32 i H Q) /\ (x = .nil -> yO tl al txt us [41] H Q) /\ ((∀ i, x ≠ .pair i) -> x ≠ .nil -> yO tl al txt us (Sg02.ascii " . " ++ (Sg02.textOf s 1 x ++ [41])) H Q)
theorem qP : aq ["thing", "text", "ahead"] ["thing", "text", "ahead"] (aj gB) := bQ
theorem qU (T : FT K mg "write_rest" "write_rest" gB ["thing", "text", "ahead"]) (C : KH K mg A U cu BE cp) (i : sV A K) (F1 : aX P w K mg base 3 "put_ahead" ["pair", "ahead"] (t9 A U)) (F2 : aX P w K mg base 2 "word_of" ["thing"] (pj P w A K)) : aX P w K mg base 4 "write_rest" ["thing", "text", "ahead"] (J9 P w A U K) := by
 obtain ⟨u1, m1, r1⟩ := C.sp
 obtain ⟨u2, m2, r2⟩ := C.cls
 refine T.ok qP (fun vs H Q E h => by obtain ⟨_, _, _, _, _, _, _, _, _, rfl, _⟩ := h; rfl) fun f aU A' outer s0 H vs Q E hr h => ?_
 obtain ⟨v, x, s, μ, B, tl, al, txt, us, rfl, W, rv, k9, ko, vN, Hh, lt, lu, q1, q2, q3⟩ := h
 have rl := hr.mono (show 2 <= 3 by decide)
 refine ⟨_, af (aL (bc (a7 aY (by rfl) C.yJ bIsX (aa (pv 0) (aa (ax (v := .ref A.cP) (by rfl) C.cP rfl) ag))))
   (af (a8 (aR (pv 1) (ax (by rfl) m1 r1))) (af (a8 (aW F1 hr (by rfl) ai (aa (pv 0) (aa (pv 2) ag)))) (ae E7))) aG)
  (af (aL (aA lx (pv 0) bq (aH _)) (af (a8 (xP (pv 1) (aa (ax (v := .ref cp) (by rfl) C.NF rfl) ag))) (ae (a8 (m8 (pv 1) (aa (aW F2 rl (by rfl) ai (aa (pv 0) ag)) ag))))) aG)
  (ae (a8 (aR (pv 1) (ax (by rfl) m2 r2))))), ?_⟩
 refine ⟨_, rfl, _, _, _, _, rfl, rv.ty W i, (fun u hu => by cases hu; exact i.pair _), _, rfl, ?_⟩
 rcases vL x with ⟨j, rfl⟩ | np
 ·rw [OB rfl]
  obtain ⟨a, rfl, e⟩ := rv
  obtain ⟨_, _, ⟨dx, v1, v2, o1, ra, rd⟩, _⟩ := W.pairs j a e
  refine aZ ⟨_, rfl, .inl ⟨rfl, _, .inl (.inl k9)⟩, tl, _, _, rfl, rfl, k9, eS (by omega), ?_⟩
  refine ⟨_, rfl, _, rfl, a, dx, al, v1, v2, us, rfl, (ak (cJ o1 k9)).trans o1, (ak vN.symm).trans ko, lu, fun r p d1 d2 H' h1 h2 h3 h4 => ?_⟩
  exact q1 j rfl v1 v2 r p d1 d2 H' ra rd h1 h2 (h4 _ _ vN ah) h3 fun b o n1 n2 e => h4 b o n2 (by rw [ak n1]; exact e)
 ·rw [Kh np]
  refine aM ⟨_, rfl, rfl, _, rfl, ?_⟩
  by_cases xn : x = .nil
  ·subst xn
   have : v = .bf := rv
   subst this
   refine aM ⟨_, rfl, .inl ⟨rfl, _, .inl (.inl k9)⟩, tl, _, _, rfl, rfl, k9, eS (by omega), ?_⟩
   exact q2 rfl _ ah ((ak vN.symm).trans ko) fun b o n1 n2 e => by rw [ak n1]; exact e
  ·have hw := (kF W rv np).1
   have vn : decide (v = .bf) = false := decide_eq_false fun z => by
    subst z
    cases x with
    | nil => exact xn rfl
    | int z => exact absurd rv.1 (by simp)
    | name n => obtain ⟨_, _, z, _⟩ := rv; cases z
    | pair n => exact np n rfl
    | fn n => obtain ⟨_, z, _⟩ := rv; cases z
    | prim n => obtain ⟨_, z, _⟩ := rv; cases z
   rw [vn]
   refine aZ ⟨_, rfl, .inl ⟨rfl, _, .inl (.inl k9)⟩, tl, cp, _, _, rfl, rfl, k9, C.ND, Nat.le_of_lt (eS (by rw [List.length_map]; show _ + 3 <= _; omega)), ?_⟩
   generalize Gr : upd H tl (.lst (txt ++ ([32, 46, 32] : List Int).map V.int)) = H1
   have Ec : ∀ b o, H b = some o -> b ≠ tl -> H1 b = some o := fun b o e n => by rw [<- Gr, ak n]; exact e
   have Bh : H1 tl = some (.lst (txt ++ ([32, 46, 32] : List Int).map V.int)) := by rw [<- Gr]; exact ah
   have im : bF μ H H1 := by rw [<- Gr]; exact fh Hh
   refine ⟨_, rfl, .inl ⟨rfl, _, .inl (.inl Bh)⟩, _, rfl, v, x, s, μ, s.heap, B, rfl, W.mono im, rv.mono (.refl μ) im (.refl _), np, fun l H' nl s1 hl => ?_⟩
   have e3 : (txt ++ ([32, 46, 32] : List Int).map V.int).length = txt.length + 3 := by rw [List.length_append]; rfl
   refine ⟨tl, l, _, _, rfl, rfl, s1 _ _ Bh, hl, Nat.le_of_lt (eS (by rw [b5, e3]; omega)), ?_⟩
   refine ⟨_, rfl, .inl ⟨rfl, _, .inl (.inl ah)⟩, tl, _, _, rfl, rfl, ah, eS (by rw [List.length_append, b5, e3]; omega), ?_⟩
   refine q3 np xn _ ?_ ((ak vN.symm).trans ((ak vN.symm).trans (s1 _ _ (Ec _ _ ko vN.symm)))) fun b o n1 n2 e => by rw [ak n1, ak n1]; exact s1 _ _ (Ec b o e n1)
   rw [ah, lV, lV]
   have e4 : tv (Sg02.ascii " . ") = ([32, 46, 32] : List Int).map V.int := rfl
   rw [e4, List.append_assoc, List.append_assoc]
   rfl
def KO (K : W.Frag) (U : Wc) (H : Hp) (ns : List Sg02.Bytes) (μ : Mp) : Piece -> V -> Prop
 | .part x, u => ∃ a d v, u = .ref a /\ H a = some (.ins U.cT d (G1 v)) /\ VR K H ns μ x v
 | .rest x, u => ∃ a d v, u = .ref a /\ H a = some (.ins U.cE d (G1 v)) /\ VR K H ns μ x v
theorem KO.mono {H H' : Hp} {ns : List Sg02.Bytes} {μ : Mp} {tl al : Addr} {l1 l2 : List V} (f : ID tl al H H') (h1 : H tl = some (.lst l1)) (h2 : H al = some (.lst l2)) (im : bF μ H H') : ∀ {p : Piece} {u : V}, KO K U H ns μ p u -> KO K U H' ns μ p u
 | .part x, u, ⟨a, d, v, e1, e2, e3⟩ => ⟨a, d, v, e1, f _ _ (cJ e2 h1) (cJ e2 h2) e2, e3.mono (.refl μ) im (.refl ns)⟩
 | .rest x, u, ⟨a, d, v, e1, e2, e3⟩ => ⟨a, d, v, e1, f _ _ (cJ e2 h1) (cJ e2 h2) e2, e3.mono (.refl μ) im (.refl ns)⟩
def Ce (P : Program) (w : World) (A : Ad) (K : W.Frag) : Sp := fun vs H Q _ => ∃ (v : V) (most : Nat) (x : Sg02.Obj) (s : Sg02.Abs) (μ : Mp) (B : Nat), vs = [v, .int (most : Nat)] /\ WR P w A K H s.names μ s.heap B /\ VR K H s.names μ x v /\ most <= 65535 /\
 (most < (tx s x).length -> ∀ H', aK H H' -> Q .bf H') /\ ((tx s x).length <= most -> ∀ l H', H l = Option.none -> aK H H' -> H' l = some (.lst (tv (tx s x))) -> Q (.ref l) H')
theorem gA : aq ["thing", "most", "text", "ahead", "piece"] ["thing", "most"] (aj mq) := bQ
theorem xS (T : FT K mg "text_of" "text_of" mq ["thing", "most"]) (C : KH K mg A U cu BE cp) (cT : CT K mg "Part" U.cT ["thing"]) (cE : CT K mg "Rest" U.cE ["thing"]) (MT : fK P w K mg base "Part" U.cT 1 (jx Ia))
  (F1 : aX P w K mg base 4 "write_part" ["thing", "text", "ahead"] (JA P w A U K)) (F2 : aX P w K mg base 4 "write_rest" ["thing", "text", "ahead"] (J9 P w A U K)) : aX P w K mg base 5 "text_of" ["thing", "most"] (Ce P w A K) := by
 refine T.ok gA (fun vs H Q E h => by obtain ⟨_, _, _, _, _, _, rfl, _⟩ := h; rfl) fun f aU A' outer s0 H vs Q E hr h => ?_
 obtain ⟨v, most, x, s, μ, B, rfl, W, rv, hm, q1, q2⟩ := h
 have rl := hr.mono (show 2 <= 4 by decide)
 refine ⟨_, af (aJ (i := 2) gA.nd rfl (Or.inl rfl) (b7 ag)) (af (aJ (i := 3) gA.nd rfl (Or.inl rfl) (b7 (aa (b6 MT rl (by rfl) ai (aa (pv 0) ag)) ag)))
  (af (d8 PassesOwn.leaving (pK (aA nS (a7 a9 (by rfl) C.fV PySem.boot_len (aa (pv 3) ag)) aw (aH _)) (ll (aA gW (a7 a9 (by rfl) C.fV PySem.boot_len (aa (pv 2) ag)) (pv 1) (aH _)))).pt
   (af (aJ (i := 4) gA.nd rfl (Or.inl rfl) (ue (pv 3))) (ae (aL (bc (a7 aY (by rfl) C.yJ bIsX (aa (pv 4) (aa (ax (v := .ref U.cT) (by rfl) cT.kg rfl) ag))))
    (ae (a8 (aW F1 hr (by rfl) ai (aa (ay (pv 4) rfl) (aa (pv 2) (aa (pv 3) ag))))))
    (ae (a8 (aW F2 hr (by rfl) ai (aa (ay (pv 4) rfl) (aa (pv 2) (aa (pv 3) ag))))))))))
  (af (aL (aA nS (a7 a9 (by rfl) C.fV PySem.boot_len (aa (pv 2) ag)) (pv 1) (aH _)) (ae (a6 bq)) aG) (ae (a6 (pv 2)))))), ?_⟩
 have old := W.gp
 refine ⟨Nat.zero_le _, fun tl Ec => ⟨_, rfl, rfl, fun a d H1 na ea s1 => ⟨(by show 1 <= sizeLine; decide), fun al AL => ?_⟩⟩⟩
 have kd : ∀ y, H y = Option.none -> ¬ μ.im y := fun y e z => by obtain ⟨o, eo⟩ := W.y9 y z; rw [e] at eo; cases eo
 have st : aK H (upd H tl (.lst [])) := az Ec
 have Bh : H1 tl = some (.lst []) := s1 _ _ ah
 have r8 : H al = Option.none := st.free (s1.free AL)
 have vN : tl ≠ al := fun z => by rw [z] at Bh; rw [Bh] at AL; cases AL
 have IK : aK H (upd H1 al (.lst [.ref a])) := (st.trans s1).trans (az AL)
 have JZ : a ≠ al := fun z => by rw [z] at ea; rw [ea] at AL; cases AL
 let LI : Nat -> L2.St -> Hp -> Prop := fun n σ H' => ∃ (out : Sg02.Bytes) (xQ : List Piece) (us : List V) (u4 : Option V), σ = [some v, some (.int (most : Nat)), some (.ref tl), some (.ref al), u4] /\ H' tl = some (.lst (tv out)) /\ H' al = some (.lst us.reverse) /\ Paired (KO K U H' s.names μ) xQ us /\ out ++ FN s xQ = tx s x /\ us.length <= out.length + 1 /\ aK H H' /\ n = most + 1 - out.length
 have step : ∀ (n : Nat) (out : Sg02.Bytes) (xQ : List Piece) (us : List V) (H' : Hp), out.length <= most -> n = most + 1 - out.length -> us.length <= out.length -> Paired (KO K U H' s.names μ) xQ us -> H' tl = some (.lst (tv out)) -> H' al = some (.lst us.reverse) -> aK H H' ->
   (∀ (b : Sg02.Bytes) (u4 : Option V), b ≠ [] -> out ++ (b ++ FN s xQ) = tx s x -> ∀ H2, H2 tl = some (.lst (tv out ++ tv b)) -> H2 al = some (.lst us.reverse) -> ID tl al H' H2 -> ∃ m', m' < n /\ LI m' [some v, some (.int (most : Nat)), some (.ref tl), some (.ref al), u4] H2) /\
   (∀ (c : UInt8) (i : Nat) (u4 : Option V), out ++ (c :: (tx s (s.heap.pair i).1 ++ rt s (s.heap.pair i).2) ++ FN s xQ) = tx s x -> yR K U s.names μ s.heap tl al (tv out) us.reverse (c.toNat : Nat) i H' (fun _ H2 => ∃ m', m' < n /\ LI m' [some v, some (.int (most : Nat)), some (.ref tl), some (.ref al), u4] H2)) := by
  intro n out xQ us H' ho hn hu pr k9 ko sm
  have eL : ∀ {H2 : Hp}, ID tl al H' H2 -> aK H H2 := fun f b o e => f b o (fun z => by rw [z, Ec] at e; cases e) (fun z => by rw [z, r8] at e; cases e) (sm b o e)
  have HF : ∀ {H2 : Hp}, ID tl al H' H2 -> bF μ H' H2 := fun f b o ib e => f b o (fun z => kd tl Ec (by rw [<- z]; exact ib)) (fun z => kd al r8 (by rw [<- z]; exact ib)) e
  refine ⟨fun b u4 nb he H2 h1 h2 f => ?_, fun c i u4 he v1 v2 r p d1 d2 H2 g1 g2 g3 g4 g5 g6 f => ?_⟩
  ·have bp : 0 < b.length := List.length_pos_iff.mpr nb
   refine ⟨most + 1 - (out ++ b).length, by rw [List.length_append]; omega, out ++ b, xQ, us, u4, rfl, by rw [lV]; exact h1, h2, aE pr (fun _ _ z => z.mono f k9 ko (HF f)), by rw [List.append_assoc]; exact he, by rw [List.length_append]; omega, eL f, rfl⟩
  ·refine ⟨most + 1 - (out ++ [c]).length, by rw [List.length_append, List.length_singleton]; omega, out ++ [c], .part (s.heap.pair i).1 :: .rest (s.heap.pair i).2 :: xQ, .ref p :: .ref r :: us, u4, rfl, by rw [lV]; exact g5, ?_, .cons ⟨p, d2, v1, rfl, g4, g1.mono (.refl μ) (HF f) (.refl _)⟩ (.cons ⟨r, d1, v2, rfl, g3, g2.mono (.refl μ) (HF f) (.refl _)⟩ (aE pr (fun _ _ z => z.mono f k9 ko (HF f)))), ?_, by rw [List.length_append, List.length_cons, List.length_cons, List.length_singleton]; omega, eL f, rfl⟩
   ·rw [g6, List.reverse_cons, List.reverse_cons, List.append_assoc]
    rfl
   ·rw [kI, kI, <- he, List.append_assoc]
    show out ++ ([c] ++ (tx s _ ++ (rt s _ ++ FN s xQ))) = _
    simp
 refine ⟨LI, ⟨_, [], [.part x], [.ref a], none, rfl, (ak vN).trans Bh, ah, .cons ⟨a, d, v, rfl, (ak JZ).trans ea, rv.mono (.refl μ) (bF.of_same IK) (.refl _)⟩ .nil, by rw [kI]; show [] ++ (tx s x ++ []) = _; simp, by simp, IK, rfl⟩, ?_⟩
 rintro n σ H' ⟨out, xQ, us, u4, rfl, k9, ko, pr, he, hu, sm, hn⟩
 refine ⟨_, rfl, al, _, rfl, .inl (.inl (.inl ko)), _, _, rfl, rfl, _, rfl, ?_⟩
 have done : (most < out.length \/ out = tx s x) -> (decide (((most : Nat) : Int) < (((tv out).length : Nat) : Int)) = true -> Q .bf H') /\ (decide (((most : Nat) : Int) < (((tv out).length : Nat) : Int)) = false -> Q (.ref tl) H') := fun e2 => by
  rw [b5]
  refine ⟨fun z => q1 ?_ H' sm, fun z => ?_⟩
  ·have := of_decide_eq_true z
   rw [<- he, List.length_append]
   omega
  ·have c1 := of_decide_eq_false z
   have e : out = tx s x := e2.elim (fun z => absurd (show ((most : Nat) : Int) < (out.length : Nat) by omega) c1) id
   exact q2 (by rw [<- e]; omega) tl H' Ec sm (by rw [<- e]; exact k9)
 cases pr with
 | nil =>
  have e : out = tx s x := by rw [<- he]; show out = out ++ []; simp
  exact aM (aM ⟨_, rfl, tl, _, rfl, .inl (.inl (.inl k9)), _, rfl, _, _, rfl, rfl, _, rfl, rH (done (.inr e)).1 fun z => ⟨_, rfl, (done (.inr e)).2 z⟩⟩)
 | @cons pc u xQ us Oh pr =>
  have c1 : decide ((0 : Int) < (((u :: us).reverse.length : Nat) : Int)) = true := decide_eq_true (by rw [List.length_reverse, List.length_cons]; omega)
  rw [c1]
  refine aZ ⟨_, rfl, tl, _, rfl, .inl (.inl (.inl k9)), _, rfl, _, _, rfl, rfl, _, rfl, ?_⟩
  rw [b5]
  by_cases c2 : out.length <= most
  ·rw [decide_eq_true (show ((out.length : Nat) : Int) <= (most : Nat) by omega)]
   refine aZ ⟨fun σ' H2 => ∃ m', m' < n /\ LI m' σ' H2, (fun _ _ z => z), ?_⟩
   have ed : (u :: us).reverse.dropLast = us.reverse := by rw [List.reverse_cons]; simp
   refine ⟨_, rfl, .inl ⟨rfl, _, .inl (.inl ko)⟩, al, _, u, rfl, rfl, ko, by rw [List.length_reverse, List.reverse_cons]; simp, ?_⟩
   rw [ed]
   have Ls : bF μ H' (upd H' al (.lst us.reverse)) := fh (kd al r8)
   have Of : aK H (upd H' al (.lst us.reverse)) := fun b o e => by rw [ak (aI e r8)]; exact sm b o e
   have fA : ID tl al H' (upd H' al (.lst us.reverse)) := fun b o n1 n2 e => by rw [ak n2]; exact e
   have WA := (W.mono (bF.of_same Of))
   rw [List.length_cons] at hu
   have PQ := aE pr fun _ _ z => z.mono fA k9 ko Ls
   obtain ⟨Mb, jl⟩ := step n out xQ us (upd H' al (.lst us.reverse)) c2 hn (by omega) PQ ((ak vN).trans k9) ah Of
   rw [kI] at he
   have Ke : (tv out).length <= 300000 := by rw [b5]; omega
   have Kc : us.reverse.length <= 300000 := by rw [List.length_reverse]; omega
   cases pc with
   | part y =>
    obtain ⟨pa, pd, Ms, rfl, po, EA⟩ := Oh
    have JL := fA _ _ (cJ po k9) (cJ po ko) po
    refine ⟨_, rfl, _, _, _, _, rfl, .of (.ins JL C.iT.cl C.iT.ha C.iT.hn C.iT.tk C.iT.hm), (fun u hu => by cases hu; exact C.kT), _, rfl, aZ ?_⟩
    refine ⟨_, rfl, pa, U.cT, pd, _, _, rfl, JL, cT.cl, cT.na _ (by simp), rfl, _, rfl, _, rfl, Ms, y, s, μ, B, tl, al, _, _, rfl, WA, EA.mono (.refl μ) Ls (.refl _), (ak vN).trans k9, ah, vN, Ke, Kc, fun i e => ?_, fun np => ?_⟩
    ·subst e
     refine jl 40 i _ ?_
     rw [<- he]
     show _ = out ++ (tx s (.pair i) ++ FN s xQ)
     rw [kJ old]
    ·exact fun H2 h1 h2 f => Mb (Sg02.textOf s 1 y) _ (kF WA (EA.mono (.refl μ) Ls (.refl _)) np).2 (by rw [<- uY np]; exact he) H2 h1 h2 f
   | rest y =>
    obtain ⟨pa, pd, Ms, rfl, po, EA⟩ := Oh
    have JL := fA _ _ (cJ po k9) (cJ po ko) po
    refine ⟨_, rfl, _, _, _, _, rfl, .of (.ins JL C.iE.cl C.iE.ha C.iE.hn C.iE.tk C.iE.hm), (fun u hu => by cases hu; exact C.kE), _, rfl, aM ?_⟩
    refine ⟨_, rfl, pa, U.cE, pd, _, _, rfl, JL, cE.cl, cE.na _ (by simp), rfl, _, rfl, _, rfl, Ms, y, s, μ, B, tl, al, _, _, rfl, WA, EA.mono (.refl μ) Ls (.refl _), (ak vN).trans k9, ah, vN, kd tl Ec, Ke, Kc, fun i e => ?_, fun e => ?_, fun np nn => ?_⟩
    ·subst e
     refine jl 32 i _ ?_
     rw [<- he]
     show _ = out ++ (rt s (.pair i) ++ FN s xQ)
     rw [zx old]
    ·subst e
     exact fun H2 h1 h2 f => Mb [41] _ (by simp) he H2 h1 h2 f
    ·refine fun H2 h1 h2 f => Mb _ _ (by simp [Sg02.ascii]) ?_ H2 h1 h2 f
     rw [<- uY np, <- iD nn np]
     exact he
  ·rw [decide_eq_false (show ¬ ((out.length : Nat) : Int) <= (most : Nat) by omega)]
   exact aM ⟨_, rfl, tl, _, rfl, .inl (.inl (.inl k9)), _, rfl, _, _, rfl, rfl, _, rfl, rH (done (.inl (by omega))).1 fun z => ⟨_, rfl, (done (.inl (by omega))).2 z⟩⟩
end
end Lsp
namespace Lsp
open PySem Spec PyProof.Rows L2
theorem bAlX : bootBuiltins "all" = some (.builtin "all") := by decide +kernel
theorem so {X : Cx} : Passes (fk X.prog X.w) X (fun _ _ _ => False) := by
 intro pins σ H s e s' I h
 obtain ⟨_, _, _, _, _, _, _, _, _, _, _, _, z⟩ := h
 exact z.elim
theorem yG {b : Sg02.Bytes} (h : b ≠ []) : ∃ c r, b = c :: r := by
 cases b with
 | nil => exact absurd rfl h
 | cons c r => exact ⟨c, r, rfl⟩
theorem DC (c : UInt8) (r : Sg02.Bytes) : gw (tv (c :: r)) (some 1) none = tv r := by
 have e : HT.dm (tv (c :: r)).length 0 (some 1) = 1 := by
  rw [b5]
  have z : HT.dm (c :: r).length 0 (some (1 : Int)) = min 1 (c :: r).length := HT.dX _ _ 1
  rw [z, List.length_cons]
  omega
 unfold gw
 rw [e]
 show ((tv (c :: r)).drop 1).take ((tv (c :: r)).length - 1) = tv r
 have e2 : (tv (c :: r)).drop 1 = tv r := rfl
 rw [e2]
 refine List.take_of_length_le ?_
 rw [b5, b5]
 simp
section
variable {P : Program} {w : World} {A : Ad} {K : W.Frag} {mg : Str -> Option Value} {base : Heap} {lT lS cp cu cD : Addr}
def FW : Sp := fun vs H Q _ => ∃ z : Int, vs = [.int z] /\ Q (.bl (decide (33 <= z) && decide (z <= 126))) H
theorem kU : aq ["byte"] ["byte"] (aj dI) := bQ
theorem lz (T : FT K mg "may_be_in_word" "may_be_in_word" dI ["byte"]) (C : yP K mg lT lS cp cu) : aX P w K mg base 1 "may_be_in_word" ["byte"] FW := by
 obtain ⟨u1, m1, r1⟩ := C.low
 obtain ⟨u2, m2, r2⟩ := C.high
 refine T.ok kU (fun vs H Q E h => by obtain ⟨z, rfl, _⟩ := h; rfl) fun f aU A outer s H vs Q E hr h => ?_
 obtain ⟨z, rfl, q⟩ := h
 refine ⟨_, ae (a6 (lq gW gW (ax (by rfl) m1 r1) (pv 0) (ax (by rfl) m2 r2))), ?_⟩
 refine ⟨_, rfl, _, _, rfl, rfl, _, rfl, ?_⟩
 by_cases h1 : (33 : Int) <= z
 ·rw [decide_eq_true h1] at q ⊢
  exact aZ ⟨_, _, rfl, rfl, q⟩
 ·rw [decide_eq_false h1] at q ⊢
  exact aM q
def Cr (K : W.Frag) : Sp := fun vs H Q _ => ∃ (a : Addr) (b : Sg02.Bytes), vs = [.ref a] /\ ft K H a (tv b) /\ b ≠ [] /\ ∀ a' H', aK H H' -> ft K H' a' (tv (n9 b)) -> Q (.ref a') H'
theorem tJ : aq ["word"] ["word"] (aj i6) := bQ
theorem uo (T : FT K mg "digits_of" "digits_of" i6 ["word"]) (C : yP K mg lT lS cp cu) : aX P w K mg base 1 "digits_of" ["word"] (Cr K) := by
 obtain ⟨u1, m1, r1⟩ := C.minus
 refine T.ok tJ (fun vs H Q E h => by obtain ⟨_, _, rfl, _⟩ := h; rfl) fun f aU A outer s H vs Q E hr h => ?_
 obtain ⟨a, b, rfl, hT, ne, q⟩ := h
 obtain ⟨c, r, rfl⟩ := yG ne
 refine ⟨_, ae (a6 (gn (aA dC (aB eK (pv 0) aw (fun _ _ => rfl)) (ax (by rfl) m1 r1) (aH _)) (gj GA (pv 0) (fB aw) oN) (pv 0))), ?_⟩
 refine ⟨_, rfl, a, _, _, _, rfl, rfl, hT, (kK (k := 0) (T := c :: r) rfl), rfl, _, rfl, ?_⟩
 show if (decide (V.int (c.toNat : Nat) = V.int (45 : Nat))) = true then _ else _
 rw [eU c 45 (by decide)]
 refine rH (fun hm => ⟨_, rfl, _, rfl, a, _, rfl, hT, ?_, fun p np => ?_⟩) fun hm => ⟨_, rfl, ?_⟩
 ·rintro ⟨z, _⟩
  rw [b5] at z
  have z2 : HT.dm (c :: r).length 0 (some (1 : Int)) = min 1 (c :: r).length := HT.dX _ _ 1
  rw [z2, List.length_cons] at z
  omega
 ·have hm : c = 45 := by simpa using hm
  subst hm
  refine q p _ (az np) (.inl (.inl ?_))
  rw [ah, DC]
  rfl
 ·have hm : ¬ c = 45 := by simpa using hm
  refine q a H (aK.refl H) ?_
  unfold n9
  rw [if_neg (show ¬ (c :: r).head? = some 45 from fun z => hm (Option.some.inj z))]
  exact hT
def yH (f : Int -> Bool) (T : Sg02.Bytes) : List V := (T.map fun c => f (c.toNat : Nat)).map V.bl
theorem wM (f : Int -> Bool) {T : Sg02.Bytes} {i : Nat} {c : UInt8} (h : T[i]? = some c) : yH f (T.take (i + 1)) = yH f (T.take i) ++ [.bl (f (c.toNat : Nat))] := by
 unfold yH
 rw [List.take_add_one, h]
 simp
theorem Af (f : Int -> Bool) (T : Sg02.Bytes) : (yH f T).length = T.length := by unfold yH; simp
theorem ik {H H' : Hp} {a : Addr} {xs : List V} (e : aK H H') (h : ft K H a xs) : ft K H' a xs := by
 rcases h with (h | ⟨o, h⟩) | h
 ·exact .inl (.inl (e _ _ h))
 ·exact .inl (.inr ⟨o, e _ _ h⟩)
 ·exact .inr h
theorem FV {H : Hp} {a : Addr} {T : Sg02.Bytes} (h : ft K H a (tv T)) {D : Addr} {o : HO} (n : H D = Option.none) : ft K (upd H D o) a (tv T) := ik (az n) h
def zq (K : W.Frag) : Sp := fun vs H Q _ => ∃ (a : Addr) (b : Sg02.Bytes), vs = [.ref a] /\ ft K H a (tv b) /\ b ≠ [] /\ b.length <= 15 /\ ∀ H', aK H H' -> Q (.bl (rh b)) H'
theorem cw : aq ["word", "digits", "byte"] ["word"] (aj cI) := bQ
theorem Fw (b : Sg02.Bytes) : (n9 b).length <= b.length := by
 unfold n9
 split
 ·simp
 ·exact zA0 _
theorem eh {n : Nat} (h : n <= 400000) : n < sizeLine := Nat.lt_of_le_of_lt h (by decide)
theorem l0 (T : FT K mg "is_number_word" "is_number_word" cI ["word"]) (C : yP K mg lT lS cp cu) (F1 : aX P w K mg base 1 "digits_of" ["word"] (Cr K)) : aX P w K mg base 2 "is_number_word" ["word"] (zq K) := by
 obtain ⟨u1, m1, r1⟩ := C.zero
 obtain ⟨u2, m2, r2⟩ := C.nine
 refine T.ok cw (fun vs H Q E h => by obtain ⟨_, _, rfl, _⟩ := h; rfl) fun f aU A outer s H vs Q E hr h => ?_
 obtain ⟨a, b, rfl, hT, ne, hl, q⟩ := h
 refine ⟨_, af (aJ (i := 1) cw.nd rfl (Or.inl rfl) (aW F1 hr (by rfl) ai (aa (pv 0) ag)))
  (ae (a6 (GV (oO nS (a7 a9 (by rfl) C.fV PySem.boot_len (aa (pv 1) ag)) aw (aH _)) (GR (a7 (yC rfl) (by rfl) C.F8 bAlX
   (aa (zA (own := [("byte", 2)]) rfl cw.nd (xK (pv 1)) (lK (show B8 ["word", "digits", "byte"] (aj cI) { kind := .function, names := [(".0", .local), ("byte", .local), ("ZERO", .globalImplicit), ("NINE", .globalImplicit)], isGenerator := false, isCoroutine := false } [("byte", 2)] = true from by decide +kernel)) (fun s H C cl fp => dA (i := 2) cw.nd rfl (Or.inl rfl)) (fun s H C cl fp => oK)
    (fun s H C cl fp => lq gW gW (ax (by rfl) m1 r1) (pv 2) (ax (by rfl) m2 r2))) ag)))))), ?_⟩
 refine ⟨_, rfl, a, b, rfl, hT, ne, fun a' H1 s1 h1 => ⟨_, rfl, a', _, rfl, .inr h1, _, _, rfl, rfl, _, rfl, ?_⟩⟩
 rw [b5]
 by_cases hz : n9 b = []
 ·have c2 : decide ((0 : Int) < ((n9 b).length : Nat)) = false := by rw [hz]; rfl
  rw [c2]
  have e : rh b = false := by unfold rh; rw [hz]; rfl
  rw [e] at q
  exact aM (q H1 s1)
 ·have c2 : decide ((0 : Int) < ((n9 b).length : Nat)) = true := decide_eq_true (by have : (n9 b).length ≠ 0 := fun z => hz (List.eq_nil_of_length_eq_zero z); omega)
  rw [c2]
  refine aZ ⟨_, rfl, a', rfl, ⟨_, h1⟩, fun D nD => CW (K := K) (a := a') (xs := tv (n9 b)) (fun i H' => H' = upd H1 D (.lst (yH (fun z => decide (48 <= z) && decide (z <= 57)) ((n9 b).take i)))) rfl (fun i H' _ e => by subst e; exact FV h1 nD) ?_ ?_⟩
  ·rintro i x H' hx rfl
   obtain ⟨c, hc, rfl⟩ := sX hx
   refine ⟨rfl, ?_⟩
   have hi : i < (n9 b).length := (List.getElem?_eq_some_iff.mp hc).1
   have hd := Fw b
   have fin : ∃ acc, (upd H1 D (.lst (yH (fun z => decide (48 <= z) && decide (z <= 57)) ((n9 b).take i)))) D = some (.lst acc) /\ acc.length < sizeLine /\
     upd (upd H1 D (.lst (yH (fun z => decide (48 <= z) && decide (z <= 57)) ((n9 b).take i)))) D (.lst (acc ++ [.bl (decide ((48 : Int) <= (c.toNat : Nat)) && decide ((c.toNat : Int) <= 57))])) = upd H1 D (.lst (yH (fun z => decide (48 <= z) && decide (z <= 57)) ((n9 b).take (i + 1)))) := by
    refine ⟨_, ah, ?_, ?_⟩
    ·rw [Af, List.length_take]
     exact eh (by omega)
    ·rw [wM _ hc, jk]
   refine ⟨_, rfl, _, _, rfl, rfl, _, rfl, ?_⟩
   by_cases g1 : (48 : Int) <= (c.toNat : Nat)
   ·rw [decide_eq_true g1] at fin ⊢
    exact aZ ⟨_, _, rfl, rfl, fin⟩
   ·rw [decide_eq_false g1] at fin ⊢
    exact aM fin
  ·rintro H' rfl
   rw [b5, List.take_length]
   refine ⟨D, _, rfl, .inl (.inl ah), ?_⟩
   have e : rh b = ((n9 b).map fun c => (decide ((48 : Int) <= (c.toNat : Nat)) && decide ((c.toNat : Int) <= 57))).all id := by
    unfold rh
    rw [decide_eq_true hz, Bool.true_and, List.all_map]
    congr 1
    funext c
    exact wF c
   rw [e] at q
   exact q _ (s1.trans (az nD))
def Cg (K : W.Frag) (cD : Addr) : Sp := fun vs H Q E => ∃ (a : Addr) (b : Sg02.Bytes), vs = [.ref a] /\ ft K H a (tv b) /\ b ≠ [] /\ rh b = true /\ (Sg02.inRange (DY b) = true -> ∀ H', aK H H' -> Q (.int (DY b)) H') /\ (Sg02.inRange (DY b) = false -> ∀ H', aK H H' -> E (.ref cD) none H')
theorem bM : aq ["word", "number", "byte"] ["word"] (aj dH) := bQ
theorem BR {b : Sg02.Bytes} {i : Nat} {c : UInt8} (h : b[i]? = some c) (d : (48 : Int) <= (c.toNat : Nat)) : (Sg02.value (b.take i) : Int) * 10 + (c.toNat : Nat) - 48 = (Sg02.value (b.take (i + 1)) : Int) := by
 rw [List.take_add_one, h]
 show _ = ((Sg02.value (b.take i ++ [c]) : Nat) : Int)
 rw [xi]
 omega
theorem ly (T : FT K mg "number_of_word" "number_of_word" dH ["word"]) (C : yP K mg lT lS cp cu) (xM : jK K mg "MalformedText" cD) (F1 : aX P w K mg base 1 "digits_of" ["word"] (Cr K)) (F2 : aX P w K mg base 1 "in_number_range" ["number"] t7) :
  aX P w K mg base 2 "number_of_word" ["word"] (Cg K cD) := by
 obtain ⟨u1, m1, r1⟩ := C.zero
 obtain ⟨u2, m2, r2⟩ := C.minus
 refine T.ok bM (fun vs H Q E h => by obtain ⟨_, _, rfl, _⟩ := h; rfl) fun f aU A outer s H vs Q E hr h => ?_
 obtain ⟨a, b, rfl, hT, ne, HS, q1, q2⟩ := h
 refine ⟨_, af (aJ (i := 1) bM.nd rfl (Or.inl rfl) aw)
  (af (m6 PassesOwn.leaving rfl (xK (aW F1 hr (by rfl) ai (aa (pv 0) ag))) (dA (i := 2) bM.nd rfl (Or.inl rfl))
   (ae (aJ (i := 1) bM.nd rfl (Or.inl rfl) (e9 CG (e9 fU (e9 CH (pv 1) aw) (pv 2)) (ax (by rfl) m1 r1)))))
  (af (aL (aA dC (aB eK (pv 0) aw (fun _ _ => rfl)) (ax (by rfl) m2 r2) (aH _)) (ae (aJ (i := 1) bM.nd rfl (Or.inl rfl) (pM jM (pv 1)))) aG)
  (af (aL (c9 (bc (aW F2 hr (by rfl) ai (aa (pv 1) ag)))) (ae (bZ xM bt rfl (by rfl))) aG)
  (ae (a6 (pv 1)))))), ?_⟩
 have dg : ∀ (i : Nat) (c : UInt8), (n9 b)[i]? = some c -> (48 : Int) <= (c.toNat : Nat) := fun i c hc => by
  unfold rh at HS
  rw [Bool.and_eq_true] at HS
  have := List.all_eq_true.mp HS.2 c (List.mem_of_getElem? hc)
  rw [wF, Bool.and_eq_true] at this
  exact of_decide_eq_true this.1
 refine ⟨_, rfl, a, b, rfl, hT, ne, fun a' H1 s1 h1 => ⟨a', rfl, ⟨_, h1⟩, Fp (K := K) (a := a') (xs := tv (n9 b)) (fun i σ H' => H' = H1 /\ ∃ u, σ = [some (.ref a), some (.int (Sg02.value ((n9 b).take i) : Nat)), u]) ⟨rfl, none, rfl⟩ (fun i σ H' _ e => by rw [e.1]; exact h1) ?_ ?_⟩⟩
 ·rintro i x σ H' hx ⟨rfl, u, rfl⟩
  obtain ⟨c, hc, rfl⟩ := sX hx
  have e := BR hc (dg i c hc)
  refine ⟨_, rfl, _, _, rfl, rfl, .inr ⟨by decide, by decide⟩, _, rfl, _, _, rfl, rfl, _, _, rfl, rfl, rfl, some (.int (c.toNat : Nat)), ?_⟩
  rw [<- e]
  rfl
 ·rintro σ H' ⟨rfl, u, rfl⟩
  rw [b5, List.take_length]
  obtain ⟨c, r, rfl⟩ := yG ne
  refine ⟨_, rfl, a, _, _, _, rfl, rfl, ik s1 hT, (kK (k := 0) (T := c :: r) rfl), rfl, _, rfl, ?_⟩
  show if (decide (V.int (c.toNat : Nat) = V.int (45 : Nat))) = true then _ else _
  rw [eU c 45 (by decide)]
  refine rH (fun hm => ⟨_, rfl, _, rfl, _, rfl, _, rfl, _, rfl, ?_⟩) fun hm => ⟨_, rfl, _, rfl, _, rfl, ?_⟩
  ·have hm : c = 45 := by simpa using hm
   have e : DY (c :: r) = -(Sg02.value (n9 (c :: r)) : Int) := by unfold DY; rw [if_pos (by rw [hm]; rfl)]
   rw [e] at q1 q2
   refine B5 (fun z => q2 z H' s1) fun z => ⟨_, rfl, q1 z H' s1⟩
  ·have hm : ¬ c = 45 := by simpa using hm
   have e : DY (c :: r) = (Sg02.value (n9 (c :: r)) : Int) := by unfold DY; rw [if_neg (show ¬ (c :: r).head? = some 45 from fun z => hm (Option.some.inj z))]
   rw [e] at q1 q2
   refine B5 (fun z => q2 z H' s1) fun z => ⟨_, rfl, q1 z H' s1⟩
def zj (K : W.Frag) (cD : Addr) : Sp := fun vs H Q E => ∃ (a : Addr) (b : Sg02.Bytes), vs = [.ref a] /\ ft K H a (tv b) /\ b ≠ [] /\ b ≠ [46] /\ b.length <= 65535 /\ match Sg02.wordOf b with
 | .int z => Sg02.inRange z = true -> ∀ H', aK H H' -> Q (.int z) H'
 | .nil => ∀ H', aK H H' -> Q .bf H'
 | .name b' => b' = b -> b.length <= 15 -> ∀ H', aK H H' -> Q (.ref a) H'
 | .dot => True
 | .bad => ∀ H', aK H H' -> E (.ref cD) none H'
theorem dG : aq ["word", "byte"] ["word"] (aj de) := bQ
theorem mK (T : FT K mg "thing_of_word" "thing_of_word" de ["word"]) (C : yP K mg lT lS cp cu) (xM : jK K mg "MalformedText" cD) (F0 : aX P w K mg base 1 "may_be_in_word" ["byte"] FW) (F1 : aX P w K mg base 2 "is_number_word" ["word"] (zq K)) (F2 : aX P w K mg base 2 "number_of_word" ["word"] (Cg K cD)) :
  aX P w K mg base 3 "thing_of_word" ["word"] (zj K cD) := by
 obtain ⟨u1, m1, r1⟩ := C.long
 obtain ⟨u2, m2, r2⟩ := C.hash
 refine T.ok dG (fun vs H Q E h => by obtain ⟨_, _, rfl, _⟩ := h; rfl) fun f aU A outer s H vs Q E hr h => ?_
 obtain ⟨a, b, rfl, hT, ne, nd, hl, q⟩ := h
 have jw := hr.mono (show 1 <= 2 by decide)
 refine ⟨_, af (aL (lj (aA nS (a7 a9 (by rfl) C.fV PySem.boot_len (aa (pv 0) ag)) (ax (by rfl) m1 r1) (aH _))
   (lj (aA dC (aB eK (pv 0) aw (fun _ _ => rfl)) (ax (by rfl) m2 r2) (aH _))
   (jV (c9 (bc (a7 (yC rfl) (by rfl) C.F8 bAlX (aa (zA (own := [("byte", 1)]) rfl dG.nd (xK (pv 0)) (lK (show B8 ["word", "byte"] (aj de) { kind := .function, names := [(".0", .local), ("byte", .local), ("may_be_in_word", .globalImplicit)], isGenerator := false, isCoroutine := false } [("byte", 1)] = true from by decide +kernel)) (fun s H C cl fp => dA (i := 1) dG.nd rfl (Or.inl rfl)) (fun s H C cl fp => oK)
    (fun s H C cl fp => aW F0 jw (by rfl) so (aa (pv 1) ag))) ag))))))).pt (ae (bZ xM bt rfl (by rfl))) aG)
  (af (aL (bc (aW F1 hr (by rfl) ai (aa (pv 0) ag))) (ae (a6 (aW F2 hr (by rfl) ai (aa (pv 0) ag)))) aG)
  (af (aL (aA (iJ hr.units) (pv 0) (ax (v := .ref cu) (by rfl) C.nil.yc rfl) (aH _)) (ae (a6 bq)) aG)
  (ae (a6 (pv 0))))), ?_⟩
 have bad : 15 < b.length \/ b.head? = some 35 \/ CS b = false -> ∀ H', aK H H' -> E (.ref cD) none H' := fun z => by
  have e := BQ z
  rw [e] at q
  exact q
 refine ⟨_, rfl, a, _, rfl, .inr hT, _, _, rfl, rfl, _, rfl, ?_⟩
 rw [b5]
 refine rH (fun z => bad (.inl (by have := of_decide_eq_true z; omega)) H (aK.refl H)) fun LM => ?_
 have LM : ¬ 15 < b.length := by have := of_decide_eq_false LM; omega
 obtain ⟨c, r, rfl⟩ := yG ne
 refine ⟨_, rfl, a, _, _, _, rfl, rfl, hT, (kK (k := 0) (T := c :: r) rfl), rfl, _, rfl, ?_⟩
 show if (decide (V.int (c.toNat : Nat) = V.int (35 : Nat))) = true then _ else _
 rw [eU c 35 (by decide)]
 refine rH (fun z => bad (.inr (.inl (by have : c = 35 := (by simpa using z); rw [this]; rfl))) H (aK.refl H)) fun Ld => ?_
 have Ld : ¬ (c :: r).head? = some 35 := fun z => by have : c = 35 := Option.some.inj z; rw [this] at Ld; simp at Ld
 refine ⟨_, rfl, a, rfl, ⟨_, hT⟩, fun D nD => CW (K := K) (a := a) (xs := tv (c :: r)) (fun i H' => H' = upd H D (.lst (yH (fun z => decide (33 <= z) && decide (z <= 126)) ((c :: r).take i)))) rfl (fun i H' _ e => by subst e; exact FV hT nD) ?_ ?_⟩
 ·rintro i x H' hx rfl
  obtain ⟨c', hc, rfl⟩ := sX hx
  have hi : i < (c :: r).length := (List.getElem?_eq_some_iff.mp hc).1
  refine ⟨rfl, _, rfl, _, rfl, _, ah, ?_, ?_⟩
  ·rw [Af, List.length_take]
   exact eh (by omega)
  ·rw [jk]
   show _ = upd H D (.lst (yH (fun z => decide (33 <= z) && decide (z <= 126)) ((c :: r).take (i + 1))))
   rw [wM _ hc]
 ·rintro H' rfl
  rw [b5, List.take_length]
  refine ⟨D, _, rfl, .inl (.inl ah), _, rfl, ?_⟩
  have e : ((c :: r).map fun c => (decide ((33 : Int) <= (c.toNat : Nat)) && decide ((c.toNat : Int) <= 126))).all id = CS (c :: r) := by
   unfold CS
   rw [List.all_map]
   congr 1
   funext c
   exact (CQ c).symm
  have sD : aK H (upd H D (.lst (yH (fun z => decide (33 <= z) && decide (z <= 126)) (c :: r)))) := az nD
  have QS := ik sD hT
  rw [e]
  refine B5 (fun z => bad (.inr (.inr z)) _ sD) fun zm => ?_
  have ew := Ek ne nd LM Ld (by rw [zm]; simp)
  rw [ew] at q
  refine ⟨_, rfl, a, _, rfl, QS, ne, by omega, fun H2 s2 => ⟨_, rfl, ?_⟩⟩
  have IL := sD.trans s2
  refine rH (fun zn => ⟨_, rfl, a, _, rfl, ik IL hT, ne, zn, fun zr H3 s3 => ?_, fun zr H3 s3 => ?_⟩) fun zn => ⟨_, rfl, .name (bz (c :: r)), .name (bz [110, 105, 108]), .name (ik IL hT), .name (.inr C.nil.tup), _, rfl, ?_⟩
  ·rw [if_pos zn, if_pos zr] at q
   exact q zr H3 (IL.trans s3)
  ·rw [if_pos zn, if_neg (by rw [zr]; simp)] at q
   exact q H3 (IL.trans s3)
  ·rw [if_neg (by rw [zn]; simp)] at q
   have en : Sg02.ascii "nil" = [110, 105, 108] := rfl
   rw [en] at q
   refine rH (fun z => ?_) fun z => ⟨_, rfl, ?_⟩
   ·have z : (c :: r) = [110, 105, 108] := by have := of_decide_eq_true z; injection this with this; exact uP this
    rw [if_pos z] at q
    exact q H2 IL
   ·have z : ¬ (c :: r) = [110, 105, 108] := fun w => of_decide_eq_false z (by rw [w])
    rw [if_neg z] at q
    exact q rfl (by omega) H2 IL
end
end Lsp
namespace Lsp
open PySem Spec PyProof.Rows L2
section
variable {X : Cx} {x : Str} {C : Addr} {fs : List V -> V -> List (Str × V)} {E : XK} {p pos : Pos}
theorem CB (M : fK X.prog X.w X.K X.mg X.base x C 0 (gL fs)) (hr : dc 2 X.A) (hg : Gl X x) (hx : Passes (fk X.prog X.w) X E) (wk : (x == ("__debug__" : Str)) = false := by decide) : PE X (.Call (.Name x p) [] [] pos) (FR C fs 0 tq) := by
 obtain ⟨f, fd, ps, hm, M, hb, G⟩ := M
 intro pins s σ H Q I h
 refine wpAny_Call_Name_kw (fF I hg hm ?_ wk)
 exact W.callWith_K0 I.gu M.kp (lh (us := []) (vs := []) (E := E) M G hr hb .nil hx I .nil (xY (JW h.1 h.2) (zR fs)))
end
structure Rc where
 cO : Addr
 cR : Addr
noncomputable def sr (p d : V) : List (Str × V) := br "parts_before_dot" d (br "parts" p [])
noncomputable def gf (t a u d x : V) : List (Str × V) := br "thing" x (br "done" d (br "unfinished" u (br "at" a (br "text" t []))))
def D4 : Option Nat -> V
 | none => .bf
 | some n => .int (n : Nat)
section
variable {P : Program} {w : World} {K : W.Frag} {mg : Str -> Option Value} {base : Heap}
theorem mh : aq ["self"] ["self"] (aj eH) := bQ
noncomputable def Dr : List V -> V -> List (Str × V) := fun _ f => sr f .bf
theorem vQ {C : Addr} (T : CI K C "OpenList.__init__" eH ["self"]) (c : CT K mg "OpenList" C ["parts", "parts_before_dot"]) : fK P w K mg base "OpenList" C 0 (gL Dr) := by
 refine T.ok c mh rfl fun f aU A outer s H p dx us Q E hl hp q => ?_
 match us, hl with
 | [], _ =>
 refine ⟨_, af (aP (pv 0) (b7 ag) rfl) (ae (aP (pv 0) bq rfl)), ?_⟩
 refine ⟨Nat.zero_le _, fun fl nf => ⟨_, rfl, p, C, dx, _, rfl, (ak (aI hp nf)).trans hp, c.cl, c.na _ (by simp), Hd.t0, ?_⟩⟩
 refine ⟨_, rfl, p, C, dx, _, rfl, ah, c.cl, c.na _ (by simp), Hd.t1, ?_⟩
 refine q fl nf _ ah fun b o e hb => ?_
 rw [ak hb, ak hb]
 exact e
theorem oy : aq ["self", "text"] ["self", "text"] (aj fe) := bQ
noncomputable def Dm : List V -> V -> List (Str × V) := fun us f => gf (us.getD 0 .bf) (.int 0) f (.bl false) .bf
theorem ya {C : Addr} (T : CI K C "Reading.__init__" fe ["self", "text"]) (c : CT K mg "Reading" C ["text", "at", "unfinished", "done", "thing"]) : fK P w K mg base "Reading" C 1 (gL Dm) := by
 refine T.ok c oy rfl fun f aU A outer s H p dx us Q E hl hp q => ?_
 obtain ⟨a, rfl⟩ := Hd.n1 hl
 refine ⟨_, af (aP (pv 0) (pv 1) rfl) (af (aP (pv 0) aw rfl) (af (aP (pv 0) (b7 ag) rfl) (af (aP (pv 0) vC rfl) (ae (aP (pv 0) bq rfl))))), ?_⟩
 refine ⟨_, rfl, _, rfl, p, C, dx, [], rfl, hp, c.cl, c.na _ (by simp), Hd.t0, ?_⟩
 refine ⟨_, rfl, p, C, dx, _, rfl, ah, c.cl, c.na _ (by simp), Hd.t1, ?_⟩
 refine ⟨Nat.zero_le _, fun fl nf => ⟨_, rfl, p, C, dx, _, rfl, (ak (bh nf).1.symm).trans ah, c.cl, c.na _ (by simp), Hd.t2, ?_⟩⟩
 refine ⟨_, rfl, p, C, dx, _, rfl, ah, c.cl, c.na _ (by simp), Hd.t3, ?_⟩
 refine ⟨_, rfl, p, C, dx, _, rfl, ah, c.cl, c.na _ (by simp), Hd.t4, ?_⟩
 obtain ⟨n1, nf⟩ := bh nf
 obtain ⟨_, nf⟩ := bh nf
 refine q fl nf _ ah fun b o e hb => ?_
 rw [ak hb, ak hb, ak hb]
 by_cases c : b = fl
 ·subst c
  rw [ah] at e ⊢
  exact e
 ·rw [ak c] at e ⊢
  rw [ak hb, ak hb]
  exact e
end
inductive hZ (R : Rc) (K : W.Frag) (H : Hp) (ns : List Sg02.Bytes) (μ : Mp) (hU : List Sg02.Bytes) (h0 : Sg02.Heap) : List Fr -> List V -> List Addr -> List Sg02.Bytes -> Sg02.Heap -> Prop where
 | nil : hZ R K H ns μ hU h0 [] [] [] hU h0
 | quote {st us own n1 h1} (r : hZ R K H ns μ hU h0 st us own n1 h1) : hZ R K H ns μ hU h0 (.quote :: st) (.bf :: us) own n1 h1
 | list {st us own n1 h1} {ps : List Sg02.Tree} {d : Option Nat} {a dx l : Addr} {vs : List V} (r : hZ R K H ns μ hU h0 st us own n1 h1) (ha : H a = some (.ins R.cO dx (sr (.ref l) (D4 d)))) (hl : H l = some (.lst vs))
   (pr : Paired (fun o v => VR K H ns μ o v) (bw ps n1 h1).2.2 vs) (na : a ∉ own) (nl : l ∉ own) (ne : a ≠ l) : hZ R K H ns μ hU h0 (.list ps d :: st) (.ref a :: us) (a :: l :: own) (bw ps n1 h1).1 (bw ps n1 h1).2.1
def JJ : Fr -> Nat
 | .list ps _ => ps.length + 1
 | .quote => 2
def oM (st : List Fr) : Nat := (st.map JJ).sum
theorem d9 (f : Fr) (st : List Fr) : oM (f :: st) = JJ f + oM st := by simp [oM]
section
variable {R : Rc} {K : W.Frag} {H H' : Hp} {ns ju : List Sg02.Bytes} {μ μ' : Mp} {hU : List Sg02.Bytes} {h0 : Sg02.Heap}
theorem hZ.mono {st : List Fr} {us : List V} {own : List Addr} {n1 : List Sg02.Bytes} {h1 : Sg02.Heap} (r : hZ R K H ns μ hU h0 st us own n1 h1) (m : dB μ μ') (i : bF μ H H') (n : jg ns ju) : (∀ a ∈ own, H' a = H a) -> hZ R K H' ju μ' hU h0 st us own n1 h1 := by
 induction r with
 | nil => intro _; exact .nil
 | quote r ih => intro k; exact .quote (ih k)
 | list r ha hl pr na nl ne ih =>
  intro k
  exact .list (ih fun a h => k a (zA1 _ (zA1 _ h))) ((k _ zA2).trans ha) ((k _ (zA1 _ zA2)).trans hl) (aE pr fun _ _ z => z.mono m i n) na nl ne
theorem hZ.len {st : List Fr} {us : List V} {own : List Addr} {n1 : List Sg02.Bytes} {h1 : Sg02.Heap} (r : hZ R K H ns μ hU h0 st us own n1 h1) : us.length <= oM st := by
 induction r with
 | nil => exact zA0 _
 | quote r ih => rw [d9, List.length_cons]; show _ <= 2 + _; omega
 | list r ha hl pr na nl ne ih => rw [d9, List.length_cons]; show _ <= (_ + 1) + _; omega
theorem hZ.there {st : List Fr} {us : List V} {own : List Addr} {n1 : List Sg02.Bytes} {h1 : Sg02.Heap} (r : hZ R K H ns μ hU h0 st us own n1 h1) : ∀ a ∈ own, ∃ o, H a = some o := by
 induction r with
 | nil => exact fun a h => nomatch h
 | quote r ih => exact ih
 | list r ha hl pr na nl ne ih =>
  intro b hb
  rcases List.mem_cons.mp hb with z | hb
  ·exact ⟨_, by rw [z]; exact ha⟩
  ·rcases List.mem_cons.mp hb with z | hb
   ·exact ⟨_, by rw [z]; exact hl⟩
   ·exact ih b hb
end
structure RB where
 H0 : Hp
 ES : Mp
 hU : List Sg02.Bytes
 h0 : Sg02.Heap
 m : Addr
 al : Addr
 tl : Addr
 T : Sg02.Bytes
structure Gw (b : RB) (μ : Mp) (ns : List Sg02.Bytes) (H : Hp) : Prop where
 same : aK b.H0 H
 ml : dB b.ES μ
 k8 : ∀ a, μ.im a -> b.ES.im a \/ b.H0 a = Option.none
 JT : jg b.hU ns
structure uS (P : Program) (w : World) (A : Ad) (R : Rc) (K : W.Frag) (b : RB) (dx : Addr) (at_ : Nat) (st : List Fr) (us : List V) (own : List Addr) (nF : List Sg02.Bytes) (hF : Sg02.Heap) (ns : List Sg02.Bytes) (h : Sg02.Heap) (B : Nat) (μ : Mp) (H : Hp) : Prop where
 cA : H b.m = some (.ins R.cR dx (gf (.ref b.tl) (.int (at_ : Nat)) (.ref b.al) (.bl false) .bf))
 cH : H b.al = some (.lst us.reverse)
 eL : hZ R K H ns μ b.hU b.h0 st us own nF hF
 wr : WR P w A K H ns μ h B
 out : Gw b μ ns H
 fm : b.H0 b.m = Option.none
 r8 : b.H0 b.al = Option.none
 rq : ∀ x ∈ own, b.H0 x = Option.none
 im : ¬ μ.im b.m
 Gf : ¬ μ.im b.al
 rk : ∀ x ∈ own, ¬ μ.im x
 mo : b.m ∉ own
 ao : b.al ∉ own
 ma : b.m ≠ b.al
 FP : eu K b.H0 b.tl (tv b.T)
 k0 : b.hU[0]? = Sg02.known[0]?
section
variable {P : Program} {w : World} {A : Ad} {R : Rc} {K : W.Frag} {b : RB} {dx : Addr} {at_ : Nat} {st : List Fr} {us : List V} {own : List Addr} {nF : List Sg02.Bytes} {hF : Sg02.Heap} {ns : List Sg02.Bytes} {h : Sg02.Heap} {B : Nat} {μ : Mp} {H : Hp}
theorem Gw.grow {μ' : Mp} {ju : List Sg02.Bytes} {H' : Hp} (o : Gw b μ ns H) (s : aK H H') (ml : dB μ μ') (k8 : ∀ a, μ'.im a -> μ.im a \/ H a = Option.none) (n : jg ns ju) : Gw b μ' ju H' :=
 ⟨o.same.trans s, o.ml.trans ml, fun a z => (k8 a z).elim (o.k8 a) fun z => .inr (o.same.free z), o.JT.trans n⟩
theorem Gw.upd {a : Addr} {x : HO} (o : Gw b μ ns H) (n : b.H0 a = Option.none) : Gw b μ ns (L2.upd H a x) :=
 ⟨fun c y e => by rw [ak (aI e n)]; exact o.same c y e, o.ml, o.k8, o.JT⟩
theorem uS.grow {μ' : Mp} {ju : List Sg02.Bytes} {h' : Sg02.Heap} {B' : Nat} {H' : Hp} (M : uS P w A R K b dx at_ st us own nF hF ns h B μ H) (s : aK H H') (ml : dB μ μ') (k8 : ∀ a, μ'.im a -> μ.im a \/ H a = Option.none) (n : jg ns ju) (W : WR P w A K H' ju μ' h' B') :
  uS P w A R K b dx at_ st us own nF hF ju h' B' μ' H' := by
 have kd : ∀ a o, H a = some o -> ¬ μ.im a -> ¬ μ'.im a := fun a o e n z => (k8 a z).elim n fun z => by rw [e] at z; cases z
 have th := M.eL.there
 exact ⟨s _ _ M.cA, s _ _ M.cH, M.eL.mono ml (bF.of_same s) n fun a ha => by obtain ⟨o, e⟩ := th a ha; rw [e]; exact s a o e, W, M.out.grow s ml k8 n, M.fm, M.r8, M.rq, kd _ _ M.cA M.im, kd _ _ M.cH M.Gf, fun x hx => by obtain ⟨o, e⟩ := th x hx; exact kd x o e (M.rk x hx), M.mo, M.ao, M.ma, M.FP, M.k0⟩
theorem uS.setAt {n : Nat} (M : uS P w A R K b dx at_ st us own nF hF ns h B μ H) : uS P w A R K b dx n st us own nF hF ns h B μ (upd H b.m (.ins R.cR dx (br "at" (.int (n : Nat)) (gf (.ref b.tl) (.int (at_ : Nat)) (.ref b.al) (.bl false) .bf)))) := by
 have im := fh (H := H) (o := .ins R.cR dx (br "at" (.int (n : Nat)) (gf (.ref b.tl) (.int (at_ : Nat)) (.ref b.al) (.bl false) .bf))) M.im
 exact ⟨ah, (ak M.ma.symm).trans M.cH, M.eL.mono (.refl μ) im (.refl ns) fun a ha => ak fun z => M.mo (by rw [<- z]; exact ha), M.wr.mono im, M.out.upd M.fm, M.fm, M.r8, M.rq, M.im, M.Gf, M.rk, M.mo, M.ao, M.ma, M.FP, M.k0⟩
theorem uS.stack {gz : List Fr} {us' : List V} {AE : List Addr} {O6 : List Sg02.Bytes} {OY : Sg02.Heap} (M : uS P w A R K b dx at_ st us own nF hF ns h B μ H) (f : hZ R K H ns μ b.hU b.h0 gz us' AE O6 OY) (h1 : ∀ x ∈ AE, b.H0 x = Option.none) (h2 : ∀ x ∈ AE, ¬ μ.im x) (h3 : b.m ∉ AE) (h4 : b.al ∉ AE) :
  uS P w A R K b dx at_ gz us' AE O6 OY ns h B μ (upd H b.al (.lst us'.reverse)) := by
 have im := fh (H := H) (o := .lst us'.reverse) M.Gf
 exact ⟨(ak M.ma).trans M.cA, ah, f.mono (.refl μ) im (.refl ns) fun a ha => ak fun z => h4 (by rw [<- z]; exact ha), M.wr.mono im, M.out.upd M.r8, M.fm, M.r8, h1, M.im, M.Gf, h2, h3, h4, M.ma, M.FP, M.k0⟩
end
end Lsp
namespace Lsp
open PySem Spec PyProof.Rows L2
theorem gy {α : Type} (u : α) (r : List α) : gY ((u :: r).reverse) (-1) = some u := by
 have e : BJ ((u :: r).reverse).length (-1) = some r.length := by
  unfold BJ
  rw [if_neg (by decide), if_pos (by simp; omega)]
  simp
  omega
 unfold gY
 rw [e]
 show ((u :: r).reverse)[r.length]? = some u
 rw [List.reverse_cons, List.getElem?_append_right (by simp)]
 simp
theorem FC {α : Type} {l : List α} {u : α} (h : l.getLast? = some u) : gY l (-1) = some u := by
 have e : l = (u :: l.dropLast.reverse).reverse := by
  rw [List.reverse_cons, List.reverse_reverse]
  obtain ⟨hn, hu⟩ : ∃ hn : l ≠ [], l.getLast hn = u := by
   cases l with
   | nil => cases h
   | cons x r => exact ⟨by simp, by rw [List.getLast?_eq_some_getLast (by simp)] at h; exact Option.some.inj h⟩
  rw [<- hu]
  exact (List.dropLast_concat_getLast hn).symm
 rw [e]
 exact gy u _
theorem DD (xs : List V) : gw xs none (some (-1)) = xs.dropLast := by
 unfold gw
 show (xs.drop 0).take ((if (-1 : Int) < 0 then ((-1 : Int) + (xs.length : Int)).toNat else min (-1 : Int).toNat xs.length) - 0) = _
 rw [if_pos (by decide), List.drop_zero, List.dropLast_eq_take]
 congr 1
 omega
def uU (P : Program) (w : World) (A : Ad) (R : Rc) (K : W.Frag) (b : RB) (cn at_ : Nat) : RS -> Hp -> Prop
 | .go _ st, H => ∃ dx us own ns h B μ, uS P w A R K b dx at_ st us own ns h ns h B μ H /\ B + oM st <= cn
 | .done t _, H => ∃ dx v ns h o B μ, H b.m = some (.ins R.cR dx (gf (.ref b.tl) (.int (at_ : Nat)) (.ref b.al) (.bl true) v)) /\ mk t b.hU b.h0 = (ns, h, o) /\ WR P w A K H ns μ h B /\ VR K H ns μ o v /\ Gw b μ ns H /\ B <= cn
 | .bad, _ => False
section
variable {P : Program} {w : World} {A : Ad} {R : Rc} {K : W.Frag} {mg : Str -> Option Value} {base : Heap} {lT lS cp cu cD : Addr}
def Ck (R : Rc) (cD : Addr) : Sp := fun vs H Q E => ∃ (m dx al : Addr) (t a d x : V) (us : List V), vs = [.ref m] /\ H m = some (.ins R.cR dx (gf t a (.ref al) d x)) /\ H al = some (.lst us.reverse) /\
 match us with
 | [] => E (.ref cD) none H
 | u :: _ => (u = .bf /\ E (.ref cD) none H) \/ ∃ o, u = .ref o /\ Q (.ref o) H
theorem kW : aq ["reading"] ["reading"] (aj dJ) := bQ
theorem l4 (T : FT K mg "innermost_list" "innermost_list" dJ ["reading"]) (C : yP K mg lT lS cp cu) (xM : jK K mg "MalformedText" cD) (c : CT K mg "Reading" R.cR ["text", "at", "unfinished", "done", "thing"]) : aX P w K mg base 1 "innermost_list" ["reading"] (Ck R cD) := by
 refine T.ok kW (fun vs H Q E h => by obtain ⟨_, _, _, _, _, _, _, _, rfl, _⟩ := h; rfl) fun f aU A' outer s H vs Q E hr h => ?_
 obtain ⟨m, dx, al, t, a, d, x, us, rfl, hm, ko, q⟩ := h
 have fld : ∃ z, z = V.ref al := ⟨_, rfl⟩
 refine ⟨_, af (aL (lj (aA dC (a7 a9 (by rfl) C.fV PySem.boot_len (aa (ay (pv 0) rfl) ag)) aw (aH _)) (jV (aA gJ (aB a5 (ay (pv 0) rfl) (pM jM aw) (fun _ _ => rfl)) bq (aH _)))).pt (ae (bZ xM bt rfl (by rfl))) aG)
  (ae (a6 (aB a5 (ay (pv 0) rfl) (pM jM aw) (fun _ _ => rfl)))), ?_⟩
 refine ⟨_, rfl, m, R.cR, dx, _, _, rfl, hm, c.cl, c.na _ (by simp), rfl, al, _, rfl, .inl (.inl (.inl ko)), rfl, _, rfl, ?_⟩
 cases us with
 | nil => exact aZ (aZ q)
 | cons u r =>
  have c2 : decide (V.int (((u :: r).reverse.length : Nat) : Int) = V.int 0) = false := decide_eq_false (by rw [List.length_reverse, List.length_cons]; intro z; injection z with z; omega)
  rw [c2]
  refine aM ⟨_, rfl, m, R.cR, dx, _, _, rfl, hm, c.cl, c.na _ (by simp), rfl, _, rfl, al, _, _, _, rfl, rfl, .inl (.inl ko), gy u r, rfl, _, rfl, ?_⟩
  rcases q with ⟨rfl, q⟩ | ⟨o, rfl, q⟩
  ·exact aZ q
  ·exact aM ⟨_, rfl, m, R.cR, dx, _, _, rfl, hm, c.cl, c.na _ (by simp), rfl, _, rfl, al, _, _, _, rfl, rfl, .inl (.inl ko), gy _ r, q⟩
def FX (R : Rc) (cD : Addr) : Sp := fun vs H Q E => ∃ (a dx l : Addr) (d : Option Nat) (us : List V), vs = [.ref a] /\ H a = some (.ins R.cO dx (sr (.ref l) (D4 d))) /\ H l = some (.lst us) /\ (us = [] \/ d ≠ none -> E (.ref cD) none H) /\
 (us ≠ [] -> d = none -> Q .bf (upd H a (.ins R.cO dx (sr (.ref l) (D4 (some us.length))))))
theorem xp : aq ["innermost"] ["innermost"] (aj mv) := bQ
theorem xT (T : FT K mg "put_dot" "put_dot" mv ["innermost"]) (C : yP K mg lT lS cp cu) (xM : jK K mg "MalformedText" cD) (c : CT K mg "OpenList" R.cO ["parts", "parts_before_dot"]) : aX P w K mg base 1 "put_dot" ["innermost"] (FX R cD) := by
 refine T.ok xp (fun vs H Q E h => by obtain ⟨_, _, _, _, _, rfl, _⟩ := h; rfl) fun f aU A' outer s H vs Q E hr h => ?_
 obtain ⟨a, dx, l, d, us, rfl, ha, hl, q1, q2⟩ := h
 refine ⟨_, af (aL (lj (aA dC (a7 a9 (by rfl) C.fV PySem.boot_len (aa (ay (pv 0) rfl) ag)) aw (aH _)) (jV (aA lx (ay (pv 0) rfl) bq (aH _)))).pt (ae (bZ xM bt rfl (by rfl))) aG)
  (ae (aP (pv 0) (a7 a9 (by rfl) C.fV PySem.boot_len (aa (ay (pv 0) rfl) ag)) rfl)), ?_⟩
 refine ⟨_, rfl, a, R.cO, dx, _, _, rfl, ha, c.cl, c.na _ (by simp), rfl, l, _, rfl, .inl (.inl (.inl hl)), rfl, _, rfl, ?_⟩
 cases us with
 | nil => exact aZ (aZ (q1 (.inl rfl)))
 | cons u r =>
  have c2 : decide (V.int (((u :: r).length : Nat) : Int) = V.int 0) = false := decide_eq_false (by rw [List.length_cons]; intro z; injection z with z; omega)
  rw [c2]
  refine aM ⟨_, rfl, a, R.cO, dx, _, _, rfl, ha, c.cl, c.na _ (by simp), rfl, rfl, _, rfl, ?_⟩
  cases d with
  | some n => exact aZ (q1 (.inr (by simp)))
  | none => exact aM ⟨_, rfl, a, R.cO, dx, _, _, rfl, ha, c.cl, c.na _ (by simp), rfl, l, _, rfl, .inl (.inl (.inl hl)), _, rfl, a, R.cO, dx, _, rfl, ha, c.cl, c.na _ (by simp), Hd.t2, q2 (by simp) rfl⟩
def vy (P : Program) (w : World) (A : Ad) (R : Rc) (K : W.Frag) (cD : Addr) : Sp := fun vs H Q E => ∃ (a dx l : Addr) (d : Option Nat) (us : List V) (os : List Sg02.Obj) (ns : List Sg02.Bytes) (μ : Mp) (h : Sg02.Heap) (B : Nat), vs = [.ref a] /\ H a = some (.ins R.cO dx (sr (.ref l) (D4 d))) /\ H l = some (.lst us) /\
 WR P w A K H ns μ h B /\ Paired (fun o u => VR K H ns μ o u) os us /\
 match d with
 | none => ∀ (v' : V) (H' : Hp) (μ' : Mp), aK H H' -> dB μ μ' -> (∀ a, μ'.im a -> μ.im a \/ H a = Option.none) -> WR P w A K H' ns μ' (df h os .nil).1 (B + os.length) -> VR K H' ns μ' (df h os .nil).2 v' -> Q v' H'
 | some n => (os.length ≠ n + 1 -> E (.ref cD) none H) /\ ∀ wX x, os = wX ++ [x] -> os.length = n + 1 -> ∀ (v' : V) (H' : Hp) (μ' : Mp), aK H H' -> dB μ μ' -> (∀ a, μ'.im a -> μ.im a \/ H a = Option.none) -> WR P w A K H' ns μ' (df h wX x).1 (B + wX.length) -> VR K H' ns μ' (df h wX x).2 v' -> Q v' H'
theorem rZ : aq ["innermost", "parts"] ["innermost"] (aj pF) := bQ
theorem nR {α β : Type} {G : α -> β -> Prop} : ∀ {l : List α} {us : List β} {x : α}, Paired G (l ++ [x]) us -> ∃ us' u, us = us' ++ [u] /\ Paired G l us' /\ G x u
 | [], us, x, p => by
  cases p with
  | cons r t => cases t; exact ⟨[], _, rfl, .nil, r⟩
 | a :: l, us, x, p => by
  cases p with
  | cons r t =>
   obtain ⟨us', u, rfl, p', g⟩ := nR t
   exact ⟨_ :: us', u, rfl, .cons r p', g⟩
theorem AH (T : FT K mg "closed" "closed" pF ["innermost"]) (C : yP K mg lT lS cp cu) (xM : jK K mg "MalformedText" cD) (c : CT K mg "OpenList" R.cO ["parts", "parts_before_dot"]) (F : aX P w K mg base 3 "pairs_of" ["parts", "last"] (rW P w A K)) : aX P w K mg base 4 "closed" ["innermost"] (vy P w A R K cD) := by
 refine T.ok rZ (fun vs H Q E h => by obtain ⟨_, _, _, _, _, _, _, _, _, _, rfl, _⟩ := h; rfl) fun f aU A' outer s H vs Q E hr h => ?_
 obtain ⟨a, dx, l, d, us, os, ns, μ, h, B, rfl, ha, hl, W, pr, q⟩ := h
 refine ⟨_, af (aJ (i := 1) rZ.nd rfl (Or.inl rfl) (ay (pv 0) rfl))
  (af (aL (aA gJ (ay (pv 0) rfl) bq (aH _)) (ae (a6 (aW F hr (by rfl) ai (aa (pv 1) (aa bq ag))))) aG)
  (af (aL (aA zD (a7 a9 (by rfl) C.fV PySem.boot_len (aa (pv 1) ag)) (e9 fU (ay (pv 0) rfl) aw) (aH _)) (ae (bZ xM bt rfl (by rfl))) aG)
  (ae (a6 (aW F hr (by rfl) ai (aa (gj kQ (pv 1) oN (fB (pM jM aw))) (aa (aB a5 (pv 1) (pM jM aw) (fun _ _ => rfl)) ag))))))), ?_⟩
 refine ⟨_, rfl, a, R.cO, dx, _, _, rfl, ha, c.cl, c.na _ (by simp), rfl, _, rfl, a, R.cO, dx, _, _, rfl, ha, c.cl, c.na _ (by simp), rfl, rfl, _, rfl, ?_⟩
 cases d with
 | none => exact aZ ⟨_, rfl, l, us, .bf, os, .nil, ns, μ, h, B, rfl, .inl (.inl hl), W, pr, rfl, q⟩
 | some n =>
  obtain ⟨q1, q2⟩ := q
  refine aM ⟨_, rfl, l, _, rfl, .inl (.inl (.inl hl)), _, rfl, a, R.cO, dx, _, _, rfl, ha, c.cl, c.na _ (by simp), rfl, _, _, rfl, rfl, rfl, _, rfl, ?_⟩
  have el : us.length = os.length := pr.length.symm
  by_cases cc : os.length = n + 1
  ·have c2 : decide (V.int (us.length : Nat) = V.int ((n : Int) + 1)) = true := decide_eq_true (by rw [el, cc]; rfl)
   rw [c2]
   obtain ⟨wX, x, rfl⟩ : ∃ wX x, os = wX ++ [x] := by
    have rm : os ≠ [] := fun z => by rw [z] at cc; cases cc
    exact ⟨os.dropLast, os.getLast rm, (List.dropLast_concat_getLast rm).symm⟩
   obtain ⟨us', u, rfl, EA, rx⟩ := nR pr
   refine aM ⟨_, rfl, _, rfl, _, rfl, l, _, rfl, .inl (.inl hl), fun p np => ?_⟩
   have sp : aK H (upd H p (.lst (gw (us' ++ [u]) none (some (-1))))) := az np
   refine ⟨_, rfl, _, rfl, l, _, _, _, rfl, rfl, .inl (.inl (sp _ _ hl)), FC (l := us' ++ [u]) (u := u) (by simp), ?_⟩
   refine ⟨p, us', u, wX, x, ns, μ, h, B, rfl, ?_, W.mono (bF.of_same sp), aE EA (fun _ _ z => z.mono (.refl μ) (bF.of_same sp) (.refl ns)), rx.mono (.refl μ) (bF.of_same sp) (.refl ns), fun v' H' μ' s1 ml k8 W' r' => ?_⟩
   ·refine .inl (.inl ?_)
    rw [ah, DD, List.dropLast_concat]
   ·exact q2 wX x rfl cc v' H' μ' (sp.trans s1) ml (fun a z => (k8 a z).imp id fun z => (bh z).2) W' r'
  ·have c2 : decide (V.int (us.length : Nat) = V.int ((n : Int) + 1)) = false := decide_eq_false (by rw [el]; intro z; injection z with z; omega)
   rw [c2]
   exact aZ (q1 cc)
end
end Lsp
namespace Lsp
open PySem Spec PyProof.Rows L2
section
variable {P : Program} {w : World} {A : Ad} {R : Rc} {K : W.Frag} {mg : Str -> Option Value} {base : Heap} {lT lS cp cu cD : Addr}
theorem hZ.zero {H : Hp} {ns : List Sg02.Bytes} {μ : Mp} {hU : List Sg02.Bytes} {h0 : Sg02.Heap} {st : List Fr} {us : List V} {own : List Addr} {n1 : List Sg02.Bytes} {h1 : Sg02.Heap} (r : hZ R K H ns μ hU h0 st us own n1 h1) (k : hU[0]? = Sg02.known[0]?) : n1[0]? = Sg02.known[0]? := by
 induction r with
 | nil => exact k
 | quote r ih => exact ih
 | @list _ _ _ n1 h1 ps _ _ _ _ _ r ha hl pr na nl ne ih =>
  have e : Sg02.known[0]? = some (Sg02.ascii "quote") := rfl
  rw [e] at ih ⊢
  exact tY (sv ps n1 h1) ih
def zp (P : Program) (w : World) (A : Ad) (R : Rc) (K : W.Frag) : Sp := fun vs H Q E => ∃ (b : RB) (dx : Addr) (at_ : Nat) (st : List Fr) (us : List V) (own : List Addr) (nF : List Sg02.Bytes) (hF : Sg02.Heap) (ns : List Sg02.Bytes) (h : Sg02.Heap) (B : Nat) (μ : Mp) (t : Sg02.Tree) (o : Sg02.Obj) (v : V) (rest : Sg02.Bytes) (cn : Nat), vs = [.ref b.m, v] /\
 uS P w A R K b dx at_ st us own nF hF ns h B μ H /\ mk t nF hF = (ns, h, o) /\ VR K H ns μ o v /\ B + oM st + 1 <= cn /\ cn <= 400000 /\ ∀ H', uU P w A R K b cn at_ (bK rest st t) H' -> Q .bf H'
theorem xq : aq ["reading", "thing", "unfinished"] ["reading", "thing"] (aj Cz) := bQ
theorem Hd {aQ : Addr} (T : FT K mg "put" "put" Cz ["reading", "thing"]) (C : yP K mg lT lS cp cu) (nQ : oV K mg "NAME_QUOTE" aQ (bz (kn 0))) (c : CT K mg "Reading" R.cR ["text", "at", "unfinished", "done", "thing"]) (c2 : CT K mg "OpenList" R.cO ["parts", "parts_before_dot"]) (M : fK P w K mg base "Pair" A.cP 2 (jx sJ)) :
  aX P w K mg base 3 "put" ["reading", "thing"] (zp P w A R K) := by
 refine T.ok xq (fun vs H Q E h => by obtain ⟨_, _, _, _, _, _, _, _, _, _, _, _, _, _, _, _, _, rfl, _⟩ := h; rfl) fun f aU A' outer s H vs Q E hr h => ?_
 obtain ⟨b, dx, at_, st, us, own, nF, hF, ns, h, B, μ, t, o, v, rest, cn, rfl, R0, Jc, rv, hB, yo, q⟩ := h
 refine ⟨_, af (aJ (i := 2) xq.nd rfl (Or.inl rfl) (ay (pv 0) rfl))
  (af (d8 PassesOwn.leaving (pK (aA nS (a7 a9 (by rfl) C.fV PySem.boot_len (aa (pv 2) ag)) aw (aH _)) (ll (aA gJ (aB a5 (pv 2) (pM jM aw) (fun _ _ => rfl)) bq (aH _)))).pt
   (af (a8 (ue (pv 2))) (ae (aJ (i := 1) xq.nd rfl (Or.inl rfl) (b6 M hr (by rfl) ai (aa (ax (v := .ref aQ) (by rfl) nQ.yc rfl) (aa (b6 M hr (by rfl) ai (aa (pv 1) (aa bq ag))) ag)))))))
  (ae (aL (aA nS (a7 a9 (by rfl) C.fV PySem.boot_len (aa (pv 2) ag)) aw (aH _))
   (ae (a8 (aR (ay (aB a5 (pv 2) (pM jM aw) (fun _ _ => rfl)) rfl) (pv 1))))
   (af (aP (pv 0) (pv 1) rfl) (ae (aP (pv 0) vC rfl)))))), ?_⟩
 refine ⟨_, rfl, b.m, R.cR, dx, _, _, rfl, R0.cA, c.cl, c.na _ (by simp), rfl, ?_⟩
 refine ⟨fun n σ H' => ∃ (gz : List Fr) (us : List V) (own : List Addr) (nF : List Sg02.Bytes) (hF : Sg02.Heap) (ns : List Sg02.Bytes) (h : Sg02.Heap) (B : Nat) (μ : Mp) (t' : Sg02.Tree) (o : Sg02.Obj) (v : V), σ = [some (.ref b.m), some v, some (.ref b.al)] /\ n = us.length /\
  uS P w A R K b dx at_ gz us own nF hF ns h B μ H' /\ mk t' nF hF = (ns, h, o) /\ VR K H' ns μ o v /\ B + oM gz + 1 <= cn /\ bK rest gz t' = bK rest st t, ⟨_, st, us, own, nF, hF, ns, h, B, μ, t, o, v, rfl, rfl, R0, Jc, rv, hB, rfl⟩, ?_⟩
 clear R0 Jc rv hB
 rintro n σ H' ⟨gz, us, own, nF, hF, ns, h, B, μ, t', o, v, rfl, rfl, R1, Jc, rv, hB, HP⟩
 refine ⟨_, rfl, b.al, _, rfl, .inl (.inl (.inl R1.cH)), _, _, rfl, rfl, _, rfl, ?_⟩
 have eL := R1.eL
 cases eL with
 | nil =>
  refine aM (aM ⟨_, rfl, b.al, _, rfl, .inl (.inl (.inl R1.cH)), _, _, rfl, rfl, _, rfl, aM ?_⟩)
  refine ⟨_, rfl, _, rfl, b.m, R.cR, dx, _, rfl, R1.cA, c.cl, c.na _ (by simp), Hd.t5, ?_⟩
  refine ⟨_, rfl, b.m, R.cR, dx, _, rfl, ah, c.cl, c.na _ (by simp), Hd.t5, ?_⟩
  refine q _ ?_
  rw [<- HP]
  have im := fh (H := H') (o := .ins R.cR dx (br "thing" v (gf (.ref b.tl) (.int (at_ : Nat)) (.ref b.al) (.bl false) .bf))) R1.im
  have sH := fh (H := upd H' b.m (.ins R.cR dx (br "thing" v (gf (.ref b.tl) (.int (at_ : Nat)) (.ref b.al) (.bl false) .bf)))) (o := .ins R.cR dx (br "done" (.bl true) (br "thing" v (gf (.ref b.tl) (.int (at_ : Nat)) (.ref b.al) (.bl false) .bf)))) R1.im
  refine ⟨dx, v, ns, h, o, B, μ, ah, Jc, (R1.wr.mono im).mono sH, (rv.mono (.refl μ) im (.refl ns)).mono (.refl μ) sH (.refl ns), (R1.out.upd R1.fm).upd R1.fm, by have : oM [] = 0 := rfl; omega⟩
 | @quote jl oH _ _ _ r =>
  have c3 : decide ((0 : Int) < (((V.bf :: oH).reverse.length : Nat) : Int)) = true := decide_eq_true (by rw [List.length_reverse, List.length_cons]; omega)
  rw [c3]
  refine aZ ⟨_, rfl, _, rfl, b.al, _, _, _, rfl, rfl, .inl (.inl R1.cH), gy _ oH, rfl, _, rfl, aZ ?_⟩
  refine ⟨fun σ' H2 => ∃ (gz : List Fr) (us : List V) (own : List Addr) (nF : List Sg02.Bytes) (hF : Sg02.Heap) (ns : List Sg02.Bytes) (h : Sg02.Heap) (B : Nat) (μ : Mp) (t' : Sg02.Tree) (o : Sg02.Obj) (v : V), σ' = [some (.ref b.m), some v, some (.ref b.al)] /\ oH.length = us.length /\
   uS P w A R K b dx at_ gz us own nF hF ns h B μ H2 /\ mk t' nF hF = (ns, h, o) /\ VR K H2 ns μ o v /\ B + oM gz + 1 <= cn /\ bK rest gz t' = bK rest st t, (fun σ' H2 z => ⟨oH.length, by rw [List.length_cons]; exact Nat.lt_succ_self _, z⟩), ?_⟩
  have ed : (V.bf :: oH).reverse.dropLast = oH.reverse := by rw [List.reverse_cons]; simp
  refine ⟨_, rfl, .inl ⟨rfl, _, .inl (.inl R1.cH)⟩, b.al, _, .bf, rfl, rfl, R1.cH, by rw [List.length_reverse, List.reverse_cons]; simp, ?_⟩
  rw [ed]
  have R2 := R1.stack r R1.rq R1.rk R1.mo R1.ao
  have i2 := fh (H := H') (o := .lst oH.reverse) R1.Gf
  have PB := rv.mono (.refl μ) i2 (.refl ns)
  refine ⟨_, rfl, rfl, fun x1 d1 H3 n3 e3 s3 => ⟨rfl, fun x2 d2 H4 n4 e4 s4 => ?_⟩⟩
  obtain ⟨m3, W3, r3⟩ := R2.wr.cons PB (d := .nil) (vd := .bf) rfl n3 e3 (bF.of_same s3)
  have vq := FK (by decide) nQ W3.names H3 (μ.yN h.next x1)
  obtain ⟨m4, W4, r4⟩ := W3.cons vq r3 n4 e4 (bF.of_same s4)
  have R4 := R2.grow (s3.trans s4) (m3.trans m4) (fun a z => by
   rcases z with z | z | z
   ·exact .inr (by rw [z]; exact s3.free n4)
   ·exact .inr (by rw [z]; exact n3)
   ·exact .inl z) (.refl ns) W4
  have k0 := r.zero R1.k0
  have eq := CP k0 t' hF
  rw [Jc] at eq
  refine ⟨jl, oH, own, nF, hF, ns, _, B + 1 + 1, _, qt t', _, _, rfl, rfl, R4, eq, r4, ?_, HP⟩
  rw [d9] at hB
  have hB : B + (2 + oM jl) + 1 <= cn := hB
  omega
 | @list jl oH ug n1 h1 ps d a dy l vs r ha hl pr na nl ne =>
  have c3 : decide ((0 : Int) < (((V.ref a :: oH).reverse.length : Nat) : Int)) = true := decide_eq_true (by rw [List.length_reverse, List.length_cons]; omega)
  rw [c3]
  refine aZ ⟨_, rfl, _, rfl, b.al, _, _, _, rfl, rfl, .inl (.inl R1.cH), gy _ oH, rfl, _, rfl, aM ?_⟩
  refine ⟨_, rfl, b.al, _, rfl, .inl (.inl (.inl R1.cH)), _, _, rfl, rfl, _, rfl, ?_⟩
  rw [c3]
  refine aZ ⟨_, rfl, _, rfl, b.al, _, _, _, rfl, rfl, .inl (.inl R1.cH), gy _ oH, a, R.cO, dy, _, _, rfl, ha, c2.cl, c2.na _ (by simp), rfl, .inl ⟨rfl, _, .inl (.inl hl)⟩, _, rfl, l, vs, v, rfl, rfl, hl, ?_, ?_⟩
  ·have e1 : vs.length = ps.length := by rw [<- pr.length, gs]
   rw [d9] at hB
   have hB : B + ((ps.length + 1) + oM jl) + 1 <= cn := hB
   exact eh (by omega)
  ·refine q _ ?_
   rw [<- HP]
   have e1 : bw (ps ++ [t']) n1 h1 = (ns, h, (bw ps n1 h1).2.2 ++ [o]) := by rw [kf, Jc]
   have il : ¬ μ.im l := R1.rk l (zA1 _ zA2)
   have im := fh (H := H') (o := .lst (vs ++ [v])) il
   have PZ : b.m ≠ l := fun z => R1.mo (by rw [z]; exact zA1 _ zA2)
   have AL : b.al ≠ l := fun z => R1.ao (by rw [z]; exact zA1 _ zA2)
   have f2 : hZ R K (upd H' l (.lst (vs ++ [v]))) ns μ b.hU b.h0 (.list (ps ++ [t']) d :: jl) (.ref a :: oH) (a :: l :: ug) (bw (ps ++ [t']) n1 h1).1 (bw (ps ++ [t']) n1 h1).2.1 := by
    refine .list (r.mono (.refl μ) im (.refl ns) fun x hx => ak fun z => nl (by rw [<- z]; exact hx)) ((ak ne).trans ha) ah ?_ na nl ne
    rw [e1]
    exact Paired.snoc (aE pr fun _ _ z => z.mono (.refl μ) im (.refl ns)) (rv.mono (.refl μ) im (.refl ns))
   rw [e1] at f2
   refine ⟨dx, _, _, ns, h, B, μ, ⟨(ak PZ).trans R1.cA, (ak AL).trans R1.cH, f2, R1.wr.mono im, R1.out.upd (R1.rq l (zA1 _ zA2)), R1.fm, R1.r8, R1.rq, R1.im, R1.Gf, R1.rk, R1.mo, R1.ao, R1.ma, R1.FP, R1.k0⟩, ?_⟩
   rw [d9] at hB ⊢
   have hB : B + ((ps.length + 1) + oM jl) + 1 <= cn := hB
   show B + (((ps ++ [t']).length + 1) + oM jl) <= cn
   (rw [List.length_append, List.length_cons, List.length_nil])
   omega
end
end Lsp
namespace Lsp
open PySem Spec PyProof.Rows L2
theorem Em (T : Sg02.Bytes) (n : Nat) : (tv T).drop n = tv (T.drop n) := by unfold tv bz; simp
theorem dX {n d : Nat} {k : Nat} (h : k <= n) : HT.dm n d (some (k : Int)) = k := by
 rw [HT.dX]
 omega
theorem DB {T wd rest : Sg02.Bytes} {k : Nat} (h : T.drop k = wd ++ rest) (hk : k <= T.length) : gw (tv T) (some (k : Int)) (some ((T.length - rest.length : Nat) : Int)) = tv wd := by
 have hl := congrArg List.length h
 rw [List.length_drop, List.length_append] at hl
 have h1 : HT.dm (tv T).length 0 (some (k : Int)) = k := dX (by rw [b5]; exact hk)
 have h2 : HT.dm (tv T).length (tv T).length (some ((T.length - rest.length : Nat) : Int)) = T.length - rest.length := dX (by rw [b5]; omega)
 unfold gw
 rw [h1, h2, Em, h, lV, List.take_append_of_le_length (by rw [b5]; omega)]
 refine List.take_of_length_le ?_
 rw [b5]
 omega
theorem fJ.add {ns : List Sg02.Bytes} {b : Sg02.Bytes} (n : fJ ns) (h0 : b ≠ []) (h1 : b.length <= 15) : fJ (fW ns b) := by
 unfold fW
 split
 ·exact n
 ·rename_i hc
  have hn : b ∉ ns := by simpa using hc
  refine ⟨?_, fun i hi => ?_, fun c hc => ?_, fun c hc => ?_⟩
  ·rw [List.nodup_append]
   refine ⟨n.nd, by simp, fun x hx y hy z => ?_⟩
   rw [List.mem_singleton] at hy
   subst hy
   subst z
   exact hn hx
  ·have hk := n.known i hi
   have QF : i < Sg02.known.length := hi
   rw [List.getElem?_eq_getElem QF] at hk ⊢
   exact tY (List.prefix_append _ _) hk
  ·rcases List.mem_append.mp hc with z | z
   ·exact n.ne c z
   ·rw [List.mem_singleton] at z; rw [z]; exact h0
  ·rcases List.mem_append.mp hc with z | z
   ·exact n.le c z
   ·rw [List.mem_singleton] at z; rw [z]; exact h1
theorem zE {a b : List Sg02.Bytes} (p : a <+: b) : jg a b := fun _ _ h => tY p h
def gH : RS -> Nat
 | .go b _ => b.length
 | .done _ b => b.length
 | .bad => 0
section
variable {P : Program} {w : World} {A : Ad} {R : Rc} {K : W.Frag} {mg : Str -> Option Value} {base : Heap} {lT lS cp cu cD qF : Addr}
def ow (P : Program) (w : World) (A : Ad) (R : Rc) (K : W.Frag) (cD : Addr) (b : RB) (cn at_ : Nat) (rs : RS) (Q : VK) (E : XK) : Prop := (rs = .bad -> ∀ H', aK b.H0 H' -> E (.ref cD) none H') /\ ∀ H', uU P w A R K b cn at_ rs H' -> Q .bf H'
def zk (P : Program) (w : World) (A : Ad) (R : Rc) (K : W.Frag) (cD : Addr) : Sp := fun vs H Q E => ∃ (b : RB) (dx : Addr) (at_ : Nat) (st : List Fr) (us : List V) (own : List Addr) (ns : List Sg02.Bytes) (h : Sg02.Heap) (B : Nat) (μ : Mp) (k : Nat) (c : UInt8) (cn : Nat), vs = [.ref b.m, .int (k : Nat)] /\
 uS P w A R K b dx at_ st us own ns h ns h B μ H /\ b.T[k]? = some c /\ Sg02.ends c = false /\ B + oM st + 1 <= cn /\ cn <= 400000 /\ b.T.length <= 65535 /\ ow P w A R K cD b cn (b.T.length - (Sg02.word (b.T.drop k)).2.length) (ie (Sg02.word (b.T.drop k)).2 st (Sg02.wordOf (Sg02.word (b.T.drop k)).1)) Q E
theorem kS : aq ["reading", "at", "word"] ["reading", "at"] (aj iz) := bQ
theorem uj (T : FT K mg "read_word" "read_word" iz ["reading", "at"]) (C : yP K mg lT lS cp cu) (c : CT K mg "Reading" R.cR ["text", "at", "unfinished", "done", "thing"]) (F1 : aX P w K mg base 1 "end_of_word" ["text", "at"] (Cp K)) (F2 : aX P w K mg base 1 "put_dot" ["innermost"] (FX R cD))
  (F3 : aX P w K mg base 1 "innermost_list" ["reading"] (Ck R cD)) (F4 : aX P w K mg base 3 "put" ["reading", "thing"] (zp P w A R K)) (F5 : aX P w K mg base 3 "thing_of_word" ["word"] (zj K cD)) : aX P w K mg base 4 "read_word" ["reading", "at"] (zk P w A R K cD) := by
 refine T.ok kS (fun vs H Q E h => by obtain ⟨_, _, _, _, _, _, _, _, _, _, _, _, _, rfl, _⟩ := h; rfl) fun f aU A' outer s H vs Q E hr h => ?_
 obtain ⟨b, dx, at_, st, us, own, ns, h, B, μ, k, ch, cn, rfl, R0, hc, Nl, hB, yo, hT, q⟩ := h
 have jw := hr.mono (show 1 <= 3 by decide)
 refine ⟨_, af (aP (pv 0) (aW F1 jw (by rfl) ai (aa (ay (pv 0) rfl) (aa (pv 1) ag))) rfl)
  (af (aJ (i := 2) kS.nd rfl (Or.inl rfl) (eY rG (by rfl) C.Iv boot_tuple (aa (gj kQ (ay (pv 0) rfl) (fB (pv 1)) (fB (ay (pv 0) rfl))) ag)))
  (ae (aL (aA (iJ hr.units) (pv 2) (ax (v := .ref cp) (by rfl) C.dot.yc rfl) (aH _))
   (ae (a8 (aW F2 jw (by rfl) ai (aa (aW F3 jw (by rfl) ai (aa (pv 0) ag)) ag))))
   (ae (a8 (aW F4 hr (by rfl) ai (aa (pv 0) (aa (aW F5 hr (by rfl) ai (aa (pv 2) ag)) ag)))))))), ?_⟩
 have hk : k < b.T.length := (List.getElem?_eq_some_iff.mp hc).1
 have hd := drop_cons hc
 have hw := Az (b.T.drop k)
 generalize LC : (b.T.drop k).takeWhile (fun c => !Sg02.ends c) = wd at hw
 generalize Gq : (b.T.drop k).dropWhile (fun c => !Sg02.ends c) = rest at hw
 have e1 : (Sg02.word (b.T.drop k)).1 = wd := LC
 have e2 : (Sg02.word (b.T.drop k)).2 = rest := Gq
 rw [e1, e2] at q
 have NZ : wd ≠ [] := fun z => by
  rw [hd, List.takeWhile_cons, if_pos (by rw [Nl]; rfl)] at LC
  rw [z] at LC
  cases LC
 have HM := congrArg List.length hw
 rw [List.length_drop, List.length_append] at HM
 have hS := R0.out.same.seq R0.FP
 refine ⟨_, rfl, b.m, R.cR, dx, _, _, rfl, R0.cA, c.cl, c.na _ (by simp), rfl, _, rfl, b.tl, b.T, k, rfl, hS, Nat.le_of_lt hk, _, rfl, b.m, R.cR, dx, _, rfl, R0.cA, c.cl, c.na _ (by simp), Hd.t5, ?_⟩
 rw [Gq]
 have R1 := R0.setAt (n := b.T.length - rest.length)
 have Gj := R1.out.same.seq R1.FP
 refine ⟨_, rfl, b.m, R.cR, dx, _, _, rfl, R1.cA, c.cl, c.na _ (by simp), rfl, _, rfl, _, rfl, _, rfl, b.m, R.cR, dx, _, _, rfl, R1.cA, c.cl, c.na _ (by simp), rfl, _, rfl, b.tl, _, rfl, Gj, fun p np => ⟨p, _, rfl, .inl ⟨.inl (.inl ah), fun wt Lk => ?_⟩⟩⟩
 rw [DB hw (Nat.le_of_lt hk)] at Lk ⊢
 generalize Gr : upd H b.m (.ins R.cR dx (br "at" (.int ((b.T.length - rest.length : Nat) : Int)) (gf (.ref b.tl) (.int (at_ : Nat)) (.ref b.al) (.bl false) .bf))) = H1 at R1 np Lk ⊢
 generalize Jd : upd (upd H1 p (.lst (tv wd))) wt (.tup (tv wd)) = H3
 have s3 : aK H1 H3 := by rw [<- Jd]; exact (az np).trans (az Lk)
 have Km : H3 wt = some (.tup (tv wd)) := by rw [<- Jd]; exact ah
 have Mx : H1 wt = Option.none := (bh Lk).2
 have R3 := R1.grow s3 (.refl μ) (fun a z => .inl z) (.refl ns) (R1.wr.mono (bF.of_same s3))
 have OW : ft K H3 wt (tv wd) := .inl (.inl Km)
 refine ⟨_, rfl, .name (bz wd), .name (bz [46]), .name OW, .name (.inr C.dot.tup), _, rfl, rH (fun z => ?_) fun z => ?_⟩
 ·have z : wd = [46] := by have := of_decide_eq_true z; injection this with this; exact uP this
  have ew : Sg02.wordOf wd = .dot := by rw [z]; decide
  rw [ew] at q
  have q : ow P w A R K cD b cn (b.T.length - rest.length) (gv rest st) Q E := q
  refine ⟨_, rfl, b.m, dx, b.al, _, _, _, _, us, rfl, R3.cA, R3.cH, ?_⟩
  have eL := R3.eL
  cases eL with
  | nil => exact q.1 rfl H3 R3.out.same
  | quote r => exact .inl ⟨rfl, q.1 rfl H3 R3.out.same⟩
  | @list jl oH ug n1 h1 ps d a dy l vs r ha hl pr na nl ne =>
   refine .inr ⟨a, rfl, a, dy, l, d, vs, rfl, ha, hl, fun z => ?_, fun z1 z2 => ?_⟩
   ·have e1 : vs.length = ps.length := by rw [<- pr.length, gs]
    have eb : gv rest (.list ps d :: jl) = .bad := if_pos (z.imp (fun z => List.eq_nil_of_length_eq_zero (by rw [<- e1, z]; rfl)) id)
    exact q.1 eb H3 R3.out.same
   ·subst z2
    have e1 : vs.length = ps.length := by rw [<- pr.length, gs]
    have eb : gv rest (.list ps none :: jl) = .go rest (.list ps (some ps.length) :: jl) := if_neg (by
     rintro (w | w)
     ·exact z1 (List.eq_nil_of_length_eq_zero (by rw [e1, w]; rfl))
     ·exact w rfl)
    rw [eb] at q
    refine q.2 _ ?_
    have ia : ¬ μ.im a := R3.rk a zA2
    have im := fh (H := H3) (o := .ins R.cO dy (sr (.ref l) (D4 (some vs.length)))) ia
    have Ln : b.m ≠ a := fun z => R3.mo (by rw [z]; exact zA2)
    have MA : b.al ≠ a := fun z => R3.ao (by rw [z]; exact zA2)
    refine ⟨dx, _, _, _, _, B, μ, ⟨(ak Ln).trans R3.cA, (ak MA).trans R3.cH, ?_, R3.wr.mono im, R3.out.upd (R3.rq a zA2), R3.fm, R3.r8, R3.rq, R3.im, R3.Gf, R3.rk, R3.mo, R3.ao, R3.ma, R3.FP, R3.k0⟩, ?_⟩
    ·refine .list (r.mono (.refl μ) im (.refl _) fun x hx => ak fun z => na (by rw [<- z]; exact hx)) (by rw [ah, e1]) ((ak ne.symm).trans hl) (aE pr fun _ _ z => z.mono (.refl μ) im (.refl _)) na nl ne
    ·rw [d9] at hB ⊢
     have hB : B + ((ps.length + 1) + oM jl) + 1 <= cn := hB
     show B + ((ps.length + 1) + oM jl) <= cn
     omega
 ·have nd : wd ≠ [46] := fun w => of_decide_eq_false z (by rw [w])
  refine ⟨_, rfl, _, rfl, wt, wd, rfl, OW, NZ, nd, by omega, ?_⟩
  have step : ∀ (t : Sg02.Tree) (o : Sg02.Obj) (v : V) (H4 : Hp), ie rest st (Sg02.wordOf wd) = bK rest st t -> aK H3 H4 -> mk t ns h = (ns, h, o) -> (∀ H, VR K H ns μ o v) -> zp P w A R K [.ref b.m, v] H4 Q E := fun t o v H4 ew s4 em rv => by
   rw [ew] at q
   exact ⟨b, dx, _, st, us, own, ns, h, ns, h, B, μ, t, o, v, rest, cn, rfl, R3.grow s4 (.refl μ) (fun a z => .inl z) (.refl ns) (R3.wr.mono (bF.of_same s4)), em, rv H4, hB, yo, q.2⟩
  cases e : Sg02.wordOf wd with
  | int z => exact fun zr H4 s4 => step (.int z) (.int z) (.int z) H4 (by rw [e]; rfl) s4 rfl fun _ => ⟨rfl, zr⟩
  | nil => exact fun H4 s4 => step .nil .nil .bf H4 (by rw [e]; rfl) s4 rfl fun _ => rfl
  | dot => exact True.intro
  | bad =>
   rw [e] at q
   exact fun H4 s4 => q.1 rfl H4 (R3.out.same.trans s4)
  | name b' =>
   intro eb QX H4 s4
   subst eb
   rw [e] at q
   have ok := R3.wr.names.add NZ QX
   have pre := wV ns b'
   have R9 := s4
   have M6 : H1 wt = Option.none := Mx
   have W4 : WR P w A K H4 (fW ns b') (μ.add wt) h B := ((R3.wr.mono (bF.of_same s4)).more (zE pre) ok).FG wt ⟨_, s4 _ _ Km⟩
   have R4 := R1.grow (s3.trans s4) (dB.add μ wt) (fun a z => z.elim (fun z => .inr (by rw [z]; exact M6)) .inl) (zE pre) W4
   exact ⟨b, dx, _, st, us, own, ns, h, fW ns b', h, B, μ.add wt, .name b', .name ((fW ns b').idxOf b'), .ref wt, rest, cn, rfl, R4, rfl, ⟨wt, b', rfl, zL b' _ (vV ns b'), .inr ⟨.inl rfl, s4 _ _ Km⟩⟩, hB, yo, q.2⟩
end
end Lsp
namespace Lsp
open PySem Spec PyProof.Rows L2
theorem f6 : ∀ (k : Nat) (b : Sg02.Bytes), Sg02.skip k b <:+ b
 | 0, b => by rw [Sg02.skip]; exact List.suffix_refl b
 | k + 1, [] => by rw [Sg02.skip]; exact List.suffix_refl _
 | k + 1, c :: r => by
  rw [Sg02.skip]
  split
  ·exact (f6 k r).trans (List.suffix_cons c r)
  ·split
   ·exact ((f6 k _).trans (List.dropWhile_suffix _)).trans (List.suffix_cons c r)
   ·exact List.suffix_refl _
theorem suffix_at {l T : Sg02.Bytes} (h : l <:+ T) : T.drop (T.length - l.length) = l := (List.suffix_iff_eq_drop.mp h).symm
theorem JB (T : Sg02.Bytes) (n : Nat) : sk (T.drop n) <:+ T := (f6 _ _).trans (List.drop_suffix n T)
def uQ (b : Sg02.Bytes) : RS -> Prop
 | .go r _ => r <:+ b
 | .done _ r => r <:+ b
 | .bad => True
theorem gg {b r : Sg02.Bytes} (h : r <:+ b) : ∀ (st : List Fr) (t : Sg02.Tree), uQ b (bK r st t)
 | [], t => h
 | .quote :: st, t => gg h st _
 | .list ps d :: st, t => h
theorem xg {b r : Sg02.Bytes} (h : r <:+ b) (st : List Fr) (wd : Sg02.Word) : uQ b (ie r st wd) := by
 cases wd with
 | int z => exact gg h _ _
 | nil => exact gg h _ _
 | name z => exact gg h _ _
 | bad => trivial
 | dot =>
  show uQ b (gv r st)
  unfold gv
  split
  ·split
   ·trivial
   ·exact h
  ·trivial
theorem xC (b : Sg02.Bytes) (st : List Fr) : uQ b (cz b st) := by
 unfold cz
 have hs := f6 b.length b
 cases e : Sg02.skip b.length b with
 | nil => trivial
 | cons c r =>
  rw [e] at hs
  have hr : r <:+ b := (List.suffix_cons c r).trans hs
  rw [b9]
  split
  ·exact hr
  ·split
   ·exact hr
   ·split
    ·unfold dn
     split
     ·split
      ·exact gg hr _ _
      ·trivial
     ·trivial
    ·exact xg (r := (Sg02.word (c :: r)).2) ((show List.dropWhile (fun c => !Sg02.ends c) (c :: r) <:+ c :: r from List.dropWhile_suffix _).trans hs) st _
section
variable {P : Program} {w : World} {A : Ad} {R : Rc} {K : W.Frag} {mg : Str -> Option Value} {base : Heap} {lT lS cp cu cD qF : Addr}
theorem gh {r : Sg02.Bytes} : ∀ (st : List Fr) (t : Sg02.Tree), gH (bK r st t) = r.length
 | [], t => rfl
 | .quote :: st, t => gh st _
 | .list ps d :: st, t => rfl
theorem Ap {r : Sg02.Bytes} {st : List Fr} {wd : Sg02.Word} (h : ie r st wd ≠ .bad) : gH (ie r st wd) = r.length := by
 cases wd with
 | int z => exact gh _ _
 | nil => exact gh _ _
 | name z => exact gh _ _
 | bad => exact absurd rfl h
 | dot =>
  have h : gv r st ≠ .bad := h
  show gH (gv r st) = r.length
  unfold gv at h ⊢
  split
  ·split
   ·rename_i hc
    exact absurd (if_pos hc) h
   ·rfl
  ·rename_i hc
   exfalso
   split at h
   ·exact hc _ _ _ rfl
   ·exact h rfl
def zh (P : Program) (w : World) (A : Ad) (R : Rc) (K : W.Frag) (cD : Addr) : Sp := fun vs H Q E => ∃ (b : RB) (dx : Addr) (at_ : Nat) (st : List Fr) (us : List V) (own : List Addr) (ns : List Sg02.Bytes) (h : Sg02.Heap) (B : Nat) (μ : Mp) (cn : Nat), vs = [.ref b.m] /\
 uS P w A R K b dx at_ st us own ns h ns h B μ H /\ at_ <= b.T.length /\ B + oM st + 2 <= cn /\ cn <= 400000 /\ b.T.length <= 65535 /\ ow P w A R K cD b cn (b.T.length - gH (cz (b.T.drop at_) st)) (cz (b.T.drop at_) st) Q E
theorem dW : aq ["reading", "at", "byte", "innermost"] ["reading"] (aj gD) := bQ
theorem qW (T : FT K mg "read_token" "read_token" gD ["reading"]) (C : yP K mg lT lS cp cu) (xM : jK K mg "MalformedText" cD) (c : CT K mg "Reading" R.cR ["text", "at", "unfinished", "done", "thing"]) (MO : fK P w K mg base "OpenList" R.cO 0 (gL Dr))
  (F1 : aX P w K mg base 1 "after_blanks" ["text", "at"] (tD K)) (F3 : aX P w K mg base 1 "innermost_list" ["reading"] (Ck R cD)) (F4 : aX P w K mg base 3 "put" ["reading", "thing"] (zp P w A R K)) (F5 : aX P w K mg base 4 "closed" ["innermost"] (vy P w A R K cD))
  (F6 : aX P w K mg base 4 "read_word" ["reading", "at"] (zk P w A R K cD)) : aX P w K mg base 5 "read_token" ["reading"] (zh P w A R K cD) := by
 obtain ⟨u1, m1, r1⟩ := C.Mv
 obtain ⟨u2, m2, r2⟩ := C.Ru
 obtain ⟨u3, m3, r3⟩ := C.cls
 refine T.ok dW (fun vs H Q E h => by obtain ⟨_, _, _, _, _, _, _, _, _, _, _, rfl, _⟩ := h; rfl) fun f aU A' outer s H vs Q E hr h => ?_
 obtain ⟨b, dx, at_, st, us, own, ns, h, B, μ, cn, rfl, R0, lD, hB, yo, hT, q⟩ := h
 have jw := hr.mono (show 1 <= 4 by decide)
 have rl := hr.mono (show 2 <= 4 by decide)
 have IV := hr.mono (show 3 <= 4 by decide)
 refine ⟨_, af (aJ (i := 1) dW.nd rfl (Or.inl rfl) (aW F1 jw (by rfl) ai (aa (ay (pv 0) rfl) (aa (ay (pv 0) rfl) ag))))
  (af (aL (aA dC (pv 1) (a7 a9 (by rfl) C.fV PySem.boot_len (aa (ay (pv 0) rfl) ag)) (aH _)) (ae (bZ xM bt rfl (by rfl))) aG)
  (af (aJ (i := 2) dW.nd rfl (Or.inl rfl) (aB a5 (ay (pv 0) rfl) (pv 1) (fun _ _ => rfl)))
  (af (aP (pv 0) (e9 fU (pv 1) aw) rfl)
  (ae (aL (aA dC (pv 2) (ax (by rfl) m1 r1) (aH _)) (ae (a8 (aR (ay (pv 0) rfl) (CB MO rl (by rfl) ai))))
   (ae (aL (aA dC (pv 2) (ax (by rfl) m2 r2) (aH _)) (ae (a8 (aR (ay (pv 0) rfl) bq)))
    (ae (aL (aA dC (pv 2) (ax (by rfl) m3 r3) (aH _))
     (af (aJ (i := 3) dW.nd rfl (Or.inl rfl) (aW F3 jw (by rfl) ai (aa (pv 0) ag))) (af (a8 (ue (ay (pv 0) rfl))) (ae (a8 (aW F4 IV (by rfl) ai (aa (pv 0) (aa (aW F5 hr (by rfl) ai (aa (pv 3) ag)) ag)))))))
     (ae (a8 (aW F6 hr (by rfl) ai (aa (pv 0) (aa (pv 1) ag)))))))))))))), ?_⟩
 have hS := R0.out.same.seq R0.FP
 have Ko := JB b.T at_
 have Fm := suffix_at Ko
 have hle := Ko.length_le
 refine ⟨_, rfl, b.m, R.cR, dx, _, _, rfl, R0.cA, c.cl, c.na _ (by simp), rfl, _, rfl, b.m, R.cR, dx, _, _, rfl, R0.cA, c.cl, c.na _ (by simp), rfl, b.tl, b.T, at_, rfl, hS, lD, ?_⟩
 refine ⟨_, rfl, _, rfl, b.m, R.cR, dx, _, _, rfl, R0.cA, c.cl, c.na _ (by simp), rfl, b.tl, _, rfl, .inl hS, rfl, _, rfl, ?_⟩
 rw [b5]
 have Rh : cz (b.T.drop at_) st = kL st (sk (b.T.drop at_)) := rfl
 rw [Rh] at q
 cases N4 : sk (b.T.drop at_) with
 | nil =>
  rw [N4] at q
  have c2 : decide (V.int ((b.T.length - ([] : Sg02.Bytes).length : Nat) : Int) = V.int ((b.T.length : Nat) : Int)) = true := decide_eq_true (by simp)
  rw [c2]
  exact aZ (q.1 rfl H R0.out.same)
 | cons ch r =>
  rw [N4] at q Fm hle
  rw [List.length_cons] at hle
  generalize ek : b.T.length - (ch :: r).length = k at Fm
  have Se : b.T.length - (r.length + 1) = k := ek
  have c2 : decide (V.int ((k : Nat) : Int) = V.int ((b.T.length : Nat) : Int)) = false := decide_eq_false (by intro z; injection z with z; omega)
  rw [c2]
  have hc : b.T[k]? = some ch := by
   have : (b.T.drop k)[0]? = some ch := by rw [Fm]; rfl
   rw [List.getElem?_drop] at this
   simpa using this
  refine aM ⟨_, rfl, b.m, R.cR, dx, _, _, rfl, R0.cA, c.cl, c.na _ (by simp), rfl, _, rfl, b.tl, _, _, _, rfl, rfl, hS, kK hc, ?_⟩
  refine ⟨_, rfl, _, _, rfl, rfl, _, rfl, b.m, R.cR, dx, _, rfl, R0.cA, c.cl, c.na _ (by simp), Hd.t5, ?_⟩
  have R1 : uS P w A R K b dx (k + 1) st us own ns h ns h B μ (upd H b.m (.ins R.cR dx (br "at" (.int ((k : Int) + 1)) (gf (.ref b.tl) (.int (at_ : Nat)) (.ref b.al) (.bl false) .bf)))) := R0.setAt (n := k + 1)
  generalize Gr : upd H b.m (.ins R.cR dx (br "at" (.int ((k : Int) + 1)) (gf (.ref b.tl) (.int (at_ : Nat)) (.ref b.al) (.bl false) .bf))) = H1 at R1 ⊢
  have LD : b.T.length - r.length = k + 1 := by omega
  have RK := R1.eL.len
  refine ⟨_, rfl, rfl, _, rfl, ?_⟩
  show if (decide (V.int (ch.toNat : Nat) = V.int (40 : Nat))) = true then _ else _
  rw [eU ch 40 (by decide)]
  have hh := dE _ _ ch r (zA0 _) N4
  refine rH (fun z => ?_) fun IF => ?_
  ·have z : ch = 40 := by simpa using z
   have et : kL st (ch :: r) = .go r (.list [] none :: st) := by rw [b9, if_pos z]
   rw [et] at q
   have q : ow P w A R K cD b cn (b.T.length - r.length) (.go r (.list [] none :: st)) Q E := q
   rw [LD] at q
   refine ⟨_, rfl, b.m, R.cR, dx, _, _, rfl, R1.cA, c.cl, c.na _ (by simp), rfl, .inl ⟨rfl, _, .inl (.inl R1.cH)⟩, rfl, fun a dy l H2 na nl AL ha hl s2 => ⟨b.al, _, _, rfl, rfl, s2 _ _ R1.cH, ?_, ?_⟩⟩
   ·rw [List.length_reverse]; exact eh (by omega)
   ·refine q.2 _ ?_
    have R2 := R1.grow s2 (.refl μ) (fun a z => .inl z) (.refl ns) (R1.wr.mono (bF.of_same s2))
    have kd : ∀ x, H1 x = Option.none -> ¬ μ.im x := fun x e z => by obtain ⟨o, eo⟩ := R1.wr.y9 x z; rw [e] at eo; cases eo
    have no : ∀ x, H1 x = Option.none -> x ∉ own := fun x e z => by obtain ⟨o, eo⟩ := R1.eL.there x z; rw [e] at eo; cases eo
    have fr : hZ R K H2 ns μ b.hU b.h0 (.list [] none :: st) (.ref a :: us) (a :: l :: own) ns h := .list (ps := []) R2.eL ha hl .nil (no a na) (no l nl) AL
    have R3 := R2.stack fr (fun x hx => by
      rcases List.mem_cons.mp hx with z | hx
      ·rw [z]; exact R1.out.same.free na
      ·rcases List.mem_cons.mp hx with z | hx
       ·rw [z]; exact R1.out.same.free nl
       ·exact R1.rq x hx) (fun x hx => by
      rcases List.mem_cons.mp hx with z | hx
      ·rw [z]; exact kd a na
      ·rcases List.mem_cons.mp hx with z | hx
       ·rw [z]; exact kd l nl
       ·exact R1.rk x hx) (fun hx => by
      rcases List.mem_cons.mp hx with z | hx
      ·rw [<- z, R1.cA] at na; cases na
      ·rcases List.mem_cons.mp hx with z | hx
       ·rw [<- z, R1.cA] at nl; cases nl
       ·exact R1.mo hx) (fun hx => by
      rcases List.mem_cons.mp hx with z | hx
      ·rw [<- z, R1.cH] at na; cases na
      ·rcases List.mem_cons.mp hx with z | hx
       ·rw [<- z, R1.cH] at nl; cases nl
       ·exact R1.ao hx)
    rw [List.reverse_cons] at R3
    refine ⟨dx, _, _, _, _, B, μ, R3, ?_⟩
    rw [d9]
    show B + ((0 + 1) + oM st) <= cn
    omega
  ·have IF : ¬ ch = 40 := by simpa using IF
   refine ⟨_, rfl, rfl, _, rfl, ?_⟩
   show if (decide (V.int (ch.toNat : Nat) = V.int (39 : Nat))) = true then _ else _
   rw [eU ch 39 (by decide)]
   refine rH (fun z => ?_) fun Jk => ?_
   ·have z : ch = 39 := by simpa using z
    have et : kL st (ch :: r) = .go r (.quote :: st) := by rw [b9, if_neg IF, if_pos z]
    rw [et] at q
    have q : ow P w A R K cD b cn (b.T.length - r.length) (.go r (.quote :: st)) Q E := q
    rw [LD] at q
    refine ⟨_, rfl, b.m, R.cR, dx, _, _, rfl, R1.cA, c.cl, c.na _ (by simp), rfl, .inl ⟨rfl, _, .inl (.inl R1.cH)⟩, b.al, _, _, rfl, rfl, R1.cH, ?_, ?_⟩
    ·rw [List.length_reverse]; exact eh (by omega)
    ·refine q.2 _ ?_
     have R3 := R1.stack (.quote R1.eL) R1.rq R1.rk R1.mo R1.ao
     rw [List.reverse_cons] at R3
     refine ⟨dx, _, _, _, _, B, μ, R3, ?_⟩
     rw [d9]
     show B + (2 + oM st) <= cn
     omega
   ·have Jk : ¬ ch = 39 := by simpa using Jk
    refine ⟨_, rfl, rfl, _, rfl, ?_⟩
    show if (decide (V.int (ch.toNat : Nat) = V.int (41 : Nat))) = true then _ else _
    rw [eU ch 41 (by decide)]
    refine rH (fun z => ?_) fun Lb => ?_
    ·have z : ch = 41 := by simpa using z
     have et : kL st (ch :: r) = dn r st := by rw [b9, if_neg IF, if_neg Jk, if_pos z]
     rw [et] at q
     refine ⟨_, rfl, b.m, dx, b.al, _, _, _, _, us, rfl, R1.cA, R1.cH, ?_⟩
     have eL := R1.eL
     cases eL with
     | nil => exact q.1 rfl H1 R1.out.same
     | quote r => exact .inl ⟨rfl, q.1 rfl H1 R1.out.same⟩
     | @list jl oH ug n1 h1 ps d a dy l vs fr ha hl pr na nl ne =>
      refine .inr ⟨a, rfl, ?_⟩
      have ed : (V.ref a :: oH).reverse.dropLast = oH.reverse := by rw [List.reverse_cons]; simp
      refine ⟨_, rfl, b.m, R.cR, dx, _, _, rfl, R1.cA, c.cl, c.na _ (by simp), rfl, .inl ⟨rfl, _, .inl (.inl R1.cH)⟩, b.al, _, .ref a, rfl, rfl, R1.cH, by rw [List.length_reverse, List.reverse_cons]; simp, ?_⟩
      rw [ed]
      have sub : ∀ x ∈ ug, x ∈ a :: l :: ug := fun x hx => zA1 _ (zA1 _ hx)
      have R2 := R1.stack fr (fun x hx => R1.rq x (sub x hx)) (fun x hx => R1.rk x (sub x hx)) (fun hx => R1.mo (sub _ hx)) (fun hx => R1.ao (sub _ hx))
      have JZ : a ≠ b.al := fun z => R1.ao (by rw [<- z]; exact zA2)
      have Ou : l ≠ b.al := fun z => R1.ao (by rw [<- z]; exact zA1 _ zA2)
      have i2 := fh (H := H1) (o := .lst oH.reverse) R1.Gf
      have el : (bw ps n1 h1).2.2.length = ps.length := gs _ _ _
      rw [d9] at hB
      have hB : B + ((ps.length + 1) + oM jl) + 2 <= cn := hB
      refine ⟨_, rfl, _, rfl, a, dy, l, d, vs, (bw ps n1 h1).2.2, (bw ps n1 h1).1, μ, (bw ps n1 h1).2.1, B, rfl, (ak JZ).trans ha, (ak Ou).trans hl, R2.wr, aE pr (fun _ _ z => z.mono (.refl μ) i2 (.refl _)), ?_⟩
      cases d with
      | none =>
       intro v' H' μ' s' ml k8 W' r'
       have R3 := R2.grow s' ml k8 (.refl _) W'
       have ec : dn r (.list ps none :: jl) = bK r jl (chain ps .nil) := rfl
       rw [ec] at q
       have q : ow P w A R K cD b cn (b.T.length - gH (bK r jl (chain ps .nil))) (bK r jl (chain ps .nil)) Q E := q
       rw [gh, LD] at q
       exact ⟨b, dx, k + 1, jl, oH, ug, n1, h1, _, _, _, μ', chain ps .nil, _, v', r, cn, rfl, R3, pZ ps .nil n1 h1, r', by rw [el]; omega, yo, q.2⟩
      | some n =>
       refine ⟨fun rm => ?_, fun wX x eo hn v' H' μ' s' ml k8 W' r' => ?_⟩
       ·have ec : jy ps (some n) = none := if_pos (by rw [<- el]; exact rm)
        have N8 : dn r (.list ps (some n) :: jl) = .bad := by unfold dn; simp only [ec]
        exact q.1 N8 _ R2.out.same
       ·have R3 := R2.grow s' ml k8 (.refl _) W'
        have Di : ps ≠ [] := fun z => by rw [z] at eo; cases wX <;> cases eo
        have Rj := (List.dropLast_concat_getLast Di).symm
        have ec : jy ps (some n) = some (chain ps.dropLast (ps.getLast Di)) := by
         show (if ps.length ≠ n + 1 then none else some (chain ps.dropLast (ps.getLast?.getD .nil))) = _
         rw [if_neg (by rw [<- el]; omega), List.getLast?_eq_some_getLast Di]
         rfl
        have N8 : dn r (.list ps (some n) :: jl) = bK r jl (chain ps.dropLast (ps.getLast Di)) := by unfold dn; simp only [ec]
        rw [N8] at q
        have q : ow P w A R K cD b cn (b.T.length - gH (bK r jl (chain ps.dropLast (ps.getLast Di)))) (bK r jl (chain ps.dropLast (ps.getLast Di))) Q E := q
        rw [gh, LD] at q
        have em := pZ ps.dropLast (ps.getLast Di) n1 h1
        have es := kf ps.dropLast (ps.getLast Di) n1 h1
        rw [<- Rj] at es
        have Pc : (bw ps.dropLast n1 h1).2.2 = wX /\ (mk (ps.getLast Di) (bw ps.dropLast n1 h1).1 (bw ps.dropLast n1 h1).2.1).2.2 = x := by
         rw [es] at eo
         have := List.append_inj' eo rfl
         exact ⟨this.1, by have := this.2; injection this⟩
        have Rl : mk (chain ps.dropLast (ps.getLast Di)) n1 h1 = ((bw ps n1 h1).1, df (bw ps n1 h1).2.1 wX x) := by
         rw [em, Pc.1, Pc.2, es]
        have hlen : wX.length + 1 = ps.length := by rw [<- el, eo]; simp
        exact ⟨b, dx, k + 1, jl, oH, ug, n1, h1, _, _, _, μ', chain ps.dropLast (ps.getLast Di), _, v', r, cn, rfl, R3, Rl, r', by omega, yo, q.2⟩
    ·have Lb : ¬ ch = 41 := by simpa using Lb
     have et : kL st (ch :: r) = ie (Sg02.word (ch :: r)).2 st (Sg02.wordOf (Sg02.word (ch :: r)).1) := by rw [b9, if_neg IF, if_neg Jk, if_neg Lb]
     rw [et] at q
     refine ⟨_, rfl, _, rfl, b, dx, k + 1, st, us, own, ns, h, B, μ, k, ch, cn, rfl, R1, hc, uI hh IF Jk Lb, by omega, yo, hT, ?_⟩
     rw [Fm]
     refine ⟨q.1, fun H' post => q.2 H' ?_⟩
     have nb : ie (Sg02.word (ch :: r)).2 st (Sg02.wordOf (Sg02.word (ch :: r)).1) ≠ .bad := fun z => by rw [z] at post; exact post
     rw [Ap nb]
     exact post
end
end Lsp
namespace Lsp
open PySem Spec PyProof.Rows L2
section
variable {P : Program} {w : World} {A : Ad} {R : Rc} {K : W.Frag} {mg : Str -> Option Value} {base : Heap} {lT lS cp cu cD qF : Addr}
def zo (P : Program) (w : World) (A : Ad) (K : W.Frag) (cD qF : Addr) : Sp := fun vs H Q E => ∃ (tl : Addr) (T : Sg02.Bytes) (hU : List Sg02.Bytes) (μ0 : Mp) (h0 : Sg02.Heap) (B0 : Nat), vs = [.ref tl] /\ eu K H tl (tv T) /\ WR P w A K H hU μ0 h0 B0 /\ T.length <= 65535 /\ B0 + 2 * T.length + 2 <= 400000 /\ match Sg02.read T with
 | .none_ => E (.ref qF) none H
 | .bad => ∀ H', aK H H' -> E (.ref cD) none H'
 | .ok t rest => ∀ (tp : Addr) (v : V) (H' : Hp) (μ' : Mp) (ns : List Sg02.Bytes) (h : Sg02.Heap) (o : Sg02.Obj) (B : Nat), mk t hU h0 = (ns, h, o) -> WR P w A K H' ns μ' h B -> VR K H' ns μ' o v -> aK H H' -> dB μ0 μ' -> (∀ a, μ'.im a -> μ0.im a \/ H a = Option.none) -> jg hU ns -> B <= B0 + 2 * T.length ->
   H' tp = some (.tup [v, .int ((T.length - rest.length : Nat) : Int)]) -> Q (.ref tp) H'
theorem jG : aq ["text", "reading"] ["text"] (aj gE) := bQ
theorem qX (T : FT K mg "read_first" "read_first" gE ["text"]) (C : yP K mg lT lS cp cu) (xN : jK K mg "NothingToRead" qF) (c : CT K mg "Reading" R.cR ["text", "at", "unfinished", "done", "thing"]) (MR : fK P w K mg base "Reading" R.cR 1 (gL Dm))
  (F1 : aX P w K mg base 1 "after_blanks" ["text", "at"] (tD K)) (F2 : aX P w K mg base 5 "read_token" ["reading"] (zh P w A R K cD)) : aX P w K mg base 6 "read_first" ["text"] (zo P w A K cD qF) := by
 refine T.ok jG (fun vs H Q E h => by obtain ⟨_, _, _, _, _, _, rfl, _⟩ := h; rfl) fun f aU A' outer s H vs Q E hr h => ?_
 obtain ⟨tl, T, hU, μ0, h0, B0, rfl, hS, W, hT, hb, q⟩ := h
 have jw := hr.mono (show 1 <= 5 by decide)
 have rl := hr.mono (show 2 <= 5 by decide)
 refine ⟨_, af (aL (aA dC (aW F1 jw (by rfl) ai (aa (pv 0) (aa aw ag))) (a7 a9 (by rfl) C.fV PySem.boot_len (aa (pv 0) ag)) (aH _)) (ae (bZ xN bt rfl (by rfl))) aG)
  (af (aJ (i := 1) jG.nd rfl (Or.inl rfl) (uf MR rl (by rfl) ai (aa (pv 0) ag)))
  (af (d8 PassesOwn.leaving (c9 (bc (ay (pv 1) rfl))) (ae (a8 (aW F2 hr (by rfl) ai (aa (pv 1) ag)))))
  (ae (a6 (gI (aa (ay (pv 1) rfl) (aa (ay (pv 1) rfl) ag))))))), ?_⟩
 refine ⟨_, rfl, tl, T, 0, rfl, hS, Nat.zero_le _, _, rfl, tl, _, rfl, .inl hS, rfl, _, rfl, ?_⟩
 rw [b5, List.drop_zero]
 have hle : (sk T).length <= T.length := g9 _ _
 by_cases Lx : sk T = []
 ·have c2 : decide (V.int ((T.length - (sk T).length : Nat) : Int) = V.int ((T.length : Nat) : Int)) = true := decide_eq_true (by rw [Lx]; simp)
  rw [c2]
  rw [A7 T Lx] at q
  exact aZ q
 ·have Q3 : (sk T).length ≠ 0 := fun z => Lx (List.eq_nil_of_length_eq_zero z)
  have c2 : decide (V.int ((T.length - (sk T).length : Nat) : Int) = V.int ((T.length : Nat) : Int)) = false := decide_eq_false (by intro z; injection z with z; omega)
  rw [c2]
  obtain ⟨rd, nn⟩ := xF T Lx
  refine aM ⟨_, rfl, rfl, fun m dx al H1 nm na Ln hm ko s1 => ?_⟩
  have kd : ∀ x, H x = Option.none -> ¬ μ0.im x := fun x e z => by obtain ⟨o, eo⟩ := W.y9 x z; rw [e] at eo; cases eo
  have R0 : uS P w A R K ⟨H, μ0, hU, h0, m, al, tl, T⟩ dx 0 [] [] [] hU h0 hU h0 B0 μ0 H1 :=
   ⟨hm, ko, .nil, W.mono (bF.of_same s1), ⟨s1, .refl _, fun a z => .inl z, .refl _⟩, nm, na, (fun x hx => nomatch hx), kd m nm, kd al na, (fun x hx => nomatch hx), (fun hx => nomatch hx), (fun hx => nomatch hx), Ln, hS, W.names.known 0 (by decide)⟩
  refine ⟨fun n σ H' => σ = [some (.ref tl), some (.ref m)] /\ ((∃ (dx : Addr) (at_ : Nat) (st : List Fr) (us : List V) (own : List Addr) (ns : List Sg02.Bytes) (h : Sg02.Heap) (B : Nat) (μ : Mp), uS P w A R K ⟨H, μ0, hU, h0, m, al, tl, T⟩ dx at_ st us own ns h ns h B μ H' /\ at_ <= T.length /\ B + oM st <= B0 + 2 * at_ /\ Reads (T.drop at_) st (js (Sg02.read T)) /\ n = T.length - at_ + 1) \/
   ∃ t rest, js (Sg02.read T) = some (t, rest) /\ uU P w A R K ⟨H, μ0, hU, h0, m, al, tl, T⟩ (B0 + 2 * T.length) (T.length - rest.length) (.done t rest) H' /\ n = 0), ⟨_, rfl, .inl ⟨dx, 0, [], [], [], hU, h0, B0, μ0, R0, Nat.zero_le _, (by show B0 + 0 <= _; omega), (by rw [List.drop_zero]; exact rd), rfl⟩⟩, ?_⟩
  rintro n σ H' ⟨rfl, ⟨sM, at_, st, us, own, ns, h, B, μ, M, lD, hB, Oi, rfl⟩ | ⟨t, rest, er, ⟨sM, v, ns, h, o, B, μ, Kr, em, W', rv, out, hB⟩, rfl⟩⟩
  ·refine ⟨_, rfl, m, R.cR, sM, _, _, rfl, M.cA, c.cl, c.na _ (by simp), rfl, false, rfl, aZ ?_⟩
   refine ⟨fun σ' H2 => ∃ m', m' < T.length - at_ + 1 /\ σ' = [some (.ref tl), some (.ref m)] /\ ((∃ (dx : Addr) (at_ : Nat) (st : List Fr) (us : List V) (own : List Addr) (ns : List Sg02.Bytes) (h : Sg02.Heap) (B : Nat) (μ : Mp), uS P w A R K ⟨H, μ0, hU, h0, m, al, tl, T⟩ dx at_ st us own ns h ns h B μ H2 /\ at_ <= T.length /\ B + oM st <= B0 + 2 * at_ /\ Reads (T.drop at_) st (js (Sg02.read T)) /\ m' = T.length - at_ + 1) \/
    ∃ t rest, js (Sg02.read T) = some (t, rest) /\ uU P w A R K ⟨H, μ0, hU, h0, m, al, tl, T⟩ (B0 + 2 * T.length) (T.length - rest.length) (.done t rest) H2 /\ m' = 0), (fun _ _ z => z), ?_⟩
   refine ⟨_, rfl, ⟨H, μ0, hU, h0, m, al, tl, T⟩, sM, at_, st, us, own, ns, h, B, μ, B + oM st + 2, rfl, M, lD, zA0 _, (by omega), hT, ?_⟩
   show ow P w A R K cD ⟨H, μ0, hU, h0, m, al, tl, T⟩ (B + oM st + 2) (T.length - gH (cz (T.drop at_) st)) (cz (T.drop at_) st) _ _
   have sh := jH (T.drop at_) st
   have rr := xC (T.drop at_) st
   have RQ : (T.drop at_).length = T.length - at_ := List.length_drop
   generalize K9 : js (Sg02.read T) = res at Oi ⊢
   cases Oi with
   | bad hx =>
    rw [hx]
    refine ⟨fun _ H2 s2 => ?_, fun _ z => z.elim⟩
    cases eg : Sg02.read T with
    | ok t r => rw [eg] at K9; cases K9
    | none_ => exact absurd eg nn
    | bad => rw [eg] at q; exact q H2 s2
   | @done _ _ t r hx =>
    rw [hx] at sh rr ⊢
    refine ⟨(fun z => by cases z), fun H2 z => ⟨0, by omega, rfl, .inr ⟨t, r, rfl, ?_, rfl⟩⟩⟩
    obtain ⟨NC, v, M0, h2, o, B2, μ2, z1, z2, z3, z4, z5, z6⟩ := z
    have sh : r.length < (T.drop at_).length := sh
    exact ⟨NC, v, M0, h2, o, B2, μ2, z1, z2, z3, z4, z5, by omega⟩
   | @go _ _ b' gz _ hx n2 =>
    rw [hx] at sh rr ⊢
    have sh : b'.length < (T.drop at_).length := sh
    have rr : b' <:+ T.drop at_ := rr
    have sf := suffix_at (rr.trans (List.drop_suffix at_ T))
    refine ⟨(fun z => by cases z), fun H2 z => ?_⟩
    obtain ⟨NC, oH, ug, M0, h2, B2, μ2, z1, z2⟩ := z
    refine ⟨T.length - (T.length - b'.length) + 1, by omega, rfl, .inl ⟨NC, T.length - b'.length, gz, oH, ug, M0, h2, B2, μ2, z1, by omega, by omega, ?_, rfl⟩⟩
    rw [sf]
    exact n2
  ·have Kr : H' m = some (.ins R.cR sM (gf (.ref tl) (.int ((T.length - rest.length : Nat) : Int)) (.ref al) (.bl true) v)) := Kr
   refine ⟨_, rfl, m, R.cR, sM, _, _, rfl, Kr, c.cl, c.na _ (by simp), rfl, true, rfl, aM ?_⟩
   refine ⟨_, rfl, m, R.cR, sM, _, _, rfl, Kr, c.cl, c.na _ (by simp), rfl, _, rfl, m, R.cR, sM, _, _, rfl, Kr, c.cl, c.na _ (by simp), rfl, (by show 2 <= sizeLine; decide), fun tp Mz => ?_⟩
   have eg : Sg02.read T = .ok t rest := by
    cases eg : Sg02.read T with
    | ok t' r' => rw [eg] at er; cases er; rfl
    | none_ => exact absurd eg nn
    | bad => rw [eg] at er; cases er
   rw [eg] at q
   have sp := az (o := .tup [v, .int ((T.length - rest.length : Nat) : Int)]) Mz
   exact q tp v _ μ ns h o B em (W'.mono (bF.of_same sp)) (rv.mono (.refl μ) (bF.of_same sp) (.refl ns)) (out.same.trans sp) out.ml out.k8 out.JT hB ah
end
end Lsp
namespace Lsp
open PySem Spec PyProof.Rows L2
structure Am (mg : Str -> Option Value) : Prop where
 k0 : cv mg "KIND_NIL" 0
 k1 : cv mg "KIND_NUMBER" 1
 k2 : cv mg "KIND_NAME" 2
 k3 : cv mg "KIND_PAIR" 3
 k4 : cv mg "KIND_FUNCTION" 4
 k5 : cv mg "KIND_PRIMITIVE" 5
 rd : cv mg "READ" 1
 none_ : cv mg "NOTHING_THERE" (-1)
 ref : cv mg "REFUSED" (-2)
 Qq : cv mg "MALFORMED" (-3)
 PY : cv mg "NO_PAIR" (-3)
 long : cv mg "TOO_LONG" (-4)
 cnt : cv mg "REGISTER_COUNT" 16
 txt : cv mg "LONGEST_TEXT" 65535
 most : cv mg "HIGHEST_MOST" 65535
 Rq : cv mg "HIGHEST_BUDGET" 1000000
 fV : mg "len" = none
 F8 : mg "all" = none
 yJ : mg "isinstance" = none
section
variable {P : Program} {w : World} {A : Ad} {K : W.Frag} {mg : Str -> Option Value} {base : Heap}
def Cj (P : Program) (w : World) (A : Ad) (K : W.Frag) : Sp := fun vs H Q _ => ∃ (v : V) (x : Sg02.Obj) (ns : List Sg02.Bytes) (μ : Mp) (h : Sg02.Heap) (B : Nat), vs = [v] /\ WR P w A K H ns μ h B /\ VR K H ns μ x v /\ Q (.int x.kind) H
theorem xt : aq ["thing"] ["thing"] (aj mx) := bQ
theorem xV (T : FT K mg "kind_of" "kind_of" mx ["thing"]) (C : Am mg) (i : sV A K) (cP : mg "Pair" = some (.ref A.cP)) (cF : mg "Function" = some (.ref A.cF)) (F1 : aX P w K mg base 1 "is_number" ["thing"] (ir K (.type "int"))) (F2 : aX P w K mg base 1 "is_name" ["thing"] (ir K (.type "tuple"))) :
  aX P w K mg base 2 "kind_of" ["thing"] (Cj P w A K) := by
 obtain ⟨u0, m0, r0⟩ := C.k0
 obtain ⟨u1, m1, r1⟩ := C.k1
 obtain ⟨u2, m2, r2⟩ := C.k2
 obtain ⟨u3, m3, r3⟩ := C.k3
 obtain ⟨u4, m4, r4⟩ := C.k4
 obtain ⟨u5, m5, r5⟩ := C.k5
 refine T.ok xt (fun vs H Q E h => by obtain ⟨_, _, _, _, _, _, rfl, _⟩ := h; rfl) fun f aU A' outer s0 H vs Q E hr h => ?_
 obtain ⟨v, x, ns, μ, h, B, rfl, W, rv, q⟩ := h
 refine ⟨_, af (aL (aA gJ (pv 0) bq (aH _)) (ae (a6 (ax (by rfl) m0 r0))) aG)
  (af (aL (bc (aW F1 hr (by rfl) ai (aa (pv 0) ag))) (ae (a6 (ax (by rfl) m1 r1))) aG)
  (af (aL (bc (aW F2 hr (by rfl) ai (aa (pv 0) ag))) (ae (a6 (ax (by rfl) m2 r2))) aG)
  (af (aL (bc (a7 aY (by rfl) C.yJ bIsX (aa (pv 0) (aa (ax (v := .ref A.cP) (by rfl) cP rfl) ag)))) (ae (a6 (ax (by rfl) m3 r3))) aG)
  (af (aL (bc (a7 aY (by rfl) C.yJ bIsX (aa (pv 0) (aa (ax (v := .ref A.cF) (by rfl) cF rfl) ag)))) (ae (a6 (ax (by rfl) m4 r4))) aG)
  (ae (a6 (ax (by rfl) m5 r5))))))), ?_⟩
 have ty := rv.ty W i
 refine ⟨_, rfl, rfl, _, rfl, ?_⟩
 cases x with
 | nil =>
  have : v = .bf := rv
  subst this
  exact aZ q
 | int z =>
  obtain ⟨rfl, _⟩ := rv
  exact aM ⟨_, rfl, _, _, _, rfl, ty, i.int _, _, rfl, aZ q⟩
 | name n =>
  obtain ⟨a, b, rfl, _⟩ := rv
  exact aM ⟨_, rfl, _, _, _, rfl, ty, i.int _, _, rfl, aM ⟨_, rfl, _, _, _, rfl, ty, i.tup _, _, rfl, aZ q⟩⟩
 | pair n =>
  obtain ⟨a, rfl, _⟩ := rv
  exact aM ⟨_, rfl, _, _, _, rfl, ty, i.int _, _, rfl, aM ⟨_, rfl, _, _, _, rfl, ty, i.tup _, _, rfl, aM ⟨_, rfl, _, _, _, _, rfl, ty, (fun u hu => by cases hu; exact i.pair _), _, rfl, aZ q⟩⟩⟩
 | fn n =>
  obtain ⟨a, rfl, _⟩ := rv
  exact aM ⟨_, rfl, _, _, _, rfl, ty, i.int _, _, rfl, aM ⟨_, rfl, _, _, _, rfl, ty, i.tup _, _, rfl, aM ⟨_, rfl, _, _, _, _, rfl, ty, (fun u hu => by cases hu; exact i.pair _), _, rfl, aM ⟨_, rfl, _, _, _, _, rfl, ty, (fun u hu => by cases hu; exact i.fn _), _, rfl, aZ q⟩⟩⟩⟩
 | prim n =>
  obtain ⟨a, rfl, _⟩ := rv
  exact aM ⟨_, rfl, _, _, _, rfl, ty, i.int _, _, rfl, aM ⟨_, rfl, _, _, _, rfl, ty, i.tup _, _, rfl, aM ⟨_, rfl, _, _, _, _, rfl, ty, (fun u hu => by cases hu; exact i.pair _), _, rfl, aM ⟨_, rfl, _, _, _, _, rfl, ty, (fun u hu => by cases hu; exact i.fn _), _, rfl, aM q⟩⟩⟩⟩
def kN : Sp := fun vs H Q _ => ∃ z : Int, vs = [.int z] /\ Q (.bl (Sg02.isReg z)) H
theorem vz : aq ["number"] ["number"] (aj jT) := bQ
theorem vJ (T : FT K mg "is_place" "is_place" jT ["number"]) (C : Am mg) : aX P w K mg base 1 "is_place" ["number"] kN := by
 obtain ⟨u1, m1, r1⟩ := C.cnt
 refine T.ok vz (fun vs H Q E h => by obtain ⟨z, rfl, _⟩ := h; rfl) fun f aU A outer s H vs Q E hr h => ?_
 obtain ⟨z, rfl, q⟩ := h
 refine ⟨_, ae (a6 (lq gW pQ aw (pv 0) (ax (by rfl) m1 r1))), ?_⟩
 refine ⟨_, rfl, _, _, rfl, rfl, _, rfl, ?_⟩
 have e : Sg02.isReg z = (decide ((0 : Int) <= z) && decide (z < 16)) := by
  unfold Sg02.isReg Sg02.within
  congr 1
  exact decide_eq_decide.mpr (by omega)
 rw [e] at q
 by_cases h1 : (0 : Int) <= z
 ·rw [decide_eq_true h1] at q ⊢
  exact aZ ⟨_, _, rfl, rfl, q⟩
 ·rw [decide_eq_false h1] at q ⊢
  exact aM q
def iq (K : W.Frag) : Sp := fun vs H Q _ => ∃ (a : Addr) (zs : List Int), vs = [.ref a] /\ eu K H a (zs.map V.int) /\ zs.length <= 300000 /\ ∀ H', aK H H' -> Q (.bl (zs.all Sg02.isReg)) H'
theorem fM : aq ["numbers", "number"] ["numbers"] (aj eR) := bQ
theorem rg (T : FT K mg "are_places" "are_places" eR ["numbers"]) (C : Am mg) (F1 : aX P w K mg base 1 "is_place" ["number"] kN) : aX P w K mg base 2 "are_places" ["numbers"] (iq K) := by
 refine T.ok fM (fun vs H Q E h => by obtain ⟨_, _, rfl, _⟩ := h; rfl) fun f aU A outer s H vs Q E hr h => ?_
 obtain ⟨a, zs, rfl, hS, hl, q⟩ := h
 refine ⟨_, ae (a6 (a7 (yC rfl) (by rfl) C.F8 bAlX (aa (zA (own := [("number", 1)]) rfl fM.nd (ub (pv 0)) (lK (show B8 ["numbers", "number"] (aj eR) { kind := .function, names := [(".0", .local), ("number", .local), ("is_place", .globalImplicit)], isGenerator := false, isCoroutine := false } [("number", 1)] = true from by decide +kernel)) (fun s H C cl fp => dA (i := 1) fM.nd rfl (Or.inl rfl)) (fun s H C cl fp => oK)
    (fun s H C cl fp => aW F1 hr (by rfl) so (aa (pv 1) ag))) ag))), ?_⟩
 refine ⟨_, rfl, a, rfl, ⟨_, hS⟩, fun D nD => Fd (K := K) (a := a) (xs := zs.map V.int) (fun i H' => H' = upd H D (.lst ((zs.take i).map fun z => .bl (Sg02.isReg z)))) rfl (fun i H' _ e => by subst e; exact (az nD).seq hS) ?_ ?_⟩
 ·rintro i x H' hx rfl
  rw [List.getElem?_map] at hx
  obtain ⟨z, hz, rfl⟩ := Option.map_eq_some_iff.mp hx
  have hi : i < zs.length := (List.getElem?_eq_some_iff.mp hz).1
  refine ⟨rfl, _, rfl, _, rfl, _, ah, ?_, ?_⟩
  ·rw [List.length_map, List.length_take]
   exact eh (by omega)
  ·rw [jk]
   show _ = upd H D (.lst ((zs.take (i + 1)).map fun z => .bl (Sg02.isReg z)))
   rw [List.take_add_one, hz]
   simp
 ·rintro H' rfl
  rw [List.length_map, List.take_length]
  refine ⟨D, zs.map Sg02.isReg, rfl, .inl (.inl (by rw [ah, List.map_map]; rfl)), ?_⟩
  have e : (zs.map Sg02.isReg).all id = zs.all Sg02.isReg := by rw [List.all_map]; rfl
  rw [e]
  exact q _ (az nD)
end
noncomputable def Kb (h d : V) : List (Str × V) := br "definitions" d (br "held" h [])
structure Lc where
 c : Addr
 pr : Addr -> Prop
structure kC (P : Program) (w : World) (A : Ad) (K : W.Frag) (cL : Lc) (s : Sg02.Abs) (sz : Nat) (la hl d dx : Addr) (vs : List V) (kvs : Tab) (B : Nat) (μ : Mp) (H : Hp) : Prop where
 oP : H la = some (.ins cL.c dx (Kb (.ref hl) (.ref d)))
 lD : H hl = some (.lst vs)
 len : vs.length = 16
 reg : ∀ r, r < 16 -> ∃ v, vs[r]? = some v /\ VR K H s.names μ (s.reg r) v
 wr : WR P w A K H s.names μ s.heap B
 dr : DR P w K H s.names μ s.global d kvs
 cn : B + kvs.length <= sz
 il : ¬ μ.im la
 ih : ¬ μ.im hl
 id : ¬ μ.im d
 GN : ∀ a, cL.pr a -> ¬ μ.im a /\ ∃ o, H a = some o
def LR (P : Program) (w : World) (A : Ad) (K : W.Frag) (cL : Lc) (s : Sg02.Abs) (sz : Nat) (la hl d : Addr) (H : Hp) : Prop := ∃ dx vs kvs B μ, kC P w A K cL s sz la hl d dx vs kvs B μ H
def ic (hl d : Addr) (H H' : Hp) : Prop := ∀ b o, b ≠ hl -> b ≠ d -> H b = some o -> H' b = some o
theorem ic.of_same {hl d : Addr} {H H' : Hp} (s : aK H H') : ic hl d H H' := fun b o _ _ e => s b o e
theorem ic.trans {hl d : Addr} {H H1 H2 : Hp} (a : ic hl d H H1) (b : ic hl d H1 H2) : ic hl d H H2 := fun c o n1 n2 e => b c o n1 n2 (a c o n1 n2 e)
theorem ic.upd {hl d : Addr} {H : Hp} {o : HO} : ic hl d H (L2.upd H hl o) := fun b x n _ e => by rw [ak n]; exact e
section
variable {P : Program} {w : World} {A : Ad} {K : W.Frag} {cL : Lc} {s : Sg02.Abs} {sz : Nat} {la hl d dx : Addr} {vs : List V} {kvs : Tab} {B : Nat} {μ : Mp} {H : Hp}
theorem kC.Qb (L : kC P w A K cL s sz la hl d dx vs kvs B μ H) : la ≠ hl := cJ L.oP L.lD
theorem kC.Ow (L : kC P w A K cL s sz la hl d dx vs kvs B μ H) : hl ≠ d := fun z => by have := L.lD; rw [z, L.dr.at_] at this; cases this
theorem kC.Qe (L : kC P w A K cL s sz la hl d dx vs kvs B μ H) : la ≠ d := fun z => by have := L.oP; rw [z, L.dr.at_] at this; cases this
theorem kC.lr (L : kC P w A K cL s sz la hl d dx vs kvs B μ H) : LR P w A K cL s sz la hl d H := ⟨dx, vs, kvs, B, μ, L⟩
theorem kC.grow {H' : Hp} {μ' : Mp} {ju : List Sg02.Bytes} {h' : Sg02.Heap} {B' sz' : Nat} (L : kC P w A K cL s sz la hl d dx vs kvs B μ H) (sm : aK H H') (ml : dB μ μ') (k8 : ∀ a, μ'.im a -> μ.im a \/ H a = Option.none) (n : jg s.names ju) (W : WR P w A K H' ju μ' h' B') (hb : B' + kvs.length <= sz') :
  kC P w A K cL { s with names := ju, heap := h' } sz' la hl d dx vs kvs B' μ' H' := by
 have im := bF.of_same (μ := μ) sm
 have kd : ∀ a o, H a = some o -> ¬ μ.im a -> ¬ μ'.im a := fun a o e n z => (k8 a z).elim n fun z => by rw [e] at z; cases z
 exact ⟨sm _ _ L.oP, sm _ _ L.lD, L.len, fun r hr => by obtain ⟨v, e, rv⟩ := L.reg r hr; exact ⟨v, e, rv.mono ml im n⟩, W, L.dr.mono ml im n W.names.nd (sm _ _ L.dr.at_), hb, kd _ _ L.oP L.il, kd _ _ L.lD L.ih, kd _ _ L.dr.at_ L.id, fun a ha => let ⟨z, o, e⟩ := L.GN a ha; ⟨kd a o e z, o, sm _ _ e⟩⟩
theorem kC.same {H' : Hp} (L : kC P w A K cL s sz la hl d dx vs kvs B μ H) (sm : aK H H') : kC P w A K cL s sz la hl d dx vs kvs B μ H' :=
 L.grow sm (.refl μ) (fun a z => .inl z) (.refl _) (L.wr.mono (bF.of_same sm)) L.cn
theorem kC.set {x : Sg02.Obj} {v : V} {r : Int} {j : Nat} (L : kC P w A K cL s sz la hl d dx vs kvs B μ H) (rv : VR K H s.names μ x v) (ej : r.toNat = j) (hj : j < 16) : kC P w A K cL (s.setReg r x) sz la hl d dx (vs.set j v) kvs B μ (upd H hl (.lst (vs.set j v))) := by
 have im := fh (H := H) (o := .lst (vs.set j v)) L.ih
 refine ⟨(ak L.Qb).trans L.oP, ah, by rw [List.length_set]; exact L.len, fun k hk => ?_, L.wr.mono im, L.dr.mono (.refl μ) im (.refl _) L.wr.names.nd ((ak L.Ow.symm).trans L.dr.at_), L.cn, L.il, L.ih, L.id, fun a ha => ⟨(L.GN a ha).1, ?_⟩⟩
 ·show ∃ u, (vs.set j v)[k]? = some u /\ VR K _ s.names μ (Sg02.put s.reg r.toNat x k) u
  by_cases e : k = j
  ·subst e
   rw [ej, bH]
   exact ⟨v, by rw [List.getElem?_set_self (by rw [L.len]; exact hk)], rv.mono (.refl μ) im (.refl _)⟩
  ·rw [ej, bY _ _ e, List.getElem?_set_ne (fun z => e z.symm)]
   obtain ⟨u, e1, r1⟩ := L.reg k hk
   exact ⟨u, e1, r1.mono (.refl μ) im (.refl _)⟩
 ·by_cases e : a = hl
  ·exact ⟨_, by rw [e]; exact ah⟩
  ·obtain ⟨_, o, eo⟩ := L.GN a ha
   exact ⟨o, by rw [ak e]; exact eo⟩
theorem kC.le {sz' : Nat} (L : kC P w A K cL s sz la hl d dx vs kvs B μ H) (h : sz <= sz') : kC P w A K cL s sz' la hl d dx vs kvs B μ H := ⟨L.oP, L.lD, L.len, L.reg, L.wr, L.dr, Nat.le_trans L.cn h, L.il, L.ih, L.id, L.GN⟩
end
end Lsp
namespace Lsp
open PySem Spec PyProof.Rows L2
noncomputable def kD : Sg02.Call -> List Int
 | .read r b => r :: (b.length : Int) :: bz b
 | .write r m => [r, m]
 | .eval r b => [r, b]
 | .cons r a d => [r, a, d]
 | .car r a => [r, a]
 | .cdr r a => [r, a]
 | .kind r => [r]
 | .same a b => [a, b]
def oE : Sg02.Call -> Nat
 | .read _ _ => 1
 | .write _ _ => 2
 | .eval _ _ => 3
 | .cons _ _ _ => 4
 | .car _ _ => 5
 | .cdr _ _ => 6
 | .kind _ => 7
 | .same _ _ => 8
def Aa : Sg02.Call -> Nat
 | .read _ b => 2 * b.length
 | .eval _ b => b.toNat
 | .cons _ _ _ => 1
 | .car _ _ => 1
 | .cdr _ _ => 1
 | _ => 0
def cost (c : Sg02.Call) : Nat := if Sg02.refuses c = true then 0 else Aa c
def yK (a : Sg02.Ans) : List V := .int a.v :: tv a.b
theorem D6 {s : Sg02.Abs} {c : Sg02.Call} (h : Sg02.refuses c = true) : Sg02.does s c = (s, Sg02.only (-2)) := by unfold Sg02.does; rw [if_pos h]
theorem DF {c : Sg02.Call} (h : Sg02.refuses c = true) : cost c = 0 := if_pos h
theorem gK {c : Sg02.Call} (h : Sg02.refuses c = false) : cost c = Aa c := if_neg (by rw [h]; simp)
def Ea (P : Program) (w : World) (A : Ad) (K : W.Frag) (cL : Lc) (n : Nat) : Sp := fun vs H Q _ => ∃ (la hl d ha : Addr) (s : Sg02.Abs) (sz : Nat) (c : Sg02.Call), vs = [.ref la, .ref ha] /\ oE c = n /\ LR P w A K cL s sz la hl d H /\ eu K H ha ((kD c).map V.int) /\ sz + cost c <= 300000 /\ (kD c).length <= 300000 /\
 ∀ l H', H l = Option.none -> LR P w A K cL (Sg02.does s c).1 (sz + cost c) la hl d H' -> ic hl d H H' -> H' l = some (.lst (yK (Sg02.does s c).2)) -> Q (.ref l) H'
theorem fz {P : Program} {w : World} {A : Ad} {K : W.Frag} {cL : Lc} {n : Nat} : ∀ (vs : List V) (H : Hp) (Q : VK) (E : XK), Ea P w A K cL n vs H Q E -> vs.length = 2 := fun vs H Q E h => by obtain ⟨_, _, _, _, _, _, _, rfl, _⟩ := h; rfl
section
variable {P : Program} {w : World} {A : Ad} {K : W.Frag} {mg : Str -> Option Value} {base : Heap} {cL : Lc}
theorem Bb {z : Int} (h : Sg02.isReg z = true) : 0 <= z /\ z < 16 := by
 unfold Sg02.isReg Sg02.within at h
 rw [Bool.and_eq_true] at h
 have h1 := of_decide_eq_true h.1
 have h2 := of_decide_eq_true h.2
 omega
theorem kC.get {s : Sg02.Abs} {sz : Nat} {la hl d dx : Addr} {vs : List V} {kvs : Tab} {B : Nat} {μ : Mp} {H : Hp} {z : Int} (L : kC P w A K cL s sz la hl d dx vs kvs B μ H) (h : Sg02.isReg z = true) : ∃ v, gY vs z = some v /\ VR K H s.names μ (s.reg z.toNat) v /\ BJ vs.length z = some z.toNat /\ z.toNat < 16 := by
 obtain ⟨h0, h1⟩ := Bb h
 obtain ⟨v, e, r⟩ := L.reg z.toNat (by omega)
 have ei : BJ vs.length z = some z.toNat := by
  unfold BJ
  rw [if_pos h0, if_pos (by rw [L.len]; exact h1)]
 refine ⟨v, ?_, r, ei, by omega⟩
 unfold gY
 rw [ei]
 exact e
theorem kC.fresh {s : Sg02.Abs} {sz : Nat} {la hl d dx : Addr} {vs : List V} {kvs : Tab} {B : Nat} {μ : Mp} {H H1 : Hp} (L : kC P w A K cL s sz la hl d dx vs kvs B μ H1) (f : ic hl d H H1) {l : Addr} (n : H1 l = Option.none) : H l = Option.none := by
 cases e : H l with
 | none => rfl
 | some o =>
  by_cases h1 : l = hl
  ·rw [h1, L.lD] at n; cases n
  ·by_cases h2 : l = d
   ·rw [h2, L.dr.at_] at n; cases n
   ·rw [f l o h1 h2 e] at n; cases n
theorem fI {s : Sg02.Abs} {sz : Nat} {la hl d l : Addr} {H : Hp} {v : V} (L : LR P w A K cL s sz la hl d H) (nl : H l = Option.none) : LR P w A K cL s sz la hl d (upd H l (.lst [v])) := by
 obtain ⟨dx, vs, kvs, B, μ, L⟩ := L
 exact (L.same (az nl)).lr
theorem LR.same {s : Sg02.Abs} {sz : Nat} {la hl d : Addr} {H H' : Hp} (L : LR P w A K cL s sz la hl d H) (sm : aK H H') : LR P w A K cL s sz la hl d H' := by
 obtain ⟨dx, vs, kvs, B, μ, L⟩ := L
 exact (L.same sm).lr
theorem refused {s : Sg02.Abs} {sz : Nat} {la hl d : Addr} {H H1 : Hp} {c : Sg02.Call} {Q : VK} (L : LR P w A K cL s sz la hl d H) (h : Sg02.refuses c = true)
  (q : ∀ l H', H l = Option.none -> LR P w A K cL (Sg02.does s c).1 (sz + cost c) la hl d H' -> ic hl d H H' -> H' l = some (.lst (yK (Sg02.does s c).2)) -> Q (.ref l) H') (sm : aK H H1) : ∀ l, H1 l = Option.none -> Q (.ref l) (upd H1 l (.lst [.int (-2)])) := fun l nl => by
 rw [D6 h, DF h] at q
 exact q l _ (sm.free nl) (fI (L.same sm) nl) (ic.of_same (sm.trans (az nl))) ah
theorem kZ : aq ["lisp", "handed"] ["lisp", "handed"] (aj dP) := bQ
theorem l8 (T : FT K mg "answer_to_cons" "answer_to_cons" dP ["lisp", "handed"]) (C : Am mg) (c : CT K mg "Lisp" cL.c ["held", "definitions"]) (M : fK P w K mg base "Pair" A.cP 2 (jx sJ)) (F1 : aX P w K mg base 2 "are_places" ["numbers"] (iq K)) : aX P w K mg base 3 "answer_to_cons" ["lisp", "handed"] (Ea P w A K cL 4) := by
 obtain ⟨uR, mR, rR⟩ := C.ref
 refine T.ok kZ fz fun f aU A' outer s0 H vs Q E hr h => ?_
 obtain ⟨la, hl, d, ha, s, sz, cc, rfl, hc, L0, hS, hsz, Ee, q⟩ := h
 refine ⟨_, af (aL (c9 (bc (aW F1 hr (by rfl) ai (aa (pv 1) ag)))) (ae (a6 (b7 (aa (ax (by rfl) mR rR) ag)))) aG)
  (af (tX (b6 M hr (by rfl) ai (aa (aB a5 (ay (pv 0) rfl) (aB a5 (pv 1) aw (fun _ _ => rfl)) (fun _ _ => rfl)) (aa (aB a5 (ay (pv 0) rfl) (aB a5 (pv 1) aw (fun _ _ => rfl)) (fun _ _ => rfl)) ag)))
   (uc (ay (pv 0) rfl) (aB a5 (pv 1) aw (fun _ _ => rfl)) set_list))
  (ae (a6 (b7 (aa aw ag))))), ?_⟩
 cases cc <;> first | (cases hc; done) | skip
 rename_i r a b
 refine ⟨_, rfl, ha, _, rfl, hS, Ee, fun H1 s1 => ⟨_, rfl, B5 (fun z => ?_) fun z => ?_⟩⟩
 ·have nZ : Sg02.refuses (.cons r a b) = true := by
   show (!(Sg02.isReg r && (Sg02.isReg a && Sg02.isReg b))) = true
   have z : (Sg02.isReg r && (Sg02.isReg a && (Sg02.isReg b && true))) = false := z
   rw [Bool.and_true] at z
   rw [z]; rfl
  exact ⟨(by show 1 <= sizeLine; decide), refused L0 nZ q s1⟩
 ·have z : (Sg02.isReg r && (Sg02.isReg a && (Sg02.isReg b && true))) = true := z
  rw [Bool.and_true] at z
  have nZ : Sg02.refuses (.cons r a b) = false := by
   show (!(Sg02.isReg r && (Sg02.isReg a && Sg02.isReg b))) = false
   rw [z]; rfl
  rw [Bool.and_eq_true, Bool.and_eq_true] at z
  obtain ⟨zr, za, zb⟩ := z
  have ed : Sg02.does s (.cons r a b) = ({ s with heap := (s.heap.cons (s.reg a.toNat) (s.reg b.toNat)).1 }.setReg r (s.heap.cons (s.reg a.toNat) (s.reg b.toNat)).2, Sg02.only 0) := by unfold Sg02.does; rw [if_neg (by rw [nZ]; simp)]
  rw [ed, gK nZ] at q
  obtain ⟨dx, vs, kvs, B, μ, L⟩ := L0
  have L1 := L.same s1
  have Gj := s1.seq hS
  obtain ⟨va, ea, ra, _⟩ := L1.get za
  obtain ⟨vb, eb, rb, _⟩ := L1.get zb
  obtain ⟨_, _, _, er, ym⟩ := L1.get zr
  refine ⟨_, rfl, la, cL.c, dx, _, _, rfl, L1.oP, c.cl, c.na _ (by simp), rfl, _, rfl, ha, _, _, _, rfl, rfl, Gj, (show gY ([r, a, b].map V.int) 1 = some (.int a) from rfl), hl, vs, _, va, rfl, rfl, .inl (.inl L1.lD), ea, ?_⟩
  refine ⟨_, rfl, la, cL.c, dx, _, _, rfl, L1.oP, c.cl, c.na _ (by simp), rfl, _, rfl, ha, _, _, _, rfl, rfl, Gj, (show gY ([r, a, b].map V.int) 2 = some (.int b) from rfl), hl, vs, _, vb, rfl, rfl, .inl (.inl L1.lD), eb, rfl, fun x dy H2 nx ex s2 => ?_⟩
  obtain ⟨m2, W2, r2⟩ := L1.wr.cons ra rb nx ex (bF.of_same s2)
  have hb := L1.cn
  have L2 := L1.grow s2 m2 (fun a z => z.elim (fun z => .inr (by rw [z]; exact nx)) .inl) (.refl _) W2 (sz' := sz + 1) (by omega)
  refine ⟨_, rfl, la, cL.c, dx, _, _, rfl, L2.oP, c.cl, c.na _ (by simp), rfl, _, rfl, ha, _, _, _, rfl, rfl, s2.seq Gj, (show gY ([r, a, b].map V.int) 0 = some (.int r) from rfl), hl, vs, r, r.toNat, rfl, rfl, L2.lD, er, ?_⟩
  have L3 := L2.set r2 (r := r) rfl ym
  refine ⟨(by show 1 <= sizeLine; decide), fun l nl => ?_⟩
  exact q l _ ((s1.trans s2).free (bh nl).2) (L3.same (az nl)).lr ((ic.of_same (s1.trans s2)).trans (ic.upd.trans (ic.of_same (az nl)))) ah
def vE : Sg02.Call -> Nat
 | .car _ _ => 6
 | _ => 7
def g8 (P : Program) (w : World) (A : Ad) (K : W.Frag) (mg : Str -> Option Value) (base : Heap) (ex : Nat -> Addr) (cL : Lc) : Sp := fun vs H Q E => ∃ (la hl d ha f : Addr) (s : Sg02.Abs) (sz : Nat) (c : Sg02.Call), vs = [.ref la, .ref ha, .ref f] /\ (oE c = 5 \/ oE c = 6) /\
 (∃ fd ps, W.keepIn K (.ref f) = true /\ fu P w K mg base (fk P w) 2 f fd ps (c6 P w A K ex (vE c) 1) /\ Binds K fd ps []) /\ LR P w A K cL s sz la hl d H /\ eu K H ha ((kD c).map V.int) /\ sz + cost c <= 300000 /\
 ∀ l H', H l = Option.none -> LR P w A K cL (Sg02.does s c).1 (sz + cost c) la hl d H' -> ic hl d H H' -> H' l = some (.lst (yK (Sg02.does s c).2)) -> Q (.ref l) H'
theorem eN : aq ["lisp", "handed", "part_of", "part"] ["lisp", "handed", "part_of"] (aj bX) := bQ
theorem AD {s : Sg02.Abs} {c : Sg02.Call} (hc : oE c = 5 \/ oE c = 6) : ∃ r a, kD c = [r, a] /\ Sg02.refuses c = !(Sg02.isReg r && Sg02.isReg a) /\ Aa c = 1 /\ (Sg02.refuses c = false -> (∃ y, Sg02.apply s.heap (vE c) [s.reg a.toNat] = .ok (s.heap, y) /\ Sg02.does s c = (s.setReg r y, Sg02.only 0)) \/ (Sg02.apply s.heap (vE c) [s.reg a.toNat] = .error 2 /\ Sg02.does s c = (s, Sg02.only (-3)))) := by
 cases c with
 | car r a =>
  refine ⟨r, a, rfl, rfl, rfl, fun h => ?_⟩
  have e : Sg02.does s (.car r a) = s.part r a fun x => x.1 := by unfold Sg02.does; rw [if_neg (by rw [h]; simp)]
  rw [e]
  unfold Sg02.Abs.part
  cases s.reg a.toNat with
  | pair i => exact .inl ⟨_, rfl, rfl⟩
  | nil => exact .inl ⟨_, rfl, rfl⟩
  | int z => exact .inr ⟨rfl, rfl⟩
  | name z => exact .inr ⟨rfl, rfl⟩
  | fn z => exact .inr ⟨rfl, rfl⟩
  | prim z => exact .inr ⟨rfl, rfl⟩
 | cdr r a =>
  refine ⟨r, a, rfl, rfl, rfl, fun h => ?_⟩
  have e : Sg02.does s (.cdr r a) = s.part r a fun x => x.2 := by unfold Sg02.does; rw [if_neg (by rw [h]; simp)]
  rw [e]
  unfold Sg02.Abs.part
  cases s.reg a.toNat with
  | pair i => exact .inl ⟨_, rfl, rfl⟩
  | nil => exact .inl ⟨_, rfl, rfl⟩
  | int z => exact .inr ⟨rfl, rfl⟩
  | name z => exact .inr ⟨rfl, rfl⟩
  | fn z => exact .inr ⟨rfl, rfl⟩
  | prim z => exact .inr ⟨rfl, rfl⟩
 | read r a => exact hc.elim (fun z => by cases z) (fun z => by cases z)
 | write r a => exact hc.elim (fun z => by cases z) (fun z => by cases z)
 | eval r a => exact hc.elim (fun z => by cases z) (fun z => by cases z)
 | cons r a d => exact hc.elim (fun z => by cases z) (fun z => by cases z)
 | kind r => exact hc.elim (fun z => by cases z) (fun z => by cases z)
 | same r a => exact hc.elim (fun z => by cases z) (fun z => by cases z)
theorem jA {ex : Nat -> Addr} (T : FT K mg "answer_with_part" "answer_with_part" bX ["lisp", "handed", "part_of"]) (C : Am mg) (c : CT K mg "Lisp" cL.c ["held", "definitions"]) (F : Ji K mg ex) (F1 : aX P w K mg base 2 "are_places" ["numbers"] (iq K)) :
  aX P w K mg base 3 "answer_with_part" ["lisp", "handed", "part_of"] (g8 P w A K mg base ex cL) := by
 obtain ⟨uR, mR, rR⟩ := C.ref
 obtain ⟨uN, mN, rN⟩ := C.PY
 refine T.ok eN (fun vs H Q E h => by obtain ⟨_, _, _, _, _, _, _, _, rfl, _⟩ := h; rfl) fun f aU A' outer s0 H vs Q E hr h => ?_
 obtain ⟨la, hl, d, ha, fa, s, sz, cc, rfl, hc, ⟨fd, ps, kp, G, bi⟩, L0, hS, hsz, q⟩ := h
 have bS : Ir.contains (.type "BaseException") = true := by decide
 refine ⟨_, af (aL (c9 (bc (aW F1 hr (by rfl) ai (aa (pv 1) ag)))) (ae (a6 (b7 (aa (ax (by rfl) mR rR) ag)))) aG)
  (af (xH (tb := fun E' => G6 (Cd (fk P w) P w K mg base 2 E' (Ca 2) (pb (G5 (pb (II (GK K) (J2 K (Ca 0) "held") (II (GK K) (Ca 1) (tC (.int 1)))) tq)) tq)) (Ds 3)) dh (fun pins E' => ae (aJ (i := 3) eN.nd rfl (Or.inl rfl) (pN (X := (dU (fk P w) P w K mg base ["lisp", "handed", "part_of", "part"] "answer_with_part" (aj bX) f aU A' outer s0 H E).Aw pins E') (CX := fk P w) (k := 2) (E := E') hr (pv 2) jX (aa (b7 (aa (aB a5 (ay (pv 0) rfl) (aB a5 (pv 1) aw (fun _ _ => rfl)) (fun _ _ => rfl)) ag)) ag))))
   (dZ (r := []) dh (by rfl) F.x2.kg F.x2.ex bS (fun C hC => nomatch hC) (fun ea => ae (a6 (b7 (aa (ax (by rfl) mN rN) ag)))) xO))
  (af (tX (pv 3) (uc (ay (pv 0) rfl) (aB a5 (pv 1) aw (fun _ _ => rfl)) set_list))
  (ae (a6 (b7 (aa aw ag)))))), ?_⟩
 obtain ⟨r, a, ez, er, e0, ed⟩ := AD (s := s) hc
 rw [ez] at hS
 refine ⟨_, rfl, ha, _, rfl, hS, (by show 2 <= 300000; decide), fun H1 s1 => ⟨_, rfl, B5 (fun z => ?_) fun z => ?_⟩⟩
 ·have z : (Sg02.isReg r && (Sg02.isReg a && true)) = false := z
  rw [Bool.and_true] at z
  exact ⟨(by show 1 <= sizeLine; decide), refused L0 (by rw [er, z]; rfl) q s1⟩
 ·have z : (Sg02.isReg r && (Sg02.isReg a && true)) = true := z
  rw [Bool.and_true] at z
  have nZ : Sg02.refuses cc = false := by rw [er, z]; rfl
  rw [Bool.and_eq_true] at z
  obtain ⟨zr, za⟩ := z
  rw [gK nZ, e0] at q
  obtain ⟨dx, vs, kvs, B, μ, L⟩ := L0
  have L1 := L.same s1
  have Gj := s1.seq hS
  obtain ⟨va, ea, ra, _⟩ := L1.get za
  obtain ⟨_, _, _, KC, ym⟩ := L1.get zr
  refine ⟨_, rfl, fa, fd, ps, _, rfl, kp, G, bi, ?_⟩
  refine ⟨_, rfl, la, cL.c, dx, _, _, rfl, L1.oP, c.cl, c.na _ (by simp), rfl, _, rfl, ha, _, _, _, rfl, rfl, Gj, (show gY ([r, a].map V.int) 1 = some (.int a) from rfl), hl, vs, _, va, rfl, rfl, .inl (.inl L1.lD), ea, (by show 1 <= sizeLine; decide), fun l1 Qg => ?_⟩
  have s2 : aK H1 (upd H1 l1 (.lst [va])) := az Qg
  have L2 := L1.same s2
  refine ⟨l1, [va], [s.reg a.toNat], s.names, μ, s.heap, B, rfl, .inl (.inl ah), rfl, L2.wr, .cons (ra.mono (.refl μ) (bF.of_same s2) (.refl _)) .nil, ?_⟩
  rcases ed nZ with ⟨y, e1, e2⟩ | ⟨e1, e2⟩
  ·rw [e1]
   rw [e2] at q
   intro v H3 μ3 B3 s3 ml k8 hB W3 r3
   have hb := L2.cn
   have L3 : kC P w A K cL s (sz + 1) la hl d dx vs kvs B3 μ3 H3 := L2.grow s3 ml k8 (.refl _) W3 (by omega)
   have QT := (s2.trans s3).seq Gj
   refine ⟨_, rfl, _, rfl, la, cL.c, dx, _, _, rfl, L3.oP, c.cl, c.na _ (by simp), rfl, _, rfl, ha, _, _, _, rfl, rfl, QT, (show gY ([r, a].map V.int) 0 = some (.int r) from rfl), hl, vs, r, r.toNat, rfl, rfl, L3.lD, KC, ?_⟩
   have L4 := L3.set r3 (r := r) rfl ym
   refine ⟨(by show 1 <= sizeLine; decide), fun l nl => ?_⟩
   exact q l _ (((s1.trans s2).trans s3).free (bh nl).2) (L4.same (az nl)).lr ((ic.of_same ((s1.trans s2).trans s3)).trans (ic.upd.trans (ic.of_same (az nl)))) ah
  ·rw [e1]
   rw [e2] at q
   refine ⟨ex 2, rfl, fun σ' => ?_⟩
   show (if ex 2 = ex 2 then _ else _ : TS) _ _ _
   rw [if_pos rfl]
   refine ⟨(by show 1 <= sizeLine; decide), fun l nl => ?_⟩
   exact q l _ ((s1.trans s2).free nl) (fI (L2.le (Nat.le_succ sz)).lr nl) (ic.of_same ((s1.trans s2).trans (az nl))) ah
end
end Lsp
namespace Lsp
open PySem Spec PyProof.Rows L2
section
variable {P : Program} {w : World} {A : Ad} {K : W.Frag} {mg : Str -> Option Value} {base : Heap} {cL : Lc} {ex : Nat -> Addr} {cD qF : Addr}
theorem me : aq ["lisp", "handed"] ["lisp", "handed"] (aj eE) := bQ
theorem mW (T : FT K mg "answer_to_car" "answer_to_car" eE ["lisp", "handed"]) (F1 : aX P w K mg base 3 "answer_with_part" ["lisp", "handed", "part_of"] (g8 P w A K mg base ex cL)) (F2 : aX P w K mg base 2 "car" ["arguments"] (c6 P w A K ex 6 1)) : aX P w K mg base 4 "answer_to_car" ["lisp", "handed"] (Ea P w A K cL 5) := by
 refine T.ok me fz fun f aU A' outer s0 H vs Q E hr h => ?_
 obtain ⟨la, hl, d, ha, s, sz, cc, rfl, hc, L0, hS, hsz, Ee, q⟩ := h
 obtain ⟨g, gd, gm, gk, gb, G⟩ := F2
 refine ⟨_, ae (a6 (aW F1 hr (by rfl) ai (aa (pv 0) (aa (pv 1) (aa (ax (v := .ref g) (by rfl) gm rfl) ag))))), ?_⟩
 have ek : vE cc = 6 := by cases cc <;> first | rfl | cases hc
 exact ⟨_, rfl, _, rfl, la, hl, d, ha, g, s, sz, cc, rfl, .inl hc, ⟨gd, _, gk, by rw [ek]; exact G, gb⟩, L0, hS, hsz, q⟩
theorem lZ : aq ["lisp", "handed"] ["lisp", "handed"] (aj eD) := bQ
theorem mV (T : FT K mg "answer_to_cdr" "answer_to_cdr" eD ["lisp", "handed"]) (F1 : aX P w K mg base 3 "answer_with_part" ["lisp", "handed", "part_of"] (g8 P w A K mg base ex cL)) (F2 : aX P w K mg base 2 "cdr" ["arguments"] (c6 P w A K ex 7 1)) : aX P w K mg base 4 "answer_to_cdr" ["lisp", "handed"] (Ea P w A K cL 6) := by
 refine T.ok lZ fz fun f aU A' outer s0 H vs Q E hr h => ?_
 obtain ⟨la, hl, d, ha, s, sz, cc, rfl, hc, L0, hS, hsz, Ee, q⟩ := h
 obtain ⟨g, gd, gm, gk, gb, G⟩ := F2
 refine ⟨_, ae (a6 (aW F1 hr (by rfl) ai (aa (pv 0) (aa (pv 1) (aa (ax (v := .ref g) (by rfl) gm rfl) ag))))), ?_⟩
 have ek : vE cc = 7 := by cases cc <;> first | rfl | cases hc
 exact ⟨_, rfl, _, rfl, la, hl, d, ha, g, s, sz, cc, rfl, .inr hc, ⟨gd, _, gk, by rw [ek]; exact G, gb⟩, L0, hS, hsz, q⟩
theorem kY : aq ["lisp", "handed"] ["lisp", "handed"] (aj dO) := bQ
theorem l7 (T : FT K mg "answer_to_kind" "answer_to_kind" dO ["lisp", "handed"]) (C : Am mg) (c : CT K mg "Lisp" cL.c ["held", "definitions"]) (F1 : aX P w K mg base 2 "are_places" ["numbers"] (iq K)) (F2 : aX P w K mg base 2 "kind_of" ["thing"] (Cj P w A K)) : aX P w K mg base 3 "answer_to_kind" ["lisp", "handed"] (Ea P w A K cL 7) := by
 obtain ⟨uR, mR, rR⟩ := C.ref
 refine T.ok kY fz fun f aU A' outer s0 H vs Q E hr h => ?_
 obtain ⟨la, hl, d, ha, s, sz, cc, rfl, hc, L0, hS, hsz, Ee, q⟩ := h
 refine ⟨_, af (aL (c9 (bc (aW F1 hr (by rfl) ai (aa (pv 1) ag)))) (ae (a6 (b7 (aa (ax (by rfl) mR rR) ag)))) aG)
  (ae (a6 (b7 (aa (aW F2 hr (by rfl) ai (aa (aB a5 (ay (pv 0) rfl) (aB a5 (pv 1) aw (fun _ _ => rfl)) (fun _ _ => rfl)) ag)) ag)))), ?_⟩
 cases cc <;> first | (cases hc; done) | skip
 rename_i r
 refine ⟨_, rfl, ha, _, rfl, hS, Ee, fun H1 s1 => ⟨_, rfl, B5 (fun z => ?_) fun z => ?_⟩⟩
 ·have z : (Sg02.isReg r && true) = false := z
  rw [Bool.and_true] at z
  exact ⟨(by show 1 <= sizeLine; decide), refused L0 (by show (!Sg02.isReg r) = true; rw [z]; rfl) q s1⟩
 ·have z : (Sg02.isReg r && true) = true := z
  rw [Bool.and_true] at z
  have nZ : Sg02.refuses (.kind r) = false := by show (!Sg02.isReg r) = false; rw [z]; rfl
  have ed : Sg02.does s (.kind r) = (s, Sg02.only (s.reg r.toNat).kind) := by unfold Sg02.does; rw [if_neg (by rw [nZ]; simp)]
  rw [ed, gK nZ] at q
  obtain ⟨dx, vs, kvs, B, μ, L⟩ := L0
  have L1 := L.same s1
  obtain ⟨v, ev, rv, _⟩ := L1.get z
  refine ⟨_, rfl, la, cL.c, dx, _, _, rfl, L1.oP, c.cl, c.na _ (by simp), rfl, _, rfl, ha, _, _, _, rfl, rfl, s1.seq hS, (show gY ([r].map V.int) 0 = some (.int r) from rfl), hl, vs, _, v, rfl, rfl, .inl (.inl L1.lD), ev, ?_⟩
  refine ⟨v, _, s.names, μ, s.heap, B, rfl, L1.wr, rv, (by show 1 <= sizeLine; decide), fun l nl => ?_⟩
  exact q l _ (s1.free nl) (fI L1.lr nl) (ic.of_same (s1.trans (az nl))) ah
theorem kX : aq ["lisp", "handed"] ["lisp", "handed"] (aj dM) := bQ
theorem l5 (T : FT K mg "answer_to_same" "answer_to_same" dM ["lisp", "handed"]) (C : Am mg) (c : CT K mg "Lisp" cL.c ["held", "definitions"]) (i : sV A K) (F1 : aX P w K mg base 2 "are_places" ["numbers"] (iq K)) (F2 : aX P w K mg base 1 "same" ["one", "other"] (xm K)) : aX P w K mg base 3 "answer_to_same" ["lisp", "handed"] (Ea P w A K cL 8) := by
 obtain ⟨uR, mR, rR⟩ := C.ref
 refine T.ok kX fz fun f aU A' outer s0 H vs Q E hr h => ?_
 obtain ⟨la, hl, d, ha, s, sz, cc, rfl, hc, L0, hS, hsz, Ee, q⟩ := h
 have jw := hr.mono (show 1 <= 2 by decide)
 refine ⟨_, af (aL (c9 (bc (aW F1 hr (by rfl) ai (aa (pv 1) ag)))) (ae (a6 (b7 (aa (ax (by rfl) mR rR) ag)))) aG)
  (ae (a6 (b7 (aa (gn (bc (aW F2 jw (by rfl) ai (aa (aB a5 (ay (pv 0) rfl) (aB a5 (pv 1) aw (fun _ _ => rfl)) (fun _ _ => rfl)) (aa (aB a5 (ay (pv 0) rfl) (aB a5 (pv 1) aw (fun _ _ => rfl)) (fun _ _ => rfl)) ag)))) aw aw) ag)))), ?_⟩
 cases cc <;> first | (cases hc; done) | skip
 rename_i a b
 refine ⟨_, rfl, ha, _, rfl, hS, Ee, fun H1 s1 => ⟨_, rfl, B5 (fun z => ?_) fun z => ?_⟩⟩
 ·have z : (Sg02.isReg a && (Sg02.isReg b && true)) = false := z
  rw [Bool.and_true] at z
  exact ⟨(by show 1 <= sizeLine; decide), refused L0 (by show (!(Sg02.isReg a && Sg02.isReg b)) = true; rw [z]; rfl) q s1⟩
 ·have z : (Sg02.isReg a && (Sg02.isReg b && true)) = true := z
  rw [Bool.and_true] at z
  have nZ : Sg02.refuses (.same a b) = false := by show (!(Sg02.isReg a && Sg02.isReg b)) = false; rw [z]; rfl
  rw [Bool.and_eq_true] at z
  obtain ⟨za, zb⟩ := z
  have ed : Sg02.does s (.same a b) = (s, Sg02.only (if s.reg a.toNat = s.reg b.toNat then 1 else 0)) := by unfold Sg02.does; rw [if_neg (by rw [nZ]; simp)]
  rw [ed, gK nZ] at q
  obtain ⟨dx, vs, kvs, B, μ, L⟩ := L0
  have L1 := L.same s1
  obtain ⟨va, ea, ra, _⟩ := L1.get za
  obtain ⟨vb, eb, rb, _⟩ := L1.get zb
  refine ⟨_, rfl, la, cL.c, dx, _, _, rfl, L1.oP, c.cl, c.na _ (by simp), rfl, _, rfl, ha, _, _, _, rfl, rfl, s1.seq hS, (show gY ([a, b].map V.int) 0 = some (.int a) from rfl), hl, vs, _, va, rfl, rfl, .inl (.inl L1.lD), ea, ?_⟩
  refine ⟨_, rfl, la, cL.c, dx, _, _, rfl, L1.oP, c.cl, c.na _ (by simp), rfl, _, rfl, ha, _, _, _, rfl, rfl, s1.seq hS, (show gY ([a, b].map V.int) 1 = some (.int b) from rfl), hl, vs, _, vb, rfl, rfl, .inl (.inl L1.lD), eb, ?_⟩
  obtain ⟨j, k, hj, hk, N7⟩ := ra.same rb L1.wr i
  refine ⟨va, vb, j, k, rfl, hj, hk, _, rfl, ?_⟩
  rw [N7]
  refine rH (fun z => ⟨(by show 1 <= sizeLine; decide), fun l nl => ?_⟩) fun z => ⟨(by show 1 <= sizeLine; decide), fun l nl => ?_⟩
  ·rw [if_pos (of_decide_eq_true z)] at q
   exact q l _ (s1.free nl) (fI L1.lr nl) (ic.of_same (s1.trans (az nl))) ah
  ·rw [if_neg (of_decide_eq_false z)] at q
   exact q l _ (s1.free nl) (fI L1.lr nl) (ic.of_same (s1.trans (az nl))) ah
theorem bW : aq ["lisp", "handed", "r", "most", "text"] ["lisp", "handed"] (aj d6) := bQ
theorem kb (T : FT K mg "answer_to_write" "answer_to_write" d6 ["lisp", "handed"]) (C : Am mg) (c : CT K mg "Lisp" cL.c ["held", "definitions"]) (F1 : aX P w K mg base 1 "is_place" ["number"] kN) (F2 : aX P w K mg base 5 "text_of" ["thing", "most"] (Ce P w A K)) : aX P w K mg base 6 "answer_to_write" ["lisp", "handed"] (Ea P w A K cL 2) := by
 obtain ⟨uR, mR, rR⟩ := C.ref
 obtain ⟨uM, mM, rM⟩ := C.most
 obtain ⟨uL, mL, rL⟩ := C.long
 refine T.ok bW fz fun f aU A' outer s0 H vs Q E hr h => ?_
 obtain ⟨la, hl, d, ha, s, sz, cc, rfl, hc, L0, hS, hsz, Ee, q⟩ := h
 have jw := hr.mono (show 1 <= 5 by decide)
 refine ⟨_, af (aJ (i := 2) bW.nd rfl (Or.inl rfl) (aB a5 (pv 1) aw (fun _ _ => rfl)))
  (af (aJ (i := 3) bW.nd rfl (Or.inl rfl) (aB a5 (pv 1) aw (fun _ _ => rfl)))
  (af (aL (lj (c9 (bc (aW F1 jw (by rfl) ai (aa (pv 2) ag)))) (jV (c9 (v8 gW gW aw (pv 3) (ax (by rfl) mM rM))))).pt (ae (a6 (b7 (aa (ax (by rfl) mR rR) ag)))) aG)
  (af (aJ (i := 4) bW.nd rfl (Or.inl rfl) (aW F2 hr (by rfl) ai (aa (aB a5 (ay (pv 0) rfl) (pv 2) (fun _ _ => rfl)) (aa (pv 3) ag))))
  (af (aL (aA gJ (pv 4) bq (aH _)) (ae (a6 (b7 (aa (ax (by rfl) mL rL) ag)))) aG)
  (ae (a6 (e9 CJ (b7 (aa (a7 a9 (by rfl) C.fV PySem.boot_len (aa (pv 4) ag)) ag)) (pv 4)))))))), ?_⟩
 cases cc <;> first | (cases hc; done) | skip
 rename_i r m
 refine ⟨_, rfl, ha, _, _, _, rfl, rfl, hS, (show gY ([r, m].map V.int) 0 = some (.int r) from rfl), ?_⟩
 refine ⟨_, rfl, ha, _, _, _, rfl, rfl, hS, (show gY ([r, m].map V.int) 1 = some (.int m) from rfl), ?_⟩
 have ref : (Sg02.isReg r && Sg02.within m 0 65535) = false -> ∀ l, H l = Option.none -> Q (.ref l) (upd H l (.lst [.int (-2)])) := fun z => refused L0 (by show (!(Sg02.isReg r && Sg02.within m 0 65535)) = true; rw [z]; rfl) q (aK.refl H)
 refine ⟨_, rfl, _, rfl, _, rfl, B5 (fun z => ⟨(by show 1 <= sizeLine; decide), ref (by rw [z]; rfl)⟩) fun zr => ?_⟩
 have ew : Sg02.within m 0 65535 = (decide ((0 : Int) <= m) && decide (m <= 65535)) := rfl
 refine ⟨_, rfl, _, _, rfl, rfl, _, rfl, rH (fun z0 => ⟨_, _, rfl, rfl, _, rfl, B5 (fun z1 => ⟨(by show 1 <= sizeLine; decide), ref (by rw [ew, z1, Bool.and_false, Bool.and_false])⟩) fun z1 => ?_⟩) fun z0 => ⟨_, rfl, ⟨(by show 1 <= sizeLine; decide), ref (by rw [ew, z0, Bool.false_and, Bool.and_false])⟩⟩⟩
 have nZ : Sg02.refuses (.write r m) = false := by show (!(Sg02.isReg r && Sg02.within m 0 65535)) = false; rw [ew, z0, z1, zr]; rfl
 have m0 := of_decide_eq_true z0
 have m1 := of_decide_eq_true z1
 obtain ⟨mn, rfl⟩ : ∃ mn : Nat, m = (mn : Nat) := ⟨m.toNat, by omega⟩
 have ed : Sg02.does s (.write r (mn : Nat)) = (s, if mn < s.long (s.reg r.toNat) then Sg02.only (-4) else ⟨(s.text (s.reg r.toNat)).length, s.text (s.reg r.toNat)⟩) := by unfold Sg02.does; rw [if_neg (by rw [nZ]; simp)]; rfl
 rw [ed, gK nZ] at q
 obtain ⟨dx, vs, kvs, B, μ, L⟩ := L0
 obtain ⟨v, ev, rv, _⟩ := L.get zr
 refine ⟨_, rfl, la, cL.c, dx, _, _, rfl, L.oP, c.cl, c.na _ (by simp), rfl, _, rfl, hl, vs, _, v, rfl, rfl, .inl (.inl L.lD), ev, _, rfl, v, mn, s.reg r.toNat, s, μ, B, rfl, L.wr, rv, by omega, fun hW H1 s1 => ?_, fun hle l1 H1 n1 s1 h1 => ?_⟩
 ·rw [zI L.wr.gp _ (rv.jY L.wr), if_pos hW] at q
  refine ⟨_, rfl, rfl, _, rfl, aZ ⟨(by show 1 <= sizeLine; decide), fun l nl => ?_⟩⟩
  exact q l _ (s1.free nl) (fI (L.same s1).lr nl) (ic.of_same (s1.trans (az nl))) ah
 ·rw [zI L.wr.gp _ (rv.jY L.wr), if_neg (by omega), En L.wr.gp _ (rv.jY L.wr)] at q
  refine ⟨_, rfl, rfl, _, rfl, aM ⟨_, rfl, l1, _, rfl, .inl (.inl (.inl h1)), (by show 1 <= sizeLine; decide), fun l2 n2 => ⟨_, rfl, l2, l1, _, _, rfl, rfl, ah, (az n2) _ _ h1, Nat.le_of_lt (eh (by rw [b5]; show 1 + _ <= _; omega)), fun l3 n3 => ?_⟩⟩⟩
  refine q l3 _ ((s1.trans (az n2)).free n3) (L.same ((s1.trans (az n2)).trans (az n3))).lr (ic.of_same ((s1.trans (az n2)).trans (az n3))) ?_
  rw [ah, b5]
  rfl
theorem bJ : aq ["lisp", "handed", "r", "budget", "result"] ["lisp", "handed"] (aj c8) := bQ
theorem hJ (T : FT K mg "answer_to_evaluate" "answer_to_evaluate" c8 ["lisp", "handed"]) (C : Am mg) (c : CT K mg "Lisp" cL.c ["held", "definitions"]) (F1 : aX P w K mg base 1 "is_place" ["number"] kN) (F2 : aX P w K mg base 9 "outcome" ["thing", "definitions", "budget"] (rX P w A K)) : aX P w K mg base 10 "answer_to_evaluate" ["lisp", "handed"] (Ea P w A K cL 3) := by
 obtain ⟨uR, mR, rR⟩ := C.ref
 obtain ⟨uM, mM, rM⟩ := C.Rq
 refine T.ok bJ fz fun f aU A' outer s0 H vs Q E hr h => ?_
 obtain ⟨la, hl, d, ha, s, sz, cc, rfl, hc, L0, hS, hsz, Ee, q⟩ := h
 have jw := hr.mono (show 1 <= 9 by decide)
 refine ⟨_, af (aJ (i := 2) bJ.nd rfl (Or.inl rfl) (aB a5 (pv 1) aw (fun _ _ => rfl)))
  (af (aJ (i := 3) bJ.nd rfl (Or.inl rfl) (aB a5 (pv 1) aw (fun _ _ => rfl)))
  (af (aL (lj (c9 (bc (aW F1 jw (by rfl) ai (aa (pv 2) ag)))) (jV (c9 (v8 gW gW aw (pv 3) (ax (by rfl) mM rM))))).pt (ae (a6 (b7 (aa (ax (by rfl) mR rR) ag)))) aG)
  (af (aJ (i := 4) bJ.nd rfl (Or.inl rfl) (aW F2 hr (by rfl) ai (aa (aB a5 (ay (pv 0) rfl) (pv 2) (fun _ _ => rfl)) (aa (ay (pv 0) rfl) (aa (pv 3) ag)))))
  (af (aL (aA dC (aB eK (pv 4) aw (fun _ _ => rfl)) aw (aH _)) (ae (tX (aB eK (pv 4) aw (fun _ _ => rfl)) (uc (ay (pv 0) rfl) (pv 2) set_list))) aG)
  (ae (a6 (b7 (aa (aB eK (pv 4) aw (fun _ _ => rfl)) ag)))))))), ?_⟩
 cases cc <;> first | (cases hc; done) | skip
 rename_i r m
 refine ⟨_, rfl, ha, _, _, _, rfl, rfl, hS, (show gY ([r, m].map V.int) 0 = some (.int r) from rfl), ?_⟩
 refine ⟨_, rfl, ha, _, _, _, rfl, rfl, hS, (show gY ([r, m].map V.int) 1 = some (.int m) from rfl), ?_⟩
 have ref : (Sg02.isReg r && Sg02.within m 0 1000000) = false -> ∀ l, H l = Option.none -> Q (.ref l) (upd H l (.lst [.int (-2)])) := fun z => refused L0 (by show (!(Sg02.isReg r && Sg02.within m 0 1000000)) = true; rw [z]; rfl) q (aK.refl H)
 refine ⟨_, rfl, _, rfl, _, rfl, B5 (fun z => ⟨(by show 1 <= sizeLine; decide), ref (by rw [z]; rfl)⟩) fun zr => ?_⟩
 have ew : Sg02.within m 0 1000000 = (decide ((0 : Int) <= m) && decide (m <= 1000000)) := rfl
 refine ⟨_, rfl, _, _, rfl, rfl, _, rfl, rH (fun z0 => ⟨_, _, rfl, rfl, _, rfl, B5 (fun z1 => ⟨(by show 1 <= sizeLine; decide), ref (by rw [ew, z1, Bool.and_false, Bool.and_false])⟩) fun z1 => ?_⟩) fun z0 => ⟨_, rfl, ⟨(by show 1 <= sizeLine; decide), ref (by rw [ew, z0, Bool.false_and, Bool.and_false])⟩⟩⟩
 have nZ : Sg02.refuses (.eval r m) = false := by show (!(Sg02.isReg r && Sg02.within m 0 1000000)) = false; rw [ew, z0, z1, zr]; rfl
 have m0 := of_decide_eq_true z0
 have m1 := of_decide_eq_true z1
 obtain ⟨mn, rfl⟩ : ∃ mn : Nat, m = (mn : Nat) := ⟨m.toNat, by omega⟩
 have run := Bw s mn (s.reg r.toNat) .nil
 have ed : Sg02.does s (.eval r (mn : Nat)) = (match (s.eval mn (s.reg r.toNat)).1 with
  | .value x => (({ s with heap := (s.eval mn (s.reg r.toNat)).2.heap, global := (s.eval mn (s.reg r.toNat)).2.global } : Sg02.Abs).setReg r x, Sg02.only 0)
  | .fault n => ({ s with heap := (s.eval mn (s.reg r.toNat)).2.heap, global := (s.eval mn (s.reg r.toNat)).2.global }, Sg02.only n)
  | .spent => ({ s with heap := (s.eval mn (s.reg r.toNat)).2.heap, global := (s.eval mn (s.reg r.toNat)).2.global }, Sg02.only 7)) := by unfold Sg02.does; rw [if_neg (by rw [nZ]; simp)]; rfl
 have ec : cost (.eval r (mn : Nat)) = mn := by rw [gK nZ]; rfl
 rw [ed, ec] at q
 rw [ec] at hsz
 generalize (s.eval mn (s.reg r.toNat)).1 = o at run q
 generalize (s.eval mn (s.reg r.toNat)).2 = u at run q
 obtain ⟨dx, vs, kvs, B, μ, L⟩ := L0
 obtain ⟨v, ev, rv, KC, ym⟩ := L.get zr
 refine ⟨_, rfl, la, cL.c, dx, _, _, rfl, L.oP, c.cl, c.na _ (by simp), rfl, _, rfl, hl, vs, _, v, rfl, rfl, .inl (.inl L.lD), ev, ?_⟩
 refine ⟨_, rfl, la, cL.c, dx, _, _, rfl, L.oP, c.cl, c.na _ (by simp), rfl, _, rfl, v, d, mn, s.names, μ, s.heap, s.global, sz, s.reg r.toNat, o, u, rfl, ⟨⟨B, kvs, L.wr, L.dr, L.cn⟩, L.id, rv, Nat.le_trans (show sz + mn + 10 <= 400000 by omega) (by decide)⟩, run, fun t v1 H1 μ1 ar ht hv => ?_⟩
 obtain ⟨MF, B1, W1, D1, out, L8⟩ := ar
 have im : bF μ H H1 := fun a x ia e => out.fr a x (fun z => L.id (by rw [<- z]; exact ia)) e
 have kd : ∀ a x, H a = some x -> ¬ μ.im a -> ¬ μ1.im a := fun a x e n z => (out.k8 a z).elim n fun z => by rw [e] at z; cases z
 have L1 : kC P w A K cL { s with heap := u.heap, global := u.global } (sz + mn) la hl d dx vs MF B1 μ1 H1 :=
  ⟨out.fr _ _ L.Qe L.oP, out.fr _ _ L.Ow L.lD, L.len, fun k hk => by obtain ⟨y, e, ry⟩ := L.reg k hk; exact ⟨y, e, ry.mono out.ml im (.refl _)⟩, W1, D1, L8, kd _ _ L.oP L.il, kd _ _ L.lD L.ih, kd _ _ L.dr.at_ L.id, fun a ha => by
   obtain ⟨z, x, e⟩ := L.GN a ha
   refine ⟨kd a x e z, ?_⟩
   by_cases ed : a = d
   ·exact ⟨_, by rw [ed]; exact D1.at_⟩
   ·exact ⟨x, out.fr a x ed e⟩⟩
 have IZ : ic hl d H H1 := fun b x n1 n2 e => out.fr b x n2 e
 refine ⟨_, rfl, t, _, _, _, rfl, rfl, .inl (.inl ht), (show gY [V.int (mD o : Nat), v1] 0 = some (.int (mD o : Nat)) from rfl), rfl, _, rfl, ?_⟩
 have fin : ∀ H2, H2 t = some (.tup [.int (mD o : Nat), v1]) -> ∀ (G : Prop), (∀ l, H2 l = Option.none -> Q (.ref l) (upd H2 l (.lst [.int (mD o : Nat)]))) -> True := fun _ _ _ _ => trivial
 cases o with
 | value y =>
  refine aZ ⟨_, rfl, t, _, _, _, rfl, rfl, .inl (.inl ht), (show gY [V.int (mD (.value y) : Nat), v1] 1 = some v1 from rfl), _, rfl, la, cL.c, dx, _, _, rfl, L1.oP, c.cl, c.na _ (by simp), rfl, _, rfl, hl, vs, r, r.toNat, rfl, rfl, L1.lD, KC, ?_⟩
  have L2 := L1.set (hv y rfl) (r := r) rfl ym
  have nt : t ≠ hl := fun z => by rw [z, L1.lD] at ht; cases ht
  refine ⟨_, rfl, t, _, _, _, rfl, rfl, .inl (.inl ((ak nt).trans ht)), (show gY [V.int (mD (.value y) : Nat), v1] 0 = some (.int (mD (.value y) : Nat)) from rfl), (by show 1 <= sizeLine; decide), fun l nl => ?_⟩
  exact q l _ (L1.fresh IZ (bh nl).2) (L2.same (az nl)).lr (IZ.trans (ic.upd.trans (ic.of_same (az nl)))) ah
 | fault n =>
  have hn := pH run n rfl
  have c2 : decide (V.int ((n : Nat) : Int) = V.int 0) = false := decide_eq_false (by intro z; injection z with z; omega)
  show if decide (V.int ((n : Nat) : Int) = V.int 0) = true then _ else _
  rw [c2]
  refine aM ⟨_, rfl, t, _, _, _, rfl, rfl, .inl (.inl ht), (show gY [V.int (mD (.fault n) : Nat), v1] 0 = some (.int (mD (.fault n) : Nat)) from rfl), (by show 1 <= sizeLine; decide), fun l nl => ?_⟩
  exact q l _ (L1.fresh IZ nl) (L1.same (az nl)).lr (IZ.trans (ic.of_same (az nl))) ah
 | spent =>
  refine aM ⟨_, rfl, t, _, _, _, rfl, rfl, .inl (.inl ht), (show gY [V.int (mD .spent : Nat), v1] 0 = some (.int (mD .spent : Nat)) from rfl), (by show 1 <= sizeLine; decide), fun l nl => ?_⟩
  exact q l _ (L1.fresh IZ nl) (L1.same (az nl)).lr (IZ.trans (ic.of_same (az nl))) ah
theorem cx : aq ["lisp", "handed", "r", "text", "found"] ["lisp", "handed"] (aj dN) := bQ
theorem Fy (a b : V) (l : List V) : gw (a :: b :: l) (some 2) none = l := by
 have z : HT.dm (a :: b :: l).length 0 (some (2 : Int)) = min 2 (a :: b :: l).length := HT.dX _ _ 2
 have e : min 2 (a :: b :: l).length = 2 := by rw [List.length_cons, List.length_cons]; omega
 rw [e] at z
 unfold gw
 rw [z]
 show l.take ((a :: b :: l).length - 2) = l
 refine List.take_of_length_le ?_
 simp
theorem l6 (T : FT K mg "answer_to_read" "answer_to_read" dN ["lisp", "handed"]) (C : Am mg) (c : CT K mg "Lisp" cL.c ["held", "definitions"]) (xM : jK K mg "MalformedText" cD) (xN : jK K mg "NothingToRead" qF) (MB : cD ≠ qF) (mro : W.mroIn K cD (.ref qF) = some false)
  (F1 : aX P w K mg base 1 "is_place" ["number"] kN) (F2 : aX P w K mg base 6 "read_first" ["text"] (zo P w A K cD qF)) : aX P w K mg base 7 "answer_to_read" ["lisp", "handed"] (Ea P w A K cL 1) := by
 obtain ⟨uR, mR, rR⟩ := C.ref
 obtain ⟨uT, mT, rT⟩ := C.txt
 obtain ⟨uN, mN, rN⟩ := C.none_
 obtain ⟨uM, mM, rM⟩ := C.Qq
 refine T.ok cx fz fun f aU A' outer s0 H vs Q E hr h => ?_
 obtain ⟨la, hl, d, ha, s, sz, cc, rfl, hc, L0, hS, hsz, Ee, q⟩ := h
 have jw := hr.mono (show 1 <= 6 by decide)
 have bS : Ir.contains (.type "BaseException") = true := by decide
 refine ⟨_, af (aJ (i := 2) cx.nd rfl (Or.inl rfl) (aB a5 (pv 1) aw (fun _ _ => rfl)))
  (af (aJ (i := 3) cx.nd rfl (Or.inl rfl) (gj kQ (pv 1) (fB aw) oN))
  (af (aL (lj (c9 (bc (aW F1 jw (by rfl) ai (aa (pv 2) ag)))) (jV (aA nS (a7 a9 (by rfl) C.fV PySem.boot_len (aa (pv 3) ag)) (ax (by rfl) mT rT) (aH _)))).pt (ae (a6 (b7 (aa (ax (by rfl) mR rR) ag)))) aG)
  (af (xH dh (fun pins E' => ae (aJ (i := 4) cx.nd rfl (Or.inl rfl) (aW (E := E') F2 hr (by rfl) jX (aa (pv 3) ag))))
   (dZ (r := [(cD, G3 (G5 (pb (tC (.int (-3))) tq)))]) dh (by rfl) xN.kg xN.ex bS (fun C hC => by rw [List.map_cons, List.map_nil, List.mem_singleton] at hC; rw [hC]; exact ⟨xM.ex, mro⟩) (fun ea => ae (a6 (b7 (aa (ax (by rfl) mN rN) ag))))
   (dZ (r := []) dh (by rfl) xM.kg xM.ex bS (fun C hC => nomatch hC) (fun ea => ae (a6 (b7 (aa (ax (by rfl) mM rM) ag)))) xO)))
  (af (tX (aB eK (pv 4) aw (fun _ _ => rfl)) (uc (ay (pv 0) rfl) (pv 2) set_list))
  (ae (a6 (b7 (aa (aB eK (pv 4) aw (fun _ _ => rfl)) ag)))))))), ?_⟩
 cases cc <;> first | (cases hc; done) | skip
 rename_i r b
 have hS : eu K H ha (.int r :: .int (b.length : Nat) :: tv b) := hS
 refine ⟨_, rfl, ha, _, _, _, rfl, rfl, hS, (show gY (V.int r :: V.int (b.length : Nat) :: tv b) ((0 : Nat) : Int) = some (.int r) from eW rfl), ?_⟩
 refine ⟨_, rfl, _, rfl, ha, _, rfl, hS, fun tl Ec => ?_⟩
 rw [Fy]
 generalize Gr : upd H tl (.lst (tv b)) = H1
 have s1 : aK H H1 := by rw [<- Gr]; exact az Ec
 have k9 : eu K H1 tl (tv b) := by rw [<- Gr]; exact .inl (.inl ah)
 have ref : (Sg02.isReg r && decide (b.length <= Sg02.SIZE)) = false -> ∀ l, H1 l = Option.none -> Q (.ref l) (upd H1 l (.lst [.int (-2)])) := fun z => refused L0 (by show (!(Sg02.isReg r && decide (b.length <= Sg02.SIZE))) = true; rw [z]; rfl) q s1
 refine ⟨_, rfl, _, rfl, _, rfl, B5 (fun z => ⟨(by show 1 <= sizeLine; decide), ref (by rw [z]; rfl)⟩) fun zr => ?_⟩
 refine ⟨_, rfl, tl, _, rfl, .inl k9, _, _, rfl, rfl, _, rfl, rH (fun z => ⟨(by show 1 <= sizeLine; decide), ref ?_⟩) fun z => ?_⟩
 ·have z := of_decide_eq_true z
  rw [b5] at z
  rw [decide_eq_false (show ¬ b.length <= Sg02.SIZE by show ¬ b.length <= 65535; omega), Bool.and_false]
 have z := of_decide_eq_false z
 rw [b5] at z
 have IY : b.length <= 65535 := by omega
 have nZ : Sg02.refuses (.read r b) = false := by show (!(Sg02.isReg r && decide (b.length <= Sg02.SIZE))) = false; rw [zr, decide_eq_true (show b.length <= Sg02.SIZE from IY)]; rfl
 have ed : Sg02.does s (.read r b) = (match Sg02.read b with
  | .none_ => (s, Sg02.only (-1))
  | .bad => (s, Sg02.only (-3))
  | .ok t left => (({ s with names := t.known s.names, heap := (t.make (t.known s.names) s.heap).1 } : Sg02.Abs).setReg r (t.make (t.known s.names) s.heap).2, Sg02.only ((b.length : Int) - left.length))) := by
  unfold Sg02.does; rw [if_neg (by rw [nZ]; simp)]; rfl
 have ec : cost (.read r b) = 2 * b.length := by rw [gK nZ]; rfl
 rw [ed, ec] at q
 rw [ec] at hsz
 obtain ⟨dx, vs, kvs, B, μ, L⟩ := L0
 have L1 := L.same s1
 obtain ⟨_, _, _, KC, ym⟩ := L1.get zr
 have hb := L1.cn
 refine ⟨_, rfl, tl, b, s.names, μ, s.heap, B, rfl, k9, L1.wr, IY, by omega, ?_⟩
 have M9 : ¬ cD = qF := MB
 cases eg : Sg02.read b with
 | none_ =>
  rw [eg] at q
  refine ⟨qF, rfl, fun σ' => ?_⟩
  show (if qF = qF then _ else _ : TS) _ _ _
  rw [if_pos rfl]
  refine ⟨(by show 1 <= sizeLine; decide), fun l nl => ?_⟩
  exact q l _ (s1.free nl) (fI (L1.le (Nat.le_add_right _ _)).lr nl) (ic.of_same (s1.trans (az nl))) ah
 | bad =>
  rw [eg] at q
  intro H2 s2
  refine ⟨cD, rfl, fun σ' => ?_⟩
  show (if cD = qF then _ else (if cD = cD then _ else _ : TS)) _ _ _
  rw [if_neg M9, if_pos rfl]
  refine ⟨(by show 1 <= sizeLine; decide), fun l nl => ?_⟩
  exact q l _ ((s1.trans s2).free nl) (fI ((L1.same s2).le (Nat.le_add_right _ _)).lr nl) (ic.of_same ((s1.trans s2).trans (az nl))) ah
 | ok t rest =>
  rw [eg] at q
  intro tp v H2 μ2 ns h o B2 em W2 rv s2 ml k8 JT RW Lw
  rw [mk_eq t s.names s.heap _ (List.prefix_refl _)] at em
  obtain ⟨e1, e2, e3⟩ : t.known s.names = ns /\ (t.make (t.known s.names) s.heap).1 = h /\ (t.make (t.known s.names) s.heap).2 = o := by
   injection em with e1 e2
   exact ⟨e1, by rw [e2], by rw [e2]⟩
  have hW := tV eg
  have L2 := L1.grow s2 ml k8 JT W2 (sz' := sz + 2 * b.length) (by omega)
  refine ⟨_, rfl, tp, _, _, _, rfl, rfl, .inl (.inl Lw), (show gY [v, V.int ((b.length - rest.length : Nat) : Int)] 0 = some v from rfl), _, rfl, la, cL.c, dx, _, _, rfl, L2.oP, c.cl, c.na _ (by simp), rfl, _, rfl, hl, vs, r, r.toNat, rfl, rfl, L2.lD, KC, ?_⟩
  have L3 := L2.set rv (r := r) rfl ym
  have Mz : tp ≠ hl := fun z => by rw [z, L2.lD] at Lw; cases Lw
  refine ⟨_, rfl, tp, _, _, _, rfl, rfl, .inl (.inl ((ak Mz).trans Lw)), (show gY [v, V.int ((b.length - rest.length : Nat) : Int)] 1 = some (.int ((b.length - rest.length : Nat) : Int)) from rfl), (by show 1 <= sizeLine; decide), fun l nl => ?_⟩
  refine q l _ ((s1.trans s2).free (bh nl).2) ?_ ((ic.of_same (s1.trans s2)).trans (ic.upd.trans (ic.of_same (az nl)))) ?_
  ·show LR P w A K cL (({ s with names := t.known s.names, heap := (t.make (t.known s.names) s.heap).1 } : Sg02.Abs).setReg r (t.make (t.known s.names) s.heap).2) _ _ _ _ _
   rw [e3, e2, e1]
   exact (L3.same (az nl)).lr
  ·have e : ((b.length - rest.length : Nat) : Int) = (b.length : Int) - rest.length := by omega
   rw [ah, e]
   rfl
end
end Lsp
namespace Lsp
inductive Dec : List Int -> List (List (List Int)) -> Prop where
 | nil : Dec [] []
 | read (x : Int) (t rest : List Int) (cs : List (List (List Int))) (h : Dec rest cs) : Dec (1 :: x :: (t.length : Int) :: (t ++ rest)) ([[1, x], t] :: cs)
 | write (x y : Int) (rest : List Int) (cs : List (List (List Int))) (h : Dec rest cs) : Dec (2 :: x :: y :: rest) ([[2, x, y]] :: cs)
 | eval (x y : Int) (rest : List Int) (cs : List (List (List Int))) (h : Dec rest cs) : Dec (3 :: x :: y :: rest) ([[3, x, y]] :: cs)
 | cons (x y z : Int) (rest : List Int) (cs : List (List (List Int))) (h : Dec rest cs) : Dec (4 :: x :: y :: z :: rest) ([[4, x, y, z]] :: cs)
 | car (x y : Int) (rest : List Int) (cs : List (List (List Int))) (h : Dec rest cs) : Dec (5 :: x :: y :: rest) ([[5, x, y]] :: cs)
 | cdr (x y : Int) (rest : List Int) (cs : List (List (List Int))) (h : Dec rest cs) : Dec (6 :: x :: y :: rest) ([[6, x, y]] :: cs)
 | kind (x : Int) (rest : List Int) (cs : List (List (List Int))) (h : Dec rest cs) : Dec (7 :: x :: rest) ([[7, x]] :: cs)
 | same (x y : Int) (rest : List Int) (cs : List (List (List Int))) (h : Dec rest cs) : Dec (8 :: x :: y :: rest) ([[8, x, y]] :: cs)
theorem Dec.whole {l : List Int} {cs : List (List (List Int))} (d : Dec l cs) : cs.map PySg02.whole = cs := by
 induction d with
 | nil => rfl
 | read x t rest cs h ih => rw [List.map_cons, ih]; rfl
 | write x y rest cs h ih => rw [List.map_cons, ih]; rfl
 | eval x y rest cs h ih => rw [List.map_cons, ih]; rfl
 | cons x y z rest cs h ih => rw [List.map_cons, ih]; rfl
 | car x y rest cs h ih => rw [List.map_cons, ih]; rfl
 | cdr x y rest cs h ih => rw [List.map_cons, ih]; rfl
 | kind x rest cs h ih => rw [List.map_cons, ih]; rfl
 | same x y rest cs h ih => rw [List.map_cons, ih]; rfl
theorem C4 (n : Int) (r : List Int) : PyFlat.row (n :: r) = if 0 <= n /\ n.toNat <= r.length then some (r.take n.toNat, r.drop n.toNat) else none := rfl
theorem C3 {r x s : List Int} (h : PyFlat.row r = some (x, s)) : r = (x.length : Int) :: (x ++ s) := by
 cases r with
 | nil => cases h
 | cons n r =>
  rw [C4] at h
  by_cases hc : 0 <= n /\ n.toNat <= r.length
  ·rw [if_pos hc] at h
   cases h
   have : ((r.take n.toNat).length : Int) = n := by rw [List.length_take]; omega
   rw [this, List.take_append_drop]
  ·rw [if_neg hc] at h
   cases h
theorem sO {p : Int} {n k : Nat} (hs : PySg02.shape p = some (n, k)) (r : List Int) : PyFlat.call PySg02.shape (p :: r) = if r.length < n then none else match PyFlat.rows k (r.drop n) with
   | none => none
   | some (xs, t) => some ((p :: r.take n) :: xs, t) := by
 simp only [PyFlat.call, hs]
 cases PyFlat.rows k (List.drop n r) <;> rfl
theorem qv {p : Int} {n : Nat} (hs : PySg02.shape p = some (n, 0)) {r : List Int} {c : List (List Int)} {t : List Int} (h : PyFlat.call PySg02.shape (p :: r) = some (c, t)) :
  n <= r.length /\ c = [p :: r.take n] /\ t = r.drop n := by
 rw [sO hs] at h
 by_cases hl : r.length < n
 ·rw [if_pos hl] at h
  cases h
 ·rw [if_neg hl] at h
  cases h
  exact ⟨by omega, rfl, rfl⟩
theorem DA {r : List Int} (h : 2 <= r.length) : ∃ x y s, r = x :: y :: s := by
 match r, h with
 | x :: y :: s, _ => exact ⟨x, y, s, rfl⟩
theorem D8 : ∀ (f : Nat) (l : List Int) (cs : List (List (List Int))), PyFlat.calls PySg02.shape f l = some cs -> Dec l cs
 | f, [], cs, h => by
  unfold PyFlat.calls at h
  cases h
  exact .nil
 | 0, p :: r, cs, h => by
  unfold PyFlat.calls at h
  cases h
 | f + 1, p :: r, cs, h => by
  unfold PyFlat.calls at h
  cases q : PyFlat.call PySg02.shape (p :: r) with
  | none => rw [q] at h; cases h
  | some y =>
   obtain ⟨c, t⟩ := y
   rw [q] at h
   dsimp only at h
   cases q2 : PyFlat.calls PySg02.shape f t with
   | none => rw [q2] at h; cases h
   | some Fz =>
    rw [q2] at h
    cases h
    have ih := D8 f t Fz q2
    by_cases h1 : p = 1
    ·subst h1
     rw [sO (n := 1) (k := 1) rfl] at q
     cases r with
     | nil => cases q
     | cons x r =>
      rw [if_neg (by simp)] at q
      cases q3 : PyFlat.row r with
      | none =>
       have e : PyFlat.rows 1 (List.drop 1 (x :: r)) = none := by show (match PyFlat.row r with | none => none | some (x, s) => _) = none; rw [q3]
       rw [e] at q
       cases q
      | some z =>
       obtain ⟨a, b⟩ := z
       have e : PyFlat.rows 1 (List.drop 1 (x :: r)) = some ([a], b) := by show (match PyFlat.row r with | none => none | some (x, s) => _) = _; rw [q3]; rfl
       rw [e] at q
       cases q
       have e := C3 q3
       rw [e]
       exact .read x a _ Fz ih
    by_cases h2 : p = 2
    ·subst h2
     obtain ⟨hl, rfl, rfl⟩ := qv (n := 2) rfl q
     obtain ⟨x, y, s, rfl⟩ := DA hl
     exact .write x y s Fz ih
    by_cases h3 : p = 3
    ·subst h3
     obtain ⟨hl, rfl, rfl⟩ := qv (n := 2) rfl q
     obtain ⟨x, y, s, rfl⟩ := DA hl
     exact .eval x y s Fz ih
    by_cases h4 : p = 4
    ·subst h4
     obtain ⟨hl, rfl, rfl⟩ := qv (n := 3) rfl q
     match r, hl, ih with
     | x :: y :: z :: s, _, ih => exact .cons x y z s Fz ih
    by_cases h5 : p = 5
    ·subst h5
     obtain ⟨hl, rfl, rfl⟩ := qv (n := 2) rfl q
     obtain ⟨x, y, s, rfl⟩ := DA hl
     exact .car x y s Fz ih
    by_cases h6 : p = 6
    ·subst h6
     obtain ⟨hl, rfl, rfl⟩ := qv (n := 2) rfl q
     obtain ⟨x, y, s, rfl⟩ := DA hl
     exact .cdr x y s Fz ih
    by_cases h7 : p = 7
    ·subst h7
     obtain ⟨hl, rfl, rfl⟩ := qv (n := 1) rfl q
     match r, hl, ih with
     | x :: s, _, ih => exact .kind x s Fz ih
    by_cases h8 : p = 8
    ·subst h8
     obtain ⟨hl, rfl, rfl⟩ := qv (n := 2) rfl q
     obtain ⟨x, y, s, rfl⟩ := DA hl
     exact .same x y s Fz ih
    ·exfalso
     have e : PySg02.shape p = none := by unfold PySg02.shape; simp only [h1, h2, h3, h4, h5, h6, h7, h8, if_false]
     simp only [PyFlat.call, e] at q
     cases q
theorem BA {l : List Int} (h : PySg02.answers_asked l = true) : ∃ cs, Dec l cs /\ Sg02Neutral.asked cs = true /\ PySg02.answers l = PyFlat.told (PyFlat.played Sg02Neutral.step Sg02Neutral.start cs) := by
 unfold PySg02.answers_asked PySg02.calls at h
 unfold PySg02.answers PySg02.calls
 cases q : PyFlat.calls PySg02.shape l.length l with
 | none => rw [q] at h; cases h
 | some cs =>
  rw [q] at h
  have d := D8 _ _ _ q
  dsimp only at h ⊢
  rw [d.whole] at h ⊢
  rw [Bool.and_eq_true] at h
  exact ⟨cs, d, h.2, rfl⟩
end Lsp
namespace Lsp
open PySem Spec PyProof.Rows L2
def G9 (P : Program) (w : World) (A : Ad) (K : W.Frag) (cL : Addr) : Sp := fun vs H Q _ => ∃ (p dx : Addr), vs = [.ref p] /\ H p = some (.ins cL dx []) /\ ∀ hl d H', H hl = Option.none -> H d = Option.none -> LR P w A K ⟨cL, fun _ => False⟩ Sg02.fresh 11 p hl d H' -> (∀ b o, b ≠ p -> H b = some o -> H' b = some o) -> Q .bf H'
section
variable {P : Program} {w : World} {A : Ad} {K : W.Frag} {mg : Str -> Option Value} {base : Heap} {cL : Addr}
theorem tP : aq ["self"] ["self"] (aj iC) := bQ
def yS (P : Program) (w : World) (A : Ad) (K : W.Frag) (mg : Str -> Option Value) (base : Heap) (cL : Addr) : Prop := ∃ f fd ps, mg "Lisp" = some (.ref cL) /\ Mk K cL f /\ Binds K fd ps [] /\ fu P w K mg base (fk P w) 4 f fd ps (G9 P w A K cL)
theorem EX (T : CI K cL "Lisp.__init__" iC ["self"]) (c : CT K mg "Lisp" cL ["held", "definitions"]) (C : Am mg) (F : aX P w K mg base 3 "first_definitions" [] (zt P w A K)) : yS P w A K mg base cL := by
 obtain ⟨f, fd, h1, h2, hb, G⟩ := T
 obtain ⟨uC, mC, rC⟩ := C.cnt
 refine ⟨f, fd, _, c.kg, ⟨c.O7, h1, h2, c.kp⟩, hb, G.Lj (k := 3) tP (fun vs H Q E h => by obtain ⟨_, _, rfl, _⟩ := h; rfl) fun aU A' outer s H vs Q E hr wY => ?_⟩
 obtain ⟨p, dx, rfl, hp, q⟩ := wY
 refine ⟨_, af (aP (pv 0) (e9 GX (b7 (aa bq ag)) (ax (by rfl) mC rC)) rfl) (ae (aP (pv 0) (JN F hr (by rfl) ai) rfl)), ?_⟩
 refine ⟨(by show 1 <= sizeLine; decide), fun l1 n1 => ⟨l1, 16, [.bf], rfl, rfl, ah, by decide, by decide, (by show 1 * 16 <= sizeLine; decide), fun hl Lo => ?_⟩⟩
 have s1 : aK H (upd H l1 (.lst [.bf])) := az n1
 have s2 := s1.trans (az (o := .lst (List.replicate (16 : Int).toNat [V.bf]).flatten) Lo)
 obtain ⟨Qh, Hj⟩ := bh Lo
 refine ⟨_, rfl, p, cL, dx, _, rfl, s2 _ _ hp, c.cl, c.na _ (by simp), Hd.t0, ?_⟩
 have Ov : hl ≠ p := fun z => by rw [z, hp] at Hj; cases Hj
 generalize Jd : upd (upd (upd H l1 (.lst [.bf])) hl (.lst (List.replicate (16 : Int).toNat [V.bf]).flatten)) p (.ins cL dx (br "held" (.ref hl) [])) = H3
 have Ly : H3 p = some (.ins cL dx (br "held" (.ref hl) [])) := by rw [<- Jd]; exact ah
 have OM : H3 hl = some (.lst (List.replicate 16 V.bf)) := by rw [<- Jd, ak Ov, ah]; rfl
 have k3 : ∀ b o, b ≠ p -> H b = some o -> H3 b = some o := fun b o n e => by rw [<- Jd, ak n]; exact s2 b o e
 refine ⟨rfl, fun d H4 μ kvs nd s4 Kj Hi W D hlen => ?_⟩
 have kd : ∀ a o, H3 a = some o -> ¬ μ.im a := fun a o e z => by rw [Kj a z] at e; cases e
 have O4 : d ≠ p := fun z => by rw [z, Ly] at nd; cases nd
 have Ga : H d = Option.none := by
  cases e : H d with
  | none => rfl
  | some o => rw [k3 d o O4 e] at nd; cases nd
 refine ⟨_, rfl, p, cL, dx, _, rfl, s4 _ _ Ly, c.cl, c.na _ (by simp), Hd.t1, ?_⟩
 have im := fh (H := H4) (o := .ins cL dx (br "definitions" (.ref d) (br "held" (.ref hl) []))) (kd p _ Ly)
 refine q hl d _ Hj Ga ⟨dx, List.replicate 16 .bf, kvs, 0, μ, ⟨ah, (ak Ov).trans (s4 _ _ OM), by simp, fun r hr => ⟨.bf, by rw [List.getElem?_replicate, if_pos hr], rfl⟩, W.mono im, D.mono (.refl μ) im (.refl _) W.names.nd ((ak O4).trans D.at_), by omega, kd p _ Ly, kd hl _ OM, Hi, fun _ z => z.elim⟩⟩ fun b o n e => ?_
 rw [ak n]
 exact s4 _ _ (k3 b o n e)
def Jz (P : Program) (w : World) (A : Ad) (K : W.Frag) (cL : Addr) : TE := fun _ H Q => ∀ la hl d H', H la = Option.none -> H hl = Option.none -> H d = Option.none -> LR P w A K ⟨cL, fun _ => False⟩ Sg02.fresh 11 la hl d H' -> aK H H' -> Q (.ref la) H'
theorem EF {X : Cx} {E : XK} {p pos : Pos} (M : yS X.prog X.w A X.K X.mg X.base cL) (hr : dc 5 X.A) (hg : Gl X "Lisp") (hx : Passes (fk X.prog X.w) X E) : PE X (.Call (.Name "Lisp" p) [] [] pos) (Jz X.prog X.w A X.K cL) := by
 obtain ⟨f, fd, ps, hm, M, hb, G⟩ := M
 intro pins s σ H Q I h
 refine wpAny_Call_Name_kw (fF I hg hm ?_ (by decide))
 refine W.callWith_K0 I.gu M.kp (lh (us := []) (vs := []) (E := E) M G hr hb .nil hx I .nil fun x dx nx nd ne => ?_)
 refine ⟨x, dx, rfl, ah, fun hl d H' n1 n2 L k => ⟨rfl, ?_⟩⟩
 obtain ⟨_, n1⟩ := bh n1
 obtain ⟨_, n1⟩ := bh n1
 obtain ⟨_, n2⟩ := bh n2
 obtain ⟨_, n2⟩ := bh n2
 exact h x hl d H' nx n1 n2 L fun b o e => k b o (aI e nx) (by rw [ak (aI e nx), ak (aI e nd)]; exact e)
def cnt : Nat -> Int
 | 4 => 3
 | 1 => 1
 | 7 => 1
 | _ => 2
noncomputable def Pf : Nat -> Str
 | 1 => "answer_to_read"
 | 2 => "answer_to_write"
 | 3 => "answer_to_evaluate"
 | 4 => "answer_to_cons"
 | 5 => "answer_to_car"
 | 6 => "answer_to_cdr"
 | 7 => "answer_to_kind"
 | _ => "answer_to_same"
structure NW (P : Program) (w : World) (K : W.Frag) (mg : Str -> Option Value) (aC : Addr) (kvs : List (Key × V)) : Prop where
 kg : mg "CALLS" = some (.ref aC)
 ki : KI P w K aC kvs
 at_ : ∀ n : Nat, 1 <= n -> n <= 8 -> ∃ t f, uV kvs (Sum.inl (n : Int)) = some (.ref t) /\ nM K t [.int (cnt n), .ref f] /\ mg (Pf n) = some (.ref f)
theorem DG (c : Sg02.Call) : 1 <= oE c /\ oE c <= 8 := by cases c <;> simp [oE]
noncomputable def encC (c : Sg02.Call) : List Int := (oE c : Int) :: kD c
theorem BO {c : Sg02.Call} (h : oE c ≠ 1) : ((kD c).length : Int) = cnt (oE c) := by
 cases c <;> first | rfl | exact absurd rfl h
def Cq (K : W.Frag) : Sp := fun vs H Q _ => ∃ (ca : Addr) (l : List Int) (n : Nat) (c : Sg02.Call) (rest : List Int), vs = [.ref ca, .int (n : Nat)] /\ eu K H ca (l.map V.int) /\ l.drop n = encC c ++ rest /\ Q (.int ((n + (encC c).length : Nat) : Int)) H
theorem d3 : aq ["calls", "at", "entry", "end"] ["calls", "at"] (aj fP) := bQ
theorem qk {l : List Int} {n k : Nat} {t : List Int} {z : Int} (h : l.drop n = t) (e : t[k]? = some z) : gY (l.map V.int) ((n + k : Nat) : Int) = some (.int z) := by
 refine eW ?_
 rw [List.getElem?_map]
 have : l[n + k]? = some z := by rw [<- e, <- h, List.getElem?_drop]
 rw [this]
 rfl
theorem pT {aC : Addr} {kvs : List (Key × V)} (T : FT K mg "end_of_call" "end_of_call" fP ["calls", "at"]) (C : Am mg) (CK : NW P w K mg aC kvs) : aX P w K mg base 1 "end_of_call" ["calls", "at"] (Cq K) := by
 obtain ⟨uR, mR, rR⟩ := C.rd
 refine T.ok d3 (fun vs H Q E h => by obtain ⟨_, _, _, _, _, rfl, _⟩ := h; rfl) fun f aU A' outer s0 H vs Q E hr h => ?_
 obtain ⟨ca, l, n, c, rest, rfl, hS, hd, q⟩ := h
 refine ⟨_, af (aJ (i := 2) d3.nd rfl (Or.inl rfl) (zB (ax (v := .ref aC) (by rfl) CK.kg rfl) (aB a5 (pv 0) (pv 1) (fun _ _ => rfl)) (fun _ _ => rfl)))
  (af (aJ (i := 3) d3.nd rfl (Or.inl rfl) (e9 fU (e9 fU (pv 1) aw) (aB eK (pv 2) aw (fun _ _ => rfl))))
  (af (aL (aA dC (aB a5 (pv 0) (pv 1) (fun _ _ => rfl)) (ax (by rfl) mR rR) (aH _)) (ae (xI (i := 3) d3.nd rfl (Or.inl rfl) (e9 fU aw (aB a5 (pv 0) (pv 3) (fun _ _ => rfl))) yh)) aG)
  (ae (a6 (pv 3))))), ?_⟩
 obtain ⟨h1, h8⟩ := DG c
 obtain ⟨t, g, ev, kt, _⟩ := CK.at_ (oE c) h1 h8
 have e0 : gY (l.map V.int) ((n : Nat) : Int) = some (.int (oE c : Nat)) := qk (k := 0) hd rfl
 refine ⟨_, rfl, _, rfl, ca, _, _, _, rfl, rfl, hS, e0, aC, kvs, Sum.inl (oE c : Nat), _, rfl, rfl, CK.ki, ev, ?_⟩
 refine ⟨_, rfl, _, _, rfl, rfl, _, rfl, t, _, _, _, rfl, rfl, .inr kt, (show gY [V.int (cnt (oE c)), V.ref g] 0 = some (.int (cnt (oE c))) from rfl), _, _, rfl, rfl, ?_⟩
 refine ⟨_, rfl, _, rfl, ca, _, _, _, rfl, rfl, hS, e0, rfl, _, rfl, ?_⟩
 show if decide (V.int ((oE c : Nat) : Int) = V.int 1) = true then _ else _
 refine rH (fun z => ?_) fun z => ?_
 ·have z : oE c = 1 := by have := of_decide_eq_true z; injection this with this; omega
  cases c with
  | read r b =>
   have e2 : gY (l.map V.int) ((n : Nat) + 1 + 1 : Int) = some (.int (b.length : Nat)) := by
    have := qk (n := n) (k := 2) (l := l) hd (show (encC (.read r b) ++ rest)[2]? = some (b.length : Int) from rfl)
    have e : ((n + 2 : Nat) : Int) = (n : Nat) + 1 + 1 := by omega
    rw [e] at this
    exact this
   refine ⟨_, rfl, _, rfl, _, rfl, ca, _, _, _, rfl, rfl, hS, e2, _, _, rfl, rfl, _, _, rfl, rfl, _, rfl, ?_⟩
   have e3 : ((n + (encC (.read r b)).length : Nat) : Int) = (n : Nat) + 1 + 1 + (1 + (b.length : Nat)) := by
    show ((n + ((bz b).length + 1 + 1 + 1) : Nat) : Int) = _
    unfold bz
    rw [List.length_map]
    omega
   rw [e3] at q
   exact q
  | _ => cases z
 ·have z : oE c ≠ 1 := fun w => of_decide_eq_false z (by rw [w]; rfl)
  refine ⟨_, rfl, ?_⟩
  have e3 : ((n + (encC c).length : Nat) : Int) = (n : Nat) + 1 + cnt (oE c) := by
   rw [<- BO z]
   show ((n + ((kD c).length + 1) : Nat) : Int) = _
   omega
  rw [e3] at q
  exact q
end
end Lsp
namespace Lsp
open PySem Spec PyProof.Rows L2
noncomputable def mI : Sg02.Abs -> List Sg02.Call -> List Int
 | _, [] => []
 | s, c :: r => (((Sg02.does s c).2.b.length + 1 : Nat) : Int) :: (Sg02.does s c).2.v :: (bz (Sg02.does s c).2.b ++ mI (Sg02.does s c).1 r)
theorem rV {s : Sg02.Abs} {c : List (List Int)} {k : Sg02.Call} (h : Sg02Neutral.callOf c = some k) : Sg02Neutral.step s c = ((Sg02.does s k).1, (Sg02.does s k).2.v :: bz (Sg02.does s k).2.b) := by
 unfold Sg02Neutral.step
 rw [h]
 rfl
theorem vg : ∀ (ks : List Sg02.Call) (cs : List (List (List Int))) (s : Sg02.Abs), cs.map Sg02Neutral.callOf = ks.map some -> PyFlat.told (PyFlat.played Sg02Neutral.step s cs) = mI s ks
 | [], [], s, _ => rfl
 | [], _ :: _, s, h => by cases h
 | _ :: _, [], s, h => by cases h
 | k :: ks, c :: cs, s, h => by
  rw [List.map_cons, List.map_cons] at h
  injection h with h1 h2
  have ih := vg ks cs (Sg02.does s k).1 h2
  show PyFlat.told ((Sg02Neutral.step s c).2 :: PyFlat.played Sg02Neutral.step (Sg02Neutral.step s c).1 cs) = _
  rw [rV h1]
  show ((((Sg02.does s k).2.v :: bz (Sg02.does s k).2.b).length : Int) :: ((Sg02.does s k).2.v :: bz (Sg02.does s k).2.b)) ++ PyFlat.told (PyFlat.played Sg02Neutral.step (Sg02.does s k).1 cs) = _
  rw [ih]
  have e : ((Sg02.does s k).2.v :: bz (Sg02.does s k).2.b).length = (Sg02.does s k).2.b.length + 1 := by unfold bz; simp
  rw [e]
  rfl
theorem vh : ∀ (ks : List Sg02.Call) (cs : List (List (List Int))) (s : Sg02.Abs), cs.map Sg02Neutral.callOf = ks.map some -> Sg02Neutral.told s cs < 1000000 -> (mI s ks).length <= Sg02Neutral.told s cs + ks.length
 | [], [], s, _, _ => Nat.zero_le _
 | [], _ :: _, s, h, _ => by cases h
 | _ :: _, [], s, h, _ => by cases h
 | k :: ks, c :: cs, s, h, hl => by
  rw [List.map_cons, List.map_cons] at h
  injection h with h1 h2
  have e : Sg02Neutral.told s (c :: cs) = if Sg02Neutral.few s c = false then 1000000 else (Sg02Neutral.step s c).2.length + Sg02Neutral.told (Sg02Neutral.step s c).1 cs := rfl
  rw [e] at hl ⊢
  by_cases hf : Sg02Neutral.few s c = false
  ·rw [if_pos hf] at hl
   omega
  ·rw [if_neg hf] at hl ⊢
   rw [rV h1] at hl ⊢
   dsimp only at hl ⊢
   have ih := vh ks cs (Sg02.does s k).1 h2 (by omega)
   show (_ :: _ :: (bz (Sg02.does s k).2.b ++ mI (Sg02.does s k).1 ks)).length <= _
   rw [List.length_cons, List.length_cons, List.length_append, List.length_cons, List.length_cons]
   omega
def yT (k : Sg02.Call) : Prop := cost k <= 2000 /\ (kD k).length <= 66002
theorem dS {k : Sg02.Call} (h : Aa k <= 1) (h2 : (kD k).length <= 3) : yT k := by
 refine ⟨?_, by omega⟩
 unfold cost
 split <;> omega
theorem B4 {l : List Int} {cs : List (List (List Int))} (d : Dec l cs) : cs.all Sg02Neutral.asked1 = true -> ∃ ks : List Sg02.Call, l = ks.flatMap encC /\ cs.map Sg02Neutral.callOf = ks.map some /\ ∀ k ∈ ks, yT k := by
 have more : ∀ {rest : List Int} {cs : List (List (List Int))} {c : List (List Int)} (k : Sg02.Call) (e : List Int), (cs.all Sg02Neutral.asked1 = true -> ∃ ks : List Sg02.Call, rest = ks.flatMap encC /\ cs.map Sg02Neutral.callOf = ks.map some /\ ∀ k ∈ ks, yT k) ->
   Sg02Neutral.callOf c = some k -> e = encC k -> (Sg02Neutral.asked1 c = true -> yT k) -> (c :: cs).all Sg02Neutral.asked1 = true -> ∃ ks : List Sg02.Call, e ++ rest = ks.flatMap encC /\ (c :: cs).map Sg02Neutral.callOf = ks.map some /\ ∀ k ∈ ks, yT k := fun {rest cs c} k e ih hc he hf ha => by
  (rw [List.all_cons, Bool.and_eq_true] at ha)
  obtain ⟨ks, h1, h2, h3⟩ := ih ha.2
  refine ⟨k :: ks, by rw [List.flatMap_cons, h1, he], by rw [List.map_cons, List.map_cons, hc, h2], fun j hj => ?_⟩
  rcases List.mem_cons.mp hj with z | z
  ·rw [z]; exact hf ha.1
  ·exact h3 j z
 induction d with
 | nil => exact fun _ => ⟨[], rfl, rfl, (fun _ h => nomatch h)⟩
 | read x t rest cs h ih =>
  intro ha
  have OV := ha
  rw [List.all_cons, Bool.and_eq_true] at OV
  have Nr : (Sg02Neutral.whole32 x && (t.all (fun (z : Int) => Sg02Neutral.natural z 8) && ((decide (t.length <= 400) && Sg02Neutral.calm t 0) || (decide (65535 < t.length) && decide (t.length <= 66000))))) = true := OV.1
  rw [Bool.and_eq_true, Bool.and_eq_true] at Nr
  have hb : bz (Sg02Neutral.bytesOf t) = t := by
   unfold bz Sg02Neutral.bytesOf
   rw [List.map_map]
   refine (List.map_congr_left fun z hz => ?_).trans (List.map_id t)
   have := List.all_eq_true.mp Nr.2.1 z hz
   unfold Sg02Neutral.natural at this
   rw [Bool.and_eq_true] at this
   have z0 := of_decide_eq_true this.1
   have z1 : z < 256 := of_decide_eq_true this.2
   show (((UInt8.ofNat z.toNat).toNat : Nat) : Int) = z
   rw [UInt8.toNat_ofNat_of_lt' (by show z.toNat < 256; omega)]
   omega
  have IY : (Sg02Neutral.bytesOf t).length = t.length := by unfold Sg02Neutral.bytesOf; simp
  have := more (rest := rest) (cs := cs) (c := [[1, x], t]) (.read x (Sg02Neutral.bytesOf t)) (1 :: x :: (t.length : Int) :: t) ih rfl (by show _ = (1 : Int) :: x :: ((Sg02Neutral.bytesOf t).length : Int) :: bz (Sg02Neutral.bytesOf t); rw [hb, IY]) (fun _ => ?_) ha
  ·exact this
  ·have hlen : t.length <= 400 \/ (65535 < t.length /\ t.length <= 66000) := by
    have := Nr.2.2
    rw [Bool.or_eq_true, Bool.and_eq_true, Bool.and_eq_true] at this
    exact this.imp (fun z => of_decide_eq_true z.1) (fun z => ⟨of_decide_eq_true z.1, of_decide_eq_true z.2⟩)
   constructor
   ·unfold cost
    split
    ·omega
    ·rename_i nZ
     show 2 * (Sg02Neutral.bytesOf t).length <= 2000
     rw [IY]
     rcases hlen with z | z
     ·omega
     ·exfalso
      apply nZ
      show (!(Sg02.isReg x && decide ((Sg02Neutral.bytesOf t).length <= 65535))) = true
      rw [IY, decide_eq_false (by omega), Bool.and_false]
      rfl
   ·show (x :: ((Sg02Neutral.bytesOf t).length : Int) :: bz (Sg02Neutral.bytesOf t)).length <= 66002
    rw [hb, List.length_cons, List.length_cons]
    omega
 | write x y rest cs h ih => exact more (.write x y) [2, x, y] ih rfl rfl fun _ => dS (by show 0 <= 1; decide) (by show 2 <= 3; decide)
 | eval x y rest cs h ih =>
  refine more (.eval x y) [3, x, y] ih rfl rfl fun ha => ⟨?_, by show 2 <= 66002; decide⟩
  have ha : (Sg02Neutral.whole32 x && (Sg02Neutral.whole32 y && (decide (y <= 2000) || decide (1000000 < y)))) = true := ha
  rw [Bool.and_eq_true, Bool.and_eq_true, Bool.or_eq_true] at ha
  have hy := ha.2.2.imp of_decide_eq_true of_decide_eq_true
  unfold cost
  split
  ·omega
  ·rename_i nZ
   show y.toNat <= 2000
   rcases hy with z | z
   ·omega
   ·exfalso
    apply nZ
    show (!(Sg02.isReg x && (decide (0 <= y) && decide (y <= 1000000)))) = true
    rw [decide_eq_false (show ¬ y <= 1000000 by omega), Bool.and_false, Bool.and_false]
    rfl
 | cons x y z rest cs h ih => exact more (.cons x y z) [4, x, y, z] ih rfl rfl fun _ => dS (by show 1 <= 1; decide) (by show 3 <= 3; decide)
 | car x y rest cs h ih => exact more (.car x y) [5, x, y] ih rfl rfl fun _ => dS (by show 1 <= 1; decide) (by show 2 <= 3; decide)
 | cdr x y rest cs h ih => exact more (.cdr x y) [6, x, y] ih rfl rfl fun _ => dS (by show 1 <= 1; decide) (by show 2 <= 3; decide)
 | kind x rest cs h ih => exact more (.kind x) [7, x] ih rfl rfl fun _ => dS (by show 0 <= 1; decide) (by show 1 <= 3; decide)
 | same x y rest cs h ih => exact more (.same x y) [8, x, y] ih rfl rfl fun _ => dS (by show 0 <= 1; decide) (by show 2 <= 3; decide)
theorem wQ {l : List Int} (h : PySg02.answers_asked l = true) : ∃ ks : List Sg02.Call, l = ks.flatMap encC /\ PySg02.answers l = mI Sg02.fresh ks /\ ks.length <= 100 /\ (mI Sg02.fresh ks).length <= 1000100 /\ ∀ k ∈ ks, yT k := by
 obtain ⟨cs, d, ha, e⟩ := BA h
 unfold Sg02Neutral.asked at ha
 simp only [Bool.and_eq_true, decide_eq_true_eq] at ha
 obtain ⟨h1, h2, h3, h4, h5⟩ := ha
 obtain ⟨ks, k1, k2, k3⟩ := B4 d h1
 have hl : cs.length = ks.length := by have := congrArg List.length k2; rwa [List.length_map, List.length_map] at this
 have tl := vh ks cs Sg02.fresh k2 h5
 have RX : Sg02Neutral.told Sg02.fresh cs < 1000000 := h5
 refine ⟨ks, k1, ?_, by omega, by omega, k3⟩
 rw [e]
 exact vg ks cs Sg02.fresh k2
section
variable {P : Program} {w : World} {A : Ad} {K : W.Frag} {mg : Str -> Option Value} {base : Heap} {cL : Addr}
def jo (K : W.Frag) : Sp := fun vs H Q _ => ∃ (ca : Addr) (l : List Int), vs = [.ref ca] /\ eu K H ca (l.map V.int) /\ PySg02.answers_asked l = true /\ ∀ g H', aK H H' -> H' g = some (.lst ((PySg02.answers l).map V.int)) -> Q (.ref g) H'
theorem bV : aq ["calls", "lisp", "given", "at", "end", "entry", "work", "answer"] ["calls"] (aj jr) := bQ
theorem DE {l rest : List Int} {n : Nat} {c : Sg02.Call} (h : l.drop n = encC c ++ rest) : gw (l.map V.int) (some ((n : Int) + 1)) (some ((n + (encC c).length : Nat) : Int)) = (kD c).map V.int := by
 have hl := congrArg List.length h
 rw [List.length_drop, List.length_append] at hl
 have hc : (encC c).length = (kD c).length + 1 := rfl
 have e1 : HT.dm (l.map V.int).length 0 (some ((n : Int) + 1)) = n + 1 := dX (k := n + 1) (by rw [List.length_map]; omega)
 have e2 : HT.dm (l.map V.int).length (l.map V.int).length (some ((n + (encC c).length : Nat) : Int)) = n + (encC c).length := dX (by rw [List.length_map]; omega)
 unfold gw
 rw [e1, e2, <- List.map_drop, <- List.drop_drop, h]
 show (((kD c ++ rest).map V.int).take _) = _
 rw [List.map_append, List.take_append_of_le_length (by rw [List.length_map]; omega)]
 refine List.take_of_length_le ?_
 rw [List.length_map]
 omega
theorem LR.guard {s : Sg02.Abs} {sz : Nat} {la hl d g : Addr} {H : Hp} {o : HO} (L : LR P w A K ⟨cL, fun _ => False⟩ s sz la hl d H) (n : H g = Option.none) : LR P w A K ⟨cL, fun a => a = g⟩ s sz la hl d (upd H g o) := by
 obtain ⟨dx, vs, kvs, B, μ, L⟩ := L
 have L1 := L.same (az (o := o) n)
 exact ⟨dx, vs, kvs, B, μ, L1.oP, L1.lD, L1.len, L1.reg, L1.wr, L1.dr, L1.cn, L1.il, L1.ih, L1.id, fun a ha => by
  have ha : a = g := ha
  subst ha
  exact ⟨(fun z => by obtain ⟨x, e⟩ := L.wr.y9 a z; rw [n] at e; cases e), o, ah⟩⟩
theorem kC.other {s : Sg02.Abs} {sz : Nat} {la hl d dx g : Addr} {vs us : List V} {kvs : Tab} {B : Nat} {μ : Mp} {H : Hp} {o : HO} (L : kC P w A K ⟨cL, fun a => a = g⟩ s sz la hl d dx vs kvs B μ H) (hg : H g = some (.lst us)) (n1 : g ≠ hl) (n2 : g ≠ d) : kC P w A K ⟨cL, fun a => a = g⟩ s sz la hl d dx vs kvs B μ (upd H g o) := by
 have im := fh (H := H) (o := o) (L.GN g rfl).1
 exact ⟨(ak (cJ L.oP hg)).trans L.oP, (ak n1.symm).trans L.lD, L.len, fun r hr => by obtain ⟨v, e, rv⟩ := L.reg r hr; exact ⟨v, e, rv.mono (.refl μ) im (.refl _)⟩, L.wr.mono im, L.dr.mono (.refl μ) im (.refl _) L.wr.names.nd ((ak n2.symm).trans L.dr.at_), L.cn, L.il, L.ih, L.id, fun a ha => by
  have ha : a = g := ha
  subst ha
  exact ⟨(L.GN a rfl).1, o, ah⟩⟩
theorem vK {aC : Addr} {kvs : List (Key × V)} {fa : Addr} {fd : FuncData} (T : FJ K "answers" "answers" jr fa fd) (C : Am mg) (CK : NW P w K mg aC kvs) (ML : yS P w A K mg base cL) (FE : aX P w K mg base 1 "end_of_call" ["calls", "at"] (Cq K))
  (FA : ∀ (pr : Addr -> Prop) (n : Nat), 1 <= n -> n <= 8 -> aX P w K mg base 10 (Pf n) ["lisp", "handed"] (Ea P w A K ⟨cL, pr⟩ n))
  : fu P w K mg base (fk P w) 11 fa fd ["calls"] (jo K) := by
 refine T.Lj (k := 10) bV (fun vs H Q E h => by obtain ⟨_, _, rfl, _⟩ := h; rfl) fun aU A' outer s0 H vs Q E hr h => ?_
 obtain ⟨ca, l, rfl, hS, hask, q⟩ := h
 obtain ⟨MG, el, ea, OK, RL, Ku⟩ := wQ hask
 rw [ea] at q
 have jw := hr.mono (show 1 <= 10 by decide)
 have MS := hr.mono (show 5 <= 10 by decide)
 refine ⟨_, af (aJ (i := 1) bV.nd rfl (Or.inl rfl) (EF ML MS (by rfl) ai))
  (af (aJ (i := 2) bV.nd rfl (Or.inl rfl) (b7 ag))
  (af (aJ (i := 3) bV.nd rfl (Or.inl rfl) aw)
  (af (d8 PassesOwn.leaving (aA pQ (pv 3) (a7 a9 (by rfl) C.fV PySem.boot_len (aa (pv 0) ag)) (aH _))
   (af (aJ (i := 4) bV.nd rfl (Or.inl rfl) (aW FE jw (by rfl) ai (aa (pv 0) (aa (pv 3) ag))))
   (af (aJ (i := 5) bV.nd rfl (Or.inl rfl) (zB (ax (v := .ref aC) (by rfl) CK.kg rfl) (aB a5 (pv 0) (pv 3) (fun _ _ => rfl)) (fun _ _ => rfl)))
   (af (aJ (i := 6) bV.nd rfl (Or.inl rfl) (aB eK (pv 5) aw (fun _ _ => rfl)))
   (af (aJ (i := 7) bV.nd rfl (Or.inl rfl) (pN (CX := fk P w) (k := 10) hr (pv 6) ai (aa (pv 1) (aa (gj kQ (pv 0) (fB (e9 fU (pv 3) aw)) (fB (pv 4))) ag))))
   (af (a8 (aR (pv 2) (a7 a9 (by rfl) C.fV PySem.boot_len (aa (pv 7) ag))))
   (af (a8 (m8 (pv 2) (aa (pv 7) ag)))
   (ae (aJ (i := 3) bV.nd rfl (Or.inl rfl) (pv 4))))))))))
  (ae (a6 (pv 2)))))), ?_⟩
 intro la hl d H1 Ou Lo nd L1 s1
 refine ⟨Nat.zero_le _, fun gl Hk => ?_⟩
 obtain ⟨Ox, Oy⟩ : gl ≠ hl /\ gl ≠ d := by
  obtain ⟨_, _, _, _, _, L⟩ := L1
  exact ⟨fun z => (by rw [z, L.lD] at Hk; cases Hk), fun z => (by rw [z, L.dr.at_] at Hk; cases Hk)⟩
 have QY : ∀ {Ha Hb : Hp}, aK H Ha -> ic hl d Ha Hb -> aK H Hb := fun s f b o e => f b o (fun z => by rw [z, Lo] at e; cases e) (fun z => by rw [z, nd] at e; cases e) (s b o e)
 let LI : Nat -> L2.St -> Hp -> Prop := fun m σ H' => ∃ (ks : List Sg02.Call) (s : Sg02.Abs) (sz n : Nat) (out : List Int) (u4 u5 u6 u7 : Option V), σ = [some (.ref ca), some (.ref la), some (.ref gl), some (.int (n : Nat)), u4, u5, u6, u7] /\ l.drop n = ks.flatMap encC /\ n <= l.length /\ LR P w A K ⟨cL, fun a => a = gl⟩ s sz la hl d H' /\ sz + 2000 * ks.length <= 250000 /\
  H' gl = some (.lst (out.map V.int)) /\ out ++ mI s ks = mI Sg02.fresh MG /\ aK H H' /\ (∀ k ∈ ks, yT k) /\ m = ks.length
 refine ⟨LI, ⟨_, MG, Sg02.fresh, 11, 0, [], none, none, none, none, rfl, by rw [List.drop_zero]; exact el, Nat.zero_le _, LR.guard L1 Hk, by omega, ah, rfl, s1.trans (az Hk), Ku, rfl⟩, ?_⟩
 rintro m σ H' ⟨ks, s, sz, n, out, u4, u5, u6, u7, rfl, hd, hn, L, hsz, Ng, HR, sm, hf, rfl⟩
 have L9 := sm.seq hS
 refine ⟨_, rfl, _, rfl, ca, _, rfl, .inl L9, _, _, rfl, rfl, _, rfl, ?_⟩
 rw [List.length_map]
 cases ks with
 | nil =>
  have : n = l.length := by
   have := congrArg List.length hd
   rw [List.length_drop] at this
   simp at this
   omega
  rw [decide_eq_false (show ¬ ((n : Nat) : Int) < (l.length : Nat) by omega)]
  have e : out = mI Sg02.fresh MG := by rw [<- HR]; show out = out ++ []; simp
  exact aM ⟨_, rfl, q gl H' sm (by rw [<- e]; exact Ng)⟩
 | cons c ks =>
  rw [List.flatMap_cons] at hd
  have hW : n < l.length := by
   have := congrArg List.length hd
   rw [List.length_drop, List.length_append] at this
   have hc : (encC c).length = (kD c).length + 1 := rfl
   omega
  rw [decide_eq_true (show ((n : Nat) : Int) < (l.length : Nat) by omega)]
  refine aZ ⟨fun σ' H2 => ∃ m', m' < (c :: ks).length /\ LI m' σ' H2, (fun _ _ z => z), ?_⟩
  obtain ⟨h1, h8⟩ := DG c
  obtain ⟨t, g, ev, kt, Qp⟩ := CK.at_ (oE c) h1 h8
  obtain ⟨g', gd, gm, gk, gb, G⟩ := FA (fun a => a = gl) (oE c) h1 h8
  have eg : g' = g := by rw [Qp] at gm; cases gm; rfl
  subst eg
  have e0 : gY (l.map V.int) ((n : Nat) : Int) = some (.int (oE c : Nat)) := qk (k := 0) hd rfl
  refine ⟨_, rfl, _, rfl, ca, l, n, c, ks.flatMap encC, rfl, L9, hd, ?_⟩
  refine ⟨_, rfl, _, rfl, ca, _, _, _, rfl, rfl, L9, e0, aC, kvs, Sum.inl (oE c : Nat), _, rfl, rfl, CK.ki, ev, ?_⟩
  refine ⟨_, rfl, t, _, _, _, rfl, rfl, .inr kt, (show gY [V.int (cnt (oE c)), V.ref g'] 1 = some (.ref g') from rfl), ?_⟩
  refine ⟨_, rfl, g', gd, _, _, rfl, gk, G, gb, ?_⟩
  refine ⟨_, rfl, _, rfl, _, rfl, _, _, rfl, rfl, _, rfl, _, rfl, _, rfl, ca, _, rfl, L9, fun ha Qi => ?_⟩
  rw [DE hd]
  have s2 : aK H' (upd H' ha (.lst ((kD c).map V.int))) := az Qi
  obtain ⟨RZ, RY⟩ := hf c zA2
  rw [List.length_cons] at hsz
  refine ⟨la, hl, d, ha, s, sz, c, rfl, rfl, L.same s2, .inl (.inl ah), by omega, by omega, fun al H3 AL L3 fr h3 => ?_⟩
  have M8 : gl ≠ al := fun z => by rw [<- z, s2 _ _ Ng] at AL; cases AL
  have Ni : H3 gl = some (.lst (out.map V.int)) := fr gl _ Ox Oy (s2 _ _ Ng)
  have Q7 : out.length + (2 + ((Sg02.does s c).2.b.length + (mI (Sg02.does s c).1 ks).length)) <= 1000100 := by
   have := congrArg List.length HR
   rw [List.length_append] at this
   have e : (mI s (c :: ks)).length = (bz (Sg02.does s c).2.b ++ mI (Sg02.does s c).1 ks).length + 1 + 1 := rfl
   rw [e, List.length_append] at this
   unfold bz at this
   rw [List.length_map] at this
   omega
  have Gb : ∀ {k : Nat}, k <= 1000100 -> k < sizeLine := fun h => Nat.lt_of_le_of_lt h (by decide)
  have ln : (yK (Sg02.does s c).2).length = (Sg02.does s c).2.b.length + 1 := by
   show (tv _).length + 1 = _
   rw [b5]
  refine ⟨_, rfl, .inl ⟨rfl, _, .inl (.inl Ni)⟩, _, rfl, al, _, rfl, .inl (.inl (.inl h3)), gl, _, _, rfl, rfl, Ni, Gb (by rw [List.length_map]; omega), ?_⟩
  refine ⟨_, rfl, .inl ⟨rfl, _, .inl (.inl ah)⟩, _, rfl, gl, al, _, _, rfl, rfl, ah, (ak M8.symm).trans h3, Nat.le_of_lt (Gb (by rw [List.length_append, List.length_map, List.length_singleton, ln]; omega)), ?_⟩
  rw [jk]
  have Qc : ∀ b o, H3 b = some o -> b ≠ gl -> upd H3 gl (.lst (out.map V.int ++ [.int ((yK (Sg02.does s c).2).length : Nat)] ++ yK (Sg02.does s c).2)) b = some o := fun b o e n => by rw [ak n]; exact e
  refine ⟨_, rfl, ks.length, by rw [List.length_cons]; omega, ks, (Sg02.does s c).1, sz + cost c, n + (encC c).length, out ++ (((Sg02.does s c).2.b.length + 1 : Nat) : Int) :: (Sg02.does s c).2.v :: bz (Sg02.does s c).2.b, _, _, _, _, rfl, ?_, ?_, ?_, by omega, ?_, ?_, ?_, fun k hk => hf k (zA1 _ hk), rfl⟩
  ·rw [<- List.drop_drop, hd, List.drop_left]
  ·have := congrArg List.length hd
   rw [List.length_drop, List.length_append] at this
   omega
  ·obtain ⟨dx, vs, kv, B, μ, L3⟩ := L3
   exact (L3.other Ni Ox Oy).lr
  ·rw [ah, ln]
   simp [yK, tv]
  ·rw [<- HR]
   simp [mI]
  ·intro b o e
   exact Qc b o (QY (sm.trans s2) fr b o e) (aI e (s1.free Hk))
end
end Lsp
namespace Lsp
open PySem Spec PyProof.Rows L2
structure R6 (K : W.Frag) (mg : Str -> Option Value) : Prop where
 w8 : FT K mg "is_number" "is_number" i5 ["thing"]
 Bs : FT K mg "is_name" "is_name" my ["thing"]
 Br : FT K mg "kind_of" "kind_of" mx ["thing"]
 lG : FT K mg "in_number_range" "in_number_range" d4 ["number"]
 Ig : FT K mg "same" "same" s_same ["one", "other"]
 yx : FT K mg "pairs_of" "pairs_of" jS ["parts", "last"]
 Fs : FT K mg "truth" "truth" tQ ["holds"]
 o9 : FT K mg "check_numbers" "check_numbers" eC ["arguments"]
 Bt : FT K mg "checked" "checked" mz ["number"]
 Ih : FT K mg "plus" "plus" xx ["arguments"]
 Fu : FT K mg "minus" "minus" tS ["arguments"]
 Ft : FT K mg "times" "times" tR ["arguments"]
 Ij : FT K mg "less" "less" x8 ["arguments"]
 Fv : FT K mg "equal" "equal" tT ["arguments"]
 Ik : FT K mg "cons" "cons" x9 ["arguments"]
 jD : FT K mg "check_pair_or_nil" "check_pair_or_nil" cU ["thing"]
 K8 : FT K mg "car" "car" C1 ["arguments"]
 K7 : FT K mg "cdr" "cdr" C0 ["arguments"]
 Il : FT K mg "atom" "atom" xA ["arguments"]
 N3 : FT K mg "eq" "eq" s_eq ["arguments"]
 lH : FT K mg "apply_primitive" "apply_primitive" d5 ["primitive", "arguments"]
 jC : FT K mg "first_definitions" "first_definitions" cK []
 Bq : FT K mg "outcome" "outcome" mw ["thing", "definitions", "budget"]
 yu : FT K mg "value_of" "value_of" jQ ["thing", "definitions", "budget"]
 wy : FT K mg "take_step" "take_step" iy ["machine", "step"]
 Ii : FT K mg "look" "look" xy ["machine", "thing", "bindings"]
 o7 : FT K mg "value_of_name" "value_of_name" eB ["name", "bindings", "definitions"]
 uG : FT K mg "begin_form" "begin_form" gG ["machine", "form", "bindings"]
 yw : FT K mg "parts_of" "parts_of" jR ["thing"]
 kr : FT K mg "check_part_count" "check_part_count" dj ["parts", "count"]
 rD : FT K mg "begin_progn" "begin_progn" fQ ["machine", "parts", "bindings"]
 wA : FT K mg "begin_def" "begin_def" i7 ["machine", "parts", "bindings"]
 r9 : FT K mg "function_of" "function_of" fN ["parts", "bindings"]
 D0 : FT K mg "choose" "choose" pG ["machine", "step"]
 uF : FT K mg "go_through" "go_through" gF ["machine", "step"]
 Dy : FT K mg "gather" "gather" pE ["machine", "step"]
 rE : FT K mg "apply_first" "apply_first" fR ["machine", "applied", "arguments"]
 ku : FT K mg "bindings_of_call" "bindings_of_call" dk ["function", "arguments"]
 uE : FT K mg "read_first" "read_first" gE ["text"]
 ql : FT K mg "after_blanks" "after_blanks" fc ["text", "at"]
 uD : FT K mg "read_token" "read_token" gD ["reading"]
 wz : FT K mg "read_word" "read_word" iz ["reading", "at"]
 rA : FT K mg "end_of_word" "end_of_word" fO ["text", "at"]
 nq : FT K mg "innermost_list" "innermost_list" dJ ["reading"]
 Bp : FT K mg "put_dot" "put_dot" mv ["innermost"]
 Dz : FT K mg "closed" "closed" pF ["innermost"]
 K6 : FT K mg "put" "put" Cz ["reading", "thing"]
 o8 : FT K mg "thing_of_word" "thing_of_word" de ["word"]
 nh : FT K mg "may_be_in_word" "may_be_in_word" dI ["byte"]
 w9 : FT K mg "digits_of" "digits_of" i6 ["word"]
 nj : FT K mg "is_number_word" "is_number_word" cI ["word"]
 ng : FT K mg "number_of_word" "number_of_word" dH ["word"]
 Bo : FT K mg "text_of" "text_of" mq ["thing", "most"]
 uB : FT K mg "write_part" "write_part" gC ["thing", "text", "ahead"]
 uA : FT K mg "write_rest" "write_rest" gB ["thing", "text", "ahead"]
 w6 : FT K mg "put_ahead" "put_ahead" i4 ["pair", "ahead"]
 Bn : FT K mg "word_of" "word_of" jq ["thing"]
 yy : FT K mg "is_place" "is_place" jT ["number"]
 uH : FT K mg "are_places" "are_places" eR ["numbers"]
 nz : FT K mg "answer_to_read" "answer_to_read" dN ["lisp", "handed"]
 lI : FT K mg "answer_to_write" "answer_to_write" d6 ["lisp", "handed"]
 iW : FT K mg "answer_to_evaluate" "answer_to_evaluate" c8 ["lisp", "handed"]
 n8 : FT K mg "answer_to_cons" "answer_to_cons" dP ["lisp", "handed"]
 oB : FT K mg "answer_to_car" "answer_to_car" eE ["lisp", "handed"]
 oA : FT K mg "answer_to_cdr" "answer_to_cdr" eD ["lisp", "handed"]
 ky : FT K mg "answer_with_part" "answer_with_part" bX ["lisp", "handed", "part_of"]
 n6 : FT K mg "answer_to_kind" "answer_to_kind" dO ["lisp", "handed"]
 ny : FT K mg "answer_to_same" "answer_to_same" dM ["lisp", "handed"]
 Bu : FT K mg "answers" "answers" jr ["calls"]
 rB : FT K mg "end_of_call" "end_of_call" fP ["calls", "at"]
structure KZ (K : W.Frag) (mg : Str -> Option Value) (A : Ad) (G : oW) (R : Rc) (U : Wc) (cL : Addr) : Prop where
 gM : CT K mg "Pair" A.cP ["head", "tail"]
 HI : CI K A.cP "Pair.__init__" iA ["self", "head", "tail"]
 gO : CT K mg "Function" A.cF ["names", "body", "bindings"]
 yk : CI K A.cF "Function.__init__" eI ["self", "names", "body", "bindings"]
 ja : CT K mg "Primitive" A.cQ ["name"]
 vY : CI K A.cQ "Primitive.__init__" dQ ["self", "name"]
 qx : CT K mg "Bindings" A.cB ["bound", "outer"]
 yl : CI K A.cB "Bindings.__init__" eJ ["self", "bound", "outer"]
 sP : CT K mg "Machine" G.cM ["definitions", "forms_left", "ahead", "value"]
 Bg : CI K G.cM "Machine.__init__" ff ["self", "definitions", "budget"]
 DM : CT K mg "Look" G.cL ["thing", "bindings"]
 HJ : CI K G.cL "Look.__init__" iB ["self", "thing", "bindings"]
 wL : CT K mg "Choice" G.cC ["parts", "bindings"]
 De : CI K G.cC "Choice.__init__" fT ["self", "parts", "bindings"]
 qw : CT K mg "Sequence" G.cS ["parts", "at", "bindings"]
 yi : CI K G.cS "Sequence.__init__" eG ["self", "parts", "at", "bindings"]
 wK : CT K mg "Naming" G.cN ["name"]
 Dd : CI K G.cN "Naming.__init__" fS ["self", "name"]
 oo : CT K mg "Gathering" G.cG ["parts", "bindings", "found"]
 vZ : CI K G.cG "Gathering.__init__" dR ["self", "parts", "bindings"]
 gN : CT K mg "OpenList" R.cO ["parts", "parts_before_dot"]
 yj : CI K R.cO "OpenList.__init__" eH ["self"]
 eZ : CT K mg "Reading" R.cR ["text", "at", "unfinished", "done", "thing"]
 Bf : CI K R.cR "Reading.__init__" fe ["self", "text"]
 DL : CT K mg "Part" U.cT ["thing"]
 HH : CI K U.cT "Part.__init__" i9 ["self", "thing"]
 DK : CT K mg "Rest" U.cE ["thing"]
 HG : CI K U.cE "Rest.__init__" i8 ["self", "thing"]
 jb : CT K mg "Lisp" cL ["held", "definitions"]
 HK : CI K cL "Lisp.__init__" iC ["self"]
noncomputable def Ol : Nat -> Str
 | 0 => "plus"
 | 1 => "minus"
 | 2 => "times"
 | 3 => "less"
 | 4 => "equal"
 | 5 => "cons"
 | 6 => "car"
 | 7 => "cdr"
 | 8 => "atom"
 | _ => "eq"
structure Pj (P : Program) (w : World) (K : W.Frag) (mg : Str -> Option Value) (aD : Addr) (kvs : Tab) : Prop where
 Lq : mg "PRIMITIVES" = some (.ref aD)
 tk : TK P w K aD kvs
 keys : ∀ p ∈ kvs, nM K p.2.1 (p.1.map kV)
 len : kvs.length = 10
 Ll : ∀ k, k < 10 -> ∃ t e f, kvs[k]? = some (bE (AA k), t, .ref e) /\ cq kvs (bE (AA k)) = some (.ref e) /\ nM K e [.int (arity k), .ref f] /\ mg (Ol k) = some (.ref f)
structure Own (mg : Str -> Option Value) : Prop where
 oQ : mg "isinstance" = none
 int : mg "int" = none
 tup : mg "tuple" = none
 len : mg "len" = none
 Rk : mg "enumerate" = none
 rev : mg "reversed" = none
structure Facts (P : Program) (w : World) (K : W.Frag) (mg : Str -> Option Value) (A : Ad) (G : oW) (R : Rc) (U : Wc) (cL aC aD aT lT lS cp cu DO BE DP cD qF : Addr) (ex aN : Nat -> Addr) (Kf : List (Key × V)) (Gd : Tab) : Prop where
 fn : R6 K mg
 cl : KZ K mg A G R U cL
 own : Own mg
 oQ : sV A K
 P7 : NN G K
 sL : Ji K mg ex
 xM : jK K mg "MalformedText" cD
 xN : jK K mg "NothingToRead" qF
 MB : cD ≠ qF
 mro : W.mroIn K cD (.ref qF) = some false
 low : cv mg "LOWEST" (-2147483648)
 high : cv mg "HIGHEST" 2147483647
 nT : oV K mg "NAME_T" aT [116]
 sp : Ph K mg aN
 ls : Am mg
 rd : yP K mg lT lS cp cu
 wr : KH K mg A U DO BE DP
 pr : Pj P w K mg aD Gd
 ca : NW P w K mg aC Kf
section
variable {P : Program} {w : World} {K : W.Frag} {mg : Str -> Option Value} {base : Heap} {A : Ad} {G : oW} {R : Rc} {U : Wc} {cL aC aD aT lT lS cp cu DO BE DP cD qF : Addr} {ex aN : Nat -> Addr} {Kf : List (Key × V)} {Gd : Tab}
theorem dY {k n : Nat} {x : Str} {kvs : Tab} {aD : Addr} (X : Pj P w K mg aD kvs) (hk : k < 10) (hx : Ol k = x) (hn : arity k = n) {l : Nat} (hl : l <= 3) {ps : List Str} (F : aX P w K mg base l x ps (c6 P w A K ex k n)) :
  ∃ t e, kvs[k]? = some (bE (AA k), t, .ref e) /\ cq kvs (bE (AA k)) = some (.ref e) /\ ∃ f fd ps, nM K e [.int (arity k), .ref f] /\ W.keepIn K (.ref f) = true /\ Binds K fd ps [] /\ fu P w K mg base (fk P w) 3 f fd ps (c6 P w A K ex k (arity k)) := by
 obtain ⟨t, e, f, h1, h2, h3, h4⟩ := X.Ll k hk
 obtain ⟨g, gd, gm, gk, gb, G⟩ := F.mono hl
 rw [hx, gm] at h4
 cases h4
 exact ⟨t, e, h1, h2, _, gd, _, h3, gk, gb, by rw [hn]; exact G⟩
theorem CV {fa : Addr} {fd : FuncData} (X : Facts P w K mg A G R U cL aC aD aT lT lS cp cu DO BE DP cD qF ex aN Kf Gd) (FF : FJ K "answers" "answers" jr fa fd) : fu P w K mg base (fk P w) 11 fa fd ["calls"] (jo K) := by
 have mP : fK P w K mg base "Pair" A.cP 2 (jx sJ) := EV X.cl.HI X.cl.gM
 have mF : fK P w K mg base "Function" A.cF 3 (jx Dt) := vR X.cl.yk X.cl.gO
 have mQ : fK P w K mg base "Primitive" A.cQ 1 (jx Dn) := uv X.cl.vY X.cl.ja
 have mB : fK P w K mg base "Bindings" A.cB 2 (jx Du) := vS X.cl.yl X.cl.qx
 have V0 : DW P w G K mg base := ⟨X.cl.sP, X.cl.DM, X.cl.wL, X.cl.qw, X.cl.wK, X.cl.oo, yb X.cl.Bg X.cl.sP, EW X.cl.HJ X.cl.DM, AS X.cl.De X.cl.wL, vP X.cl.yi X.cl.qw, AQ X.cl.Dd X.cl.wK, uw X.cl.vZ X.cl.oo⟩
 have mO : fK P w K mg base "OpenList" R.cO 0 (gL Dr) := vQ X.cl.yj X.cl.gN
 have mR : fK P w K mg base "Reading" R.cR 1 (gL Dm) := ya X.cl.Bf X.cl.eZ
 have mT : fK P w K mg base "Part" U.cT 1 (jx Ia) := EU X.cl.HH X.cl.DL
 have mE : fK P w K mg base "Rest" U.cE 1 (jx Ia) := ET X.cl.HG X.cl.DK
 have mY := um (P := P) (w := w) (base := base) X.fn.w8 X.own.oQ X.own.int
 have lC := xW (P := P) (w := w) (base := base) X.fn.Bs X.own.oQ X.own.tup
 have range := jZ (P := P) (w := w) (K := K) (base := base) X.fn.lG X.low X.high
 have same := EH (P := P) (w := w) (base := base) X.fn.Ig
 have CF := vI X.fn.yx X.own.rev mP
 have Ff := xV X.fn.Br X.ls X.oQ X.cl.gM.kg X.cl.gO.kg mY lC
 have truth := CL (P := P) (w := w) (base := base) X.fn.Fs X.nT
 have da := mU X.fn.o9 X.oQ X.sL.x2 mY
 have checked := xX X.fn.Bt X.sL.x4 range
 have wI : aX P w K mg base 1 "check_pair_or_nil" ["thing"] (jn P w A K (ex 2)) := iL X.fn.jD X.oQ X.own.oQ X.cl.gM.kg X.sL.x2
 have car := Hf X.fn.K8 X.cl.gM wI
 have cdr := He X.fn.K7 X.cl.gM wI
 have R0 : NP P w A K mg base ex aD Gd := ⟨X.pr.Lq, X.pr.tk, X.pr.keys, X.pr.len, fun k hk => by
  match k, hk with
  | 0, hk => exact dY X.pr hk rfl rfl (zA0 _) (EI X.fn.Ih da checked)
  | 1, hk => exact dY X.pr hk rfl rfl (zA0 _) (CN X.fn.Fu da checked)
  | 2, hk => exact dY X.pr hk rfl rfl (zA0 _) (CM X.fn.Ft da checked)
  | 3, hk => exact dY X.pr hk rfl rfl (zA0 _) (EK X.fn.Ij X.nT da truth)
  | 4, hk => exact dY X.pr hk rfl rfl (zA0 _) (CO X.fn.Fv X.nT da truth)
  | 5, hk => exact dY X.pr hk rfl rfl (zA0 _) (EL X.fn.Ik mP)
  | 6, hk => exact dY X.pr hk rfl rfl (by decide) car
  | 7, hk => exact dY X.pr hk rfl rfl (by decide) cdr
  | 8, hk => exact dY X.pr hk rfl rfl (by decide) (EM X.fn.Il X.oQ X.own.oQ X.cl.gM.kg X.nT truth)
  | 9, hk => exact dY X.pr hk rfl rfl (by decide) (JP X.fn.N3 X.oQ X.nT same truth)⟩
 have oF := ka X.fn.lH R0 X.cl.ja X.own.len X.sL.x3
 have lF := iK X.fn.jC R0 X.nT mQ
 have qH : aX P w K mg base 1 "value_of_name" ["name", "bindings", "definitions"] (xo P w A K (ex 1)) := mJ X.fn.o7 X.cl.qx X.sL.x1
 have vD : aX P w K mg base 1 "parts_of" ["thing"] (oI P w A K (ex 6)) := vH X.fn.yw X.oQ X.own.oQ X.cl.gM X.sL.x6
 have iZ : aX P w K mg base 1 "check_part_count" ["parts", "count"] (kO K (ex 6)) := j8 X.fn.kr X.own.len X.sL.x6
 have nG := j9 X.fn.ku X.own.len X.own.Rk X.cl.gO X.sL.x3 mB
 have wq := pR X.fn.r9 X.oQ X.sL.x6 iZ vD lC mF
 have wO : aX P w K mg base 3 "begin_progn" ["machine", "parts", "bindings"] (t8 P w A G K ex) := pU X.fn.rD V0 X.own.len
 have B9 := uq X.fn.wA V0 X.oQ X.sL.x6 iZ lC
 have yI := qZ X.fn.uG V0 X.oQ X.sp X.sL.x7 iZ vD wO B9 wq
 have look := EJ X.fn.Ii V0 X.oQ X.own.oQ X.cl.gM.kg yI qH lC
 have choose : aX P w K mg base 3 "choose" ["machine", "step"] (jN P w A G K ex .C) := AI X.fn.D0 V0
 have yt : aX P w K mg base 3 "go_through" ["machine", "step"] (jN P w A G K ex .S) := qY X.fn.uF V0 X.own.len
 have wR := pV X.fn.rE V0 X.oQ X.own.oQ X.cl.ja.kg X.cl.gO X.sL.x5 oF nG
 have gather := AG X.fn.Dy V0 X.own.len wR
 have A0 := ui X.fn.wy V0 X.P7 X.own.oQ look choose yt gather
 have value_of := vG X.fn.yu V0 X.own.len A0
 have outcome := xU X.fn.Bq X.sL value_of
 have lO := o5 (P := P) (w := w) (base := base) X.fn.ql X.rd
 have wC := pS (P := P) (w := w) (base := base) X.fn.rA X.rd
 have may := lz (P := P) (w := w) (base := base) X.fn.nh X.rd
 have digits_of := uo (P := P) (w := w) (base := base) X.fn.w9 X.rd
 have qg := l0 X.fn.nj X.rd digits_of
 have pW := ly X.fn.ng X.rd X.xM digits_of range
 have qJ := mK X.fn.o8 X.rd X.xM may qg pW
 have sF := l4 (P := P) (w := w) (base := base) (R := R) X.fn.nq X.rd X.xM X.cl.eZ
 have E6 := xT (P := P) (w := w) (base := base) (R := R) X.fn.Bp X.rd X.xM X.cl.gN
 have closed := AH (R := R) X.fn.Dz X.rd X.xM X.cl.gN CF
 have put := Hd (R := R) X.fn.K6 X.rd X.sp.n0 X.cl.eZ X.cl.gN mP
 have A6 := uj X.fn.wz X.rd X.cl.eZ wC E6 sF put qJ
 have xE := qW X.fn.uD X.rd X.xM X.cl.eZ mO lO sF put closed A6
 have xG := qX X.fn.uE X.rd X.xN X.cl.eZ mR lO xE
 have yY := xR X.fn.Bn X.wr X.oQ mY lC
 have si := uk X.fn.w6 X.cl.gM mT mE
 have xf := qV X.fn.uB X.wr X.oQ si yY
 have xc := qU X.fn.uA X.wr X.oQ si yY
 have Eo := xS X.fn.Bo X.wr X.cl.DL X.cl.DK mT xf xc
 have lB := vJ (P := P) (w := w) (K := K) (base := base) X.fn.yy X.ls
 have gS := rg X.fn.uH X.ls lB
 have ML := EX X.cl.HK X.cl.jb X.ls lF
 have wD := pT (base := base) X.fn.rB X.ls X.ca
 refine vK FF X.ls X.ca ML wD fun pr n h1 h8 => ?_
 have rO : aX P w K mg base 3 "answer_with_part" ["lisp", "handed", "part_of"] (g8 P w A K mg base ex ⟨cL, pr⟩) := jA X.fn.ky X.ls X.cl.jb X.sL gS
 match n, h1, h8 with
 | 1, _, _ => exact (l6 (cL := ⟨cL, pr⟩) X.fn.nz X.ls X.cl.jb X.xM X.xN X.MB X.mro lB xG).mono (by decide)
 | 2, _, _ => exact (kb (cL := ⟨cL, pr⟩) X.fn.lI X.ls X.cl.jb lB Eo).mono (by decide)
 | 3, _, _ => exact (hJ (cL := ⟨cL, pr⟩) X.fn.iW X.ls X.cl.jb lB outcome).mono (by decide)
 | 4, _, _ => exact (l8 (cL := ⟨cL, pr⟩) X.fn.n8 X.ls X.cl.jb mP gS).mono (by decide)
 | 5, _, _ => exact (mW X.fn.oB rO car).mono (by decide)
 | 6, _, _ => exact (mV X.fn.oA rO cdr).mono (by decide)
 | 7, _, _ => exact (l7 (cL := ⟨cL, pr⟩) X.fn.n6 X.ls X.cl.jb gS Ff).mono (by decide)
 | 8, _, _ => exact (l5 (cL := ⟨cL, pr⟩) X.fn.ny X.ls X.cl.jb X.oQ gS same).mono (by decide)
end
end Lsp
namespace Lsp
open PySem Spec PyProof.Rows L2
section
variable {K : W.Frag} {h : Heap} {mg : Str -> Option Value}
theorem R7 {x qual : Str} {st : Stmt} {f : Addr} {oc : Value} {od an : Option Addr} {o4 : Array (Option Value)} {kV doc pm aU ct : Value} (X : K.In h) (G : h.Ns mainGlobals mg) (a : W.nsIn K mainGlobals x = some (some (.ref f)) := by k_is)
  (l : K.lookup f = some ⟨oc, od, .func (W.fnOf x qual (bB st) (b8 st) (aj st) .none kV doc pm an aU ct), o4⟩ := by k_is) (c : W.codeIn K aU qual = true := by k_is) (k : W.keepIn K (.ref f) = true := by k_is)
  (b : ∀ (kV doc pm : Value) (an : Option Addr) (aU ct : Value) , bindArgs (W.fnOf x qual (bB st) (b8 st) (aj st) .none kV doc pm an aU ct) ⟨[], []⟩ = pure (([] : List Str).zip []) := by intros; rfl) : FT K mg x qual st [] :=
 ⟨f, _, W.mg_of X G a, k, (cX l c k).binds fun kV doc pm an aU ct us hl => match us, hl with | [], _ => b kV doc pm an aU ct, cX l c k⟩
theorem jE {x qual : Str} {st : Stmt} {f : Addr} {oc : Value} {od an : Option Addr} {o4 : Array (Option Value)} {kV doc pm aU ct : Value} {p0 : Str} (X : K.In h) (G : h.Ns mainGlobals mg) (a : W.nsIn K mainGlobals x = some (some (.ref f)) := by k_is)
  (l : K.lookup f = some ⟨oc, od, .func (W.fnOf x qual (bB st) (b8 st) (aj st) .none kV doc pm an aU ct), o4⟩ := by k_is) (c : W.codeIn K aU qual = true := by k_is) (k : W.keepIn K (.ref f) = true := by k_is)
  (b : ∀ (kV doc pm : Value) (an : Option Addr) (aU ct : Value) (u0 : Value), bindArgs (W.fnOf x qual (bB st) (b8 st) (aj st) .none kV doc pm an aU ct) ⟨[u0], []⟩ = pure (([p0] : List Str).zip [u0]) := by intros; rfl) : FT K mg x qual st [p0] :=
 ⟨f, _, W.mg_of X G a, k, (cX l c k).binds fun kV doc pm an aU ct us hl => by obtain ⟨u0, rfl⟩ := Hd.n1 hl; exact b kV doc pm an aU ct u0, cX l c k⟩
theorem oG {x qual : Str} {st : Stmt} {f : Addr} {oc : Value} {od an : Option Addr} {o4 : Array (Option Value)} {kV doc pm aU ct : Value} {p0 p1 : Str} (X : K.In h) (G : h.Ns mainGlobals mg) (a : W.nsIn K mainGlobals x = some (some (.ref f)) := by k_is)
  (l : K.lookup f = some ⟨oc, od, .func (W.fnOf x qual (bB st) (b8 st) (aj st) .none kV doc pm an aU ct), o4⟩ := by k_is) (c : W.codeIn K aU qual = true := by k_is) (k : W.keepIn K (.ref f) = true := by k_is)
  (b : ∀ (kV doc pm : Value) (an : Option Addr) (aU ct : Value) (u0 u1 : Value), bindArgs (W.fnOf x qual (bB st) (b8 st) (aj st) .none kV doc pm an aU ct) ⟨[u0, u1], []⟩ = pure (([p0, p1] : List Str).zip [u0, u1]) := by intros; rfl) : FT K mg x qual st [p0, p1] :=
 ⟨f, _, W.mg_of X G a, k, (cX l c k).binds fun kV doc pm an aU ct us hl => by obtain ⟨u0, u1, rfl⟩ := Hd.n2 hl; exact b kV doc pm an aU ct u0 u1, cX l c k⟩
theorem DV {x qual : Str} {st : Stmt} {f : Addr} {oc : Value} {od an : Option Addr} {o4 : Array (Option Value)} {kV doc pm aU ct : Value} {p0 p1 p2 : Str} (X : K.In h) (G : h.Ns mainGlobals mg) (a : W.nsIn K mainGlobals x = some (some (.ref f)) := by k_is)
  (l : K.lookup f = some ⟨oc, od, .func (W.fnOf x qual (bB st) (b8 st) (aj st) .none kV doc pm an aU ct), o4⟩ := by k_is) (c : W.codeIn K aU qual = true := by k_is) (k : W.keepIn K (.ref f) = true := by k_is)
  (b : ∀ (kV doc pm : Value) (an : Option Addr) (aU ct : Value) (u0 u1 u2 : Value), bindArgs (W.fnOf x qual (bB st) (b8 st) (aj st) .none kV doc pm an aU ct) ⟨[u0, u1, u2], []⟩ = pure (([p0, p1, p2] : List Str).zip [u0, u1, u2]) := by intros; rfl) : FT K mg x qual st [p0, p1, p2] :=
 ⟨f, _, W.mg_of X G a, k, (cX l c k).binds fun kV doc pm an aU ct us hl => by obtain ⟨u0, u1, u2, rfl⟩ := Hd.n3 hl; exact b kV doc pm an aU ct u0 u1 u2, cX l c k⟩
theorem Pr {C : Addr} {qual : Str} {st : Stmt} {f : Addr} {oc : Value} {od an : Option Addr} {o4 : Array (Option Value)} {kV doc pm aU ct : Value} {p0 : Str} (a : W.findIn K (.ref C) "__init__" = some (some (.ref f)) := by k_is) (i : W.isFn K (.ref f) = true := by k_is)
  (l : K.lookup f = some ⟨oc, od, .func (W.fnOf "__init__" qual (bB st) (b8 st) (aj st) .none kV doc pm an aU ct), o4⟩ := by k_is) (c : W.codeIn K aU qual = true := by k_is) (k : W.keepIn K (.ref f) = true := by k_is)
  (b : ∀ (kV doc pm : Value) (an : Option Addr) (aU ct : Value) (u0 : Value), bindArgs (W.fnOf "__init__" qual (bB st) (b8 st) (aj st) .none kV doc pm an aU ct) ⟨[u0], []⟩ = pure (([p0] : List Str).zip [u0]) := by intros; rfl) : CI K C qual st [p0] :=
 ⟨f, _, a, i, (cX l c k).binds fun kV doc pm an aU ct us hl => by obtain ⟨u0, rfl⟩ := Hd.n1 hl; exact b kV doc pm an aU ct u0, cX l c k⟩
theorem La {C : Addr} {qual : Str} {st : Stmt} {f : Addr} {oc : Value} {od an : Option Addr} {o4 : Array (Option Value)} {kV doc pm aU ct : Value} {p0 p1 : Str} (a : W.findIn K (.ref C) "__init__" = some (some (.ref f)) := by k_is) (i : W.isFn K (.ref f) = true := by k_is)
  (l : K.lookup f = some ⟨oc, od, .func (W.fnOf "__init__" qual (bB st) (b8 st) (aj st) .none kV doc pm an aU ct), o4⟩ := by k_is) (c : W.codeIn K aU qual = true := by k_is) (k : W.keepIn K (.ref f) = true := by k_is)
  (b : ∀ (kV doc pm : Value) (an : Option Addr) (aU ct : Value) (u0 u1 : Value), bindArgs (W.fnOf "__init__" qual (bB st) (b8 st) (aj st) .none kV doc pm an aU ct) ⟨[u0, u1], []⟩ = pure (([p0, p1] : List Str).zip [u0, u1]) := by intros; rfl) : CI K C qual st [p0, p1] :=
 ⟨f, _, a, i, (cX l c k).binds fun kV doc pm an aU ct us hl => by obtain ⟨u0, u1, rfl⟩ := Hd.n2 hl; exact b kV doc pm an aU ct u0 u1, cX l c k⟩
theorem Jj {C : Addr} {qual : Str} {st : Stmt} {f : Addr} {oc : Value} {od an : Option Addr} {o4 : Array (Option Value)} {kV doc pm aU ct : Value} {p0 p1 p2 : Str} (a : W.findIn K (.ref C) "__init__" = some (some (.ref f)) := by k_is) (i : W.isFn K (.ref f) = true := by k_is)
  (l : K.lookup f = some ⟨oc, od, .func (W.fnOf "__init__" qual (bB st) (b8 st) (aj st) .none kV doc pm an aU ct), o4⟩ := by k_is) (c : W.codeIn K aU qual = true := by k_is) (k : W.keepIn K (.ref f) = true := by k_is)
  (b : ∀ (kV doc pm : Value) (an : Option Addr) (aU ct : Value) (u0 u1 u2 : Value), bindArgs (W.fnOf "__init__" qual (bB st) (b8 st) (aj st) .none kV doc pm an aU ct) ⟨[u0, u1, u2], []⟩ = pure (([p0, p1, p2] : List Str).zip [u0, u1, u2]) := by intros; rfl) : CI K C qual st [p0, p1, p2] :=
 ⟨f, _, a, i, (cX l c k).binds fun kV doc pm an aU ct us hl => by obtain ⟨u0, u1, u2, rfl⟩ := Hd.n3 hl; exact b kV doc pm an aU ct u0 u1 u2, cX l c k⟩
theorem Pq {C : Addr} {qual : Str} {st : Stmt} {f : Addr} {oc : Value} {od an : Option Addr} {o4 : Array (Option Value)} {kV doc pm aU ct : Value} {p0 p1 p2 p3 : Str} (a : W.findIn K (.ref C) "__init__" = some (some (.ref f)) := by k_is) (i : W.isFn K (.ref f) = true := by k_is)
  (l : K.lookup f = some ⟨oc, od, .func (W.fnOf "__init__" qual (bB st) (b8 st) (aj st) .none kV doc pm an aU ct), o4⟩ := by k_is) (c : W.codeIn K aU qual = true := by k_is) (k : W.keepIn K (.ref f) = true := by k_is)
  (b : ∀ (kV doc pm : Value) (an : Option Addr) (aU ct : Value) (u0 u1 u2 u3 : Value), bindArgs (W.fnOf "__init__" qual (bB st) (b8 st) (aj st) .none kV doc pm an aU ct) ⟨[u0, u1, u2, u3], []⟩ = pure (([p0, p1, p2, p3] : List Str).zip [u0, u1, u2, u3]) := by intros; rfl) : CI K C qual st [p0, p1, p2, p3] :=
 ⟨f, _, a, i, (cX l c k).binds fun kV doc pm an aU ct us hl => by obtain ⟨u0, u1, u2, u3, rfl⟩ := Hd.n4 hl; exact b kV doc pm an aU ct u0 u1 u2 u3, cX l c k⟩
theorem eO {x : Str} {C : Addr} {fields : List Str} (X : K.In h) (G : h.Ns mainGlobals mg) (na : ∀ f ∈ fields, W.findIn K (.ref C) f = some none) (a : W.nsIn K mainGlobals x = some (some (.ref C)) := by k_is) (pg : W.plainGet K C Str.empty = true := by k_is) (hd : W.hasDictIn K C = true := by k_is) (po : W.plainOver K C = true := by k_is)
  (sa : W.findIn K (.ref C) "__setattr__" = some (some (.builtin "object.__setattr__")) := by k_is) (mk : W.makesIn K C = true := by k_is) (kc : W.keepIn K (.ref C) = true := by k_is) : CT K mg x C fields :=
 ⟨W.mg_of X G a, ⟨pg, hd, po, sa⟩, na, mk, kc⟩
end
end Lsp
namespace Lsp
open PySem Spec PyProof.Rows L2
section
variable {K : W.Frag} {h : Heap} {mg : Str -> Option Value}
theorem cW {Pp : Str -> Prop} : ∀ f ∈ ([] : List Str), Pp f := fun _ h => nomatch h
theorem aS {Pp : Str -> Prop} {f : Str} {r : List Str} (b : ∀ g ∈ r, Pp g) (a : Pp f := by k_is) : ∀ g ∈ f :: r, Pp g := fun g hg => (List.mem_cons.mp hg).elim (fun z => by rw [z]; exact a) (b g)
theorem aV {x : Str} {n : Int} {t : Tok} (X : K.In h) (G : h.Ns mainGlobals mg) (a : W.nsIn K mainGlobals x = some (some (.int n t)) := by k_is) : cv mg x n := ⟨_, W.mg_of X G a, t, rfl⟩
def GI : V -> Value -> Bool
 | .int i, .int j _ => decide (i = j)
 | .ref a, .ref b => decide (a = b)
 | _, _ => false
def C6 : List V -> List Value -> Bool
 | [], [] => true
 | x :: xs, u :: us => GI x u && C6 xs us
 | _, _ => false
theorem E5 : ∀ {x : V} {u : Value}, GI x u = true -> RelV x u := fun {x u} h => by
 cases x <;> cases u <;> first | (cases h; done) | skip
 ·have := of_decide_eq_true h
  subst this
  exact ⟨_, rfl⟩
 ·have := of_decide_eq_true h
  subst this
  exact rfl
theorem tU : ∀ {xs : List V} {us : List Value}, C6 xs us = true -> Vals xs us
 | [], [], _ => .nil
 | [], _ :: _, h => by cases h
 | _ :: _, [], h => by cases h
 | x :: xs, u :: us, h => by
  have h : (GI x u && C6 xs us) = true := h
  rw [Bool.and_eq_true] at h
  exact .cons (E5 h.1) (tU h.2)
theorem aO {a : Addr} {xs : List V} {od : Option Addr} {aF : Array Value} {n : Nat} {sl : Array (Option Value)} (l : K.lookup a = some ⟨.type "tuple", od, .seq aF n, sl⟩ := by k_is) (hz : aF.size <= sizeLine := by exact Nat.le_of_ble_eq_true rfl) (v : C6 xs aF.toList = true := by rfl) : nM K a xs := ⟨_, aF, n, l, rfl, rfl, hz, tU v⟩
theorem eM {x : Str} {a : Addr} {l : List Int} (X : K.In h) (G : h.Ns mainGlobals mg) (t : nM K a (l.map V.int)) (e : W.nsIn K mainGlobals x = some (some (.ref a)) := by k_is) : oV K mg x a l := ⟨W.mg_of X G e, t⟩
theorem j6 {C : Addr} (pg : W.plainGet K C Str.empty = true := by k_is) (hd : W.hasDictIn K C = true := by k_is) (po : W.plainOver K C = true := by k_is) (sa : W.findIn K (.ref C) "__setattr__" = some (some (.builtin "object.__setattr__")) := by k_is) (ha : W.findIn K (.ref C) "__class__" = some (some (.builtin "object.__class__")) := by k_is) (hn : W.specialIn K (.builtin "object.__class__") "__get__" = some (some (.builtin "getset_descriptor.__get__")) := by k_is) (tk : W.takesIn K (.builtin "object.__class__") = some true := by k_is)
  (hm : W.mroIn K C (.type "object") = some true := by k_is) : yV K C := ⟨⟨pg, hd, po, sa⟩, ha, hn, tk, hm⟩
theorem gU {x : Str} {C : Addr} (X : K.In h) (G : h.Ns mainGlobals mg) (e : W.nsIn K mainGlobals x = some (some (.ref C)) := by k_is) (q : W.excIn K C Ir "Exception.__new__" = true := by kernel_rfl) : jK K mg x C := ⟨W.mg_of X G e, q⟩
theorem KR {P : Program} {w : World} {a : Addr} {es : Array DictEntry} {ep : Nat} (l : K.lookup a = some ⟨.type "dict", none, .dict es ep, #[]⟩) (ls : List (Int × Nat × Addr)) (e : es.toList = ls.map fun x => ⟨(bN P w).hash (Sum.inl x.1), .int x.1 x.2.1, .ref x.2.2⟩)
  (nd : (ls.map fun x => (Sum.inl x.1 : Key)).Nodup) : KI P w K a (ls.map fun x => (Sum.inl x.1, .ref x.2.2)) := by
 have OC : ∀ (n : Int) (t : Tok), (bN P w).is (Sum.inl n) (.int n t) = true := fun n t => by show Value.isInt n (.int n t) = true; simp [Value.isInt]
 refine ⟨_, es, ep, ls.map fun x => (Sum.inl x.1, .ref x.2.2), l, ⟨rfl, rfl, rfl⟩, rfl, fun d hd => ?_, ?_, ?_, ?_⟩
 ·have hd : d ∈ es.toList := by simpa using hd
  rw [e] at hd
  obtain ⟨x, _, rfl⟩ := List.mem_map.mp hd
  exact ⟨Sum.inl x.1, OC _ _, rfl⟩
 ·rw [e]
  clear e nd l
  induction ls with
  | nil => exact .nil
  | cons x r ih => exact .cons (OC _ _) rfl ih
 ·rw [List.map_map]
  exact nd
 ·clear e nd l
  induction ls with
  | nil => exact .nil
  | cons x r ih => exact .cons ⟨rfl, rfl⟩ ih
theorem DS {a : Addr} {xs : List V} {aF : Array Value} {n : Nat} (l : K.lookup a = some { cls := .type "tuple", dict := none, data := .seq aF n, slots := #[] } := by k_is) (hz : aF.size <= sizeLine := by exact Nat.le_of_ble_eq_true rfl) (v : C6 xs aF.toList = true := by rfl) : DT K a xs := ⟨aF, n, l, hz, tU v⟩
def Hr (K : W.Frag) (ex : Nat -> Addr) : Bool := [1, 2, 3, 4, 5, 6, 7].all fun m => [1, 2, 3, 4, 5, 6, 7].all fun n => m == n || W.mroIn K (ex m) (.ref (ex n)) == some false
theorem EY : ∀ m : Nat, 1 <= m -> m <= 7 -> m ∈ [1, 2, 3, 4, 5, 6, 7] := fun m h1 h2 => by
 match m, h1, h2 with
 | 1, _, _ => decide
 | 2, _, _ => decide
 | 3, _, _ => decide
 | 4, _, _ => decide
 | 5, _, _ => decide
 | 6, _, _ => decide
 | 7, _, _ => decide
theorem Hq {ex : Nat -> Addr} (h : Hr K ex = true) : ∀ m n, 1 <= m -> m <= 7 -> 1 <= n -> n <= 7 -> m ≠ n -> W.mroIn K (ex m) (.ref (ex n)) = some false := fun m n h1 h2 h3 h4 ne => by
 have z := List.all_eq_true.mp (List.all_eq_true.mp h m (EY m h1 h2)) n (EY n h3 h4)
 rw [Bool.or_eq_true] at z
 rcases z with z | z
 ·exact absurd (by simpa using z) ne
 ·simpa using z
def HC (ex : Nat -> Addr) : Bool := [1, 2, 3, 4, 5, 6, 7].all fun m => [1, 2, 3, 4, 5, 6, 7].all fun n => m == n || !(ex m == ex n)
theorem HB {ex : Nat -> Addr} (h : HC ex = true) : ∀ m n, 1 <= m -> m <= 7 -> 1 <= n -> n <= 7 -> m ≠ n -> ex m ≠ ex n := fun m n h1 h2 h3 h4 ne => by
 have z := List.all_eq_true.mp (List.all_eq_true.mp h m (EY m h1 h2)) n (EY n h3 h4)
 rw [Bool.or_eq_true] at z
 rcases z with z | z
 ·exact absurd (by simpa using z) ne
 ·simpa using z
theorem JQ {Pp : Nat -> Prop} (p0 : Pp 0) (p1 : Pp 1) (p2 : Pp 2) (p3 : Pp 3) (p4 : Pp 4) (p5 : Pp 5) (p6 : Pp 6) (p7 : Pp 7) (p8 : Pp 8) (p9 : Pp 9) : ∀ k, k < 10 -> Pp k := fun k hk => by
 match k, hk with
 | 0, _ => exact p0
 | 1, _ => exact p1
 | 2, _ => exact p2
 | 3, _ => exact p3
 | 4, _ => exact p4
 | 5, _ => exact p5
 | 6, _ => exact p6
 | 7, _ => exact p7
 | 8, _ => exact p8
 | 9, _ => exact p9
theorem Rr {Pp : Nat -> Prop} (p1 : Pp 1) (p2 : Pp 2) (p3 : Pp 3) (p4 : Pp 4) (p5 : Pp 5) (p6 : Pp 6) (p7 : Pp 7) (p8 : Pp 8) : ∀ k : Nat, 1 <= k -> k <= 8 -> Pp k := fun k h1 h8 => by
 match k, h1, h8 with
 | 1, _, _ => exact p1
 | 2, _, _ => exact p2
 | 3, _, _ => exact p3
 | 4, _, _ => exact p4
 | 5, _, _ => exact p5
 | 6, _, _ => exact p6
 | 7, _, _ => exact p7
 | 8, _, _ => exact p8
theorem all_nil {α : Type} {Pp : α -> Prop} : ∀ f ∈ ([] : List α), Pp f := fun _ h => nomatch h
theorem all_cons {α : Type} {Pp : α -> Prop} {f : α} {r : List α} (a : Pp f) (b : ∀ g ∈ r, Pp g) : ∀ g ∈ f :: r, Pp g := fun g hg => (List.mem_cons.mp hg).elim (fun z => by rw [z]; exact a) (b g)
theorem KL {P : Program} {w : World} {a : Addr} {es : Array DictEntry} {ep : Nat} (l : K.lookup a = some ⟨.type "dict", none, .dict es ep, #[]⟩) (kvs : Tab) (xs : List (List Key × Addr × Value)) (hz : kvs.length <= sizeLine) (ns : (a == sysModules) = false) (kx : KX kvs xs) (e : es.toList = xs.map (entryOfKey (tupleKind (bN P w))))
  (nd : (xs.map (·.1)).Nodup) : TK P w K a kvs := ⟨hz, ns, _, l, xs, es, ep, kx, ⟨rfl, rfl, rfl⟩, rfl, e, nd⟩
end
end Lsp
namespace Lsp
open PySem Spec PyProof.Rows L2
def Rg : Nat -> Addr := fun n => ([0, 50, 63, 76, 89, 102, 115, 128] : List Addr).getD n 0
def Qa : Nat -> Addr := fun n => ([133, 134, 135, 136, 137] : List Addr).getD n 0
noncomputable def O8 : List (Int × Nat × Addr) := [(1, 1600, 950), (2, 1602, 951), (3, 1604, 952), (4, 1606, 953), (5, 1608, 954), (6, 1610, 955), (7, 1612, 956), (8, 1614, 957)]
noncomputable def Kf : List (Key × V) := O8.map fun x => (Sum.inl x.1, .ref x.2.2)
noncomputable def NY : List (List Key × Addr × Value) := [(([Sum.inl 43] : List Key), 342, .ref 343), (([Sum.inl 45] : List Key), 344, .ref 345), (([Sum.inl 42] : List Key), 346, .ref 347), (([Sum.inl 60] : List Key), 348, .ref 349), (([Sum.inl 61] : List Key), 350, .ref 351), (([Sum.inl 99, Sum.inl 111, Sum.inl 110, Sum.inl 115] : List Key), 352, .ref 353), (([Sum.inl 99, Sum.inl 97, Sum.inl 114] : List Key), 354, .ref 355), (([Sum.inl 99, Sum.inl 100, Sum.inl 114] : List Key), 356, .ref 357), (([Sum.inl 97, Sum.inl 116, Sum.inl 111, Sum.inl 109] : List Key), 358, .ref 359), (([Sum.inl 101, Sum.inl 113] : List Key), 360, .ref 361)]
noncomputable def Gd : Tab := [(([Sum.inl 43] : List Key), 342, .ref 343), (([Sum.inl 45] : List Key), 344, .ref 345), (([Sum.inl 42] : List Key), 346, .ref 347), (([Sum.inl 60] : List Key), 348, .ref 349), (([Sum.inl 61] : List Key), 350, .ref 351), (([Sum.inl 99, Sum.inl 111, Sum.inl 110, Sum.inl 115] : List Key), 352, .ref 353), (([Sum.inl 99, Sum.inl 97, Sum.inl 114] : List Key), 354, .ref 355), (([Sum.inl 99, Sum.inl 100, Sum.inl 114] : List Key), 356, .ref 357), (([Sum.inl 97, Sum.inl 116, Sum.inl 111, Sum.inl 109] : List Key), 358, .ref 359), (([Sum.inl 101, Sum.inl 113] : List Key), 360, .ref 361)]
theorem MD : KX Gd NY := .cons ⟨rfl, rfl, rfl⟩ (.cons ⟨rfl, rfl, rfl⟩ (.cons ⟨rfl, rfl, rfl⟩ (.cons ⟨rfl, rfl, rfl⟩ (.cons ⟨rfl, rfl, rfl⟩ (.cons ⟨rfl, rfl, rfl⟩ (.cons ⟨rfl, rfl, rfl⟩ (.cons ⟨rfl, rfl, rfl⟩ (.cons ⟨rfl, rfl, rfl⟩ (.cons ⟨rfl, rfl, rfl⟩ (.nil))))))))))
abbrev LF (P : Program) (w : World) (K : W.Frag) (mg : Str -> Option Value) : Prop := Facts P w K mg ⟨154, 175, 196, 392⟩ ⟨413, 434, 455, 476, 497, 518⟩ ⟨655, 676⟩ ⟨794, 815⟩ 869 949 341 132 635 636 637 638 775 776 777 37 24 Rg Qa Kf Gd
theorem K5 {P : Program} {w : World} {K : W.Frag} {h : Heap} {mg : Str -> Option Value} {fa : Addr} (hmg : mg "answers" = some (.ref fa)) (X : LF P w K mg) :
  ∃ fd : FuncData, (∀ (s : Shared) (us : List Value), us.length = (["calls"] : List Str).length -> BindsTo s fd ⟨us, []⟩ ((["calls"] : List Str).zip us)) /\ ∀ base : Heap, K.In base -> base.Ns mainGlobals mg -> fu P w K mg base (fk P w) 11 fa fd ["calls"] (jo K) := by
 obtain ⟨f, fd, hm, kp, hb, F⟩ := X.fn.Bu
 rw [hmg] at hm
 cases hm
 refine ⟨fd, ?_, fun base _ _ => CV X F⟩
 obtain ⟨oc, od, kV, doc, pm, an, aU, ct, o4, rfl, lk, Eg⟩ := F.ex
 exact fun s us hu => match us, hu with | [_], _ => .of_eq rfl
end Lsp
namespace L2
open PySem Spec PyProof.Rows
open PySem.W (WData Codec OpenSpec Well WellAll ReadsW ReadsAllW)
theorem xh {r : OpenSpec} {k : Nat} {q : Program} {loose : List Str} {XP : (Str -> Option Value) -> Heap -> Prop} {YP : World -> Heap -> Prop} {d : DefRec} {K : Params -> W.Frag} {ps : List Str} {sp : W.Frag -> Sp}
  (Df : r.wellSaid = true) (OP : d.params.defaults = []) (hlen : r.args.length = ps.length) (hr : dc k callerA)
  (hY : ∀ (w : World) (h : Heap), YP w h -> (K w.params).In h)
  (F : ∀ (w : World) (mg : Str -> Option Value) (fa : Addr) (h : Heap), YP w h -> (K w.params).In h -> h.Ns mainGlobals mg -> mg d.name = some (.ref fa) ->
   ∃ fd : FuncData, (∀ (s : Shared) (us : List Value), us.length = ps.length -> BindsTo s fd ⟨us, []⟩ (ps.zip us)) /\
    ∀ base : Heap, (K w.params).In base -> base.Ns mainGlobals mg -> fu r.prog w (K w.params) mg base (fk r.prog w) k fa fd ps (sp (K w.params)))
  (wY : ∀ (K : W.Frag) (H : Hp) (xs : List V) (a : Codec.denoteAll r.args), wW H -> Codec.withinAll r.args a = true -> Codec.app r.args r.asked a = true -> gZ K H xs (Codec.encAll r.args a) ->
   sp K xs H (fun v H' => Dw K H' v (r.ret.enc (Codec.app r.args r.f a))) fun _ _ _ => False) :
  W.WalkOS q loose XP YP r d [] (fun f vs => PySem.call f vs) :=
 Aq (K := K) (CX := fun w => fk r.prog w) (sp := fun w => sp (K w.params)) Df OP hlen hr hY F (fun w H xs a h1 h2 h3 h4 => wY (K w.params) H xs a h1 h2 h3 h4) fun w H s e s' h => by
  obtain ⟨_, _, _, _, _, _, _, _, _, _, _, _, z⟩ := h
  exact z
end L2
section
local macro_rules
 | `(tactic| refine $t:term) => do
  if (t.raw.find? fun s => s.isOfKind ``Lean.Parser.Term.syntheticHole && s[1].getId == `hl).isNone then Lean.Macro.throwUnsupported
  let r <- t.raw.replaceM fun s => if s.isOfKind ``Lean.Parser.Term.syntheticHole && s[1].getId == `hl then return some (s.setArg 1 (Lean.mkIdent `hx)) else return none
  `(tactic| refine $(⟨r⟩))
open PySem PySem.W PyProof.Rows
set_option maxRecDepth 100000 in
set_option maxHeartbeats 0 in
theorem PySem.Challenge.cw_smalllisp_s01_answers_holds : PySem.Challenge.rw_smalllisp_s01_answers.Holds := by
 w_on; k_headS; (case hx => exact Hd.left (by as_aux_lemma => kernel_rfl) rfl (by as_aux_lemma => (intro P; kernel_rfl))); (case hw => exact ⟨[.list [.int 7, .int 0]], by decide +kernel, by decide +kernel⟩)
 k_fillS
 refine L2.xh (r := PySem.Challenge.rw_smalllisp_s01_answers) (k := 11) (ps := ["calls"]) (sp := Lsp.jo) (by decide +kernel) rfl rfl ⟨rfl, by decide, by decide⟩ (fun w h Y => kIn_of Y) ?F ?S
 case F =>
  intro w mg fa h Y KX G hmg
  refine Lsp.K5 (h := h) hmg ?X
  have hL : mg "len" = none := mg_none_of KX G (by k_is)
  have hI : mg "isinstance" = none := mg_none_of KX G (by k_is)
  have hN : mg "int" = none := mg_none_of KX G (by k_is)
  have hT : mg "tuple" = none := mg_none_of KX G (by k_is)
  have hE : mg "enumerate" = none := mg_none_of KX G (by k_is)
  have hR : mg "reversed" = none := mg_none_of KX G (by k_is)
  have hA : mg "all" = none := mg_none_of KX G (by k_is)
  have hS : mg "list" = none := mg_none_of KX G (by k_is)
  have hX : mg "str" = none := mg_none_of KX G (by k_is)
  have hO : mg "ord" = none := mg_none_of KX G (by k_is)
  open Lsp in
  exact ⟨⟨jE KX G, jE KX G, jE KX G, jE KX G, oG KX G, oG KX G, jE KX G, jE KX G, jE KX G, jE KX G, jE KX G, jE KX G, jE KX G, jE KX G, jE KX G, jE KX G, jE KX G, jE KX G, jE KX G, jE KX G, oG KX G, R7 KX G, DV KX G, DV KX G, oG KX G, DV KX G, DV KX G, DV KX G, jE KX G, oG KX G, DV KX G, DV KX G, oG KX G, oG KX G, oG KX G, oG KX G, DV KX G, oG KX G, jE KX G, oG KX G, jE KX G, oG KX G, oG KX G, jE KX G, jE KX G, jE KX G, oG KX G, jE KX G, jE KX G, jE KX G, jE KX G, jE KX G, oG KX G, DV KX G, DV KX G, oG KX G, jE KX G, jE KX G, jE KX G, oG KX G, oG KX G, oG KX G, oG KX G, oG KX G, oG KX G, DV KX G, oG KX G, oG KX G, jE KX G, oG KX G⟩,
   ⟨eO KX G (aS (aS cW)), Jj, eO KX G (aS (aS (aS cW))), Pq, eO KX G (aS cW), La, eO KX G (aS (aS cW)), Jj, eO KX G (aS (aS (aS (aS cW)))), Jj, eO KX G (aS (aS cW)), Jj, eO KX G (aS (aS cW)), Jj, eO KX G (aS (aS (aS cW))), Pq, eO KX G (aS cW), La, eO KX G (aS (aS (aS cW))), Jj, eO KX G (aS (aS cW)), Pr, eO KX G (aS (aS (aS (aS (aS cW))))), La, eO KX G (aS cW), La, eO KX G (aS cW), La, eO KX G (aS (aS cW)), Pr⟩,
   ⟨hI, hN, hT, hL, hE, hR⟩,
   ⟨j6, j6, j6, by kernel_rfl, by kernel_rfl, by kernel_rfl, (fun k => by cases k <;> kernel_rfl), (fun k => by cases k <;> kernel_rfl), (fun k => by cases k <;> kernel_rfl), (fun k => by cases k <;> kernel_rfl), (fun k => by cases k <;> kernel_rfl)⟩,
   ⟨(fun s => by cases s; all_goals (dsimp only [Lsp.sA]; exact j6)), (fun s t => by cases s <;> cases t <;> kernel_rfl)⟩,
   ⟨gU KX G, gU KX G, gU KX G, gU KX G, gU KX G, gU KX G, gU KX G, Hq (by kernel_rfl), HB (by decide)⟩,
   gU KX G, gU KX G, (by decide), (by k_is), aV KX G, aV KX G, eM KX G aO,
   ⟨eM KX G aO, eM KX G aO, eM KX G aO, eM KX G aO, eM KX G aO⟩,
   ⟨aV KX G, aV KX G, aV KX G, aV KX G, aV KX G, aV KX G, aV KX G, aV KX G, aV KX G, aV KX G, aV KX G, aV KX G, aV KX G, aV KX G, aV KX G, aV KX G, hL, hA, hI⟩,
   ⟨aV KX G, aV KX G, aV KX G, aV KX G, aV KX G, eM KX G aO, eM KX G aO, aV KX G, aV KX G, aV KX G, aV KX G, aV KX G, aV KX G, aV KX G, eM KX G aO, eM KX G aO, hL, hA, hT⟩,
   ⟨aV KX G, aV KX G, aV KX G, aV KX G, eM KX G aO, eM KX G aO, mg_of KX G (by k_is), DS, hL, hS, hX, hO, hI, j6, j6, by kernel_rfl, by kernel_rfl, mg_of KX G (by k_is), eO KX G (aS cW)⟩,
   ⟨mg_of KX G (by k_is), KL (by k_is) Gd NY (Nat.le_of_ble_eq_true rfl) rfl MD (by kernel_rfl) (by decide), (all_cons aO (all_cons aO (all_cons aO (all_cons aO (all_cons aO (all_cons aO (all_cons aO (all_cons aO (all_cons aO (all_cons aO all_nil)))))))))), rfl, JQ ⟨342, 343, 270, rfl, rfl, aO, mg_of KX G (n := "plus") (by k_is)⟩ ⟨344, 345, 277, rfl, rfl, aO, mg_of KX G (n := "minus") (by k_is)⟩ ⟨346, 347, 284, rfl, rfl, aO, mg_of KX G (n := "times") (by k_is)⟩ ⟨348, 349, 291, rfl, rfl, aO, mg_of KX G (n := "less") (by k_is)⟩ ⟨350, 351, 298, rfl, rfl, aO, mg_of KX G (n := "equal") (by k_is)⟩ ⟨352, 353, 305, rfl, rfl, aO, mg_of KX G (n := "cons") (by k_is)⟩ ⟨354, 355, 319, rfl, rfl, aO, mg_of KX G (n := "car") (by k_is)⟩ ⟨356, 357, 326, rfl, rfl, aO, mg_of KX G (n := "cdr") (by k_is)⟩ ⟨358, 359, 333, rfl, rfl, aO, mg_of KX G (n := "atom") (by k_is)⟩ ⟨360, 361, 340, rfl, rfl, aO, mg_of KX G (n := "eq") (by k_is)⟩⟩,
   ⟨mg_of KX G (by k_is), KR (by k_is) O8 (by kernel_rfl) (by decide), Rr ⟨950, 892, rfl, aO, mg_of KX G (n := "answer_to_read") (by k_is)⟩ ⟨951, 899, rfl, aO, mg_of KX G (n := "answer_to_write") (by k_is)⟩ ⟨952, 906, rfl, aO, mg_of KX G (n := "answer_to_evaluate") (by k_is)⟩ ⟨953, 913, rfl, aO, mg_of KX G (n := "answer_to_cons") (by k_is)⟩ ⟨954, 920, rfl, aO, mg_of KX G (n := "answer_to_car") (by k_is)⟩ ⟨955, 927, rfl, aO, mg_of KX G (n := "answer_to_cdr") (by k_is)⟩ ⟨956, 941, rfl, aO, mg_of KX G (n := "answer_to_kind") (by k_is)⟩ ⟨957, 948, rfl, aO, mg_of KX G (n := "answer_to_same") (by k_is)⟩⟩⟩
 case S =>
  intro K H xs a hO hwi hask hx
  cases hx with
  | cons h1 h2 =>
   cases h2
   cases h1 with
   | lst hs ha =>
    have e := L2.zK a.1 _ ha
    subst e
    exact ⟨_, a.1, rfl, hs, hask, fun g H' _ hp => .lst (L2.eu.of hp) (L2.zT _)⟩
end
