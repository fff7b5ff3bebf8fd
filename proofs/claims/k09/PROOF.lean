import PyProof.Rows.All
import Wide.All
import OpenK.AllK
import Wide.FinOn
import HandS.ForMost
import HandS.Flow
import HandS.Style
import HandS.Rev
import HandS.FStr
import HandS.IsInst
import HandS.CallLocal
import HandS.AnyAll
import HandS.WrittenGet
import HandS.ListItems
import HandS.SetKeys
import HandS.Evl
import HandS.ForExc
import HandS.Small
import HandS.RaiseMore
import HandS.ExcIs
import HandS.Conv
import HandS.WordsDict
import HandS.Star
import HandS.StrMore
import HandS.WideBits
import HandS.Text
import KE.KIntText
import HandS.RevTup
import KE.KExcSuper
import KE.KExcIs
import HandS.ExcInit
import HandS.ExcField
import HandS.Nested
import HandS.Replace
import HandS.New
import HandS.TupAny
import HandS.Zip
import HandS.Ends
import PySem.Challenge.RW_sharenet_k09_linking
set_option Elab.async false
set_option linter.all false
set_option maxRecDepth 100000
namespace Wl
open PySem PySem.Spec PyProof.Rows L2
/-! ## values with tuples (and lists that nobody writes any more) as trees -/
inductive W where
  | non | bl (b : Bool) | int (i : Int) | str (s : List Nat) | tup (ws : List W) | lst (ws : List W) | scr (ws : List W)
  | dic (kws : List (L2.Key × W)) | ref (a : Addr) | ty (n : String)
def mkS (l : List Nat) : Str := ⟨l.toArray⟩
/-- what is owned: it may be written -/
inductive OW where
  | lst (ws : List W) | dic (kws : List (L2.Key × W)) | ins (C : Addr) (fs : List (Str × W)) | raw (u : HO)
abbrev HW := Addr → Option OW
def updW (h : HW) (a : Addr) (o : OW) : HW := fun b => if b = a then some o else h b
theorem updW_same {h : HW} {a : Addr} {o : OW} : updW h a o a = some o := if_pos rfl
theorem updW_ne {h : HW} {a b : Addr} {o : OW} (e : b ≠ a) : updW h a o b = h b := if_neg e
theorem updW_upd {h : HW} {a : Addr} {o u : OW} : updW (updW h a o) a u = updW h a u := by
  funext b; unfold updW; split <;> rfl
def delW (h : HW) (a : Addr) : HW := fun b => if b = a then none else h b
theorem delW_same {h : HW} {a : Addr} : delW h a a = none := if_pos rfl
theorem delW_ne {h : HW} {a b : Addr} (e : b ≠ a) : delW h a b = h b := if_neg e
def Sub (h h' : HW) : Prop := ∀ a o, h a = some o → h' a = some o
theorem Sub.refl (h : HW) : Sub h h := fun _ _ e => e
theorem Sub.trans {h h1 h2 : HW} (a : Sub h h1) (b : Sub h1 h2) : Sub h h2 := fun x o e => b x o (a x o e)
theorem Sub.new {h : HW} {p : Addr} {o : OW} (e : h p = none) : Sub h (updW h p o) := fun a u q => by
  rw [updW_ne (fun z => by rw [z, e] at q; cases q)]; exact q
theorem Sub.none {h h' : HW} {a : Addr} (s : Sub h h') (e : h' a = none) : h a = none := by
  cases q : h a with
  | none => rfl
  | some o => rw [s a o q] at e; cases e
/-- an object that is not owned stays as it is -/
def ST (H : Hp) (h : HW) (H' : Hp) (h' : HW) : Prop := ∀ a o, H a = some o → h a = none → H' a = some o ∧ h' a = none
theorem ST.refl (H : Hp) (h : HW) : ST H h H h := fun _ _ a b => ⟨a, b⟩
theorem ST.trans {H H1 H2 : Hp} {h h1 h2 : HW} (a : ST H h H1 h1) (b : ST H1 h1 H2 h2) : ST H h H2 h2 := fun x o e n => b x o (a x o e n).1 (a x o e n).2
theorem ST.drop {H : Hp} {h h0 : HW} (s : Sub h0 h) : ST H h H h0 := fun x o e n => ⟨e, s.none n⟩
/-- a list, a tuple that stays -/
def FzL (H : Hp) (h : HW) (a : Addr) (vs : List V) : Prop := H a = some (.lst vs) ∧ h a = none
def FzS (K : PySem.W.Frag) (H : Hp) (h : HW) (a : Addr) (vs : List V) : Prop :=
  ((∃ o, H a = some (.frz o (.lst vs))) ∧ h a = none) ∨
    ∃ (o : Obj) (its : Array Value) (n : Nat), K.lookup a = some o ∧ o.cls = .type "list" ∧ o.dict = none ∧ o.data = .seq its n ∧ its.size ≤ sizeLine ∧ Vals vs its.toList
def FzT (K : PySem.W.Frag) (H : Hp) (h : HW) (a : Addr) (vs : List V) : Prop :=
  (Rd H a (.tup vs) ∧ h a = none) ∨
    ∃ (o : Obj) (its : Array Value) (n : Nat), K.lookup a = some o ∧ o.cls = .type "tuple" ∧ o.data = .seq its n ∧ its.size ≤ sizeLine ∧ Vals vs its.toList
def FzD (H : Hp) (h : HW) (a : Addr) (kvs : List (L2.Key × V)) : Prop := H a = some (.dK kvs) ∧ h a = none
section
variable {K : PySem.W.Frag} {H H' : Hp} {h h' : HW} {a : Addr} {vs : List V}
theorem FzL.mono (x : FzL H h a vs) (s : ST H h H' h') : FzL H' h' a vs := s a _ x.1 x.2
theorem FzD.mono {kvs : List (L2.Key × V)} (x : FzD H h a kvs) (s : ST H h H' h') : FzD H' h' a kvs := s a _ x.1 x.2
theorem FzS.mono (x : FzS K H h a vs) (s : ST H h H' h') : FzS K H' h' a vs := by
  rcases x with ⟨⟨o, e⟩, n⟩ | x
  · exact .inl ⟨⟨o, (s a _ e n).1⟩, (s a _ e n).2⟩
  · exact .inr x
theorem FzT.mono (x : FzT K H h a vs) (s : ST H h H' h') : FzT K H' h' a vs := by
  rcases x with ⟨e | ⟨o, e⟩, n⟩ | x
  · exact .inl ⟨.inl (s a _ e n).1, (s a _ e n).2⟩
  · exact .inl ⟨.inr ⟨o, (s a _ e n).1⟩, (s a _ e n).2⟩
  · exact .inr x
theorem FzL.sq (x : FzL H h a vs) : SqL K H a vs := .inl (.inl x.1)
theorem FzS.sq (x : FzS K H h a vs) : SqL K H a vs := by
  rcases x with ⟨⟨o, e⟩, _⟩ | x
  · exact .inl (.inr ⟨o, e⟩)
  · exact .inr x
theorem FzT.sq (x : FzT K H h a vs) : SqT K H a vs := by
  rcases x with ⟨e, _⟩ | x
  · exact .inl e
  · exact .inr x
end
/-! ## what a value stands for -/
mutual
inductive RW (K : PySem.W.Frag) (H : Hp) (h : HW) : V → W → Prop
  | non : RW K H h .non .non
  | bl (b : Bool) : RW K H h (.bl b) (.bl b)
  | int (i : Int) : RW K H h (.int i) (.int i)
  | str (s : List Nat) : RW K H h (.str (mkS s)) (.str s)
  | ty (n : String) : RW K H h (.ty n) (.ty n)
  | ref (a : Addr) : RW K H h (.ref a) (.ref a)
  | tup {a : Addr} {vs : List V} {ws : List W} (f : FzT K H h a vs) (r : RWs K H h vs ws) : RW K H h (.ref a) (.tup ws)
  | lst {a : Addr} {vs : List V} {ws : List W} (f : FzL H h a vs) (r : RWs K H h vs ws) : RW K H h (.ref a) (.lst ws)
  | scr {a : Addr} {vs : List V} {ws : List W} (f : FzS K H h a vs) (r : RWs K H h vs ws) : RW K H h (.ref a) (.scr ws)
  | dic {a : Addr} {kvs : List (L2.Key × V)} {kws : List (L2.Key × W)} (f : FzD H h a kvs) (r : RKs K H h kvs kws) : RW K H h (.ref a) (.dic kws)
inductive RWs (K : PySem.W.Frag) (H : Hp) (h : HW) : List V → List W → Prop
  | nil : RWs K H h [] []
  | cons {v : V} {w : W} {vs : List V} {ws : List W} (r : RW K H h v w) (t : RWs K H h vs ws) : RWs K H h (v :: vs) (w :: ws)
inductive RKs (K : PySem.W.Frag) (H : Hp) (h : HW) : List (L2.Key × V) → List (L2.Key × W) → Prop
  | nil : RKs K H h [] []
  | cons {k : L2.Key} {v : V} {w : W} {vs : List (L2.Key × V)} {ws : List (L2.Key × W)} (r : RW K H h v w) (t : RKs K H h vs ws) : RKs K H h ((k, v) :: vs) ((k, w) :: ws)
end
section
variable {K : PySem.W.Frag} {H H' : Hp} {h h' : HW}
mutual
theorem RW.mono (s : ST H h H' h') : ∀ {v : V} {w : W}, RW K H h v w → RW K H' h' v w
  | _, _, .non => .non
  | _, _, .bl b => .bl b
  | _, _, .int i => .int i
  | _, _, .str x => .str x
  | _, _, .ty n => .ty n
  | _, _, .ref a => .ref a
  | _, _, .tup f r => .tup (f.mono s) (RWs.mono s r)
  | _, _, .lst f r => .lst (f.mono s) (RWs.mono s r)
  | _, _, .scr f r => .scr (f.mono s) (RWs.mono s r)
  | _, _, .dic f r => .dic (f.mono s) (RKs.mono s r)
theorem RWs.mono (s : ST H h H' h') : ∀ {vs : List V} {ws : List W}, RWs K H h vs ws → RWs K H' h' vs ws
  | _, _, .nil => .nil
  | _, _, .cons r t => .cons (RW.mono s r) (RWs.mono s t)
theorem RKs.mono (s : ST H h H' h') : ∀ {vs : List (L2.Key × V)} {ws : List (L2.Key × W)}, RKs K H h vs ws → RKs K H' h' vs ws
  | _, _, .nil => .nil
  | _, _, .cons r t => .cons (RW.mono s r) (RKs.mono s t)
end
theorem RWs.length : ∀ {vs : List V} {ws : List W}, RWs K H h vs ws → vs.length = ws.length
  | _, _, .nil => rfl
  | _, _, .cons _ t => congrArg (· + 1) (RWs.length t)
theorem RWs.get : ∀ {vs : List V} {ws : List W} {i : Nat} {w : W}, RWs K H h vs ws → ws[i]? = some w → ∃ v, vs[i]? = some v ∧ RW K H h v w
  | _, _, _, _, .nil, e => by simp at e
  | _, _, 0, _, .cons r _, e => by simp at e; subst e; exact ⟨_, rfl, r⟩
  | _, _, i + 1, w, .cons _ t, e => by
    obtain ⟨v, h1, h2⟩ := RWs.get (i := i) (w := w) t (by simpa using e)
    exact ⟨v, by simpa using h1, h2⟩
theorem RWs.getv : ∀ {vs : List V} {ws : List W} {i : Nat} {v : V}, RWs K H h vs ws → vs[i]? = some v → ∃ w, ws[i]? = some w ∧ RW K H h v w
  | _, _, _, _, .nil, e => by simp at e
  | _, _, 0, _, .cons r _, e => by simp at e; subst e; exact ⟨_, rfl, r⟩
  | _, _, i + 1, w, .cons _ t, e => by
    obtain ⟨v, h1, h2⟩ := RWs.getv (i := i) (v := w) t (by simpa using e)
    exact ⟨v, by simpa using h1, h2⟩
theorem RWs.append : ∀ {vs us : List V} {ws xs : List W}, RWs K H h vs ws → RWs K H h us xs → RWs K H h (vs ++ us) (ws ++ xs)
  | _, _, _, _, .nil, s => s
  | _, _, _, _, .cons r t, s => .cons r (RWs.append t s)
theorem RWs.drop : ∀ {vs : List V} {ws : List W} (n : Nat), RWs K H h vs ws → RWs K H h (vs.drop n) (ws.drop n)
  | _, _, 0, r => r
  | _, _, _ + 1, .nil => .nil
  | _, _, n + 1, .cons _ t => RWs.drop n t
theorem RWs.take : ∀ {vs : List V} {ws : List W} (n : Nat), RWs K H h vs ws → RWs K H h (vs.take n) (ws.take n)
  | _, _, 0, _ => .nil
  | _, _, _ + 1, .nil => .nil
  | _, _, n + 1, .cons r t => .cons r (RWs.take n t)
theorem RWs.set {v : V} {w : W} (r : RW K H h v w) : ∀ {vs : List V} {ws : List W} (i : Nat), RWs K H h vs ws → RWs K H h (vs.set i v) (ws.set i w)
  | _, _, _, .nil => .nil
  | _, _, 0, .cons _ t => .cons r t
  | _, _, i + 1, .cons q t => .cons q (RWs.set r i t)
theorem RWs.reverse : ∀ {vs : List V} {ws : List W}, RWs K H h vs ws → RWs K H h vs.reverse ws.reverse
  | _, _, .nil => .nil
  | _, _, .cons r t => by rw [List.reverse_cons, List.reverse_cons]; exact (RWs.reverse t).append (.cons r .nil)
theorem RWs.dropLast {vs : List V} {ws : List W} (t : RWs K H h vs ws) : RWs K H h vs.dropLast ws.dropLast := by
  rw [List.dropLast_eq_take, List.dropLast_eq_take, t.length]; exact t.take _
end
/-! ## the owned objects -/
inductive RFs (K : PySem.W.Frag) (H : Hp) (h : HW) : List (Str × V) → List (Str × W) → Prop
  | nil : RFs K H h [] []
  | cons {f : Str} {v : V} {w : W} {vs : List (Str × V)} {ws : List (Str × W)} (r : RW K H h v w) (t : RFs K H h vs ws) : RFs K H h ((f, v) :: vs) ((f, w) :: ws)
theorem RFs.mono {K : PySem.W.Frag} {H H' : Hp} {h h' : HW} (s : ST H h H' h') : ∀ {vs : List (Str × V)} {ws : List (Str × W)}, RFs K H h vs ws → RFs K H' h' vs ws
  | _, _, .nil => .nil
  | _, _, .cons r t => .cons (r.mono s) (RFs.mono s t)
def OR (K : PySem.W.Frag) (H : Hp) (h : HW) (a : Addr) : OW → Prop
  | .lst ws => ∃ vs, H a = some (.lst vs) ∧ RWs K H h vs ws
  | .dic kws => ∃ kvs, H a = some (.dK kvs) ∧ RKs K H h kvs kws
  | .ins C fs => ∃ dx gs, H a = some (.ins C dx gs) ∧ RFs K H h gs fs
  | .raw u => H a = some u
def HR (K : PySem.W.Frag) (H : Hp) (h : HW) : Prop := ∀ a o, h a = some o → OR K H h a o
section
variable {K : PySem.W.Frag} {H H' : Hp} {h h' : HW} {a p : Addr}
theorem HR.fresh (x : HR K H h) (e : H p = none) : h p = none := by
  cases q : h p with
  | none => rfl
  | some o =>
    have z := x p o q
    cases o with
    | lst ws => obtain ⟨_, z, _⟩ := z; rw [e] at z; cases z
    | dic ws => obtain ⟨_, z, _⟩ := z; rw [e] at z; cases z
    | ins C fs => obtain ⟨_, _, z, _⟩ := z; rw [e] at z; cases z
    | raw u => have z : H p = some u := z; rw [e] at z; cases z
/-- another heap: what is owned is as it was -/
theorem HR.move {H' : Hp} {h' : HW} (st : ST H h H' h') {a : Addr} {o : OW} (z : OR K H h a o) (k : ∀ u, H a = some u → H' a = some u) : OR K H' h' a o := by
  cases o with
  | lst ws => obtain ⟨vs, z, r⟩ := z; exact ⟨vs, k _ z, r.mono st⟩
  | dic ws => obtain ⟨vs, z, r⟩ := z; exact ⟨vs, k _ z, r.mono st⟩
  | ins C fs => obtain ⟨dx, gs, z, r⟩ := z; exact ⟨dx, gs, k _ z, r.mono st⟩
  | raw u => exact k _ z
theorem HR.drop {h0 : HW} (x : HR K H h) (s : Sub h0 h) : HR K H h0 := fun a o e => HR.move (.drop s) (x a o (s a o e)) fun _ q => q
/-- a new object that is not owned -/
theorem ST.newF (e : H p = none) (o : HO) : ST H h (upd H p o) h := fun b u q n => ⟨by rw [upd_ne (ne_of_none q e)]; exact q, n⟩
theorem HR.newF (x : HR K H h) (e : H p = none) (o : HO) : HR K (upd H p o) h := fun b u q => HR.move (.newF e o) (x b u q) fun w z => by rw [upd_ne (ne_of_none z e)]; exact z
/-- a new object that is owned -/
theorem ST.newO (e : H p = none) (o : HO) (u : OW) : ST H h (upd H p o) (updW h p u) := fun b v q n =>
  ⟨by rw [upd_ne (ne_of_none q e)]; exact q, by rw [updW_ne (ne_of_none q e)]; exact n⟩
theorem HR.newO (x : HR K H h) (e : H p = none) {o : HO} {u : OW} (new : OR K (upd H p o) (updW h p u) p u) : HR K (upd H p o) (updW h p u) := fun b v q => by
  by_cases hb : b = p
  · subst hb; rw [updW_same] at q; cases q; exact new
  · rw [updW_ne hb] at q
    exact HR.move (.newO e o u) (x b v q) fun w z => by rw [upd_ne hb]; exact z
/-- an owned object is written -/
theorem ST.mut {u0 : OW} (e : h a = some u0) (o : HO) (u : OW) : ST H h (upd H a o) (updW h a u) := fun b v q n => by
  have hb : b ≠ a := fun z => by rw [z, e] at n; cases n
  exact ⟨by rw [upd_ne hb]; exact q, by rw [updW_ne hb]; exact n⟩
theorem HR.mut (x : HR K H h) {u0 : OW} (e : h a = some u0) {o : HO} {u : OW} (new : OR K (upd H a o) (updW h a u) a u) : HR K (upd H a o) (updW h a u) := fun b v q => by
  by_cases hb : b = a
  · subst hb; rw [updW_same] at q; cases q; exact new
  · rw [updW_ne hb] at q
    exact HR.move (.mut e o u) (x b v q) fun w z => by rw [upd_ne hb]; exact z
theorem ST.newI {x dx C : Addr} {fs : List (Str × V)} (e : H x = none) (ed : H dx = none) (u : OW) : ST H h (upd (upd H dx (.own x)) x (.ins C dx fs)) (updW h x u) := fun b v q n =>
  ⟨by rw [upd_ne (ne_of_none q e), upd_ne (ne_of_none q ed)]; exact q, by rw [updW_ne (ne_of_none q e)]; exact n⟩
theorem HR.newI {C dx : Addr} {x : Addr} (r : HR K H h) (e : H x = none) (ed : H dx = none) : HR K (upd (upd H dx (.own x)) x (.ins C dx [])) (updW h x (.ins C [])) := fun b v q => by
  by_cases hb : b = x
  · subst hb; rw [updW_same] at q; cases q; exact ⟨dx, [], upd_same, .nil⟩
  · rw [updW_ne hb] at q
    exact HR.move (.newI e ed _) (r b v q) fun w z => by rw [upd_ne hb, upd_ne (ne_of_none z ed)]; exact z
end
/-! ## slots -/
abbrev SlW := List (Option W)
def sl : SlW → Nat → Option W
  | [], _ => none
  | o :: _, 0 => o
  | _ :: r, n + 1 => sl r n
inductive SR (K : PySem.W.Frag) (H : Hp) (h : HW) : L2.St → SlW → Prop
  | nil : SR K H h [] []
  | cons {o : Option V} {p : Option W} {σ : L2.St} {ρ : SlW} (r : ∀ w, p = some w → ∃ v, o = some v ∧ RW K H h v w) (t : SR K H h σ ρ) : SR K H h (o :: σ) (p :: ρ)
section
variable {K : PySem.W.Frag} {H H' : Hp} {h h' : HW}
theorem SR.mono (s : ST H h H' h') : ∀ {σ : L2.St} {ρ : SlW}, SR K H h σ ρ → SR K H' h' σ ρ
  | _, _, .nil => .nil
  | _, _, .cons r t => .cons (fun w e => let ⟨v, a, b⟩ := r w e; ⟨v, a, b.mono s⟩) (SR.mono s t)
theorem SR.get : ∀ {σ : L2.St} {ρ : SlW} {i : Nat} {w : W}, SR K H h σ ρ → sl ρ i = some w → ∃ v, σ[i]? = some (some v) ∧ RW K H h v w
  | _, _, _, _, .nil, e => by simp [sl] at e
  | _, _, 0, w, .cons r t, e => by
    obtain ⟨v, a, b⟩ := r w e
    exact ⟨v, by rw [a]; rfl, b⟩
  | _, _, i + 1, w, .cons r t, e => by
    obtain ⟨v, a, b⟩ := SR.get (i := i) (w := w) t e
    exact ⟨v, by simpa using a, b⟩
theorem SR.set {v : V} {w : W} (q : RW K H h v w) : ∀ {σ : L2.St} {ρ : SlW} (i : Nat), SR K H h σ ρ → SR K H h (σ.set i (some v)) (ρ.set i (some w))
  | _, _, _, .nil => .nil
  | _, _, 0, .cons _ t => .cons (fun w' e => by cases e; exact ⟨v, rfl, q⟩) t
  | _, _, i + 1, .cons r t => .cons r (SR.set q i t)
theorem SR.setN : ∀ {σ : L2.St} {ρ : SlW} (i : Nat), SR K H h σ ρ → SR K H h (σ.set i none) (ρ.set i none)
  | _, _, _, .nil => .nil
  | _, _, 0, .cons _ t => .cons (fun w' e => by cases e) t
  | _, _, i + 1, .cons r t => .cons r (SR.setN i t)
theorem SR.length : ∀ {σ : L2.St} {ρ : SlW}, SR K H h σ ρ → σ.length = ρ.length
  | _, _, .nil => rfl
  | _, _, .cons _ t => congrArg (· + 1) (SR.length t)
/-- forgetting slots -/
inductive SubS : SlW → SlW → Prop
  | nil : SubS [] []
  | cons {o p : Option W} {ρ ρ' : SlW} (r : ∀ w, o = some w → p = some w) (t : SubS ρ ρ') : SubS (o :: ρ) (p :: ρ')
theorem SubS.refl : ∀ ρ : SlW, SubS ρ ρ
  | [] => .nil
  | o :: ρ => .cons (fun _ e => e) (SubS.refl ρ)
theorem SubS.no {p : Option W} {ρ ρ' : SlW} (t : SubS ρ ρ') : SubS (none :: ρ) (p :: ρ') := .cons (fun _ e => by cases e) t
theorem SubS.same {p : Option W} {ρ ρ' : SlW} (t : SubS ρ ρ') : SubS (p :: ρ) (p :: ρ') := .cons (fun _ e => e) t
theorem SR.sub : ∀ {σ : L2.St} {ρ ρ' : SlW}, SubS ρ ρ' → SR K H h σ ρ' → SR K H h σ ρ
  | _, _, _, .nil, .nil => .nil
  | _, _, _, .cons r t, .cons q u => .cons (fun w e => q w (r w e)) (SR.sub t u)
end
/-- the names' values at the entry -/
def startW (n : Nat) (ws : List W) : SlW := ws.map some ++ List.replicate (n - ws.length) none
theorem SR.start {K : PySem.W.Frag} {H : Hp} {h : HW} {N : List Str} {vs : List V} {ws : List W} (r : RWs K H h vs ws) : SR K H h (start N vs) (startW N.length ws) := by
  unfold L2.start startW
  rw [r.length]
  generalize N.length - ws.length = n
  have e : ∀ n : Nat, SR K H h (List.replicate n (none : Option V)) (List.replicate n (none : Option W)) := fun n => by
    induction n with
    | zero => exact .nil
    | succ n ih => exact .cons (fun _ e => by cases e) ih
  have f : ∀ {vs : List V} {ws : List W}, RWs K H h vs ws → SR K H h (vs.map some ++ List.replicate n none) (ws.map some ++ List.replicate n none) := fun {vs ws} r => by
    induction vs generalizing ws with
    | nil => cases r; exact e n
    | cons v vs ih =>
      cases r with
      | cons r t => exact .cons (fun w e => by cases e; exact ⟨v, rfl, r⟩) (ih t)
  exact f r
end Wl

set_option Elab.async false
set_option linter.all false
set_option maxRecDepth 100000
namespace Wl
open PySem PySem.Spec PyProof.Rows L2
theorem _root_.L2.PE.imp {X : Cx} {e : Expr} {t t' : TE} (h : PE X e t) (i : ∀ σ H Q, t' σ H Q → t σ H Q) : PE X e t' := ⟨fun p s σ H Q I q => h.run p s σ H Q I (i _ _ _ q)⟩
theorem _root_.L2.PT.imp {X : Cx} {e : Expr} {t t' : TT} (h : PT X e t) (i : ∀ σ H Q, t' σ H Q → t σ H Q) : PT X e t' := ⟨fun p s σ H Q I q => h.run p s σ H Q I (i _ _ _ q)⟩
theorem _root_.L2.PW.imp {X : Cx} {e : Expr} {t t' : TT} (h : PW X e t) (i : ∀ σ H Q, t' σ H Q → t σ H Q) : PW X e t' := ⟨fun wh p s σ H Q I q => h.run wh p s σ H Q I (i _ _ _ q)⟩
theorem _root_.L2.PA.imp {X : Cx} {e : List Expr} {t t' : TA} (h : PA X e t) (i : ∀ σ H Q, t' σ H Q → t σ H Q) : PA X e t' := ⟨fun po p s σ H Q I q => h.run po p s σ H Q I (i _ _ _ q)⟩
theorem _root_.L2.PS.imp {X : Cx} {e : Stmt} {t t' : TS} (h : PS X e t) (i : ∀ D σ H, t' D σ H → t D σ H) : PS X e t' := ⟨fun p s σ H D I q => h.run p s σ H D I (i _ _ _ q)⟩
theorem _root_.L2.PSs.imp {X : Cx} {e : List Stmt} {t t' : TS} (h : PSs X e t) (i : ∀ D σ H, t' D σ H → t D σ H) : PSs X e t' := ⟨fun p s σ H D I q => h.run p s σ H D I (i _ _ _ q)⟩
/-! ## wishes -/
/-- what an exception brings: its class, the fields of its own dict -/
structure XW where
  C : Addr
  fs : Option (List (Str × W))
def XR (K : PySem.W.Frag) (H : Hp) (h : HW) (x : XW) (od : Option Addr) : Prop := match x.fs with
  | none => od = none
  | some fs => ∃ d gs, od = some d ∧ H d = some (.xd gs) ∧ h d = none ∧ RFs K H h gs fs
structure Lk where
  el : Hp → HW → Prop
  mono : ∀ {H h H' h'}, el H h → ST H h H' h' → el H' h'
def Lk.no : Lk := ⟨fun _ _ => True, fun _ _ => trivial⟩
/-- the wish ex stands for E -/
def Lk.of (K : PySem.W.Frag) (E : XK) (ex : XW → HW → Prop) : Lk := ⟨fun H h => ∀ x h' od H', ex x h' → ST H h H' h' → HR K H' h' → XR K H' h' x od → E (.ref x.C) od H',
  fun a s x h' od H' e st => a x h' od H' e (s.trans st)⟩
abbrev KW := W → HW → Prop
abbrev TEW := SlW → HW → KW → Prop
abbrev TTW := SlW → HW → (Bool → HW → Prop) → Prop
abbrev TAW := SlW → HW → (List W → HW → Prop) → Prop
structure EndsW where
  nx : SlW → HW → Prop
  rt : KW
  bk : SlW → HW → Prop := fun _ _ => False
  ct : SlW → HW → Prop := fun _ _ => False
@[reducible] def EndsW.wn (D : EndsW) (n : SlW → HW → Prop) : EndsW := ⟨n, D.rt, D.bk, D.ct⟩
/-- a loop's turn: what is wanted at its end, behind a break -/
@[reducible] def EndsW.lp (D : EndsW) (n b : SlW → HW → Prop) : EndsW := ⟨n, D.rt, b, n⟩
abbrev TSW := EndsW → SlW → HW → Prop
def KV (K : PySem.W.Frag) (H : Hp) (h : HW) (R : KW) (Q : VK) : Prop := ∀ w h' v H', R w h' → ST H h H' h' → HR K H' h' → RW K H' h' v w → Q v H'
def KB (K : PySem.W.Frag) (H : Hp) (h : HW) (R : Bool → HW → Prop) (Q : Bool → Hp → Prop) : Prop := ∀ b h' H', R b h' → ST H h H' h' → HR K H' h' → Q b H'
def KL (K : PySem.W.Frag) (H : Hp) (h : HW) (R : List W → HW → Prop) (Q : List V → Hp → Prop) : Prop := ∀ ws h' vs H', R ws h' → ST H h H' h' → HR K H' h' → RWs K H' h' vs ws → Q vs H'
def KN (K : PySem.W.Frag) (H : Hp) (h : HW) (R : SlW → HW → Prop) (Q : L2.St → Hp → Prop) : Prop := ∀ ρ h' σ H', R ρ h' → ST H h H' h' → HR K H' h' → SR K H' h' σ ρ → Q σ H'
section
variable {K : PySem.W.Frag} {H H' : Hp} {h h' : HW}
theorem KV.mono {R : KW} {Q : VK} (k : KV K H h R Q) (s : ST H h H' h') : KV K H' h' R Q := fun w h'' v H'' r st => k w h'' v H'' r (s.trans st)
theorem KB.mono {R : Bool → HW → Prop} {Q : Bool → Hp → Prop} (k : KB K H h R Q) (s : ST H h H' h') : KB K H' h' R Q := fun w h'' H'' r st => k w h'' H'' r (s.trans st)
theorem KL.mono {R : List W → HW → Prop} {Q : List V → Hp → Prop} (k : KL K H h R Q) (s : ST H h H' h') : KL K H' h' R Q := fun w h'' v H'' r st => k w h'' v H'' r (s.trans st)
theorem KN.mono {R : SlW → HW → Prop} {Q : L2.St → Hp → Prop} (k : KN K H h R Q) (s : ST H h H' h') : KN K H' h' R Q := fun w h'' v H'' r st => k w h'' v H'' r (s.trans st)
end
/-- where one stands -/
structure Sta (K : PySem.W.Frag) (L : Lk) (σ : L2.St) (H : Hp) (ρ : SlW) (h : HW) : Prop where
  sr : SR K H h σ ρ
  hr : HR K H h
  el : L.el H h
theorem Sta.to {K : PySem.W.Frag} {L : Lk} {σ : L2.St} {H H' : Hp} {ρ : SlW} {h h' : HW} (x : Sta K L σ H ρ h) (s : ST H h H' h') (r : HR K H' h') : Sta K L σ H' ρ h' := ⟨x.sr.mono s, r, L.mono x.el s⟩
def lE (K : PySem.W.Frag) (L : Lk) (t : TEW) : TE := fun σ H Q => ∃ ρ h R, Sta K L σ H ρ h ∧ t ρ h R ∧ KV K H h R Q
def lT (K : PySem.W.Frag) (L : Lk) (t : TTW) : TT := fun σ H Q => ∃ ρ h R, Sta K L σ H ρ h ∧ t ρ h R ∧ KB K H h R Q
def lA (K : PySem.W.Frag) (L : Lk) (t : TAW) : TA := fun σ H Q => ∃ ρ h R, Sta K L σ H ρ h ∧ t ρ h R ∧ KL K H h R Q
structure KD (K : PySem.W.Frag) (H : Hp) (h : HW) (DW : EndsW) (D : Ends) : Prop where
  nx : KN K H h DW.nx D.nx
  rt : KV K H h DW.rt D.rt
  bk : KN K H h DW.bk D.bk
  ct : KN K H h DW.ct D.ct
theorem KD.mono {K : PySem.W.Frag} {H H' : Hp} {h h' : HW} {DW : EndsW} {D : Ends} (k : KD K H h DW D) (s : ST H h H' h') : KD K H' h' DW D := ⟨k.nx.mono s, k.rt.mono s, k.bk.mono s, k.ct.mono s⟩
def lS (K : PySem.W.Frag) (L : Lk) (t : TSW) : TS := fun D σ H => ∃ ρ h DW, Sta K L σ H ρ h ∧ t DW ρ h ∧ KD K H h DW D

abbrev WE (X : Cx) (L : Lk) (e : Expr) (t : TEW) : Prop := PE X e (lE X.K L t)
abbrev WT (X : Cx) (L : Lk) (e : Expr) (t : TTW) : Prop := PT X e (lT X.K L t)
abbrev WA (X : Cx) (L : Lk) (es : List Expr) (t : TAW) : Prop := PA X es (lA X.K L t)
abbrev WS (X : Cx) (L : Lk) (s : Stmt) (t : TSW) : Prop := PS X s (lS X.K L t)
abbrev WSs (X : Cx) (L : Lk) (s : List Stmt) (t : TSW) : Prop := PSs X s (lS X.K L t)

/-! ## rules by values -/
abbrev RW2 := W → W → HW → KW → Prop
def Lf2 (K : PySem.W.Frag) (r : R2) (rw : RW2) : Prop := ∀ x y H Q w1 w2 h R, RW K H h x w1 → RW K H h y w2 → HR K H h → rw w1 w2 h R → KV K H h R Q → r x y H Q
def Lf1 (K : PySem.W.Frag) (r : V → Hp → VK → Prop) (rw : W → HW → KW → Prop) : Prop := ∀ x H Q w h R, RW K H h x w → HR K H h → rw w h R → KV K H h R Q → r x H Q
def LfC (K : PySem.W.Frag) (r : List V → Hp → VK → Prop) (rw : List W → HW → KW → Prop) : Prop := ∀ xs H Q ws h R, RWs K H h xs ws → HR K H h → rw ws h R → KV K H h R Q → r xs H Q
def LfM (K : PySem.W.Frag) (r : V → List V → Hp → VK → Prop) (rw : W → List W → HW → KW → Prop) : Prop := ∀ x xs H Q w ws h R, RW K H h x w → RWs K H h xs ws → HR K H h → rw w ws h R → KV K H h R Q → r x xs H Q
/-- a value and nothing else -/
theorem KV.go {K : PySem.W.Frag} {H : Hp} {h : HW} {R : KW} {Q : VK} (k : KV K H h R Q) (hr : HR K H h) {v : V} {w : W} (q : R w h) (r : RW K H h v w) : Q v H := k w h v H q (.refl _ _) hr r

/-! ## names, constants -/
section
variable {X : Cx} {L : Lk} {pos : Pos}
def oVar (i : Nat) : TEW := fun ρ h R => match sl ρ i with | some w => R w h | none => False
def oC (w : W) : TEW := fun _ h R => R w h
theorem w_var (i : Nat) {x : Str} (hN : X.N[i]? = some x := by rfl) (hv : Vis X.env.scope x := by first | exact Or.inl rfl | exact Or.inr (Or.inl rfl) | exact Or.inr (Or.inr rfl)) (hd : (x == ("__debug__" : Str)) = false := by decide)
    (hcd : (x == ("__classdict__" : Str)) = false := by decide) : WE X L (.Name x pos) (oVar i) := (pe_var hN hv hd hcd).imp fun σ H Q ⟨ρ, h, R, S, t, k⟩ => by
  unfold oVar at t
  split at t
  · rename_i w e
    obtain ⟨v, e1, r⟩ := S.sr.get e
    exact ⟨v, e1, k.go S.hr t r⟩
  · exact t.elim
theorem w_const {e : Expr} {v : V} {w : W} (p : PE X e (tC v)) (r : ∀ H h, HR X.K H h → RW X.K H h v w) : WE X L e (oC w) := p.imp fun σ H Q ⟨ρ, h, R, S, t, k⟩ => k.go S.hr t (r _ _ S.hr)
theorem w_int {i j pos} : WE X L (.Constant (.int i) j pos) (oC (.int i)) := w_const pe_int fun _ _ _ => .int i
theorem w_bl {b j pos} : WE X L (.Constant (.bool b) j pos) (oC (.bl b)) := w_const pe_bl fun _ _ _ => .bl b
theorem w_non {j pos} : WE X L (.Constant .none j pos) (oC .non) := w_const pe_non fun _ _ _ => .non
theorem w_str {x j pos} (l : List Nat) (e : x = mkS l := by rfl) : WE X L (.Constant (.str x) j pos) (oC (.str l)) := w_const pe_str fun _ _ _ => by rw [e]; exact .str l
/-- a def, a class, a method table ..: an address of the written part -/
theorem w_glob {x : Str} {a : Addr} (hg : Gl X x) (hm : X.mg x = some (.ref a)) (hd : (x == ("__debug__" : Str)) = false := by decide) : WE X L (.Name x pos) (oC (.ref a)) := w_const (pe_glob hg hm (v := .ref a) rfl hd) fun _ _ _ => .ref a
theorem w_globI {x : Str} {i : Int} (hg : Gl X x) (hm : ∃ t, X.mg x = some (.int i t)) (hd : (x == ("__debug__" : Str)) = false := by decide) : WE X L (.Name x pos) (oC (.int i)) :=
  let ⟨t, hm⟩ := hm; w_const (pe_glob hg hm (v := .int i) ⟨t, rfl⟩ hd) fun _ _ _ => .int i
theorem w_globS {x : Str} (l : List Nat) (hg : Gl X x) (hm : ∃ t, X.mg x = some (.str (mkS l) t)) (hd : (x == ("__debug__" : Str)) = false := by decide) : WE X L (.Name x pos) (oC (.str l)) :=
  let ⟨t, hm⟩ := hm; w_const (pe_glob hg hm (v := .str (mkS l)) ⟨t, rfl⟩ hd) fun _ _ _ => .str l
theorem w_bltn {x : Str} {n : String} (hg : Gl X x) (hm : X.mg x = none) (hv : bootBuiltins x = some (.type n)) (hn : x ≠ "__name__" := by decide) (hd : (x == ("__debug__" : Str)) = false := by decide) : WE X L (.Name x pos) (oC (.ty n)) := w_const (pe_bltn (v := .ty n) hg hm hv rfl hn hd) fun _ _ _ => .ty n
/-- a constant of the written part: any value that stands for w wherever -/
structure Sk (K : PySem.W.Frag) (u : Value) (w : W) : Prop where
  is : ∃ v, RelV v u ∧ ∀ H h, RW K H h v w
theorem w_globW {x : Str} {u : Value} {w : W} (hg : Gl X x) (hm : X.mg x = some u) (s : Sk X.K u w) (hd : (x == ("__debug__" : Str)) = false := by decide) : WE X L (.Name x pos) (oC w) :=
  let ⟨v, r, q⟩ := s.is; w_const (pe_glob hg hm r hd) fun H h _ => q H h

/-! ## operators -/
variable {a b c e : Expr} {es : List Expr} {ta tb tc te : TEW} {t : TAW}
def oOp (rw : RW2) (ta tb : TEW) : TEW := fun ρ h R => ta ρ h fun x h1 => tb ρ h1 fun y h2 => rw x y h2 R
def oUn (rw : W → HW → KW → Prop) (ta : TEW) : TEW := fun ρ h R => ta ρ h fun x h1 => rw x h1 R
theorem bin_imp {r : R2} {rw : RW2} (l : Lf2 X.K r rw) : ∀ σ H Q, lE X.K L (oOp rw ta tb) σ H Q → tOp r (lE X.K L ta) (lE X.K L tb) σ H Q := fun σ H Q ⟨ρ, h, R, S, t, k⟩ =>
  ⟨ρ, h, _, S, t, fun w1 h1 v1 H1 t1 s1 r1 q1 => ⟨ρ, h1, _, S.to s1 r1, t1, fun w2 h2 v2 H2 t2 s2 r2 q2 => l v1 v2 H2 Q w1 w2 h2 R (q1.mono s2) q2 r2 t2 (k.mono (s1.trans s2))⟩⟩
theorem w_op {op : Operator} {r : R2} {rw : RW2} (ho : OpR X (binaryOp op) r) (l : Lf2 X.K r rw) (ha : WE X L a ta) (hb : WE X L b tb) : WE X L (.BinOp a op b pos) (oOp rw ta tb) := (pe_op ho ha hb).imp (bin_imp l)
theorem w_un {op : UnaryOp} {r : V → Hp → VK → Prop} {rw : W → HW → KW → Prop} (ho : UnR X (unaryOp op) r) (l : Lf1 X.K r rw) (ha : WE X L a ta) : WE X L (.UnaryOp op a pos) (oUn rw ta) := (pe_un ho ha).imp fun σ H Q ⟨ρ, h, R, S, t, k⟩ =>
  ⟨ρ, h, _, S, t, fun w1 h1 v1 H1 t1 s1 r1 q1 => l v1 H1 Q w1 h1 R q1 r1 t1 (k.mono s1)⟩
theorem w_cmp {op : CmpOp} {r : R2} {rw : RW2} (ho : OpR X (compareOp op) r) (l : Lf2 X.K r rw) (ha : WE X L a ta) (hb : WE X L b tb) (hm : behindInMarks op b = false) : WE X L (.Compare a [op] [b] pos) (oOp rw ta tb) := (pe_cmpR ho ha hb hm).imp (bin_imp l)
/-- a value that is a bool, as a test -/
def oTest (te : TEW) : TTW := fun ρ h R => te ρ h fun x h1 => match x with | .bl k => R k h1 | _ => False
theorem test_imp {te : TE} {tw : TEW} (i : ∀ σ H Q, lE X.K L tw σ H Q → te σ H Q) : ∀ σ H Q, lT X.K L (oTest tw) σ H Q → (te σ H fun x H' => ∃ k, x = .bl k ∧ Q k H') := fun σ H Q ⟨ρ, h, R, S, t, k⟩ =>
  i σ H _ ⟨ρ, h, _, S, t, fun w1 h1 v1 H1 t1 s1 r1 q1 => by
    cases w1 with
    | bl b => cases q1; exact ⟨b, rfl, k b h1 H1 t1 s1 r1⟩
    | _ => exact t1.elim⟩
theorem wt_cmp {op : CmpOp} {r : R2} {rw : RW2} (ho : OpR X (compareOp op) r) (l : Lf2 X.K r rw) (ha : WE X L a ta) (hb : WE X L b tb) (hm : behindInMarks op b = false) : WT X L (.Compare a [op] [b] pos) (oTest (oOp rw ta tb)) := (pt_cmpR ho ha hb hm).imp (test_imp (bin_imp l))
theorem wt_val (ha : WE X L e te) (he : ∀ whole, isTrue e X.env whole = (do let v ← whole; standAt e.pos; holding [v] (truthy v)) := by intro _; rfl) : WT X L e (oTest te) := (pt_val ha he).imp (test_imp fun _ _ _ q => q)
/-- a op1 b op2 c -/
def oChain (r r' : RW2) (ta tb tc : TEW) : TEW := fun ρ h R => ta ρ h fun x h1 => tb ρ h1 fun y h2 => r x y h2 fun z h3 => match z with
  | .bl k => if k = true then tc ρ h3 fun w' h4 => r' y w' h4 R else R (.bl false) h3
  | _ => False
theorem chain_imp {r r' : R2} {rw rw' : RW2} (l : Lf2 X.K r rw) (l' : Lf2 X.K r' rw') : ∀ σ H Q, lE X.K L (oChain rw rw' ta tb tc) σ H Q → tChain r r' (lE X.K L ta) (lE X.K L tb) (lE X.K L tc) σ H Q := fun σ H Q ⟨ρ, h, R, S, t, k⟩ =>
  ⟨ρ, h, _, S, t, fun w1 h1 v1 H1 t1 s1 r1 q1 => ⟨ρ, h1, _, S.to s1 r1, t1, fun w2 h2 v2 H2 t2 s2 r2 q2 => l v1 v2 H2 _ w1 w2 h2 _ (q1.mono s2) q2 r2 t2 fun w3 h3 v3 H3 t3 s3 r3 q3 => by
    cases w3 with
    | bl b =>
      cases q3
      refine ⟨b, rfl, ?_⟩
      cases b with
      | true => exact ⟨ρ, h3, _, S.to (s1.trans (s2.trans s3)) r3, t3, fun w4 h4 v4 H4 t4 s4 r4 q4 => l' v2 v4 H4 Q w2 w4 h4 R (q2.mono (s3.trans s4)) q4 r4 t4 (k.mono (s1.trans (s2.trans (s3.trans s4))))⟩
      | false => exact k _ h3 _ H3 t3 (s1.trans (s2.trans s3)) r3 (.bl false)
    | _ => exact t3.elim⟩⟩
theorem w_chain {op op' : CmpOp} {r r' : R2} {rw rw' : RW2} (ho : OpR X (compareOp op) r) (l : Lf2 X.K r rw) (ho' : OpR X (compareOp op') r') (l' : Lf2 X.K r' rw') (ha : WE X L a ta) (hb : WE X L b tb) (hc : WE X L c tc)
    (hm : lastMarks [op, op'] [b, c] = false := by with_unfolding_all rfl) : WE X L (.Compare a [op, op'] [b, c] pos) (oChain rw rw' ta tb tc) := (pe_chain ho ho' ha hb hc hm).imp (chain_imp l l')
theorem wt_chain {op op' : CmpOp} {r r' : R2} {rw rw' : RW2} (ho : OpR X (compareOp op) r) (l : Lf2 X.K r rw) (ho' : OpR X (compareOp op') r') (l' : Lf2 X.K r' rw') (ha : WE X L a ta) (hb : WE X L b tb) (hc : WE X L c tc)
    (hm : lastMarks [op, op'] [b, c] = false := by with_unfolding_all rfl) : WT X L (.Compare a [op, op'] [b, c] pos) (oTest (oChain rw rw' ta tb tc)) := (pt_chain ho ho' ha hb hc hm).imp (test_imp (chain_imp l l'))
/-! ## tests -/
variable {tA tB' : TTW} {rest : List Expr}
def oAnd (t u : TTW) : TTW := fun ρ h R => t ρ h fun c h1 => if c = true then u ρ h1 R else R false h1
def oOr (t u : TTW) : TTW := fun ρ h R => t ρ h fun c h1 => if c = true then R true h1 else u ρ h1 R
def oNot (t : TTW) : TTW := fun ρ h R => t ρ h fun c h1 => R (!c) h1
abbrev WW (X : Cx) (L : Lk) (e : Expr) (t : TTW) : Prop := PW X e (lT X.K L t)
theorem ww_and1 (ha : WT X L a tA) : WW X L (.BoolOp .And [a] pos) tA := pw_and1 ha
theorem ww_or1 (ha : WT X L a tA) : WW X L (.BoolOp .Or [a] pos) tA := pw_or1 ha
theorem ww_and (ha : WT X L a tA) (hb : WW X L (.BoolOp .And (b :: rest) pos) tB') : WW X L (.BoolOp .And (a :: b :: rest) pos) (oAnd tA tB') := (pw_and ha hb).imp fun σ H Q ⟨ρ, h, R, S, t, k⟩ =>
  ⟨ρ, h, _, S, t, fun c h1 H1 t1 s1 r1 => by
    cases c with
    | true => exact ⟨ρ, h1, R, S.to s1 r1, t1, k.mono s1⟩
    | false => exact k _ h1 H1 t1 s1 r1⟩
theorem ww_or (ha : WT X L a tA) (hb : WW X L (.BoolOp .Or (b :: rest) pos) tB') : WW X L (.BoolOp .Or (a :: b :: rest) pos) (oOr tA tB') := (pw_or ha hb).imp fun σ H Q ⟨ρ, h, R, S, t, k⟩ =>
  ⟨ρ, h, _, S, t, fun c h1 H1 t1 s1 r1 => by
    cases c with
    | true => exact k _ h1 H1 t1 s1 r1
    | false => exact ⟨ρ, h1, R, S.to s1 r1, t1, k.mono s1⟩⟩
theorem wt_bool {t : TTW} (h : WW X L e t) : WT X L e t := h.pt
theorem wt_not (ha : WT X L a tA) : WT X L (.UnaryOp .Not a pos) (oNot tA) := (pt_not ha).imp fun σ H Q ⟨ρ, h, R, S, t, k⟩ => ⟨ρ, h, _, S, t, fun c h1 H1 t1 s1 r1 => k _ h1 H1 t1 s1 r1⟩
/-- and, or, not as values: all but the last are bools -/
def oAndV (ta tb : TEW) : TEW := fun ρ h R => ta ρ h fun x h1 => match x with | .bl c => if c = true then tb ρ h1 R else R (.bl false) h1 | _ => False
def oOrV (ta tb : TEW) : TEW := fun ρ h R => ta ρ h fun x h1 => match x with | .bl c => if c = true then R (.bl true) h1 else tb ρ h1 R | _ => False
def oNotV (ta : TEW) : TEW := fun ρ h R => ta ρ h fun x h1 => match x with | .bl c => R (.bl (!c)) h1 | _ => False
theorem w_one {op} (h : WE X L a ta) : WE X L (.BoolOp op [a] pos) ta := pe_one h
theorem w_and (ha : WE X L a ta) (hb : WE X L (.BoolOp .And (b :: rest) pos) tb) : WE X L (.BoolOp .And (a :: b :: rest) pos) (oAndV ta tb) := (pe_and ha hb).imp fun σ H Q ⟨ρ, h, R, S, t, k⟩ =>
  ⟨ρ, h, _, S, t, fun w1 h1 v1 H1 t1 s1 r1 q1 => by
    cases w1 with
    | bl c =>
      cases q1
      refine ⟨c, rfl, ?_⟩
      cases c with
      | true => exact ⟨ρ, h1, R, S.to s1 r1, t1, k.mono s1⟩
      | false => exact k _ h1 _ H1 t1 s1 r1 (.bl false)
    | _ => exact t1.elim⟩
theorem w_or (ha : WE X L a ta) (hb : WE X L (.BoolOp .Or (b :: rest) pos) tb) : WE X L (.BoolOp .Or (a :: b :: rest) pos) (oOrV ta tb) := (pe_or ha hb).imp fun σ H Q ⟨ρ, h, R, S, t, k⟩ =>
  ⟨ρ, h, _, S, t, fun w1 h1 v1 H1 t1 s1 r1 q1 => by
    cases w1 with
    | bl c =>
      cases q1
      refine ⟨c, rfl, ?_⟩
      cases c with
      | true => exact k _ h1 _ H1 t1 s1 r1 (.bl true)
      | false => exact ⟨ρ, h1, R, S.to s1 r1, t1, k.mono s1⟩
    | _ => exact t1.elim⟩
theorem w_not (ha : WE X L a ta) : WE X L (.UnaryOp .Not a pos) (oNotV ta) := (pe_not ha).imp fun σ H Q ⟨ρ, h, R, S, t, k⟩ =>
  ⟨ρ, h, _, S, t, fun w1 h1 v1 H1 t1 s1 r1 q1 => by
    cases w1 with
    | bl c => cases q1; exact ⟨c, rfl, k _ h1 _ H1 t1 s1 r1 (.bl _)⟩
    | _ => exact t1.elim⟩
def oIf (t : TTW) (ta tb : TEW) : TEW := fun ρ h R => t ρ h fun c h1 => if c = true then ta ρ h1 R else tb ρ h1 R
theorem w_ifExp (hc : WT X L c tA) (ha : WE X L a ta) (hb : WE X L b tb) : WE X L (.IfExp c a b pos) (oIf tA ta tb) := (pe_ifExp hc ha hb).imp fun σ H Q ⟨ρ, h, R, S, t, k⟩ =>
  ⟨ρ, h, _, S, t, fun c h1 H1 t1 s1 r1 => by
    cases c with
    | true => exact ⟨ρ, h1, R, S.to s1 r1, t1, k.mono s1⟩
    | false => exact ⟨ρ, h1, R, S.to s1 r1, t1, k.mono s1⟩⟩
/-! ## arguments, displays -/
def oNil : TAW := fun _ h R => R [] h
def oCons (ta : TEW) (tr : TAW) : TAW := fun ρ h R => ta ρ h fun x h1 => tr ρ h1 fun xs h2 => R (x :: xs) h2
theorem wa_nil : WA X L [] oNil := pa_nil.imp fun σ H Q ⟨ρ, h, R, S, t, k⟩ => k _ h _ H t (.refl _ _) S.hr .nil
theorem wa_cons (ha : WE X L e te) (hr : WA X L es t) (hs : starEach (e :: es) X.env = (false, eval e X.env) :: starEach es X.env := by rfl) : WA X L (e :: es) (oCons te t) := (pa_cons ha hr hs).imp fun σ H Q ⟨ρ, h, R, S, t, k⟩ =>
  ⟨ρ, h, _, S, t, fun w1 h1 v1 H1 t1 s1 r1 q1 => ⟨ρ, h1, _, S.to s1 r1, t1, fun ws h2 vs H2 t2 s2 r2 q2 => k _ h2 _ H2 t2 (s1.trans s2) r2 (.cons (q1.mono s2) q2)⟩⟩
theorem sz_small {n : Nat} (h : n ≤ 100000 := by decide) : n ≤ sizeLine := Nat.le_trans h (by decide)
theorem FzT.new {K : PySem.W.Frag} {H : Hp} {h : HW} {p : Addr} {vs : List V} (hr : HR K H h) (e : H p = none) : FzT K (upd H p (.tup vs)) h p vs := .inl ⟨.inl upd_same, hr.fresh e⟩
theorem FzL.new {K : PySem.W.Frag} {H : Hp} {h : HW} {p : Addr} {vs : List V} (hr : HR K H h) (e : H p = none) : FzL (upd H p (.lst vs)) h p vs := ⟨upd_same, hr.fresh e⟩
/-- a new tuple, a new list that stays, a new list that is owned -/
theorem KV.tup {K : PySem.W.Frag} {H : Hp} {h : HW} {R : KW} {Q : VK} (k : KV K H h R Q) (hr : HR K H h) {vs : List V} {ws : List W} (r : RWs K H h vs ws) (t : R (.tup ws) h) {p : Addr} (e : H p = none) : Q (.ref p) (upd H p (.tup vs)) :=
  k _ h _ _ t (.newF e _) (hr.newF e _) (.tup (.new hr e) (r.mono (.newF e _)))
theorem KV.lst {K : PySem.W.Frag} {H : Hp} {h : HW} {R : KW} {Q : VK} (k : KV K H h R Q) (hr : HR K H h) {vs : List V} {ws : List W} (r : RWs K H h vs ws) (t : R (.lst ws) h) {p : Addr} (e : H p = none) : Q (.ref p) (upd H p (.lst vs)) :=
  k _ h _ _ t (.newF e _) (hr.newF e _) (.lst (.new (K := K) hr e) (r.mono (.newF e _)))
theorem KV.lstO {K : PySem.W.Frag} {H : Hp} {h : HW} {R : KW} {Q : VK} (k : KV K H h R Q) (hr : HR K H h) {vs : List V} {ws : List W} (r : RWs K H h vs ws) (t : ∀ p, h p = none → R (.ref p) (updW h p (.lst ws))) {p : Addr} (e : H p = none) : Q (.ref p) (upd H p (.lst vs)) :=
  k _ _ _ _ (t p (hr.fresh e)) (.newO e _ _) (hr.newO e ⟨vs, upd_same, r.mono (.newO e _ _)⟩) (.ref p)
def oTup (t : TAW) : TEW := fun ρ h R => t ρ h fun ws h1 => ws.length ≤ 16000000 ∧ R (.tup ws) h1
def oLst (t : TAW) : TEW := fun ρ h R => t ρ h fun ws h1 => ws.length ≤ 16000000 ∧ R (.lst ws) h1
def oLstO (t : TAW) : TEW := fun ρ h R => t ρ h fun ws h1 => ws.length ≤ 16000000 ∧ ∀ p, h1 p = none → R (.ref p) (updW h1 p (.lst ws))
theorem sz_big {n : Nat} (h : n ≤ 16000000) : n ≤ sizeLine := Nat.le_trans h (by decide)
theorem w_tup {x1} (ha : WA X L es t) : WE X L (.Tuple es x1 pos) (oTup t) := (pe_tup ha).imp fun σ H Q ⟨ρ, h, R, S, t, k⟩ =>
  ⟨ρ, h, _, S, t, fun ws h1 vs H1 ⟨e, t1⟩ s1 r1 q1 => ⟨by rw [q1.length]; exact sz_big e, fun p hp => (k.mono s1).tup r1 q1 t1 hp⟩⟩
theorem w_lst (ha : WA X L es t) : WE X L (.List es pos) (oLst t) := (pe_lst ha).imp fun σ H Q ⟨ρ, h, R, S, t, k⟩ =>
  ⟨ρ, h, _, S, t, fun ws h1 vs H1 ⟨e, t1⟩ s1 r1 q1 => ⟨by rw [q1.length]; exact sz_big e, fun p hp => (k.mono s1).lst r1 q1 t1 hp⟩⟩
theorem w_lstO (ha : WA X L es t) : WE X L (.List es pos) (oLstO t) := (pe_lst ha).imp fun σ H Q ⟨ρ, h, R, S, t, k⟩ =>
  ⟨ρ, h, _, S, t, fun ws h1 vs H1 ⟨e, t1⟩ s1 r1 q1 => ⟨by rw [q1.length]; exact sz_big e, fun p hp => (k.mono s1).lstO r1 q1 t1 hp⟩⟩
end
end Wl

set_option Elab.async false
set_option linter.all false
set_option maxRecDepth 100000
namespace Wl
open PySem PySem.Spec PyProof.Rows L2
theorem mkS_append (a b : List Nat) : mkS a ++ mkS b = mkS (a ++ b) := by
  show Str.append _ _ = _
  simp [Str.append, mkS]
theorem mkS_length (a : List Nat) : (mkS a).length = a.length := by simp [mkS, Str.length]
theorem mkS_inj {a b : List Nat} : mkS a = mkS b ↔ a = b := by simp [mkS]
theorem mkS_list (z : Str) : z = mkS z.cps.toList := by cases z; rfl
theorem RW.eq_int {K : PySem.W.Frag} {H : Hp} {h : HW} {x : V} {i : Int} (r : RW K H h x (.int i)) : x = .int i := by cases r; rfl
theorem RW.eq_str {K : PySem.W.Frag} {H : Hp} {h : HW} {x : V} {i : List Nat} (r : RW K H h x (.str i)) : x = .str (mkS i) := by cases r; rfl
theorem RW.eq_bl {K : PySem.W.Frag} {H : Hp} {h : HW} {x : V} {i : Bool} (r : RW K H h x (.bl i)) : x = .bl i := by cases r; rfl
theorem RW.eq_ref {K : PySem.W.Frag} {H : Hp} {h : HW} {x : V} {a : Addr} (r : RW K H h x (.ref a)) : x = .ref a := by cases r; rfl
theorem RWs.one {K : PySem.W.Frag} {H : Hp} {h : HW} {xs : List V} {w : W} (r : RWs K H h xs [w]) : ∃ x, xs = [x] ∧ RW K H h x w := by
  cases r with
  | cons r t => cases t; exact ⟨_, rfl, r⟩
theorem RWs.two {K : PySem.W.Frag} {H : Hp} {h : HW} {xs : List V} {w u : W} (r : RWs K H h xs [w, u]) : ∃ x y, xs = [x, y] ∧ RW K H h x w ∧ RW K H h y u := by
  cases r with
  | cons r t => cases t with | cons q t => cases t; exact ⟨_, _, rfl, r, q⟩
theorem RWs.zero {K : PySem.W.Frag} {H : Hp} {h : HW} {xs : List V} (r : RWs K H h xs []) : xs = [] := by cases r; rfl
section
variable {X : Cx} {K : PySem.W.Frag}
/-! ## arithmetic -/
def addW : RW2 := fun x y h R => match x, y with
  | .int i, .int j => R (.int (i + j)) h
  | .str i, .str j => i.length + j.length ≤ 16000000 ∧ R (.str (i ++ j)) h
  | .tup xs, .tup ys => xs ≠ [] ∧ xs.length + ys.length ≤ 16000000 ∧ R (.tup (xs ++ ys)) h
  | .lst xs, .lst ys => xs.length + ys.length ≤ 16000000 ∧ R (.lst (xs ++ ys)) h
  | _, _ => False
theorem ow_add : OpR X (binaryOp .Add) (fun x y H Q => rI0 (fun i j => .int (i + j)) x y H Q ∨ (∃ i j, x = .str i ∧ y = .str j ∧ i.length + j.length ≤ sizeLine ∧ Q (.str (i ++ j)) H) ∨ rCatT X.K x y H Q ∨ rCat x y H Q) :=
  op_add.or (op_add_str.or (op_catT.or op_cat))
theorem lf_add : Lf2 K (fun x y H Q => rI0 (fun i j => .int (i + j)) x y H Q ∨ (∃ i j, x = .str i ∧ y = .str j ∧ i.length + j.length ≤ sizeLine ∧ Q (.str (i ++ j)) H) ∨ rCatT K x y H Q ∨ rCat x y H Q) addW := fun x y H Q w1 w2 h R r1 r2 hr t k => by
  unfold addW at t
  split at t
  · cases r1; cases r2; exact .inl ⟨_, _, rfl, rfl, k.go hr t (.int _)⟩
  · cases r1; cases r2
    refine .inr (.inl ⟨_, _, rfl, rfl, ?_, ?_⟩)
    · rw [mkS_length, mkS_length]; exact sz_big t.1
    · rw [mkS_append]; exact k.go hr t.2 (.str _)
  · rename_i xs ys
    cases r1 with
    | tup f1 q1 =>
      cases r2 with
      | tup f2 q2 =>
        obtain ⟨t1, t2, t3⟩ := t
        refine .inr (.inr (.inl ⟨_, _, _, _, rfl, rfl, f1.sq, f2.sq, ?_, ?_, ?_, ?_⟩))
        · intro e; subst e; cases q1; exact t1 rfl
        · rw [q1.length, q2.length]; exact sz_big t2
        · intro e; subst e; cases q2; rw [List.append_nil] at t3; exact k.go hr t3 (.tup f1 q1)
        · exact fun _ p hp => k.tup hr (q1.append q2) t3 hp
  · rename_i xs ys
    cases r1 with
    | lst f1 q1 =>
      cases r2 with
      | lst f2 q2 =>
        obtain ⟨t2, t3⟩ := t
        exact .inr (.inr (.inr ⟨_, _, _, _, rfl, rfl, f1.1, f2.1, by rw [q1.length, q2.length]; exact sz_big t2, fun p hp => k.lst hr (q1.append q2) t3 hp⟩))
  · exact t.elim
def intW (C : Int → Int → Prop) (g : Int → Int → Int) : RW2 := fun x y h R => match x, y with
  | .int i, .int j => C i j ∧ R (.int (g i j)) h
  | _, _ => False
def intW0 (g : Int → Int → Int) : RW2 := fun x y h R => match x, y with
  | .int i, .int j => R (.int (g i j)) h
  | _, _ => False
theorem lf_int {C : Int → Int → Prop} {g : Int → Int → Int} : Lf2 K (rI C fun i j => .int (g i j)) (intW C g) := fun x y H Q w1 w2 h R r1 r2 hr t k => by
  unfold intW at t
  split at t
  · cases r1; cases r2; exact ⟨_, _, rfl, rfl, t.1, k.go hr t.2 (.int _)⟩
  · exact t.elim
theorem lf_int0 {g : Int → Int → Int} : Lf2 K (rI0 fun i j => .int (g i j)) (intW0 g) := fun x y H Q w1 w2 h R r1 r2 hr t k => by
  unfold intW0 at t
  split at t
  · cases r1; cases r2; exact ⟨_, _, rfl, rfl, k.go hr t (.int _)⟩
  · exact t.elim
def cmpW (g : Int → Int → Bool) : RW2 := fun x y h R => match x, y with
  | .int i, .int j => R (.bl (g i j)) h
  | _, _ => False
theorem lf_cmp {g : Int → Int → Bool} : Lf2 K (rI0 fun i j => .bl (g i j)) (cmpW g) := fun x y H Q w1 w2 h R r1 r2 hr t k => by
  unfold cmpW at t
  split at t
  · cases r1; cases r2; exact ⟨_, _, rfl, rfl, k.go hr t (.bl _)⟩
  · exact t.elim
def subW : RW2 := intW0 fun i j => i - j
def mulW : RW2 := intW CMul fun i j => i * j
def modW : RW2 := intW (fun _ j => 0 < j) fun i j => i % j
def fdivW : RW2 := intW CDiv fun i j => i / j
def ltW : RW2 := cmpW fun i j => decide (i < j)
def leW : RW2 := cmpW fun i j => decide (i ≤ j)
def gtW : RW2 := cmpW fun i j => decide (j < i)
def geW : RW2 := cmpW fun i j => decide (j ≤ i)
theorem CMul.r {i j : Int} (h : -(2 ^ 64) < j ∧ j < 2 ^ 64) : CMul i j := .inr h
theorem CMul.l {i j : Int} (h : -(2 ^ 64) < i ∧ i < 2 ^ 64) : CMul i j := .inl h
/-- unary minus -/
def negW : W → HW → KW → Prop := fun x h R => match x with | .int i => R (.int (-i)) h | _ => False
theorem lf_neg : Lf1 K (rU fun i => .int (-i)) negW := fun x H Q w h R r hr t k => by
  unfold negW at t
  split at t
  · cases r; exact ⟨_, rfl, k.go hr t (.int _)⟩
  · exact t.elim
/-! ## == of data at any depth -/
mutual
def toD : W → PyData
  | .int i => .int i
  | .str s => .str (mkS s)
  | .bl b => .bool b
  | .tup ws => .tuple (toDs ws)
  | .lst ws => .list (toDs ws)
  | _ => .none
def toDs : List W → List PyData
  | [] => []
  | w :: ws => toD w :: toDs ws
end
mutual
/-- None, bools, ints, texts, tuples and lists of such -/
def dataW : W → Bool
  | .non => true
  | .bl _ => true
  | .int _ => true
  | .str s => PyData.strOk (mkS s)
  | .tup ws => datasW ws
  | .lst ws => datasW ws
  | _ => false
def datasW : List W → Bool
  | [] => true
  | w :: ws => dataW w && datasW ws
end
mutual
def depW : W → Nat
  | .tup ws => depsW ws + 1
  | .lst ws => depsW ws + 1
  | _ => 0
def depsW : List W → Nat
  | [] => 0
  | w :: ws => max (depW w) (depsW ws)
end
mutual
theorem dp_of {H : Hp} {h : HW} : ∀ {v : V} {w : W}, RW K H h v w → dataW w = true → Dp K H v (toD w)
  | _, _, .non, e => by rw [toD] <;> first | exact .non | exact (fun _ => nofun)
  | _, _, .bl b, e => by rw [toD]; exact .bl b
  | _, _, .int i, _ => by rw [toD]; exact .int i
  | _, _, .str x, _ => by rw [toD]; exact .str _
  | _, _, .ty n, e => by simp [dataW] at e
  | _, _, .ref a, e => by simp [dataW] at e
  | _, _, .tup f r, e => by rw [toD]; exact .tup f.sq (dps_of r (by simpa [dataW] using e))
  | _, _, .lst f r, e => by rw [toD]; exact .lst f.sq (dps_of r (by simpa [dataW] using e))
  | _, _, .scr f r, e => by simp [dataW] at e
  | _, _, .dic f r, e => by simp [dataW] at e
theorem dps_of {H : Hp} {h : HW} : ∀ {v : List V} {w : List W}, RWs K H h v w → datasW w = true → DpAll K H v (toDs w)
  | _, _, .nil, _ => by rw [toDs]; exact .nil
  | _, _, .cons r t, e => by
    rw [datasW, Bool.and_eq_true] at e
    rw [toDs]; exact .cons (dp_of r e.1) (dps_of t e.2)
end
mutual
theorem lay_of : ∀ w : W, dataW w = true → (toD w).canLay0 = true
  | .non, _ => by simp [toD, PyData.canLay0]
  | .bl b, _ => by simp [toD, PyData.canLay0]
  | .int i, _ => by simp [toD, PyData.canLay0]
  | .str s, e => by simpa [toD, PyData.canLay0, dataW] using e
  | .tup ws, e => by rw [toD, PyData.canLay0]; exact lays_of ws (by simpa [dataW] using e)
  | .lst ws, e => by rw [toD, PyData.canLay0]; exact lays_of ws (by simpa [dataW] using e)
  | .scr _, e => by simp [dataW] at e
  | .dic _, e => by simp [dataW] at e
  | .ref _, e => by simp [dataW] at e
  | .ty _, e => by simp [dataW] at e
theorem lays_of : ∀ ws : List W, datasW ws = true → PyData.canLayAll0 (toDs ws) = true
  | [], _ => by simp [toDs, PyData.canLayAll0]
  | w :: ws, e => by
    rw [datasW, Bool.and_eq_true] at e
    rw [toDs, PyData.canLayAll0, lay_of w e.1, lays_of ws e.2]; rfl
end
mutual
theorem dep_of : ∀ w : W, (toD w).depth ≤ depW w
  | .non => by simp [toD, PyData.depth]
  | .bl b => by simp [toD, PyData.depth]
  | .int i => by simp [toD, PyData.depth]
  | .str s => by simp [toD, PyData.depth]
  | .tup ws => by rw [toD, PyData.depth, depW]; exact Nat.succ_le_succ (deps_of ws)
  | .lst ws => by rw [toD, PyData.depth, depW]; exact Nat.succ_le_succ (deps_of ws)
  | .scr _ => by simp [toD, PyData.depth]
  | .dic _ => by simp [toD, PyData.depth]
  | .ref _ => by simp [toD, PyData.depth]
  | .ty _ => by simp [toD, PyData.depth]
theorem deps_of : ∀ ws : List W, PyData.depthAll (toDs ws) ≤ depsW ws
  | [] => by simp [toDs, PyData.depthAll]
  | w :: ws => by
    have h1 := dep_of w
    have h2 := deps_of ws
    rw [toDs, PyData.depthAll, depsW]
    omega
end
def eqD (x y : W) : Bool := PyData.eqv (toD x) (toD y)
mutual
theorem eqv_of : ∀ x : W, dataW x = true → eqD x x = true
  | .non, _ => by simp [eqD, toD, PyData.eqv]
  | .bl b, _ => by simp [eqD, toD, PyData.eqv]
  | .int i, _ => by simp [eqD, toD, PyData.eqv]
  | .str s, e => by simp [eqD, toD, PyData.eqv]
  | .tup ws, e => by unfold eqD; rw [toD, PyData.eqv]; exact eqvs_of ws (by simpa [dataW] using e)
  | .lst ws, e => by unfold eqD; rw [toD, PyData.eqv]; exact eqvs_of ws (by simpa [dataW] using e)
  | .scr _, e => by simp [dataW] at e
  | .dic _, e => by simp [dataW] at e
  | .ref _, e => by simp [dataW] at e
  | .ty _, e => by simp [dataW] at e
theorem eqvs_of : ∀ ws : List W, datasW ws = true → PyData.eqvAll (toDs ws) (toDs ws) = true
  | [], _ => by simp [toDs, PyData.eqvAll]
  | w :: ws, e => by
    rw [datasW, Bool.and_eq_true] at e
    have h1 := eqv_of w e.1
    unfold eqD at h1
    rw [toDs, PyData.eqvAll, h1, eqvs_of ws e.2]; rfl
end
/-- an owned list as it is now -/
def rsv (x : W) (h : HW) : W := match x with
  | .ref p => (match h p with | some (.lst ws) => .lst ws | _ => .ref p)
  | x => x
theorem rsv_of {x : W} {h : HW} (e : dataW x = true) : rsv x h = x := by cases x <;> first | rfl | exact absurd e (by simp [dataW])
theorem dpr_of {H : Hp} {h : HW} (hr : HR K H h) {v : V} {w : W} (r : RW K H h v w) (e : dataW (rsv w h) = true) : Dp K H v (toD (rsv w h)) := by
  cases w with
  | ref p =>
    unfold rsv at e ⊢
    dsimp only at e ⊢
    split at e
    · rename_i ws hp
      cases r
      obtain ⟨vs, a, q⟩ := hr _ _ hp
      rw [toD]; exact .lst (.inl (.inl a)) (dps_of q (by simpa [dataW] using e))
    · simp [dataW] at e
  | _ => exact dp_of r e
def eqW : RW2 := fun x y h R => match x, y with
  | .int i, .int j => R (.bl (decide (i = j))) h
  | .str s, .str t => R (.bl (decide (s = t))) h
  | x, y => dataW (rsv x h) = true ∧ dataW (rsv y h) = true ∧ depW (rsv x h) ≤ 64 ∧ depW (rsv y h) ≤ 64 ∧ R (.bl (eqD (rsv x h) (rsv y h))) h
def neW : RW2 := fun x y h R => match x, y with
  | .int i, .int j => R (.bl (!decide (i = j))) h
  | .str s, .str t => R (.bl (!decide (s = t))) h
  | x, y => dataW (rsv x h) = true ∧ dataW (rsv y h) = true ∧ depW (rsv x h) ≤ 64 ∧ depW (rsv y h) ≤ 64 ∧ R (.bl (!eqD (rsv x h) (rsv y h))) h
theorem shaped_of {x : W} (h : dataW x = true) (d : depW x ≤ 64) : SeqAt.shaped (toD x) = true := by
  unfold SeqAt.shaped
  rw [lay_of x h, Bool.true_and, decide_eq_true_eq]
  exact Nat.le_trans (dep_of x) d
theorem eqD_nil (ws : List W) : eqD (.lst ws) (.lst []) = ws.isEmpty := by cases ws <;> simp [eqD, toD, toDs, PyData.eqv, PyData.eqvAll]
theorem ow_eq (hu : X.A.units + 64 < cLine) : OpR X (compareOp .Eq) (fun x y H Q => rEq x y H Q ∨ rEqD X.K x y H Q) := op_eq.or (op_eqD hu)
theorem ow_ne (hu : X.A.units + 64 < cLine) : OpR X (compareOp .NotEq) (fun x y H Q => rNe x y H Q ∨ rNeD X.K x y H Q) := op_ne.or (op_neD hu)
theorem lf_eq : Lf2 K (fun x y H Q => rEq x y H Q ∨ rEqD K x y H Q) eqW := fun x y H Q w1 w2 h R r1 r2 hr t k => by
  unfold eqW at t
  split at t
  · cases r1; cases r2
    refine .inl ⟨rfl, ?_⟩
    have := k.go hr t (.bl _)
    simpa [V.int.injEq] using this
  · cases r1; cases r2
    refine .inl ⟨rfl, ?_⟩
    have := k.go hr t (.bl _)
    simpa [V.str.injEq, mkS_inj] using this
  · obtain ⟨a, b, c, d, t⟩ := t
    exact .inr ⟨_, _, dpr_of hr r1 a, dpr_of hr r2 b, shaped_of a c, shaped_of b d, k.go hr t (.bl _)⟩
theorem lf_ne : Lf2 K (fun x y H Q => rNe x y H Q ∨ rNeD K x y H Q) neW := fun x y H Q w1 w2 h R r1 r2 hr t k => by
  unfold neW at t
  split at t
  · cases r1; cases r2
    refine .inl ⟨rfl, ?_⟩
    have := k.go hr t (.bl _)
    simpa [V.int.injEq] using this
  · cases r1; cases r2
    refine .inl ⟨rfl, ?_⟩
    have := k.go hr t (.bl _)
    simpa [V.str.injEq, mkS_inj] using this
  · obtain ⟨a, b, c, d, t⟩ := t
    exact .inr ⟨_, _, dpr_of hr r1 a, dpr_of hr r2 b, shaped_of a c, shaped_of b d, k.go hr t (.bl _)⟩
end
end Wl

set_option Elab.async false
set_option linter.all false
set_option maxRecDepth 100000
namespace Wl
open PySem PySem.Spec PyProof.Rows L2
section
variable {X : Cx} {K : PySem.W.Frag} {H : Hp} {h : HW}
theorem RWs.ints : ∀ {vs : List V} {ns : List Int}, RWs K H h vs (ns.map W.int) → vs = ns.map V.int
  | _, [], .nil => rfl
  | _, n :: ns, .cons r t => by rw [List.map_cons, r.eq_int, RWs.ints t]
theorem RWs.strs : ∀ {vs : List V} {ns : List (List Nat)}, RWs K H h vs (ns.map W.str) → vs = (ns.map mkS).map V.str
  | _, [], .nil => rfl
  | _, n :: ns, .cons r t => by rw [List.map_cons, List.map_cons, r.eq_str, RWs.strs t]
theorem RWs.bls : ∀ {vs : List V} {ns : List Bool}, RWs K H h vs (ns.map W.bl) → vs = ns.map V.bl
  | _, [], .nil => rfl
  | _, n :: ns, .cons r t => by rw [List.map_cons, r.eq_bl, RWs.bls t]
theorem RWs.of_ints : ∀ {ns : List Int}, RWs K H h (ns.map V.int) (ns.map W.int)
  | [] => .nil
  | n :: ns => .cons (.int n) RWs.of_ints
theorem RWs.of_strs : ∀ {ns : List (List Nat)}, RWs K H h ((ns.map mkS).map V.str) (ns.map W.str)
  | [] => .nil
  | n :: ns => .cons (.str n) RWs.of_strs
/-! ## in -/
def flatW : W → Bool
  | .int _ => true
  | .str _ => true
  | _ => false
def eqF : W → W → Bool
  | .int i, .int j => decide (i = j)
  | .str i, .str j => decide (i = j)
  | _, _ => false
def keyW : W → Option L2.Key
  | .int i => some (.inl i)
  | .str s => some (.inr (mkS s))
  | _ => none
def inW : RW2 := fun x y h R => match y with
  | .tup ws => flatW x = true ∧ ws.all flatW = true ∧ R (.bl (ws.any fun w => eqF w x)) h
  | .lst ws => flatW x = true ∧ ws.all flatW = true ∧ R (.bl (ws.any fun w => eqF w x)) h
  | .str t => match x with
    | .str [c] => R (.bl (decide (c ∈ t))) h
    | _ => False
  | .ref p => match h p with
    | some (.lst ws) => flatW x = true ∧ ws.all flatW = true ∧ R (.bl (ws.any fun w => eqF w x)) h
    | _ => False
  | _ => False
def notInW : RW2 := fun x y h R => match y with
  | .tup ws => flatW x = true ∧ ws.all flatW = true ∧ R (.bl (!ws.any fun w => eqF w x)) h
  | .lst ws => flatW x = true ∧ ws.all flatW = true ∧ R (.bl (!ws.any fun w => eqF w x)) h
  | .str t => match x with
    | .str [c] => R (.bl (!decide (c ∈ t))) h
    | _ => False
  | .ref p => match h p with
    | some (.lst ws) => flatW x = true ∧ ws.all flatW = true ∧ R (.bl (!ws.any fun w => eqF w x)) h
    | _ => False
  | _ => False
theorem flat_of {v : V} {w : W} (r : RW K H h v w) (f : flatW w = true) : flatV v = true := by
  cases r <;> first | rfl | exact absurd f Bool.false_ne_true
theorem flats_of : ∀ {vs : List V} {ws : List W}, RWs K H h vs ws → ws.all flatW = true → vs.all flatV = true
  | _, _, .nil, _ => rfl
  | _, _, .cons r t, f => by
    rw [List.all_cons, Bool.and_eq_true] at f ⊢
    exact ⟨flat_of r f.1, flats_of t f.2⟩
theorem eqF_of {v u : V} {w x : W} (r : RW K H h v w) (q : RW K H h u x) (f : flatW w = true) (g : flatW x = true) : eqV v u = eqF w x := by
  cases r <;> first | exact absurd f Bool.false_ne_true | skip
  · cases q <;> first | exact absurd g Bool.false_ne_true | skip
    · show (_ == _) = decide _; exact Bool.beq_eq_decide_eq _ _
    · rfl
  · cases q <;> first | exact absurd g Bool.false_ne_true | skip
    · rfl
    · rename_i a b
      show (mkS a == mkS b) = decide (a = b)
      by_cases e : a = b
      · subst e; simp
      · simp [e, mkS_inj]
theorem inV_of {u : V} {x : W} (q : RW K H h u x) (g : flatW x = true) : ∀ {vs : List V} {ws : List W}, RWs K H h vs ws → ws.all flatW = true → inV u vs = ws.any fun w => eqF w x
  | _, _, .nil, _ => rfl
  | _, _, .cons r t, f => by
    rw [List.all_cons, Bool.and_eq_true] at f
    unfold inV
    rw [List.any_cons, List.any_cons, eqF_of r q f.1 g]
    congr 1
    exact inV_of q g t f.2
theorem dec_mem {c : Nat} {t : List Nat} : decide (c ∈ (mkS t).cps.toList) = decide (c ∈ t) := by
  rw [decide_eq_decide]; simp [mkS]
theorem ow_in : OpR X (compareOp .In) (fun x y H Q => rIn X.K false x y H Q ∨ (∃ (c : Nat) (z : Str), x = .str ⟨#[c]⟩ ∧ y = .str z ∧ Q (.bl (decide (c ∈ z.cps.toList))) H)) := op_in_seq.or op_in_sign
theorem ow_notIn : OpR X (compareOp .NotIn) (fun x y H Q => rIn X.K true x y H Q ∨ (∃ (c : Nat) (z : Str), x = .str ⟨#[c]⟩ ∧ y = .str z ∧ Q (.bl (!decide (c ∈ z.cps.toList))) H)) := op_notIn_seq.or op_notIn_sign
theorem lf_in : Lf2 K (fun x y H Q => rIn K false x y H Q ∨ (∃ (c : Nat) (z : Str), x = .str ⟨#[c]⟩ ∧ y = .str z ∧ Q (.bl (decide (c ∈ z.cps.toList))) H)) inW := fun x y H Q w1 w2 h R r1 r2 hr t k => by
  unfold inW at t
  split at t
  · obtain ⟨f, g, t⟩ := t
    cases r2 with
    | tup f2 q2 => exact .inl ⟨_, _, rfl, .inr f2.sq, flat_of r1 f, flats_of q2 g, by rw [inV_of r1 f q2 g]; exact k.go hr t (.bl _)⟩
  · obtain ⟨f, g, t⟩ := t
    cases r2 with
    | lst f2 q2 => exact .inl ⟨_, _, rfl, .inl f2.sq, flat_of r1 f, flats_of q2 g, by rw [inV_of r1 f q2 g]; exact k.go hr t (.bl _)⟩
  · split at t
    · cases r1; cases r2
      exact .inr ⟨_, _, rfl, rfl, by rw [dec_mem]; exact k.go hr t (.bl _)⟩
    · exact t.elim
  · split at t
    · rename_i p e ws hp
      obtain ⟨f, g, t⟩ := t
      cases r2
      obtain ⟨vs, hv, q2⟩ := hr p _ hp
      exact .inl ⟨_, _, rfl, .inl (SqL.of hv), flat_of r1 f, flats_of q2 g, by rw [inV_of r1 f q2 g]; exact k.go hr t (.bl _)⟩
    · exact t.elim
  · exact t.elim
theorem lf_notIn : Lf2 K (fun x y H Q => rIn K true x y H Q ∨ (∃ (c : Nat) (z : Str), x = .str ⟨#[c]⟩ ∧ y = .str z ∧ Q (.bl (!decide (c ∈ z.cps.toList))) H)) notInW := fun x y H Q w1 w2 h R r1 r2 hr t k => by
  unfold notInW at t
  split at t
  · obtain ⟨f, g, t⟩ := t
    cases r2 with
    | tup f2 q2 => exact .inl ⟨_, _, rfl, .inr f2.sq, flat_of r1 f, flats_of q2 g, by rw [inV_of r1 f q2 g]; exact k.go hr t (.bl _)⟩
  · obtain ⟨f, g, t⟩ := t
    cases r2 with
    | lst f2 q2 => exact .inl ⟨_, _, rfl, .inl f2.sq, flat_of r1 f, flats_of q2 g, by rw [inV_of r1 f q2 g]; exact k.go hr t (.bl _)⟩
  · split at t
    · cases r1; cases r2
      exact .inr ⟨_, _, rfl, rfl, by rw [dec_mem]; exact k.go hr t (.bl _)⟩
    · exact t.elim
  · split at t
    · rename_i p e ws hp
      obtain ⟨f, g, t⟩ := t
      cases r2
      obtain ⟨vs, hv, q2⟩ := hr p _ hp
      exact .inl ⟨_, _, rfl, .inl (SqL.of hv), flat_of r1 f, flats_of q2 g, by rw [inV_of r1 f q2 g]; exact k.go hr t (.bl _)⟩
    · exact t.elim
  · exact t.elim
/-! ## subscripts, slices -/
theorem RWs.atI {vs : List V} {ws : List W} {i : Int} {w : W} (r : RWs K H h vs ws) (e : atI ws i = some w) : ∃ v, L2.atI vs i = some v ∧ RW K H h v w := by
  unfold L2.atI at e ⊢
  rw [r.length]
  cases q : ixN ws.length i with
  | none => rw [q] at e; cases e
  | some j => rw [q] at e; exact r.get e
def ixW : RW2 := fun x y h R => match y with
  | .int i => (match x with
    | .tup ws => (match atI ws i with | some w => R w h | none => False)
    | .lst ws => (match atI ws i with | some w => R w h | none => False)
    | .scr ws => (match atI ws i with | some w => R w h | none => False)
    | .str s => (match atI s i with | some c => s.length ≤ 16000000 ∧ R (.str [c]) h | none => False)
    | .ref p => (match h p with | some (.lst ws) => (match atI ws i with | some w => R w h | none => False) | _ => False)
    | _ => False)
  | _ => False
theorem lf_ix : Lf2 K (rIx K) ixW := fun x y H Q w1 w2 h R r1 r2 hr t k => by
  unfold ixW at t
  split at t
  · cases r2
    split at t
    · split at t
      · rename_i e
        cases r1 with
        | tup f q => obtain ⟨v, e1, e2⟩ := q.atI e; exact .inr (.inl ⟨_, _, _, _, rfl, rfl, f.sq, e1, k.go hr t e2⟩)
      · exact t.elim
    · split at t
      · rename_i e
        cases r1 with
        | lst f q => obtain ⟨v, e1, e2⟩ := q.atI e; exact .inl ⟨_, _, _, _, rfl, rfl, f.sq, e1, k.go hr t e2⟩
      · exact t.elim
    · split at t
      · rename_i e
        cases r1 with
        | scr f q => obtain ⟨v, e1, e2⟩ := q.atI e; exact .inl ⟨_, _, _, _, rfl, rfl, f.sq, e1, k.go hr t e2⟩
      · exact t.elim
    · split at t
      · rename_i s c e
        cases r1
        exact .inr (.inr ⟨_, _, c, rfl, rfl, by rw [mkS_length]; exact sz_big t.1, by simpa [mkS] using e, k.go hr t.2 (.str [c])⟩)
      · exact t.elim
    · split at t
      · rename_i hp
        split at t
        · rename_i e
          cases r1
          obtain ⟨vs, hv, q⟩ := hr _ _ hp
          obtain ⟨v, e1, e2⟩ := q.atI e
          exact .inl ⟨_, _, _, _, rfl, rfl, SqL.of hv, e1, k.go hr t e2⟩
        · exact t.elim
      · exact t.elim
    · exact t.elim
  · exact t.elim
def cut {α : Type} (xs : List α) (lo hi : Option Int) : List α := (xs.drop (HT.sIx xs.length 0 lo)).take (HT.sIx xs.length xs.length hi - HT.sIx xs.length 0 lo)
theorem RWs.cut {vs : List V} {ws : List W} (r : RWs K H h vs ws) (lo hi : Option Int) : RWs K H h (cutV vs lo hi) (Wl.cut ws lo hi) := by
  unfold cutV Wl.cut
  rw [r.length]
  exact (r.drop _).take _
abbrev TOW := SlW → HW → (Option Int → HW → Prop) → Prop
def oNoPart : TOW := fun _ h R => R none h
def oPart (t : TEW) : TOW := fun ρ h R => t ρ h fun x h1 => match x with | .int i => R (some i) h1 | _ => False
def lO (K : PySem.W.Frag) (L : Lk) (t : TOW) : TO := fun σ H Q => ∃ ρ h R, Sta K L σ H ρ h ∧ t ρ h R ∧ ∀ o h' H', R o h' → ST H h H' h' → HR K H' h' → Q o H'
theorem _root_.L2.PO.imp {X : Cx} {e : Option Expr} {t t' : TO} (h : PO X e t) (i : ∀ σ H Q, t' σ H Q → t σ H Q) : PO X e t' := ⟨fun p s σ H Q I q => h.run p s σ H Q I (i _ _ _ q)⟩
variable {L : Lk} {e : Expr} {te : TEW} {lo hi : Option Expr} {tl th : TOW} {pos p2 : Pos} {a b : Expr} {ta tb : TEW}
theorem wo_none : PO X none (lO X.K L oNoPart) := po_none.imp fun σ H Q ⟨ρ, h, R, S, t, k⟩ => k _ h H t (.refl _ _) S.hr
theorem wo_some (he : WE X L e te) : PO X (some e) (lO X.K L (oPart te)) := (po_some he).imp fun σ H Q ⟨ρ, h, R, S, t, k⟩ =>
  ⟨ρ, h, _, S, t, fun w1 h1 v1 H1 t1 s1 r1 q1 => by
    cases w1 with
    | int i => cases q1; exact ⟨i, rfl, k _ h1 H1 t1 s1 r1⟩
    | _ => exact t1.elim⟩
def slW (x : W) (lo hi : Option Int) (h : HW) (R : KW) : Prop := match x with
  | .tup ws => ¬ (HT.sIx ws.length 0 lo = 0 ∧ HT.sIx ws.length ws.length hi = ws.length) ∧ R (.tup (cut ws lo hi)) h
  | .lst ws => R (.lst (cut ws lo hi)) h
  | .scr ws => R (.lst (cut ws lo hi)) h
  | .str s => s.length ≤ 16000000 ∧ R (.str (cut s lo hi)) h
  | .ref p => match h p with | some (.lst ws) => R (.lst (cut ws lo hi)) h | _ => False
  | _ => False
def oSl (te : TEW) (tl th : TOW) : TEW := fun ρ h R => te ρ h fun x h1 => tl ρ h1 fun l h2 => th ρ h2 fun u h3 => slW x l u h3 R
def rSl (K : PySem.W.Frag) : V → Option Int → Option Int → Hp → VK → Prop := fun x lo hi H Q => rSlT K x lo hi H Q ∨ rSlL K x lo hi H Q ∨ rSlS x lo hi H Q
theorem sl_any : SlR X (rSl X.K) := sl_tup.or (sl_list.or sl_str)
theorem lf_sl {x : V} {w : W} {lo hi : Option Int} {R : KW} {Q : VK} (r : RW K H h x w) (hr : HR K H h) (t : slW w lo hi h R) (k : KV K H h R Q) : rSl K x lo hi H Q := by
  unfold slW at t
  split at t
  · cases r with
    | tup f q => exact .inl ⟨_, _, rfl, f.sq, by rw [q.length]; exact t.1, fun p hp => k.tup hr (q.cut lo hi) t.2 hp⟩
  · cases r with
    | lst f q => exact .inr (.inl ⟨_, _, rfl, f.sq, fun p hp => k.lst hr (q.cut lo hi) t hp⟩)
  · cases r with
    | scr f q => exact .inr (.inl ⟨_, _, rfl, f.sq, fun p hp => k.lst hr (q.cut lo hi) t hp⟩)
  · rename_i s
    cases r
    refine .inr (.inr ⟨_, rfl, by rw [mkS_length]; exact sz_big t.1, ?_⟩)
    have e : cutS (mkS s) lo hi = mkS (cut s lo hi) := by
      unfold cutS cut
      rw [mkS_length]; rfl
    rw [e]; exact k.go hr t.2 (.str _)
  · split at t
    · rename_i hp
      cases r
      obtain ⟨vs, hv, q⟩ := hr _ _ hp
      exact .inr (.inl ⟨_, _, rfl, SqL.of hv, fun p hp => k.lst hr (q.cut lo hi) t hp⟩)
    · exact t.elim
  · exact t.elim
theorem w_slice (he : WE X L e te) (hl : PO X lo (lO X.K L tl)) (hu : PO X hi (lO X.K L th)) : WE X L (.Subscript e (.Slice lo hi none p2) pos) (oSl te tl th) := (pe_slice sl_any he hl hu).imp fun σ H Q ⟨ρ, h, R, S, t, k⟩ =>
  ⟨ρ, h, _, S, t, fun w1 h1 v1 H1 t1 s1 r1 q1 => ⟨ρ, h1, _, S.to s1 r1, t1, fun o1 h2 H2 t2 s2 r2 => ⟨ρ, h2, _, S.to (s1.trans s2) r2, t2, fun o2 h3 H3 t3 s3 r3 =>
    lf_sl (q1.mono (s2.trans s3)) r3 t3 (k.mono (s1.trans (s2.trans s3)))⟩⟩⟩
theorem w_ix (ha : WE X L a ta) (hb : WE X L b tb) (hs : PlainIx b := by exact fun _ _ => rfl) : WE X L (.Subscript a b pos) (oOp ixW ta tb) := (pe_ix ix_seq ha hb hs).imp (bin_imp lf_ix)
/-- xs[::-1] of a list -/
def revW : W → HW → KW → Prop := fun x h R => match x with
  | .lst ws => R (.lst ws.reverse) h
  | .scr ws => R (.lst ws.reverse) h
  | .ref p => (match h p with | some (.lst ws) => R (.lst ws.reverse) h | _ => False)
  | _ => False
theorem w_rev {k : Nat} {p1 p2 p3 pos : Pos} (he : WE X L e te) : WE X L (.Subscript e (.Slice none none (some (.UnaryOp .USub (.Constant (.int 1) k p1) p2)) p3) pos) (oUn revW te) := (pe_revL he).imp fun σ H Q ⟨ρ, h, R, S, t, k⟩ =>
  ⟨ρ, h, _, S, t, fun w1 h1 v1 H1 t1 s1 r1 q1 => by
    unfold revW at t1
    split at t1
    · cases q1 with
      | lst f q => exact ⟨_, _, rfl, f.sq, fun p hp => (k.mono s1).lst r1 q.reverse t1 hp⟩
    · cases q1 with
      | scr f q => exact ⟨_, _, rfl, f.sq, fun p hp => (k.mono s1).lst r1 q.reverse t1 hp⟩
    · split at t1
      · rename_i hp
        cases q1
        obtain ⟨vs, hv, q⟩ := r1 _ _ hp
        exact ⟨_, _, rfl, SqL.of hv, fun p hp => (k.mono s1).lst r1 q.reverse t1 hp⟩
      · exact t1.elim
    · exact t1.elim⟩
end
end Wl

set_option Elab.async false
set_option linter.all false
set_option maxRecDepth 100000
namespace Wl
open PySem PySem.Spec PyProof.Rows L2
section
variable {X : Cx} {K : PySem.W.Frag} {H : Hp} {h : HW} {L : Lk} {pos p : Pos} {e : Expr} {es : List Expr} {t : TAW}
/-! ## built-ins by their names -/
def oCB (rw : List W → HW → KW → Prop) (t : TAW) : TEW := fun ρ h R => t ρ h fun ws h1 => rw ws h1 R
theorem cb_imp {r : List V → Hp → VK → Prop} {rw : List W → HW → KW → Prop} (l : LfC X.K r rw) : ∀ σ H Q, lE X.K L (oCB rw t) σ H Q → tCB r (lA X.K L t) σ H Q := fun σ H Q ⟨ρ, h, R, S, t, k⟩ =>
  ⟨ρ, h, _, S, t, fun ws h1 vs H1 t1 s1 r1 q1 => l vs H1 Q ws h1 R q1 r1 t1 (k.mono s1)⟩
theorem w_callB {x : Str} {id : String} {r : List V → Hp → VK → Prop} {rw : List W → HW → KW → Prop} (hc : CallR X (.builtin id) r) (l : LfC X.K r rw) (hg : Gl X x) (hm : X.mg x = none) (hv : bootBuiltins x = some (.builtin id)) (ha : WA X L (e :: es) t)
    (hn : x ≠ "__name__" := by decide) (hdb : (x == ("__debug__" : Str)) = false := by decide)
    (he : starEach (e :: es) X.env = (false, eval e X.env) :: starEach es X.env := by rfl) (hpl : (backTo pos (starEach es X.env)).any (·.1) = false := by rfl) : WE X L (.Call (.Name x p) (e :: es) [] pos) (oCB rw t) :=
  (pe_callB hc hg hm hv ha hn hdb he hpl).imp (cb_imp l)
theorem w_callTy {x : Str} {T : String} {r : List V → Hp → VK → Prop} {rw : List W → HW → KW → Prop} (hc : CallR X (.type T) r) (l : LfC X.K r rw) (hg : Gl X x) (hm : X.mg x = none) (hv : bootBuiltins x = some (.type T)) (ha : WA X L (e :: es) t)
    (hn : x ≠ "__name__" := by decide) (hdb : (x == ("__debug__" : Str)) = false := by decide)
    (he : starEach (e :: es) X.env = (false, eval e X.env) :: starEach es X.env := by rfl) (hpl : (backTo pos (starEach es X.env)).any (·.1) = false := by rfl) : WE X L (.Call (.Name x p) (e :: es) [] pos) (oCB rw t) :=
  (pe_callTy hc hg hm hv ha hn hdb he hpl).imp (cb_imp l)
def lenW : List W → HW → KW → Prop := fun ws h R => match ws with
  | [.tup xs] => R (.int xs.length) h
  | [.lst xs] => R (.int xs.length) h
  | [.scr xs] => R (.int xs.length) h
  | [.str s] => s.length ≤ 16000000 ∧ R (.int s.length) h
  | [.ref p] => (match h p with | some (.lst xs) => R (.int xs.length) h | _ => False)
  | _ => False
theorem lf_len : LfC K (fun xs H Q => ∃ x n, xs = [x] ∧ LenV K x H n ∧ Q (.int n) H) lenW := fun xs H Q ws h R r hr t k => by
  unfold lenW at t
  split at t
  · obtain ⟨x, rfl, q⟩ := r.one
    cases q with
    | tup f q => exact ⟨_, _, rfl, .inr ⟨_, f.sq, q.length.symm⟩, k.go hr t (.int _)⟩
  · obtain ⟨x, rfl, q⟩ := r.one
    cases q with
    | lst f q => exact ⟨_, _, rfl, .inl ⟨_, f.sq, q.length.symm⟩, k.go hr t (.int _)⟩
  · obtain ⟨x, rfl, q⟩ := r.one
    cases q with
    | scr f q => exact ⟨_, _, rfl, .inl ⟨_, f.sq, q.length.symm⟩, k.go hr t (.int _)⟩
  · obtain ⟨x, rfl, q⟩ := r.one
    cases q
    exact ⟨_, _, rfl, ⟨by rw [mkS_length]; exact sz_big t.1, (mkS_length _).symm⟩, k.go hr t.2 (.int _)⟩
  · split at t
    · rename_i hp
      obtain ⟨x, rfl, q⟩ := r.one
      cases q
      obtain ⟨vs, hv, q⟩ := hr _ _ hp
      exact ⟨_, _, rfl, .inl ⟨_, SqL.of hv, q.length.symm⟩, k.go hr t (.int _)⟩
    · exact t.elim
  · exact t.elim
def absW : List W → HW → KW → Prop := fun ws h R => match ws with | [.int i] => R (.int i.natAbs) h | _ => False
theorem lf_abs : LfC K (fun xs H Q => ∃ i, xs = [.int i] ∧ Q (.int (if i < 0 then -i else i)) H) absW := fun xs H Q ws h R r hr t k => by
  unfold absW at t
  split at t
  · rename_i i
    obtain ⟨x, rfl, q⟩ := r.one
    cases q
    refine ⟨_, rfl, ?_⟩
    have e : (if i < 0 then -i else i) = (i.natAbs : Int) := by split <;> omega
    rw [e]; exact k.go hr t (.int _)
  · exact t.elim
def toIntW : List W → HW → KW → Prop := fun ws h R => match ws with | [.int i] => R (.int i) h | [.bl b] => R (.int (if b = true then 1 else 0)) h | _ => False
theorem lf_toInt : LfC K (fun xs H Q => (∃ i, xs = [.int i] ∧ Q (.int i) H) ∨ ∃ k, xs = [.bl k] ∧ Q (.int (if k then 1 else 0)) H) toIntW := fun xs H Q ws h R r hr t k => by
  unfold toIntW at t
  split at t
  · obtain ⟨x, rfl, q⟩ := r.one; cases q; exact .inl ⟨_, rfl, k.go hr t (.int _)⟩
  · obtain ⟨x, rfl, q⟩ := r.one; cases q; exact .inr ⟨_, rfl, k.go hr t (.int _)⟩
  · exact t.elim
/-- the decimal text of an int -/
def decS (i : Int) : List Nat := (Str.ofString (toString i)).cps.toList
def strW : List W → HW → KW → Prop := fun ws h R => match ws with | [.int i] => i.natAbs.log2 < 1920 ∧ R (.str (decS i)) h | _ => False
theorem lf_str : LfC K (fun xs H Q => ∃ i, xs = [.int i] ∧ i.natAbs.log2 < 1920 ∧ Q (.str (toString i)) H) strW := fun xs H Q ws h R r hr t k => by
  unfold strW at t
  split at t
  · obtain ⟨x, rfl, q⟩ := r.one; cases q
    refine ⟨_, rfl, t.1, k.go hr t.2 ?_⟩
    rw [mkS_list (Str.ofString (toString _))]; exact .str _
  · exact t.elim
def intsOf : List W → Option (List Int)
  | [] => some []
  | .int i :: r => (intsOf r).map (i :: ·)
  | _ :: _ => none
theorem intsOf_map : ∀ ns : List Int, intsOf (ns.map W.int) = some ns
  | [] => rfl
  | n :: ns => by rw [List.map_cons, intsOf, intsOf_map ns]; rfl
theorem intsOf_eq : ∀ {ws : List W} {ns : List Int}, intsOf ws = some ns → ws = ns.map W.int
  | [], ns, e => by cases e; rfl
  | .int i :: r, ns, e => by
    rw [intsOf] at e
    cases q : intsOf r with
    | none => rw [q] at e; cases e
    | some ms => rw [q] at e; cases e; rw [List.map_cons, intsOf_eq q]
  | .non :: _, _, e => nomatch e
  | .bl _ :: _, _, e => nomatch e
  | .str _ :: _, _, e => nomatch e
  | .tup _ :: _, _, e => nomatch e
  | .lst _ :: _, _, e => nomatch e
  | .scr _ :: _, _, e => nomatch e
  | .dic _ :: _, _, e => nomatch e
  | .ref _ :: _, _, e => nomatch e
  | .ty _ :: _, _, e => nomatch e
def blsOf : List W → Option (List Bool)
  | [] => some []
  | .bl i :: r => (blsOf r).map (i :: ·)
  | _ :: _ => none
theorem blsOf_map : ∀ ns : List Bool, blsOf (ns.map W.bl) = some ns
  | [] => rfl
  | n :: ns => by rw [List.map_cons, blsOf, blsOf_map ns]; rfl
theorem blsOf_eq : ∀ {ws : List W} {ns : List Bool}, blsOf ws = some ns → ws = ns.map W.bl
  | [], ns, e => by cases e; rfl
  | .bl i :: r, ns, e => by
    rw [blsOf] at e
    cases q : blsOf r with
    | none => rw [q] at e; cases e
    | some ms => rw [q] at e; cases e; rw [List.map_cons, blsOf_eq q]
  | .non :: _, _, e => nomatch e
  | .int _ :: _, _, e => nomatch e
  | .str _ :: _, _, e => nomatch e
  | .tup _ :: _, _, e => nomatch e
  | .lst _ :: _, _, e => nomatch e
  | .scr _ :: _, _, e => nomatch e
  | .dic _ :: _, _, e => nomatch e
  | .ref _ :: _, _, e => nomatch e
  | .ty _ :: _, _, e => nomatch e
def strsOf : List W → Option (List (List Nat))
  | [] => some []
  | .str i :: r => (strsOf r).map (i :: ·)
  | _ :: _ => none
theorem strsOf_map : ∀ ns : List (List Nat), strsOf (ns.map W.str) = some ns
  | [] => rfl
  | n :: ns => by rw [List.map_cons, strsOf, strsOf_map ns]; rfl
theorem strsOf_eq : ∀ {ws : List W} {ns : List (List Nat)}, strsOf ws = some ns → ws = ns.map W.str
  | [], ns, e => by cases e; rfl
  | .str i :: r, ns, e => by
    rw [strsOf] at e
    cases q : strsOf r with
    | none => rw [q] at e; cases e
    | some ms => rw [q] at e; cases e; rw [List.map_cons, strsOf_eq q]
  | .non :: _, _, e => nomatch e
  | .int _ :: _, _, e => nomatch e
  | .bl _ :: _, _, e => nomatch e
  | .tup _ :: _, _, e => nomatch e
  | .lst _ :: _, _, e => nomatch e
  | .scr _ :: _, _, e => nomatch e
  | .dic _ :: _, _, e => nomatch e
  | .ref _ :: _, _, e => nomatch e
  | .ty _ :: _, _, e => nomatch e
def sumW : List W → HW → KW → Prop := fun ws h R => match ws with | [.lst xs] => (match intsOf xs with | some ns => R (.int ns.sum) h | none => False) | _ => False
theorem lf_sum : LfC K (rSum K) sumW := fun xs H Q ws h R r hr t k => by
  unfold sumW at t
  split at t
  · split at t
    · rename_i e
      obtain ⟨x, rfl, q⟩ := r.one
      cases q with
      | lst f q => rw [intsOf_eq e] at q; exact ⟨_, _, rfl, by rw [← q.ints]; exact f.sq, k.go hr t (.int _)⟩
    · exact t.elim
  · exact t.elim
/-- the greatest of a list with a first item -/
def maxI (n : Int) (ns : List Int) : Int := ns.foldl max n
theorem maxI_mem : ∀ (ns : List Int) (n : Int), maxI n ns ∈ n :: ns
  | [], n => by simp [maxI]
  | m :: ns, n => by
    have := maxI_mem ns (max n m)
    show maxI (max n m) ns ∈ _
    rcases List.mem_cons.mp this with e | e
    · rw [e]; rcases Int.le_total n m with q | q
      · rw [Int.max_eq_right q]; simp
      · rw [Int.max_eq_left q]; simp
    · exact List.mem_cons_of_mem _ (List.mem_cons_of_mem _ e)
theorem maxI_ge : ∀ (ns : List Int) (n y : Int), y ∈ n :: ns → y ≤ maxI n ns
  | [], n, y, h => by simp at h; subst h; exact Int.le_refl _
  | m :: ns, n, y, h => by
    have up := maxI_ge ns (max n m)
    show y ≤ maxI (max n m) ns
    rcases List.mem_cons.mp h with e | e
    · subst e; exact Int.le_trans (Int.le_max_left _ _) (up _ List.mem_cons_self)
    · rcases List.mem_cons.mp e with e | e
      · subst e; exact Int.le_trans (Int.le_max_right _ _) (up _ List.mem_cons_self)
      · exact up _ (List.mem_cons_of_mem _ e)
def maxW : List W → HW → KW → Prop := fun ws h R => match ws with | [.lst xs] => (match intsOf xs with | some (n :: ns) => R (.int (maxI n ns)) h | _ => False) | _ => False
theorem lf_max : LfC K (rMax K) maxW := fun xs H Q ws h R r hr t k => by
  unfold maxW at t
  split at t
  · split at t
    · rename_i n ns e
      obtain ⟨x, rfl, q⟩ := r.one
      cases q with
      | lst f q =>
        rw [intsOf_eq e] at q
        refine ⟨_, n :: ns, rfl, by rw [← q.ints]; exact f.sq, Nat.zero_lt_succ _, fun m h1 h2 => ?_⟩
        have e : m = maxI n ns := Int.le_antisymm (maxI_ge ns n m h1) (h2 _ (maxI_mem ns n))
        rw [e]; exact k.go hr t (.int _)
    · exact t.elim
  · exact t.elim
def allW : List W → HW → KW → Prop := fun ws h R => match ws with | [.lst xs] => (match blsOf xs with | some ns => R (.bl (ns.all id)) h | none => False) | _ => False
theorem lf_all : LfC K (rAll K) allW := fun xs H Q ws h R r hr t k => by
  unfold allW at t
  split at t
  · split at t
    · rename_i e
      obtain ⟨x, rfl, q⟩ := r.one
      cases q with
      | lst f q => rw [blsOf_eq e] at q; exact ⟨_, _, rfl, by rw [← q.bls]; exact f.sq, k.go hr t (.bl _)⟩
    · exact t.elim
  · exact t.elim
/-- list(x): a new list that stays -/
def listW : List W → HW → KW → Prop := fun ws h R => match ws with
  | [.tup xs] => R (.lst xs) h
  | [.lst xs] => R (.lst xs) h
  | [.scr xs] => R (.lst xs) h
  | [.ref p] => (match h p with | some (.lst xs) => R (.lst xs) h | _ => False)
  | _ => False
theorem lf_list : LfC K (fun xs H Q => ∃ p ys, xs = [.ref p] ∧ (SqL K H p ys ∨ SqT K H p ys) ∧ ∀ l, H l = none → Q (.ref l) (upd H l (.lst ys))) listW := fun xs H Q ws h R r hr t k => by
  unfold listW at t
  split at t
  · obtain ⟨x, rfl, q⟩ := r.one
    cases q with
    | tup f q => exact ⟨_, _, rfl, .inr f.sq, fun p hp => k.lst hr q t hp⟩
  · obtain ⟨x, rfl, q⟩ := r.one
    cases q with
    | lst f q => exact ⟨_, _, rfl, .inl f.sq, fun p hp => k.lst hr q t hp⟩
  · obtain ⟨x, rfl, q⟩ := r.one
    cases q with
    | scr f q => exact ⟨_, _, rfl, .inl f.sq, fun p hp => k.lst hr q t hp⟩
  · split at t
    · rename_i hp
      obtain ⟨x, rfl, q⟩ := r.one
      cases q
      obtain ⟨vs, hv, q⟩ := hr _ _ hp
      exact ⟨_, _, rfl, .inl (SqL.of hv), fun p hp => k.lst hr q t hp⟩
    · exact t.elim
  · exact t.elim
/-- list(x): a new list that will be written -/
def listOW : List W → HW → KW → Prop := fun ws h R => match ws with
  | [.tup xs] => ∀ p, h p = none → R (.ref p) (updW h p (.lst xs))
  | [.lst xs] => ∀ p, h p = none → R (.ref p) (updW h p (.lst xs))
  | [.scr xs] => ∀ p, h p = none → R (.ref p) (updW h p (.lst xs))
  | _ => False
theorem lf_listO : LfC K (fun xs H Q => ∃ p ys, xs = [.ref p] ∧ (SqL K H p ys ∨ SqT K H p ys) ∧ ∀ l, H l = none → Q (.ref l) (upd H l (.lst ys))) listOW := fun xs H Q ws h R r hr t k => by
  unfold listOW at t
  split at t
  · obtain ⟨x, rfl, q⟩ := r.one
    cases q with
    | tup f q => exact ⟨_, _, rfl, .inr f.sq, fun p hp => k.lstO hr q t hp⟩
  · obtain ⟨x, rfl, q⟩ := r.one
    cases q with
    | lst f q => exact ⟨_, _, rfl, .inl f.sq, fun p hp => k.lstO hr q t hp⟩
  · obtain ⟨x, rfl, q⟩ := r.one
    cases q with
    | scr f q => exact ⟨_, _, rfl, .inl f.sq, fun p hp => k.lstO hr q t hp⟩
  · exact t.elim
/-- isinstance(x, T), T a built-in class -/
def isW : List W → HW → KW → Prop := fun ws h R => match ws with
  | [.int _, .ty n] => (match kitB "int" n with | some b => R (.bl b) h | none => False)
  | [.bl _, .ty n] => (match kitB "bool" n with | some b => R (.bl b) h | none => False)
  | [.str _, .ty n] => (match kitB "str" n with | some b => R (.bl b) h | none => False)
  | [.tup _, .ty n] => (match kitB "tuple" n with | some b => R (.bl b) h | none => False)
  | [.lst _, .ty n] => (match kitB "list" n with | some b => R (.bl b) h | none => False)
  | _ => False
theorem lf_is : LfC K (rIsi K) isW := fun xs H Q ws h R r hr t k => by
  unfold isW at t
  split at t
  · split at t
    · rename_i e
      obtain ⟨x, y, rfl, q, q'⟩ := r.two
      cases q; cases q'
      exact ⟨_, _, _, _, _, rfl, .ty _, .base (.int _), kit_ty e, k.go hr t (.bl _)⟩
    · exact t.elim
  · split at t
    · rename_i e
      obtain ⟨x, y, rfl, q, q'⟩ := r.two
      cases q; cases q'
      exact ⟨_, _, _, _, _, rfl, .ty _, .base (.bl _), kit_ty e, k.go hr t (.bl _)⟩
    · exact t.elim
  · split at t
    · rename_i e
      obtain ⟨x, y, rfl, q, q'⟩ := r.two
      cases q; cases q'
      exact ⟨_, _, _, _, _, rfl, .ty _, .base (.str _), kit_ty e, k.go hr t (.bl _)⟩
    · exact t.elim
  · split at t
    · rename_i e
      obtain ⟨x, y, rfl, q, q'⟩ := r.two
      cases q'
      cases q with
      | tup f q =>
        rcases f with ⟨f | ⟨o, f⟩, _⟩ | ⟨o, its, n, f, c, _⟩
        · exact ⟨_, _, _, _, _, rfl, .ty _, .base (.tup f), kit_ty e, k.go hr t (.bl _)⟩
        · exact ⟨_, _, _, _, _, rfl, .ty _, .fTuple f, kit_ty e, k.go hr t (.bl _)⟩
        · exact ⟨_, _, _, _, _, rfl, .ty _, .kTuple f c, kit_ty e, k.go hr t (.bl _)⟩
    · exact t.elim
  · split at t
    · rename_i e
      obtain ⟨x, y, rfl, q, q'⟩ := r.two
      cases q'
      cases q with
      | lst f q => exact ⟨_, _, _, _, _, rfl, .ty _, .base (.lst f.1), kit_ty e, k.go hr t (.bl _)⟩
    · exact t.elim
  · exact t.elim
/-! ## methods of built-in values -/
def tyS : W → HW → Prop := fun x _ => match x with | .str _ => True | _ => False
def tyL : W → HW → Prop := fun x h => match x with | .ref p => (match h p with | some (.lst _) => True | _ => False) | _ => False
def TyOk (K : PySem.W.Frag) (T : String) (ty : W → HW → Prop) : Prop := ∀ v w H h, RW K H h v w → HR K H h → ty w h → tyV K T v H
theorem tyS_ok : TyOk K "str" tyS := fun v w H h r hr t => by
  unfold tyS at t
  split at t
  · cases r; rfl
  · exact t.elim
theorem tyL_ok : TyOk K "list" tyL := fun v w H h r hr t => by
  unfold tyL at t
  split at t
  · split at t
    · rename_i hp
      cases r
      obtain ⟨vs, hv, q⟩ := hr _ _ hp
      exact .inl ⟨rfl, _, SqL.of hv⟩
    · exact t.elim
  · exact t.elim
def oBM0 (ty : W → HW → Prop) (rw : W → List W → HW → KW → Prop) (to : TEW) : TEW := fun ρ h R => to ρ h fun x h1 => ty x h1 ∧ rw x [] h1 R
def oBM (ty : W → HW → Prop) (rw : W → List W → HW → KW → Prop) (to : TEW) (t : TAW) : TEW := fun ρ h R => to ρ h fun x h1 => ty x h1 ∧ t ρ h1 fun ws h2 => rw x ws h2 R
section
variable {o : Expr} {to : TEW} {name : Str} {apos cpos : Pos} {id T : String} {r : V → List V → Hp → VK → Prop} {rw : W → List W → HW → KW → Prop} {ty : W → HW → Prop}
theorem w_bm0 (pa : PlainAttrs T) (slot : Slot T name id) (hty : typeOf (.builtin id) = pure (.type "method_descriptor")) (hm : MtR X id r) (tok : TyOk X.K T ty) (l : LfM X.K r rw) (ho : WE X L o to)
    (hbase : attributeBase o name X.env (eval o X.env) = eval o X.env := by rfl) (hline : (apos.endLine == cpos.line) = true := by rfl) :
    WE X L (.Call (.Attribute o name apos) [] [] cpos) (oBM0 ty rw to) := (pe_bm0 pa slot hty hm ho hbase hline).imp fun σ H Q ⟨ρ, h, R, S, t, k⟩ =>
  ⟨ρ, h, _, S, t, fun w1 h1 v1 H1 t1 s1 r1 q1 => ⟨tok _ _ _ _ q1 r1 t1.1, l _ _ H1 Q _ _ h1 R q1 .nil r1 t1.2 (k.mono s1)⟩⟩
theorem w_bm (pa : PlainAttrs T) (slot : Slot T name id) (hty : typeOf (.builtin id) = pure (.type "method_descriptor")) (hm : MtR X id r) (tok : TyOk X.K T ty) (l : LfM X.K r rw) (ho : WE X L o to) (ha : WA X L (e :: es) t)
    (hbase : attributeBase o name X.env (eval o X.env) = eval o X.env := by rfl)
    (hfew : ((backTo cpos (starEach (e :: es) X.env)).all (fun x => !x.1) && (backToKw cpos (keywordEach [] X.env)).all (fun x => x.1.isSome)
      && decide ((e :: es).length + ([] : List Keyword).length + (if ([] : List Keyword).isEmpty then 0 else 1) < 30)) = true := by rfl)
    (hline : (apos.endLine == cpos.line) = true := by rfl) (hs : starEach (e :: es) X.env = (false, eval e X.env) :: starEach es X.env := by rfl) (hplain : (backTo cpos (starEach es X.env)).any (·.1) = false := by rfl) :
    WE X L (.Call (.Attribute o name apos) (e :: es) [] cpos) (oBM ty rw to t) := (pe_bm pa slot hty hm ho ha hbase hfew hline hs hplain).imp fun σ H Q ⟨ρ, h, R, S, t, k⟩ =>
  ⟨ρ, h, _, S, t, fun w1 h1 v1 H1 t1 s1 r1 q1 => ⟨tok _ _ _ _ q1 r1 t1.1, ρ, h1, _, S.to s1 r1, t1.2, fun ws h2 vs H2 t2 s2 r2 q2 => l _ _ H2 Q _ _ h2 R (q1.mono s2) q2 r2 t2 (k.mono (s1.trans s2))⟩⟩
end
def appendW : W → List W → HW → KW → Prop := fun x ws h R => match x, ws with
  | .ref p, [y] => (match h p with | some (.lst xs) => xs.length ≤ 16000000 ∧ R .non (updW h p (.lst (xs ++ [y]))) | _ => False)
  | _, _ => False
theorem sz_lt {n : Nat} (h : n ≤ 16000000) : n < sizeLine := Nat.lt_of_le_of_lt h (by decide)
/-- an owned list is rewritten -/
theorem KV.mut {R : KW} {Q : VK} (k : KV K H h R Q) (hr : HR K H h) {p : Addr} {u0 : OW} (hp : h p = some u0) {vs : List V} {ws : List W} (r : RWs K H h vs ws) {v : V} {w : W} (q : RW K H h v w) (t : R w (updW h p (.lst ws))) : Q v (upd H p (.lst vs)) :=
  k _ _ _ _ t (.mut hp _ _) (hr.mut hp ⟨vs, upd_same, r.mono (.mut hp _ _)⟩) (q.mono (.mut hp _ _))
theorem lf_append : LfM K rAppend appendW := fun x xs H Q w ws h R r rs hr t k => by
  unfold appendW at t
  split at t
  · split at t
    · rename_i hp
      cases r
      obtain ⟨y, rfl, ry⟩ := rs.one
      obtain ⟨vs, hv, q⟩ := hr _ _ hp
      exact ⟨_, _, _, rfl, rfl, hv, by rw [q.length]; exact sz_lt t.1, k.mut hr hp (q.append (.cons ry .nil)) .non t.2⟩
    · exact t.elim
  · exact t.elim
def popW : W → List W → HW → KW → Prop := fun x ws h R => match x, ws with
  | .ref p, [] => (match h p with | some (.lst xs) => (match xs.getLast? with | some y => R y (updW h p (.lst xs.dropLast)) | none => False) | _ => False)
  | _, _ => False
theorem lf_pop : LfM K rPop popW := fun x xs H Q w ws h R r rs hr t k => by
  unfold popW at t
  split at t
  · split at t
    · rename_i hp
      split at t
      · rename_i e
        cases r
        cases rs
        obtain ⟨vs, hv, q⟩ := hr _ _ hp
        rw [List.getLast?_eq_getElem?] at e
        obtain ⟨v, e1, e2⟩ := q.get e
        exact ⟨_, _, v, rfl, rfl, hv, by rw [q.length]; exact e1, k.mut hr hp q.dropLast e2 t⟩
      · exact t.elim
    · exact t.elim
  · exact t.elim
/-- xs.extend(ys), ys a list that stays -/
def extendW : W → List W → HW → KW → Prop := fun x ws h R => match x, ws with
  | .ref p, [.lst ys] => (match h p with | some (.lst xs) => xs.length + ys.length ≤ 16000000 ∧ R .non (updW h p (.lst (xs ++ ys))) | _ => False)
  | _, _ => False
theorem lf_extend : LfM K rExtend extendW := fun x xs H Q w ws h R r rs hr t k => by
  unfold extendW at t
  split at t
  · split at t
    · rename_i hp
      cases r
      obtain ⟨y, rfl, ry⟩ := rs.one
      cases ry with
      | lst f q2 =>
        obtain ⟨vs, hv, q⟩ := hr _ _ hp
        exact ⟨_, _, _, _, rfl, rfl, hv, f.1, by rw [q.length, q2.length]; exact sz_big t.1, k.mut hr hp (q.append q2) .non t.2⟩
    · exact t.elim
  · exact t.elim
/-- sep.join(texts) -/
def joinS (a : List Nat) : List (List Nat) → List Nat
  | [] => []
  | [p] => p
  | p :: q :: r => p ++ (a ++ joinS a (q :: r))
def joinW : W → List W → HW → KW → Prop := fun x ws h R => match x, ws with
  | .str a, [.lst xs] => (match strsOf xs with | some ss => (ss.map List.length).sum + ss.length * a.length ≤ 16000000 ∧ R (.str (joinS a ss)) h | none => False)
  | _, _ => False
theorem join_mk (a : List Nat) : ∀ ss : List (List Nat), Str.join (mkS a) (ss.map mkS) = mkS (joinS a ss)
  | [] => rfl
  | [p] => rfl
  | p :: q :: r => by
    show mkS p ++ mkS a ++ Str.join (mkS a) ((q :: r).map mkS) = _
    rw [join_mk a (q :: r), mkS_append, mkS_append, joinS, List.append_assoc]
theorem lens_mk (ss : List (List Nat)) : (ss.map mkS).map (·.length) = ss.map List.length := by
  rw [List.map_map]
  apply List.map_congr_left
  intro x _; exact mkS_length x
theorem lf_join : LfM K (fun x xs H Q => ∃ a p, ∃ ys : List Str, x = .str a ∧ xs = [.ref p] ∧ (SqL K H p (ys.map V.str) ∨ SqT K H p (ys.map V.str)) ∧
    (ys.map (·.length)).sum + ys.length * a.length ≤ 16777216 ∧ Q (.str (Txt.join a ys)) H) joinW := fun x xs H Q w ws h R r rs hr t k => by
  unfold joinW at t
  split at t
  · split at t
    · rename_i ss e
      cases r
      obtain ⟨y, rfl, ry⟩ := rs.one
      cases ry with
      | lst f q =>
        rw [strsOf_eq e] at q
        refine ⟨_, _, ss.map mkS, rfl, rfl, .inl (by rw [← q.strs]; exact f.sq), ?_, ?_⟩
        · rw [lens_mk, List.length_map, mkS_length]; exact Nat.le_trans t.1 (by decide)
        · rw [TL.join_eq, join_mk]; exact k.go hr t.2 (.str _)
    · exact t.elim
  · exact t.elim
def alnumS (s : List Nat) : Bool := decide (s.length > 0) && s.all Unicode.isAlnum
def isalnumW : W → List W → HW → KW → Prop := fun x ws h R => match x, ws with
  | .str a, [] => R (.bl (alnumS a)) h
  | _, _ => False
theorem lf_isalnum : LfM K (fun x xs H Q => ∃ a, x = .str a ∧ xs = [] ∧ True ∧ Q (.bl (Txt.isalnum a)) H) isalnumW := fun x xs H Q w ws h R r rs hr t k => by
  unfold isalnumW at t
  split at t
  · rename_i a
    cases r
    cases rs
    refine ⟨_, rfl, rfl, trivial, ?_⟩
    have e : Txt.isalnum (mkS a) = alnumS a := by
      simp [Txt.isalnum, alnumS, Str.length, mkS]
    rw [e]; exact k.go hr t (.bl _)
  · exact t.elim
end
end Wl

set_option Elab.async false
set_option linter.all false
set_option maxRecDepth 100000
namespace Wl
open PySem PySem.Spec PyProof.Rows L2
/-! ## what is walked -/
structure ItW (K : PySem.W.Frag) (J : It) (H0 : Hp) (h0 : HW) (ws : List W) : Prop where
  step : ∀ i H h w, ST H0 h0 H h → HR K H h → ws[i]? = some w → J.go i H ∧ ∀ x H', J.yld i H x H' → ST H h H' h ∧ HR K H' h ∧ RW K H' h x w
  stop : ∀ i H h, ST H0 h0 H h → HR K H h → ws.length ≤ i → J.stop i H
abbrev TIW := SlW → HW → (List W → HW → Prop) → Prop
def lI (K : PySem.W.Frag) (L : Lk) (t : TIW) : TI := fun σ H R => ∃ ρ h P, Sta K L σ H ρ h ∧ t ρ h P ∧ ∀ ws h' J H', P ws h' → ST H h H' h' → HR K H' h' → ItW K J H' h' ws → R J H'
abbrev WI (X : Cx) (L : Lk) (tg e : Expr) (t : TIW) : Prop := PI X tg e (lI X.K L t)
theorem _root_.L2.PI.imp {X : Cx} {tg e : Expr} {t t' : TI} (h : PI X tg e t) (i : ∀ σ H Q, t' σ H Q → t σ H Q) : PI X tg e t' := ⟨fun p s σ H Q I q => h.run p s σ H Q I (i _ _ _ q)⟩
section
variable {X : Cx} {L : Lk} {tg e : Expr} {te : TEW} {pos p : Pos}
/-- a list or a tuple that stays -/
def oItL (te : TEW) : TIW := fun ρ h P => te ρ h fun x h1 => match x with | .lst ws => P ws h1 | .scr ws => P ws h1 | _ => False
def oItT (te : TEW) : TIW := fun ρ h P => te ρ h fun x h1 => match x with | .tup ws => P ws h1 | _ => False
theorem itSq {K : PySem.W.Frag} {H : Hp} {h : HW} {a : Addr} {vs : List V} {ws : List W} (f : ∀ H' h', ST H h H' h' → SqL K H' a vs) (r : RWs K H h vs ws) : ItW K (Itl K a) H h ws where
  step := fun i H1 h1 w st hr e => by
    obtain ⟨v, e1, e2⟩ := (r.mono st).get e
    refine ⟨⟨vs, v, f _ _ st, e1⟩, fun x H' ⟨eH, y⟩ => ?_⟩
    subst eH
    have := y vs (f _ _ st)
    rw [e1] at this; cases this
    exact ⟨.refl _ _, hr, e2⟩
  stop := fun i H1 h1 st hr e => ⟨vs, f _ _ st, by rw [r.length]; exact e⟩
theorem itSqT {K : PySem.W.Frag} {H : Hp} {h : HW} {a : Addr} {vs : List V} {ws : List W} (f : ∀ H' h', ST H h H' h' → SqT K H' a vs) (r : RWs K H h vs ws) : ItW K (Itt K a) H h ws where
  step := fun i H1 h1 w st hr e => by
    obtain ⟨v, e1, e2⟩ := (r.mono st).get e
    refine ⟨⟨vs, v, f _ _ st, e1⟩, fun x H' ⟨eH, y⟩ => ?_⟩
    subst eH
    have := y vs (f _ _ st)
    rw [e1] at this; cases this
    exact ⟨.refl _ _, hr, e2⟩
  stop := fun i H1 h1 st hr e => ⟨vs, f _ _ st, by rw [r.length]; exact e⟩
theorem wi_list (he : WE X L e te) : WI X L tg e (oItL te) := (pi_list he).imp fun σ H Q ⟨ρ, h, P, S, t, k⟩ =>
  ⟨ρ, h, _, S, t, fun w1 h1 v1 H1 t1 s1 r1 q1 => by
    cases w1 with
    | lst ws => cases q1 with | lst f q => exact ⟨_, rfl, ⟨_, f.sq⟩, k _ h1 _ H1 t1 s1 r1 (itSq (fun _ _ st => (f.mono st).sq) q)⟩
    | scr ws => cases q1 with | scr f q => exact ⟨_, rfl, ⟨_, f.sq⟩, k _ h1 _ H1 t1 s1 r1 (itSq (fun _ _ st => (f.mono st).sq) q)⟩
    | _ => exact t1.elim⟩
theorem wi_tup (he : WE X L e te) : WI X L tg e (oItT te) := (pi_tup he).imp fun σ H Q ⟨ρ, h, P, S, t, k⟩ =>
  ⟨ρ, h, _, S, t, fun w1 h1 v1 H1 t1 s1 r1 q1 => by
    cases w1 with
    | tup ws => cases q1 with | tup f q => exact ⟨_, rfl, ⟨_, f.sq⟩, k _ h1 _ H1 t1 s1 r1 (itSqT (fun _ _ st => (f.mono st).sq) q)⟩
    | _ => exact t1.elim⟩
/-- a text's signs -/
def oItS (te : TEW) : TIW := fun ρ h P => te ρ h fun x h1 => match x with | .str s => P (s.map fun c => .str [c]) h1 | _ => False
theorem itS {K : PySem.W.Frag} {H : Hp} {h : HW} (s : List Nat) : ItW K (Its (mkS s)) H h (s.map fun c => .str [c]) where
  step := fun i H1 h1 w st hr e => by
    rw [List.getElem?_map] at e
    obtain ⟨c, e1, e2⟩ := Option.map_eq_some_iff.mp e
    refine ⟨?_, fun x H' ⟨eH, c', e3, e4⟩ => ?_⟩
    · have := (List.getElem?_eq_some_iff.mp e1).1
      show i < (mkS s).cps.size
      simpa [mkS] using this
    · subst eH e2 e4
      have e5 : s[i]? = some c' := by simpa [mkS] using e3
      rw [e1] at e5; cases e5
      exact ⟨.refl _ _, hr, .str [c]⟩
  stop := fun i H1 h1 st hr e => by
    have : s.length ≤ i := by simpa using e
    show (mkS s).cps.size ≤ i
    simpa [mkS] using this
theorem wi_str (he : WE X L e te) : WI X L tg e (oItS te) := (pi_str he).imp fun σ H Q ⟨ρ, h, P, S, t, k⟩ =>
  ⟨ρ, h, _, S, t, fun w1 h1 v1 H1 t1 s1 r1 q1 => by
    cases w1 with
    | str s => cases q1; exact ⟨_, rfl, k _ h1 _ H1 t1 s1 r1 (itS s)⟩
    | _ => exact t1.elim⟩
/-- range -/
def rngW (lo : Int) (n : Nat) : List W := (List.range n).map fun i => .int (lo + (i : Nat))
theorem itR {K : PySem.W.Frag} {H : Hp} {h : HW} (lo : Int) (n : Nat) : ItW K (Itr lo n) H h (rngW lo n) where
  step := fun i H1 h1 w st hr e => by
    unfold rngW at e
    rw [List.getElem?_map] at e
    obtain ⟨c, e1, e2⟩ := Option.map_eq_some_iff.mp e
    have hi : i < n := by
      have := (List.getElem?_eq_some_iff.mp e1).1
      simpa using this
    have hc : c = i := by
      rw [List.getElem?_range hi] at e1; cases e1; rfl
    refine ⟨hi, fun x H' ⟨eH, e3⟩ => ?_⟩
    subst eH e2 e3 hc
    exact ⟨.refl _ _, hr, .int _⟩
  stop := fun i H1 h1 st hr e => by
    have : n ≤ i := by simpa [rngW] using e
    exact this
def oRng1 (ta : TAW) : TIW := fun ρ h P => ta ρ h fun ws h1 => match ws with | [.int j] => (-4611686018427387904 ≤ j ∧ j < 4611686018427387904) ∧ P (rngW 0 j.toNat) h1 | _ => False
def oRng2 (ta : TAW) : TIW := fun ρ h P => ta ρ h fun ws h1 => match ws with
  | [.int i, .int j] => (-4611686018427387904 ≤ i ∧ i < 4611686018427387904 ∧ -4611686018427387904 ≤ j ∧ j < 4611686018427387904) ∧ P (rngW i (j - i).toNat) h1
  | _ => False
theorem wi_range1 {a : Expr} {ta : TAW} (hg : Gl X "range") (hm : X.mg "range" = none) (ha : WA X L [a] ta) (hs : starEach [a] X.env = [(false, eval a X.env)] := by rfl) : WI X L tg (.Call (.Name "range" p) [a] [] pos) (oRng1 ta) := (pi_range1 hg hm ha hs).imp fun σ H Q ⟨ρ, h, P, S, t, k⟩ =>
  ⟨ρ, h, _, S, t, fun ws h1 vs H1 t1 s1 r1 q1 => by
    split at t1
    · obtain ⟨v, rfl, r⟩ := q1.one
      cases r
      exact ⟨_, rfl, by omega, by omega, k _ h1 _ H1 t1.2 s1 r1 (itR _ _)⟩
    · exact t1.elim⟩
theorem wi_range2 {a b : Expr} {ta : TAW} (hg : Gl X "range") (hm : X.mg "range" = none) (ha : WA X L [a, b] ta) (hs : starEach [a, b] X.env = [(false, eval a X.env), (false, eval b X.env)] := by rfl) (hs2 : starEach [b] X.env = [(false, eval b X.env)] := by rfl) :
    WI X L tg (.Call (.Name "range" p) [a, b] [] pos) (oRng2 ta) := (pi_range2 hg hm ha hs hs2).imp fun σ H Q ⟨ρ, h, P, S, t, k⟩ =>
  ⟨ρ, h, _, S, t, fun ws h1 vs H1 t1 s1 r1 q1 => by
    split at t1
    · obtain ⟨v, u, rfl, r, r'⟩ := q1.two
      cases r; cases r'
      exact ⟨_, _, rfl, by omega, k _ h1 _ H1 t1.2 s1 r1 (itR _ _)⟩
    · exact t1.elim⟩
end
/-! ## targets -/
abbrev TGW := W → SlW → HW → (SlW → HW → Prop) → Prop
abbrev TGsW := List W → SlW → HW → (SlW → HW → Prop) → Prop
def lG (K : PySem.W.Frag) (L : Lk) (g : TGW) : TG := fun v σ H Q => ∃ w ρ h P, RW K H h v w ∧ Sta K L σ H ρ h ∧ g w ρ h P ∧ KN K H h P Q
def lGs (K : PySem.W.Frag) (L : Lk) (g : TGsW) : TGs := fun vs σ H Q => ∃ ws ρ h P, RWs K H h vs ws ∧ Sta K L σ H ρ h ∧ g ws ρ h P ∧ KN K H h P Q
abbrev WG (X : Cx) (L : Lk) (tg : Expr) (g : TGW) : Prop := PG X tg (lG X.K L g)
theorem _root_.L2.PG.imp {X : Cx} {tg : Expr} {t t' : TG} (h : PG X tg t) (i : ∀ v σ H Q, t' v σ H Q → t v σ H Q) : PG X tg t' := ⟨fun p s σ H v u Q I r q => h.run p s σ H v u Q I r (i _ _ _ _ q)⟩
theorem _root_.L2.PGs.imp {X : Cx} {tg : List Expr} {t t' : TGs} (h : PGs X tg t) (i : ∀ v σ H Q, t' v σ H Q → t v σ H Q) : PGs X tg t' := ⟨fun p s σ H v u Q I r q => h.run p s σ H v u Q I r (i _ _ _ _ q)⟩
section
variable {X : Cx} {L : Lk} {pos : Pos} {e : Expr} {es : List Expr}
def gN (i : Nat) : TGW := fun w ρ h P => P (ρ.set i (some w)) h
theorem wg_name {i : Nat} {x : Str} (hN : X.N.Nodup) (hi : X.N[i]? = some x := by rfl) (hx : Loc X.env.scope x := by first | exact .inl rfl | exact .inr rfl) (hf : X.fn x = true ∨ X.env.scope.names.lookup x = some .local := by first | exact .inl rfl | exact .inr rfl | assumption) : WG X L (.Name x pos) (gN i) :=
  (pg_name hN hi hx hf).imp fun v σ H Q ⟨w, ρ, h, P, r, S, t, k⟩ => k _ h _ H t (.refl _ _) S.hr (S.sr.set r i)
def gNilW : TGsW := fun ws ρ h P => match ws with | [] => P ρ h | _ => False
def gConsW (g : TGW) (gs : TGsW) : TGsW := fun ws ρ h P => match ws with | w :: r => g w ρ h fun ρ' h' => gs r ρ' h' P | _ => False
theorem wgs_nil : PGs X [] (lGs X.K L gNilW) := pgs_nil.imp fun vs σ H Q ⟨ws, ρ, h, P, r, S, t, k⟩ => by
  cases ws with
  | nil => cases r; exact ⟨rfl, k _ h _ H t (.refl _ _) S.hr S.sr⟩
  | cons => exact t.elim
theorem wgs_cons {g : TGW} {gs : TGsW} (h1 : WG X L e g) (h2 : PGs X es (lGs X.K L gs)) (el : ∀ {H h H' h'}, L.el H h → ST H h H' h' → L.el H' h' := L.mono)
    (hs : (assignEach (e :: es) X.env).map (·.2) = assign e X.env :: (assignEach es X.env).map (·.2) := by rfl) : PGs X (e :: es) (lGs X.K L (gConsW g gs)) := (pgs_cons h1 h2 hs).imp fun vs σ H Q ⟨ws, ρ, h, P, r, S, t, k⟩ => by
  cases ws with
  | nil => exact t.elim
  | cons w ws =>
    cases r with
    | cons r q => exact ⟨_, _, rfl, w, ρ, h, _, r, S, t, fun ρ1 h1 σ1 H1 t1 s1 r1 q1 => ⟨ws, ρ1, h1, P, q.mono s1, ⟨q1, r1, el S.el s1⟩, t1, k.mono s1⟩⟩
def gT (n : Nat) (gs : TGsW) : TGW := fun w ρ h P => match w with | .tup ws => ws.length = n ∧ gs ws ρ h P | _ => False
theorem wg_tup {k n : Nat} {gs : TGsW} (hc : X.calm = true) (h : PGs X es (lGs X.K L gs)) (hn : (assignEach es X.env).length = n := by rfl) (hst : (assignEach es X.env).findIdx? (·.1) = none := by rfl) : WG X L (.Tuple es k pos) (gT n gs) :=
  (pg_tup hc h hn hst).imp fun v σ H Q ⟨w, ρ, h, P, r, S, t, k⟩ => by
    cases w with
    | tup ws => cases r with | tup f q => exact ⟨_, _, rfl, f.sq, by rw [q.length]; exact t.1, ws, ρ, h, P, q, S, t.2, k⟩
    | _ => exact t.elim
end
/-! ## statements -/
section
variable {X : Cx} {L : Lk} {pos : Pos} {e c : Expr} {te : TEW} {st : Stmt} {rest a b : List Stmt} {t u : TSW} {tc : TTW}
def sNext : TSW := fun D ρ h => D.nx ρ h
def sSeq (t u : TSW) : TSW := fun D ρ h => t (D.wn (u D)) ρ h
theorem wss_nil : WSs X L [] sNext := pss_nil.imp fun D σ H ⟨ρ, h, DW, S, t, k⟩ => k.nx _ h _ H t (.refl _ _) S.hr S.sr
theorem wss_cons (h1 : WS X L st t) (h2 : WSs X L rest u) : WSs X L (st :: rest) (sSeq t u) := (pss_cons h1 h2).imp fun D σ H ⟨ρ, h, DW, S, t, k⟩ =>
  ⟨ρ, h, _, S, t, ⟨fun ρ1 h1 σ1 H1 t1 s1 r1 q1 => ⟨ρ1, h1, DW, ⟨q1, r1, L.mono S.el s1⟩, t1, k.mono s1⟩, k.rt, k.bk, k.ct⟩⟩
theorem wss_one (h1 : WS X L st t) : WSs X L [st] t := pss_one h1
def sBreak : TSW := fun D ρ h => D.bk ρ h
def sCont : TSW := fun D ρ h => D.ct ρ h
theorem ws_pass : WS X L (.Pass pos) sNext := ps_pass.imp fun D σ H ⟨ρ, h, DW, S, t, k⟩ => k.nx _ h _ H t (.refl _ _) S.hr S.sr
theorem ws_break : WS X L (.Break pos) sBreak := ps_break.imp fun D σ H ⟨ρ, h, DW, S, t, k⟩ => k.bk _ h _ H t (.refl _ _) S.hr S.sr
theorem ws_continue : WS X L (.Continue pos) sCont := ps_continue.imp fun D σ H ⟨ρ, h, DW, S, t, k⟩ => k.ct _ h _ H t (.refl _ _) S.hr S.sr
theorem ws_doc {x j pos pos'} : WS X L (.Expr (.Constant (.str x) j pos) pos') sNext := ps_doc.imp fun D σ H ⟨ρ, h, DW, S, t, k⟩ => k.nx _ h _ H t (.refl _ _) S.hr S.sr
def sDrop (te : TEW) : TSW := fun D ρ h => te ρ h fun _ h1 => D.nx ρ h1
theorem ws_expr (he : WE X L e te) (hs : swapsWith e none pos.line X.env = pure false := by rfl) : WS X L (.Expr e pos) (sDrop te) := (ps_expr he hs).imp fun D σ H ⟨ρ, h, DW, S, t, k⟩ =>
  ⟨ρ, h, _, S, t, fun w1 h1 v1 H1 t1 s1 r1 q1 => k.nx _ h1 _ H1 t1 s1 r1 (S.sr.mono s1)⟩
def sRet (te : TEW) : TSW := fun D ρ h => te ρ h D.rt
theorem ws_ret (he : WE X L e te) : WS X L (.Return (some e) pos) (sRet te) := (ps_ret he).imp fun D σ H ⟨ρ, h, DW, S, t, k⟩ => ⟨ρ, h, _, S, t, k.rt⟩
def sRetN : TSW := fun D _ h => D.rt .non h
theorem ws_retN : WS X L (.Return none pos) sRetN := ps_retN.imp fun D σ H ⟨ρ, h, DW, S, t, k⟩ => k.rt _ h _ H t (.refl _ _) S.hr .non
def sIf (c : TTW) (t u : TSW) : TSW := fun D ρ h => c ρ h fun b h1 => if b = true then t D ρ h1 else u D ρ h1
theorem ws_if (hc : WT X L c tc) (ha : WSs X L a t) (hb : WSs X L b u) : WS X L (.If c a b pos) (sIf tc t u) := (ps_if hc ha hb).imp fun D σ H ⟨ρ, h, DW, S, t, k⟩ =>
  ⟨ρ, h, _, S, t, fun b h1 H1 t1 s1 r1 => by
    cases b with
    | true => exact ⟨ρ, h1, DW, S.to s1 r1, t1, k.mono s1⟩
    | false => exact ⟨ρ, h1, DW, S.to s1 r1, t1, k.mono s1⟩⟩
def sNever : TSW := fun _ _ _ => False
theorem ws_never : WS X L st sNever := ps_never.imp fun D σ H ⟨ρ, h, DW, S, t, k⟩ => t.elim
theorem wss_never : WSs X L rest sNever := pss_never.imp fun D σ H ⟨ρ, h, DW, S, t, k⟩ => t.elim
def sAsg (te : TEW) (g : TGW) : TSW := fun D ρ h => te ρ h fun x h1 => g x ρ h1 D.nx
theorem ws_set {i : Nat} {x : Str} {pos' : Pos} (hN : X.N.Nodup) (he : WE X L e te) (hi : X.N[i]? = some x := by rfl) (hx : Loc X.env.scope x := by first | exact .inl rfl | exact .inr rfl) (hs : swapsWith e (some (.Name x pos')) pos.line X.env = pure false := by rfl) (hf : X.fn x = true ∨ X.env.scope.names.lookup x = some .local := by first | exact .inl rfl | exact .inr rfl | assumption) :
    WS X L (.Assign [.Name x pos'] e pos) (sAsg te (gN i)) := (ps_set hN hi hx he hs hf).imp fun D σ H ⟨ρ, h, DW, S, t, k⟩ =>
  ⟨ρ, h, _, S, t, fun w1 h1 v1 H1 t1 s1 r1 q1 => k.nx _ h1 _ H1 t1 s1 r1 ((S.sr.mono s1).set q1 i)⟩
theorem ws_asg {tg : Expr} {g : TGW} (he : WE X L e te) (hg : WG X L tg g) (hs : swapsWithSole [tg] e pos.line X.env = pure false := by rfl) (hw : swappedStores [tg] e X.env = pure none := by rfl)
    (h1 : (assignEach [tg] X.env).map (·.2) = [assign tg X.env] := by rfl) : WS X L (.Assign [tg] e pos) (sAsg te g) := (ps_asg he hg hs hw h1).imp fun D σ H ⟨ρ, h, DW, S, t, k⟩ =>
  ⟨ρ, h, _, S, t, fun w1 h1 v1 H1 t1 s1 r1 q1 => ⟨w1, ρ, h1, _, q1, S.to s1 r1, t1, k.nx.mono s1⟩⟩
/-- name op= e -/
def Lf2i (K : PySem.W.Frag) (r : TIp) (rw : RW2) : Prop := ∀ x y H Q w1 w2 h R, RW K H h x w1 → RW K H h y w2 → HR K H h → rw w1 w2 h R → KV K H h R Q → r x y H Q
def sAug (i : Nat) (te : TEW) (rw : RW2) : TSW := fun D ρ h => match sl ρ i with | some w => te ρ h fun y h1 => rw w y h1 fun z h2 => D.nx (ρ.set i (some z)) h2 | none => False
theorem ws_aug {i : Nat} {x : Str} {op : Operator} {r : R2} {rw : RW2} {pos' : Pos} (hN : X.N.Nodup) (he : WE X L e te) (ho : OpR X (inplaceOp op) r) (l : Lf2 X.K r rw) (hi : X.N[i]? = some x := by rfl) (hx : Loc X.env.scope x := by first | exact .inl rfl | exact .inr rfl)
    (hf : X.fn x = true ∨ X.env.scope.names.lookup x = some .local := by first | exact .inl rfl | exact .inr rfl | assumption) : WS X L (.AugAssign (.Name x pos') op e pos) (sAug i te rw) := (ps_aug hN hi hx he ho hf).imp fun D σ H ⟨ρ, h, DW, S, t, k⟩ => by
  unfold sAug at t
  split at t
  · rename_i w ew
    obtain ⟨v, e1, r1⟩ := S.sr.get ew
    exact ⟨v, e1, ρ, h, _, S, t, fun w1 h1 v1 H1 t1 s1 r2 q1 => l v v1 H1 _ w w1 h1 _ (r1.mono s1) q1 r2 t1 fun w2 h2 v2 H2 t2 s2 r3 q2 => k.nx _ h2 _ H2 t2 (s1.trans s2) r3 ((S.sr.mono (s1.trans s2)).set q2 i)⟩
  · exact t.elim
/-! ## loops -/
/-- what is known is forgotten: objects that nobody owns any more, slots -/
def CN (P : SlW → HW → Prop) : SlW → HW → Prop := fun ρ h => ∃ ρ0 h0, P ρ0 h0 ∧ SubS ρ0 ρ ∧ Sub h0 h
theorem CN.of {P : SlW → HW → Prop} {ρ : SlW} {h : HW} (p : P ρ h) : CN P ρ h := ⟨ρ, h, p, .refl _, .refl _⟩
theorem CN.sl {P : SlW → HW → Prop} {ρ ρ0 : SlW} {h : HW} (p : P ρ0 h) (s : SubS ρ0 ρ) : CN P ρ h := ⟨ρ0, h, p, s, .refl _⟩
def sFor (ti : TIW) (g : TGW) (tb : TSW) : TSW := fun D ρ h => ti ρ h fun ws h1 => ∃ Pv : Nat → SlW → HW → Prop, CN (Pv 0) ρ h1 ∧
  (∀ i w ρ' h', ws[i]? = some w → Pv i ρ' h' → g w ρ' h' fun ρ2 h2 => tb (D.lp (CN (Pv (i + 1))) D.nx) ρ2 h2) ∧ ∀ ρ' h', Pv ws.length ρ' h' → D.nx ρ' h'
theorem ws_for {tg it : Expr} {body : List Stmt} {ti : TIW} {g : TGW} {tb : TSW} (hp : PassesOwn (model X.prog X.w) X.A X.env X.xe) (hc : X.calm = true) (hi : WI X L tg it ti) (hg : WG X L tg g) (hb : WSs X L body tb)
    (hs : ∀ x, foldedSetIterable it X.env x = pure x := by intro _; rfl) : WS X L (.For tg it body [] pos) (sFor ti g tb) := (ps_for hp hc hi hg hb hs).imp fun D σ H ⟨ρ, h, DW, S, t, k⟩ =>
  ⟨ρ, h, _, S, t, fun ws h1 J H1 ⟨Pv, p0, turn, fin⟩ s1 r1 I => by
    refine ⟨fun i m σ' H' => m = ws.length - i ∧ i ≤ ws.length ∧ ∃ ρ' h', Pv i ρ' h' ∧ Sta X.K L σ' H' ρ' h' ∧ ST H1 h1 H' h', ?_, ?_⟩
    · obtain ⟨ρ0, h0, p, e1, e2⟩ := p0
      exact ⟨_, rfl, Nat.zero_le _, ρ0, h0, p, ⟨((S.sr.mono s1).mono (.drop e2)).sub e1, r1.drop e2, L.mono (L.mono S.el s1) (.drop e2)⟩, .drop e2⟩
    · rintro i m σ' H' ⟨rfl, hi, ρ', h', p, S', st⟩
      by_cases hlt : i < ws.length
      · have hw : ws[i]? = some ws[i] := List.getElem?_eq_getElem hlt
        obtain ⟨go, yl⟩ := I.step i H' h' ws[i] st S'.hr hw
        refine .inr ⟨go, fun σ2 H2 => ∃ ρ' h', Pv (i + 1) ρ' h' ∧ Sta X.K L σ2 H2 ρ' h' ∧ ST H1 h1 H2 h', fun σ2 H2 p' => ⟨ws.length - (i + 1), by omega, rfl, hlt, p'⟩, fun x H2 y => ?_⟩
        obtain ⟨st2, hr2, rx⟩ := yl x H2 y
        have S2 := S'.to st2 hr2
        refine ⟨ws[i], ρ', h', _, rx, S2, turn i _ ρ' h' hw p, fun ρ2 h2 σ2 H3 t2 s2 r2 q2 => ⟨ρ2, h2, _, ⟨q2, r2, L.mono S2.el s2⟩, t2, ?_⟩⟩
        have tot : ST H1 h1 H3 h2 := (st.trans st2).trans s2
        have nxt : KN X.K H3 h2 (CN (Pv (i + 1))) fun σ2 H2 => ∃ ρ' h', Pv (i + 1) ρ' h' ∧ Sta X.K L σ2 H2 ρ' h' ∧ ST H1 h1 H2 h' := fun ρ4 h4 σ4 H4 ⟨ρ0, h0, p, e1, e2⟩ s4 r4 q4 =>
          ⟨ρ0, h0, p, ⟨(q4.mono (.drop e2)).sub e1, r4.drop e2, L.mono (L.mono (L.mono S2.el s2) s4) (.drop e2)⟩, (tot.trans s4).trans (.drop e2)⟩
        exact ⟨nxt, k.rt.mono (s1.trans tot), k.nx.mono (s1.trans tot), nxt⟩
      · have e : i = ws.length := by omega
        subst e
        exact .inl ⟨I.stop _ H' h' st S'.hr (Nat.le_refl _), k.nx _ h' _ H' (fin ρ' h' p) (s1.trans st) S'.hr S'.sr⟩⟩
def sWhile (c : TTW) (tb : TSW) : TSW := fun D ρ h => ∃ Pv : Nat → SlW → HW → Prop, (∃ m, CN (Pv m) ρ h) ∧ ∀ m ρ' h', Pv m ρ' h' →
  c ρ' h' fun b h1 => if b = true then tb (D.lp (CN fun ρ2 h2 => ∃ m', m' < m ∧ Pv m' ρ2 h2) D.nx) ρ' h1 else D.nx ρ' h1
theorem ws_while {body : List Stmt} {tb : TSW} (hp : PassesOwn (model X.prog X.w) X.A X.env X.xe) (hc : WT X L c tc) (hb : WSs X L body tb) : WS X L (.While c body [] pos) (sWhile tc tb) := (ps_while hp hc hb).imp fun D σ H ⟨ρ, h, DW, S, t, k⟩ => by
  obtain ⟨Pv, ⟨m0, ρ0, h0, p0, e1, e2⟩, turn⟩ := t
  refine ⟨fun m σ' H' => ∃ ρ' h', Pv m ρ' h' ∧ Sta X.K L σ' H' ρ' h' ∧ ST H h H' h', ⟨m0, ρ0, h0, p0, ⟨(S.sr.mono (.drop e2)).sub e1, S.hr.drop e2, L.mono S.el (.drop e2)⟩, .drop e2⟩, ?_⟩
  rintro m σ' H' ⟨ρ', h', p, S', st⟩
  refine ⟨ρ', h', _, S', turn m ρ' h' p, fun b h1 H1 t1 s1 r1 => ?_⟩
  cases b with
  | false => exact k.nx _ h1 _ H1 t1 (st.trans s1) r1 (S'.sr.mono s1)
  | true =>
    have nxt : KN X.K H1 h1 (CN fun ρ2 h2 => ∃ m', m' < m ∧ Pv m' ρ2 h2) fun σ2 H2 => ∃ m', m' < m ∧ ∃ ρ' h', Pv m' ρ' h' ∧ Sta X.K L σ2 H2 ρ' h' ∧ ST H h H2 h' := fun ρ4 h4 σ4 H4 ⟨ρ0, h0, ⟨m', hm, p⟩, e1, e2⟩ s4 r4 q4 =>
      ⟨m', hm, ρ0, h0, p, ⟨(q4.mono (.drop e2)).sub e1, r4.drop e2, L.mono (L.mono (L.mono S'.el s1) s4) (.drop e2)⟩, ((st.trans s1).trans s4).trans (.drop e2)⟩
    exact ⟨_, fun _ _ q => q, ρ', h1, _, S'.to s1 r1, t1, ⟨nxt, k.rt.mono (st.trans s1), k.nx.mono (st.trans s1), nxt⟩⟩
end
end Wl

set_option Elab.async false
set_option linter.all false
set_option maxRecDepth 100000
namespace Wl
open PySem PySem.Spec PyProof.Rows L2
/-! ## a def's promise -/
abbrev SpW := List W → HW → KW → (XW → HW → Prop) → Prop
def lSp (K : PySem.W.Frag) (sp : SpW) : Sp := fun vs H Q E => ∃ ws h R ex, RWs K H h vs ws ∧ HR K H h ∧ sp ws h R ex ∧ KV K H h R Q ∧ (Lk.of K E ex).el H h
/-- no exception -/
abbrev noX : XW → HW → Prop := fun _ _ => False
/-! owned lists and dicts within a value that nobody will write any more -/
mutual
inductive FrW (h h0 : HW) : W → W → Prop
  | same (w : W) : FrW h h0 w w
  | lst {p : Addr} {ws ws' : List W} (e : h p = some (.lst ws)) (n : h0 p = none) (r : FrWs h h0 ws ws') : FrW h h0 (.ref p) (.lst ws')
  | dic {p : Addr} {kws : List (L2.Key × W)} (e : h p = some (.dic kws)) (n : h0 p = none) : FrW h h0 (.ref p) (.dic kws)
  | tup {ws ws' : List W} (r : FrWs h h0 ws ws') : FrW h h0 (.tup ws) (.tup ws')
  | lstV {ws ws' : List W} (r : FrWs h h0 ws ws') : FrW h h0 (.lst ws) (.lst ws')
inductive FrWs (h h0 : HW) : List W → List W → Prop
  | nil : FrWs h h0 [] []
  | cons {w w' : W} {ws ws' : List W} (r : FrW h h0 w w') (t : FrWs h h0 ws ws') : FrWs h h0 (w :: ws) (w' :: ws')
end
theorem FrWs.same {h h0 : HW} : ∀ ws : List W, FrWs h h0 ws ws
  | [] => .nil
  | w :: ws => .cons (.same w) (FrWs.same ws)
section
variable {K : PySem.W.Frag} {H : Hp} {h h0 : HW}
mutual
theorem FrW.rw (hr : HR K H h) (s : Sub h0 h) : ∀ {w w' : W}, FrW h h0 w w' → ∀ {v : V}, RW K H h v w → RW K H h0 v w'
  | _, _, .same w, _, r => r.mono (.drop s)
  | _, _, .lst e n q, v, r => by
    cases r
    obtain ⟨vs, hv, r⟩ := hr _ _ e
    exact .lst ⟨hv, n⟩ (FrWs.rws hr s q r)
  | _, _, .dic e n, v, r => by
    cases r
    obtain ⟨vs, hv, r⟩ := hr _ _ e
    exact .dic ⟨hv, n⟩ (r.mono (.drop s))
  | _, _, .tup q, v, r => by
    cases r with
    | tup f r => exact .tup (f.mono (.drop s)) (FrWs.rws hr s q r)
  | _, _, .lstV q, v, r => by
    cases r with
    | lst f r => exact .lst (f.mono (.drop s)) (FrWs.rws hr s q r)
theorem FrWs.rws (hr : HR K H h) (s : Sub h0 h) : ∀ {w w' : List W}, FrWs h h0 w w' → ∀ {v : List V}, RWs K H h v w → RWs K H h0 v w'
  | _, _, .nil, _, r => by cases r; exact .nil
  | _, _, .cons q t, _, r => by
    cases r with
    | cons r u => exact .cons (FrW.rw hr s q r) (FrWs.rws hr s t u)
end
end
/-- what a value's way out may forget: objects that nobody owns any more -/
inductive Cl (R : KW) : W → HW → Prop
  | mk {w w' : W} {h0 h : HW} (r : R w' h0) (f : FrW h h0 w w') (s : Sub h0 h) : Cl R w h
theorem Cl.base {R : KW} {w : W} {h0 h : HW} (r : R w h0) (s : Sub h0 h) : Cl R w h := .mk r (.same w) s
theorem Cl.of {R : KW} {w : W} {h : HW} (r : R w h) : Cl R w h := .base r (.refl _)
theorem Cl.frL {R : KW} {p : Addr} {ws : List W} {h0 h : HW} (e : h p = some (.lst ws)) (r : R (.lst ws) h0) (n : h0 p = none) (s : Sub h0 h) : Cl R (.ref p) h := .mk r (.lst e n (.same ws)) s
theorem KV.cl {K : PySem.W.Frag} {H : Hp} {h : HW} {R : KW} {Q : VK} (k : KV K H h R Q) : KV K H h (Cl R) Q := fun w h' v H' c st hr rw => by
  cases c with
  | mk r f s => exact k _ _ v H' r (st.trans (.drop s)) (hr.drop s) (f.rw hr s rw)
section
variable {P : Program} {w : World} {K : PySem.W.Frag} {mg : Str → Option Value} {base : Heap}
theorem fnW {x qual : Str} {st : Stmt} {f : Addr} {fd : FuncData} {N ps : List Str} {k : Nat} {sp : SpW} (F : Fun K x qual st f fd) (S : FnScope N ps (defScope st)) (len : ∀ ws h R ex, sp ws h R ex → ws.length = ps.length)
    (hbody : ∀ (cdv : Value) (A : Around) (outer : List Env) (s : Shared) (H : Hp) (E : XK), Room k (A.deeper (envOfC qual (defScope st) s.heap.objs.size f cdv)) →
      ∃ t, WSs (cxOf CX0 P w K mg base N qual (defScope st) f cdv A outer s H E).nox Lk.no (defBody st) t ∧ ∀ ws h R ex, sp ws h R ex → t { nx := fun _ h' => Cl R .non h', rt := Cl R } (startW N.length ws) h) : FnOk P w K mg base CX0 (k + 1) f fd ps (lSp K sp) := by
  refine F.ok S (fun vs H Q E ⟨ws, h, R, ex, r, hr, q, kv, el⟩ => by rw [r.length]; exact len _ _ _ _ q) fun cdv A outer s H vs Q E hro ⟨ws, h, R, ex, r, hr, q, kv, el⟩ => ?_
  obtain ⟨t, ht, go⟩ := hbody cdv A outer s H E hro
  exact ⟨_, ht, _, h, _, ⟨.start r, hr, trivial⟩, go ws h R ex q, ⟨fun _ h' _ H' c st hr _ => kv.cl _ h' _ H' c st hr .non, kv.cl, fun _ _ _ _ c => c.elim, fun _ _ _ _ c => c.elim⟩⟩
/-- .. for a def that may raise -/
theorem fnWX {x qual : Str} {st : Stmt} {f : Addr} {fd : FuncData} {N ps : List Str} {k : Nat} {sp : SpW} (F : Fun K x qual st f fd) (S : FnScope N ps (defScope st)) (len : ∀ ws h R ex, sp ws h R ex → ws.length = ps.length)
    (hbody : ∀ (cdv : Value) (A : Around) (outer : List Env) (s : Shared) (H : Hp) (E : XK) (ex : XW → HW → Prop), Room k (A.deeper (envOfC qual (defScope st) s.heap.objs.size f cdv)) →
      ∃ t, WSs (cxOf (L2.CX P w) P w K mg base N qual (defScope st) f cdv A outer s H E) (Lk.of K E ex) (defBody st) t ∧ ∀ ws h R, sp ws h R ex → t { nx := fun _ h' => Cl R .non h', rt := Cl R } (startW N.length ws) h) : FnOk P w K mg base (L2.CX P w) (k + 1) f fd ps (lSp K sp) := by
  refine F.okX S (fun vs H Q E ⟨ws, h, R, ex, r, hr, q, kv, el⟩ => by rw [r.length]; exact len _ _ _ _ q) fun cdv A outer s H vs Q E hro ⟨ws, h, R, ex, r, hr, q, kv, el⟩ => ?_
  obtain ⟨t, ht, go⟩ := hbody cdv A outer s H E ex hro
  exact ⟨_, ht, _, h, _, ⟨.start r, hr, el⟩, go ws h R q, ⟨fun _ h' _ H' c st hr _ => kv.cl _ h' _ H' c st hr .non, kv.cl, fun _ _ _ _ c => c.elim, fun _ _ _ _ c => c.elim⟩⟩
end
section
variable {X : Cx} {L : Lk} {CX : CXT} {k : Nat} {f : Addr} {fd : FuncData} {ps : List Str} {sp : SpW} {x : Str} {p pos : Pos} {e : Expr} {es : List Expr} {t : TAW} {ex : XW → HW → Prop} {E : XK}
def oCall (sp : SpW) (ex : XW → HW → Prop) (t : TAW) : TEW := fun ρ h R => t ρ h fun ws h1 => sp ws h1 R ex
theorem w_callG (F : FnOk X.prog X.w X.K X.mg X.base CX k f fd ps (lSp X.K sp)) (hr : Room k X.A) (hg : Gl X x) (hm : X.mg x = some (.ref f)) (hk : PySem.W.keepIn X.K (.ref f) = true) (hb : Binds X.K fd ps []) (hx : Passes CX X E) (hE : ∀ H h, L.el H h → (Lk.of X.K E ex).el H h)
    (ha : WA X L (e :: es) t) (hdb : (x == ("__debug__" : Str)) = false := by decide) (he : starEach (e :: es) X.env = (false, eval e X.env) :: starEach es X.env := by rfl) (hpl : (backTo pos (starEach es X.env)).any (·.1) = false := by rfl) :
    WE X L (.Call (.Name x p) (e :: es) [] pos) (oCall sp ex t) := (pe_call F hr hg hm hk hb .nil hx ha hdb he hpl).imp fun σ H Q ⟨ρ, h, R, S, t, k⟩ =>
  ⟨ρ, h, _, S, t, fun ws h1 vs H1 t1 s1 r1 q1 => by
    show lSp X.K sp (vs ++ []) H1 Q E
    rw [List.append_nil]
    exact ⟨ws, h1, R, ex, q1, r1, t1, k.mono s1, hE _ _ (L.mono S.el s1)⟩⟩
theorem el_no {K : PySem.W.Frag} {H : Hp} {h : HW} : (Lk.of K E0 noX).el H h := fun _ _ _ _ e => e.elim
/-- a callee that lets nothing out -/
theorem w_call (F : FnOk X.prog X.w X.K X.mg X.base CX0 k f fd ps (lSp X.K sp)) (hr : Room k X.A) (hg : Gl X x) (hm : X.mg x = some (.ref f)) (hk : PySem.W.keepIn X.K (.ref f) = true) (hb : Binds X.K fd ps [])
    (ha : WA X L (e :: es) t) (hdb : (x == ("__debug__" : Str)) = false := by decide) (he : starEach (e :: es) X.env = (false, eval e X.env) :: starEach es X.env := by rfl) (hpl : (backTo pos (starEach es X.env)).any (·.1) = false := by rfl) :
    WE X L (.Call (.Name x p) (e :: es) [] pos) (oCall sp noX t) := w_callG F hr hg hm hk hb pass0 (fun _ _ _ => el_no) ha hdb he hpl
/-- a callee that may raise, but not here -/
theorem w_callN (F : FnOk X.prog X.w X.K X.mg X.base (L2.CX X.prog X.w) k f fd ps (lSp X.K sp)) (hr : Room k X.A) (hg : Gl X x) (hm : X.mg x = some (.ref f)) (hk : PySem.W.keepIn X.K (.ref f) = true) (hb : Binds X.K fd ps [])
    (ha : WA X L (e :: es) t) (hdb : (x == ("__debug__" : Str)) = false := by decide) (he : starEach (e :: es) X.env = (false, eval e X.env) :: starEach es X.env := by rfl) (hpl : (backTo pos (starEach es X.env)).any (·.1) = false := by rfl) :
    WE X L (.Call (.Name x p) (e :: es) [] pos) (oCall sp noX t) := w_callG F hr hg hm hk hb passL (fun _ _ _ => el_no) ha hdb he hpl
/-- a callee that may raise, within a def that lets it out -/
theorem w_callX {X : Cx} {sp : SpW} {t : TAW} (F : FnOk X.prog X.w X.K X.mg X.base (L2.CX X.prog X.w) k f fd ps (lSp X.K sp)) (hr : Room k X.A) (hg : Gl X x) (hm : X.mg x = some (.ref f)) (hk : PySem.W.keepIn X.K (.ref f) = true) (hb : Binds X.K fd ps [])
    (tk : Takes X (fun cls d _ H => E cls d H))
    (ha : WA X (Lk.of X.K E ex) (e :: es) t) (hdb : (x == ("__debug__" : Str)) = false := by decide) (he : starEach (e :: es) X.env = (false, eval e X.env) :: starEach es X.env := by rfl) (hpl : (backTo pos (starEach es X.env)).any (·.1) = false := by rfl) :
    WE X (Lk.of X.K E ex) (.Call (.Name x p) (e :: es) [] pos) (oCall sp ex t) := w_callG F hr hg hm hk hb (passes_call tk fun _ _ _ _ z => z) (fun _ _ z => z) ha hdb he hpl
/-- raise C(e), C an own exception without own __init__ -/
def sRaise (C : Addr) (ex : XW → HW → Prop) (te : TEW) : TSW := fun D ρ h => te ρ h fun _ h1 => ex ⟨C, none⟩ h1
theorem ws_raise {C : Addr} {te : TEW} {pos2 : Pos} (hc : X.calm = true) (tk : Takes X (fun cls d _ H => E cls d H)) (q : PySem.W.excIn X.K C [.type "ValueError", .type "Exception", .type "BaseException", .type "object"] "ValueError.__new__" = true) (gC : X.mg x = some (.ref C))
    (kC : PySem.W.keepIn X.K (.ref C) = true) (r1 : PySem.W.subIn X.K (.ref C) (.type "BaseException") = some true) (r2 : PySem.W.typeIn X.K (.ref C) = some (.type "type")) (hg : Gl X x) (he : WE X (Lk.of X.K E ex) e te)
    (hs : starEach [e] X.env = (false, eval e X.env) :: starEach [] X.env := by rfl) (hdb : (x == ("__debug__" : Str)) = false := by decide) : WS X (Lk.of X.K E ex) (.Raise (some (.Call (.Name x p) [e] [] pos)) none pos2) (sRaise C ex te) :=
  (ps_raise hc tk (SkE.pmk_own1 PySem.F.excBase_ValueError q gC kC (raises_own r1 r2) hg he hs hdb)).imp fun D σ H ⟨ρ, h, DW, S, t, k⟩ =>
    ⟨ρ, h, _, S, t, fun w1 h1 v1 H1 t1 s1 r1 q1 => S.el ⟨C, none⟩ h1 none H1 t1 s1 r1 rfl⟩
/-! ## f-strings -/
/-- {e}: a text or an int -/
def fmtW : W → HW → KW → Prop := fun x h R => match x with
  | .str s => s.length ≤ 16000000 ∧ R (.str s) h
  | .int i => i.natAbs.log2 < 1920 ∧ R (.str (decS i)) h
  | _ => False
theorem w_fmt {te : TEW} (he : WE X L e te) : WE X L (.FormattedValue e (-1) none pos) (oUn fmtW te) := (pe_fmt he).imp fun σ H Q ⟨ρ, h, R, S, t, k⟩ =>
  ⟨ρ, h, _, S, t, fun w1 h1 v1 H1 t1 s1 r1 q1 => by
    unfold fmtW at t1
    split at t1
    · cases q1; exact .inl ⟨_, rfl, by rw [mkS_length]; exact sz_big t1.1, k _ h1 _ H1 t1.2 s1 r1 (.str _)⟩
    · cases q1
      refine .inr ⟨_, rfl, t1.1, k _ h1 _ H1 t1.2 s1 r1 ?_⟩
      rw [mkS_list (Str.ofString (toString _))]; exact .str _
    · exact t1.elim⟩
inductive WJ (X : Cx) (L : Lk) : List Expr → List TEW → Prop where
  | nil : WJ X L [] []
  | cons {e : Expr} {t : TEW} {es : List Expr} {ts : List TEW} (h : WE X L e t) (r : WJ X L es ts) : WJ X L (e :: es) (t :: ts)
theorem WJ.pj {es : List Expr} {ts : List TEW} (j : WJ X L es ts) : PJ X es (ts.map (lE X.K L)) := by
  induction j with
  | nil => exact .nil
  | cons h r ih => exact .cons h ih
def oJs : List TEW → List Nat → SlW → HW → (List Nat → HW → Prop) → Prop
  | [], acc, _, h, R => R acc h
  | t :: ts, acc, ρ, h, R => t ρ h fun x h1 => match x with
    | .str y => acc.length + y.length ≤ 16000000 ∧ oJs ts (acc ++ y) ρ h1 R
    | _ => False
def oJoin (ts : List TEW) : TEW := fun ρ h R => oJs ts [] ρ h fun out h1 => R (.str out) h1
theorem js_imp (K : PySem.W.Frag) (L : Lk) (Q : Str → Hp → Prop) : ∀ (ts : List TEW) (acc : List Nat) (σ : L2.St) (H : Hp) (ρ : SlW) (h : HW) (R : List Nat → HW → Prop), Sta K L σ H ρ h → oJs ts acc ρ h R → (∀ out h' H', R out h' → ST H h H' h' → HR K H' h' → Q (mkS out) H') →
    tJs (ts.map (lE K L)) (mkS acc) σ H Q
  | [], acc, σ, H, ρ, h, R, S, t, k => k _ _ _ t (.refl _ _) S.hr
  | t :: ts, acc, σ, H, ρ, h, R, S, q, k => ⟨ρ, h, _, S, q, fun w1 h1 v1 H1 t1 s1 r1 q1 => by
    cases w1 with
    | str y =>
      cases q1
      refine ⟨_, rfl, ?_, ?_⟩
      · rw [mkS_append, mkS_length, List.length_append]; exact sz_big t1.1
      · rw [mkS_append]; exact js_imp K L Q ts _ σ H1 ρ h1 R (S.to s1 r1) t1.2 fun out h' H' a b c => k out h' H' a (s1.trans b) c
    | _ => exact t1.elim⟩
theorem w_joined {v1 v2 : Expr} {rest : List Expr} {ts : List TEW} (j : WJ X L (v1 :: v2 :: rest) ts) : WE X L (.JoinedStr (v1 :: v2 :: rest) pos) (oJoin ts) := (pe_joined j.pj).imp fun σ H Q ⟨ρ, h, R, S, t, k⟩ => by
  have e : (Str.empty : Str) = mkS [] := rfl
  rw [e]
  exact js_imp X.K L _ ts [] σ H ρ h _ S t fun out h' H' a b c => k _ h' _ H' a b c (.str _)
theorem w_joined1 {te : TEW} (he : WE X L e te) : WE X L (.JoinedStr [e] pos) te := pe_joined1 he
end
/-! ## comprehensions -/
section
variable {X : Cx} {L : Lk}
def oYes : TTW := fun _ h R => R true h
abbrev WTs (X : Cx) (L : Lk) (es : List Expr) (t : TTW) : Prop := PTs X es (lT X.K L t)
theorem _root_.L2.PTs.imp {X : Cx} {e : List Expr} {t t' : TT} (h : PTs X e t) (i : ∀ σ H Q, t' σ H Q → t σ H Q) : PTs X e t' := ⟨fun p s σ H Q I q => h.run p s σ H Q I (i _ _ _ q)⟩
theorem wts_nil : WTs X L [] oYes := pts_nil.imp fun σ H Q ⟨ρ, h, R, S, t, k⟩ => k _ h H t (.refl _ _) S.hr
theorem wts_one {c : Expr} {t : TTW} (h : WT X L c t) : WTs X L [c] t := pts_one h
/-- [elt for x in iter if ..]: a new list that stays -/
def oLc (ti : TIW) (j : Nat) (tt : TTW) (te : TEW) : TEW := fun ρ h R => ti ρ h fun ws h1 => ws.length ≤ 16000000 ∧ ∀ p, h1 p = none → ∃ Pv : Nat → List W → HW → Prop, Pv 0 [] h1 ∧
  (∀ i w acc h', ws[i]? = some w → h' p = none → acc.length ≤ i → Pv i acc h' → tt (ρ.set j (some w)) (updW h' p (.lst acc)) fun b h3 => if b = true then te (ρ.set j (some w)) h3 fun y h4 => ∃ h5, Sub (updW h5 p (.lst acc)) h4 ∧ h5 p = none ∧ Pv (i + 1) (acc ++ [y]) h5
    else ∃ h5, Sub (updW h5 p (.lst acc)) h3 ∧ h5 p = none ∧ Pv (i + 1) acc h5) ∧ ∀ acc h', h' p = none → Pv ws.length acc h' → R (.lst acc) h'
theorem lc_imp {K : PySem.W.Frag} {ti : TIW} {j : Nat} {tt : TTW} {te : TEW} : ∀ σ H Q, lE K L (oLc ti j tt te) σ H Q → tLc (lI K L ti) (gName j) (lT K L tt) (lE K L te) [j] σ H Q := fun σ H Q ⟨ρ, h, R, S, t, k⟩ =>
  ⟨ρ, h, _, S, t, fun ws h1 J H1 ⟨hz, t1⟩ s1 r1 I D hD => by
    obtain ⟨Pv, p0, turn, fin⟩ := t1 D (r1.fresh hD)
    have w0 : wipe σ [j] = σ.set j none := rfl
    refine ⟨fun i m H2 => m = ws.length - i ∧ i ≤ ws.length ∧ ∃ acc h', Pv i acc h' ∧ h' D = none ∧ acc.length ≤ i ∧ HR K H2 (updW h' D (.lst acc)) ∧ ST H1 h1 H2 (updW h' D (.lst acc)), ⟨_, rfl, Nat.zero_le _, [], h1, p0, r1.fresh hD, Nat.le_refl _, ?_, .newO hD _ _⟩, ?_⟩
    · exact r1.newO hD ⟨[], upd_same, .nil⟩
    · rintro i m H2 ⟨rfl, hi, acc, h2, p, n2, ha, hr2, st2⟩
      by_cases hlt : i < ws.length
      · have hw : ws[i]? = some ws[i] := List.getElem?_eq_getElem hlt
        obtain ⟨go, yl⟩ := I.step i H2 _ ws[i] st2 hr2 hw
        refine .inr ⟨go, fun H3 => ∃ acc h', Pv (i + 1) acc h' ∧ h' D = none ∧ acc.length ≤ i + 1 ∧ HR K H3 (updW h' D (.lst acc)) ∧ ST H1 h1 H3 (updW h' D (.lst acc)), fun H3 p' => ⟨ws.length - (i + 1), by omega, rfl, hlt, p'⟩, fun x H3 y => ?_⟩
        obtain ⟨st3, hr3, rx⟩ := yl x H3 y
        show wipe ((wipe σ [j]).set j (some x)) [j] = wipe σ [j] ∧ _
        refine ⟨by show ((σ.set j none).set j (some x)).set j none = σ.set j none; rw [List.set_set, List.set_set], ρ.set j (some ws[i]), _, _, ?_, turn i _ acc h2 hw n2 ha p, ?_⟩
        · refine ⟨?_, hr3, L.mono (L.mono (L.mono S.el s1) st2) st3⟩
          show SR K H3 _ ((σ.set j none).set j (some x)) _
          rw [List.set_set]
          exact (((S.sr.mono s1).mono st2).mono st3).set rx j
        · intro b h4 H4 t4 s4 r4
          have tot : ST H1 h1 H4 h4 := (st2.trans st3).trans s4
          cases b with
          | false =>
            obtain ⟨h5, sub, n5, p5⟩ := t4
            exact ⟨acc, h5, p5, n5, Nat.le_succ_of_le ha, r4.drop sub, tot.trans (.drop sub)⟩
          | true =>
            refine ⟨_, h4, _, ⟨?_, r4, L.mono (L.mono (L.mono (L.mono S.el s1) st2) st3) s4⟩, t4, fun y h5 v H5 ⟨h6, sub, n6, p6⟩ s5 r5 q5 => ?_⟩
            · show SR K H4 _ ((σ.set j none).set j (some x)) _
              rw [List.set_set]
              exact ((((S.sr.mono s1).mono st2).mono st3).mono s4).set (rx.mono s4) j
            · have hp : h5 D = some (.lst acc) := sub D _ updW_same
              obtain ⟨vs, hv, q⟩ := r5 D _ hp
              refine ⟨vs, hv, by rw [q.length]; exact Nat.lt_of_le_of_lt (Nat.le_trans ha hi) (sz_lt hz), acc ++ [y], h6, p6, n6, by rw [List.length_append]; exact Nat.succ_le_succ ha, ?_, ?_⟩
              all_goals
                have s6 : ST H5 h5 (upd H5 D (.lst (vs ++ [v]))) (updW h5 D (.lst (acc ++ [y]))) := .mut hp _ _
                have r6 : HR K (upd H5 D (.lst (vs ++ [v]))) (updW h5 D (.lst (acc ++ [y]))) := r5.mut hp ⟨_, upd_same, ((q.mono s6).append (.cons (q5.mono s6) .nil))⟩
                have sub6 : Sub (updW h6 D (.lst (acc ++ [y]))) (updW h5 D (.lst (acc ++ [y]))) := fun b o e => by
                  by_cases hb : b = D
                  · subst hb; rw [updW_same] at e ⊢; exact e
                  · rw [updW_ne hb] at e ⊢
                    exact sub b o (by rw [updW_ne hb]; exact e)
              · exact r6.drop sub6
              · exact ((tot.trans s5).trans s6).trans (.drop sub6)
      · have e : i = ws.length := by omega
        subst e
        obtain ⟨vs, hv, q⟩ := hr2 D _ updW_same
        have sub : Sub h2 (updW h2 D (.lst acc)) := .new n2
        exact .inl ⟨I.stop _ H2 _ st2 hr2 (Nat.le_refl _), k _ h2 _ H2 (fin acc h2 n2 p) ((s1.trans st2).trans (.drop sub)) (hr2.drop sub) (.lst ⟨hv, n2⟩ (q.mono (.drop sub)))⟩⟩
theorem w_lc {elt tg iter : Expr} {ifs : List Expr} {scope : Scope} {x : Str} {j : Nat} {pos : Pos} {ti : TIW} {tt : TTW} {te : TEW} (hc : X.calm = true) (hN : X.N.Nodup) (hi : WI X L tg iter ti) (ok : BlkOk X.N X.env.scope scope [(x, j)])
    (hg : ∀ (s : Shared) (H : Hp) (C : Addr) (cl : List (Str × Addr)) (fp : List Addr), PG (X.blk s H scope (compEnvC scope cl C X.env) fp) tg (gName j)) (ht : ∀ (s : Shared) (H : Hp) (C : Addr) (cl : List (Str × Addr)) (fp : List Addr), WTs (X.blk s H scope (compEnvC scope cl C X.env) fp) L ifs tt)
    (he : ∀ (s : Shared) (H : Hp) (C : Addr) (cl : List (Str × Addr)) (fp : List Addr), WE (X.blk s H scope (compEnvC scope cl C X.env) fp) L elt te) (hs : ∀ x, foldedSetIterable iter X.env x = pure x := by intro _; rfl) :
    WE X L (.ListComp elt [⟨tg, iter, ifs, 0⟩] scope pos) (oLc ti j tt te) := (pe_lc hc hN hi ok hg ht he hs).imp lc_imp
theorem ws_setLc {i : Nat} {y : Str} {py : Pos} {elt tg iter : Expr} {ifs : List Expr} {scope : Scope} {x : Str} {j : Nat} {pos spos : Pos} {ti : TIW} {tt : TTW} {te : TEW} (hc : X.calm = true) (hN : X.N.Nodup) (hy : X.N[i]? = some y) (hyl : X.env.scope.names.lookup y = some .local)
    (hsw : swapsWith (.ListComp elt [⟨tg, iter, ifs, 0⟩] scope pos) (some (.Name y py)) spos.line X.env = pure true) (hi : WI X L tg iter ti) (ok : BlkOk X.N X.env.scope scope [(x, j)])
    (hg : ∀ (s : Shared) (H : Hp) (C : Addr) (cl : List (Str × Addr)) (fp : List Addr), PG (X.blk s H scope (compEnvC scope cl C X.env) fp) tg (gName j)) (ht : ∀ (s : Shared) (H : Hp) (C : Addr) (cl : List (Str × Addr)) (fp : List Addr), WTs (X.blk s H scope (compEnvC scope cl C X.env) fp) L ifs tt)
    (he : ∀ (s : Shared) (H : Hp) (C : Addr) (cl : List (Str × Addr)) (fp : List Addr), WE (X.blk s H scope (compEnvC scope cl C X.env) fp) L elt te) (hs : ∀ x, foldedSetIterable iter X.env x = pure x := by intro _; rfl) :
    WS X L (.Assign [.Name y py] (.ListComp elt [⟨tg, iter, ifs, 0⟩] scope pos) spos) (sAsg (oLc ti j tt te) (gN i)) := (ps_setLc hc hN hy hyl hsw hi ok hg ht he hs).imp fun D σ H ⟨ρ, h, DW, S, t, k⟩ =>
  lc_imp σ H _ ⟨ρ, h, _, S, t, fun w1 h1 v1 H1 t1 s1 r1 q1 => k.nx _ h1 _ H1 t1 s1 r1 ((S.sr.mono s1).set q1 i)⟩
end
end Wl

set_option Elab.async false
set_option linter.all false
set_option maxRecDepth 100000
namespace Wl
open PySem PySem.Spec PyProof.Rows L2
section
variable {rw : RW2} {rw1 : W → HW → KW → Prop} {ta tb tc te : TEW} {ρ : SlW} {h : HW} {R : KW} {RB : Bool → HW → Prop} {RA : List W → HW → Prop} {tA tB : TTW} {t : TAW} {D : EndsW} {s u : TSW} {i j : Int} {a b : List Nat} {xs ys : List W} {p q : Prop} {w : W}
theorem go_var {n : Nat} (e : sl ρ n = some w) (k : R w h) : oVar n ρ h R := by unfold oVar; rw [e]; exact k
theorem go_c (k : R w h) : oC w ρ h R := k
theorem go_op (k : ta ρ h fun x h1 => tb ρ h1 fun y h2 => rw x y h2 R) : oOp rw ta tb ρ h R := k
theorem go_un (k : ta ρ h fun x h1 => rw1 x h1 R) : oUn rw1 ta ρ h R := k
theorem go_test (k : te ρ h fun x h1 => match x with | .bl k => RB k h1 | _ => False) : oTest te ρ h RB := k
theorem go_chain {r r' : RW2} (k : ta ρ h fun x h1 => tb ρ h1 fun y h2 => r x y h2 fun z h3 => match z with
  | .bl k => if k = true then tc ρ h3 fun w' h4 => r' y w' h4 R else R (.bl false) h3
  | _ => False) : oChain r r' ta tb tc ρ h R := k
theorem go_and (k : tA ρ h fun c h1 => if c = true then tB ρ h1 RB else RB false h1) : oAnd tA tB ρ h RB := k
theorem go_or (k : tA ρ h fun c h1 => if c = true then RB true h1 else tB ρ h1 RB) : oOr tA tB ρ h RB := k
theorem go_not (k : tA ρ h fun c h1 => RB (!c) h1) : oNot tA ρ h RB := k
theorem go_andV (k : ta ρ h fun x h1 => match x with | .bl c => if c = true then tb ρ h1 R else R (.bl false) h1 | _ => False) : oAndV ta tb ρ h R := k
theorem go_orV (k : ta ρ h fun x h1 => match x with | .bl c => if c = true then R (.bl true) h1 else tb ρ h1 R | _ => False) : oOrV ta tb ρ h R := k
theorem go_notV (k : ta ρ h fun x h1 => match x with | .bl c => R (.bl (!c)) h1 | _ => False) : oNotV ta ρ h R := k
theorem go_ifE (k : tA ρ h fun c h1 => if c = true then ta ρ h1 R else tb ρ h1 R) : oIf tA ta tb ρ h R := k
theorem go_yes (k : RB true h) : oYes ρ h RB := k
theorem go_nil (k : RA [] h) : oNil ρ h RA := k
theorem go_cons (k : ta ρ h fun x h1 => t ρ h1 fun xs h2 => RA (x :: xs) h2) : oCons ta t ρ h RA := k
def tupK (R : KW) (ws : List W) (h1 : HW) : Prop := ws.length ≤ 16000000 ∧ R (.tup ws) h1
def lstK (R : KW) (ws : List W) (h1 : HW) : Prop := ws.length ≤ 16000000 ∧ R (.lst ws) h1
def lstOK (R : KW) (ws : List W) (h1 : HW) : Prop := ws.length ≤ 16000000 ∧ ∀ p, h1 p = none → R (.ref p) (updW h1 p (.lst ws))
theorem go_tup (k : t ρ h (tupK R)) : oTup t ρ h R := k
theorem go_lst (k : t ρ h (lstK R)) : oLst t ρ h R := k
theorem go_lstO (k : t ρ h (lstOK R)) : oLstO t ρ h R := k
theorem go_tupK (e : xs.length ≤ 16000000) (k : R (.tup xs) h) : tupK R xs h := ⟨e, k⟩
theorem go_lstK (e : xs.length ≤ 16000000) (k : R (.lst xs) h) : lstK R xs h := ⟨e, k⟩
theorem go_lstOK (e : xs.length ≤ 16000000) (k : ∀ p, h p = none → R (.ref p) (updW h p (.lst xs))) : lstOK R xs h := ⟨e, k⟩
/-! operators by values -/
theorem go_addI (k : R (.int (i + j)) h) : addW (.int i) (.int j) h R := k
theorem go_addS (e : a.length + b.length ≤ 16000000) (k : R (.str (a ++ b)) h) : addW (.str a) (.str b) h R := ⟨e, k⟩
theorem go_addT (n : xs ≠ []) (e : xs.length + ys.length ≤ 16000000) (k : R (.tup (xs ++ ys)) h) : addW (.tup xs) (.tup ys) h R := ⟨n, e, k⟩
theorem go_addL (e : xs.length + ys.length ≤ 16000000) (k : R (.lst (xs ++ ys)) h) : addW (.lst xs) (.lst ys) h R := ⟨e, k⟩
theorem go_int {C : Int → Int → Prop} {g : Int → Int → Int} (e : C i j) (k : R (.int (g i j)) h) : intW C g (.int i) (.int j) h R := ⟨e, k⟩
theorem go_int0 {g : Int → Int → Int} (k : R (.int (g i j)) h) : intW0 g (.int i) (.int j) h R := k
theorem go_sub (k : R (.int (i - j)) h) : subW (.int i) (.int j) h R := k
theorem go_mul (e : CMul i j) (k : R (.int (i * j)) h) : mulW (.int i) (.int j) h R := ⟨e, k⟩
theorem go_mod (e : 0 < j) (k : R (.int (i % j)) h) : modW (.int i) (.int j) h R := ⟨e, k⟩
theorem go_fdiv (e : CDiv i j) (k : R (.int (i / j)) h) : fdivW (.int i) (.int j) h R := ⟨e, k⟩
theorem cdiv_ok (a : 0 < j) (b : j < 1073741824) : CDiv i j := ⟨a, b⟩
theorem go_neg (k : R (.int (-i)) h) : negW (.int i) h R := k
theorem go_lt (k : R (.bl (decide (i < j))) h) : ltW (.int i) (.int j) h R := k
theorem go_le (k : R (.bl (decide (i ≤ j))) h) : leW (.int i) (.int j) h R := k
theorem go_gt (k : R (.bl (decide (j < i))) h) : gtW (.int i) (.int j) h R := k
theorem go_ge (k : R (.bl (decide (j ≤ i))) h) : geW (.int i) (.int j) h R := k
theorem go_eqI (k : R (.bl (decide (i = j))) h) : eqW (.int i) (.int j) h R := k
theorem go_eqS (k : R (.bl (decide (a = b))) h) : eqW (.str a) (.str b) h R := k
theorem go_neI (k : R (.bl (!decide (i = j))) h) : neW (.int i) (.int j) h R := k
theorem go_neS (k : R (.bl (!decide (a = b))) h) : neW (.str a) (.str b) h R := k
theorem go_eqD {x y : W} (a : dataW x = true) (b : dataW y = true) (c : depW x ≤ 64) (d : depW y ≤ 64) (k : R (.bl (eqD x y)) h) : eqW x y h R := by
  unfold eqW
  split
  · rename_i i j
    have : eqD (.int i) (.int j) = decide (i = j) := by simp only [eqD, toD, PyData.eqv]; exact Bool.beq_eq_decide_eq _ _
    rw [this] at k; exact k
  · rename_i s t
    have : eqD (.str s) (.str t) = decide (s = t) := by
      simp only [eqD, toD, PyData.eqv]
      by_cases e : s = t
      · subst e; simp
      · simp [e, mkS_inj]
    rw [this] at k; exact k
  · rw [rsv_of a, rsv_of b]; exact ⟨a, b, c, d, k⟩
theorem go_neD {x y : W} (a : dataW x = true) (b : dataW y = true) (c : depW x ≤ 64) (d : depW y ≤ 64) (k : R (.bl (!eqD x y)) h) : neW x y h R := by
  unfold neW
  split
  · rename_i i j
    have : eqD (.int i) (.int j) = decide (i = j) := by simp only [eqD, toD, PyData.eqv]; exact Bool.beq_eq_decide_eq _ _
    rw [this] at k; exact k
  · rename_i s t
    have : eqD (.str s) (.str t) = decide (s = t) := by
      simp only [eqD, toD, PyData.eqv]
      by_cases e : s = t
      · subst e; simp
      · simp [e, mkS_inj]
    rw [this] at k; exact k
  · rw [rsv_of a, rsv_of b]; exact ⟨a, b, c, d, k⟩
theorem go_eqO {p : Addr} {y : W} (hp : h p = some (.lst xs)) (a : dataW (.lst xs) = true) (b : dataW y = true) (c : depW (.lst xs) ≤ 64) (d : depW y ≤ 64) (k : R (.bl (eqD (.lst xs) y)) h) : eqW (.ref p) y h R := by
  have e : rsv (.ref p) h = .lst xs := by unfold rsv; dsimp only; rw [hp]
  show dataW (rsv (.ref p) h) = true ∧ dataW (rsv y h) = true ∧ depW (rsv (.ref p) h) ≤ 64 ∧ depW (rsv y h) ≤ 64 ∧ R (.bl (eqD (rsv (.ref p) h) (rsv y h))) h
  rw [e, rsv_of b]; exact ⟨a, b, c, d, k⟩
theorem go_neO {p : Addr} {y : W} (hp : h p = some (.lst xs)) (a : dataW (.lst xs) = true) (b : dataW y = true) (c : depW (.lst xs) ≤ 64) (d : depW y ≤ 64) (k : R (.bl (!eqD (.lst xs) y)) h) : neW (.ref p) y h R := by
  have e : rsv (.ref p) h = .lst xs := by unfold rsv; dsimp only; rw [hp]
  show dataW (rsv (.ref p) h) = true ∧ dataW (rsv y h) = true ∧ depW (rsv (.ref p) h) ≤ 64 ∧ depW (rsv y h) ≤ 64 ∧ R (.bl (!eqD (rsv (.ref p) h) (rsv y h))) h
  rw [e, rsv_of b]; exact ⟨a, b, c, d, k⟩
theorem go_neR {p : Addr} {x : W} (hp : h p = some (.lst ys)) (a : dataW x = true) (b : dataW (.lst ys) = true) (c : depW x ≤ 64) (d : depW (.lst ys) ≤ 64) (k : R (.bl (!eqD x (.lst ys))) h) : neW x (.ref p) h R := by
  have e : rsv (.ref p) h = .lst ys := by unfold rsv; dsimp only; rw [hp]
  have g : dataW (rsv x h) = true ∧ dataW (rsv (.ref p) h) = true ∧ depW (rsv x h) ≤ 64 ∧ depW (rsv (.ref p) h) ≤ 64 ∧ R (.bl (!eqD (rsv x h) (rsv (.ref p) h))) h := by rw [e, rsv_of a]; exact ⟨a, b, c, d, k⟩
  cases x <;> exact g
theorem go_inT {x : W} (f : flatW x = true) (g : xs.all flatW = true) (k : R (.bl (xs.any fun w => eqF w x)) h) : inW x (.tup xs) h R := ⟨f, g, k⟩
theorem go_inL {x : W} (f : flatW x = true) (g : xs.all flatW = true) (k : R (.bl (xs.any fun w => eqF w x)) h) : inW x (.lst xs) h R := ⟨f, g, k⟩
theorem go_inS {c : Nat} (k : R (.bl (decide (c ∈ a))) h) : inW (.str [c]) (.str a) h R := k
theorem go_inO {x : W} {p : Addr} (hp : h p = some (.lst xs)) (f : flatW x = true) (g : xs.all flatW = true) (k : R (.bl (xs.any fun w => eqF w x)) h) : inW x (.ref p) h R := by
  unfold inW; dsimp only; rw [hp]; exact ⟨f, g, k⟩
theorem go_notInT {x : W} (f : flatW x = true) (g : xs.all flatW = true) (k : R (.bl (!xs.any fun w => eqF w x)) h) : notInW x (.tup xs) h R := ⟨f, g, k⟩
theorem go_notInL {x : W} (f : flatW x = true) (g : xs.all flatW = true) (k : R (.bl (!xs.any fun w => eqF w x)) h) : notInW x (.lst xs) h R := ⟨f, g, k⟩
theorem go_notInS {c : Nat} (k : R (.bl (!decide (c ∈ a))) h) : notInW (.str [c]) (.str a) h R := k
theorem go_notInO {x : W} {p : Addr} (hp : h p = some (.lst xs)) (f : flatW x = true) (g : xs.all flatW = true) (k : R (.bl (!xs.any fun w => eqF w x)) h) : notInW x (.ref p) h R := by
  unfold notInW; dsimp only; rw [hp]; exact ⟨f, g, k⟩
theorem go_ixT (e : atI xs i = some w) (k : R w h) : ixW (.tup xs) (.int i) h R := by unfold ixW; dsimp only; rw [e]; exact k
theorem go_ixL (e : atI xs i = some w) (k : R w h) : ixW (.lst xs) (.int i) h R := by unfold ixW; dsimp only; rw [e]; exact k
theorem go_ixC (e : atI xs i = some w) (k : R w h) : ixW (.scr xs) (.int i) h R := by unfold ixW; dsimp only; rw [e]; exact k
theorem go_ixS {c : Nat} (e : atI a i = some c) (l : a.length ≤ 16000000) (k : R (.str [c]) h) : ixW (.str a) (.int i) h R := by unfold ixW; dsimp only; rw [e]; exact ⟨l, k⟩
theorem go_ixO {p : Addr} (hp : h p = some (.lst xs)) (e : atI xs i = some w) (k : R w h) : ixW (.ref p) (.int i) h R := by unfold ixW; dsimp only; rw [hp]; dsimp only; rw [e]; exact k
/-! slices -/
theorem go_sl {tl th : TOW} (k : te ρ h fun x h1 => tl ρ h1 fun l h2 => th ρ h2 fun u h3 => slW x l u h3 R) : oSl te tl th ρ h R := k
theorem go_noPart {RO : Option Int → HW → Prop} (k : RO none h) : oNoPart ρ h RO := k
theorem go_part {RO : Option Int → HW → Prop} (k : te ρ h fun x h1 => match x with | .int i => RO (some i) h1 | _ => False) : oPart te ρ h RO := k
theorem go_slT {lo hi : Option Int} (e : ¬ (HT.sIx xs.length 0 lo = 0 ∧ HT.sIx xs.length xs.length hi = xs.length)) (k : R (.tup (cut xs lo hi)) h) : slW (.tup xs) lo hi h R := ⟨e, k⟩
theorem go_slL {lo hi : Option Int} (k : R (.lst (cut xs lo hi)) h) : slW (.lst xs) lo hi h R := k
theorem go_slC {lo hi : Option Int} (k : R (.lst (cut xs lo hi)) h) : slW (.scr xs) lo hi h R := k
theorem go_slS {lo hi : Option Int} (e : a.length ≤ 16000000) (k : R (.str (cut a lo hi)) h) : slW (.str a) lo hi h R := ⟨e, k⟩
theorem go_slO {lo hi : Option Int} {p : Addr} (hp : h p = some (.lst xs)) (k : R (.lst (cut xs lo hi)) h) : slW (.ref p) lo hi h R := by unfold slW; dsimp only; rw [hp]; exact k
theorem go_revL (k : R (.lst xs.reverse) h) : revW (.lst xs) h R := k
theorem go_revO {p : Addr} (hp : h p = some (.lst xs)) (k : R (.lst xs.reverse) h) : revW (.ref p) h R := by unfold revW; dsimp only; rw [hp]; exact k
/-! calls -/
theorem go_cb {rc : List W → HW → KW → Prop} (k : t ρ h fun ws h1 => rc ws h1 R) : oCB rc t ρ h R := k
theorem go_lenT (k : R (.int xs.length) h) : lenW [.tup xs] h R := k
theorem go_lenL (k : R (.int xs.length) h) : lenW [.lst xs] h R := k
theorem go_lenC (k : R (.int xs.length) h) : lenW [.scr xs] h R := k
theorem go_lenS (e : a.length ≤ 16000000) (k : R (.int a.length) h) : lenW [.str a] h R := ⟨e, k⟩
theorem go_lenO {p : Addr} (hp : h p = some (.lst xs)) (k : R (.int xs.length) h) : lenW [.ref p] h R := by unfold lenW; dsimp only; rw [hp]; exact k
theorem go_abs (k : R (.int i.natAbs) h) : absW [.int i] h R := k
theorem go_toInt (k : R (.int i) h) : toIntW [.int i] h R := k
theorem go_toIntB {b : Bool} (k : R (.int (if b = true then 1 else 0)) h) : toIntW [.bl b] h R := k
theorem go_str (e : i.natAbs.log2 < 1920) (k : R (.str (decS i)) h) : strW [.int i] h R := ⟨e, k⟩
theorem go_sum {ns : List Int} (e : intsOf xs = some ns) (k : R (.int ns.sum) h) : sumW [.lst xs] h R := by unfold sumW; dsimp only; rw [e]; exact k
theorem go_max {n : Int} {ns : List Int} (e : intsOf xs = some (n :: ns)) (k : R (.int (maxI n ns)) h) : maxW [.lst xs] h R := by unfold maxW; dsimp only; rw [e]; exact k
theorem go_all {bs : List Bool} (e : blsOf xs = some bs) (k : R (.bl (bs.all id)) h) : allW [.lst xs] h R := by unfold allW; dsimp only; rw [e]; exact k
theorem go_listT (k : R (.lst xs) h) : listW [.tup xs] h R := k
theorem go_listL (k : R (.lst xs) h) : listW [.lst xs] h R := k
theorem go_listC (k : R (.lst xs) h) : listW [.scr xs] h R := k
theorem go_listO {p : Addr} (hp : h p = some (.lst xs)) (k : R (.lst xs) h) : listW [.ref p] h R := by unfold listW; dsimp only; rw [hp]; exact k
theorem go_isI {n : String} {b : Bool} (e : kitB "int" n = some b) (k : R (.bl b) h) : isW [.int i, .ty n] h R := by unfold isW; dsimp only; rw [e]; exact k
theorem go_isB {n : String} {b c : Bool} (e : kitB "bool" n = some b) (k : R (.bl b) h) : isW [.bl c, .ty n] h R := by unfold isW; dsimp only; rw [e]; exact k
theorem go_isS {n : String} {b : Bool} (e : kitB "str" n = some b) (k : R (.bl b) h) : isW [.str a, .ty n] h R := by unfold isW; dsimp only; rw [e]; exact k
theorem go_isT {n : String} {b : Bool} (e : kitB "tuple" n = some b) (k : R (.bl b) h) : isW [.tup xs, .ty n] h R := by unfold isW; dsimp only; rw [e]; exact k
theorem go_bm0 {ty : W → HW → Prop} {rm : W → List W → HW → KW → Prop} (k : te ρ h fun x h1 => ty x h1 ∧ rm x [] h1 R) : oBM0 ty rm te ρ h R := k
theorem go_bm {ty : W → HW → Prop} {rm : W → List W → HW → KW → Prop} (k : te ρ h fun x h1 => ty x h1 ∧ t ρ h1 fun ws h2 => rm x ws h2 R) : oBM ty rm te t ρ h R := k
theorem go_tyS (k : p) : tyS (.str a) h ∧ p := ⟨trivial, k⟩
theorem go_tyL {q : Addr} (hp : h q = some (.lst xs)) (k : p) : tyL (.ref q) h ∧ p := ⟨by unfold tyL; dsimp only; rw [hp]; trivial, k⟩
theorem go_append {p : Addr} (hp : h p = some (.lst xs)) (e : xs.length ≤ 16000000) (k : R .non (updW h p (.lst (xs ++ [w])))) : appendW (.ref p) [w] h R := by unfold appendW; dsimp only; rw [hp]; exact ⟨e, k⟩
theorem go_pop {p : Addr} (hp : h p = some (.lst (xs ++ [w]))) (k : R w (updW h p (.lst xs))) : popW (.ref p) [] h R := by
  unfold popW; dsimp only; rw [hp]; dsimp only; rw [List.getLast?_concat]; dsimp only; rw [List.dropLast_concat]; exact k
theorem go_extend {p : Addr} (hp : h p = some (.lst xs)) (e : xs.length + ys.length ≤ 16000000) (k : R .non (updW h p (.lst (xs ++ ys)))) : extendW (.ref p) [.lst ys] h R := by unfold extendW; dsimp only; rw [hp]; exact ⟨e, k⟩
theorem go_join {ss : List (List Nat)} (e : strsOf xs = some ss) (l : (ss.map List.length).sum + ss.length * a.length ≤ 16000000) (k : R (.str (joinS a ss)) h) : joinW (.str a) [.lst xs] h R := by unfold joinW; dsimp only; rw [e]; exact ⟨l, k⟩
theorem go_isalnum (k : R (.bl (alnumS a)) h) : isalnumW (.str a) [] h R := k
theorem go_call {sp : SpW} {ex : XW → HW → Prop} (k : t ρ h fun ws h1 => sp ws h1 R ex) : oCall sp ex t ρ h R := k
/-! f-strings -/
theorem go_fmtS (e : a.length ≤ 16000000) (k : R (.str a) h) : fmtW (.str a) h R := ⟨e, k⟩
theorem go_fmtI (e : i.natAbs.log2 < 1920) (k : R (.str (decS i)) h) : fmtW (.int i) h R := ⟨e, k⟩
theorem go_join0 {ts : List TEW} (k : oJs ts [] ρ h fun out h1 => R (.str out) h1) : oJoin ts ρ h R := k
theorem go_js0 {acc : List Nat} {RS : List Nat → HW → Prop} (k : RS acc h) : oJs [] acc ρ h RS := k
theorem go_js1 {ts : List TEW} {acc : List Nat} {RS : List Nat → HW → Prop} (k : te ρ h fun x h1 => match x with | .str y => acc.length + y.length ≤ 16000000 ∧ oJs ts (acc ++ y) ρ h1 RS | _ => False) : oJs (te :: ts) acc ρ h RS := k
/-! statements -/
theorem go_seq (k : s (D.wn (u D)) ρ h) : sSeq s u D ρ h := k
theorem go_next (k : D.nx ρ h) : sNext D ρ h := k
theorem go_break (k : D.bk ρ h) : sBreak D ρ h := k
theorem go_cont (k : D.ct ρ h) : sCont D ρ h := k
theorem go_drop (k : te ρ h fun _ h1 => D.nx ρ h1) : sDrop te D ρ h := k
theorem go_ret (k : te ρ h D.rt) : sRet te D ρ h := k
theorem go_retN (k : D.rt .non h) : sRetN D ρ h := k
theorem go_if (k : tA ρ h fun b h1 => if b = true then s D ρ h1 else u D ρ h1) : sIf tA s u D ρ h := k
theorem go_asg {g : TGW} (k : te ρ h fun x h1 => g x ρ h1 D.nx) : sAsg te g D ρ h := k
theorem go_gN {n : Nat} {P : SlW → HW → Prop} (k : P (ρ.set n (some w)) h) : gN n w ρ h P := k
theorem go_gT {n : Nat} {gs : TGsW} {P : SlW → HW → Prop} (e : xs.length = n) (k : gs xs ρ h P) : gT n gs (.tup xs) ρ h P := ⟨e, k⟩
theorem go_gNil {P : SlW → HW → Prop} (k : P ρ h) : gNilW [] ρ h P := k
theorem go_gCons {g : TGW} {gs : TGsW} {P : SlW → HW → Prop} (k : g w ρ h fun ρ' h' => gs xs ρ' h' P) : gConsW g gs (w :: xs) ρ h P := k
theorem go_aug {n : Nat} (e : sl ρ n = some w) (k : te ρ h fun y h1 => rw w y h1 fun z h2 => D.nx (ρ.set n (some z)) h2) : sAug n te rw D ρ h := by unfold sAug; rw [e]; exact k
theorem go_raise {C : Addr} {ex : XW → HW → Prop} (k : te ρ h fun _ h1 => ex ⟨C, none⟩ h1) : sRaise C ex te D ρ h := k
theorem go_dec [Decidable p] {A B : Prop} (h1 : p → A) (h2 : ¬ p → B) : if decide p = true then A else B := by
  by_cases c : p
  · rw [decide_eq_true c, if_pos rfl]; exact h1 c
  · rw [decide_eq_false c, if_neg Bool.false_ne_true]; exact h2 c
theorem go_ndec [Decidable p] {A B : Prop} (h1 : ¬ p → A) (h2 : p → B) : if (!decide p) = true then A else B := by
  by_cases c : p
  · rw [decide_eq_true c]; exact iteF (h2 c)
  · rw [decide_eq_false c]; exact iteT (h1 c)
theorem go_tt {A B : Prop} (h1 : A) : if true = true then A else B := iteT h1
theorem go_ff {A B : Prop} (h1 : B) : if false = true then A else B := iteF h1
theorem go_nff {A B : Prop} (h1 : A) : if (!false) = true then A else B := iteT h1
theorem go_ntt {A B : Prop} (h1 : B) : if (!true) = true then A else B := iteF h1
theorem go_isT' {b : Bool} {A B : Prop} (e : b = true) (h1 : A) : if b = true then A else B := by rw [e]; exact iteT h1
theorem go_isF' {b : Bool} {A B : Prop} (e : b = false) (h1 : B) : if b = true then A else B := by rw [e]; exact iteF h1
theorem go_for {ti : TIW} {g : TGW} {tb : TSW} (Pv : Nat → SlW → HW → Prop) (k : ti ρ h fun ws h1 => CN (Pv 0) ρ h1 ∧
  (∀ i w ρ' h', ws[i]? = some w → Pv i ρ' h' → g w ρ' h' fun ρ2 h2 => tb (D.lp (CN (Pv (i + 1))) D.nx) ρ2 h2) ∧ ∀ ρ' h', Pv ws.length ρ' h' → D.nx ρ' h') (mono : ∀ {P P' : List W → HW → Prop}, (∀ ws h', P ws h' → P' ws h') → ti ρ h P → ti ρ h P') : sFor ti g tb D ρ h :=
  mono (fun ws h' q => ⟨Pv, q⟩) k
theorem go_forR2 {g : TGW} {tb : TSW} {ta : TAW} (lo hi : Int) (ev : ∀ RA : List W → HW → Prop, RA [.int lo, .int hi] h → ta ρ h RA) (bd : -4611686018427387904 ≤ lo ∧ lo < 4611686018427387904 ∧ -4611686018427387904 ≤ hi ∧ hi < 4611686018427387904)
  (Pv : Nat → SlW → HW → Prop) (p0 : CN (Pv 0) ρ h) (turn : ∀ (i : Nat) ρ' h', i < (hi - lo).toNat → Pv i ρ' h' → g (.int (lo + i)) ρ' h' fun ρ2 h2 => tb (D.lp (CN (Pv (i + 1))) D.nx) ρ2 h2)
  (fin : ∀ ρ' h', Pv (hi - lo).toNat ρ' h' → D.nx ρ' h') : sFor (oRng2 ta) g tb D ρ h := ev _ ⟨bd, Pv, p0, fun i w ρ' h' e p => by
    unfold rngW at e
    rw [List.getElem?_map] at e
    obtain ⟨c, e1, e2⟩ := Option.map_eq_some_iff.mp e
    have hi' : i < (hi - lo).toNat := by have := (List.getElem?_eq_some_iff.mp e1).1; simpa using this
    rw [List.getElem?_range hi'] at e1
    cases e1; subst e2
    exact turn i ρ' h' hi' p, fun ρ' h' p => fin ρ' h' (by simpa [rngW] using p)⟩
theorem go_forR1 {g : TGW} {tb : TSW} {ta : TAW} (hi : Int) (ev : ∀ RA : List W → HW → Prop, RA [.int hi] h → ta ρ h RA) (bd : -4611686018427387904 ≤ hi ∧ hi < 4611686018427387904)
  (Pv : Nat → SlW → HW → Prop) (p0 : CN (Pv 0) ρ h) (turn : ∀ (i : Nat) ρ' h', i < hi.toNat → Pv i ρ' h' → g (.int (i : Nat)) ρ' h' fun ρ2 h2 => tb (D.lp (CN (Pv (i + 1))) D.nx) ρ2 h2)
  (fin : ∀ ρ' h', Pv hi.toNat ρ' h' → D.nx ρ' h') : sFor (oRng1 ta) g tb D ρ h := ev _ ⟨bd, Pv, p0, fun i w ρ' h' e p => by
    unfold rngW at e
    rw [List.getElem?_map] at e
    obtain ⟨c, e1, e2⟩ := Option.map_eq_some_iff.mp e
    have hi' : i < hi.toNat := by have := (List.getElem?_eq_some_iff.mp e1).1; simpa using this
    rw [List.getElem?_range hi'] at e1
    cases e1; subst e2
    rw [Int.zero_add]
    exact turn i ρ' h' hi' p, fun ρ' h' p => fin ρ' h' (by simpa [rngW] using p)⟩
theorem go_forL {g : TGW} {tb : TSW} (ws : List W) (ev : ∀ R : KW, R (.lst ws) h → te ρ h R)
  (Pv : Nat → SlW → HW → Prop) (p0 : CN (Pv 0) ρ h) (turn : ∀ (i : Nat) w ρ' h', ws[i]? = some w → Pv i ρ' h' → g w ρ' h' fun ρ2 h2 => tb (D.lp (CN (Pv (i + 1))) D.nx) ρ2 h2)
  (fin : ∀ ρ' h', Pv ws.length ρ' h' → D.nx ρ' h') : sFor (oItL te) g tb D ρ h := ev _ ⟨Pv, p0, turn, fin⟩
theorem go_forT {g : TGW} {tb : TSW} (ws : List W) (ev : ∀ R : KW, R (.tup ws) h → te ρ h R)
  (Pv : Nat → SlW → HW → Prop) (p0 : CN (Pv 0) ρ h) (turn : ∀ (i : Nat) w ρ' h', ws[i]? = some w → Pv i ρ' h' → g w ρ' h' fun ρ2 h2 => tb (D.lp (CN (Pv (i + 1))) D.nx) ρ2 h2)
  (fin : ∀ ρ' h', Pv ws.length ρ' h' → D.nx ρ' h') : sFor (oItT te) g tb D ρ h := ev _ ⟨Pv, p0, turn, fin⟩
theorem go_while {tc : TTW} {tb : TSW} (Pv : Nat → SlW → HW → Prop) (p0 : ∃ m, CN (Pv m) ρ h) (turn : ∀ m ρ' h', Pv m ρ' h' → tc ρ' h' fun b h1 => if b = true then tb (D.lp (CN fun ρ2 h2 => ∃ m', m' < m ∧ Pv m' ρ2 h2) D.nx) ρ' h1 else D.nx ρ' h1) : sWhile tc tb D ρ h := ⟨Pv, p0, turn⟩
/-- a comprehension whose element is a function of the item -/
theorem go_lcL {j : Nat} (ws : List W) (ev : ∀ P : List W → HW → Prop, P ws h → (fun ti : TIW => ti ρ h P) (oItL te)) (hz : ws.length ≤ 16000000) (f : W → W) (el : ∀ (w : W) (h' : HW) (R' : KW), w ∈ ws → R' (f w) h' → tb (ρ.set j (some w)) h' R') (k : R (.lst (ws.map f)) h) : oLc (oItL te) j oYes tb ρ h R := by
  refine ev _ ⟨hz, fun p hp => ⟨fun i acc h' => acc = (ws.take i).map f ∧ h' = h, ⟨rfl, rfl⟩, ?_, ?_⟩⟩
  · rintro i w acc h' e n hl ⟨rfl, rfl⟩
    refine go_yes ?_
    rw [if_pos rfl]
    refine el w _ _ (List.mem_of_getElem? e) ⟨_, .refl _, hp, ?_, rfl⟩
    rw [List.take_add_one, e]; simp
  · rintro acc h' n ⟨rfl, rfl⟩
    rw [List.take_length]; exact k
/-- the same over anything that is walked -/
theorem go_lc {ti : TIW} {j : Nat} (ws : List W) (ev : ∀ P : List W → HW → Prop, P ws h → ti ρ h P) (hz : ws.length ≤ 16000000) (f : W → W) (el : ∀ (w : W) (h' : HW) (R' : KW), w ∈ ws → R' (f w) h' → tb (ρ.set j (some w)) h' R') (k : R (.lst (ws.map f)) h) : oLc ti j oYes tb ρ h R := by
  refine ev _ ⟨hz, fun p hp => ⟨fun i acc h' => acc = (ws.take i).map f ∧ h' = h, ⟨rfl, rfl⟩, ?_, ?_⟩⟩
  · rintro i w acc h' e n hl ⟨rfl, rfl⟩
    refine go_yes ?_
    rw [if_pos rfl]
    refine el w _ _ (List.mem_of_getElem? e) ⟨_, .refl _, hp, ?_, rfl⟩
    rw [List.take_add_one, e]; simp
  · rintro acc h' n ⟨rfl, rfl⟩
    rw [List.take_length]; exact k
/-- the same where the element is any value of a kind -/
theorem go_lcP {ti : TIW} {j : Nat} (ws : List W) (ev : ∀ P : List W → HW → Prop, P ws h → ti ρ h P) (hz : ws.length ≤ 16000000) (G : W → W → Prop) (el : ∀ (w : W) (h' : HW) (R' : KW), w ∈ ws → (∀ y, G w y → R' y h') → tb (ρ.set j (some w)) h' R') (k : ∀ ys, Paired G ws ys → R (.lst ys) h) : oLc ti j oYes tb ρ h R := by
  refine ev _ ⟨hz, fun p hp => ⟨fun i acc h' => Paired G (ws.take i) acc ∧ h' = h, ⟨.nil, rfl⟩, ?_, ?_⟩⟩
  · rintro i w acc h' e n hl ⟨pa, rfl⟩
    refine go_yes ?_
    rw [if_pos rfl]
    refine el w _ _ (List.mem_of_getElem? e) fun y hy => ⟨_, .refl _, hp, ?_, rfl⟩
    rw [List.take_add_one, e]
    have app : ∀ {l1 l2 : List W}, Paired G l1 l2 → Paired G (l1 ++ [w]) (l2 ++ [y]) := fun {l1 l2} pa => by
      induction pa with
      | nil => exact .cons hy .nil
      | cons r t ih => exact .cons r ih
    exact app pa
  · rintro acc h' n ⟨pa, rfl⟩
    rw [List.take_length] at pa; exact k acc pa
end
end Wl

set_option Elab.async false
set_option linter.all false
set_option maxRecDepth 100000
namespace Wl
open PySem PySem.Spec PyProof.Rows L2
theorem XR.mono {K : PySem.W.Frag} {H H' : Hp} {h h' : HW} {x : XW} {od : Option Addr} (r : XR K H h x od) (s : ST H h H' h') : XR K H' h' x od := by
  obtain ⟨C, fs⟩ := x
  cases fs with
  | none => exact r
  | some fs =>
    obtain ⟨d, gs, e, e2, n, q⟩ := r
    exact ⟨d, gs, e, (s d _ e2 n).1, (s d _ e2 n).2, q.mono s⟩
/-- within an except suite: what the exception brings -/
def Lk.x (K : PySem.W.Frag) (x : XW) (od : Option Addr) : Lk := ⟨fun H h => XR K H h x od, XR.mono⟩
section
variable {X : Cx} {K : PySem.W.Frag}
def isEW (K : PySem.W.Frag) (D a : Addr) : List W → HW → KW → Prop := fun ws h R => ∃ C b, ws = [.ref a, .ref C] ∧ PySem.W.kitOne K (.ref D) (.ref C) = some b ∧ R (.bl b) h
theorem lf_isE {D a : Addr} : LfC K (rIsE K D a) (isEW K D a) := fun xs H Q ws h R r hr ⟨C, b, e, e2, t⟩ k => by
  subst e
  obtain ⟨x, y, rfl, q1, q2⟩ := r.two
  cases q1; cases q2
  exact ⟨_, .ref C, b, rfl, fun u e => e, e2, k.go hr t (.bl _)⟩
abbrev EndsW.sx (D : EndsW) (i : Nat) : EndsW := ⟨fun ρ h => D.nx (ρ.set i none) h, D.rt, fun ρ h => D.bk (ρ.set i none) h, fun ρ h => D.ct (ρ.set i none) h⟩
/-- try: x = f(..) / f(..) except S as n: suite -/
def sTry (K : PySem.W.Frag) (S : Addr) (sp : SpW) (t : TAW) (j : Option Nat) (i : Nat) (tsu : Addr → Addr → TSW) : TSW := fun D ρ h => t ρ h fun ws h1 => sp ws h1 (fun w h2 => D.nx (match j with | some j => ρ.set j (some w) | none => ρ) h2)
  fun x h2 => x.fs = none ∧ ExcC K x.C ∧ PySem.W.exmOne K (.ref x.C) (.ref S) = some true ∧ ∀ a, tsu x.C a (D.sx i) (ρ.set i (some (.ref a))) h2
variable {x n fx : Str} {S f : Addr} {i k : Nat} {b₀ : Stmt} {suite : List Stmt} {np pos pos' epos p cpos : Pos} {fd : FuncData} {ps : List Str} {sp : SpW} {e : Expr} {es : List Expr} {t : TAW} {tsu : Addr → Addr → TSW}
theorem try_el {σ : L2.St} {H : Hp} {D : Ends} {ρ : SlW} {h : HW} {DW : EndsW} (S1 : Sta K Lk.no σ H ρ h) (kd : KD K H h DW D) {h1 : HW} {H1 : Hp} (s1 : ST H h H1 h1) :
    (Lk.of K (L2.WE (wAs K (.ref S) i (fun a cls d => fun D σ H => ∃ C : Addr, cls = .ref C ∧ d = none ∧ ExcC K C ∧ lS K Lk.no (tsu C a) D σ H) (fun _ _ _ _ => False) D) σ)
      fun x h2 => x.fs = none ∧ ExcC K x.C ∧ PySem.W.exmOne K (.ref x.C) (.ref S) = some true ∧ ∀ a, tsu x.C a (DW.sx i) (ρ.set i (some (.ref a))) h2).el H1 h1 := by
  intro x h2 od H2 ⟨e0, ec, e1, e2⟩ s2 r2 xr
  have eo : od = none := by unfold XR at xr; rw [e0] at xr; exact xr
  refine ⟨true, e1, fun _ a ha => ⟨x.C, rfl, eo, ec, ρ.set i (some (.ref a)), h2, DW.sx i, ⟨(S1.sr.mono (s1.trans s2)).set (.ref a) i, r2, trivial⟩, e2 a, ?_⟩, fun z => nomatch z⟩
  have st := s1.trans s2
  exact ⟨fun ρ' h' σ' H' q s r sr => kd.nx _ h' _ H' q (st.trans s) r (sr.setN i), kd.rt.mono st, fun ρ' h' σ' H' q s r sr => kd.bk _ h' _ H' q (st.trans s) r (sr.setN i), fun ρ' h' σ' H' q s r sr => kd.ct _ h' _ H' q (st.trans s) r (sr.setN i)⟩
theorem ws_tryD (hs : X.stack = X.env :: X.outer) (hf : X.env.frame = some X.env.locals) (hN : X.N.Nodup) (hi : X.N[i]? = some n) (hln : X.env.kindOf n = some .local) (hc : Names X x (.ref S))
    (F : FnOk X.prog X.w X.K X.mg X.base (L2.CX X.prog X.w) k f fd ps (lSp X.K sp)) (hr : Room k X.A) (hg : Gl X fx) (hm : X.mg fx = some (.ref f)) (hk : PySem.W.keepIn X.K (.ref f) = true) (hb : Binds X.K fd ps [])
    (ha : ∀ pn xe, WA (X.tr pn xe) Lk.no (e :: es) t)
    (hsu : ∀ (C a : Addr) (oe : Obj) (pn : List (Addr × Obj)), ExcC X.K C → Zc (.ref C) none oe → (∃ vs, oe.data = .fields vs) → WSs (X.suite a ((a, oe) :: pn)) Lk.no (b₀ :: suite) (tsu C a))
    (hdb : (fx == ("__debug__" : Str)) = false := by decide) (he : starEach (e :: es) X.env = (false, eval e X.env) :: starEach es X.env := by rfl) (hpl : (backTo cpos (starEach es X.env)).any (·.1) = false := by rfl)
    (hsw : swapsWith (.Call (.Name fx p) (e :: es) [] cpos) none epos.line X.env = pure false := by rfl) :
    WS X Lk.no (.Try [.Expr (.Call (.Name fx p) (e :: es) [] cpos) epos] [.ExceptHandler (some (.Name x np)) (some n) (b₀ :: suite) pos'] [] [] pos) (sTry X.K S sp t none i tsu) :=
  (ps_try_as (tb := fun W => tDrop (tCallS (lSp X.K sp) (L2.WE W) (lA X.K Lk.no t))) (ts := fun a cls d => fun D σ H => ∃ C : Addr, cls = .ref C ∧ d = none ∧ ExcC X.K C ∧ lS X.K Lk.no (tsu C a) D σ H) (Wout := fun _ _ _ _ => False) hs hf hN hi hln hc
    (fun _ _ z => by obtain ⟨_, _, _, _, _, _, _, _, _, _, _, _, _, _, _, _, z⟩ := z; exact z.elim)
    (fun W pn xe tk _ => pss_one (ps_expr (pe_callS (X := X.tr pn xe) F hr hg hm hk hb (fun σ => passAt tk σ) (ha pn xe) hdb he hpl) hsw))
    (fun a oe cls d pn hz hf => ⟨fun pins s σ H D I ⟨C, ec, ed, ex, q⟩ => by subst ec ed; exact (hsu C a oe pn ex hz hf).run pins s σ H D I q⟩)).imp fun D σ H ⟨ρ, h, DW, S1, t1, kd⟩ =>
    ⟨ρ, h, _, S1, t1, fun ws h1 vs H1 q s1 r1 rws => ⟨ws, h1, _, _, rws, r1, q, fun w h2 v H2 r st hr rw => kd.nx _ h2 _ H2 r (s1.trans st) hr (S1.sr.mono (s1.trans st)), try_el S1 kd s1⟩⟩
theorem ws_tryA {j : Nat} {y : Str} {yp : Pos} (hs : X.stack = X.env :: X.outer) (hf : X.env.frame = some X.env.locals) (hN : X.N.Nodup) (hi : X.N[i]? = some n) (hln : X.env.kindOf n = some .local) (hc : Names X x (.ref S))
    (hj : X.N[j]? = some y) (hy : X.env.scope.names.lookup y = some .local)
    (F : FnOk X.prog X.w X.K X.mg X.base (L2.CX X.prog X.w) k f fd ps (lSp X.K sp)) (hr : Room k X.A) (hg : Gl X fx) (hm : X.mg fx = some (.ref f)) (hk : PySem.W.keepIn X.K (.ref f) = true) (hb : Binds X.K fd ps [])
    (ha : ∀ pn xe, WA (X.tr pn xe) Lk.no (e :: es) t)
    (hsu : ∀ (C a : Addr) (oe : Obj) (pn : List (Addr × Obj)), ExcC X.K C → Zc (.ref C) none oe → (∃ vs, oe.data = .fields vs) → WSs (X.suite a ((a, oe) :: pn)) Lk.no (b₀ :: suite) (tsu C a))
    (hdb : (fx == ("__debug__" : Str)) = false := by decide) (he : starEach (e :: es) X.env = (false, eval e X.env) :: starEach es X.env := by rfl) (hpl : (backTo cpos (starEach es X.env)).any (·.1) = false := by rfl)
    (hsw : swapsWith (.Call (.Name fx p) (e :: es) [] cpos) (some (.Name y yp)) epos.line X.env = pure false := by rfl) :
    WS X Lk.no (.Try [.Assign [.Name y yp] (.Call (.Name fx p) (e :: es) [] cpos) epos] [.ExceptHandler (some (.Name x np)) (some n) (b₀ :: suite) pos'] [] [] pos) (sTry X.K S sp t (some j) i tsu) :=
  (ps_try_as (tb := fun W => tAsg (tCallS (lSp X.K sp) (L2.WE W) (lA X.K Lk.no t)) (gName j)) (ts := fun a cls d => fun D σ H => ∃ C : Addr, cls = .ref C ∧ d = none ∧ ExcC X.K C ∧ lS X.K Lk.no (tsu C a) D σ H) (Wout := fun _ _ _ _ => False) hs hf hN hi hln hc
    (fun _ _ z => by obtain ⟨_, _, _, _, _, _, _, _, _, _, _, _, _, _, _, _, z⟩ := z; exact z.elim)
    (fun W pn xe tk _ => pss_one (ps_set (X := X.tr pn xe) hN hj (.inl hy) (pe_callS (X := X.tr pn xe) F hr hg hm hk hb (fun σ => passAt tk σ) (ha pn xe) hdb he hpl) hsw (.inr hy)))
    (fun a oe cls d pn hz hf => ⟨fun pins s σ H D I ⟨C, ec, ed, ex, q⟩ => by subst ec ed; exact (hsu C a oe pn ex hz hf).run pins s σ H D I q⟩)).imp fun D σ H ⟨ρ, h, DW, S1, t1, kd⟩ =>
    ⟨ρ, h, _, S1, t1, fun ws h1 vs H1 q s1 r1 rws => ⟨ws, h1, _, _, rws, r1, q, fun w h2 v H2 r st hr rw => kd.nx _ h2 _ H2 r (s1.trans st) hr ((S1.sr.mono (s1.trans st)).set rw j), try_el S1 kd s1⟩⟩
end
section
variable {K : PySem.W.Frag} {S : Addr} {sp : SpW} {t : TAW} {tsu : Addr → Addr → TSW} {D : EndsW} {ρ : SlW} {h : HW} {i j : Nat}
theorem go_try0 (k : t ρ h fun ws h1 => sp ws h1 (fun w h2 => D.nx ρ h2) fun x h2 => x.fs = none ∧ ExcC K x.C ∧ PySem.W.exmOne K (.ref x.C) (.ref S) = some true ∧ ∀ a, tsu x.C a (D.sx i) (ρ.set i (some (.ref a))) h2) : sTry K S sp t none i tsu D ρ h := k
theorem go_try1 (k : t ρ h fun ws h1 => sp ws h1 (fun w h2 => D.nx (ρ.set j (some w)) h2) fun x h2 => x.fs = none ∧ ExcC K x.C ∧ PySem.W.exmOne K (.ref x.C) (.ref S) = some true ∧ ∀ a, tsu x.C a (D.sx i) (ρ.set i (some (.ref a))) h2) : sTry K S sp t (some j) i tsu D ρ h := k
theorem go_isE {C a A : Addr} {b : Bool} {R : KW} (e : PySem.W.kitOne K (.ref C) (.ref A) = some b) (k : R (.bl b) h) : isEW K C a [.ref a, .ref A] h R := ⟨A, b, rfl, e, k⟩
end
/-! ## small numbers -/
theorem l2 {i : Int} (h : i.natAbs ≤ 1000000000000000000) : i.natAbs.log2 < 1920 := by
  by_cases z : i.natAbs = 0
  · rw [z]; decide
  · rw [Nat.log2_lt z]
    exact Nat.lt_of_le_of_lt h (Nat.lt_of_lt_of_le (by decide : (1000000000000000000 : Nat) < 2 ^ 64) (Nat.pow_le_pow_right (by decide) (by decide)))
end Wl
namespace Wl
open PySem PySem.Spec PyProof.Rows L2
theorem decS_len {i : Int} (h : i.natAbs.log2 < 1920) : (decS i).length ≤ 1921 := by
  have := int_text_len_1921 h
  unfold decS
  rw [Array.length_toList]
  exact this
theorem decS_len' {i : Int} (h : i.natAbs ≤ 1000000000000000000) : (decS i).length ≤ 1921 := decS_len (l2 h)
theorem decS_nat (n : Nat) : decS (n : Int) = TL.numL n := TL.tl_num n
/-! ## comprehensions over what is not one list -/
section
variable {ti : TIW} {te tb : TEW} {tt : TTW} {j : Nat} {ρ : SlW} {h : HW} {R : KW}
def LcB (j : Nat) (tt : TTW) (te : TEW) (ρ : SlW) (R : KW) (ws : List W) (h1 : HW) : Prop := ws.length ≤ 16000000 ∧ ∀ p, h1 p = none → ∃ Pv : Nat → List W → HW → Prop, Pv 0 [] h1 ∧
  (∀ i w acc h', ws[i]? = some w → h' p = none → acc.length ≤ i → Pv i acc h' → tt (ρ.set j (some w)) (updW h' p (.lst acc)) fun b h3 => if b = true then te (ρ.set j (some w)) h3 fun y h4 => ∃ h5, Sub (updW h5 p (.lst acc)) h4 ∧ h5 p = none ∧ Pv (i + 1) (acc ++ [y]) h5
    else ∃ h5, Sub (updW h5 p (.lst acc)) h3 ∧ h5 p = none ∧ Pv (i + 1) acc h5) ∧ ∀ acc h', h' p = none → Pv ws.length acc h' → R (.lst acc) h'
theorem go_lcS (k : ti ρ h (LcB j tt te ρ R)) : oLc ti j tt te ρ h R := k
theorem go_itL {P : List W → HW → Prop} (k : te ρ h fun x h1 => match x with | .lst ws => P ws h1 | .scr ws => P ws h1 | _ => False) : oItL te ρ h P := k
theorem lcB_P {ws : List W} (G : W → W → Prop) (hz : ws.length ≤ 16000000) (el : ∀ (w : W) (h' : HW) (R' : KW), w ∈ ws → (∀ y, G w y → R' y h') → tb (ρ.set j (some w)) h' R') (k : ∀ ys, Paired G ws ys → R (.lst ys) h) : LcB j oYes tb ρ R ws h :=
  go_lcP (ti := fun _ h P => P ws h) ws (fun _ q => q) hz G el k
end
/-! ## the head -/
theorem hspW {sp : SpW} {n : Nat} (hsp : ∀ (h : HW) (ns : List Int), ns.length ≤ n → sp [.scr (ns.map W.int)] h (fun w _ => w = .bl true) noX) (K : PySem.W.Frag) (H : Hp) (a : Addr) (ns : List Int) (hl : ns.length ≤ n) (ho : Only H) (hS : SqL K H a (ns.map V.int)) :
    lSp K sp [.ref a] H (fun v _ => v = .bl true) fun _ _ _ => False := by
  have rIs : ∀ ns : List Int, RWs K H (fun _ => none) (ns.map V.int) (ns.map W.int) := fun ns => by
    induction ns with
    | nil => exact .nil
    | cons n ns ih => exact .cons (.int n) ih
  have f : FzS K H (fun _ => none) a (ns.map V.int) := by
    rcases hS with (e | e) | e
    · rcases ho a with z | ⟨o, xs, z⟩ <;> rw [e] at z <;> cases z
    · exact .inl ⟨e, rfl⟩
    · exact .inr e
  exact ⟨_, fun _ => none, _, noX, .cons (.scr f (rIs ns)) .nil, (fun _ _ z => nomatch z), hsp _ ns hl, fun w h' v H' e _ _ r => by subst e; cases r; rfl, fun _ _ _ _ z => z.elim⟩
/-! ## constants of the written part -/
inductive Sks (K : PySem.W.Frag) : List Value → List W → Prop
  | nil : Sks K [] []
  | cons {u : Value} {w : W} {us : List Value} {ws : List W} (s : Sk K u w) (t : Sks K us ws) : Sks K (u :: us) (w :: ws)
theorem Sks.is {K : PySem.W.Frag} {us : List Value} {ws : List W} (s : Sks K us ws) : ∃ vs, Vals vs us ∧ ∀ H h, RWs K H h vs ws := by
  induction s with
  | nil => exact ⟨[], .nil, fun _ _ => .nil⟩
  | cons s _ ih =>
    obtain ⟨v, a, b⟩ := s.is
    obtain ⟨vs, c, d⟩ := ih
    exact ⟨v :: vs, .cons a c, fun H h => .cons (b H h) (d H h)⟩
theorem Sk.int {K : PySem.W.Frag} (i : Int) (t : Tok) : Sk K (.int i t) (.int i) := ⟨.int i, ⟨t, rfl⟩, fun _ _ => .int i⟩
theorem Sk.str {K : PySem.W.Frag} (s : List Nat) (t : Tok) : Sk K (.str (mkS s) t) (.str s) := ⟨.str (mkS s), ⟨t, rfl⟩, fun _ _ => .str s⟩
theorem Sk.bl {K : PySem.W.Frag} (b : Bool) : Sk K (.bool b) (.bl b) := ⟨.bl b, rfl, fun _ _ => .bl b⟩
theorem Sk.ref {K : PySem.W.Frag} (a : Addr) : Sk K (.ref a) (.ref a) := ⟨.ref a, rfl, fun _ _ => .ref a⟩
theorem Sk.tup {K : PySem.W.Frag} {a : Addr} {d : Option Addr} {its : Array Value} {n : Nat} {sl : Array (Option Value)} {ws : List W} (lk : K.lookup a = some ⟨.type "tuple", d, .seq its n, sl⟩) (hs : its.size ≤ sizeLine) (s : Sks K its.toList ws) : Sk K (.ref a) (.tup ws) := by
  obtain ⟨vs, c, r⟩ := s.is
  exact ⟨.ref a, rfl, fun H h => .tup (.inr ⟨_, its, n, lk, rfl, rfl, hs, c⟩) (r H h)⟩
/-! ## classes -/
section
variable {K : PySem.W.Frag} {C S : Addr} {r : Bool} {cd : ClassData}
theorem kitCls_of (t : PySem.W.typeIn K (.ref S) = some (.type "type")) (c : (PySem.W.clsIn K S).isSome = true) (s : PySem.W.subIn K (.ref C) (.ref S) = some r) : PySem.W.kitCls K (.ref C) (.ref S) = some r := by
  unfold PySem.W.kitCls
  dsimp only
  rw [c, t, Bool.true_and, beq_self_eq_true, if_pos rfl]
  exact s
theorem exm_of (b : PySem.W.subIn K (.ref S) (.type "BaseException") = some true) (t : PySem.W.typeIn K (.ref S) = some (.type "type")) (c : (PySem.W.clsIn K S).isSome = true) (s : PySem.W.subIn K (.ref C) (.ref S) = some r) : PySem.W.exmOne K (.ref C) (.ref S) = some r := by
  unfold PySem.W.exmOne
  rw [b, beq_self_eq_true, if_pos rfl]
  exact kitCls_of t c s
theorem kit_me : PySem.W.kitOne K (.ref C) (.ref C) = some true := if_pos (beq_self_eq_true _)
theorem kit_of (n : (Value.ref C == Value.ref S) = false) (t : PySem.W.typeIn K (.ref S) = some (.type "type")) (c : (PySem.W.clsIn K S).isSome = true) (s : PySem.W.subIn K (.ref C) (.ref S) = some r) : PySem.W.kitOne K (.ref C) (.ref S) = some r := by
  unfold PySem.W.kitOne
  rw [n, if_neg Bool.false_ne_true]
  exact kitCls_of t c s
theorem some_is {α : Type} {x : Option α} {a : α} (h : x = some a) : x.isSome = true := by rw [h]; rfl
end
end Wl

set_option Elab.async false
set_option linter.all false
set_option maxRecDepth 100000
namespace Wl
open PySem PySem.Spec PyProof.Rows L2
/-! ## dicts with ints and texts as keys -/
def wKey : L2.Key → W
  | .inl i => .int i
  | .inr x => .str x.cps.toList
/-- the pairs of a dict: owned or not -/
def dW (x : W) (h : HW) : Option (List (L2.Key × W)) := match x with
  | .dic kws => some kws
  | .ref p => (match h p with | some (.dic kws) => some kws | _ => none)
  | _ => none
def valW {α : Type} (kws : List (L2.Key × α)) (k : L2.Key) : Option α := (kws.find? fun kv => decide (kv.1 = k)).map (·.2)
def putW {α : Type} (kws : List (L2.Key × α)) (k : L2.Key) (w : α) : List (L2.Key × α) :=
  if (kws.any fun kv => decide (kv.1 = k)) = true then kws.map (fun kv => if kv.1 = k then (kv.1, w) else kv) else kws ++ [(k, w)]
section
variable {K : PySem.W.Frag} {H : Hp} {h : HW}
theorem RKs.val {k : L2.Key} : ∀ {kvs : List (L2.Key × V)} {kws : List (L2.Key × W)}, RKs K H h kvs kws → (valV kvs k = none ∧ valW kws k = none) ∨ ∃ v w, valV kvs k = some v ∧ valW kws k = some w ∧ RW K H h v w
  | _, _, .nil => .inl ⟨rfl, rfl⟩
  | _, _, @RKs.cons _ _ _ k' v w vs ws r t => by
    by_cases e : k' = k
    · exact .inr ⟨v, w, by simp [valV, List.find?_cons, e], by simp [valW, List.find?_cons, e], r⟩
    · rcases t.val (k := k) with ⟨a, b⟩ | ⟨v', w', a, b, c⟩
      · exact .inl ⟨by simpa [valV, List.find?_cons, e] using a, by simpa [valW, List.find?_cons, e] using b⟩
      · exact .inr ⟨v', w', by simpa [valV, List.find?_cons, e] using a, by simpa [valW, List.find?_cons, e] using b, c⟩
theorem RKs.length : ∀ {kvs : List (L2.Key × V)} {kws : List (L2.Key × W)}, RKs K H h kvs kws → kvs.length = kws.length
  | _, _, .nil => rfl
  | _, _, .cons _ t => congrArg (· + 1) t.length
theorem RKs.any {k : L2.Key} : ∀ {kvs : List (L2.Key × V)} {kws : List (L2.Key × W)}, RKs K H h kvs kws → (kvs.any fun kv => decide (kv.1 = k)) = kws.any fun kv => decide (kv.1 = k)
  | _, _, .nil => rfl
  | _, _, .cons _ t => by simp [t.any]
theorem RKs.putMap {k : L2.Key} {v : V} {w : W} (r : RW K H h v w) : ∀ {kvs : List (L2.Key × V)} {kws : List (L2.Key × W)}, RKs K H h kvs kws → RKs K H h (kvs.map fun kv => if kv.1 = k then (kv.1, v) else kv) (kws.map fun kv => if kv.1 = k then (kv.1, w) else kv)
  | _, _, .nil => .nil
  | _, _, @RKs.cons _ _ _ k' v' w' vs ws q t => by
    simp only [List.map_cons]
    by_cases e : k' = k
    · rw [if_pos e, if_pos e]; exact .cons r (t.putMap r)
    · rw [if_neg e, if_neg e]; exact .cons q (t.putMap r)
theorem RKs.snoc {k : L2.Key} {v : V} {w : W} (r : RW K H h v w) : ∀ {kvs : List (L2.Key × V)} {kws : List (L2.Key × W)}, RKs K H h kvs kws → RKs K H h (kvs ++ [(k, v)]) (kws ++ [(k, w)])
  | _, _, .nil => .cons r .nil
  | _, _, .cons q t => .cons q (t.snoc r)
theorem RKs.put {k : L2.Key} {v : V} {w : W} (r : RW K H h v w) {kvs : List (L2.Key × V)} {kws : List (L2.Key × W)} (t : RKs K H h kvs kws) : RKs K H h (putK kvs k v) (putW kws k w) := by
  unfold putK putW
  rw [t.any (k := k)]
  split
  · exact t.putMap r
  · exact t.snoc r
theorem RKs.keys : ∀ {kvs : List (L2.Key × V)} {kws : List (L2.Key × W)}, RKs K H h kvs kws → RWs K H h (kvs.map fun kv => kV kv.1) (kws.map fun kv => wKey kv.1)
  | _, _, .nil => .nil
  | _, _, @RKs.cons _ _ _ k v w vs ws _ t => by
    refine .cons ?_ t.keys
    cases k with
    | inl i => exact .int i
    | inr x =>
      have e : x = mkS x.cps.toList := by cases x; rfl
      show RW K H h (.str x) (.str x.cps.toList)
      conv => lhs; rw [e]
      exact .str _
theorem dic_at {v : V} {x : W} {kws : List (L2.Key × W)} (hr : HR K H h) (r : RW K H h v x) (e : dW x h = some kws) : ∃ a kvs, v = .ref a ∧ H a = some (.dK kvs) ∧ RKs K H h kvs kws := by
  unfold dW at e
  split at e
  · cases e
    cases r with
    | dic f q => exact ⟨_, _, rfl, f.1, q⟩
  · split at e
    · rename_i hp
      cases e
      cases r
      obtain ⟨kvs, a, b⟩ := hr _ _ hp
      exact ⟨_, _, rfl, a, b⟩
    · cases e
  · cases e
theorem key_at {v : V} {x : W} {k : L2.Key} (r : RW K H h v x) (e : keyW x = some k) : v = kV k := by
  unfold keyW at e
  split at e
  · cases e; cases r; rfl
  · cases e; cases r; rfl
  · cases e
theorem KV.dic {R : KW} {Q : VK} (k : KV K H h R Q) (hr : HR K H h) {kvs : List (L2.Key × V)} {kws : List (L2.Key × W)} (r : RKs K H h kvs kws) (t : R (.dic kws) h) {p : Addr} (e : H p = none) : Q (.ref p) (upd H p (.dK kvs)) :=
  k _ h _ _ t (.newF e _) (hr.newF e _) (.dic ⟨upd_same, hr.fresh e⟩ (r.mono (.newF e _)))
theorem KV.dicO {R : KW} {Q : VK} (k : KV K H h R Q) (hr : HR K H h) {kvs : List (L2.Key × V)} {kws : List (L2.Key × W)} (r : RKs K H h kvs kws) (t : ∀ p, h p = none → R (.ref p) (updW h p (.dic kws))) {p : Addr} (e : H p = none) : Q (.ref p) (upd H p (.dK kvs)) :=
  k _ _ _ _ (t p (hr.fresh e)) (.newO e _ _) (hr.newO e ⟨kvs, upd_same, r.mono (.newO e _ _)⟩) (.ref p)
end
section
variable {X : Cx} {L : Lk} {a b c : Expr} {pos : Pos} {ta tb tc : TEW}
/-- {}: one that stays, one that is owned -/
def oD0 : TEW := fun _ h R => R (.dic []) h
def oD0O : TEW := fun _ h R => ∀ p, h p = none → R (.ref p) (updW h p (.dic []))
theorem w_d0 : WE X L (.Dict [] [] pos) oD0 := pe_dnewK.imp fun σ H Q ⟨ρ, h, R, S, t, k⟩ p hp => k.dic S.hr .nil t hp
theorem w_d0O : WE X L (.Dict [] [] pos) oD0O := pe_dnewK.imp fun σ H Q ⟨ρ, h, R, S, t, k⟩ p hp => k.dicO S.hr .nil t hp
/-- dict(d) -/
def dictW : List W → HW → KW → Prop := fun ws h R => match ws with | [x] => (match dW x h with | some kws => R (.dic kws) h | none => False) | _ => False
def dictOW : List W → HW → KW → Prop := fun ws h R => match ws with | [x] => (match dW x h with | some kws => ∀ p, h p = none → R (.ref p) (updW h p (.dic kws)) | none => False) | _ => False
abbrev rDict : List V → Hp → VK → Prop := fun xs H Q => ∃ (a : Addr) (kvs : List (Key × V)), xs = [.ref a] ∧ Rd H a (.dK kvs) ∧ ∀ p, H p = none → Q (.ref p) (upd H p (.dK kvs))
theorem lf_dict {K : PySem.W.Frag} : LfC K rDict dictW := fun xs H Q ws h R r hr t k => by
  unfold dictW at t
  split at t
  · split at t
    · rename_i e
      obtain ⟨x, rfl, q⟩ := r.one
      obtain ⟨a, kvs, rfl, ha, rk⟩ := dic_at hr q e
      exact ⟨a, kvs, rfl, .inl ha, fun p hp => k.dic hr rk t hp⟩
    · exact t.elim
  · exact t.elim
theorem lf_dictO {K : PySem.W.Frag} : LfC K rDict dictOW := fun xs H Q ws h R r hr t k => by
  unfold dictOW at t
  split at t
  · split at t
    · rename_i e
      obtain ⟨x, rfl, q⟩ := r.one
      obtain ⟨a, kvs, rfl, ha, rk⟩ := dic_at hr q e
      exact ⟨a, kvs, rfl, .inl ha, fun p hp => k.dicO hr rk t hp⟩
    · exact t.elim
  · exact t.elim
/-- list(d) -/
def listDW : List W → HW → KW → Prop := fun ws h R => match ws with | [x] => (match dW x h with | some kws => R (.lst (kws.map fun kv => wKey kv.1)) h | none => False) | _ => False
theorem lf_listD {K : PySem.W.Frag} : LfC K rListD listDW := fun xs H Q ws h R r hr t k => by
  unfold listDW at t
  split at t
  · split at t
    · rename_i e
      obtain ⟨x, rfl, q⟩ := r.one
      obtain ⟨a, kvs, rfl, ha, rk⟩ := dic_at hr q e
      exact ⟨a, kvs, rfl, ha, fun p hp => k.lst hr rk.keys t hp⟩
    · exact t.elim
  · exact t.elim
/-- len(d) -/
def lenDW : List W → HW → KW → Prop := fun ws h R => match ws with | [x] => (match dW x h with | some kws => R (.int kws.length) h | none => False) | _ => False
theorem lf_lenD {K : PySem.W.Frag} : LfC K (fun xs H Q => ∃ a kvs, xs = [V.ref a] ∧ H a = some (.dK kvs) ∧ Q (.int kvs.length) H) lenDW := fun xs H Q ws h R r hr t k => by
  unfold lenDW at t
  split at t
  · split at t
    · rename_i e
      obtain ⟨x, rfl, q⟩ := r.one
      obtain ⟨a, kvs, rfl, ha, rk⟩ := dic_at hr q e
      refine ⟨a, kvs, rfl, ha, ?_⟩
      rw [rk.length]
      exact k.go hr t (.int _)
    · exact t.elim
  · exact t.elim
/-- k in d -/
def dgW (x y : W) (h : HW) : Option (Option W) := match dW x h, keyW y with | some kws, some k => some (valW kws k) | _, _ => none
theorem dg_at {K : PySem.W.Frag} {H : Hp} {h : HW} {v u : V} {x y : W} {o : Option W} (hr : HR K H h) (rx : RW K H h v x) (ry : RW K H h u y) (e : dgW x y h = some o) :
    ∃ a ov, v = .ref a ∧ DGet H a u ov ∧ IsD H a ∧ ((ov = none ∧ o = none) ∨ ∃ v1 w1, ov = some v1 ∧ o = some w1 ∧ RW K H h v1 w1) := by
  unfold dgW at e
  split at e
  · rename_i e1 e2
    cases e
    obtain ⟨a, kvs, rfl, ha, rk⟩ := dic_at hr rx e1
    cases key_at ry e2
    exact ⟨a, _, rfl, .k ha, .inl ⟨_, .inl ha⟩, rk.val⟩
  · cases e
def dinW : W → W → HW → KW → Prop := fun y x h R => match dgW x y h with | some o => R (.bl o.isSome) h | none => False
def dnotinW : W → W → HW → KW → Prop := fun y x h R => match dgW x y h with | some o => R (.bl (!o.isSome)) h | none => False
theorem din_imp {K : PySem.W.Frag} : ∀ σ H Q, lE K L (oOp dinW ta tb) σ H Q → tDIn (lE K L ta) (lE K L tb) σ H Q := fun σ H Q ⟨ρ, h, R, S, t, k⟩ =>
  ⟨ρ, h, _, S, t, fun w1 h1 v1 H1 t1 s1 r1 q1 => ⟨ρ, h1, _, S.to s1 r1, t1, fun w2 h2 v2 H2 t2 s2 r2 q2 => by
    unfold dinW at t2
    split at t2
    · rename_i o e
      obtain ⟨a, ov, rfl, g, _, z⟩ := dg_at r2 q2 (q1.mono s2) e
      refine ⟨a, ov, rfl, g, ?_⟩
      rcases z with ⟨rfl, rfl⟩ | ⟨_, _, rfl, rfl, _⟩ <;> exact k _ h2 _ H2 t2 (s1.trans s2) r2 (.bl _)
    · exact t2.elim⟩⟩
theorem dnotin_imp {K : PySem.W.Frag} : ∀ σ H Q, lE K L (oOp dnotinW ta tb) σ H Q → tDNotIn (lE K L ta) (lE K L tb) σ H Q := fun σ H Q ⟨ρ, h, R, S, t, k⟩ =>
  ⟨ρ, h, _, S, t, fun w1 h1 v1 H1 t1 s1 r1 q1 => ⟨ρ, h1, _, S.to s1 r1, t1, fun w2 h2 v2 H2 t2 s2 r2 q2 => by
    unfold dnotinW at t2
    split at t2
    · rename_i o e
      obtain ⟨a, ov, rfl, g, _, z⟩ := dg_at r2 q2 (q1.mono s2) e
      refine ⟨a, ov, rfl, g, ?_⟩
      rcases z with ⟨rfl, rfl⟩ | ⟨_, _, rfl, rfl, _⟩ <;> exact k _ h2 _ H2 t2 (s1.trans s2) r2 (.bl _)
    · exact t2.elim⟩⟩
theorem w_din (hu : X.A.units + 1 < cLine) (ha : WE X L a ta) (hb : WE X L b tb) (hm : behindInMarks .In b = false := by rfl) : WE X L (.Compare a [.In] [b] pos) (oOp dinW ta tb) := (pe_cmp (pc_din hu ha hb) hm).imp din_imp
theorem w_dnotin (hu : X.A.units + 1 < cLine) (ha : WE X L a ta) (hb : WE X L b tb) (hm : behindInMarks .NotIn b = false := by rfl) : WE X L (.Compare a [.NotIn] [b] pos) (oOp dnotinW ta tb) := (pe_cmp (pc_dnotin hu ha hb) hm).imp dnotin_imp
theorem wt_din (hu : X.A.units + 1 < cLine) (ha : WE X L a ta) (hb : WE X L b tb) (hm : behindInMarks .In b = false := by rfl) : WT X L (.Compare a [.In] [b] pos) (oTest (oOp dinW ta tb)) := (pt_cmp (pc_din hu ha hb) hm).imp (test_imp din_imp)
theorem wt_dnotin (hu : X.A.units + 1 < cLine) (ha : WE X L a ta) (hb : WE X L b tb) (hm : behindInMarks .NotIn b = false := by rfl) : WT X L (.Compare a [.NotIn] [b] pos) (oTest (oOp dnotinW ta tb)) := (pt_cmp (pc_dnotin hu ha hb) hm).imp (test_imp dnotin_imp)
/-- d[k] -/
def dgetW : W → W → HW → KW → Prop := fun x y h R => match dgW x y h with | some (some w) => R w h | _ => False
theorem w_dget (hu : X.A.units + 1 < cLine) (ha : WE X L a ta) (hb : WE X L b tb) (hs : NoSl b := by exact fun _ _ => rfl) : WE X L (.Subscript a b pos) (oOp dgetW ta tb) := (pe_dget hu ha hb hs).imp fun σ H Q ⟨ρ, h, R, S, t, k⟩ =>
  ⟨ρ, h, _, S, t, fun w1 h1 v1 H1 t1 s1 r1 q1 => ⟨ρ, h1, _, S.to s1 r1, t1, fun w2 h2 v2 H2 t2 s2 r2 q2 => by
    unfold dgetW at t2
    split at t2
    · rename_i w e
      obtain ⟨a, ov, rfl, g, _, z⟩ := dg_at r2 (q1.mono s2) q2 e
      rcases z with ⟨_, z⟩ | ⟨v3, w3, rfl, e3, r3⟩
      · cases z
      · cases e3; exact ⟨a, v3, rfl, g, k _ h2 _ H2 t2 (s1.trans s2) r2 r3⟩
    · exact t2.elim⟩⟩
/-- d[k] = v -/
def dputK (x : W) (k : Option L2.Key) (v : W) (P : HW → Prop) (h3 : HW) : Prop := match x, k with
  | .ref p, some k => (match h3 p with | some (.dic kws) => kws.length ≤ 16000000 ∧ P (updW h3 p (.dic (putW kws k v))) | _ => False)
  | _, _ => False
def sDput (tv td ty : TEW) : TSW := fun D ρ h => tv ρ h fun v h1 => td ρ h1 fun x h2 => ty ρ h2 fun y h3 => dputK x (keyW y) v (D.nx ρ) h3
theorem ws_dput {pos' : Pos} (hu : X.A.units + 1 < cLine) (ho : WE X L a ta) (hi : WE X L b tb) (hv : WE X L c tc) (hs : swapsWith c (some (.Subscript a b pos')) pos.line X.env = pure false := by rfl) :
    WS X L (.Assign [.Subscript a b pos'] c pos) (sDput tc ta tb) := (ps_dput hu ho hi hv hs).imp fun D σ H ⟨ρ, h, DW, S, t, k⟩ =>
  ⟨ρ, h, _, S, t, fun w1 h1 v1 H1 t1 s1 r1 q1 => ⟨ρ, h1, _, S.to s1 r1, t1, fun w2 h2 v2 H2 t2 s2 r2 q2 => ⟨ρ, h2, _, S.to (s1.trans s2) r2, t2, fun w3 h3 v3 H3 t3 s3 r3 q3 => by
    unfold dputK at t3
    split at t3
    · rename_i p k' e
      split at t3
      · rename_i kws hp
        cases q2
        obtain ⟨kvs, hk, rk⟩ := r3 _ _ hp
        cases key_at q3 e
        have st : ST H3 h3 (upd H3 p (.dK (putK kvs k' v1))) (updW h3 p (.dic (putW kws k' w1))) := .mut hp _ _
        refine ⟨p, _, rfl, .inl ⟨kvs, k', hk, rfl, by rw [rk.length]; exact sz_lt t3.1, rfl⟩, k.nx ρ _ _ _ t3.2 (((s1.trans s2).trans s3).trans st) ?_ ((S.sr.mono ((s1.trans s2).trans s3)).mono st)⟩
        exact r3.mut hp ⟨_, upd_same, (rk.mono st).put (((q1.mono s2).mono s3).mono st)⟩
      · exact t3.elim
    · exact t3.elim⟩⟩⟩
end
/-! ## is it empty? -/
def truW (x : W) (h : HW) : Option Bool := match x with
  | .non => some false
  | .bl b => some b
  | .int i => some (i != 0)
  | .tup ws => some (!ws.isEmpty)
  | .lst ws => some (!ws.isEmpty)
  | .scr ws => some (!ws.isEmpty)
  | .dic kws => some (!kws.isEmpty)
  | .ref p => (match h p with | some (.lst ws) => some (!ws.isEmpty) | some (.dic kws) => some (!kws.isEmpty) | _ => none)
  | _ => none
section
variable {X : Cx} {L : Lk} {e : Expr} {te : TEW}
def truK (o : Option Bool) (R : Bool → HW → Prop) (h1 : HW) : Prop := match o with | some b => R b h1 | none => False
def oTruth (te : TEW) : TTW := fun ρ h R => te ρ h fun x h1 => truK (truW x h1) R h1
theorem emp_of {K : PySem.W.Frag} {H : Hp} {h : HW} {vs : List V} {ws : List W} (r : RWs K H h vs ws) : (!ws.isEmpty) = !vs.isEmpty := by cases r <;> rfl
theorem empK_of {K : PySem.W.Frag} {H : Hp} {h : HW} {vs : List (L2.Key × V)} {ws : List (L2.Key × W)} (r : RKs K H h vs ws) : (!ws.isEmpty) = !vs.isEmpty := by cases r <;> rfl
theorem wt_truth (ha : WE X L e te) (he : ∀ whole, isTrue e X.env whole = (do let v ← whole; standAt e.pos; holding [v] (truthy v)) := by intro _; rfl) : WT X L e (oTruth te) := (pt_truth ha he).imp fun σ H Q ⟨ρ, h, R, S, t, k⟩ =>
  ⟨ρ, h, _, S, t, fun w1 h1 v1 H1 t1 s1 r1 q1 => by
    unfold truK at t1
    split at t1
    · rename_i b eb
      refine ⟨b, ?_, k b h1 H1 t1 s1 r1⟩
      unfold truW at eb
      split at eb
      · cases eb; cases q1; rfl
      · cases eb; cases q1; rfl
      · cases eb; cases q1; rfl
      · cases eb; cases q1 with | tup f r => exact .inr (.inl ⟨_, f.sq, emp_of r⟩)
      · cases eb; cases q1 with | lst f r => exact .inl ⟨_, f.sq, emp_of r⟩
      · cases eb; cases q1 with | scr f r => exact .inl ⟨_, f.sq, emp_of r⟩
      · cases eb; cases q1 with | dic f r => exact .inr (.inr ⟨_, f.1, empK_of r⟩)
      · split at eb
        · rename_i hp
          cases eb; cases q1
          obtain ⟨vs, a, r⟩ := r1 _ _ hp
          exact .inl ⟨_, .inl (.inl a), emp_of r⟩
        · rename_i hp
          cases eb; cases q1
          obtain ⟨vs, a, r⟩ := r1 _ _ hp
          exact .inr (.inr ⟨_, a, empK_of r⟩)
        · cases eb
      · cases eb
    · exact t1.elim⟩
end
end Wl

set_option Elab.async false
set_option linter.all false
set_option maxRecDepth 100000
namespace L2
open PySem PySem.Spec PyProof.Rows
/-- d.get(k, x), d a written dict with texts as keys -/
def tKGet2 (K : PySem.W.Frag) (w : World) (td ty tx : TE) : TE := fun σ H Q => td σ H fun x H1 => ∃ (p : Addr) (es : Array DictEntry) (n : Nat), x = .ref p ∧ K.lookup p = some ⟨.type "dict", none, .dict es n, #[]⟩ ∧ PySem.W.KeysLit w.params es.toList ∧ (p == sysModules) = false ∧
  ty σ H1 fun y H2 => tx σ H2 fun z H3 => ∃ (s : Str) (ou : Option Value), y = .str s ∧ PySem.W.nsIn K p s = some ou ∧ (∀ u, ou = some u → ∃ v, RelV v u ∧ Q v H3) ∧ (ou = none → Q z H3)
section
variable {X : Cx} {o e f : Expr} {apos cpos : Pos} {td ty tx : TE}
theorem pe_kget2 (ho : PE X o td) (he : PE X e ty) (hf : PE X f tx) (m : M2 X o "get" apos e f cpos) : PE X (.Call (.Attribute o "get" apos) [e, f] [] cpos) (tKGet2 X.K X.w td ty tx) := by
  refine ⟨fun pins s σ H Q I h => ?_⟩
  refine wpAny_Call_method m.base m.few m.line PySem.F.plainAttrs_dict PySem.F.slot_dict_get PySem.F.type_dict_get (thn (ho.run pins s σ H _ I h) fun u s1 ⟨x, H1, I1, rx, p, es, n, ex, hl, hk, low, q1⟩ => ?_)
  subst ex
  obtain rfl : u = Value.ref p := rx
  have hm1 := PySem.W.mapOf_K (prog := X.prog) (w := X.w) I1.kIn hl hk
  refine ⟨hm1.typeIs, fun b q => by cases q; exact ⟨_, I1.kIn _ _ hl, rfl⟩, ?_⟩
  rw [m.trees]
  refine Calls.callWith_builtin rfl (Calls.evalArgs_plain (Calls.spliced_cons (thn (he.run pins s1 σ H1 _ I1 q1) fun iv s2 ⟨y, H2, I2, ry, q2⟩ =>
    Calls.spliced_cons (thn (hf.run pins s2 σ H2 _ I2 q2) fun fv s3 ⟨z, H3, I3, rz, st, ou, ey, en, qs, qn⟩ => Calls.spliced_nil ?_))))
  subst ey
  obtain ⟨t, rfl⟩ := (show ∃ t, iv = Value.str st t from ry)
  have hm := PySem.W.mapOf_K (prog := X.prog) (w := X.w) I3.kIn hl hk
  have hf' := PySem.W.find_K hl en
  refine call_meetsIn PySem.F.slot_dict_get hm.typeIs PySem.F.entry_dict_get (PySem.F.args_dict_get_3 _ _ _) (meets_dict_get_default (strKind X.prog X.w) p (strKind_is X.prog X.w st t) low fv) ⟨_, hm, ?_⟩
  show EP X pins σ Q _ _
  rw [hf']
  cases ou with
  | some u =>
    obtain ⟨v, rv, q⟩ := qs u rfl
    exact ⟨v, H3, I3.tok _, rv, q⟩
  | none => exact ⟨z, H3, I3.tok _, rz, qn rfl⟩
end
end L2
namespace Wl
open PySem PySem.Spec PyProof.Rows L2
/-! ## written dicts -/
inductive KYes (K : PySem.W.Frag) (p : Addr) : List (List Nat × W) → Prop
  | nil : KYes K p []
  | cons {s : List Nat} {w : W} {u : Value} {r : List (List Nat × W)} (n : PySem.W.nsIn K p (mkS s) = some (some u)) (q : Sk K u w) (t : KYes K p r) : KYes K p ((s, w) :: r)
inductive KNo (K : PySem.W.Frag) (p : Addr) : List (List Nat) → Prop
  | nil : KNo K p []
  | cons {s : List Nat} {r : List (List Nat)} (n : PySem.W.nsIn K p (mkS s) = some none) (t : KNo K p r) : KNo K p (s :: r)
structure KTab (w : World) (K : PySem.W.Frag) (p : Addr) (tbl : List (List Nat × W)) (no : List (List Nat)) : Prop where
  ex : ∃ es n, K.lookup p = some ⟨.type "dict", none, .dict es n, #[]⟩ ∧ PySem.W.KeysLit w.params es.toList
  low : (p == sysModules) = false
  yes : KYes K p tbl
  no : KNo K p no
def tabW : List (List Nat × W) → List Nat → Option W
  | [], _ => none
  | (s, w) :: r, t => if s = t then some w else tabW r t
theorem KYes.at {K : PySem.W.Frag} {p : Addr} {tbl : List (List Nat × W)} {s : List Nat} {w : W} (y : KYes K p tbl) (e : tabW tbl s = some w) : ∃ u, PySem.W.nsIn K p (mkS s) = some (some u) ∧ Sk K u w := by
  induction y with
  | nil => cases e
  | cons n q t ih =>
    unfold tabW at e
    split at e
    · rename_i es
      cases e; subst es; exact ⟨_, n, q⟩
    · exact ih e
theorem KNo.at {K : PySem.W.Frag} {p : Addr} {no : List (List Nat)} {s : List Nat} (y : KNo K p no) (e : s ∈ no) : PySem.W.nsIn K p (mkS s) = some none := by
  induction y with
  | nil => cases e
  | cons n t ih =>
    rcases List.mem_cons.mp e with rfl | e
    · exact n
    · exact ih e
section
variable {X : Cx} {L : Lk} {a b c : Expr} {pos apos : Pos} {ta tb tc : TEW} {p : Addr} {tbl : List (List Nat × W)} {no : List (List Nat)}
def kgetW (p : Addr) (tbl : List (List Nat × W)) : RW2 := fun x y h R => x = .ref p ∧ match y with | .str s => (match tabW tbl s with | some w => R w h | none => False) | _ => False
theorem lf_kget {w : World} {K : PySem.W.Frag} (T : KTab w K p tbl no) : Lf2 K (rIxD K w) (kgetW p tbl) := fun x y H Q w1 w2 h R r1 r2 hr t k => by
  obtain ⟨e1, t⟩ := t
  subst e1
  split at t
  · split at t
    · rename_i e
      cases r1; cases r2
      obtain ⟨u, n, s⟩ := T.yes.at e
      obtain ⟨v, rv, rw⟩ := s.is
      obtain ⟨es, n', hl, hk⟩ := T.ex
      exact ⟨p, _, v, rfl, rfl, ⟨es, n', u, hl, hk, n, rv⟩, k.go hr t (rw _ _)⟩
    · exact t.elim
  · exact t.elim
theorem w_kget (T : KTab X.w X.K p tbl no) (ha : WE X L a ta) (hb : WE X L b tb) (hs : PlainIx b := by exact fun _ _ => rfl) : WE X L (.Subscript a b pos) (oOp (kgetW p tbl) ta tb) := (pe_ix ix_kdict ha hb hs).imp (bin_imp (lf_kget T))
def kget2K (tbl : List (List Nat × W)) (no : List (List Nat)) (y z : W) (R : KW) (h3 : HW) : Prop := match y with
  | .str s => (match tabW tbl s with | some w => R w h3 | none => s ∈ no ∧ R z h3)
  | _ => False
def oKGet2 (p : Addr) (tbl : List (List Nat × W)) (no : List (List Nat)) (ta tb tc : TEW) : TEW := fun ρ h R => ta ρ h fun x h1 => x = .ref p ∧ tb ρ h1 fun y h2 => tc ρ h2 fun z h3 => kget2K tbl no y z R h3
theorem w_kget2 {cpos : Pos} (T : KTab X.w X.K p tbl no) (ha : WE X L a ta) (hb : WE X L b tb) (hc : WE X L c tc) (m : M2 X a "get" apos b c cpos := by exact ⟨rfl, rfl, rfl, rfl⟩) : WE X L (.Call (.Attribute a "get" apos) [b, c] [] cpos) (oKGet2 p tbl no ta tb tc) := (pe_kget2 ha hb hc m).imp fun σ H Q ⟨ρ, h, R, S, t, k⟩ =>
  ⟨ρ, h, _, S, t, fun w1 h1 v1 H1 ⟨e1, t1⟩ s1 r1 q1 => by
    subst e1; cases q1
    obtain ⟨es, n', hl, hk⟩ := T.ex
    refine ⟨p, es, n', rfl, hl, hk, T.low, ρ, h1, _, S.to s1 r1, t1, fun w2 h2 v2 H2 t2 s2 r2 q2 => ⟨ρ, h2, _, S.to (s1.trans s2) r2, t2, fun w3 h3 v3 H3 t3 s3 r3 q3 => ?_⟩⟩
    unfold kget2K at t3
    split at t3
    · cases q2
      split at t3
      · rename_i e
        obtain ⟨u, n, s⟩ := T.yes.at e
        obtain ⟨v, rv, rw⟩ := s.is
        exact ⟨_, _, rfl, n, fun u' e' => by cases e'; exact ⟨v, rv, k _ h3 _ H3 t3 ((s1.trans s2).trans s3) r3 (rw _ _)⟩, fun z => nomatch z⟩
      · exact ⟨_, none, rfl, T.no.at t3.1, (fun _ z => nomatch z), fun _ => k _ h3 _ H3 t3.2 ((s1.trans s2).trans s3) r3 q3⟩
    · exact t3.elim⟩
end
/-! ## [elt for x in iter for y in iter2], the heap as it was -/
section
variable {X : Cx} {L : Lk}
abbrev slC2 (ρ : SlW) (j j2 : Nat) (w : W) : SlW := ((ρ.set j2 none).set j none).set j (some w)
def oLc2 (ti : TIW) (j : Nat) (ti2 : TIW) (j2 : Nat) (te : TEW) : TEW := fun ρ h R => ti ρ h fun ws h1 => ∀ p, h1 p = none → ∃ f : W → List W, (ws.flatMap f).length ≤ 16000000 ∧ R (.lst (ws.flatMap f)) h1 ∧
  ∀ w ∈ ws, ∀ acc, ti2 (slC2 ρ j j2 w) (updW h1 p (.lst acc)) fun xs h3 => h3 = updW h1 p (.lst acc) ∧ ∃ g : W → W, f w = xs.map g ∧ ∀ x ∈ xs, ∀ acc2, te ((slC2 ρ j j2 w).set j2 (some x)) (updW h1 p (.lst acc2)) fun y h4 => h4 = updW h1 p (.lst acc2) ∧ y = g x
theorem flatMap_take_len {α β : Type} (f : α → List β) (ws : List α) (i : Nat) : ((ws.take i).flatMap f).length ≤ (ws.flatMap f).length := by
  conv => rhs; rw [← List.take_append_drop i ws]
  rw [List.flatMap_append, List.length_append]; omega
theorem wipe2 {α : Type} (σ : List (Option α)) (j j2 : Nat) (a : Option α) : (((((σ.set j2 none).set j none).set j a).set j2 none).set j none) = (σ.set j2 none).set j none := by
  rw [List.set_set]
  by_cases e : j = j2
  · subst e; simp [List.set_set]
  · rw [List.set_comm _ _ (fun z => e z), List.set_set, List.set_set]
theorem lc2_imp {K : PySem.W.Frag} {ti ti2 : TIW} {j j2 : Nat} {te : TEW} : ∀ σ H Q, lE K L (oLc2 ti j ti2 j2 te) σ H Q → tLc2 (lI K L ti) (gName j) (lT K L oYes) (lI K L ti2) (gName j2) (lT K L oYes) (lE K L te) [j, j2] [j2] σ H Q := fun σ H Q ⟨ρ, h, R, S, t, k⟩ =>
  ⟨ρ, h, _, S, t, fun ws h1 J H1 t1 s1 r1 I D hD => by
    obtain ⟨f, hz, fin, body⟩ := t1 D (r1.fresh hD)
    have nD := r1.fresh hD
    refine ⟨fun i m H2 => m = ws.length - i ∧ i ≤ ws.length ∧ HR K H2 (updW h1 D (.lst ((ws.take i).flatMap f))) ∧ ST H1 h1 H2 (updW h1 D (.lst ((ws.take i).flatMap f))), ⟨_, rfl, Nat.zero_le _, r1.newO hD ⟨[], upd_same, .nil⟩, .newO hD _ _⟩, ?_⟩
    rintro i m H2 ⟨rfl, hi, hr2, st2⟩
    by_cases hlt : i < ws.length
    · have hw : ws[i]? = some ws[i] := List.getElem?_eq_getElem hlt
      obtain ⟨go, yl⟩ := I.step i H2 _ ws[i] st2 hr2 hw
      have ext : (ws.take (i + 1)).flatMap f = (ws.take i).flatMap f ++ f ws[i] := by rw [List.take_add_one, hw, List.flatMap_append]; simp [List.flatMap_cons]
      have lim := flatMap_take_len f ws (i + 1)
      rw [ext] at lim
      refine .inr ⟨go, fun H3 => HR K H3 (updW h1 D (.lst ((ws.take (i + 1)).flatMap f))) ∧ ST H1 h1 H3 (updW h1 D (.lst ((ws.take (i + 1)).flatMap f))), fun H3 p' => ⟨ws.length - (i + 1), by omega, rfl, hlt, p'⟩, fun x H3 y => ?_⟩
      obtain ⟨st3, hr3, rx⟩ := yl x H3 y
      have sr3 : SR K H3 (updW h1 D (.lst ((ws.take i).flatMap f))) (((σ.set j2 none).set j none).set j (some x)) (slC2 ρ j j2 ws[i]) := (((((S.sr.mono s1).mono st2).mono st3).setN j2).setN j).set rx j
      refine ⟨wipe2 σ j j2 (some x), slC2 ρ j j2 ws[i], _, fun b h' => b = true ∧ h' = updW h1 D (.lst ((ws.take i).flatMap f)), ⟨sr3, hr3, L.mono (L.mono (L.mono S.el s1) st2) st3⟩, ⟨rfl, rfl⟩, fun b h4 H4 ⟨eb, eh⟩ s4 r4 => ?_⟩
      subst eb eh
      rw [if_pos rfl]
      have st4 := (st2.trans st3).trans s4
      refine ⟨_, _, _, ⟨sr3.mono s4, r4, L.mono (L.mono S.el s1) st4⟩, body ws[i] (List.getElem_mem hlt) _, fun xs h5 J1 H5 ⟨eh, g, ef, el⟩ s5 r5 I1 => ?_⟩
      subst eh
      rw [ef] at ext lim
      have st5 := st4.trans s5
      refine ⟨fun jj m H6 => m = xs.length - jj ∧ jj ≤ xs.length ∧ HR K H6 (updW h1 D (.lst ((ws.take i).flatMap f ++ (xs.take jj).map g))) ∧ ST H1 h1 H6 (updW h1 D (.lst ((ws.take i).flatMap f ++ (xs.take jj).map g))) ∧
        ST H5 (updW h1 D (.lst ((ws.take i).flatMap f))) H6 (updW h1 D (.lst ((ws.take i).flatMap f ++ (xs.take jj).map g))) ∧ SR K H6 (updW h1 D (.lst ((ws.take i).flatMap f ++ (xs.take jj).map g))) (((σ.set j2 none).set j none).set j (some x)) (slC2 ρ j j2 ws[i]),
        ⟨_, rfl, Nat.zero_le _, by simpa using r5, by simpa using st5, by rw [List.take_zero, List.map_nil, List.append_nil]; exact .refl _ _, by simpa using (sr3.mono s4).mono s5⟩, ?_⟩
      rintro jj m H6 ⟨rfl, hj, hr6, st6, sti6, sr6⟩
      by_cases hl2 : jj < xs.length
      · have hx : xs[jj]? = some xs[jj] := List.getElem?_eq_getElem hl2
        obtain ⟨go2, yl2⟩ := I1.step jj H6 _ xs[jj] sti6 hr6 hx
        refine .inr ⟨go2, fun H7 => HR K H7 (updW h1 D (.lst ((ws.take i).flatMap f ++ (xs.take (jj + 1)).map g))) ∧ ST H1 h1 H7 (updW h1 D (.lst ((ws.take i).flatMap f ++ (xs.take (jj + 1)).map g))) ∧
          ST H5 (updW h1 D (.lst ((ws.take i).flatMap f))) H7 (updW h1 D (.lst ((ws.take i).flatMap f ++ (xs.take (jj + 1)).map g))) ∧ SR K H7 (updW h1 D (.lst ((ws.take i).flatMap f ++ (xs.take (jj + 1)).map g))) (((σ.set j2 none).set j none).set j (some x)) (slC2 ρ j j2 ws[i]),
          fun H7 ⟨a, b, c, d⟩ => ⟨_, by omega, rfl, hl2, a, b, c, d⟩, fun x2 H7 y2 => ?_⟩
        obtain ⟨st7, hr7, rx2⟩ := yl2 x2 H7 y2
        have ew : ∀ σ' : L2.St, wipe σ' [j2] = σ'.set j2 none := fun _ => rfl
        have ext2 : (xs.take (jj + 1)).map g = (xs.take jj).map g ++ [g xs[jj]] := by rw [List.take_add_one, hx, List.map_append]; rfl
        have lim2 : ((ws.take i).flatMap f ++ (xs.take jj).map g).length < sizeLine := by
          have : ((xs.take jj).map g).length ≤ (xs.map g).length := by simp; omega
          simp only [List.length_append] at lim this ⊢
          exact Nat.lt_of_le_of_lt (by omega : _ ≤ 16000000) (by decide)
        show wipe ((wipe (((σ.set j2 none).set j none).set j (some x)) [j2]).set j2 (some x2)) [j2] = wipe (((σ.set j2 none).set j none).set j (some x)) [j2] ∧ _
        simp only [ew, List.set_set]
        have sr7 := (sr6.mono st7).set rx2 j2
        refine ⟨trivial, _, _, fun b h' => b = true ∧ h' = updW h1 D (.lst ((ws.take i).flatMap f ++ (xs.take jj).map g)), ⟨sr7, hr7, L.mono (L.mono (L.mono S.el s1) st6) st7⟩, ⟨rfl, rfl⟩, fun b h8 H8 ⟨eb, eh⟩ s8 r8 => ?_⟩
        subst eb eh
        rw [if_pos rfl]
        refine ⟨_, _, _, ⟨sr7.mono s8, r8, L.mono (L.mono (L.mono (L.mono S.el s1) st6) st7) s8⟩, el xs[jj] (List.getElem_mem hl2) _, fun y h9 v H9 ⟨eh, ey⟩ s9 r9 q9 => ?_⟩
        subst eh ey
        obtain ⟨vs, hv, q⟩ := r9 D _ updW_same
        have upw : ∀ a b : List W, updW (updW h1 D (.lst a)) D (.lst b) = updW h1 D (.lst b) := fun a b => updW_upd
        have s10 : ST H9 (updW h1 D (.lst ((ws.take i).flatMap f ++ (xs.take jj).map g))) (upd H9 D (.lst (vs ++ [v]))) (updW h1 D (.lst ((ws.take i).flatMap f ++ (xs.take (jj + 1)).map g))) := by
          have z : ST H9 (updW h1 D (.lst ((ws.take i).flatMap f ++ (xs.take jj).map g))) (upd H9 D (.lst (vs ++ [v]))) (updW (updW h1 D (.lst ((ws.take i).flatMap f ++ (xs.take jj).map g))) D (.lst ((ws.take i).flatMap f ++ (xs.take (jj + 1)).map g))) := .mut updW_same _ _
          rwa [upw] at z
        have r10 : HR K (upd H9 D (.lst (vs ++ [v]))) (updW h1 D (.lst ((ws.take i).flatMap f ++ (xs.take (jj + 1)).map g))) := by
          have := r9.mut (a := D) (u0 := .lst ((ws.take i).flatMap f ++ (xs.take jj).map g)) updW_same (o := .lst (vs ++ [v])) (u := .lst ((ws.take i).flatMap f ++ (xs.take (jj + 1)).map g)) ⟨_, upd_same, by
            have z := (q.mono s10).append (.cons (q9.mono s10) .nil)
            rw [List.append_assoc, ← ext2] at z
            rw [upw]; exact z⟩
          rwa [upw] at this
        refine ⟨vs, hv, by rw [q.length]; exact lim2, r10, (((st6.trans st7).trans s8).trans s9).trans s10, (((sti6.trans st7).trans s8).trans s9).trans s10, by have z := (((sr6.mono st7).mono s8).mono s9).mono s10; simp only [slC2, List.set_set] at z; exact z⟩
      · have e : jj = xs.length := by omega
        subst e
        refine .inl ⟨I1.stop _ H6 _ sti6 hr6 (Nat.le_refl _), ?_, ?_⟩
        · rw [ext]; rw [List.take_length] at hr6; exact hr6
        · rw [ext]; rw [List.take_length] at st6; exact st6
    · have e : i = ws.length := by omega
      subst e
      rw [List.take_length] at hr2 st2
      obtain ⟨vs, hv, q⟩ := hr2 D _ updW_same
      have sub : Sub h1 (updW h1 D (.lst (ws.flatMap f))) := .new nD
      exact .inl ⟨I.stop _ H2 _ st2 hr2 (Nat.le_refl _), k _ h1 _ H2 fin ((s1.trans st2).trans (.drop sub)) (hr2.drop sub) (.lst ⟨hv, nD⟩ (q.mono (.drop sub)))⟩⟩
theorem w_lc2 {elt tg iter tg1 iter1 : Expr} {scope : Scope} {x x2 : Str} {j j2 : Nat} {pos : Pos} {ti ti2 : TIW} {te : TEW} (hc : X.calm = true) (hN : X.N.Nodup) (hi : WI X L tg iter ti) (ok : BlkOk X.N X.env.scope scope [(x, j), (x2, j2)])
    (hg : ∀ (s : Shared) (H : Hp) (C : Addr) (cl : List (Str × Addr)) (fp : List Addr), PG (X.blk s H scope (compEnvC scope cl C X.env) fp) tg (gName j)) (hi1 : ∀ (s : Shared) (H : Hp) (C : Addr) (cl : List (Str × Addr)) (fp : List Addr), WI (X.blk s H scope (compEnvC scope cl C X.env) fp) L tg1 iter1 ti2)
    (hg1 : ∀ (s : Shared) (H : Hp) (C : Addr) (cl : List (Str × Addr)) (fp : List Addr), PG (X.blk s H scope (compEnvC scope cl C X.env) fp) tg1 (gName j2))
    (he : ∀ (s : Shared) (H : Hp) (C : Addr) (cl : List (Str × Addr)) (fp : List Addr), WE (X.blk s H scope (compEnvC scope cl C X.env) fp) L elt te) (hs : ∀ x, foldedSetIterable iter X.env x = pure x := by intro _; rfl) (hs1 : ∀ env x, foldedSetIterable iter1 env x = pure x := by intro _ _; rfl) :
    WE X L (.ListComp elt [⟨tg, iter, [], 0⟩, ⟨tg1, iter1, [], 0⟩] scope pos) (oLc2 ti j ti2 j2 te) :=
  (pe_lc2 hc hN hi ok (vs1 := [j2]) (by simp) hg (fun _ _ _ _ _ => wts_nil) hi1 hg1 (fun _ _ _ _ _ => wts_nil) he hs hs1).imp lc2_imp
theorem ws_setLc2 {i : Nat} {y : Str} {py : Pos} {elt tg iter tg1 iter1 : Expr} {scope : Scope} {x x2 : Str} {j j2 : Nat} {pos spos : Pos} {ti ti2 : TIW} {te : TEW} (hc : X.calm = true) (hN : X.N.Nodup) (hy : X.N[i]? = some y) (hyl : X.env.scope.names.lookup y = some .local)
    (hsw : swapsWith (.ListComp elt [⟨tg, iter, [], 0⟩, ⟨tg1, iter1, [], 0⟩] scope pos) (some (.Name y py)) spos.line X.env = pure true) (hi : WI X L tg iter ti) (ok : BlkOk X.N X.env.scope scope [(x, j), (x2, j2)])
    (hg : ∀ (s : Shared) (H : Hp) (C : Addr) (cl : List (Str × Addr)) (fp : List Addr), PG (X.blk s H scope (compEnvC scope cl C X.env) fp) tg (gName j)) (hi1 : ∀ (s : Shared) (H : Hp) (C : Addr) (cl : List (Str × Addr)) (fp : List Addr), WI (X.blk s H scope (compEnvC scope cl C X.env) fp) L tg1 iter1 ti2)
    (hg1 : ∀ (s : Shared) (H : Hp) (C : Addr) (cl : List (Str × Addr)) (fp : List Addr), PG (X.blk s H scope (compEnvC scope cl C X.env) fp) tg1 (gName j2))
    (he : ∀ (s : Shared) (H : Hp) (C : Addr) (cl : List (Str × Addr)) (fp : List Addr), WE (X.blk s H scope (compEnvC scope cl C X.env) fp) L elt te) (hs : ∀ x, foldedSetIterable iter X.env x = pure x := by intro _; rfl) (hs1 : ∀ env x, foldedSetIterable iter1 env x = pure x := by intro _ _; rfl) :
    WS X L (.Assign [.Name y py] (.ListComp elt [⟨tg, iter, [], 0⟩, ⟨tg1, iter1, [], 0⟩] scope pos) spos) (sAsg (oLc2 ti j ti2 j2 te) (gN i)) :=
  (ps_setLc2 hc hN hy hyl hsw hi ok (vs1 := [j2]) (by simp) hg (fun _ _ _ _ _ => wts_nil) hi1 hg1 (fun _ _ _ _ _ => wts_nil) he hs hs1).imp fun D σ H ⟨ρ, h, DW, S, t, k⟩ =>
  lc2_imp σ H _ ⟨ρ, h, _, S, t, fun w1 h1 v1 H1 t1 s1 r1 q1 => k.nx _ h1 _ H1 t1 s1 r1 ((S.sr.mono s1).set q1 i)⟩
end
/-! ## stepping -/
section
variable {ρ : SlW} {h : HW} {R : KW} {RB : Bool → HW → Prop} {te ta tb tc : TEW} {x y w : W} {p : Addr} {kws : List (L2.Key × W)}
theorem go_d0 (k : R (.dic []) h) : oD0 ρ h R := k
theorem go_d0O (k : ∀ p, h p = none → R (.ref p) (updW h p (.dic []))) : oD0O ρ h R := k
theorem go_truth (k : te ρ h fun x h1 => truK (truW x h1) RB h1) : oTruth te ρ h RB := k
theorem go_truL {ws : List W} (k : RB (!ws.isEmpty) h) : truK (truW (.lst ws) h) RB h := k
theorem go_truT {ws : List W} (k : RB (!ws.isEmpty) h) : truK (truW (.tup ws) h) RB h := k
theorem go_truI {i : Int} (k : RB (i != 0) h) : truK (truW (.int i) h) RB h := k
theorem go_truO {ws : List W} (hp : h p = some (.lst ws)) (k : RB (!ws.isEmpty) h) : truK (truW (.ref p) h) RB h := by unfold truW; dsimp only; rw [hp]; exact k
theorem go_din {o : Option W} (e : dgW x y h = some o) (k : R (.bl o.isSome) h) : dinW y x h R := by unfold dinW; rw [e]; exact k
theorem go_dnotin {o : Option W} (e : dgW x y h = some o) (k : R (.bl (!o.isSome)) h) : dnotinW y x h R := by unfold dnotinW; rw [e]; exact k
theorem go_dget (e : dgW x y h = some (some w)) (k : R w h) : dgetW x y h R := by unfold dgetW; rw [e]; exact k
theorem go_dict (e : dW x h = some kws) (k : R (.dic kws) h) : dictW [x] h R := by unfold dictW; dsimp only; rw [e]; exact k
theorem go_dictO (e : dW x h = some kws) (k : ∀ p, h p = none → R (.ref p) (updW h p (.dic kws))) : dictOW [x] h R := by unfold dictOW; dsimp only; rw [e]; exact k
theorem go_listD (e : dW x h = some kws) (k : R (.lst (kws.map fun kv => wKey kv.1)) h) : listDW [x] h R := by unfold listDW; dsimp only; rw [e]; exact k
theorem go_lenD (e : dW x h = some kws) (k : R (.int kws.length) h) : lenDW [x] h R := by unfold lenDW; dsimp only; rw [e]; exact k
theorem go_dput {D : EndsW} (k : tc ρ h fun v h1 => ta ρ h1 fun x h2 => tb ρ h2 fun y h3 => dputK x (keyW y) v (D.nx ρ) h3) : sDput tc ta tb D ρ h := k
theorem go_dputK {P : HW → Prop} {s : List Nat} (hp : h p = some (.dic kws)) (e : kws.length ≤ 16000000) (k : P (updW h p (.dic (putW kws (.inr (mkS s)) w)))) : dputK (.ref p) (keyW (.str s)) w P h := by unfold dputK keyW; dsimp only; rw [hp]; exact ⟨e, k⟩
theorem go_kget {tbl : List (List Nat × W)} {s : List Nat} (e : tabW tbl s = some w) (k : R w h) : kgetW p tbl (.ref p) (.str s) h R := ⟨rfl, by dsimp only; rw [e]; exact k⟩
theorem go_kget2 {tbl : List (List Nat × W)} {no : List (List Nat)} (k : ta ρ h fun x h1 => x = .ref p ∧ tb ρ h1 fun y h2 => tc ρ h2 fun z h3 => kget2K tbl no y z R h3) : oKGet2 p tbl no ta tb tc ρ h R := k
theorem go_kget2Y {tbl : List (List Nat × W)} {no : List (List Nat)} {s : List Nat} (e : tabW tbl s = some w) (k : R w h) : kget2K tbl no (.str s) x R h := by unfold kget2K; dsimp only; rw [e]; exact k
theorem go_kget2N {tbl : List (List Nat × W)} {no : List (List Nat)} {s : List Nat} (e : tabW tbl s = none) (m : s ∈ no) (k : R x h) : kget2K tbl no (.str s) x R h := by unfold kget2K; dsimp only; rw [e]; exact ⟨m, k⟩
theorem go_lc2 {ti ti2 : TIW} {j j2 : Nat} (ws : List W) (ev : ∀ P : List W → HW → Prop, P ws h → ti ρ h P) (f : W → List W) (hz : (ws.flatMap f).length ≤ 16000000)
    (el : ∀ p, h p = none → ∀ w ∈ ws, ∀ acc, ti2 (slC2 ρ j j2 w) (updW h p (.lst acc)) fun xs h3 => h3 = updW h p (.lst acc) ∧ ∃ g : W → W, f w = xs.map g ∧ ∀ x ∈ xs, ∀ acc2, te ((slC2 ρ j j2 w).set j2 (some x)) (updW h p (.lst acc2)) fun y h4 => h4 = updW h p (.lst acc2) ∧ y = g x)
    (k : R (.lst (ws.flatMap f)) h) : oLc2 ti j ti2 j2 te ρ h R := ev _ fun p hp => ⟨f, hz, k, el p hp⟩
theorem go_lcI {ti : TIW} {j : Nat} {tb : TEW} (ws fs : List W) (ev : ∀ P : List W → HW → Prop, P ws h → ti ρ h P) (hl : fs.length = ws.length) (hz : ws.length ≤ 16000000)
    (el : ∀ (i : Nat) (w y : W) (h' : HW) (R' : KW), ws[i]? = some w → fs[i]? = some y → R' y h' → tb (ρ.set j (some w)) h' R') (k : R (.lst fs) h) : oLc ti j oYes tb ρ h R := by
  refine ev _ ⟨hz, fun p hp => ⟨fun i acc h' => acc = fs.take i ∧ h' = h, ⟨rfl, rfl⟩, ?_, ?_⟩⟩
  · rintro i w acc h' e n hla ⟨rfl, rfl⟩
    refine go_yes ?_
    rw [if_pos rfl]
    have hi : i < fs.length := by rw [hl]; exact (List.getElem?_eq_some_iff.mp e).1
    refine el i w fs[i] _ _ e (List.getElem?_eq_getElem hi) ⟨_, .refl _, hp, ?_, rfl⟩
    rw [List.take_add_one, List.getElem?_eq_getElem hi]; rfl
  · rintro acc h' n ⟨rfl, rfl⟩
    rw [← hl, List.take_length]; exact k
theorem go_nntt {A B : Prop} (h1 : A) : if (!!true) = true then A else B := iteT h1
theorem go_nnff {A B : Prop} (h1 : B) : if (!!false) = true then A else B := iteF h1
theorem go_eqq {q : Prop} (k : q) : x = x ∧ q := ⟨rfl, k⟩
end
theorem FrWs.snoc {h h0 : HW} {w w' : W} (q : FrW h h0 w w') : ∀ ws : List W, FrWs h h0 (ws ++ [w]) (ws ++ [w'])
  | [] => .cons q .nil
  | x :: ws => .cons (.same x) (FrWs.snoc q ws)
theorem FrWs.app {h h0 : HW} {as bs ws ws' : List W} (q : FrWs h h0 as bs) (r : FrWs h h0 ws ws') : FrWs h h0 (as ++ ws) (bs ++ ws') := by
  induction as generalizing bs with
  | nil => cases q; exact r
  | cons a as ih => cases q with | cons x t => exact .cons x (ih t)
end Wl

set_option Elab.async false
set_option linter.all false
set_option maxRecDepth 100000
namespace Wl
open PySem PySem.Spec PyProof.Rows L2
theorem updW_mid {h : HW} {p1 p2 : Addr} (np : p1 ≠ p2) (a b c : OW) : updW (updW (updW h p1 a) p2 b) p1 c = updW (updW h p1 c) p2 b := by
  funext x
  unfold updW
  by_cases e1 : x = p1
  · subst e1; rw [if_pos rfl, if_neg np, if_pos rfl]
  · rw [if_neg e1]
    by_cases e2 : x = p2
    · rw [if_pos e2, if_pos e2]
    · rw [if_neg e2, if_neg e2, if_neg e1, if_neg e1]
section
variable {X : Cx} {L : Lk} {K : PySem.W.Frag}
/-! ## a local name that holds a def -/
def oCallF (i : Nat) (f : Addr) (sp : SpW) (t : TAW) : TEW := fun ρ h R => sl ρ i = some (.ref f) ∧ t ρ h fun ws h1 => sp ws h1 R noX
theorem w_callF {i k : Nat} {f : Addr} {fd : FuncData} {ps : List Str} {sp : SpW} {x : Str} {p pos : Pos} {e : Expr} {es : List Expr} {t : TAW} (F : FnOk X.prog X.w X.K X.mg X.base CX0 k f fd ps (lSp X.K sp)) (hr : Room k X.A)
    (hk : PySem.W.keepIn X.K (.ref f) = true) (hb : Binds X.K fd ps []) (ha : WA X L (e :: es) t) (hN : X.N[i]? = some x := by rfl) (hv : Vis X.env.scope x := by first | exact Or.inl rfl | exact Or.inr (Or.inl rfl) | exact Or.inr (Or.inr rfl))
    (hdb : (x == ("__debug__" : Str)) = false := by decide) (hcd : (x == ("__classdict__" : Str)) = false := by decide)
    (he : starEach (e :: es) X.env = (false, eval e X.env) :: starEach es X.env := by rfl) (hpl : (backTo pos (starEach es X.env)).any (·.1) = false := by rfl) :
    WE X L (.Call (.Name x p) (e :: es) [] pos) (oCallF i f sp t) := (pe_callL (i := i) F hr hN hv hk hb .nil pass0 ha hdb hcd he hpl).imp fun σ H Q ⟨ρ, h, R, S, ⟨ef, t⟩, k⟩ => by
  obtain ⟨v, e1, r⟩ := S.sr.get ef
  cases r
  exact ⟨e1, ρ, h, _, S, t, fun ws h1 vs H1 t1 s1 r1 q1 => by
    show lSp X.K sp (vs ++ []) H1 Q E0
    rw [List.append_nil]
    exact ⟨ws, h1, R, noX, q1, r1, t1, k.mono s1, el_no⟩⟩
/-! ## a star in a display -/
def itemsW (x : W) (h : HW) : Option (List W) := match x with
  | .lst ws => some ws
  | .scr ws => some ws
  | .tup ws => some ws
  | .ref p => (match h p with | some (.lst ws) => some ws | _ => none)
  | _ => none
theorem items_at {H : Hp} {h : HW} {v : V} {x : W} {ws : List W} (hr : HR K H h) (r : RW K H h v x) (e : itemsW x h = some ws) : ∃ a xs, v = .ref a ∧ (SqT K H a xs ∨ SqL K H a xs) ∧ RWs K H h xs ws := by
  unfold itemsW at e
  split at e
  · cases e; cases r with | lst f q => exact ⟨_, _, rfl, .inr f.sq, q⟩
  · cases e; cases r with | scr f q => exact ⟨_, _, rfl, .inr f.sq, q⟩
  · cases e; cases r with | tup f q => exact ⟨_, _, rfl, .inl f.sq, q⟩
  · split at e
    · rename_i hp
      cases e; cases r
      obtain ⟨vs, a, q⟩ := hr _ _ hp
      exact ⟨_, _, rfl, .inr (SqL.of a), q⟩
    · cases e
  · cases e
def starK (o : Option (List W)) (R : List W → Prop) : Prop := match o with | some ws => R ws | none => False
def oStar (te : TEW) (tr : TAW) : TAW := fun ρ h R => te ρ h fun x h1 => starK (itemsW x h1) fun ws => tr ρ h1 fun xs h2 => R (ws ++ xs) h2
theorem wa_star {e : Expr} {es : List Expr} {p : Pos} {te : TEW} {tr : TAW} (he : WE X L e te) (hr : WA X L es tr) (hs : starEach (.Starred e p :: es) X.env = (true, eval e X.env) :: starEach es X.env := by rfl) : WA X L (.Starred e p :: es) (oStar te tr) := (StX.pa_star he hr hs).imp fun σ H Q ⟨ρ, h, R, S, t, k⟩ =>
  ⟨ρ, h, _, S, t, fun w1 h1 v1 H1 t1 s1 r1 q1 => by
    unfold starK at t1
    split at t1
    · rename_i ws e
      obtain ⟨a, xs, rfl, sq, q⟩ := items_at r1 q1 e
      exact ⟨a, xs, rfl, sq, ρ, h1, _, S.to s1 r1, t1, fun us h2 vs H2 t2 s2 r2 q2 => k _ h2 _ H2 t2 (s1.trans s2) r2 ((q.mono s2).append q2)⟩
    · exact t1.elim⟩
theorem go_star {te : TEW} {tr : TAW} {ρ : SlW} {h : HW} {R : List W → HW → Prop} (k : te ρ h fun x h1 => starK (itemsW x h1) fun ws => tr ρ h1 fun xs h2 => R (ws ++ xs) h2) : oStar te tr ρ h R := k
theorem go_starL {ws : List W} {h : HW} {R : List W → Prop} (k : R ws) : starK (itemsW (.lst ws) h) R := k
theorem go_starT {ws : List W} {h : HW} {R : List W → Prop} (k : R ws) : starK (itemsW (.tup ws) h) R := k
theorem go_starO {ws : List W} {h : HW} {p : Addr} {R : List W → Prop} (hp : h p = some (.lst ws)) (k : R ws) : starK (itemsW (.ref p) h) R := by unfold itemsW; dsimp only; rw [hp]; exact k
/-! ## sep.join of any list of texts -/
def joinW2 : W → List W → HW → KW → Prop := fun x ws h R => match x, ws with
  | .str a, [y] => (match itemsW y h with | some xs => (match strsOf xs with | some ss => (ss.map List.length).sum + ss.length * a.length ≤ 16000000 ∧ R (.str (joinS a ss)) h | none => False) | none => False)
  | _, _ => False
theorem lf_join2 : LfM K (fun x xs H Q => ∃ a p, ∃ ys : List Str, x = .str a ∧ xs = [.ref p] ∧ (SqL K H p (ys.map V.str) ∨ SqT K H p (ys.map V.str)) ∧
    (ys.map (·.length)).sum + ys.length * a.length ≤ 16777216 ∧ Q (.str (Txt.join a ys)) H) joinW2 := fun x xs H Q w ws h R r rs hr t k => by
  unfold joinW2 at t
  split at t
  · split at t
    · rename_i e1
      split at t
      · rename_i ss e
        cases r
        obtain ⟨y, rfl, ry⟩ := rs.one
        obtain ⟨a, vs, rfl, sq, q⟩ := items_at hr ry e1
        rw [strsOf_eq e] at q
        refine ⟨_, _, ss.map mkS, rfl, rfl, ?_, ?_, ?_⟩
        · rw [← q.strs]; exact sq.symm
        · rw [lens_mk, List.length_map, mkS_length]; exact Nat.le_trans t.1 (by decide)
        · rw [TL.join_eq, join_mk]; exact k.go hr t.2 (.str _)
      · exact t.elim
    · exact t.elim
  · exact t.elim

end
section
variable {R : KW} {h : HW} {a : List Nat} {xs : List W}
theorem go_join2 {y : W} {ss : List (List Nat)} (e0 : itemsW y h = some xs) (e : strsOf xs = some ss) (l : (ss.map List.length).sum + ss.length * a.length ≤ 16000000) (k : R (.str (joinS a ss)) h) : joinW2 (.str a) [y] h R := by unfold joinW2; dsimp only; rw [e0]; dsimp only; rw [e]; exact ⟨l, k⟩
theorem items_ref {p : Addr} (hp : h p = some (.lst xs)) : itemsW (.ref p) h = some xs := by unfold itemsW; dsimp only; rw [hp]
theorem joinS_nil : ∀ ss : List (List Nat), joinS [] ss = ss.flatten
  | [] => rfl
  | [p] => by simp [joinS]
  | p :: q :: r => by rw [joinS, joinS_nil (q :: r)]; simp
end
end Wl

set_option Elab.async false
set_option linter.all false
set_option maxRecDepth 100000
namespace Wl
open PySem PySem.Spec PyProof.Rows L2
/-! ## targets of comprehensions -/
theorem wipe_get (σ : L2.St) (js : List Nat) (i : Nat) : (wipe σ js)[i]? = if i ∈ js then σ[i]?.map (fun _ => none) else σ[i]? := by
  induction js with
  | nil => simp [wipe]
  | cons j js ih =>
    unfold wipe
    by_cases e : j = i
    · subst e
      rw [if_pos List.mem_cons_self]
      by_cases l : j < σ.length
      · rw [List.getElem?_set_self (by rw [wipe_length]; exact l), List.getElem?_eq_getElem l]; rfl
      · rw [List.getElem?_eq_none (by rw [List.length_set, wipe_length]; omega), List.getElem?_eq_none (by omega)]; rfl
    · rw [List.getElem?_set_ne e, ih]
      have : (i ∈ j :: js) ↔ i ∈ js := ⟨fun z => (List.mem_cons.mp z).resolve_left fun z => e z.symm, List.mem_cons_of_mem _⟩
      simp only [this]
theorem wipe_idem (σ : L2.St) (js : List Nat) : wipe (wipe σ js) js = wipe σ js := by
  apply List.ext_getElem?
  intro i
  rw [wipe_get, wipe_get]
  by_cases h : i ∈ js
  · rw [if_pos h, if_pos h]; cases σ[i]? <;> rfl
  · rw [if_neg h, if_neg h]
theorem wipe_set {σ : L2.St} {js : List Nat} {j : Nat} {v : Option V} (h : j ∈ js) : wipe (σ.set j v) js = wipe σ js := by
  apply List.ext_getElem?
  intro i
  rw [wipe_get, wipe_get]
  by_cases e : j = i
  · subst e
    rw [if_pos h, if_pos h]
    by_cases l : j < σ.length
    · rw [List.getElem?_set_self l, List.getElem?_eq_getElem l]; rfl
    · rw [List.getElem?_eq_none (by rw [List.length_set]; omega), List.getElem?_eq_none (by omega)]
  · rw [List.getElem?_set_ne e]
def wipeW (ρ : SlW) : List Nat → SlW
  | [] => ρ
  | v :: vs => (wipeW ρ vs).set v none
theorem SR.wipe {K : PySem.W.Frag} {H : Hp} {h : HW} {σ : L2.St} {ρ : SlW} (s : SR K H h σ ρ) : ∀ js : List Nat, SR K H h (L2.wipe σ js) (wipeW ρ js)
  | [] => s
  | j :: js => (SR.wipe s js).setN j
abbrev TGF := W → SlW → Option SlW
abbrev TGsF := List W → SlW → Option SlW
def gfN (j : Nat) : TGF := fun w ρ => some (ρ.set j (some w))
def gfNil : TGsF := fun ws ρ => match ws with | [] => some ρ | _ => none
def gfCons (g : TGF) (gs : TGsF) : TGsF := fun ws ρ => match ws with | w :: r => (match g w ρ with | some ρ' => gs r ρ' | none => none) | [] => none
def gfT (n : Nat) (gs : TGsF) : TGF := fun w ρ => match w with | .tup ws => if ws.length = n then gs ws ρ else none | _ => none
/-- what a target does to the slots, at both levels -/
def TgOk (K : PySem.W.Frag) (js : List Nat) (g : TG) (f : TGF) : Prop := ∀ (v : V) (w : W) (σ : L2.St) (H : Hp) (ρ ρ' : SlW) (h : HW) (Q : L2.St → Hp → Prop), RW K H h v w → SR K H h σ ρ → f w ρ = some ρ' → (∀ σ', L2.wipe σ' js = L2.wipe σ js → SR K H h σ' ρ' → Q σ' H) → g v σ H Q
def TgsOk (K : PySem.W.Frag) (js : List Nat) (g : TGs) (f : TGsF) : Prop := ∀ (v : List V) (w : List W) (σ : L2.St) (H : Hp) (ρ ρ' : SlW) (h : HW) (Q : L2.St → Hp → Prop), RWs K H h v w → SR K H h σ ρ → f w ρ = some ρ' → (∀ σ', L2.wipe σ' js = L2.wipe σ js → SR K H h σ' ρ' → Q σ' H) → g v σ H Q
section
variable {K : PySem.W.Frag} {js : List Nat}
theorem tgN {j : Nat} (m : j ∈ js) : TgOk K js (gName j) (gfN j) := fun v w σ H ρ ρ' h Q r s e k => by
  cases e
  exact k _ (wipe_set m) (s.set r j)
theorem tgNil : TgsOk K js gNil gfNil := fun v w σ H ρ ρ' h Q r s e k => by
  cases w with
  | nil => cases r; cases e; exact ⟨rfl, k _ rfl s⟩
  | cons => cases e
theorem tgCons {g : TG} {f : TGF} {gs : TGs} {fs : TGsF} (a : TgOk K js g f) (b : TgsOk K js gs fs) : TgsOk K js (gCons g gs) (gfCons f fs) := fun v w σ H ρ ρ' h Q r s e k => by
  cases w with
  | nil => cases e
  | cons w ws =>
    cases r with
    | cons r q =>
      unfold gfCons at e
      dsimp only at e
      split at e
      · rename_i ρ1 e1
        exact ⟨_, _, rfl, a _ _ σ H ρ ρ1 h _ r s e1 fun σ1 w1 s1 => b _ _ σ1 H ρ1 ρ' h _ q s1 e fun σ2 w2 s2 => k σ2 (w2.trans w1) s2⟩
      · cases e
theorem tgT {n : Nat} {gs : TGs} {fs : TGsF} (b : TgsOk K js gs fs) : TgOk K js (gTup K n gs) (gfT n fs) := fun v w σ H ρ ρ' h Q r s e k => by
  unfold gfT at e
  split at e
  · split at e
    · rename_i l
      cases r with
      | tup f q => exact ⟨_, _, rfl, f.sq, by rw [q.length]; exact l, b _ _ σ H ρ ρ' h Q q s e k⟩
    · cases e
  · cases e
end
section
variable {X : Cx} {L : Lk}
def oLcT (ti : TIW) (js : List Nat) (gf : TGF) (tt : TTW) (te : TEW) : TEW := fun ρ h R => ti ρ h fun ws h1 => ws.length ≤ 16000000 ∧ ∀ p, h1 p = none → ∃ Pv : Nat → List W → HW → Prop, Pv 0 [] h1 ∧
  (∀ i w acc h', ws[i]? = some w → h' p = none → acc.length ≤ i → Pv i acc h' → ∃ ρ', gf w (wipeW ρ js) = some ρ' ∧ tt ρ' (updW h' p (.lst acc)) fun b h3 => if b = true then te ρ' h3 fun y h4 => ∃ h5, Sub (updW h5 p (.lst acc)) h4 ∧ h5 p = none ∧ Pv (i + 1) (acc ++ [y]) h5
    else ∃ h5, Sub (updW h5 p (.lst acc)) h3 ∧ h5 p = none ∧ Pv (i + 1) acc h5) ∧ ∀ acc h', h' p = none → Pv ws.length acc h' → R (.lst acc) h'
theorem lcT_imp {K : PySem.W.Frag} {ti : TIW} {js : List Nat} {g : TG} {gf : TGF} (G : TgOk K js g gf) {tt : TTW} {te : TEW} : ∀ σ H Q, lE K L (oLcT ti js gf tt te) σ H Q → tLc (lI K L ti) g (lT K L tt) (lE K L te) js σ H Q := fun σ H Q ⟨ρ, h, R, S, t, k⟩ =>
  ⟨ρ, h, _, S, t, fun ws h1 J H1 ⟨hz, t1⟩ s1 r1 I D hD => by
    obtain ⟨Pv, p0, turn, fin⟩ := t1 D (r1.fresh hD)
    refine ⟨fun i m H2 => m = ws.length - i ∧ i ≤ ws.length ∧ ∃ acc h', Pv i acc h' ∧ h' D = none ∧ acc.length ≤ i ∧ HR K H2 (updW h' D (.lst acc)) ∧ ST H1 h1 H2 (updW h' D (.lst acc)), ⟨_, rfl, Nat.zero_le _, [], h1, p0, r1.fresh hD, Nat.le_refl _, ?_, .newO hD _ _⟩, ?_⟩
    · exact r1.newO hD ⟨[], upd_same, .nil⟩
    · rintro i m H2 ⟨rfl, hi, acc, h2, p, n2, ha, hr2, st2⟩
      by_cases hlt : i < ws.length
      · have hw : ws[i]? = some ws[i] := List.getElem?_eq_getElem hlt
        obtain ⟨go, yl⟩ := I.step i H2 _ ws[i] st2 hr2 hw
        refine .inr ⟨go, fun H3 => ∃ acc h', Pv (i + 1) acc h' ∧ h' D = none ∧ acc.length ≤ i + 1 ∧ HR K H3 (updW h' D (.lst acc)) ∧ ST H1 h1 H3 (updW h' D (.lst acc)), fun H3 p' => ⟨ws.length - (i + 1), by omega, rfl, hlt, p'⟩, fun x H3 y => ?_⟩
        obtain ⟨st3, hr3, rx⟩ := yl x H3 y
        obtain ⟨ρ', eg, turn⟩ := turn i _ acc h2 hw n2 ha p
        have sr0 := (((S.sr.mono s1).mono st2).mono st3).wipe js
        refine G _ _ _ _ _ ρ' _ _ rx sr0 eg fun σ2 w2 sr2 => ⟨w2.trans (wipe_idem σ js), ρ', _, _, ⟨sr2, hr3, L.mono (L.mono (L.mono S.el s1) st2) st3⟩, turn, ?_⟩
        intro b h4 H4 t4 s4 r4
        have tot : ST H1 h1 H4 h4 := (st2.trans st3).trans s4
        cases b with
        | false =>
          obtain ⟨h5, sub, n5, p5⟩ := t4
          exact ⟨acc, h5, p5, n5, Nat.le_succ_of_le ha, r4.drop sub, tot.trans (.drop sub)⟩
        | true =>
          refine ⟨_, h4, _, ⟨sr2.mono s4, r4, L.mono (L.mono (L.mono (L.mono S.el s1) st2) st3) s4⟩, t4, fun y h5 v H5 ⟨h6, sub, n6, p6⟩ s5 r5 q5 => ?_⟩
          have hp : h5 D = some (.lst acc) := sub D _ updW_same
          obtain ⟨vs, hv, q⟩ := r5 D _ hp
          refine ⟨vs, hv, by rw [q.length]; exact Nat.lt_of_le_of_lt (Nat.le_trans ha hi) (sz_lt hz), acc ++ [y], h6, p6, n6, by rw [List.length_append]; exact Nat.succ_le_succ ha, ?_, ?_⟩
          all_goals
            have s6 : ST H5 h5 (upd H5 D (.lst (vs ++ [v]))) (updW h5 D (.lst (acc ++ [y]))) := .mut hp _ _
            have r6 : HR K (upd H5 D (.lst (vs ++ [v]))) (updW h5 D (.lst (acc ++ [y]))) := r5.mut hp ⟨_, upd_same, ((q.mono s6).append (.cons (q5.mono s6) .nil))⟩
            have sub6 : Sub (updW h6 D (.lst (acc ++ [y]))) (updW h5 D (.lst (acc ++ [y]))) := fun b o e => by
              by_cases hb : b = D
              · subst hb; rw [updW_same] at e ⊢; exact e
              · rw [updW_ne hb] at e ⊢
                exact sub b o (by rw [updW_ne hb]; exact e)
          · exact r6.drop sub6
          · exact ((tot.trans s5).trans s6).trans (.drop sub6)
      · have e : i = ws.length := by omega
        subst e
        obtain ⟨vs, hv, q⟩ := hr2 D _ updW_same
        have sub : Sub h2 (updW h2 D (.lst acc)) := .new n2
        exact .inl ⟨I.stop _ H2 _ st2 hr2 (Nat.le_refl _), k _ h2 _ H2 (fin acc h2 n2 p) ((s1.trans st2).trans (.drop sub)) (hr2.drop sub) (.lst ⟨hv, n2⟩ (q.mono (.drop sub)))⟩⟩
theorem w_lcT {elt tg iter : Expr} {ifs : List Expr} {scope : Scope} {own : List (Str × Nat)} {pos : Pos} {ti : TIW} {g : TG} {gf : TGF} {tt : TTW} {te : TEW} (hc : X.calm = true) (hN : X.N.Nodup) (G : TgOk X.K (own.map (·.2)) g gf) (hi : WI X L tg iter ti) (ok : BlkOk X.N X.env.scope scope own)
    (hg : ∀ (s : Shared) (H : Hp) (C : Addr) (cl : List (Str × Addr)) (fp : List Addr), PG (X.blk s H scope (compEnvC scope cl C X.env) fp) tg g) (ht : ∀ (s : Shared) (H : Hp) (C : Addr) (cl : List (Str × Addr)) (fp : List Addr), WTs (X.blk s H scope (compEnvC scope cl C X.env) fp) L ifs tt)
    (he : ∀ (s : Shared) (H : Hp) (C : Addr) (cl : List (Str × Addr)) (fp : List Addr), WE (X.blk s H scope (compEnvC scope cl C X.env) fp) L elt te) (hs : ∀ x, foldedSetIterable iter X.env x = pure x := by intro _; rfl) :
    WE X L (.ListComp elt [⟨tg, iter, ifs, 0⟩] scope pos) (oLcT ti (own.map (·.2)) gf tt te) := (pe_lc hc hN hi ok hg ht he hs).imp (lcT_imp G)
theorem ws_setLcT {i : Nat} {y : Str} {py : Pos} {elt tg iter : Expr} {ifs : List Expr} {scope : Scope} {own : List (Str × Nat)} {pos spos : Pos} {ti : TIW} {g : TG} {gf : TGF} {tt : TTW} {te : TEW} (hc : X.calm = true) (hN : X.N.Nodup) (hy : X.N[i]? = some y) (hyl : X.env.scope.names.lookup y = some .local)
    (hsw : swapsWith (.ListComp elt [⟨tg, iter, ifs, 0⟩] scope pos) (some (.Name y py)) spos.line X.env = pure true) (G : TgOk X.K (own.map (·.2)) g gf) (hi : WI X L tg iter ti) (ok : BlkOk X.N X.env.scope scope own)
    (hg : ∀ (s : Shared) (H : Hp) (C : Addr) (cl : List (Str × Addr)) (fp : List Addr), PG (X.blk s H scope (compEnvC scope cl C X.env) fp) tg g) (ht : ∀ (s : Shared) (H : Hp) (C : Addr) (cl : List (Str × Addr)) (fp : List Addr), WTs (X.blk s H scope (compEnvC scope cl C X.env) fp) L ifs tt)
    (he : ∀ (s : Shared) (H : Hp) (C : Addr) (cl : List (Str × Addr)) (fp : List Addr), WE (X.blk s H scope (compEnvC scope cl C X.env) fp) L elt te) (hs : ∀ x, foldedSetIterable iter X.env x = pure x := by intro _; rfl) :
    WS X L (.Assign [.Name y py] (.ListComp elt [⟨tg, iter, ifs, 0⟩] scope pos) spos) (sAsg (oLcT ti (own.map (·.2)) gf tt te) (gN i)) := (ps_setLc hc hN hy hyl hsw hi ok hg ht he hs).imp fun D σ H ⟨ρ, h, DW, S, t, k⟩ =>
  lcT_imp G σ H _ ⟨ρ, h, _, S, t, fun w1 h1 v1 H1 t1 s1 r1 q1 => k.nx _ h1 _ H1 t1 s1 r1 ((S.sr.mono s1).set q1 i)⟩
theorem go_lcTI {ti : TIW} {js : List Nat} {gf : TGF} {tb : TEW} {ρ : SlW} {h : HW} {R : KW} (ws fs : List W) (ev : ∀ P : List W → HW → Prop, P ws h → ti ρ h P) (hl : fs.length = ws.length) (hz : ws.length ≤ 16000000)
    (el : ∀ (i : Nat) (w y : W) (h' : HW) (R' : KW), ws[i]? = some w → fs[i]? = some y → R' y h' → ∃ ρ', gf w (wipeW ρ js) = some ρ' ∧ tb ρ' h' R') (k : R (.lst fs) h) : oLcT ti js gf oYes tb ρ h R := by
  refine ev _ ⟨hz, fun p hp => ⟨fun i acc h' => acc = fs.take i ∧ h' = h, ⟨rfl, rfl⟩, ?_, ?_⟩⟩
  · rintro i w acc h' e n hla ⟨rfl, rfl⟩
    have hi : i < fs.length := by rw [hl]; exact (List.getElem?_eq_some_iff.mp e).1
    obtain ⟨ρ', eg, go⟩ := el i w fs[i] (updW h' p (.lst (fs.take i))) (fun y h4 => ∃ h5, Sub (updW h5 p (.lst (fs.take i))) h4 ∧ h5 p = none ∧ (fs.take i) ++ [y] = fs.take (i + 1) ∧ h5 = h') e (List.getElem?_eq_getElem hi) ⟨_, .refl _, hp, by rw [List.take_add_one, List.getElem?_eq_getElem hi]; rfl, rfl⟩
    refine ⟨ρ', eg, go_yes ?_⟩
    rw [if_pos rfl]
    exact go
  · rintro acc h' n ⟨rfl, rfl⟩
    rw [← hl, List.take_length]; exact k
end
theorem go_truB {b : Bool} {RB : Bool → HW → Prop} {h : HW} (k : RB b h) : truK (truW (.bl b) h) RB h := k
end Wl

set_option Elab.async false
set_option linter.all false
set_option maxRecDepth 100000
namespace Wl
open PySem PySem.Spec PyProof.Rows L2
/-! ## instances of own classes -/
def putFW (f : Str) (w : W) : List (Str × W) → List (Str × W)
  | [] => [(f, w)]
  | (k, x) :: r => if k = f then (k, w) :: r else (k, x) :: putFW f w r
section
variable {K : PySem.W.Frag} {H : Hp} {h : HW}
theorem RFs.lookup {f : Str} {w : W} : ∀ {gs : List (Str × V)} {fs : List (Str × W)}, RFs K H h gs fs → fs.lookup f = some w → ∃ v, gs.lookup f = some v ∧ RW K H h v w
  | _, _, .nil, e => by cases e
  | _, _, @RFs.cons _ _ _ k v w' vs ws r t, e => by
    simp only [List.lookup] at e ⊢
    by_cases c : (f == k) = true
    · rw [c] at e ⊢; cases e; exact ⟨v, rfl, r⟩
    · rw [Bool.eq_false_iff.mpr c] at e ⊢; exact RFs.lookup t e
theorem RFs.lookup_none {f : Str} : ∀ {gs : List (Str × V)} {fs : List (Str × W)}, RFs K H h gs fs → fs.lookup f = none → gs.lookup f = none
  | _, _, .nil, e => rfl
  | _, _, @RFs.cons _ _ _ k v w' vs ws r t, e => by
    simp only [List.lookup] at e ⊢
    by_cases c : (f == k) = true
    · rw [c] at e; cases e
    · rw [Bool.eq_false_iff.mpr c] at e ⊢; exact RFs.lookup_none t e
theorem RFs.length : ∀ {gs : List (Str × V)} {fs : List (Str × W)}, RFs K H h gs fs → gs.length = fs.length
  | _, _, .nil => rfl
  | _, _, .cons _ t => congrArg (· + 1) t.length
theorem RFs.put {f : Str} {v : V} {w : W} (q : RW K H h v w) : ∀ {gs : List (Str × V)} {fs : List (Str × W)}, RFs K H h gs fs → RFs K H h (putF f v gs) (putFW f w fs)
  | _, _, .nil => .cons q .nil
  | _, _, @RFs.cons _ _ _ k v' w' vs ws r t => by
    show RFs K H h (if k = f then (k, v) :: vs else (k, v') :: putF f v vs) (if k = f then (k, w) :: ws else (k, w') :: putFW f w ws)
    by_cases c : k = f
    · rw [if_pos c, if_pos c]; exact .cons q t
    · rw [if_neg c, if_neg c]; exact .cons r (RFs.put q t)
theorem ins_at {a C : Addr} {fs : List (Str × W)} (hr : HR K H h) (e : h a = some (.ins C fs)) : ∃ dx gs, H a = some (.ins C dx gs) ∧ RFs K H h gs fs := hr a _ e
end
section
variable {X : Cx} {L : Lk} {C : Addr} {f m x : Str} {e o : Expr} {es : List Expr} {te to tv : TEW} {t : TAW} {pos apos p : Pos}
def fldK (C : Addr) (f : Str) (x : W) (h : HW) (R : KW) : Prop := match x with
  | .ref a => ∃ fs w, h a = some (.ins C fs) ∧ fs.lookup f = some w ∧ R w h
  | _ => False
def oFld (C : Addr) (f : Str) (te : TEW) : TEW := fun ρ h R => te ρ h fun x h1 => fldK C f x h1 R
theorem w_fld (c : Cls X.K C) (n : NoAttr X.K C f) (he : WE X L e te) (hb : attributeBase e f X.env (eval e X.env) = eval e X.env := by rfl) : WE X L (.Attribute e f pos) (oFld C f te) := (pe_fld he hb).imp fun σ H Q ⟨ρ, h, R, S, t, k⟩ =>
  ⟨ρ, h, _, S, t, fun w1 h1 v1 H1 t1 s1 r1 q1 => by
    unfold fldK at t1
    split at t1
    · obtain ⟨fs, w, ea, l, t1⟩ := t1
      cases q1
      obtain ⟨dx, gs, eH, rf⟩ := ins_at r1 ea
      obtain ⟨v, lv, rv⟩ := rf.lookup l
      exact ⟨_, C, dx, gs, v, rfl, eH, c, n, lv, k _ h1 _ H1 t1 s1 r1 rv⟩
    · exact t1.elim⟩
/-- o.f = v -/
def putK (C : Addr) (f : Str) (x v : W) (P : HW → Prop) (h : HW) : Prop := match x with
  | .ref a => ∃ fs, h a = some (.ins C fs) ∧ fs.length < 1000 ∧ P (updW h a (.ins C (putFW f v fs)))
  | _ => False
def sFldW (C : Addr) (f : Str) (to tv : TEW) : TSW := fun D ρ h => tv ρ h fun v h1 => to ρ h1 fun x h2 => putK C f x v (D.nx ρ) h2
theorem ws_fld {value : Expr} {pos' : Pos} (c : Cls X.K C) (n : NoAttr X.K C f) (ho : WE X L o to) (hv : WE X L value tv) (hs : swapsWith value (some (.Attribute o f pos')) pos.line X.env = pure false := by rfl) :
    WS X L (.Assign [.Attribute o f pos'] value pos) (sFldW C f to tv) := (ps_fld ho hv hs).imp fun D σ H ⟨ρ, h, DW, S, t, k⟩ =>
  ⟨ρ, h, _, S, t, fun w1 h1 v1 H1 t1 s1 r1 q1 => ⟨ρ, h1, _, S.to s1 r1, t1, fun w2 h2 v2 H2 t2 s2 r2 q2 => by
    unfold putK at t2
    split at t2
    · obtain ⟨fs, ea, l, t2⟩ := t2
      cases q2
      obtain ⟨dx, gs, eH, rf⟩ := ins_at r2 ea
      have st := ST.mut (H := H2) ea (.ins C dx (putF f v1 gs)) (.ins C (putFW f w1 fs))
      refine ⟨_, C, dx, gs, rfl, eH, c, n, by rw [rf.length]; exact l, k.nx ρ _ _ _ t2 ((s1.trans s2).trans st) ?_ ((S.sr.mono (s1.trans s2)).mono st)⟩
      exact r2.mut ea ⟨dx, _, upd_same, (rf.mono st).put ((q1.mono s2).mono st)⟩
    · exact t2.elim⟩⟩
/-- o.f op= v -/
def sFldAugW (C : Addr) (f : Str) (to tv : TEW) (rw : RW2) : TSW := fun D ρ h => to ρ h fun x h1 => fldK C f x h1 fun y h2 => tv ρ h2 fun z h3 => rw y z h3 fun u h4 => putK C f x u (D.nx ρ) h4
theorem ws_fldaug {value : Expr} {tpos : Pos} {op : Operator} {r : R2} {rw : RW2} (c : Cls X.K C) (n : NoAttr X.K C f) (ho : WE X L o to) (hv : WE X L value tv) (hop : OpR X (inplaceOp op) r) (l : Lf2 X.K r rw) :
    WS X L (.AugAssign (.Attribute o f tpos) op value pos) (sFldAugW C f to tv rw) := (ps_fldaug (rd := r) ho hv (fun pins s σ H x y u v Q I rx ry q => hop pins s σ H x y u v Q I rx ry q)).imp fun D σ H ⟨ρ, h, DW, S, t, k⟩ =>
  ⟨ρ, h, _, S, t, fun w1 h1 v1 H1 t1 s1 r1 q1 => by
    unfold fldK at t1
    split at t1
    · obtain ⟨fs, w, ea, lk, t1⟩ := t1
      cases q1
      obtain ⟨dx, gs, eH, rf⟩ := ins_at r1 ea
      obtain ⟨v, lv, rv⟩ := rf.lookup lk
      refine ⟨_, C, dx, gs, v, rfl, eH, c, n, lv, ρ, h1, _, S.to s1 r1, t1, fun w2 h2 v2 H2 t2 s2 r2 q2 => l v v2 H2 _ w w2 h2 _ (rv.mono s2) q2 r2 t2 fun w3 h3 v3 H3 t3 s3 r3 q3 => ?_⟩
      obtain ⟨fs', ea', l', t3⟩ := t3
      obtain ⟨dx', gs', eH', rf'⟩ := ins_at r3 ea'
      have st := ST.mut (H := H3) ea' (.ins C dx' (putF f v3 gs')) (.ins C (putFW f w3 fs'))
      refine ⟨dx', gs', eH', by rw [rf'.length]; exact l', k.nx ρ _ _ _ t3 (((s1.trans s2).trans s3).trans st) ?_ ((S.sr.mono ((s1.trans s2).trans s3)).mono st)⟩
      exact r3.mut ea' ⟨dx', _, upd_same, (rf'.mono st).put (q3.mono st)⟩
    · exact t1.elim⟩
/-! ### methods -/
variable {CX : CXT} {k : Nat} {g : Addr} {fd : FuncData} {ps : List Str} {sp : SpW} {ex : XW → HW → Prop} {E : XK}
def methK (C : Addr) (m : Str) (x : W) (h : HW) (P : Prop) : Prop := match x with
  | .ref a => (∃ fs, h a = some (.ins C fs) ∧ fs.lookup m = none) ∧ P
  | _ => False
def oMeth (C : Addr) (m : Str) (sp : SpW) (ex : XW → HW → Prop) (to : TEW) (t : TAW) : TEW := fun ρ h R => to ρ h fun x h1 => methK C m x h1 (t ρ h1 fun ws h2 => sp (x :: ws) h2 R ex)
theorem w_methG {pl : Sem Bool} (c : Cls X.K C) (hm : Meth X.K C m g) (F : FnOk X.prog X.w X.K X.mg X.base CX k g fd ps (lSp X.K sp)) (hr : Room k X.A) (hb : Binds X.K fd ps []) (hx : Passes CX X E) (hE : ∀ H h, L.el H h → (Lk.of X.K E ex).el H h)
    (ho : WE X L o to) (ha : WA X L (e :: es) t) (hst : starEach (e :: es) X.env = (false, eval e X.env) :: starEach es X.env := by rfl) (hpl : (backTo pos (starEach es X.env)).any (·.1) = false := by rfl)
    (ht : eval (.Call (.Attribute o m apos) (e :: es) [] pos) X.env = (do
      let ov ← eval o X.env
      standAt apos.atName
      let (f, first) ← holding [ov] (getMethod ov m pl)
      callWith pos f first (backTo pos (starEach (e :: es) X.env)) (backToKw pos (keywordEach [] X.env))) := by rfl) :
    WE X L (.Call (.Attribute o m apos) (e :: es) [] pos) (oMeth C m sp ex to t) := (pe_meth ho c hm F hr hb .nil hx ha hst hpl ht).imp fun σ H Q ⟨ρ, h, R, S, t, k⟩ =>
  ⟨ρ, h, _, S, t, fun w1 h1 v1 H1 t1 s1 r1 q1 => by
    unfold methK at t1
    split at t1
    · obtain ⟨⟨fs, ea, l⟩, t1⟩ := t1
      cases q1
      obtain ⟨dx, gs, eH, rf⟩ := ins_at r1 ea
      refine ⟨_, dx, gs, rfl, eH, rf.lookup_none l, ρ, h1, _, S.to s1 r1, t1, fun ws h2 vs H2 t2 s2 r2 q2 => ?_⟩
      show lSp X.K sp (_ :: (vs ++ [])) H2 Q E
      rw [List.append_nil]
      exact ⟨_, h2, R, ex, .cons (.ref _) q2, r2, t2, k.mono (s1.trans s2), hE _ _ (L.mono S.el (s1.trans s2))⟩
    · exact t1.elim⟩
theorem w_meth0G {pl : Sem Bool} (c : Cls X.K C) (hm : Meth X.K C m g) (F : FnOk X.prog X.w X.K X.mg X.base CX k g fd ps (lSp X.K sp)) (hr : Room k X.A) (hb : Binds X.K fd ps []) (hx : Passes CX X E) (hE : ∀ H h, L.el H h → (Lk.of X.K E ex).el H h)
    (ho : WE X L o to)
    (ht : eval (.Call (.Attribute o m apos) [] [] pos) X.env = (do
      let ov ← eval o X.env
      standAt apos.atName
      let (f, first) ← holding [ov] (getMethod ov m pl)
      callWith pos f first (backTo pos (starEach [] X.env)) (backToKw pos (keywordEach [] X.env))) := by rfl) :
    WE X L (.Call (.Attribute o m apos) [] [] pos) (oMeth C m sp ex to oNil) := (pe_meth0 ho c hm F hr hb .nil hx ht).imp fun σ H Q ⟨ρ, h, R, S, t, k⟩ =>
  ⟨ρ, h, _, S, t, fun w1 h1 v1 H1 t1 s1 r1 q1 => by
    unfold methK at t1
    split at t1
    · obtain ⟨⟨fs, ea, l⟩, t1⟩ := t1
      cases q1
      obtain ⟨dx, gs, eH, rf⟩ := ins_at r1 ea
      refine ⟨_, dx, gs, rfl, eH, rf.lookup_none l, ?_⟩
      exact ⟨_, h1, R, ex, .cons (.ref _) .nil, r1, t1, k.mono s1, hE _ _ (L.mono S.el s1)⟩
    · exact t1.elim⟩
/-! ### a new instance -/
def makeK (C : Addr) (sp : SpW) (ex : XW → HW → Prop) (ws : List W) (h1 : HW) (R : KW) : Prop := ∀ x, h1 x = none → sp (.ref x :: ws) (updW h1 x (.ins C [])) (fun w h2 => w = .non ∧ R (.ref x) h2) ex
def oMake (C : Addr) (sp : SpW) (ex : XW → HW → Prop) (t : TAW) : TEW := fun ρ h R => t ρ h fun ws h1 => makeK C sp ex ws h1 R
theorem make_sp {K : PySem.W.Frag} {H1 : Hp} {h1 : HW} {vs : List V} {ws : List W} {R : KW} {Q : VK} (q1 : RWs K H1 h1 vs ws) (r1 : HR K H1 h1) (t1 : makeK C sp ex ws h1 R) (kv : KV K H1 h1 R Q) (el : (Lk.of K E ex).el H1 h1) (x dx : Addr) (ex' : H1 x = none) (ed : H1 dx = none) :
    lSp K sp (.ref x :: (vs ++ [])) (upd (upd H1 dx (.own x)) x (.ins C dx [])) (fun v H2 => v = .non ∧ Q (.ref x) H2) E := by
  have st : ST H1 h1 (upd (upd H1 dx (.own x)) x (.ins C dx [])) (updW h1 x (.ins C [])) := .newI (fs := []) ex' ed _
  have hr2 : HR K (upd (upd H1 dx (.own x)) x (.ins C dx [])) (updW h1 x (.ins C [])) := r1.newI ex' ed
  rw [List.append_nil]
  refine ⟨_, _, _, ex, .cons (.ref x) (q1.mono st), hr2, t1 x (r1.fresh ex'), ?_, (Lk.of K E ex).mono el st⟩
  rintro w h' v H' ⟨rfl, rr⟩ s' hr' rw'
  cases rw'
  exact ⟨rfl, kv _ h' _ H' rr (st.trans s') hr' (.ref x)⟩
theorem w_makeG (M : Mk X.K C g) (F : FnOk X.prog X.w X.K X.mg X.base CX k g fd ps (lSp X.K sp)) (hr : Room (k + 1) X.A) (hg : Gl X x) (hm : X.mg x = some (.ref C)) (hb : Binds X.K fd ps []) (hx : Passes CX X E) (hE : ∀ H h, L.el H h → (Lk.of X.K E ex).el H h)
    (ha : WA X L (e :: es) t) (hdb : (x == ("__debug__" : Str)) = false := by decide) (he : starEach (e :: es) X.env = (false, eval e X.env) :: starEach es X.env := by rfl) (hpl : (backTo pos (starEach es X.env)).any (·.1) = false := by rfl) :
    WE X L (.Call (.Name x p) (e :: es) [] pos) (oMake C sp ex t) := (pe_make M F hr hg hm hb .nil hx ha hdb he hpl).imp fun σ H Q ⟨ρ, h, R, S, t, k⟩ =>
  ⟨ρ, h, _, S, t, fun ws h1 vs H1 t1 s1 r1 q1 x dx ex' ed ne => make_sp q1 r1 t1 (k.mono s1) (hE _ _ (L.mono S.el s1)) x dx ex' ed⟩
theorem w_make0G (M : Mk X.K C g) (F : FnOk X.prog X.w X.K X.mg X.base CX k g fd ps (lSp X.K sp)) (hr : Room (k + 1) X.A) (hg : Gl X x) (hm : X.mg x = some (.ref C)) (hb : Binds X.K fd ps []) (hx : Passes CX X E) (hE : ∀ H h, L.el H h → (Lk.of X.K E ex).el H h)
    (hdb : (x == ("__debug__" : Str)) = false := by decide) : WE X L (.Call (.Name x p) [] [] pos) (oMake C sp ex oNil) := (pe_make0 M F hr hg hm hb .nil hx hdb).imp fun σ H Q ⟨ρ, h, R, S, t, k⟩ =>
  fun x dx ex' ed ne => make_sp (vs := []) (ws := []) .nil S.hr t k (hE _ _ S.el) x dx ex' ed
end
section
variable {C : Addr} {f m : Str} {te to tv : TEW} {t : TAW} {ρ : SlW} {h : HW} {R : KW} {D : EndsW} {sp : SpW} {ex : XW → HW → Prop} {a : Addr} {w v : W} {fs : List (Str × W)}
theorem go_fld (k : te ρ h fun x h1 => fldK C f x h1 R) : oFld C f te ρ h R := k
theorem go_fldK (e : h a = some (.ins C fs)) (l : fs.lookup f = some w) (k : R w h) : fldK C f (.ref a) h R := ⟨fs, w, e, l, k⟩
theorem go_sfld (k : tv ρ h fun v h1 => to ρ h1 fun x h2 => putK C f x v (D.nx ρ) h2) : sFldW C f to tv D ρ h := k
theorem go_putK {P : HW → Prop} (e : h a = some (.ins C fs)) (l : fs.length < 1000) (k : P (updW h a (.ins C (putFW f v fs)))) : putK C f (.ref a) v P h := ⟨fs, e, l, k⟩
theorem go_sfldaug {rw : RW2} (k : to ρ h fun x h1 => fldK C f x h1 fun y h2 => tv ρ h2 fun z h3 => rw y z h3 fun u h4 => putK C f x u (D.nx ρ) h4) : sFldAugW C f to tv rw D ρ h := k
theorem go_meth (k : to ρ h fun x h1 => methK C m x h1 (t ρ h1 fun ws h2 => sp (x :: ws) h2 R ex)) : oMeth C m sp ex to t ρ h R := k
theorem go_methK {P : Prop} (e : h a = some (.ins C fs)) (l : fs.lookup m = none) (k : P) : methK C m (.ref a) h P := ⟨⟨fs, e, l⟩, k⟩
theorem go_make (k : t ρ h fun ws h1 => makeK C sp ex ws h1 R) : oMake C sp ex t ρ h R := k
end
end Wl
namespace Wl
open PySem PySem.Spec PyProof.Rows L2
/-! ## {e!r} of a text: some text -/
def fmtRW : W → HW → KW → Prop := fun x h R => match x with
  | .str s => (∀ c ∈ s, c < 1114112) ∧ s.length ≤ 1000000 ∧ ∀ r : List Nat, r.length ≤ 12 * s.length + 20 → R (.str r) h
  | _ => False
theorem w_fmtR {X : Cx} {L : Lk} {e : Expr} {te : TEW} {pos : Pos} (he : WE X L e te) : WE X L (.FormattedValue e 114 none pos) (oUn fmtRW te) := (pe_fmtR he).imp fun σ H Q ⟨ρ, h, R, S, t, k⟩ =>
  ⟨ρ, h, _, S, t, fun w1 h1 v1 H1 t1 s1 r1 q1 => by
    unfold fmtRW at t1
    split at t1
    · rename_i s
      cases q1
      obtain ⟨a, b, t1⟩ := t1
      have l := StrLaws.reprText_len (mkS s) (by intro c hc; exact Nat.lt_of_lt_of_le (a c (by simpa [mkS] using hc)) (by decide))
      have l2 : (reprText (mkS s)).length ≤ 12 * s.length + 20 := by rw [mkS_length] at l; omega
      refine .inl ⟨_, rfl, sz_big (by omega), ?_⟩
      rw [mkS_list (reprText (mkS s))]
      exact k _ h1 _ H1 (t1 _ (by simpa [Str.length] using l2)) s1 r1 (.str _)
    · exact t1.elim⟩
theorem go_fmtR {R : KW} {h : HW} {s : List Nat} (a : ∀ c ∈ s, c < 1114112) (b : s.length ≤ 1000000) (k : ∀ r : List Nat, r.length ≤ 12 * s.length + 20 → R (.str r) h) : fmtRW (.str s) h R := ⟨a, b, k⟩
end Wl

set_option Elab.async false
set_option linter.all false
set_option maxRecDepth 100000
namespace Wl
open PySem PySem.Spec PyProof.Rows L2
theorem del_sub {h : HW} {p : Addr} : Sub (delW h p) h := fun b o e => by
  unfold delW at e
  split at e
  · cases e
  · exact e
/-! ## a list that is walked: nobody owns it any more -/
section
variable {X : Cx} {L : Lk} {tg e : Expr} {te : TEW} {pos p : Pos}
def walkK (x : W) (h1 : HW) (P : List W → HW → Prop) : Prop := match x with
  | .lst ws => P ws h1
  | .scr ws => P ws h1
  | .ref p => (match h1 p with | some (.lst ws) => P ws (delW h1 p) | _ => False)
  | _ => False
theorem walk_at_ {K : PySem.W.Frag} {H : Hp} {h : HW} {v : V} {x : W} {P : List W → HW → Prop} (hr : HR K H h) (r : RW K H h v x) (t : walkK x h P) : ∃ a vs ws h', v = .ref a ∧ P ws h' ∧ Sub h' h ∧ (∀ H2 h2, ST H h' H2 h2 → SqL K H2 a vs) ∧ SqL K H a vs ∧ RWs K H h' vs ws := by
  unfold walkK at t
  split at t
  · cases r with | lst f q => exact ⟨_, _, _, h, rfl, t, .refl _, fun _ _ st => (f.mono st).sq, f.sq, q⟩
  · cases r with | scr f q => exact ⟨_, _, _, h, rfl, t, .refl _, fun _ _ st => (f.mono st).sq, f.sq, q⟩
  · split at t
    · rename_i p _ ws hp
      cases r
      obtain ⟨vs, a, q⟩ := hr _ _ hp
      have f : FzL H (delW h p) p vs := ⟨a, delW_same⟩
      exact ⟨_, _, _, _, rfl, t, del_sub, fun _ _ st => (f.mono st).sq, SqL.of a, q.mono (.drop del_sub)⟩
    · exact t.elim
  · exact t.elim
def oItA (te : TEW) : TIW := fun ρ h P => te ρ h fun x h1 => walkK x h1 P
theorem wi_any (he : WE X L e te) : WI X L tg e (oItA te) := (pi_list he).imp fun σ H Q ⟨ρ, h, P, S, t, k⟩ =>
  ⟨ρ, h, _, S, t, fun w1 h1 v1 H1 t1 s1 r1 q1 => by
    obtain ⟨a, vs, ws, h', rfl, t2, sub, f, sq, q⟩ := walk_at_ r1 q1 t1
    exact ⟨_, rfl, ⟨_, sq⟩, k _ h' _ H1 t2 (s1.trans (.drop sub)) (r1.drop sub) (itSq f q)⟩⟩
/-- reversed(xs) -/
def oItRv (te : TEW) : TIW := fun ρ h P => te ρ h fun x h1 => walkK x h1 fun ws h2 => P ws.reverse h2
theorem itRv {K : PySem.W.Frag} {H : Hp} {h : HW} {a : Addr} {vs : List V} {ws : List W} (f : ∀ H' h', ST H h H' h' → SqL K H' a vs) (r : RWs K H h vs ws) : ItW K (Itv K a vs.length) H h ws.reverse where
  step := fun i H1 h1 w st hr e => by
    have hi : i < ws.length := by have := (List.getElem?_eq_some_iff.mp e).1; simpa using this
    rw [List.getElem?_reverse hi] at e
    obtain ⟨v, e1, e2⟩ := (r.mono st).get e
    rw [← r.length] at e1 hi
    refine ⟨⟨hi, vs, v, f _ _ st, e1⟩, fun x H' ⟨eH, y⟩ => ?_⟩
    subst eH
    have := y vs (f _ _ st)
    rw [e1] at this; cases this
    exact ⟨.refl _ _, hr, e2⟩
  stop := fun i H1 h1 st hr e => by rw [List.length_reverse, ← r.length] at e; exact e
theorem wi_rev (hg : Gl X "reversed") (hm : X.mg "reversed" = none) (he : WE X L e te) (hs : starEach [e] X.env = (false, eval e X.env) :: starEach [] X.env := by rfl) : WI X L tg (.Call (.Name "reversed" p) [e] [] pos) (oItRv te) := (RT.pi_revA hg hm he hs).imp fun σ H Q ⟨ρ, h, P, S, t, k⟩ =>
  ⟨ρ, h, _, S, t, fun w1 h1 v1 H1 t1 s1 r1 q1 => by
    obtain ⟨a, vs, ws, h', rfl, t2, sub, f, sq, q⟩ := walk_at_ r1 q1 t1
    exact ⟨_, vs, rfl, .inl ⟨sq, k _ h' _ H1 t2 (s1.trans (.drop sub)) (r1.drop sub) (itRv f q)⟩⟩⟩
end
/-! ## int(text) -/
def intStrW : List W → HW → KW → Prop := fun ws h R => match ws with
  | [.str s] => ∃ n, PySem.intText? (mkS s) = some n ∧ s.length ≤ 640 ∧ R (.int n) h
  | _ => False
theorem lf_intStr {K : PySem.W.Frag} : LfC K (fun xs H Q => ∃ a n, xs = [.str a] ∧ PySem.intText? a = some n ∧ a.length ≤ 640 ∧ Q (.int n) H) intStrW := fun xs H Q ws h R r hr t k => by
  unfold intStrW at t
  split at t
  · obtain ⟨n, e, l, t⟩ := t
    obtain ⟨x, rfl, q⟩ := r.one
    cases q
    exact ⟨_, n, rfl, e, by rw [mkS_length]; exact l, k.go hr t (.int _)⟩
  · exact t.elim
theorem go_intStr {s : List Nat} {n : Int} {h : HW} {R : KW} (e : PySem.intText? (mkS s) = some n) (l : s.length ≤ 640) (k : R (.int n) h) : intStrW [.str s] h R := ⟨n, e, l, k⟩
/-! ## stepping -/
section
variable {ρ : SlW} {h : HW} {te : TEW} {D : EndsW}
theorem go_forA {g : TGW} {tb : TSW} {p : Addr} (ws : List W) (ev : ∀ R : KW, R (.ref p) h → te ρ h R) (hp : h p = some (.lst ws))
  (Pv : Nat → SlW → HW → Prop) (p0 : CN (Pv 0) ρ (delW h p)) (turn : ∀ (i : Nat) w ρ' h', ws[i]? = some w → Pv i ρ' h' → g w ρ' h' fun ρ2 h2 => tb (D.lp (CN (Pv (i + 1))) D.nx) ρ2 h2)
  (fin : ∀ ρ' h', Pv ws.length ρ' h' → D.nx ρ' h') : sFor (oItA te) g tb D ρ h := ev _ (by unfold walkK; dsimp only; rw [hp]; exact ⟨Pv, p0, turn, fin⟩)
theorem go_forRv {g : TGW} {tb : TSW} {p : Addr} (ws : List W) (ev : ∀ R : KW, R (.ref p) h → te ρ h R) (hp : h p = some (.lst ws))
  (Pv : Nat → SlW → HW → Prop) (p0 : CN (Pv 0) ρ (delW h p)) (turn : ∀ (i : Nat) w ρ' h', ws.reverse[i]? = some w → Pv i ρ' h' → g w ρ' h' fun ρ2 h2 => tb (D.lp (CN (Pv (i + 1))) D.nx) ρ2 h2)
  (fin : ∀ ρ' h', Pv ws.length ρ' h' → D.nx ρ' h') : sFor (oItRv te) g tb D ρ h := ev _ (by unfold walkK; dsimp only; rw [hp]; exact ⟨Pv, p0, turn, fun ρ' h' q => fin ρ' h' (by rw [List.length_reverse] at q; exact q)⟩)
theorem go_forRvL {g : TGW} {tb : TSW} (ws : List W) (ev : ∀ R : KW, R (.lst ws) h → te ρ h R)
  (Pv : Nat → SlW → HW → Prop) (p0 : CN (Pv 0) ρ h) (turn : ∀ (i : Nat) w ρ' h', ws.reverse[i]? = some w → Pv i ρ' h' → g w ρ' h' fun ρ2 h2 => tb (D.lp (CN (Pv (i + 1))) D.nx) ρ2 h2)
  (fin : ∀ ρ' h', Pv ws.length ρ' h' → D.nx ρ' h') : sFor (oItRv te) g tb D ρ h := ev _ ⟨Pv, p0, turn, fun ρ' h' q => fin ρ' h' (by rw [List.length_reverse] at q; exact q)⟩
end
end Wl

set_option Elab.async false
set_option linter.all false
set_option maxRecDepth 100000
namespace Wl
open PySem PySem.Spec PyProof.Rows L2
/-! ## the greater and the lesser of two -/
section
variable {K : PySem.W.Frag} {h : HW} {R : KW} {i j : Int}
def max2W : List W → HW → KW → Prop := fun ws h R => match ws with | [.int i, .int j] => R (.int (max i j)) h | _ => False
def min2W : List W → HW → KW → Prop := fun ws h R => match ws with | [.int i, .int j] => R (.int (min i j)) h | _ => False
theorem lf_max2 : LfC K (fun xs H Q => ∃ i j, xs = [.int i, .int j] ∧ Q (.int (if j > i then j else i)) H) max2W := fun xs H Q ws h R r hr t k => by
  unfold max2W at t
  split at t
  · rename_i i j
    obtain ⟨x, y, rfl, q, q'⟩ := r.two
    cases q; cases q'
    refine ⟨_, _, rfl, ?_⟩
    rw [show (if j > i then j else i) = max i j by omega]; exact k.go hr t (.int _)
  · exact t.elim
theorem lf_min2 : LfC K (fun xs H Q => ∃ i j, xs = [.int i, .int j] ∧ Q (.int (if j < i then j else i)) H) min2W := fun xs H Q ws h R r hr t k => by
  unfold min2W at t
  split at t
  · rename_i i j
    obtain ⟨x, y, rfl, q, q'⟩ := r.two
    cases q; cases q'
    refine ⟨_, _, rfl, ?_⟩
    rw [show (if j < i then j else i) = min i j by omega]; exact k.go hr t (.int _)
  · exact t.elim
theorem go_max2 (k : R (.int (max i j)) h) : max2W [.int i, .int j] h R := k
theorem go_min2 (k : R (.int (min i j)) h) : min2W [.int i, .int j] h R := k
end
/-! ## a walk over the signs of a text -/
section
variable {te : TEW} {ρ : SlW} {h : HW} {D : EndsW}
theorem go_forS {g : TGW} {tb : TSW} (s : List Nat) (ev : ∀ R : KW, R (.str s) h → te ρ h R)
  (Pv : Nat → SlW → HW → Prop) (p0 : CN (Pv 0) ρ h) (turn : ∀ (i : Nat) c ρ' h', s[i]? = some c → Pv i ρ' h' → g (.str [c]) ρ' h' fun ρ2 h2 => tb (D.lp (CN (Pv (i + 1))) D.nx) ρ2 h2)
  (fin : ∀ ρ' h', Pv s.length ρ' h' → D.nx ρ' h') : sFor (oItS te) g tb D ρ h := ev _ ⟨Pv, p0, fun i w ρ' h' e p => by
    rw [List.getElem?_map] at e
    obtain ⟨c, ec, rfl⟩ := Option.map_eq_some_iff.mp e
    exact turn i c ρ' h' ec p, fun ρ' h' p => fin ρ' h' (by rw [List.length_map] at p; exact p)⟩
end
end Wl

set_option Elab.async false
set_option linter.all false
set_option maxRecDepth 100000
namespace Wl
open PySem PySem.Spec PyProof.Rows L2
/-! ## defs that call deep: room counted by single frames -/
structure RoomD (d : Nat) (A : Around) : Prop where
  quiet : A.handled = none
  frames : A.depth + d + 5 < recursionLimit
  cunits : 3 * A.units + 16 * d + 600 < 3 * cLine
theorem RoomD.less {c d : Nat} {A : Around} (r : RoomD d A) (h : c ≤ d) : RoomD c A := ⟨r.quiet, by have := r.frames; omega, by have := r.cunits; omega⟩
theorem RoomD.down {d : Nat} {A : Around} (r : RoomD (d + 1) A) (env : Env) : RoomD d (A.deeper env) :=
  ⟨r.quiet, by have a := r.frames; have b : (A.deeper env).depth = A.depth + 1 := rfl; omega, by have a := r.cunits; have b : (A.deeper env).units = A.units + 3 := rfl; omega⟩
theorem RoomD.room {k d : Nat} {A : Around} (r : RoomD d A) (h : 3 * k ≤ d) : Room k A := ⟨r.quiet, by have := r.frames; omega, by have := r.cunits; omega⟩
theorem RoomD.units {d : Nat} {A : Around} (r : RoomD d A) : A.units + 64 < cLine := (r.room (k := 0) (Nat.zero_le _)).units
theorem roomD_of {k : Nat} {A : Around} (r : Room k A) : RoomD (3 * k) A := ⟨r.hd, by have := r.dp; omega, by have := r.un; omega⟩
/-- what such a def promises -/
structure FnD (P : Program) (w : World) (K : PySem.W.Frag) (mg : Str → Option Value) (base : Heap) (CX : CXT) (d : Nat) (f : Addr) (fd : FuncData) (ps : List Str) (sp : Sp) : Prop where
  size : ∀ vs H Q E, sp vs H Q E → vs.length = ps.length
  goes : ∀ (A : Around), RoomD d A → ∀ (outer : List Env) (s : Shared) (H : Hp) (args : Args) (us : List Value) (vs : List V) (Q : VK) (E : XK), Env0 P w K mg base A outer s H → BindsTo s fd args (ps.zip us) → Vals vs us → sp vs H Q E →
    codeAny (model P w) A (.call (.ref f) args) (CR CX outer P w H s Q E) s
section
variable {P : Program} {w : World} {K : PySem.W.Frag} {mg : Str → Option Value} {base : Heap} {CX : CXT} {f : Addr} {fd : FuncData} {ps : List Str}
theorem FnD.fnOk {k : Nat} {sp : Sp} (F : FnD P w K mg base CX (3 * k) f fd ps sp) : FnOk P w K mg base CX k f fd ps sp :=
  ⟨F.size, fun A outer s H args us vs Q E r e b v q => F.goes A (roomD_of r) outer s H args us vs Q E e b v q⟩
theorem FnD.less {c d : Nat} {sp : Sp} (F : FnD P w K mg base CX c f fd ps sp) (h : c ≤ d) : FnD P w K mg base CX d f fd ps sp :=
  ⟨F.size, fun A r => F.goes A (r.less h)⟩
theorem FnD.none {d : Nat} {sp : SpW} (no : ∀ ws h R ex, ¬ sp ws h R ex) : FnD P w K mg base CX d f fd ps (lSp K sp) :=
  ⟨fun _ _ _ _ ⟨_, _, _, _, _, _, q, _⟩ => (no _ _ _ _ q).elim, fun _ _ _ _ _ _ _ _ _ _ _ _ _ ⟨_, _, _, _, _, _, q, _⟩ => (no _ _ _ _ q).elim⟩
/-- by its body -/
theorem fnD {x qual : Str} {st : Stmt} {N : List Str} {d : Nat} {sp : SpW} (F : Fun K x qual st f fd) (S : FnScope N ps (defScope st)) (len : ∀ ws h R ex, sp ws h R ex → ws.length = ps.length)
    (hbody : ∀ (cdv : Value) (A : Around) (outer : List Env) (s : Shared) (H : Hp) (E : XK) (ex : XW → HW → Prop), RoomD d (A.deeper (envOfC qual (defScope st) s.heap.objs.size f cdv)) →
      ∃ t, WSs (cxOf (L2.CX P w) P w K mg base N qual (defScope st) f cdv A outer s H E) (Lk.of K E ex) (defBody st) t ∧ ∀ ws h R, sp ws h R ex → t { nx := fun _ h' => Cl R .non h', rt := Cl R } (startW N.length ws) h) :
    FnD P w K mg base (L2.CX P w) (d + 1) f fd ps (lSp K sp) := by
  obtain ⟨oc, od, kV, doc, pm, an, cdv, ct, osl, rfl, look, code⟩ := F.ex
  refine ⟨fun vs H Q E ⟨ws, h, R, ex, r, _, q, _⟩ => by rw [r.length]; exact len _ _ _ _ q, fun A room outer s H args us vs Q E env0 bind vals ⟨ws, h, R, ex, r, hr, q, kv, el⟩ => ?_⟩
  have size : vs.length = ps.length := by rw [r.length]; exact len _ _ _ _ q
  have inK : K.In s.heap := env0.mod.kin.keeps (fun b o z => (env0.bs b o z).1)
  have noLim : s.heap.NoLimit := env0.mod.nolimit.keeps (fun b o z => (env0.bs b o z).1)
  obtain ⟨t, body, go⟩ := hbody cdv A outer s H E ex (room.down _)
  have kinds : ∀ y ∈ ps.zip us, (defScope st).names.lookup y.1 = some .local ∨ ((defScope st).names.lookup y.1 = some .cell ∧ ((cellsFrom (s.heap.objs.size + 1) (defScope st).names []).lookup y.1).isSome = true) := by
    intro y hy
    cases S.par y.1 (List.of_mem_zip (a := y.1) (b := y.2) hy).1 with
    | inl z => exact .inl z
    | inr z => exact .inr ⟨z, PySem.W.cellsFrom_some _ _ _ (.inl z)⟩
  refine codeAny_call_function (show A.depth < recursionLimit by have := room.frames; omega) (inK _ _ look) rfl S.co S.gen rfl (PySem.W.codeRec_of inK code) (bind _ _ _ _ ?_)
  refine wpAny_newFunctionEnv_cells S.kind kinds ?_
  rintro env rfl s1 inCall
  refine ⟨noLim.keeps inCall.toInCall.keep, codeAny_func ?_⟩
  have start := inv_start (P := P) (w := w) (K := K) (mg := mg) (base := base) (CX := L2.CX P w) (E := E) S room.quiet env0 size vals inCall
  have run := body.run [] s1 (L2.start N vs) H { nx := fun _ H' => Q .non H', rt := Q } start
    ⟨_, h, _, ⟨.start r, hr, el⟩, go ws h R q, ⟨fun _ h' _ H' c st hr _ => kv.cl _ h' _ H' c st hr .non, kv.cl, fun _ _ _ _ c => c.elim, fun _ _ _ _ c => c.elim⟩⟩
  refine wpAny_mono run ?_ (fun _ _ z => z)
  intro fl s2 z
  match fl, z with
  | .ret u, ⟨v, _, H', J, rv, q⟩ => exact ⟨v, H', J.os, J.bare, J.base, J.hok, rv, q⟩
  | .next, ⟨_, H', J, q⟩ => exact ⟨V.non, H', J.os, J.bare, J.base, J.hok, (rfl : RelV V.non Value.none), q⟩
  | .brk, ⟨_, _, _, q⟩ => exact q.elim
  | .cont, ⟨_, _, _, q⟩ => exact q.elim
end
section
variable {X : Cx} {f : Addr} {fd : FuncData} {ps : List Str} {x : Str} {p pos : Pos} {e : Expr} {es : List Expr} {ex : XW → HW → Prop} {E : XK} {d : Nat}
theorem pe_callD {sp : Sp} {t : TA} (F : FnD X.prog X.w X.K X.mg X.base (L2.CX X.prog X.w) d f fd ps sp) (room : RoomD d X.A) (hg : Gl X x) (hm : X.mg x = some (.ref f)) (hk : PySem.W.keepIn X.K (.ref f) = true) (hb : Binds X.K fd ps []) (out : Passes (L2.CX X.prog X.w) X E)
    (ha : PA X (e :: es) t) (hdb : (x == ("__debug__" : Str)) = false) (he : starEach (e :: es) X.env = (false, eval e X.env) :: starEach es X.env) (hpl : (backTo pos (starEach es X.env)).any (·.1) = false) :
    PE X (.Call (.Name x p) (e :: es) [] pos) (tCall sp [] E t) := ⟨fun pins s σ H Q I h => by
  refine wpAny_Call_Name_kw <| ld_glob I hg hm ?_ hdb
  have args := ha.run pos pins s σ H _ I h
  refine PySem.W.callWith_K (h₀ := X.base) I.ok.mod.kin hk (thn args ?_) he hpl
  rintro us s1 ⟨vs, H1, J, vals, q⟩
  have bound := hb s1 us J.kIn (by rw [← F.size _ _ _ _ q, List.append_nil, List.append_nil, vals.length])
  rw [List.append_nil] at q bound
  refine ⟨J.kIn, wpAny_call (codeAny_mono (F.goes X.A room X.stack s1 H1 ⟨us, []⟩ us vs Q E J.env0 bound vals q) ?_)⟩
  intro r s2 z
  match r, z with
  | .error er, z => exact out pins σ H1 s1 er s2 J z
  | .ok (.ret u), z => exact J.after z
  | .ok .next, z => exact False.elim z
  | .ok .brk, z => exact False.elim z
  | .ok .cont, z => exact False.elim z⟩
/-- a call of such a def, within one that lets its exceptions out -/
theorem w_callD {sp : SpW} {t : TAW} (F : FnD X.prog X.w X.K X.mg X.base (L2.CX X.prog X.w) d f fd ps (lSp X.K sp)) (hr : RoomD d X.A) (hg : Gl X x) (hm : X.mg x = some (.ref f)) (hk : PySem.W.keepIn X.K (.ref f) = true) (hb : Binds X.K fd ps [])
    (tk : Takes X (fun cls d _ H => E cls d H))
    (ha : WA X (Lk.of X.K E ex) (e :: es) t) (hdb : (x == ("__debug__" : Str)) = false := by decide) (he : starEach (e :: es) X.env = (false, eval e X.env) :: starEach es X.env := by rfl) (hpl : (backTo pos (starEach es X.env)).any (·.1) = false := by rfl) :
    WE X (Lk.of X.K E ex) (.Call (.Name x p) (e :: es) [] pos) (oCall sp ex t) :=
  (pe_callD F hr hg hm hk hb (passes_call tk fun _ _ _ _ z => z) ha hdb he hpl).imp fun σ H Q ⟨ρ, h, R, S, t, k⟩ => ⟨ρ, h, _, S, t, fun ws h1 vs H1 t1 s1 r1 q1 => by
    show lSp X.K sp (vs ++ []) H1 Q E
    rw [List.append_nil]
    exact ⟨ws, h1, R, ex, q1, r1, t1, k.mono s1, (Lk.of X.K E ex).mono S.el s1⟩⟩
end
end Wl

set_option Elab.async false
set_option linter.all false
set_option maxRecDepth 100000
namespace Wl
open PySem PySem.Spec PyProof.Rows L2
/-! ## sets of texts -/
def hasS (xs : List (List Nat)) : L2.Key → Bool := fun k => xs.any fun s => decide (k = (Sum.inr (mkS s) : L2.Key))
def setO (P : Program) (w : World) (p : Addr) (xs : List (List Nat)) : OW := .raw (SetK P w p (hasS xs) xs.length)
def addS (xs : List (List Nat)) (s : List Nat) : List (List Nat) := if s ∈ xs then xs else xs ++ [s]
theorem key_inj {a b : List Nat} (e : (Sum.inr (mkS a) : L2.Key) = .inr (mkS b)) : a = b := mkS_inj.mp (Sum.inr.inj e)
theorem hasS_str (xs : List (List Nat)) (s : List Nat) : hasS xs (.inr (mkS s)) = decide (s ∈ xs) := by
  unfold hasS
  rw [Bool.eq_iff_iff, List.any_eq_true, decide_eq_true_eq]
  exact ⟨fun ⟨a, h, e⟩ => by rw [key_inj (of_decide_eq_true e)]; exact h, fun h => ⟨s, h, decide_eq_true rfl⟩⟩
theorem hasS_add (xs : List (List Nat)) (s : List Nat) : (fun j => hasS xs j || decide (j = (Sum.inr (mkS s) : L2.Key))) = hasS (addS xs s) := by
  funext j
  unfold addS
  split
  · rename_i h
    by_cases e : j = Sum.inr (mkS s)
    · rw [e, hasS_str, decide_eq_true h]; rfl
    · rw [decide_eq_false e, Bool.or_false]
  · unfold hasS
    rw [List.any_append]; simp
theorem addS_len (xs : List (List Nat)) (s : List Nat) : (addS xs s).length = if hasS xs (.inr (mkS s)) = true then xs.length else xs.length + 1 := by
  unfold addS
  rw [hasS_str]
  by_cases h : s ∈ xs
  · rw [if_pos h, decide_eq_true h, if_pos rfl]
  · rw [if_neg h, decide_eq_false h, if_neg Bool.false_ne_true]; simp
section
variable {X : Cx} {L : Lk} {K : PySem.W.Frag} {H : Hp} {h : HW} {R : KW} {Q : VK} {P : Program} {w : World} {p : Addr} {xs : List (List Nat)} {s : List Nat}
def oSet0 (P : Program) (w : World) : TEW := fun _ h R => ∀ p, h p = none → R (.ref p) (updW h p (setO P w p []))
theorem w_set0 {x : Str} {q pos : Pos} (eP : X.prog = P) (ew : X.w = w) (hg : Gl X x) (hm : X.mg x = none) (hv : bootBuiltins x = some (.type "set")) (hn : x ≠ "__name__" := by decide) (hdb : (x == ("__debug__" : Str)) = false := by decide) :
    WE X L (.Call (.Name x q) [] [] pos) (oSet0 P w) := by
  subst eP ew
  exact (pe_callTy0 cr_set0K hg hm hv hn hdb).imp fun σ H Q ⟨ρ, h, R, S, t, k⟩ =>
  ⟨rfl, fun p hp => k _ _ _ _ (t p (S.hr.fresh hp)) (.newO hp _ _) (S.hr.newO hp (show upd H p _ p = some _ from upd_same)) (.ref p)⟩
def inSW (P : Program) (w : World) (neg : Bool) : RW2 := fun x y h R => match x, y with
  | .str s, .ref p => ∃ xs, h p = some (setO P w p xs) ∧ R (.bl (if neg then !decide (s ∈ xs) else decide (s ∈ xs))) h
  | _, _ => False
theorem lf_inS2 {neg : Bool} : Lf2 K (rSInK P w neg) (inSW P w neg) := fun x y H Q w1 w2 h R r1 r2 hr t k => by
  unfold inSW at t
  split at t
  · obtain ⟨xs, hp, t⟩ := t
    cases r1; cases r2
    refine ⟨.inr (mkS _), _, _, _, rfl, rfl, hr _ _ hp, ?_⟩
    rw [hasS_str]; exact k.go hr t (.bl _)
  · exact t.elim
theorem go_inSet {neg : Bool} (e : h p = some (setO P w p xs)) (k : R (.bl (if neg then !decide (s ∈ xs) else decide (s ∈ xs))) h) : inSW P w neg (.str s) (.ref p) h R := ⟨xs, e, k⟩
theorem go_inSetF (e : h p = some (setO P w p xs)) (k : R (.bl (decide (s ∈ xs))) h) : inSW P w false (.str s) (.ref p) h R := ⟨xs, e, k⟩
theorem go_inSetT (e : h p = some (setO P w p xs)) (k : R (.bl (!decide (s ∈ xs))) h) : inSW P w true (.str s) (.ref p) h R := ⟨xs, e, k⟩
def oSAdd (P : Program) (w : World) (to : TEW) (t : TAW) : TEW := fun ρ h R => to ρ h fun x h1 => match x with
  | .ref p => (∃ xs, h1 p = some (setO P w p xs)) ∧ t ρ h1 fun ws h2 => (match ws with | [.str s] => ∃ xs, h2 p = some (setO P w p xs) ∧ xs.length ≤ 4000 ∧ R .non (updW h2 p (setO P w p (addS xs s))) | _ => False)
  | _ => False
theorem w_sadd {o e : Expr} {es : List Expr} {to : TEW} {t : TAW} {apos cpos : Pos} (eP : X.prog = P) (ew : X.w = w) (ho : WE X L o to) (ha : WA X L (e :: es) t)
    (hbase : attributeBase o "add" X.env (eval o X.env) = eval o X.env := by rfl)
    (hfew : ((backTo cpos (starEach (e :: es) X.env)).all (fun x => !x.1) && (backToKw cpos (keywordEach [] X.env)).all (fun x => x.1.isSome) && decide ((e :: es).length + ([] : List Keyword).length + (if ([] : List Keyword).isEmpty then 0 else 1) < 30)) = true := by rfl)
    (hline : (apos.endLine == cpos.line) = true := by rfl) (hs : starEach (e :: es) X.env = (false, eval e X.env) :: starEach es X.env := by rfl) (hplain : (backTo cpos (starEach es X.env)).any (·.1) = false := by rfl) :
    WE X L (.Call (.Attribute o "add" apos) (e :: es) [] cpos) (oSAdd P w to t) := by
  subst eP ew
  exact (pe_saddK ho ha hbase hfew hline hs hplain).imp fun σ H Q ⟨ρ, h, R, S, t, k⟩ =>
  ⟨ρ, h, _, S, t, fun w1 h1 v1 H1 t1 s1 r1 q1 => by
    split at t1
    · obtain ⟨⟨xs, hp⟩, t1⟩ := t1
      cases q1
      refine ⟨⟨_, _, _, rfl, r1 _ _ hp⟩, ρ, h1, _, S.to s1 r1, t1, fun ws h2 vs H2 t2 s2 r2 q2 => ?_⟩
      split at t2
      · obtain ⟨ys, hp2, l, t2⟩ := t2
        obtain ⟨x, rfl, q⟩ := q2.one
        cases q
        refine ⟨_, .inr (mkS _), _, _, rfl, rfl, r2 _ _ hp2, by have : scanBound = 4096 := rfl; omega, ?_⟩
        rw [hasS_add, ← addS_len]
        exact k _ _ _ _ t2 ((s1.trans s2).trans (.mut hp2 _ _)) (r2.mut hp2 (show upd H2 _ _ _ = some _ from upd_same)) .non
      · exact t2.elim
    · exact t1.elim⟩
theorem go_set0 {ρ : SlW} (k : ∀ p, h p = none → R (.ref p) (updW h p (setO P w p []))) : oSet0 P w ρ h R := k
theorem go_sadd {to : TEW} {t : TAW} {ρ : SlW} (k : to ρ h fun x h1 => match x with
  | .ref p => (∃ xs, h1 p = some (setO P w p xs)) ∧ t ρ h1 fun ws h2 => (match ws with | [.str s] => ∃ xs, h2 p = some (setO P w p xs) ∧ xs.length ≤ 4000 ∧ R .non (updW h2 p (setO P w p (addS xs s))) | _ => False)
  | _ => False) : oSAdd P w to t ρ h R := k
/-- s.add(x) on a set that one knows -/
theorem go_sadd1 {to : TEW} {t : TAW} {ρ : SlW} (k : to ρ h fun x h1 => match x with
  | .ref p => (∃ xs, h1 p = some (setO P w p xs)) ∧ t ρ h1 fun ws h2 => (match ws with | [.str s] => ∃ xs, h2 p = some (setO P w p xs) ∧ xs.length ≤ 4000 ∧ R .non (updW h2 p (setO P w p (addS xs s))) | _ => False)
  | _ => False) : oSAdd P w to t ρ h R := k
/-- a list of a slot that nobody writes any more -/
def sFrz (i : Nat) (u : TSW) : TSW := fun D ρ h => ∃ p ws, sl ρ i = some (.ref p) ∧ h p = some (.lst ws) ∧ u D (ρ.set i (some (.lst ws))) (delW h p)
theorem set_same {α : Type} {l : List α} {i : Nat} {a : α} (e : l[i]? = some a) : l.set i a = l := by
  apply List.ext_getElem?
  intro j
  rw [List.getElem?_set]
  by_cases c : i = j
  · subst c
    rw [if_pos rfl, e, if_pos (List.getElem?_eq_some_iff.mp e).1]
  · rw [if_neg c]
theorem ws_frz {st : Stmt} {i : Nat} {u : TSW} (h1 : WS X L st u) : WS X L st (sFrz i u) := h1.imp fun D σ H ⟨ρ, h, DW, S, ⟨p, ws, e1, e2, t⟩, k⟩ => by
  have sb : Sub (delW h p) h := del_sub
  have st : ST H h H (delW h p) := .drop sb
  obtain ⟨vs, ev, rs⟩ := S.hr _ _ e2
  have new : RW X.K H (delW h p) (.ref p) (.lst ws) := .lst ⟨ev, delW_same⟩ (rs.mono st)
  obtain ⟨v, es, rv⟩ := S.sr.get e1
  cases rv
  have sr := (S.sr.mono st).set new i
  rw [set_same es] at sr
  exact ⟨_, _, DW, ⟨sr, S.hr.drop sb, L.mono S.el st⟩, t, k.mono st⟩
theorem go_frz {i : Nat} {u : TSW} {D : EndsW} {ρ : SlW} {ws : List W} (e1 : sl ρ i = some (.ref p)) (e2 : h p = some (.lst ws)) (k : u D (ρ.set i (some (.lst ws))) (delW h p)) : sFrz i u D ρ h := ⟨p, ws, e1, e2, k⟩
end
end Wl

set_option Elab.async false
set_option linter.all false
set_option maxRecDepth 100000
namespace PySem
open PySem.Calls PyProof.Rows RT
section
variable {prog : Program} {w : World} {A : Around} {E : Value → Shared → Prop} {s : Shared}
/-- list(it), it a fresh reversed(..) of a list at l -/
theorem listOfRev {it l : Addr} {its : Array Value} {Q : Value → Shared → Prop} (calm : A.handled = none) (isIt : s.heap.IsRevIter it l ((its.size : Int) - 1)) (isL : s.heap.IsList l its) (apart : l ≠ it) (small : its.size ≤ sizeLine)
    (done : ∀ (h' : Heap) (tk : Nat) (out : Array Value) (c : Nat), (∀ b o, b ≠ it → s.heap.get? b = some o → h'.get? b = some o) → ItemsOf (fun i v => its[its.size - 1 - i]? = some v) out its.size →
      h'.get? s.heap.objs.size = some { cls := .type "list", dict := none, data := .seq out c, slots := #[] } → Q (.ref s.heap.objs.size) { s with heap := h', toks := tk }) :
    wpAny (model prog w) A (call (.type "list") [.ref it]) Q E s := by
  obtain ⟨oIt, gIt, _⟩ := id isIt
  obtain ⟨oL, gL, _⟩ := id isL
  have n1 : s.heap.objs.size ≠ it := Nat.ne_of_gt (Heap.lt_size gIt)
  have n2 : s.heap.objs.size ≠ l := Nat.ne_of_gt (Heap.lt_size gL)
  have nf : s.heap.objs.size ∉ [it, l] := fun z => by rcases List.mem_cons.mp z with z | z; exact n1 z; exact n2 (List.mem_singleton.mp z)
  generalize eb : s.heap.objs.size = B at *
  refine callType_codes (Q₁ := fun ob t => ob = .ref B ∧ t = { s with heap := s.heap.push { cls := .type "list", data := .seq #[] } }) F.called_list (F.typeCall_list_1 _) F.entry_list_init (code_list_new _ ⟨by rw [eb], rfl⟩) ?_
  rintro _ _ ⟨rfl, rfl⟩
  have g0 : (s.heap.push { cls := .type "list", data := .seq #[] }).get? B = some { cls := .type "list", data := .seq #[] } := by rw [← eb]; exact Heap.get?_push_size _ rfl
  have k0 : ∀ b o, s.heap.get? b = some o → (s.heap.push { cls := .type "list", data := .seq #[] }).get? b = some o := fun b o z => Heap.get?_push_of_some _ z
  refine ⟨⟨_, g0, rfl⟩, F.args_list_init_2 _ _, ?_⟩
  generalize s.heap.push { cls := .type "list", data := .seq #[] } = h0 at g0 k0
  have walk := (Walks.listRev (prog := prog) (w := w) (A := A.in1.in1) calm it l apart its).toS
  show wpAny _ A.in1.in1 (do let old ← Builtin.List.listItems (.ref B); Builtin.List.listUpdate (.ref B) (fun _ => #[]); letGo old.toList.reverse; Builtin.List.listExtendWith (.ref B) (.ref it) .none) _ _ _
  unfold Builtin.List.listItems
  refine wpAny_bind (wpAny_bind (wpAny_seqItems g0 rfl (wpAny_pure ?_)))
  refine wpAny_bind (show wpAny _ A.in1.in1 (updateSeq B (fun _ => #[])) _ _ _ from wpAny_updateSeq g0 rfl ?_)
  have g1 := Heap.get?_update_self (Obj.mapSeq (fun _ => (#[] : Array Value))) g0 rfl
  have k1 : ∀ b o, s.heap.get? b = some o → (h0.update B (Obj.mapSeq (fun _ => (#[] : Array Value)))).get? b = some o := fun b o z => by
    have nb : b ≠ B := fun y => absurd (Heap.lt_size z) (by rw [y, ← eb]; exact Nat.lt_irrefl _)
    exact (Heap.get?_update_other _ _ (Ne.symm nb)).trans (k0 b o z)
  generalize h0.update B (Obj.mapSeq (fun _ => (#[] : Array Value))) = h1 at g1 k1
  have i1 : h1.IsRevIter it l ((its.size : Int) - 1) := isIt.at (k1 it)
  have l1 : h1.IsList l its := by
    obtain ⟨o, ho, r⟩ := id isL
    exact ⟨o, k1 l o ho, r⟩
  have ty : ({ s with heap := h1 } : Shared).TypeIs (.ref it) "list_reverseiterator" := Heap.IsRevIter.typeIs (s := { s with heap := h1 }) i1
  refine wpAny_bind (wpAny_letGo ?_)
  have same : Builtin.List.listSameRef (.ref B) (.ref it) = false := by simp [Builtin.List.listSameRef, n1]
  unfold Builtin.List.listExtendWith
  refine wpAny_bind (wpAny_typeOf ty ?_)
  rw [if_neg (by rw [same]; decide)]
  refine wpAny_bind (wpAny_pyIter_revIter (s := { s with heap := h1 }) i1 ?_)
  refine wpAny_bind (wpAny_holding ?_)
  unfold Builtin.List.listLengthHint
  refine wpAny_bind (wpAny_specialOf ty nolen_lri ?_)
  refine wpAny_bind (show wpAny _ A.in1.in1 (specialOf (Value.ref it) (Str.ofString "__length_hint__")) _ _ _ from wpAny_specialOf ty hint_lri ?_)
  generalize ei : ("list_reverseiterator.__length_hint__" : String) = hint
  wp_delta
  have sp : splitId hint = some ("list_reverseiterator", "__length_hint__") := by subst ei; decide +kernel
  rw [sp]
  subst ei
  have sub : isSubtype (.type "list_reverseiterator") (.type "list_reverseiterator") = pure true := by rw [isSubtype_type]; kernel_rfl
  refine wpAny_bind (wpAny_isInstance (b := true) ty sub (wpAny_pure ?_))
  rw [if_neg (by decide)]
  have e0 : ((its.size : Nat) : Int) - 1 - ((0 : Nat) : Int) = (its.size : Int) - 1 := by omega
  have start : 0 ≤ its.size ∧ h1.IsRevIter it l ((its.size : Int) - 1 - ((0 : Nat) : Int)) ∧ h1.IsList l its := ⟨Nat.zero_le _, by rw [e0]; exact i1, l1⟩
  refine wpAny_pure ⟨plainId_quiet F.plain_extend_loop _, ?_⟩
  refine codeAny_extend_loopS walk small B nf _ its.size 0 _ _ _ rfl (Nat.zero_le _) start g1 (ItemsOf.nil _) ?_
  intro s' out c moved g2 items
  rw [Moved.eq_with moved] at g2 ⊢
  refine ⟨rfl, done s'.heap s'.toks out c (fun b o nb z => ?_) items g2⟩
  refine moved.heap b o (fun mem => ?_) (k1 b o z)
  rcases List.mem_cons.mp mem with y | y
  · exact absurd (Heap.lt_size z) (by rw [y, ← eb]; exact Nat.lt_irrefl _)
  · exact nb (List.mem_singleton.mp y)
end
end PySem
namespace Wl
open PySem PySem.Spec PyProof.Rows L2
section
variable {X : Cx} {L : Lk}
/-- list(reversed(x)), x a list -/
def tLstRev (K : PySem.W.Frag) (te : TE) : TE := fun σ H Q => te σ H fun v H1 => ∃ (a : Addr) (xs : List V), v = .ref a ∧ SqL K H1 a xs ∧ ∀ q, H1 q = none → Q (.ref q) (upd H1 q (.lst xs.reverse))
theorem pe_lstRev {e : Expr} {te : TE} {p p2 pos pos2 : Pos} (hc : X.calm = true) (hg : Gl X "list") (hm : X.mg "list" = none) (hg2 : Gl X "reversed") (hm2 : X.mg "reversed" = none) (he : PE X e te)
    (hs : starEach [e] X.env = (false, eval e X.env) :: starEach [] X.env)
    (hs2 : starEach [.Call (.Name "reversed" p2) [e] [] pos2] X.env = (false, eval (.Call (.Name "reversed" p2) [e] [] pos2) X.env) :: starEach [] X.env) :
    PE X (.Call (.Name "list" p) [.Call (.Name "reversed" p2) [e] [] pos2] [] pos) (tLstRev X.K te) := ⟨fun pins s σ H Q I h => by
  have inner := he.run pins s σ H _ I h
  refine Call_ (ld_blt I hg hm (show bootBuiltins "list" = some (.type "list") by decide +kernel) (callWith_type1 (args_cons (Call_ (ld_blt I hg2 hm2 boot_reversed (callWith_type1 (args_cons (thn inner ?_) hs) hs rfl))) hs2) hs2 rfl))
  rintro u s1 ⟨v, H1, J, rv, a, xs, rfl, sq, q⟩
  obtain rfl : u = Value.ref a := rv
  obtain ⟨its, vals, isL, small⟩ := J.list sq
  refine args_nil (call_reversed_list isL.isList (args_nil ?_))
  obtain ⟨oL, gL, _⟩ := id isL.isList
  have apart : a ≠ s1.heap.objs.size := Nat.ne_of_lt (Heap.lt_size gL)
  refine listOfRev (s := { s1 with heap := s1.heap.push (revObj a ((its.toArray.size : Int) - 1)) }) (J.ok.hd hc) ⟨_, Heap.get?_push_size _ rfl, rfl, rfl⟩ (isL.isList.push _) apart (by rw [List.size_toArray, ← vals.length]; exact small) ?_
  intro h' tk out c kept items new
  have keep : ∀ b o, s1.heap.get? b = some o → h'.get? b = some o := fun b o z => kept b o (fun y => absurd (Heap.lt_size z) (by rw [y]; exact Nat.lt_irrefl _)) (Heap.get?_push_of_some _ z)
  have size : s1.heap.objs.size ≤ (s1.heap.push (revObj a ((its.toArray.size : Int) - 1))).objs.size := by rw [Heap.size_push]; exact Nat.le_succ _
  have isNew : ObjOk X.prog X.w (upd H1 (s1.heap.push (revObj a ((its.toArray.size : Int) - 1))).objs.size (.lst xs.reverse)) h' (s1.heap.push (revObj a ((its.toArray.size : Int) - 1))).objs.size (.lst xs.reverse) :=
    ⟨by rw [List.length_reverse]; exact small, out.toList, c, RT.vals_rev vals items, by rw [Array.toArray_toList]; exact new⟩
  exact ⟨.ref _, _, J.laid (t' := tk) keep size isNew, rfl, q _ (J.hok.fresh size)⟩⟩
def revK (x : W) (h : HW) (P : List W → Prop) : Prop := match x with
  | .lst ws => P ws
  | .scr ws => P ws
  | .ref p => (match h p with | some (.lst ws) => P ws | _ => False)
  | _ => False
def oLstRev (te : TEW) : TEW := fun ρ h R => te ρ h fun x h1 => revK x h1 fun ws => R (.lst ws.reverse) h1
theorem w_lstRev {e : Expr} {te : TEW} {p p2 pos pos2 : Pos} (hc : X.calm = true) (hg : Gl X "list") (hm : X.mg "list" = none) (hg2 : Gl X "reversed") (hm2 : X.mg "reversed" = none) (he : WE X L e te)
    (hs : starEach [e] X.env = (false, eval e X.env) :: starEach [] X.env := by rfl)
    (hs2 : starEach [.Call (.Name "reversed" p2) [e] [] pos2] X.env = (false, eval (.Call (.Name "reversed" p2) [e] [] pos2) X.env) :: starEach [] X.env := by rfl) :
    WE X L (.Call (.Name "list" p) [.Call (.Name "reversed" p2) [e] [] pos2] [] pos) (oLstRev te) := (pe_lstRev hc hg hm hg2 hm2 he hs hs2).imp fun σ H Q ⟨ρ, h, R, S, t, k⟩ =>
  ⟨ρ, h, _, S, t, fun w1 h1 v1 H1 t1 s1 r1 q1 => by
    have k1 := k.mono s1
    unfold revK at t1
    split at t1
    · cases q1 with | lst f q => exact ⟨_, _, rfl, f.sq, fun q e => KV.lst k1 r1 (RWs.reverse (by assumption)) t1 e⟩
    · cases q1 with | scr f q => exact ⟨_, _, rfl, f.sq, fun q e => KV.lst k1 r1 (RWs.reverse (by assumption)) t1 e⟩
    · split at t1
      · rename_i p _ ws hp
        cases q1
        obtain ⟨vs, a, rs⟩ := r1 _ _ hp
        exact ⟨_, _, rfl, SqL.of a, fun q e => KV.lst k1 r1 rs.reverse t1 e⟩
      · exact t1.elim
    · exact t1.elim⟩
theorem go_lstRev {ρ : SlW} {h : HW} {R : KW} {te : TEW} (k : te ρ h fun x h1 => revK x h1 fun ws => R (.lst ws.reverse) h1) : oLstRev te ρ h R := k
theorem go_revLO {p : Addr} {h : HW} {ws : List W} {P : List W → Prop} (e : h p = some (.lst ws)) (k : P ws) : revK (.ref p) h P := by unfold revK; dsimp only; rw [e]; exact k
end
/-! ## texts that are compared -/
section
variable {K : PySem.W.Frag} {h : HW} {R : KW}
def leSW : RW2 := fun x y h R => match x, y with
  | .str a, .str b => R (.bl (!decide (b < a))) h
  | _, _ => False
theorem lf_leS : Lf2 K (fun x y H Q => ∃ i j, x = .str i ∧ y = .str j ∧ Q (.bl (!decide (j.cps.toList < i.cps.toList))) H) leSW := fun x y H Q w1 w2 h R r1 r2 hr t k => by
  unfold leSW at t
  split at t
  · cases r1; cases r2
    exact ⟨_, _, rfl, rfl, by simp only [mkS]; exact k.go hr t (.bl _)⟩
  · exact t.elim
theorem go_leS1 {c d : Nat} (k : R (.bl (decide (c ≤ d))) h) : leSW (.str [c]) (.str [d]) h R := by
  show R (.bl (!decide ([d] < [c]))) h
  have e : (!decide ([d] < [c])) = decide (c ≤ d) := by
    rw [Bool.eq_iff_iff]
    simp [List.cons_lt_cons_iff]
  rw [e]; exact k
end
end Wl

set_option Elab.async false
set_option linter.all false
set_option maxRecDepth 100000
namespace Wl
open PySem PySem.Spec PyProof.Rows L2
/-! ## is None -/
section
variable {K : PySem.W.Frag} {h : HW} {R : KW} {x : W}
def isNon : W → Bool
  | .non => true
  | _ => false
def isNW : RW2 := fun x y h R => match y with | .non => R (.bl (isNon x)) h | _ => False
def notNW : RW2 := fun x y h R => match y with | .non => R (.bl (!isNon x)) h | _ => False
theorem isNon_of {H : Hp} {v : V} (r : RW K H h v x) : decide (v = V.non) = isNon x := by cases r <;> rfl
theorem lf_isN : Lf2 K (fun x y H Q => y = .non ∧ Q (.bl (decide (x = .non))) H) isNW := fun x y H Q w1 w2 h R r1 r2 hr t k => by
  unfold isNW at t
  split at t
  · cases r2; exact ⟨rfl, by rw [isNon_of r1]; exact k.go hr t (.bl _)⟩
  · exact t.elim
theorem lf_notN : Lf2 K (fun x y H Q => y = .non ∧ Q (.bl (!decide (x = .non))) H) notNW := fun x y H Q w1 w2 h R r1 r2 hr t k => by
  unfold notNW at t
  split at t
  · cases r2; exact ⟨rfl, by rw [isNon_of r1]; exact k.go hr t (.bl _)⟩
  · exact t.elim
theorem go_isN {b : Bool} (e : isNon x = b) (k : R (.bl b) h) : isNW x .non h R := by unfold isNW; dsimp only; rw [e]; exact k
theorem go_notN {b : Bool} (e : isNon x = b) (k : R (.bl (!b)) h) : notNW x .non h R := by unfold notNW; dsimp only; rw [e]; exact k
theorem go_isNN (k : R (.bl true) h) : isNW .non .non h R := k
theorem go_isNT {ws : List W} (k : R (.bl false) h) : isNW (.tup ws) .non h R := k
theorem go_notNN (k : R (.bl false) h) : notNW .non .non h R := k
theorem go_notNT {ws : List W} (k : R (.bl true) h) : notNW (.tup ws) .non h R := k
end
/-! ## == of deep data -/
section
variable {X : Cx} {K : PySem.W.Frag} {h : HW} {R : KW} {n : Nat}
def rEqL (K : PySem.W.Frag) (n : Nat) : R2 := fun x y H Q => ∃ d e, (Dp K H x d ∧ d.canLay0 = true ∧ d.depth ≤ n) ∧ (Dp K H y e ∧ e.canLay0 = true) ∧ Q (.bl (PyData.eqv d e)) H
theorem ow_eqL (hu : X.A.units + n < cLine) : OpR X (compareOp .Eq) (rEqL X.K n) := by
  refine fun pins s σ H x y v u Q J r1 r2 ⟨d, e, ⟨hd, ld, dd⟩, ⟨he, le⟩, q⟩ => ?_
  obtain ⟨as, a1⟩ := Dp.reads J d x v hd r1
  obtain ⟨bs, b1⟩ := Dp.reads J e y u he r2
  exact SeqAt.compareEq_reads a1 b1 ld le (by omega) ⟨.bl _, H, J, rfl, q⟩
def eqLW (n : Nat) : RW2 := fun x y h R => (dataW (rsv x h) = true ∧ depW (rsv x h) ≤ n) ∧ dataW (rsv y h) = true ∧ R (.bl (eqD (rsv x h) (rsv y h))) h
theorem lf_eqL : Lf2 K (rEqL K n) (eqLW n) := fun x y H Q w1 w2 h R r1 r2 hr ⟨⟨a, b⟩, c, t⟩ k =>
  ⟨_, _, ⟨dpr_of hr r1 a, lay_of _ a, Nat.le_trans (dep_of _) b⟩, ⟨dpr_of hr r2 c, lay_of _ c⟩, k.go hr t (.bl _)⟩
theorem go_eqL {x y : W} (a : dataW x = true) (b : dataW y = true) (c : depW x ≤ n) (k : R (.bl (eqD x y)) h) : eqLW n x y h R := by
  unfold eqLW
  rw [rsv_of a, rsv_of b]
  exact ⟨⟨a, c⟩, b, k⟩
theorem room_far {k : Nat} {A : Around} (r : Room k A) (h : 213 ≤ k) : A.units + 3600 < cLine := by have := r.un; omega
end
/-! ## tuple(x) -/
section
variable {K : PySem.W.Frag} {h : HW} {R : KW} {xs : List W}
def tupleW : List W → HW → KW → Prop := fun ws h R => match ws with
  | [.tup xs] => R (.tup xs) h
  | [.lst xs] => R (.tup xs) h
  | [.ref p] => (match h p with | some (.lst xs) => R (.tup xs) h | _ => False)
  | _ => False
theorem lf_tuple : LfC K (fun xs H Q => ∃ p ys, xs = [.ref p] ∧ ((SqL K H p ys ∧ ∀ l, H l = none → Q (.ref l) (upd H l (.tup ys))) ∨ (SqT K H p ys ∧ Q (.ref p) H))) tupleW := fun xs H Q ws h R r hr t k => by
  unfold tupleW at t
  split at t
  · obtain ⟨x, rfl, q⟩ := r.one
    cases q with
    | tup f q => exact ⟨_, _, rfl, .inr ⟨f.sq, k.go hr t (.tup f q)⟩⟩
  · obtain ⟨x, rfl, q⟩ := r.one
    cases q with
    | lst f q => exact ⟨_, _, rfl, .inl ⟨f.sq, fun p hp => k.tup hr q t hp⟩⟩
  · split at t
    · rename_i hp
      obtain ⟨x, rfl, q⟩ := r.one
      cases q
      obtain ⟨vs, hv, q⟩ := hr _ _ hp
      exact ⟨_, _, rfl, .inl ⟨SqL.of hv, fun p hp => k.tup hr q t hp⟩⟩
    · exact t.elim
  · exact t.elim
theorem go_tupleT (k : R (.tup xs) h) : tupleW [.tup xs] h R := k
theorem go_tupleL (k : R (.tup xs) h) : tupleW [.lst xs] h R := k
theorem go_tupleO {p : Addr} (hp : h p = some (.lst xs)) (k : R (.tup xs) h) : tupleW [.ref p] h R := by unfold tupleW; dsimp only; rw [hp]; exact k
end
/-! ## where ways meet -/
section
variable {D : EndsW} {ρ : SlW} {h : HW} {s u A B : TSW}
theorem go_seqM (M : SlW → HW → Prop) (fin : ∀ ρ' h', M ρ' h' → u D ρ' h') (main : ∀ N : SlW → HW → Prop, (∀ ρ' h', M ρ' h' → N ρ' h') → s (D.wn N) ρ h) : sSeq s u D ρ h := main (u D) fin
theorem go_meet {N : SlW → HW → Prop} {b : Bool} (M : SlW → HW → Prop) (fin : ∀ ρ' h', M ρ' h' → N ρ' h') (main : ∀ N' : SlW → HW → Prop, (∀ ρ' h', M ρ' h' → N' ρ' h') → if b = true then A (D.wn N') ρ h else B (D.wn N') ρ h) :
    if b = true then A (D.wn N) ρ h else B (D.wn N) ρ h := main N fin
/-- a test of several parts, whatever its way -/
theorem go_ifB {tA : TTW} {b0 : Bool} (test : ∀ RB : Bool → HW → Prop, RB b0 h → tA ρ h RB) (kt : b0 = true → A D ρ h) (kf : b0 = false → B D ρ h) : sIf tA A B D ρ h := test _ (by
  cases b0 with
  | true => exact iteT (kt rfl)
  | false => exact iteF (kf rfl))
end
end Wl

set_option Elab.async false
set_option linter.all false
set_option maxRecDepth 100000
set_option maxHeartbeats 1000000
namespace Wl
open PySem PySem.Spec PyProof.Rows L2
/-! ## an own exception whose __init__ is: super().__init__(name); self.name = name -/
def supBody (p0 p1 p2 p3 p4 p5 q1 q2 q3 q4 : Pos) : List Stmt :=
  [.Expr (.Call (.Attribute (.Call (.Name "super" p0) [] [] p1) "__init__" p2) [.Name "name" p3] [] p4) p5, .Assign [.Attribute (.Name "self" q1) "name" q2] (.Name "name" q3) q4]
def supScope : Scope := { kind := .function, names := [(Str.ofString "self", .local), (Str.ofString "name", .local), (Str.ofString "__class__", .free), (Str.ofString "super", .globalImplicit)], isGenerator := false, isCoroutine := false, more := [] }
def supArgs (r1 r2 : Pos) : Arguments := { posonlyargs := [], args := [{ arg := "self", annotation := none, pos := r1 }, { arg := "name", annotation := none, pos := r2 }], vararg := none, kwonlyargs := [], kw_defaults := [], kwarg := none, defaults := [] }
/-- what the written part says of such a class, at C, and of its __init__, at f -/
structure SupC (P : Program) (K : PySem.W.Frag) (C f : Addr) : Prop where
  fn : ∃ (oc od osl : _) (qual : Str) (r1 r2 p0 p1 p2 p3 p4 p5 q1 q2 q3 q4 : Pos) (kV doc pm ct : Value) (an : Option Addr) (cda cc : Addr),
    K.lookup f = some ⟨oc, od, .func (PySem.W.ksFn "__init__" qual (supArgs r1 r2) (supBody p0 p1 p2 p3 p4 p5 q1 q2 q3 q4) supScope .none kV doc pm an (.ref cda) ct cc), osl⟩ ∧ PySem.W.codeIn K (.ref cda) qual = true ∧ (p2.endLine == p4.line) = true ∧
    (∃ ccl cdd vs ccs file tf, K.lookup cda = some ⟨ccl, cdd, .fields vs, ccs⟩ ∧ vs[2]? = some (.str file tf) ∧ ((P.main.file : Str) == file) = true) ∧ ∃ cl cld csl, K.lookup cc = some ⟨cl, cld, .cell (some (.ref C)), csl⟩
  top : (P.main.scope.names.lookup ("super" : Str)).isSome = false
  glob : PySem.W.nsIn K mainGlobals "super" = some none
  oex : OexC K C
  init : PySem.W.findIn K (.ref C) "__init__" = some (some (.ref f))
  tyf : PySem.W.typeIn K (.ref f) = some (.type "function")
  sup : PySem.W.ks_superIn K C C "__init__" = some (some (.builtin "ValueError.__init__"))
  sub : PySem.W.subIn K (.ref C) (.type "ValueError") = some true
  mro : PySem.W.mroIn K C (.ref C) = some true
  stat : PySem.W.nsIn K PySem.cStatics "thirdparty.any" = some none
  no : PySem.W.findIn K (.ref C) "name" = some none
def spXI (C : Addr) : Sp := fun vs H Q E => ∃ (a : Addr) (s : List Nat), vs = [.ref a, .str (mkS s)] ∧ H a = some (exo a C none) ∧ ∀ d, H d = none → d ≠ a → Q .non (upd (upd H d (exd d [(Str.ofString "name", .str (mkS s))])) a (exo a C (some d)))
/-- the words of the call, where both its parts stand on one row -/
theorem sup_words {o : Expr} {m x : Str} {p p2 p4 : Pos} {env : Env} (hl : (p2.endLine == p4.line) = true) : eval (.Call (.Attribute o m p2) [.Name x p] [] p4) env = (do
    let ov ← attributeBase o m env (eval o env)
    standAt p2.atName
    let (f, first) ← holding [ov] (getMethod ov m (do return (← importBound o env).getD true))
    callWith p4 f first (backTo p4 (starEach [.Name x p] env)) []) := by
  have e : methodCallPos true o env p2 p4 = pure p4 := by unfold methodCallPos; rw [hl]; rfl
  rw [arm_eval_Call]
  congr 1
  funext ov
  congr 1
  funext _
  unfold methodCall
  rw [show methodCallForm ([Expr.Name x p].length + ([] : List Keyword).length) (backTo p4 (starEach [.Name x p] env)) (backToKw p4 (keywordEach [] env)) = true from rfl, e]
  rfl
theorem sup_scope : NdefX.NScope [Str.ofString "self", "name", "__class__"] [Str.ofString "self", "name"] [Str.ofString "__class__"] supScope := NdefX.nscope_by (by decide +kernel)
section
variable {M : Model} {A : Around} {E : Value → Shared → Prop} {h : Heap} {g : Array GenState} {d : Drawn} {t : Nat} {os : OsState}
/-- ValueError.__init__ bound to an exception, called -/
theorem call_mw {prog : Program} {w : World} {u x C t0 : Addr} {rest : List Value} {Q : Value → Shared → Prop} {nm q : Str} {N : Addr} {bs bm : List Value} {hdct : Bool} {sn : List Str} {sub : List Value} {ab : Bool} {col : Option Bool} {dd : Option Addr} {k0 k1 k2 k3 k5 : Option Value}
    (hC : h.get? C = some (excClassObj nm q C N bs bm hdct sn sub ab col dd k0 k1 k2 k3 k5 "ValueError.__new__")) (hx : h.get? x = some (PySem.HandSPX.excO C t0)) (hu : h.get? u = some (PySem.W.kxs_mw "ValueError.__init__" x)) (hz : rest.length ≤ sizeLine)
    (k : ∀ h' t1, (∀ b o, b ≠ x → h.get? b = some o → h'.get? b = some o) → h'.get? x = some (PySem.HandSPX.excO C t1) → Q .none ⟨h', g, d, t, os⟩) :
    wpAny (model prog w) A (call (.ref u) rest) Q E ⟨h, g, d, t, os⟩ := by
  refine wpAny_call (codeAny_of_tree ?_)
  show wpAny _ A.in1 (callAny (.ref u) ⟨rest, []⟩) _ _ _
  simp only [callAny]
  refine wpAny_bind (wpAny_load hu ?_)
  simp only [PySem.W.kxs_mw, show (Value.type "method-wrapper" == Value.type "method" || Value.type "method-wrapper" == Value.type "builtin_function_or_method" || Value.type "method-wrapper" == Value.type "method-wrapper") = true by decide, if_true]
  refine PySem.W.KFB.if_so (by decide) (wpAny_bind (PySem.W.check_bound_init F.excBase_ValueError.toExcCallFacts hC hx rfl (wpAny_bind (wpAny_pure (wpAny_pure ?_)))))
  refine ⟨plainId_quiet F.excBase_ValueError.init.plain _, codeAny_builtin F.excBase_ValueError.initEntry ?_⟩
  exact PySem.W.exc_init_tree (cls := .ref C) (t0 := t0) (dv := none) (c2 := .none) (c3 := .none) (b4 := .bool false) hx hz fun h' a b _ => k h' _ a b
end
section
variable {P : Program} {w : World} {K : PySem.W.Frag} {mg : Str → Option Value} {base : Heap} {C f : Addr}
theorem sup_ok (S : SupC P K C f) (hmg : mg "super" = none) : ∃ fd : FuncData, Binds K fd [Str.ofString "self", "name"] [] ∧ FnOk P w K mg base CX0 3 f fd [Str.ofString "self", "name"] (fun vs H Q E => spXI C vs H Q E) := by
  obtain ⟨oc, od, osl, qual, r1, r2, p0, p1, p2, p3, p4, p5, q1, q2, q3, q4, kV, doc, pm, ct, an, cda, cc, look, code, hline, ⟨ccl, cdd, cvs, ccs, file, tf, lcode, hfile, hP⟩, cl, cld, csl, lcell⟩ := S.fn
  refine ⟨PySem.W.ksFn "__init__" qual (supArgs r1 r2) (supBody p0 p1 p2 p3 p4 p5 q1 q2 q3 q4) supScope .none kV doc pm an (.ref cda) ct cc, .all fun us hl => ?_, ⟨fun vs H Q E ⟨a, s, e, _⟩ => by rw [e]; rfl, fun A outer s H args us vs Q E room e0 bind vals ⟨a, sx, ev, ha, k⟩ => ?_⟩⟩
  · match us, hl with
    | [x, y], _ => rfl
  subst ev
  obtain ⟨nm, q, N, bs, bm, sn, sub, ab, col, dd, k0, k1, k2, k3, k5, hC, hbm⟩ := S.oex.cls
  have hcl : PySem.W.clsIn K C = some { name := nm, bases := bs, mro := .ref C :: bm, ns := N, qualname := q, hasDict := true, slotNames := sn, subclasses := sub, abstract := ab, collection := col, hasDel := false } := by unfold PySem.W.clsIn; rw [hC] <;> rfl
  have inK : K.In s.heap := e0.mod.kin.keeps fun b o z => (e0.bs b o z).1
  have noLim : s.heap.NoLimit := e0.mod.nolimit.keeps fun b o z => (e0.bs b o z).1
  cases vals with
  | @cons _ u0 _ ur ra rw1 =>
  obtain rfl : u0 = Value.ref a := ra
  cases rw1 with
  | @cons _ u1 _ ur2 ra1 rw2 =>
  cases rw2
  obtain ⟨tk1, rfl⟩ := ra1
  let FN : NdefX.NF := ⟨"__init__", qual, supArgs r1 r2, supBody p0 p1 p2 p3 p4 p5 q1 q2 q3 q4, supScope, [(Str.ofString "__class__", cc)], cda⟩
  refine ks_codeAny_call_defAt (body := supBody p0 p1 p2 p3 p4 p5 q1 q2 q3 q4) room.depth (inK _ _ look) rfl noLim (PySem.W.codeRec_of inK code) rfl bind (by show ∀ x ∈ supScope.names, x.2 ≠ .cell; decide) (fun x hx => ?_) (fun h₀ hns kp => ?_)
  · rcases List.mem_cons.mp hx with rfl | hx
    · rfl
    rcases List.mem_cons.mp hx with rfl | hx
    · rfl
    · exact absurd hx (by simp)
  have cellB := e0.bs _ _ (e0.mod.kin _ _ lcell)
  have lk : ∀ y c, FN.cl.lookup y = some c → y = Str.ofString "__class__" ∧ c = cc := fun y c z => by
    have z : List.lookup y [(Str.ofString "__class__", cc)] = some c := z
    rw [List.lookup_cons] at z
    split at z
    · rename_i q; exact ⟨by simpa using q, (Option.some.inj z).symm⟩
    · cases z
  have cells : NdefX.CellsAt FN.cl [Str.ofString "__class__"] [some (.ref C)] s.heap H :=
    { len := rfl
      all := fun y c z => by
        obtain ⟨_, rfl⟩ := lk y c z
        exact ⟨cellB.2, _, _, cellB.1, rfl⟩
      inj := fun x y c z1 z2 => by rw [(lk x c z1).1, (lk y c z2).1]
      has := fun i y z => by
        match i, z with
        | 0, z =>
          cases z
          exact ⟨cc, by show List.lookup _ [(Str.ofString "__class__", cc)] = _; rw [List.lookup_cons, beq_self_eq_true], fun v e => by cases e; exact ⟨.ref C, rfl, _, cellB.1, rfl⟩⟩
        | i + 1, z => simp at z }
  have vals2 : Vals [V.ref a, .str (mkS sx)] [.ref a, .str (mkS sx) tk1] := .cons rfl (.cons ⟨tk1, rfl⟩ .nil)
  have I := NdefX.inv_startN (CX := CX0) (E := E) (f := f) (N := [Str.ofString "self", "name", "__class__"]) (F := FN) (tk := s.toks + 2) sup_scope room.hd e0 rfl vals2 cells hns kp
  have hns2 := hns
  obtain ⟨hp, g, d, t, os⟩ := s
  show PySem.wpAt (model P w) (A.deeper (NdefX.envF FN f hp.objs.size)) (.func FN.body (NdefX.envF FN f hp.objs.size)) (execs (supBody p0 p1 p2 p3 p4 p5 q1 q2 q3 q4) (NdefX.envF FN f hp.objs.size)) _ _ _
  refine ks_wpAt_execs_cons (ks_wpAt_Expr_any (ks_wpAt_MethodCall ?_ (sup_words hline)))
  have kin := I.kIn
  refine ks_wpAt_super_base (env := NdefX.envF FN f hp.objs.size) rfl rfl rfl rfl (kin _ _ look) rfl rfl rfl (kin _ _ lcode) rfl hfile hP S.top ?_
  obtain ⟨mb, b1, b2⟩ := I.mod.blt
  refine PySem.W.ks_loadName_global rfl rfl (Calls.loadGlobal_builtin (I.mod.glob.keeps I.bk) hmg (b1.keeps I.bk) ((b2 _ (by decide)).trans (show bootBuiltins "super" = some (.type "super") by decide +kernel)) ⟨rfl, ?_⟩)
  refine wpAny_loadName_free rfl rfl rfl ⟨_, kin _ _ lcell, rfl⟩ ?_
  refine wpAny_loadName_local rfl rfl hns2 rfl ?_
  obtain ⟨t0, hx⟩ := exo_at I.hok ha
  refine ks_wpAny_isType_cls (kin _ _ hC) rfl ⟨rfl, ?_⟩
  refine ks_wpAny_call_super (kin _ _ hC) rfl hx rfl (fun c e => nomatch e) (PySem.W.looks_mroIn kin S.mro) (fun h2 hso k2 => ?_)
  have I2 := I.kept (t' := t + 2) k2
  have kin2 := I2.kIn
  have hx2 := k2 _ _ hx
  have ia : PySem.W.InstAt h2 a { cls := .ref C, dict := none, data := .fields #[.ref t0, .none, .none, .none, .bool false, .none] } C none := ⟨hx2, rfl, rfl, trivial⟩
  refine PySem.W.kxs_getMethod PySem.W.kxs_ValueError hso (PySem.W.looks_opaque kin2 S.stat) (l₀ := .ref C :: bm) (fun A Q E s k q => wpAny_bind ((PySem.W.looks_clsIn kin2 hcl) A _ E s k (wpAny_pure q))) rfl kin2 (by
    have := S.sup
    unfold PySem.W.ks_superIn at this
    rw [hcl] at this
    exact this) (ia.type.andThen (PySem.W.looks_subIn kin2 S.sub)) (PySem.W.ks_ne kin2 ia hcl) rfl ?_
  have e1 : (h2.push (PySem.W.kxs_mw "ValueError.__init__" a)).get? h2.objs.size = some (PySem.W.kxs_mw "ValueError.__init__" a) := Heap.get?_push_size _ rfl
  have I3 := I2.kept (t' := t + 2 + 1) (h' := h2.push (PySem.W.kxs_mw "ValueError.__init__" a)) fun b o z => Heap.get?_push_of_some _ z
  have nu : H h2.objs.size = none := I2.hok.fresh (Nat.le_refl _)
  have I4 := I3.pins_of (pins' := [(h2.objs.size, PySem.W.kxs_mw "ValueError.__init__" a)]) fun p hp => by
    rw [List.mem_singleton] at hp
    subst hp
    exact ⟨e1, nu, Nat.ne_of_gt I2.lt, I2.nofs (Nat.le_refl _), fun v e => nomatch e⟩
  refine PySem.W.kxs_callWith (i := "ValueError.__init__") (x := a) rfl (Calls.evalArgs_plain ?_)
  have va : Vis supScope "name" := .inl rfl
  have vs : Vis supScope "self" := .inl rfl
  have pn : PE (NdefX.ncx CX0 P w K mg base [Str.ofString "self", "name", "__class__"] FN f A outer ⟨hp, g, d, t, os⟩ H E) (.Name "name" p3) (tVar 1) := pe_var rfl va
  have pa := pa_cons pn pa_nil
  refine thn (pa.run p4 _ _ _ H (fun vs H' => vs = [.str (mkS sx)] ∧ H' = H) I4 ⟨_, rfl, rfl, rfl⟩) fun us s5 ⟨vs, H5, I5, r5, ev5, eH⟩ => ?_
  subst ev5
  rw [eH] at I5
  obtain ⟨g1, _⟩ := I5.pin _ (List.mem_append_right _ List.mem_cons_self)
  refine ⟨g1, ?_⟩
  obtain ⟨t5, hx5⟩ := exo_at I5.hok ha
  have kin5 := I5.kIn
  have l5 : us.length ≤ sizeLine := by rw [← Paired.length r5, sizeLine_eq]; exact (by decide : 1 ≤ 16777216)
  obtain ⟨h5, g5, d5, tk5, os5⟩ := s5
  refine call_mw (kin5 _ _ hC) hx5 g1 l5 fun h6 t6 k6 hx6 => ?_
  have I6 := (I5.pins_of (pins' := []) (fun p hp => nomatch hp)).write (t' := tk5) (x := a) (e := a) (o := exo a C none) (by rw [ha]; exact True.intro) (.inl rfl) k6 ⟨_, hx6⟩ (exo_ok hx6)
  have eu : upd H a (exo a C none) = H := by
    funext b
    by_cases hb : b = a
    · rw [hb, upd_same, ha]
    · rw [upd_ne hb]
  rw [eu] at I6
  refine wpAt_of_wpAny ?_
  have pst := pss_one (ps_ost (f := "name") (p' := q2) (pos := q4) (pe_var (X := NdefX.ncx CX0 P w K mg base [Str.ofString "self", "name", "__class__"] FN f A outer ⟨hp, g, d, t, os⟩ H E) (i := 0) (pos := q1) rfl vs) (pe_var (i := 1) (pos := q3) rfl va))
  refine wpAny_mono (pst.run [] _ _ H { nx := fun _ H' => Q .non H', rt := Q } I6 ⟨_, rfl, _, rfl, a, C, rfl, S.oex, S.no, .inl ⟨ha, fun dx n ne => k dx n ne⟩⟩) (fun fl s' hs => ?_) fun e s' hs => hs
  cases fl with
  | ret u =>
    obtain ⟨v, σ', H', J, rv, q⟩ := hs
    exact ⟨v, H', J.os, J.bare, J.base, J.hok, rv, q⟩
  | next =>
    obtain ⟨σ', H', J, q⟩ := hs
    exact ⟨V.non, H', J.os, J.bare, J.base, J.hok, rfl, q⟩
  | brk =>
    obtain ⟨_, _, _, q⟩ := hs
    exact False.elim q
  | cont =>
    obtain ⟨_, _, _, q⟩ := hs
    exact False.elim q
end
theorem sup_mk {P : Program} {K : PySem.W.Frag} {C f : Addr} {st : Stmt} {qual : Str} {oc : Value} {od : Option Addr} {osl : Array (Option Value)} {kV doc pm ct : Value} {an : Option Addr} {cda cc : Addr} {ccl : Value} {cdd : Option Addr} {vs : Array Value} {ccs : Array (Option Value)} {file : Str} {tf : Tok} {cl : Value} {cld : Option Addr} {csl : Array (Option Value)}
    (sh : ∃ r1 r2 p0 p1 p2 p3 p4 p5 q1 q2 q3 q4 : Pos, defArgs st = supArgs r1 r2 ∧ defBody st = supBody p0 p1 p2 p3 p4 p5 q1 q2 q3 q4 ∧ defScope st = supScope ∧ (p2.endLine == p4.line) = true)
    (xlf : K.lookup f = some ⟨oc, od, .func (PySem.W.ksFn "__init__" qual (defArgs st) (defBody st) (defScope st) .none kV doc pm an (.ref cda) ct cc), osl⟩) (xco : PySem.W.codeIn K (.ref cda) qual = true) (xlk : K.lookup cda = some ⟨ccl, cdd, .fields vs, ccs⟩) (xvf : vs[2]? = some (.str file tf)) (xpf : ((P.main.file : Str) == file) = true)
    (xll : K.lookup cc = some ⟨cl, cld, .cell (some (.ref C)), csl⟩) (xtp : (P.main.scope.names.lookup ("super" : Str)).isSome = false) (xgl : PySem.W.nsIn K mainGlobals "super" = some none) (ox : OexC K C) (xin : PySem.W.findIn K (.ref C) "__init__" = some (some (.ref f))) (xty : PySem.W.typeIn K (.ref f) = some (.type "function"))
    (xsu : PySem.W.ks_superIn K C C "__init__" = some (some (.builtin "ValueError.__init__"))) (xsb : PySem.W.subIn K (.ref C) (.type "ValueError") = some true) (xmr : PySem.W.mroIn K C (.ref C) = some true) (xst : PySem.W.nsIn K PySem.cStatics "thirdparty.any" = some none) (xno : PySem.W.findIn K (.ref C) "name" = some none) : SupC P K C f := by
  obtain ⟨r1, r2, p0, p1, p2, p3, p4, p5, q1, q2, q3, q4, e1, e2, e3, e4⟩ := sh
  rw [e1, e2, e3] at xlf
  exact ⟨⟨_, _, _, _, r1, r2, p0, p1, p2, p3, p4, p5, q1, q2, q3, q4, _, _, _, _, _, _, _, xlf, xco, e4, ⟨_, _, _, _, _, _, xlk, xvf, xpf⟩, _, _, _, xll⟩, xtp, xgl, ox, xin, xty, xsu, xsb, xmr, xst, xno⟩
/-! ## raise C(name) -/
section
variable {X : Cx} {C f : Addr} {x : Str} {p pos pos2 : Pos} {e : Expr} {te : TEW} {E : XK} {ex : XW → HW → Prop}
/-- what such an exception brings -/
def nameX (C : Addr) (s : List Nat) : XW := ⟨C, some [(Str.ofString "name", .str s)]⟩
def raiseNK (C : Addr) (ex : XW → HW → Prop) (w : W) (h1 : HW) : Prop := match w with | .str s => ex (nameX C s) h1 | _ => False
def sRaiseN (C : Addr) (ex : XW → HW → Prop) (te : TEW) : TSW := fun D ρ h => te ρ h fun w h1 => raiseNK C ex w h1
theorem go_raiseN {C : Addr} {ex : XW → HW → Prop} {te : TEW} {D : EndsW} {ρ : SlW} {h : HW} (k : te ρ h fun w h1 => raiseNK C ex w h1) : sRaiseN C ex te D ρ h := k
theorem go_raiseNK {C : Addr} {ex : XW → HW → Prop} {s : List Nat} {h : HW} (k : ex (nameX C s) h) : raiseNK C ex (.str s) h := k
theorem ws_raiseN (hc : X.calm = true) (tk : Takes X (fun cls d _ H => E cls d H)) (S : SupC X.prog X.K C f) (hsu : X.mg "super" = none) (hr : Room 4 X.A) (hg : Gl X x) (gC : X.mg x = some (.ref C)) (he : WE X (Lk.of X.K E ex) e te)
    (hs : starEach [e] X.env = (false, eval e X.env) :: starEach [] X.env := by rfl) (hdb : (x == ("__debug__" : Str)) = false := by decide) : WS X (Lk.of X.K E ex) (.Raise (some (.Call (.Name x p) [e] [] pos)) none pos2) (sRaiseN C ex te) := by
  obtain ⟨fd, hb, F⟩ := sup_ok (P := X.prog) (w := X.w) (base := X.base) S hsu
  refine (ps_raise hc tk (pmk_oex (ds := []) (dvs := []) (CX := CX0) S.oex S.init S.tyf F hr hb .nil pass0 hg gC (wa_cons he wa_nil hs) hdb hs rfl)).imp fun D σ H ⟨ρ, h, DW, S1, t, k⟩ => ?_
  refine ⟨ρ, h, fun ws h1 => ∃ s, ws = [.str s] ∧ ex (nameX C s) h1, S1, ?_, fun ws h1 vs H1 ⟨s, ew, t1⟩ s1 r1 q1 => ?_⟩
  · show te ρ h fun w1 h1 => _
    have t : te ρ h fun w h1 => match w with | .str s => ex (nameX C s) h1 | _ => False := t
    have e : (fun (w : W) (h1 : HW) => match w with | .str s => ex (nameX C s) h1 | _ => False) = fun w h1 => ∃ s, [w] = [.str s] ∧ ex (nameX C s) h1 := by
      funext w h1
      apply propext
      constructor
      · intro z
        split at z
        · exact ⟨_, rfl, z⟩
        · exact z.elim
      · rintro ⟨s, e, z⟩
        cases e
        exact z
    rw [e] at t
    exact t
  · subst ew
    obtain ⟨v, rfl, q⟩ := q1.one
    cases q
    refine ⟨Nat.le_of_ble_eq_true rfl, fun a na => ⟨a, s, rfl, upd_same, fun d nd dne => ⟨rfl, d, _, upd_same, by rw [upd_ne dne, upd_same], by rw [upd_ne dne] at nd; exact nd, ?_⟩⟩⟩
    rw [upd_ne dne] at nd
    have hd1 : h1 d = none := r1.fresh nd
    have same : ∀ b u, H1 b = some u → upd (del (upd (upd (upd H1 a (exo a C none)) d (exd d [(Str.ofString "name", .str (mkS s))])) a (exo a C (some d))) a) d (.xd [(Str.ofString "name", .str (mkS s))]) b = some u := fun b u z => by
      have b1 : b ≠ a := ne_of_none z na
      have b2 : b ≠ d := ne_of_none z nd
      rw [upd_ne b2, del_ne b1, upd_ne b1, upd_ne b2, upd_ne b1]; exact z
    have st : ST H1 h1 (upd (del (upd (upd (upd H1 a (exo a C none)) d (exd d [(Str.ofString "name", .str (mkS s))])) a (exo a C (some d))) a) d (.xd [(Str.ofString "name", .str (mkS s))])) h1 := fun b u z n => ⟨same b u z, n⟩
    have hr2 : HR X.K (upd (del (upd (upd (upd H1 a (exo a C none)) d (exd d [(Str.ofString "name", .str (mkS s))])) a (exo a C (some d))) a) d (.xd [(Str.ofString "name", .str (mkS s))])) h1 := fun b o z => HR.move st (r1 b o z) fun u y => same b u y
    exact S1.el (nameX C s) h1 (some d) _ t1 (s1.trans st) hr2 ⟨d, _, rfl, upd_same, hd1, .cons (.str s) .nil⟩
end
/-! ## except suites that ask what the exception brings -/
section
variable {X : Cx} {K : PySem.W.Frag}
def rIsX (K : PySem.W.Frag) (D a : Addr) (d : Option Addr) : List V → Hp → VK → Prop := fun xs H Q => (∀ dd, d = some dd → ∃ gs, H dd = some (.xd gs)) ∧ ∃ (c : V) (cv : Value) (b : Bool), xs = [.ref a, c] ∧ (∀ u, L2.RelV c u → u = cv) ∧ PySem.W.kitOne K (.ref D) cv = some b ∧ Q (.bl b) H
theorem call_isX {a D : Addr} {d : Option Addr} {oe : Obj} {pn : List (Addr × Obj)} (T : ExcC X.K D) (hz : Zc (.ref D) d oe) (hf : ∃ vs, oe.data = .fields vs) : CallR (X.suite a ((a, oe) :: pn)) (.builtin "isinstance") (rIsX X.K D a d) := by
  refine fun pins s σ H xs us Q I r ⟨hd, c, cv, b, e0, hcv, e, q⟩ => ?_
  subst e0
  cases r with
  | cons rx rr =>
  cases rr with
  | cons rt rr =>
  cases rr
  cases rx
  obtain rfl := hcv _ rt
  obtain ⟨hget, _⟩ := I.pin (a, oe) (List.mem_append.mpr (.inl List.mem_cons_self))
  obtain ⟨vs, hv⟩ := hf
  obtain ⟨od, J⟩ : ∃ od, PySem.W.InstAt s.heap a oe D od := by
    obtain ⟨oc, odc, oda, osl⟩ := oe
    obtain ⟨h1, h2⟩ := hz
    dsimp only at h1 h2 hv
    subst h1 h2 hv
    cases odc with
    | none => exact ⟨none, hget, rfl, rfl, trivial⟩
    | some dd =>
      obtain ⟨gs, hx⟩ := hd dd rfl
      obtain ⟨mA, ⟨o, es, ep, ho, _⟩, _⟩ := I.hok dd _ hx
      exact ⟨some o, hget, rfl, rfl, ho⟩
  have hcl : (PySem.W.clsIn X.K D).isSome = true := by
    have := T.hd
    unfold PySem.W.hasDictIn at this
    cases z : PySem.W.clsIn X.K D with
    | none => rw [z] at this; cases this
    | some cd => rfl
  exact PySem.W.kia_one (PySem.W.kitx_exc (od := od) hcl T.hg T.hk T.hs T.ha T.hn T.ht T.hm) I.kIn J e (fun z => nomatch z) fun tk => ⟨.bl b, H, I.kept (t' := tk) fun _ _ z => z, rfl, q⟩
theorem w_isX {x : XW} {od : Option Addr} {a : Addr} {oe : Obj} {pn : List (Addr × Obj)} {fx : Str} {p pos : Pos} {e : Expr} {es : List Expr} {t : TAW} (T : ExcC X.K x.C) (hz : Zc (.ref x.C) od oe) (hf : ∃ vs, oe.data = .fields vs)
    (hg : Gl (X.suite a ((a, oe) :: pn)) fx) (hm : (X.suite a ((a, oe) :: pn)).mg fx = none) (hv : bootBuiltins fx = some (.builtin "isinstance")) (ha : WA (X.suite a ((a, oe) :: pn)) (Lk.x X.K x od) (e :: es) t)
    (hn : fx ≠ "__name__" := by decide) (hdb : (fx == ("__debug__" : Str)) = false := by decide)
    (he : starEach (e :: es) (X.suite a ((a, oe) :: pn)).env = (false, eval e (X.suite a ((a, oe) :: pn)).env) :: starEach es (X.suite a ((a, oe) :: pn)).env := by rfl) (hpl : (backTo pos (starEach es (X.suite a ((a, oe) :: pn)).env)).any (·.1) = false := by rfl) :
    WE (X.suite a ((a, oe) :: pn)) (Lk.x X.K x od) (.Call (.Name fx p) (e :: es) [] pos) (oCB (isEW X.K x.C a) t) :=
  (pe_callB (call_isX T hz hf) hg hm hv ha hn hdb he hpl).imp fun σ H Q ⟨ρ, h, R, S, t, k⟩ => ⟨ρ, h, _, S, t, fun ws h1 vs H1 ⟨C, b, e0, e2, t1⟩ s1 r1 q1 => by
    subst e0
    obtain ⟨y1, y2, rfl, r3, r4⟩ := q1.two
    cases r3; cases r4
    have xr : XR X.K H1 h1 x od := XR.mono S.el s1
    refine ⟨fun dd ed => ?_, .ref C, .ref C, b, rfl, fun u z => z, e2, k _ h1 _ H1 t1 s1 r1 (.bl b)⟩
    unfold XR at xr
    split at xr
    · rw [xr] at ed; cases ed
    · obtain ⟨d, gs, e5, e6, _⟩ := xr
      rw [e5] at ed; cases ed
      exact ⟨gs, e6⟩⟩
/-- e.f -/
def oXf (K : PySem.W.Frag) (x : XW) (a : Addr) (f : Str) (te : TEW) : TEW := fun ρ h R => PySem.W.findIn K (.ref x.C) f = some none ∧ te ρ h fun y h1 => y = .ref a ∧ ∃ fs w, x.fs = some fs ∧ fs.lookup f = some w ∧ R w h1
theorem RFs.find {H : Hp} {h : HW} {f : Str} {w : W} : ∀ {gs : List (Str × V)} {fs : List (Str × W)}, RFs K H h gs fs → fs.lookup f = some w → ∃ v, gs.lookup f = some v ∧ RW K H h v w
  | _, _, .nil, e => by cases e
  | _, _, @RFs.cons _ _ _ g v u gs fs r t, e => by
    rw [List.lookup_cons] at e ⊢
    split at e
    · cases e; exact ⟨v, rfl, r⟩
    · exact RFs.find t e
theorem w_xf {x : XW} {od : Option Addr} {a : Addr} {oe : Obj} {pn : List (Addr × Obj)} {e : Expr} {te : TEW} {pos : Pos} {n : Str} (T : ExcC X.K x.C) (hz : Zc (.ref x.C) od oe) (hf : ∃ vs, oe.data = .fields vs)
    (he : WE (X.suite a ((a, oe) :: pn)) (Lk.x X.K x od) e te) (hb : attributeBase e n X.env (eval e X.env) = eval e X.env := by rfl) : WE (X.suite a ((a, oe) :: pn)) (Lk.x X.K x od) (.Attribute e n pos) (oXf X.K x a n te) :=
  ⟨fun pins s σ H Q I ⟨ρ, h, R, S, ⟨hno, t⟩, k⟩ => (pe_xf ⟨T.hg, T.hk, T.hs, T.hd⟩ hno hz hf he hb).run pins s σ H Q I ⟨ρ, h, _, S, t, fun w1 h1 v1 H1 ⟨e1, fs, w, e3, e4, t1⟩ s1 r1 q1 => by
    subst e1
    cases q1
    have xr : XR X.K H1 h1 x od := XR.mono S.el s1
    unfold XR at xr
    rw [e3] at xr
    obtain ⟨d, gs, e5, e6, e7, q⟩ := xr
    obtain ⟨v, e8, r⟩ := RFs.find q e4
    exact ⟨rfl, rfl, d, gs, v, e5, e6, e8, k _ h1 _ H1 t1 s1 r1 r⟩⟩⟩
theorem go_xf {x : XW} {a : Addr} {f : Str} {te : TEW} {ρ : SlW} {h : HW} {R : KW} (no : PySem.W.findIn K (.ref x.C) f = some none) (k : te ρ h fun y h1 => y = .ref a ∧ ∃ fs w, x.fs = some fs ∧ fs.lookup f = some w ∧ R w h1) : oXf K x a f te ρ h R := ⟨no, k⟩
/-- try: x = f(..) / f(..) except S as n: suite, the suite knowing what the exception brings -/
def sTryX (K : PySem.W.Frag) (S : Addr) (sp : SpW) (t : TAW) (j : Option Nat) (i : Nat) (tsu : XW → Addr → TSW) : TSW := fun D ρ h => t ρ h fun ws h1 => sp ws h1 (fun w h2 => D.nx (match j with | some j => ρ.set j (some w) | none => ρ) h2)
  fun x h2 => ExcC K x.C ∧ PySem.W.exmOne K (.ref x.C) (.ref S) = some true ∧ ∀ a, tsu x a (D.sx i) (ρ.set i (some (.ref a))) h2
variable {x n fx : Str} {S f : Addr} {i k : Nat} {b₀ : Stmt} {suite : List Stmt} {np pos pos' epos p cpos : Pos} {fd : FuncData} {ps : List Str} {sp : SpW} {e : Expr} {es : List Expr} {t : TAW} {tsu : XW → Addr → TSW}
theorem tryX_el {σ : L2.St} {H : Hp} {D : Ends} {ρ : SlW} {h : HW} {DW : EndsW} (S1 : Sta K Lk.no σ H ρ h) (kd : KD K H h DW D) {h1 : HW} {H1 : Hp} (s1 : ST H h H1 h1) :
    (Lk.of K (L2.WE (wAs K (.ref S) i (fun a cls d => fun D σ H => ∃ x : XW, cls = .ref x.C ∧ ExcC K x.C ∧ lS K (Lk.x K x d) (tsu x a) D σ H) (fun _ _ _ _ => False) D) σ)
      fun x h2 => ExcC K x.C ∧ PySem.W.exmOne K (.ref x.C) (.ref S) = some true ∧ ∀ a, tsu x a (DW.sx i) (ρ.set i (some (.ref a))) h2).el H1 h1 := by
  intro x h2 od H2 ⟨ec, e1, e2⟩ s2 r2 xr
  refine ⟨true, e1, fun _ a ha => ⟨x, rfl, ec, ρ.set i (some (.ref a)), h2, DW.sx i, ⟨(S1.sr.mono (s1.trans s2)).set (.ref a) i, r2, xr⟩, e2 a, ?_⟩, fun z => nomatch z⟩
  have st := s1.trans s2
  exact ⟨fun ρ' h' σ' H' q s r sr => kd.nx _ h' _ H' q (st.trans s) r (sr.setN i), kd.rt.mono st, fun ρ' h' σ' H' q s r sr => kd.bk _ h' _ H' q (st.trans s) r (sr.setN i), fun ρ' h' σ' H' q s r sr => kd.ct _ h' _ H' q (st.trans s) r (sr.setN i)⟩
theorem ws_tryDX (hs : X.stack = X.env :: X.outer) (hf : X.env.frame = some X.env.locals) (hN : X.N.Nodup) (hi : X.N[i]? = some n) (hln : X.env.kindOf n = some .local) (hc : Names X x (.ref S))
    (F : FnOk X.prog X.w X.K X.mg X.base (L2.CX X.prog X.w) k f fd ps (lSp X.K sp)) (hr : Room k X.A) (hg : Gl X fx) (hm : X.mg fx = some (.ref f)) (hk : PySem.W.keepIn X.K (.ref f) = true) (hb : Binds X.K fd ps [])
    (ha : ∀ pn xe, WA (X.tr pn xe) Lk.no (e :: es) t)
    (hsu : ∀ (x : XW) (od : Option Addr) (a : Addr) (oe : Obj) (pn : List (Addr × Obj)), ExcC X.K x.C → Zc (.ref x.C) od oe → (∃ vs, oe.data = .fields vs) → WSs (X.suite a ((a, oe) :: pn)) (Lk.x X.K x od) (b₀ :: suite) (tsu x a))
    (hdb : (fx == ("__debug__" : Str)) = false := by decide) (he : starEach (e :: es) X.env = (false, eval e X.env) :: starEach es X.env := by rfl) (hpl : (backTo cpos (starEach es X.env)).any (·.1) = false := by rfl)
    (hsw : swapsWith (.Call (.Name fx p) (e :: es) [] cpos) none epos.line X.env = pure false := by rfl) :
    WS X Lk.no (.Try [.Expr (.Call (.Name fx p) (e :: es) [] cpos) epos] [.ExceptHandler (some (.Name x np)) (some n) (b₀ :: suite) pos'] [] [] pos) (sTryX X.K S sp t none i tsu) :=
  (ps_try_as (tb := fun W => tDrop (tCallS (lSp X.K sp) (L2.WE W) (lA X.K Lk.no t))) (ts := fun a cls d => fun D σ H => ∃ x : XW, cls = .ref x.C ∧ ExcC X.K x.C ∧ lS X.K (Lk.x X.K x d) (tsu x a) D σ H) (Wout := fun _ _ _ _ => False) hs hf hN hi hln hc
    (fun _ _ z => by obtain ⟨_, _, _, _, _, _, _, _, _, _, _, _, _, _, _, _, z⟩ := z; exact z.elim)
    (fun W pn xe tk _ => pss_one (ps_expr (pe_callS (X := X.tr pn xe) F hr hg hm hk hb (fun σ => passAt tk σ) (ha pn xe) hdb he hpl) hsw))
    (fun a oe cls d pn hz hf => ⟨fun pins s σ H D I ⟨x, ec, ex, q⟩ => by subst ec; exact (hsu x d a oe pn ex hz hf).run pins s σ H D I q⟩)).imp fun D σ H ⟨ρ, h, DW, S1, t1, kd⟩ =>
    ⟨ρ, h, _, S1, t1, fun ws h1 vs H1 q s1 r1 rws => ⟨ws, h1, _, _, rws, r1, q, fun w h2 v H2 r st hr rw => kd.nx _ h2 _ H2 r (s1.trans st) hr (S1.sr.mono (s1.trans st)), tryX_el S1 kd s1⟩⟩
theorem ws_tryAX {j : Nat} {y : Str} {yp : Pos} (hs : X.stack = X.env :: X.outer) (hf : X.env.frame = some X.env.locals) (hN : X.N.Nodup) (hi : X.N[i]? = some n) (hln : X.env.kindOf n = some .local) (hc : Names X x (.ref S))
    (hj : X.N[j]? = some y) (hy : X.env.scope.names.lookup y = some .local)
    (F : FnOk X.prog X.w X.K X.mg X.base (L2.CX X.prog X.w) k f fd ps (lSp X.K sp)) (hr : Room k X.A) (hg : Gl X fx) (hm : X.mg fx = some (.ref f)) (hk : PySem.W.keepIn X.K (.ref f) = true) (hb : Binds X.K fd ps [])
    (ha : ∀ pn xe, WA (X.tr pn xe) Lk.no (e :: es) t)
    (hsu : ∀ (x : XW) (od : Option Addr) (a : Addr) (oe : Obj) (pn : List (Addr × Obj)), ExcC X.K x.C → Zc (.ref x.C) od oe → (∃ vs, oe.data = .fields vs) → WSs (X.suite a ((a, oe) :: pn)) (Lk.x X.K x od) (b₀ :: suite) (tsu x a))
    (hdb : (fx == ("__debug__" : Str)) = false := by decide) (he : starEach (e :: es) X.env = (false, eval e X.env) :: starEach es X.env := by rfl) (hpl : (backTo cpos (starEach es X.env)).any (·.1) = false := by rfl)
    (hsw : swapsWith (.Call (.Name fx p) (e :: es) [] cpos) (some (.Name y yp)) epos.line X.env = pure false := by rfl) :
    WS X Lk.no (.Try [.Assign [.Name y yp] (.Call (.Name fx p) (e :: es) [] cpos) epos] [.ExceptHandler (some (.Name x np)) (some n) (b₀ :: suite) pos'] [] [] pos) (sTryX X.K S sp t (some j) i tsu) :=
  (ps_try_as (tb := fun W => tAsg (tCallS (lSp X.K sp) (L2.WE W) (lA X.K Lk.no t)) (gName j)) (ts := fun a cls d => fun D σ H => ∃ x : XW, cls = .ref x.C ∧ ExcC X.K x.C ∧ lS X.K (Lk.x X.K x d) (tsu x a) D σ H) (Wout := fun _ _ _ _ => False) hs hf hN hi hln hc
    (fun _ _ z => by obtain ⟨_, _, _, _, _, _, _, _, _, _, _, _, _, _, _, _, z⟩ := z; exact z.elim)
    (fun W pn xe tk _ => pss_one (ps_set (X := X.tr pn xe) hN hj (.inl hy) (pe_callS (X := X.tr pn xe) F hr hg hm hk hb (fun σ => passAt tk σ) (ha pn xe) hdb he hpl) hsw (.inr hy)))
    (fun a oe cls d pn hz hf => ⟨fun pins s σ H D I ⟨x, ec, ex, q⟩ => by subst ec; exact (hsu x d a oe pn ex hz hf).run pins s σ H D I q⟩)).imp fun D σ H ⟨ρ, h, DW, S1, t1, kd⟩ =>
    ⟨ρ, h, _, S1, t1, fun ws h1 vs H1 q s1 r1 rws => ⟨ws, h1, _, _, rws, r1, q, fun w h2 v H2 r st hr rw => kd.nx _ h2 _ H2 r (s1.trans st) hr ((S1.sr.mono (s1.trans st)).set rw j), tryX_el S1 kd s1⟩⟩
theorem go_tryX0 {D : EndsW} {ρ : SlW} {h : HW} (k : t ρ h fun ws h1 => sp ws h1 (fun w h2 => D.nx ρ h2) fun x h2 => ExcC K x.C ∧ PySem.W.exmOne K (.ref x.C) (.ref S) = some true ∧ ∀ a, tsu x a (D.sx i) (ρ.set i (some (.ref a))) h2) : sTryX K S sp t none i tsu D ρ h := k
theorem go_tryX1 {D : EndsW} {ρ : SlW} {h : HW} {j : Nat} (k : t ρ h fun ws h1 => sp ws h1 (fun w h2 => D.nx (ρ.set j (some w)) h2) fun x h2 => ExcC K x.C ∧ PySem.W.exmOne K (.ref x.C) (.ref S) = some true ∧ ∀ a, tsu x a (D.sx i) (ρ.set i (some (.ref a))) h2) : sTryX K S sp t (some j) i tsu D ρ h := k
end
end Wl

set_option Elab.async false
set_option linter.all false
set_option maxRecDepth 100000
namespace Wl
open PySem PySem.Spec PyProof.Rows L2
/-! ## xs[i] = v -/
section
variable {X : Cx} {L : Lk} {o i : Expr} {to ti : TEW} {pos : Pos}
def lixK (w : W) (o i : W) (h : HW) (P : HW → Prop) : Prop := match o, i with
  | .ref p, .int k => (match h p with
    | some (.lst ws) => (match ixN ws.length k with | some j => P (updW h p (.lst (ws.set j w))) | none => False)
    | _ => False)
  | _, _ => False
def gLix (to ti : TEW) : TGW := fun w ρ h P => to ρ h fun o h1 => ti ρ h1 fun i h2 => lixK w o i h2 (P ρ)
theorem wg_lix (ho : WE X L o to) (hi : WE X L i ti) (ha : ∀ v, assign (.Subscript o i pos) X.env v = (do
      let ov ← holding [v] (eval o X.env)
      let iv ← holding [v, ov] (eval i X.env)
      standAt pos
      holding [v, ov, iv] (setItem ov iv v)
      release [v, ov, iv] []) := by intro _; rfl) : WG X L (.Subscript o i pos) (gLix to ti) := (pg_sub ho hi set_list ha).imp fun v σ H Q ⟨w, ρ, h, P, r, S, t, k⟩ =>
  ⟨ρ, h, _, S, t, fun w1 h1 v1 H1 t1 s1 r1 q1 => ⟨ρ, h1, _, S.to s1 r1, t1, fun w2 h2 v2 H2 t2 s2 r2 q2 => by
    unfold lixK at t2
    split at t2
    · rename_i p kk
      split at t2
      · rename_i ws hp
        split at t2
        · rename_i jj ej
          cases q1; cases q2
          obtain ⟨vs, hv, q⟩ := r2 _ _ hp
          have st : ST H2 h2 (upd H2 p (.lst (vs.set jj v))) (updW h2 p (.lst (ws.set jj w))) := .mut hp _ _
          have tot := (s1.trans s2).trans st
          refine ⟨_, vs, _, _, rfl, rfl, hv, by rw [q.length]; exact ej, k _ _ _ _ t2 tot (r2.mut hp ⟨_, upd_same, ?_⟩) (S.sr.mono tot)⟩
          exact RWs.set (r.mono tot) _ (q.mono st)
        · exact t2.elim
      · exact t2.elim
    · exact t2.elim⟩⟩
theorem go_lix {w : W} {ρ : SlW} {h : HW} {P : SlW → HW → Prop} (k : to ρ h fun o h1 => ti ρ h1 fun i h2 => lixK w o i h2 (P ρ)) : gLix to ti w ρ h P := k
theorem go_lixK {w : W} {p : Addr} {k : Int} {h : HW} {P : HW → Prop} {ws : List W} {j : Nat} (e : h p = some (.lst ws)) (ej : ixN ws.length k = some j) (q : P (updW h p (.lst (ws.set j w)))) : lixK w (.ref p) (.int k) h P := by
  unfold lixK; dsimp only; rw [e]; dsimp only; rw [ej]; exact q
end
/-! ## text.index(part), the part being there -/
section
variable {K : PySem.W.Frag} {h : HW} {R : KW} {a b : List Nat}
theorem subAt_mk (a b : List Nat) (i : Nat) : Builtin.Str.subAt (mkS a) (mkS b) i = true ↔ b <+: a.drop i := by
  unfold Builtin.Str.subAt
  rw [beq_iff_eq, mkS_length]
  have e : (mkS a).cps.extract i (i + b.length) = ((a.drop i).take b.length).toArray := by
    apply Array.toList_inj.mp
    simp [mkS]
  rw [e]
  constructor
  · intro z
    have z : (a.drop i).take b.length = b := by
      have := congrArg Array.toList z
      simpa [mkS] using this
    have y := List.take_append_drop b.length (a.drop i)
    rw [z] at y
    exact ⟨_, y⟩
  · rintro ⟨u, hu⟩
    rw [← hu, List.take_left]; rfl
def indexW : W → List W → HW → KW → Prop := fun x ws h R => match x, ws with
  | .str a, [.str b] => ∃ pre post, a = pre ++ (b ++ post) ∧ (∀ k, k < pre.length → ¬ b <+: a.drop k) ∧ R (.int (pre.length : Nat)) h
  | _, _ => False
theorem lf_index : LfM K (fun x xs H Q => ∃ a b i rest, x = .str a ∧ xs = [.str b] ∧ Builtin.Str.occurrences a b 0 a.length 1 = i :: rest ∧ Q (.int (i : Nat)) H) indexW := fun x xs H Q w ws h R r rs hr t k => by
  unfold indexW at t
  split at t
  · rename_i a b
    obtain ⟨pre, post, e, no, t⟩ := t
    cases r
    obtain ⟨y, rfl, ry⟩ := rs.one
    cases ry
    have at0 : PySem.StrLaws.At (mkS a) (mkS b) (mkS a).length pre.length := by
      refine ⟨by rw [mkS_length, mkS_length, e]; simp, (subAt_mk _ _ _).mpr ?_⟩
      rw [e, List.drop_left]
      exact ⟨post, rfl⟩
    rcases PySem.StrLaws.occ_head (mkS a) (mkS b) 1 (Nat.le_refl _) with ⟨_, n⟩ | ⟨i, rest, e1, e2, e3⟩
    · exact absurd at0 (n _)
    · have ei : i = pre.length := by
        rcases Nat.lt_trichotomy i pre.length with z | z | z
        · exact absurd ((subAt_mk _ _ _).mp e2.2) (no i z)
        · exact z
        · exact absurd at0 (e3 _ z)
      subst ei
      exact ⟨_, _, _, rest, rfl, rfl, e1, k.go hr t (.int _)⟩
  · exact t.elim
theorem go_index (pre post : List Nat) (e : a = pre ++ (b ++ post)) (no : ∀ k, k < pre.length → ¬ b <+: a.drop k) (k : R (.int (pre.length : Nat)) h) : indexW (.str a) [.str b] h R := ⟨pre, post, e, no, k⟩
/-- of a sign that does not occur ahead -/
theorem go_index1 {c : Nat} (pre post : List Nat) (e : a = pre ++ c :: post) (no : c ∉ pre) (k : R (.int (pre.length : Nat)) h) : indexW (.str a) [.str [c]] h R := by
  refine ⟨pre, post, e, fun i hi z => ?_, k⟩
  obtain ⟨u, hu⟩ := z
  have e0 : pre.drop i = pre[i] :: pre.drop (i + 1) := List.drop_eq_getElem_cons hi
  rw [e, List.drop_append_of_le_length (by omega), e0] at hu
  have : c = pre[i] := (List.cons.inj hu).1
  exact no (by rw [this]; exact List.getElem_mem hi)
theorem go_eqR {p : Addr} {x : W} {ys : List W} (hp : h p = some (.lst ys)) (e1 : dataW x = true) (e2 : dataW (.lst ys) = true) (c : depW x ≤ 64) (d : depW (.lst ys) ≤ 64) (k : R (.bl (eqD x (.lst ys))) h) : eqW x (.ref p) h R := by
  have ey : rsv (.ref p) h = .lst ys := by unfold rsv; dsimp only; rw [hp]
  unfold eqW
  split
  · rename_i u v; cases v
  · rename_i u v; cases v
  · rw [ey, rsv_of e1]; exact ⟨e1, e2, c, d, k⟩
end
end Wl

set_option Elab.async false
set_option linter.all false
set_option maxRecDepth 100000
namespace Wl
open PySem PySem.Spec PyProof.Rows L2
/-! ## del xs[a:] -/
section
variable {prog : Program} {w : World} {A : Around} {E : Value → Shared → Prop} {s : Shared}
theorem bounds_from {a n : Nat} (ha : a ≤ n) : sliceBounds (some (a : Int)) none none n = ((a : Int), (n : Int), 1) := by
  simp only [sliceBounds, Option.getD_none]
  have h1 : ¬ ((a : Int) < 0) := by omega
  simp only [h1, if_false, show (1 : Int) > 0 by decide, if_true]
  congr 1
  omega
theorem filter_from (f : Value × Nat → Option Value) (a N : Nat) (hf : ∀ x k, k < N → f (x, k) = if a ≤ k then none else some x) : ∀ (l : List Value) (i : Nat), i + l.length ≤ N → (l.zipIdx i).filterMap f = l.take (a - i)
  | [], i, _ => by simp
  | x :: l, i, hl => by
    have hl : i + (l.length + 1) ≤ N := hl
    rw [List.zipIdx_cons, List.filterMap_cons, hf _ _ (by omega)]
    have ih := filter_from f a N hf l (i + 1) (by omega)
    by_cases c : a ≤ i
    · rw [if_pos c, show a - i = 0 by omega]
      dsimp only
      rw [ih, show a - (i + 1) = 0 by omega]; rfl
    · rw [if_neg c, show a - i = (a - (i + 1)) + 1 by omega]
      dsimp only
      rw [ih]; rfl
theorem del_fin {f : Value × Nat → Option Value} {y : List Value} {l : Addr} {items : Array Value} {n a : Nat} {Q : Unit → Shared → Prop} (e : s.heap.get? l = some { cls := .type "list", data := .seq items n }) (hsz : items.size ≤ sizeLine)
    (hf : ∀ x k, k < items.size → f (x, k) = if a ≤ k then none else some x)
    (h : ∀ f : Array Value → Array Value, f items = (items.toList.take a).toArray → Q () { s with heap := s.heap.update l (Obj.mapSeq f) }) :
    wpAny (model prog w) A (Builtin.List.listUpdate (.ref l) (fun xs => (List.filterMap f xs.toList.zipIdx).toArray) >>= fun _ => letGo y >>= fun _ => PySem.ret .none) (fun fin s' => ∃ v, fin = Fin.done (Flow.ret v) ∧ Q () s') E s := by
  have key : List.filterMap f items.toList.zipIdx = items.toList.take a := filter_from f a items.size hf items.toList 0 (by simp)
  show wpAny _ _ (updateSeq l (fun xs => (List.filterMap f xs.toList.zipIdx).toArray) >>= _) _ _ s
  refine wpAny_bind (wpAny_updateSeq (hz := hsz) (_hz' := by rw [key]; simp; omega) e rfl ?_)
  refine wpAny_bind (wpAny_letGo ?_)
  exact wpAny_pure ⟨.none, rfl, h _ (by rw [key])⟩
theorem delItem_from {l sl : Addr} {items : Array Value} {n : Nat} {vl : Value} {a : Nat} {Q : Unit → Shared → Prop} (e : s.heap.get? l = some { cls := .type "list", data := .seq items n })
    (hs : s.heap.IsSliceOf sl vl .none .none) (pl : IsPart vl (some (a : Int))) (ha : a ≤ items.size) (hsz : items.size ≤ sizeLine)
    (h : ∀ f : Array Value → Array Value, f items = (items.toList.take a).toArray → Q () { s with heap := s.heap.update l (Obj.mapSeq f) }) :
    wpAny (model prog w) A (delItem (.ref l) (.ref sl)) Q E s := by
  have hl : s.heap.IsList l items := PySem.IsL.isList e
  obtain ⟨os, hos, hcs, hds⟩ := id hs
  have hTs : s.TypeIs (.ref sl) "slice" := ⟨os, hos, hcs⟩
  have hstep : ¬ ((rawPart none == rawInt 0) = true) := Bool.false_ne_true
  refine wpAny_delItem_slot hl.typeIs (by decide) PySem.F.slot_list_delitem (wpAny_call_entry PySem.F.slot_list_delitem hl.typeIs PySem.F.entry_list_delitem ?_ (PySem.F.args_list_delitem_2 _ _))
  show wpAny _ _ (Builtin.List.listSubscript? (.ref sl) >>= _) _ _ s
  refine wpAny_bind ?_
  unfold Builtin.List.listSubscript?
  refine wpAny_bind (wpAny_specialOf hTs slice_no_index ?_)
  simp only [Option.isNone_none, if_true]
  refine wpAny_pure ?_
  show wpAny _ _ (typeOf (.ref sl) >>= _) _ _ s
  refine wpAny_bind (wpAny_typeOf hTs ?_)
  rw [if_neg (by decide)]
  rw [listSliceParts_eq]
  refine wpAny_bind (wpAny_bind (wpAny_field hos hds (x := .none) rfl (wpAny_bind (wpAny_listPart .none ?_))))
  rw [if_neg hstep]
  refine wpAny_bind (wpAny_field hos hds (x := vl) rfl (wpAny_bind (wpAny_listPart pl ?_)))
  refine wpAny_bind (wpAny_field hos hds (x := .none) rfl (wpAny_bind (wpAny_listPart .none (wpAny_pure ?_))))
  unfold Builtin.List.listItems
  refine wpAny_bind (wpAny_bind (wpAny_seqItems e rfl (wpAny_pure ?_)))
  refine wpAny_bind (wpAny_of_eq ((sliceIndices_raw (some (a : Int)) none none items.size (by simp)).trans (congrArg (pure : Int × Int × Int → Sem (Int × Int × Int)) (bounds_from ha))) ?_)
  refine wpAny_bind (wpAny_rule ?_)
  refine del_fin e hsz (fun x k hk => ?_) h
  show (if (if (1 : Int) > 0 then decide ((a : Int) ≤ k) && decide ((k : Int) < items.size) && (((k : Int) - a) % 1 == 0) else decide ((items.size : Int) < k) && decide ((k : Int) ≤ a) && (((a : Int) - k) % (-1) == 0)) = true then none else some x) = if a ≤ k then none else some x
  rw [if_pos (by decide : (1 : Int) > 0), Int.emod_one]
  by_cases c : a ≤ k
  · rw [if_pos c, decide_eq_true (by omega), decide_eq_true (by omega)]; rfl
  · rw [if_neg c, decide_eq_false (by omega)]; rfl
end
section
variable {X : Cx} {L : Lk} {o i : Expr} {to ti : TE} {pos p2 tpos : Pos}
def tDelF (to ti : TE) : TS := fun D σ H => to σ H fun x H1 => ti σ H1 fun y H2 => ∃ (l : Addr) (xs : List V) (k : Nat), x = .ref l ∧ y = .int (k : Nat) ∧ H2 l = some (.lst xs) ∧ k ≤ xs.length ∧ D.nx σ (upd H2 l (.lst (xs.take k)))
theorem ps_delF (ho : PE X o to) (hi : PE X i ti) : PS X (.Delete [.Subscript o (.Slice (some i) none none p2) tpos] pos) (tDelF to ti) := by
  refine ⟨fun pins s σ H D I h => ?_⟩
  refine wpAny_Delete (wpAny_deleteEach_cons (wpAny_delete_Subscript (thn (ho.run pins s σ H _ I h) fun u s1 ⟨x, H1, I1, rx, q1⟩ => ?_)))
  refine wpAny_Slice ?_
  rw [evalPart_some]
  refine thn (hi.run pins s1 σ H1 _ I1 q1) fun vl s2 ⟨y, H2, I2, ry, q2⟩ => ?_
  rw [evalPart_none]
  refine wpAny_pure (wpAny_pure ?_)
  obtain ⟨l, xs, k, ex, ey, hH, hk, q2⟩ := q2
  subst ex
  subst ey
  cases (show u = Value.ref l from rx)
  obtain ⟨t, rfl⟩ := (show ∃ t, vl = Value.int k t from ry)
  have I4 : Inv X pins σ H2 { s2 with heap := s2.heap.push { cls := .type "slice", data := .fields #[.int k t, .none, .none] } } := I2.kept (t' := s2.toks) fun b ob q => Heap.get?_push_of_some _ q
  obtain ⟨z, its, n, r, hl, e⟩ := I4.lstM hH
  refine delItem_from (a := k) e (Heap.IsSliceOf.new ..) (.int _ _) (by rw [List.size_toArray]; omega) (by rw [List.size_toArray]; omega) fun f hf => ?_
  refine wpAny_deleteEach_nil ⟨σ, _, I4.lset (its' := its.take k) (t' := s2.toks) hH e ?_ (r.take k) ?_, q2⟩
  · rw [hf]
  · rw [List.length_take]; omega
/-- del xs[a:] -/
def delFK (x y : W) (h : HW) (P : HW → Prop) : Prop := match x, y with
  | .ref p, .int i => (match h p with | some (.lst ws) => 0 ≤ i ∧ i ≤ ws.length ∧ P (updW h p (.lst (ws.take i.toNat))) | _ => False)
  | _, _ => False
def sDelF (to ti : TEW) : TSW := fun D ρ h => to ρ h fun x h1 => ti ρ h1 fun y h2 => delFK x y h2 (D.nx ρ)
theorem ws_delF {to ti : TEW} (ho : WE X L o to) (hi : WE X L i ti) : WS X L (.Delete [.Subscript o (.Slice (some i) none none p2) tpos] pos) (sDelF to ti) := (ps_delF ho hi).imp fun D σ H ⟨ρ, h, DW, S, t, k⟩ =>
  ⟨ρ, h, _, S, t, fun w1 h1 v1 H1 t1 s1 r1 q1 => ⟨ρ, h1, _, S.to s1 r1, t1, fun w2 h2 v2 H2 t2 s2 r2 q2 => by
    unfold delFK at t2
    split at t2
    · rename_i p j
      split at t2
      · rename_i ws hp
        obtain ⟨h0, hj, t2⟩ := t2
        have q1 := q1.mono s2
        cases q1; cases q2
        obtain ⟨vs, hv, rs⟩ := r2 _ _ hp
        obtain ⟨m, rfl⟩ := Int.eq_ofNat_of_zero_le h0
        have st : ST H2 h2 (upd H2 p (.lst (vs.take m))) (updW h2 p (.lst (ws.take m))) := .mut hp _ _
        refine ⟨p, vs, m, rfl, rfl, hv, by rw [rs.length]; omega, k.nx ρ _ _ _ t2 ((s1.trans s2).trans st) ?_ ((S.sr.mono (s1.trans s2)).mono st)⟩
        exact r2.mut hp ⟨_, upd_same, (rs.mono st).take m⟩
      · exact t2.elim
    · exact t2.elim⟩⟩
theorem go_sdelF {to ti : TEW} {D : EndsW} {ρ : SlW} {h : HW} (k : to ρ h fun x h1 => ti ρ h1 fun y h2 => delFK x y h2 (D.nx ρ)) : sDelF to ti D ρ h := k
theorem go_delFK {p : Addr} {i : Int} {h : HW} {ws : List W} {P : HW → Prop} (hp : h p = some (.lst ws)) (h0 : 0 ≤ i) (hi : i ≤ ws.length) (k : P (updW h p (.lst (ws.take i.toNat)))) : delFK (.ref p) (.int i) h P := by
  unfold delFK; dsimp only; rw [hp]; exact ⟨h0, hi, k⟩
end
/-! ## zip of two lists -/
section
variable {X : Cx} {L : Lk}
def zipW (xs ys : List W) : List W := List.zipWith (fun x y => .tup [x, y]) xs ys
def oItZ (ta : TAW) : TIW := fun ρ h P => ta ρ h fun ws h1 => match ws with | [.lst xs, .lst ys] => P (zipW xs ys) h1 | _ => False
theorem itZ {K : PySem.W.Frag} {H : Hp} {h : HW} {a b : Addr} {vs us : List V} {xs ys : List W} (f : FzL H h a vs) (g : FzL H h b us) (r : RWs K H h vs xs) (q : RWs K H h us ys) : ItW K (Itz K a b) H h (zipW xs ys) where
  step := fun i H1 h1 w st hr e => by
    unfold zipW at e
    rw [List.getElem?_zipWith] at e
    cases ex : xs[i]? with
    | none => rw [ex] at e; cases e
    | some x =>
      cases ey : ys[i]? with
      | none => rw [ex, ey] at e; cases e
      | some y =>
        rw [ex, ey] at e
        cases e
        obtain ⟨v, e1, e2⟩ := (r.mono st).get ex
        obtain ⟨u, e3, e4⟩ := (q.mono st).get ey
        refine ⟨⟨vs, us, v, u, (f.mono st).sq, (g.mono st).sq, e1, e3⟩, fun z H' ⟨T, v', u', ez, hT, eH, y1, y2⟩ => ?_⟩
        subst ez eH
        have y1 := y1 vs (f.mono st).sq
        have y2 := y2 us (g.mono st).sq
        rw [e1] at y1; cases y1
        rw [e3] at y2; cases y2
        have s1 : ST H1 h1 (upd H1 T (.tup [v, u])) h1 := .newF hT _
        exact ⟨s1, hr.newF hT _, .tup (.inl ⟨.inl upd_same, hr.fresh hT⟩) (.cons (e2.mono s1) (.cons (e4.mono s1) .nil))⟩
  stop := fun i H1 h1 st hr e => by
    refine ⟨vs, us, (f.mono st).sq, (g.mono st).sq, ?_⟩
    unfold zipW at e
    rw [List.length_zipWith] at e
    rw [r.length, q.length]
    omega
theorem wi_zip {e e2 : Expr} {ta : TAW} {p pos tpos : Pos} {elts : List Expr} {kk : Nat} (hg : Gl X "zip") (hm : X.mg "zip" = none) (ha : WA X L [e, e2] ta)
    (hs : starEach [e, e2] X.env = (false, eval e X.env) :: starEach [e2] X.env := by rfl) (hpl : (backTo pos (starEach [e2] X.env)).any (·.1) = false := by rfl) :
    WI X L (.Tuple elts kk tpos) (.Call (.Name "zip" p) [e, e2] [] pos) (oItZ ta) := (pi_zip hg hm ha hs hpl).imp fun σ H Q ⟨ρ, h, P, S, t, k⟩ =>
  ⟨ρ, h, _, S, t, fun ws h1 vs H1 t1 s1 r1 q1 => by
    split at t1
    · obtain ⟨x, y, rfl, q, q'⟩ := q1.two
      cases q with
      | lst f q =>
        cases q' with
        | lst g q' => exact ⟨_, _, _, _, rfl, f.sq, g.sq, k _ h1 _ H1 t1 s1 r1 (itZ f g q q')⟩
    · exact t1.elim⟩
theorem go_forZ {ta : TAW} {g : TGW} {tb : TSW} {D : EndsW} {ρ : SlW} {h : HW} (xs ys : List W) (ev : ∀ R : List W → HW → Prop, R [.lst xs, .lst ys] h → ta ρ h R)
  (Pv : Nat → SlW → HW → Prop) (p0 : CN (Pv 0) ρ h) (turn : ∀ (i : Nat) w ρ' h', (zipW xs ys)[i]? = some w → Pv i ρ' h' → g w ρ' h' fun ρ2 h2 => tb (D.lp (CN (Pv (i + 1))) D.nx) ρ2 h2)
  (fin : ∀ ρ' h', Pv (zipW xs ys).length ρ' h' → D.nx ρ' h') : sFor (oItZ ta) g tb D ρ h := ev _ ⟨Pv, p0, turn, fin⟩
end
/-! ## sorted(xs) of texts -/
def sortedSW : List W → HW → KW → Prop := fun ws h R => match ws with
  | [.lst xs] => (match strsOf xs with | some ss => ss.length < 64 ∧ ∀ ys : List (List Nat), ys.Perm ss → R (.lst (ys.map W.str)) h | none => False)
  | _ => False
theorem lf_sortedS {K : PySem.W.Frag} : LfC K (rSortedS K) sortedSW := fun xs H Q ws h R r hr t k => by
  unfold sortedSW at t
  split at t
  · split at t
    · rename_i ss e
      obtain ⟨x, rfl, q⟩ := r.one
      cases q with
      | lst f q =>
        rw [strsOf_eq e] at q
        refine ⟨_, ss.map mkS, rfl, by rw [← q.strs]; exact f.sq, by rw [List.length_map]; exact t.1, fun ys p pm hso hp => ?_⟩
        have ey : ys = (ys.map fun s => s.cps.toList).map mkS := by
          rw [List.map_map]
          conv => lhs; rw [← List.map_id ys]
          exact List.map_congr_left fun s _ => (mkS_list s)
        have pm2 : (ys.map fun s => s.cps.toList).Perm ss := by
          have := pm.map (fun s : Str => s.cps.toList)
          rw [List.map_map] at this
          refine this.trans (.of_eq ?_)
          conv => rhs; rw [← List.map_id ss]
          exact List.map_congr_left fun s _ => by simp [mkS]
        have t2 := t.2 _ pm2
        have rs : RWs K H h (ys.map V.str) ((ys.map fun s => s.cps.toList).map W.str) := by
          clear t2 pm2 pm ey hso
          induction ys with
          | nil => exact .nil
          | cons y ys ih => exact .cons (by rw [mkS_list y]; simp only [mkS]; exact .str _) ih
        exact k.lst hr rs t2 hp
    · exact t.elim
  · exact t.elim
theorem go_sortedS {ss : List (List Nat)} {h : HW} {R : KW} (l : ss.length < 64) (k : ∀ ys : List (List Nat), ys.Perm ss → R (.lst (ys.map W.str)) h) : sortedSW [.lst (ss.map W.str)] h R := by
  unfold sortedSW; dsimp only; rw [strsOf_map]; exact ⟨l, k⟩
/-! ## C() of a class without an __init__ -/
structure MkB (K : PySem.W.Frag) (C : Addr) : Prop where
  makes : PySem.W.makesIn K C = true
  init : PySem.W.findIn K (.ref C) "__init__" = some (some (.builtin "object.__init__"))
  top : PySem.W.mroIn K C (.type "object") = some true
  kp : PySem.W.keepIn K (.ref C) = true
section
open PySem.W PySem.Calls
variable {X : Cx} {C : Addr} {x : Str} {p pos : Pos}
theorem run_makeB {pins : List (Addr × Obj)} {σ : L2.St} {H : Hp} {s : Shared} {Q : VK} (M : MkB X.K C) (I : Inv X pins σ H s)
    (h : ∀ x dx, H x = none → H dx = none → dx ≠ x → Q (.ref x) (upd (upd H dx (.own x)) x (.ins C dx []))) : wpAny (model X.prog X.w) X.A (call (.ref C) []) (EP X pins σ Q) X.xe s := by
  have hq := h (s.heap.objs.size + 1) s.heap.objs.size (I.hok.fresh (Nat.le_succ _)) (I.hok.fresh (Nat.le_refl _)) (Nat.ne_of_lt (Nat.lt_succ_self _))
  have I2 := Inv.made (C := C) I
  refine wpAny_call (make_map0 I.kIn M.makes M.init (fun self => Looks.of_pure (oi_bind _)) ?_)
  have ho : ((s.heap.push PySem.W.emptyDict).push (PySem.W.instObj C s.heap.objs.size)).get? (s.heap.objs.size + 1) = some (PySem.W.instObj C s.heap.objs.size) := by
    have := Heap.get?_push_size (s.heap.push PySem.W.emptyDict) (o := PySem.W.instObj C s.heap.objs.size) rfl
    rw [Heap.size_push] at this; exact this
  have t1 : Looks (model X.prog X.w) ((s.heap.push PySem.W.emptyDict).push (PySem.W.instObj C s.heap.objs.size)) (typeOf (.ref (s.heap.objs.size + 1))) (.ref C) := NwA.type_at ho rfl
  have t2 : Looks (model X.prog X.w) ((s.heap.push PySem.W.emptyDict).push (PySem.W.instObj C s.heap.objs.size)) (isInstance (.ref (s.heap.objs.size + 1)) (.type "object")) true := t1.andThen (looks_mroIn I2.kIn M.top)
  refine codeAny_call_builtin oi_plain entry_oi (@check_slot (model X.prog X.w) _ _ _ "object.__init__" "object" "__init__" (.ref (s.heap.objs.size + 1)) [] [] _ oi_kind oi_split t2 (NwA.oi_args_any _ _ _) ?_)
  rw [oi_run]
  exact wpAny_pure ⟨rfl, V.ref (s.heap.objs.size + 1), _, I2, rfl, hq⟩
end
section
variable {X : Cx} {L : Lk} {C : Addr} {x : Str} {p pos : Pos}
def tMakeB (C : Addr) : TE := fun σ H Q => ∀ x dx, H x = none → H dx = none → dx ≠ x → Q (.ref x) (upd (upd H dx (.own x)) x (.ins C dx []))
theorem pe_makeB (M : MkB X.K C) (hg : Gl X x) (hm : X.mg x = some (.ref C)) (hdb : (x == ("__debug__" : Str)) = false := by decide) : PE X (.Call (.Name x p) [] [] pos) (tMakeB C) := by
  refine ⟨fun pins s σ H Q I h => ?_⟩
  refine wpAny_Call_Name_kw (ld_glob I hg hm ?_ hdb)
  exact PySem.W.callWith_K0 I.kIn M.kp (run_makeB M I h)
def oMakeB (C : Addr) : TEW := fun _ h R => ∀ x, h x = none → R (.ref x) (updW h x (.ins C []))
theorem w_makeB (M : MkB X.K C) (hg : Gl X x) (hm : X.mg x = some (.ref C)) (hdb : (x == ("__debug__" : Str)) = false := by decide) : WE X L (.Call (.Name x p) [] [] pos) (oMakeB C) := (pe_makeB M hg hm hdb).imp fun σ H Q ⟨ρ, h, R, S, t, k⟩ =>
  fun x dx ex ed ne => k _ _ _ _ (t x (S.hr.fresh ex)) (.newI (fs := []) ex ed _) (S.hr.newI ex ed) (.ref x)
theorem go_makeB {ρ : SlW} {h : HW} {R : KW} (k : ∀ x, h x = none → R (.ref x) (updW h x (.ins C []))) : oMakeB C ρ h R := k
end
/-! ## t[lo:hi], the whole of t as well -/
section
variable {X : Cx} {L : Lk} {e : Expr} {te : TEW} {lo hi : Option Expr} {tl th : TOW} {pos p2 : Pos}
def slA (x : W) (lo hi : Option Int) (h : HW) (R : KW) : Prop := match x with
  | .tup ws => R (.tup (cut ws lo hi)) h
  | _ => False
def oSlA (te : TEW) (tl th : TOW) : TEW := fun ρ h R => te ρ h fun x h1 => tl ρ h1 fun l h2 => th ρ h2 fun u h3 => slA x l u h3 R
theorem cut_whole {α : Type} {xs : List α} {lo hi : Option Int} (e : HT.sIx xs.length 0 lo = 0 ∧ HT.sIx xs.length xs.length hi = xs.length) : cut xs lo hi = xs := by
  unfold cut; rw [e.1, e.2]; simp
theorem w_sliceA (he : WE X L e te) (hl : PO X lo (lO X.K L tl)) (hu : PO X hi (lO X.K L th)) : WE X L (.Subscript e (.Slice lo hi none p2) pos) (oSlA te tl th) := (pe_slice sl_tupA he hl hu).imp fun σ H Q ⟨ρ, h, R, S, t, k⟩ =>
  ⟨ρ, h, _, S, t, fun w1 h1 v1 H1 t1 s1 r1 q1 => ⟨ρ, h1, _, S.to s1 r1, t1, fun l h2 H2 t2 s2 r2 => ⟨ρ, h2, _, S.to (s1.trans s2) r2, t2, fun u h3 H3 t3 s3 r3 => by
    unfold slA at t3
    split at t3
    · have q := (q1.mono s2).mono s3
      cases q with
      | tup f q =>
        refine ⟨_, _, rfl, f.sq, fun e => ?_, fun _ p hp => (k.mono ((s1.trans s2).trans s3)).tup r3 (q.cut l u) t3 hp⟩
        rw [q.length] at e
        rw [cut_whole e] at t3
        exact k _ h3 _ H3 t3 ((s1.trans s2).trans s3) r3 (.tup f q)
    · exact t3.elim⟩⟩⟩
theorem go_slA {te : TEW} {tl th : TOW} {ρ : SlW} {h : HW} {R : KW} (k : te ρ h fun x h1 => tl ρ h1 fun l h2 => th ρ h2 fun u h3 => slA x l u h3 R) : oSlA te tl th ρ h R := k
theorem go_slAT {ws : List W} {lo hi : Option Int} {h : HW} {R : KW} (k : R (.tup (cut ws lo hi)) h) : slA (.tup ws) lo hi h R := k
end
end Wl

set_option Elab.async false
set_option linter.all false
set_option maxRecDepth 100000
set_option maxHeartbeats 4000000
namespace Lw
open PySem PySem.Spec PyProof.Rows L2 Wl
abbrev digitsS : List Nat := [48, 49, 50, 51, 52, 53, 54, 55, 56, 57]
abbrev lettersS : List Nat := [97, 98, 99, 100, 101, 102, 103, 104, 105, 106, 107, 108, 109, 110, 111, 112, 113, 114, 115, 116, 117, 118, 119, 120, 121, 122]
abbrev signsS : List Nat := [92, 58, 46, 61, 43, 45, 42, 33, 40, 41, 59, 44]
abbrev upperS : List Nat := [65, 66, 67, 68, 69, 70, 71, 72, 73, 74, 75, 76, 77, 78, 79, 80, 81, 82, 83, 84, 85, 86, 87, 88, 89, 90]
abbrev wDef : List Nat := [100, 101, 102]
abbrev wIn : List Nat := [105, 110]
abbrev wInt : List Nat := [73, 110, 116]
abbrev wLet : List Nat := [108, 101, 116]
abbrev z_app : List Nat := [97, 112, 112]
abbrev z_bang : List Nat := [98, 97, 110, 103]
abbrev z_bind : List Nat := [98, 105, 110, 100]
abbrev z_box : List Nat := [98, 111, 120]
abbrev z_enter : List Nat := [101, 110, 116, 101, 114]
abbrev z_five : List Nat := [102, 105, 118, 101]
abbrev z_four : List Nat := [102, 111, 117, 114]
abbrev z_fun : List Nat := [102, 117, 110]
abbrev z_int : List Nat := [105, 110, 116]
abbrev z_lam : List Nat := [108, 97, 109]
abbrev z_leave : List Nat := [108, 101, 97, 118, 101]
abbrev z_num : List Nat := [110, 117, 109]
abbrev z_one : List Nat := [111, 110, 101]
abbrev z_op : List Nat := [111, 112]
abbrev z_own : List Nat := [111, 119, 110]
abbrev z_pair : List Nat := [112, 97, 105, 114]
abbrev z_self : List Nat := [115, 101, 108, 102]
abbrev z_split : List Nat := [115, 112, 108, 105, 116]
abbrev z_three : List Nat := [116, 104, 114, 101, 101]
abbrev z_two : List Nat := [116, 119, 111]
abbrev z_var : List Nat := [118, 97, 114]
abbrev z_x2bx2dx2a : List Nat := [43, 45, 42]
abbrev tb__NAMES_BOUND : List (List Nat × W) := [(z_lam, .int 1), (wLet, .int 1), (z_split, .int 2)]
abbrev no__NAMES_BOUND : List (List Nat) := [z_var, z_num, z_op, z_app, z_box, z_pair]
abbrev tb__FIRST_PART : List (List Nat × W) := [(z_var, .int 2), (z_num, .int 2), (z_op, .int 2), (z_lam, .int 3), (z_app, .int 1), (z_box, .int 1), (wLet, .int 2), (z_pair, .int 1), (z_split, .int 3)]
abbrev no__FIRST_PART : List (List Nat) := []
def topS (i : Nat) : Stmt := PySem.Challenge.pw_sharenet_k09_linking.main.body.getD i (.Pass ⟨0, 0, 0, 0⟩)
abbrev s_UnknownName___init__ : Stmt := inClass (topS 2) 0
theorem shape_UnknownName : ∃ r1 r2 p0 p1 p2 p3 p4 p5 q1 q2 q3 q4 : Pos, defArgs s_UnknownName___init__ = supArgs r1 r2 ∧ defBody s_UnknownName___init__ = supBody p0 p1 p2 p3 p4 p5 q1 q2 q3 q4 ∧ defScope s_UnknownName___init__ = supScope ∧ (p2.endLine == p4.line) = true := ⟨_, _, _, _, _, _, _, _, _, _, _, _, rfl, rfl, rfl, rfl⟩
abbrev s_parts_of : Stmt := topS 6
abbrev N_parts_of : List Str := ["term"]
theorem sc_parts_of : FnScope N_parts_of ["term"] (defScope s_parts_of) := ⟨rfl, rfl, rfl, by decide +kernel, rfl, by decide +kernel, by decide +kernel⟩
abbrev s_with_parts : Stmt := topS 7
abbrev N_with_parts : List Str := ["term", "parts"]
theorem sc_with_parts : FnScope N_with_parts ["term", "parts"] (defScope s_with_parts) := ⟨rfl, rfl, rfl, by decide +kernel, rfl, by decide +kernel, by decide +kernel⟩
abbrev s_bound_names : Stmt := topS 8
abbrev N_bound_names : List Str := ["term"]
theorem sc_bound_names : FnScope N_bound_names ["term"] (defScope s_bound_names) := ⟨rfl, rfl, rfl, by decide +kernel, rfl, by decide +kernel, by decide +kernel⟩
abbrev s_free_names : Stmt := topS 9
abbrev N_free_names : List Str := ["term", "found", "waiting", "node", "bound"]
theorem sc_free_names : FnScope N_free_names ["term"] (defScope s_free_names) := ⟨rfl, rfl, rfl, by decide +kernel, rfl, by decide +kernel, by decide +kernel⟩
abbrev s__scoped_parts : Stmt := topS 10
abbrev N__scoped_parts : List Str := ["node", "bound", "parts", "names", "inner", "name", "part"]
theorem sc__scoped_parts : FnScope N__scoped_parts ["node", "bound"] (defScope s__scoped_parts) := ⟨rfl, rfl, rfl, by decide +kernel, rfl, by decide +kernel, by decide +kernel⟩
abbrev s_walked : Stmt := topS 12
abbrev N_walked : List Str := ["term", "names", "visitor", "walk", "stage", "node", "known", "level"]
theorem sc_walked : FnScope N_walked ["term", "names", "visitor"] (defScope s_walked) := ⟨rfl, rfl, rfl, by decide +kernel, rfl, by decide +kernel, by decide +kernel⟩
abbrev s_Walk___init__ : Stmt := inClass (topS 13) 0
abbrev N_Walk___init__ : List Str := ["self", "visitor"]
theorem sc_Walk___init__ : FnScope N_Walk___init__ ["self", "visitor"] (defScope s_Walk___init__) := ⟨rfl, rfl, rfl, by decide +kernel, rfl, by decide +kernel, by decide +kernel⟩
abbrev s_Walk_enter : Stmt := inClass (topS 13) 1
abbrev N_Walk_enter : List Str := ["self", "node", "names", "level", "parts"]
theorem sc_Walk_enter : FnScope N_Walk_enter ["self", "node", "names", "level"] (defScope s_Walk_enter) := ⟨rfl, rfl, rfl, by decide +kernel, rfl, by decide +kernel, by decide +kernel⟩
abbrev s_Walk_bind : Stmt := inClass (topS 13) 2
abbrev N_Walk_bind : List Str := ["self", "node", "names", "level", "parts", "first", "meanings", "inner", "name", "meaning"]
theorem sc_Walk_bind : FnScope N_Walk_bind ["self", "node", "names", "level"] (defScope s_Walk_bind) := ⟨rfl, rfl, rfl, by decide +kernel, rfl, by decide +kernel, by decide +kernel⟩
abbrev s_Walk_leave : Stmt := inClass (topS 13) 3
abbrev N_Walk_leave : List Str := ["self", "node", "meanings", "level", "start", "parts"]
theorem sc_Walk_leave : FnScope N_Walk_leave ["self", "node", "meanings", "level"] (defScope s_Walk_leave) := ⟨rfl, rfl, rfl, by decide +kernel, rfl, by decide +kernel, by decide +kernel⟩
abbrev s_Walk_await_parts : Stmt := inClass (topS 13) 4
abbrev N_Walk_await_parts : List Str := ["self", "parts", "names", "level", "part"]
theorem sc_Walk_await_parts : FnScope N_Walk_await_parts ["self", "parts", "names", "level"] (defScope s_Walk_await_parts) := ⟨rfl, rfl, rfl, by decide +kernel, rfl, by decide +kernel, by decide +kernel⟩
abbrev s_linked : Stmt := topS 15
abbrev N_linked : List Str := ["program", "name", "terms", "earlier", "_", "term", "definition"]
theorem sc_linked : FnScope N_linked ["program", "name"] (defScope s_linked) := ⟨rfl, rfl, rfl, by decide +kernel, rfl, by decide +kernel, by decide +kernel⟩
abbrev s__refuse_unknown : Stmt := topS 16
abbrev N__refuse_unknown : List Str := ["program", "earlier", "name", "_", "term", "used"]
theorem sc__refuse_unknown : FnScope N__refuse_unknown ["program"] (defScope s__refuse_unknown) := ⟨rfl, rfl, rfl, by decide +kernel, rfl, by decide +kernel, by decide +kernel⟩
abbrev s_Linker_bound : Stmt := inClass (topS 17) 0
abbrev N_Linker_bound : List Str := ["self", "node", "part", "level", "name"]
theorem sc_Linker_bound : FnScope N_Linker_bound ["self", "node", "part", "level"] (defScope s_Linker_bound) := ⟨rfl, rfl, rfl, by decide +kernel, rfl, by decide +kernel, by decide +kernel⟩
abbrev s_Linker_used : Stmt := inClass (topS 17) 1
abbrev N_Linker_used : List Str := ["self", "meaning", "level"]
theorem sc_Linker_used : FnScope N_Linker_used ["self", "meaning", "level"] (defScope s_Linker_used) := ⟨rfl, rfl, rfl, by decide +kernel, rfl, by decide +kernel, by decide +kernel⟩
abbrev s_Linker_made : Stmt := inClass (topS 17) 2
abbrev N_Linker_made : List Str := ["self", "node", "level", "meanings", "parts"]
theorem sc_Linker_made : FnScope N_Linker_made ["self", "node", "level", "meanings", "parts"] (defScope s_Linker_made) := ⟨rfl, rfl, rfl, by decide +kernel, rfl, by decide +kernel, by decide +kernel⟩
abbrev s__law_cell : Stmt := topS 20
abbrev N__law_cell : List Str := ["script", "k"]
theorem sc__law_cell : FnScope N__law_cell ["script", "k"] (defScope s__law_cell) := ⟨rfl, rfl, rfl, by decide +kernel, rfl, by decide +kernel, by decide +kernel⟩
abbrev s__law_numbers : Stmt := topS 21
abbrev N__law_numbers : List Str := ["script", "first", "most", "found", "at", "cell", "k", "mixed"]
theorem sc__law_numbers : FnScope N__law_numbers ["script", "first", "most"] (defScope s__law_numbers) := ⟨rfl, rfl, rfl, by decide +kernel, rfl, by decide +kernel, by decide +kernel⟩
abbrev s__law_any_kind : Stmt := topS 23
abbrev N__law_any_kind : List Str := ["number", "deep", "pick", "first", "second"]
theorem sc__law_any_kind : FnScope N__law_any_kind ["number", "deep"] (defScope s__law_any_kind) := ⟨rfl, rfl, rfl, by decide +kernel, rfl, by decide +kernel, by decide +kernel⟩
abbrev s__law_pop : Stmt := topS 24
abbrev N__law_pop : List Str := ["stack", "other"]
theorem sc__law_pop : FnScope N__law_pop ["stack", "other"] (defScope s__law_pop) := ⟨rfl, rfl, rfl, by decide +kernel, rfl, by decide +kernel, by decide +kernel⟩
abbrev s__law_any_term : Stmt := topS 25
abbrev N__law_any_term : List Str := ["numbers", "names", "stack", "number", "pick", "rest", "name", "second", "leaf", "right", "left"]
theorem sc__law_any_term : FnScope N__law_any_term ["numbers", "names"] (defScope s__law_any_term) := ⟨rfl, rfl, rfl, by decide +kernel, rfl, by decide +kernel, by decide +kernel⟩
abbrev s__law_parts : Stmt := topS 27
abbrev N__law_parts : List Str := ["term"]
theorem sc__law_parts : FnScope N__law_parts ["term"] (defScope s__law_parts) := ⟨rfl, rfl, rfl, by decide +kernel, rfl, by decide +kernel, by decide +kernel⟩
abbrev s__law_free : Stmt := topS 28
abbrev N__law_free : List Str := ["term", "bound", "found", "part"]
theorem sc__law_free : FnScope N__law_free ["term", "bound"] (defScope s__law_free) := ⟨rfl, rfl, rfl, by decide +kernel, rfl, by decide +kernel, by decide +kernel⟩
abbrev s__law_put : Stmt := topS 29
abbrev N__law_put : List Str := ["term", "known", "bound", "head"]
theorem sc__law_put : FnScope N__law_put ["term", "known", "bound"] (defScope s__law_put) := ⟨rfl, rfl, rfl, by decide +kernel, rfl, by decide +kernel, by decide +kernel⟩
abbrev s_law : Stmt := topS 30
abbrev N_law : List Str := ["script", "digit", "names", "numbers", "program", "k", "known", "unknown", "one", "wanted", "handed", "e", "menu", "term", "name", "found"]
theorem sc_law : FnScope N_law ["script"] (defScope s_law) := ⟨rfl, rfl, rfl, by decide +kernel, rfl, by decide +kernel, by decide +kernel⟩
structure Tx (P : Program) (w : World) (K : PySem.W.Frag) (mg : Str → Option Value) where
  aC_Linker : Addr
  aC_Walk : Addr
  a_parts_of : Addr
  fd_parts_of : FuncData
  F_parts_of : Fun K "parts_of" "parts_of" s_parts_of a_parts_of fd_parts_of
  b_parts_of : L2.Binds K fd_parts_of ["term"] []
  g_parts_of : mg "parts_of" = some (.ref a_parts_of)
  a_with_parts : Addr
  fd_with_parts : FuncData
  F_with_parts : Fun K "with_parts" "with_parts" s_with_parts a_with_parts fd_with_parts
  b_with_parts : L2.Binds K fd_with_parts ["term", "parts"] []
  g_with_parts : mg "with_parts" = some (.ref a_with_parts)
  a_bound_names : Addr
  fd_bound_names : FuncData
  F_bound_names : Fun K "bound_names" "bound_names" s_bound_names a_bound_names fd_bound_names
  b_bound_names : L2.Binds K fd_bound_names ["term"] []
  g_bound_names : mg "bound_names" = some (.ref a_bound_names)
  a_free_names : Addr
  fd_free_names : FuncData
  F_free_names : Fun K "free_names" "free_names" s_free_names a_free_names fd_free_names
  b_free_names : L2.Binds K fd_free_names ["term"] []
  g_free_names : mg "free_names" = some (.ref a_free_names)
  a__scoped_parts : Addr
  fd__scoped_parts : FuncData
  F__scoped_parts : Fun K "_scoped_parts" "_scoped_parts" s__scoped_parts a__scoped_parts fd__scoped_parts
  b__scoped_parts : L2.Binds K fd__scoped_parts ["node", "bound"] []
  g__scoped_parts : mg "_scoped_parts" = some (.ref a__scoped_parts)
  a_walked : Addr
  fd_walked : FuncData
  F_walked : Fun K "walked" "walked" s_walked a_walked fd_walked
  b_walked : L2.Binds K fd_walked ["term", "names", "visitor"] []
  g_walked : mg "walked" = some (.ref a_walked)
  a_Walk___init__ : Addr
  fd_Walk___init__ : FuncData
  F_Walk___init__ : Fun K "__init__" "Walk.__init__" s_Walk___init__ a_Walk___init__ fd_Walk___init__
  b_Walk___init__ : L2.Binds K fd_Walk___init__ ["self", "visitor"] []
  a_Walk_enter : Addr
  fd_Walk_enter : FuncData
  F_Walk_enter : Fun K "enter" "Walk.enter" s_Walk_enter a_Walk_enter fd_Walk_enter
  b_Walk_enter : L2.Binds K fd_Walk_enter ["self", "node", "names", "level"] []
  a_Walk_bind : Addr
  fd_Walk_bind : FuncData
  F_Walk_bind : Fun K "bind" "Walk.bind" s_Walk_bind a_Walk_bind fd_Walk_bind
  b_Walk_bind : L2.Binds K fd_Walk_bind ["self", "node", "names", "level"] []
  a_Walk_leave : Addr
  fd_Walk_leave : FuncData
  F_Walk_leave : Fun K "leave" "Walk.leave" s_Walk_leave a_Walk_leave fd_Walk_leave
  b_Walk_leave : L2.Binds K fd_Walk_leave ["self", "node", "meanings", "level"] []
  a_Walk_await_parts : Addr
  fd_Walk_await_parts : FuncData
  F_Walk_await_parts : Fun K "await_parts" "Walk.await_parts" s_Walk_await_parts a_Walk_await_parts fd_Walk_await_parts
  b_Walk_await_parts : L2.Binds K fd_Walk_await_parts ["self", "parts", "names", "level"] []
  a_linked : Addr
  fd_linked : FuncData
  F_linked : Fun K "linked" "linked" s_linked a_linked fd_linked
  b_linked : L2.Binds K fd_linked ["program", "name"] []
  g_linked : mg "linked" = some (.ref a_linked)
  a__refuse_unknown : Addr
  fd__refuse_unknown : FuncData
  F__refuse_unknown : Fun K "_refuse_unknown" "_refuse_unknown" s__refuse_unknown a__refuse_unknown fd__refuse_unknown
  b__refuse_unknown : L2.Binds K fd__refuse_unknown ["program"] []
  g__refuse_unknown : mg "_refuse_unknown" = some (.ref a__refuse_unknown)
  a_Linker_bound : Addr
  fd_Linker_bound : FuncData
  F_Linker_bound : Fun K "bound" "Linker.bound" s_Linker_bound a_Linker_bound fd_Linker_bound
  b_Linker_bound : L2.Binds K fd_Linker_bound ["self", "node", "part", "level"] []
  a_Linker_used : Addr
  fd_Linker_used : FuncData
  F_Linker_used : Fun K "used" "Linker.used" s_Linker_used a_Linker_used fd_Linker_used
  b_Linker_used : L2.Binds K fd_Linker_used ["self", "meaning", "level"] []
  a_Linker_made : Addr
  fd_Linker_made : FuncData
  F_Linker_made : Fun K "made" "Linker.made" s_Linker_made a_Linker_made fd_Linker_made
  b_Linker_made : L2.Binds K fd_Linker_made ["self", "node", "level", "meanings", "parts"] []
  a__law_cell : Addr
  fd__law_cell : FuncData
  F__law_cell : Fun K "_law_cell" "_law_cell" s__law_cell a__law_cell fd__law_cell
  b__law_cell : L2.Binds K fd__law_cell ["script", "k"] []
  g__law_cell : mg "_law_cell" = some (.ref a__law_cell)
  a__law_numbers : Addr
  fd__law_numbers : FuncData
  F__law_numbers : Fun K "_law_numbers" "_law_numbers" s__law_numbers a__law_numbers fd__law_numbers
  b__law_numbers : L2.Binds K fd__law_numbers ["script", "first", "most"] []
  g__law_numbers : mg "_law_numbers" = some (.ref a__law_numbers)
  a__law_any_kind : Addr
  fd__law_any_kind : FuncData
  F__law_any_kind : Fun K "_law_any_kind" "_law_any_kind" s__law_any_kind a__law_any_kind fd__law_any_kind
  b__law_any_kind : L2.Binds K fd__law_any_kind ["number", "deep"] []
  g__law_any_kind : mg "_law_any_kind" = some (.ref a__law_any_kind)
  a__law_pop : Addr
  fd__law_pop : FuncData
  F__law_pop : Fun K "_law_pop" "_law_pop" s__law_pop a__law_pop fd__law_pop
  b__law_pop : L2.Binds K fd__law_pop ["stack", "other"] []
  g__law_pop : mg "_law_pop" = some (.ref a__law_pop)
  a__law_any_term : Addr
  fd__law_any_term : FuncData
  F__law_any_term : Fun K "_law_any_term" "_law_any_term" s__law_any_term a__law_any_term fd__law_any_term
  b__law_any_term : L2.Binds K fd__law_any_term ["numbers", "names"] []
  g__law_any_term : mg "_law_any_term" = some (.ref a__law_any_term)
  a__law_parts : Addr
  fd__law_parts : FuncData
  F__law_parts : Fun K "_law_parts" "_law_parts" s__law_parts a__law_parts fd__law_parts
  b__law_parts : L2.Binds K fd__law_parts ["term"] []
  g__law_parts : mg "_law_parts" = some (.ref a__law_parts)
  a__law_free : Addr
  fd__law_free : FuncData
  F__law_free : Fun K "_law_free" "_law_free" s__law_free a__law_free fd__law_free
  b__law_free : L2.Binds K fd__law_free ["term", "bound"] []
  g__law_free : mg "_law_free" = some (.ref a__law_free)
  a__law_put : Addr
  fd__law_put : FuncData
  F__law_put : Fun K "_law_put" "_law_put" s__law_put a__law_put fd__law_put
  b__law_put : L2.Binds K fd__law_put ["term", "known", "bound"] []
  g__law_put : mg "_law_put" = some (.ref a__law_put)
  a_law : Addr
  fd_law : FuncData
  F_law : Fun K "law" "law" s_law a_law fd_law
  b_law : L2.Binds K fd_law ["script"] []
  g_law : mg "law" = some (.ref a_law)
  cls_Linker : Cls K aC_Linker
  gC_Linker : mg "Linker" = some (.ref aC_Linker)
  mkB_Linker : MkB K aC_Linker
  m_Linker_bound : Meth K aC_Linker "bound" a_Linker_bound
  m_Linker_made : Meth K aC_Linker "made" a_Linker_made
  m_Linker_used : Meth K aC_Linker "used" a_Linker_used
  cls_Walk : Cls K aC_Walk
  gC_Walk : mg "Walk" = some (.ref aC_Walk)
  mk_Walk : Mk K aC_Walk a_Walk___init__
  na_Walk_results : NoAttr K aC_Walk "results"
  na_Walk_visitor : NoAttr K aC_Walk "visitor"
  na_Walk_waiting : NoAttr K aC_Walk "waiting"
  m_Walk_await_parts : Meth K aC_Walk "await_parts" a_Walk_await_parts
  m_Walk_bind : Meth K aC_Walk "bind" a_Walk_bind
  m_Walk_enter : Meth K aC_Walk "enter" a_Walk_enter
  m_Walk_leave : Meth K aC_Walk "leave" a_Walk_leave
  aC_SharenetError : Addr
  gC_SharenetError : mg "SharenetError" = some (.ref aC_SharenetError)
  aC_UnknownName : Addr
  gC_UnknownName : mg "UnknownName" = some (.ref aC_UnknownName)
  ai_UnknownName : Addr
  sp_UnknownName : SupC P K aC_UnknownName ai_UnknownName
  ec_UnknownName : ExcC K aC_UnknownName
  xm_UnknownName_SharenetError : PySem.W.exmOne K (.ref aC_UnknownName) (.ref aC_SharenetError) = some true
  is_UnknownName_UnknownName : PySem.W.kitOne K (.ref aC_UnknownName) (.ref aC_UnknownName) = some true
  p__FIRST_PART : Addr
  gk__FIRST_PART : mg "_FIRST_PART" = some (.ref p__FIRST_PART)
  t__FIRST_PART : KTab w K p__FIRST_PART tb__FIRST_PART no__FIRST_PART
  p__NAMES_BOUND : Addr
  gk__NAMES_BOUND : mg "_NAMES_BOUND" = some (.ref p__NAMES_BOUND)
  t__NAMES_BOUND : KTab w K p__NAMES_BOUND tb__NAMES_BOUND no__NAMES_BOUND
  m_abs : mg "abs" = none
  m_dict : mg "dict" = none
  m_int : mg "int" = none
  m_isinstance : mg "isinstance" = none
  m_len : mg "len" = none
  m_list : mg "list" = none
  m_range : mg "range" = none
  m_reversed : mg "reversed" = none
  m_set : mg "set" = none
  m_sorted : mg "sorted" = none
  m_super : mg "super" = none
  m_tuple : mg "tuple" = none
  m_zip : mg "zip" = none

local macro_rules | `(tactic| walk_at "rm") => `(tactic| first | decide | omega)
local macro_rules | `(tactic| walk_at "sz") => `(tactic| first | exact Nat.le_of_ble_eq_true rfl | omega | (simp only [List.length_append, List.length_map, List.length_cons, List.length_nil, List.length_range]; omega) | (simp; omega))
local macro_rules | `(tactic| walk_at "hp") => `(tactic| first | exact updW_same | assumption | (rw [updW_ne (by assumption)]; walk_at "hp"))
local macro_rules | `(tactic| walk_at "st1") => `(tactic| first
  | with_reducible refine go_seq ?_ | with_reducible refine go_next ?_ | with_reducible refine go_ret ?_ | with_reducible refine go_asg ?_ | with_reducible refine go_if ?_ | with_reducible refine go_drop ?_
  | ((with_reducible show oVar _ _ _ _); refine go_var rfl ?_) | with_reducible refine go_c ?_ | with_reducible refine go_op ?_ | with_reducible refine go_un ?_ | with_reducible refine go_test ?_ | with_reducible refine go_chain ?_
  | with_reducible refine go_and ?_ | with_reducible refine go_or ?_ | with_reducible refine go_not ?_ | with_reducible refine go_andV ?_ | with_reducible refine go_orV ?_ | with_reducible refine go_notV ?_ | with_reducible refine go_ifE ?_
  | with_reducible refine go_nil ?_ | with_reducible refine go_cons ?_ | with_reducible refine go_tup ?_ | with_reducible refine go_lst ?_ | with_reducible refine go_lstO ?_
  | ((with_reducible refine go_tupK ?e ?k); (case e => exact Nat.le_of_ble_eq_true rfl)) | ((with_reducible refine go_lstK ?e ?k); (case e => exact Nat.le_of_ble_eq_true rfl)) | ((with_reducible refine go_lstOK ?e ?k); (case e => exact Nat.le_of_ble_eq_true rfl))
  | with_reducible refine go_gN ?_ | with_reducible refine go_cb ?_ | with_reducible refine go_call ?_ | with_reducible refine go_bm ?_ | with_reducible refine go_bm0 ?_
  | with_reducible refine go_addI ?_ | ((with_reducible refine go_addS ?e ?k); (case e => walk_at "sz")) | ((with_reducible refine go_addT ?n ?e ?k); (case n => exact List.cons_ne_nil _ _); (case e => walk_at "sz")) | ((with_reducible refine go_addL ?e ?k); (case e => walk_at "sz"))
  | with_reducible refine go_sub ?_ | ((with_reducible refine go_mul ?e ?k); (case e => first | exact Wl.CMul.r ⟨by omega, by omega⟩ | exact Wl.CMul.l ⟨by omega, by omega⟩)) | ((with_reducible refine go_mod ?e ?k); (case e => first | decide | omega)) | ((with_reducible refine go_fdiv ?e ?k); (case e => exact cdiv_ok (by omega) (by omega))) | with_reducible refine go_neg ?_
  | with_reducible refine go_int0 ?_ | with_reducible refine go_lt ?_ | with_reducible refine go_le ?_ | with_reducible refine go_gt ?_ | with_reducible refine go_ge ?_ | with_reducible refine go_eqI ?_ | with_reducible refine go_eqS ?_ | with_reducible refine go_neI ?_ | with_reducible refine go_neS ?_
  | ((with_reducible refine go_inT ?f ?g ?k); (case f => rfl); (case g => rfl)) | with_reducible refine go_inS ?_ | ((with_reducible refine go_notInT ?f ?g ?k); (case f => rfl); (case g => rfl)) | with_reducible refine go_notInS ?_
  | ((with_reducible show ixW (.tup _) (.int _) _ _); refine go_ixT (by first | exact rfl | assumption) ?_) | ((with_reducible show ixW (.lst _) (.int _) _ _); refine go_ixL (by first | assumption | exact rfl) ?_) | ((with_reducible show ixW (.scr _) (.int _) _ _); refine go_ixC (by assumption) ?_) | ((with_reducible show ixW (.str _) (.int _) _ _); refine go_ixS (by first | assumption | exact rfl) ?e ?_; (case e => walk_at "sz"))
  | ((with_reducible show ixW (.ref _) (.int _) _ _); refine go_ixO (by walk_at "hp") (by first | assumption | exact rfl) ?_)
  | with_reducible refine go_sl ?_ | with_reducible refine go_noPart ?_ | with_reducible refine go_part ?_ | ((with_reducible refine go_slT ?e ?k); (case e => exact of_decide_eq_true rfl)) | with_reducible refine go_slL ?_ | with_reducible refine go_slC ?_ | ((with_reducible refine go_slS ?e ?k); (case e => walk_at "sz")) | with_reducible refine go_revL ?_
  | with_reducible refine go_lenT ?_ | with_reducible refine go_lenL ?_ | with_reducible refine go_lenC ?_ | ((with_reducible refine go_lenS ?e ?k); (case e => walk_at "sz")) | ((with_reducible show lenW [.ref _] _ _); refine go_lenO (by walk_at "hp") ?_)
  | with_reducible refine go_abs ?_ | with_reducible refine go_toInt ?_ | with_reducible refine go_toIntB ?_ | with_reducible refine go_listT ?_ | with_reducible refine go_listL ?_ | with_reducible refine go_listC ?_
  | ((with_reducible show isW [.int _, .ty _] _ _); refine go_isI rfl ?_) | ((with_reducible show isW [.bl _, .ty _] _ _); refine go_isB rfl ?_) | ((with_reducible show isW [.str _, .ty _] _ _); refine go_isS rfl ?_) | ((with_reducible show isW [.tup _, .ty _] _ _); refine go_isT rfl ?_)
  | with_reducible refine go_tyS ?_ | ((with_reducible show tyL (.ref _) _ ∧ _); refine go_tyL (by walk_at "hp") ?_)
  | ((with_reducible show appendW (.ref _) [_] _ _); refine go_append (by walk_at "hp") ?l ?_; (case l => walk_at "sz")) | with_reducible refine go_isalnum ?_
  | with_reducible refine go_join0 ?_ | with_reducible refine go_js1 ?_ | with_reducible refine go_js0 ?_ | ((with_reducible refine ⟨?e, go_js1 ?k⟩); (case e => walk_at "sz")) | ((with_reducible refine ⟨?e, go_js0 ?k⟩); (case e => walk_at "sz")) | ((with_reducible refine go_fmtS ?e ?k); (case e => walk_at "sz"))
  | ((with_reducible refine go_gT ?e ?k); (case e => rfl)) | with_reducible refine go_gNil ?_ | with_reducible refine go_gCons ?_ | ((with_reducible show sAug _ _ _ _ _ _); refine go_aug rfl ?_) | with_reducible refine go_raise ?_ | with_reducible refine go_cont ?_ | with_reducible refine go_break ?_ | with_reducible refine go_retN ?_
  | with_reducible refine go_d0 ?_ | with_reducible refine go_d0O ?_ | with_reducible refine go_truth ?_ | with_reducible refine go_truL ?_ | with_reducible refine go_truT ?_ | with_reducible refine go_truI ?_ | with_reducible refine go_truB ?_ | with_reducible refine go_star ?_ | with_reducible refine go_starL ?_ | with_reducible refine go_starT ?_ | ((with_reducible show truK (truW (.ref _) _) _ _); refine go_truO (by walk_at "hp") ?_)
  | ((with_reducible show kgetW _ _ _ _ _ _); refine go_kget rfl ?_) | with_reducible refine go_kget2 ?_ | ((with_reducible show kget2K _ _ (.str _) _ _ _); first | refine go_kget2Y rfl ?_ | refine go_kget2N rfl (by decide) ?_) | with_reducible refine go_eqq ?_
  | with_reducible refine go_dput ?_ | ((with_reducible show dputK (.ref _) _ _ _ _); refine go_dputK (by walk_at "hp") ?l ?_; (case l => walk_at "sz")) | ((with_reducible show dictW [.dic _] _ _); refine go_dict rfl ?_) | ((with_reducible show dictOW [.dic _] _ _); refine go_dictO rfl ?_)
  | with_reducible refine go_fld ?_ | ((with_reducible show fldK _ _ (.ref _) _ _); refine go_fldK (by walk_at "hp") (by first | exact rfl | assumption) ?_) | with_reducible refine go_sfld ?_ | with_reducible refine go_sfldaug ?_ | ((with_reducible show putK _ _ (.ref _) _ _ _); refine go_putK (by walk_at "hp") (by exact Nat.le_of_ble_eq_true rfl) ?_)
  | with_reducible refine go_meth ?_ | ((with_reducible show methK _ _ (.ref _) _ _); refine go_methK (by walk_at "hp") (by first | exact rfl | assumption) ?_) | with_reducible refine go_make ?_
  | with_reducible refine go_tt ?_ | with_reducible refine go_ff ?_ | with_reducible refine go_nff ?_ | with_reducible refine go_itL ?_ | with_reducible refine go_max2 ?_ | with_reducible refine go_set0 ?_ | with_reducible refine go_sadd ?_ | with_reducible refine go_lstRev ?_ | ((with_reducible show leSW (.str [_]) (.str [_]) _ _); refine go_leS1 ?_) | ((with_reducible show sFrz _ _ _ _ _); refine go_frz rfl (by walk_at "hp") ?_) | ((with_reducible show inSW _ _ _ (.str _) (.ref _) _ _); first | refine go_inSetF (by walk_at "hp") ?_ | refine go_inSetT (by walk_at "hp") ?_) | with_reducible refine go_min2 ?_ | with_reducible refine go_ntt ?_ | with_reducible refine go_nntt ?_ | with_reducible refine go_nnff ?_ | with_reducible refine go_yes ?_ | with_reducible refine go_isNN ?_ | with_reducible refine go_isNT ?_ | with_reducible refine go_notNN ?_ | with_reducible refine go_tupleT ?_ | with_reducible refine go_raiseN ?_ | with_reducible refine go_raiseNK ?_ | with_reducible refine go_lix ?_ | ((with_reducible show lixK _ (.ref _) (.int _) _ _); refine go_lixK (by walk_at "hp") (by first | assumption | exact rfl) ?_) | with_reducible refine go_tupleL ?_ | ((with_reducible show tupleW [.ref _] _ _); refine go_tupleO (by walk_at "hp") ?_) | with_reducible refine go_notNT ?_ | with_reducible refine go_sdelF ?_ | ((with_reducible show delFK (.ref _) (.int _) _ _); refine go_delFK (by walk_at "hp") ?a ?b ?_; (case a => omega); (case b => walk_at "sz")) | with_reducible refine go_makeB ?_ | with_reducible refine go_slA ?_ | with_reducible refine go_slAT ?_)
local macro_rules | `(tactic| walk_at "st") => `(tactic| repeat (walk_at "st1"))
local macro_rules | `(tactic| walk_at "stc") => `(tactic| repeat (first | walk_at "st1" | refine go_isT' (by exact rfl) ?_ | refine go_isF' (by exact rfl) ?_))

/-! ## what the law's own helpers promise -/
section
variable {P : Program} {w : World} {K : PySem.W.Frag} {mg : Str → Option Value} {base : Heap}
theorem atI_nat' {α : Type} {xs : List α} {k : Nat} {x : α} (e : xs[k]? = some x) : atI xs (k : Int) = some x := atI_nat e
/-- script[k], or 0 -/
def spCell : SpW := fun ws h R _ => ∃ (ns : List Int) (k : Nat), ws = [.scr (ns.map W.int), .int (k : Nat)] ∧ R (.int (ns.getD k 0)) h
theorem ok__law_cell (T : Tx P w K mg) : FnOk P w K mg base CX0 1 T.a__law_cell T.fd__law_cell ["script", "k"] (lSp K spCell) := by
  refine fnW T.F__law_cell sc__law_cell (fun ws h R ex ⟨_, _, e, _⟩ => by rw [e]; rfl) fun cdv A outer s H E hr => ⟨_, (wss_cons (ws_if (wt_cmp (rw := ltW) op_lt lf_cmp (w_var 1) (w_callB call_len lf_len (by rfl) T.m_len (by decide +kernel) (wa_cons (w_var 0) wa_nil)) (nomark _)) (wss_one (ws_ret (w_ix (w_var 0) (w_var 1)))) wss_nil)
    (wss_one (ws_ret w_int))), fun ws h R ex ⟨ns, k, e, q⟩ => ?_⟩
  subst e
  walk_at "st"
  refine go_dec (fun hk => ?_) (fun hk => ?_)
  · have hk' : k < ns.length := by simp at hk; omega
    have e : atI (ns.map W.int) (k : Int) = some (.int ns[k]) := atI_nat (by rw [List.getElem?_map, List.getElem?_eq_getElem hk']; rfl)
    walk_at "st"
    rw [List.getD_eq_getElem?_getD, List.getElem?_eq_getElem hk'] at q
    exact .of q
  · have hk' : ns.length ≤ k := by simp at hk; omega
    walk_at "st"
    rw [List.getD_eq_getElem?_getD, List.getElem?_eq_none hk'] at q
    exact .of q
/-- some numbers below 4096, at most so many -/
def spNumbers : SpW := fun ws h R _ => ∃ (ns : List Int) (i m : Nat), ws = [.scr (ns.map W.int), .int (i : Nat), .int (m : Nat)] ∧ ns.length ≤ 63 ∧ i ≤ 10 ∧ m ≤ 1000 ∧
  ∀ ms : List Nat, (∀ x ∈ ms, x < 4096) → ms.length ≤ m → R (.lst (ms.map fun x => .int (x : Nat))) h
abbrev natsW (ms : List Nat) : List W := ms.map fun x => .int (x : Nat)
def strsW (ts : List (List Nat)) : List W := ts.map W.str
theorem natsW_snoc (ms : List Nat) (x : Nat) : natsW ms ++ [.int (x : Nat)] = natsW (ms ++ [x]) := by simp [natsW]
theorem snocI {h : HW} {p : Addr} (ms : List Nat) (i : Int) (P : HW → Prop) (k : ∀ x : Nat, x < 4096 → P (updW h p (.lst (natsW (ms ++ [x]))))) : P (updW (updW h p (.lst (natsW ms))) p (.lst (natsW ms ++ [.int (i % 4096)]))) := by
  have q := k (i % 4096).toNat (by omega)
  rw [updW_upd]
  have e : (((i % 4096).toNat : Nat) : Int) = i % 4096 := by omega
  rw [← natsW_snoc, e] at q
  exact q
theorem ok__law_numbers (T : Tx P w K mg) : FnOk P w K mg base CX0 1 T.a__law_numbers T.fd__law_numbers ["script", "first", "most"] (lSp K spNumbers) := by
  refine fnW T.F__law_numbers sc__law_numbers (fun ws h R ex ⟨_, _, _, e, _⟩ => by rw [e]; rfl) fun cdv A outer s H E hr => ⟨_, (wss_cons (ws_set (i := 3) sc__law_numbers.nd (w_lstO wa_nil))
    (wss_cons (ws_for PassesOwn.never rfl (wi_range2 (by rfl) T.m_range (wa_cons (w_var 1) (wa_cons (w_callB call_len lf_len (by rfl) T.m_len (by decide +kernel) (wa_cons (w_var 0) wa_nil)) wa_nil))) (wg_name (i := 4) sc__law_numbers.nd) (wss_cons (ws_set (i := 5) sc__law_numbers.nd (w_callB call_abs lf_abs (by rfl) T.m_abs (by decide +kernel) (wa_cons (w_ix (w_var 0) (w_var 4)) wa_nil)))
    (wss_one (ws_if (wt_cmp (rw := geW) op_ge lf_cmp (w_var 5) w_int (nomark _)) (wss_one (ws_for PassesOwn.never rfl (wi_range1 (by rfl) T.m_range (wa_cons w_int wa_nil)) (wg_name (i := 6) sc__law_numbers.nd) (wss_one (ws_if (wt_bool (ww_and (wt_cmp (rw := gtW) op_gt lf_cmp (w_var 5) w_int (nomark _)) (ww_and1 (wt_cmp (rw := ltW) op_lt lf_cmp (w_callB call_len lf_len (by rfl) T.m_len (by decide +kernel) (wa_cons (w_var 3) wa_nil)) (w_var 2) (nomark _))))) (wss_cons (ws_expr (w_bm PySem.F.plainAttrs_list PySem.F.slot_list_append PySem.F.type_list_append mt_append tyL_ok lf_append (w_var 3) (wa_cons (w_op (rw := modW) op_mod lf_int (w_callTy call_int1 lf_toInt (by rfl) T.m_int (by decide +kernel) (wa_cons (w_var 5) wa_nil)) w_int) wa_nil)))
    (wss_one (ws_set (i := 5) sc__law_numbers.nd (w_op (rw := fdivW) op_fdiv lf_int (w_var 5) w_int)))) wss_nil)))) (wss_one (ws_if (wt_cmp (rw := ltW) op_lt lf_cmp (w_callB call_len lf_len (by rfl) T.m_len (by decide +kernel) (wa_cons (w_var 3) wa_nil)) (w_var 2) (nomark _)) (wss_cons (ws_set (i := 7) sc__law_numbers.nd (w_op (rw := modW) op_mod lf_int (w_callTy call_int1 lf_toInt (by rfl) T.m_int (by decide +kernel) (wa_cons (w_op ow_add lf_add (w_op ow_add lf_add (w_op (rw := mulW) op_mul lf_int (w_var 5) w_int) (w_op (rw := mulW) op_mul lf_int (w_var 4) w_int)) w_int) wa_nil)) w_int))
    (wss_cons (ws_set (i := 7) sc__law_numbers.nd (w_op (rw := modW) op_mod lf_int (w_callTy call_int1 lf_toInt (by rfl) T.m_int (by decide +kernel) (wa_cons (w_op ow_add lf_add (w_op (rw := mulW) op_mul lf_int (w_var 7) w_int) (w_op (rw := fdivW) op_fdiv lf_int (w_var 7) w_int)) wa_nil)) w_int))
    (wss_one (ws_expr (w_bm PySem.F.plainAttrs_list PySem.F.slot_list_append PySem.F.type_list_append mt_append tyL_ok lf_append (w_var 3) (wa_cons (w_op (rw := modW) op_mod lf_int (w_callTy call_int1 lf_toInt (by rfl) T.m_int (by decide +kernel) (wa_cons (w_var 7) wa_nil)) w_int) wa_nil)))))) wss_nil))))))
    (wss_one (ws_ret (w_var 3))))), fun ws h R ex ⟨ns, i, m, e, hl, hi, hm, q⟩ => ?_⟩
  subst e
  walk_at "st"
  intro p hp
  walk_at "st"
  refine go_forR2 (i : Nat) ns.length (fun RA q => by walk_at "st"; rw [List.length_map]; exact q) (by omega)
    (fun _ ρ' h' => ∃ ms : List Nat, (∀ x ∈ ms, x < 4096) ∧ ms.length ≤ m ∧ ρ' = [some (.scr (ns.map W.int)), some (.int i), some (.int m), some (.ref p), none, none, none, none] ∧ h' = updW h p (.lst (natsW ms)))
    (.of ⟨[], by simp, by simp, rfl, rfl⟩) ?_ ?_
  · rintro j ρ' h' hj ⟨ms, gm, lm, rfl, rfl⟩
    have hk' : i + j < ns.length := by omega
    have e : atI (ns.map W.int) ((i : Int) + (j : Nat)) = some (.int ns[i + j]) := by
      rw [show ((i : Int) + (j : Nat)) = ((i + j : Nat) : Int) by omega]
      exact atI_nat (by rw [List.getElem?_map, List.getElem?_eq_getElem hk']; rfl)
    walk_at "st"
    generalize (ns[i + j]).natAbs = cell
    have fin : ∀ ρ'' h'' (ms : List Nat), (∀ x ∈ ms, x < 4096) → ms.length ≤ m → SubS [some (.scr (ns.map W.int)), some (.int i), some (.int m), some (.ref p), none, none, none, none] ρ'' → h'' = updW h p (.lst (natsW ms)) → CN (fun ρ' h' => ∃ ms : List Nat, (∀ x ∈ ms, x < 4096) ∧ ms.length ≤ m ∧ ρ' = [some (.scr (ns.map W.int)), some (.int i), some (.int m), some (.ref p), none, none, none, none] ∧ h' = updW h p (.lst (natsW ms))) ρ'' h'' := fun ρ'' h'' ms a b s e => ⟨_, _, ⟨ms, a, b, rfl, e⟩, s, .refl _⟩
    refine go_dec (fun hc => ?_) (fun hc => ?_)
    · refine go_forR1 60 (fun RA q => by walk_at "st"; exact q) (by decide)
        (fun _ ρ' h' => ∃ (ms : List Nat) (c : Nat), (∀ x ∈ ms, x < 4096) ∧ ms.length ≤ m ∧ ρ' = [some (.scr (ns.map W.int)), some (.int i), some (.int m), some (.ref p), none, some (.int (c : Nat)), none, none] ∧ h' = updW h p (.lst (natsW ms)))
        ⟨_, _, ⟨ms, cell, gm, lm, rfl, rfl⟩, .same (.same (.same (.same (.no (.same (.no (.no .nil))))))), .refl _⟩ ?_ ?_
      · rintro k ρ' h' hk ⟨ms, c, gm, lm, rfl, rfl⟩
        walk_at "st"
        refine go_dec (fun h1 => ?_) (fun h1 => ?_)
        · walk_at "st"
          rw [List.length_map]
          refine go_dec (fun h2 => ?_) (fun h2 => ?_)
          · walk_at "st"
            refine ⟨_, _, ⟨ms ++ [c % 4096], c / 4096, ?_, ?_, rfl, rfl⟩, ?_, ?_⟩
            · intro x hx
              rcases List.mem_append.mp hx with hx | hx
              · exact gm x hx
              · simp at hx; omega
            · simp; omega
            · exact .same (.same (.same (.same (.no (.cons (fun _ e => by cases e; simp) (.no (.no .nil)))))))
            · rw [updW_upd, ← natsW_snoc]
              exact .refl _
          · walk_at "st"
            exact ⟨_, _, ⟨ms, c, gm, lm, rfl, rfl⟩, .same (.same (.same (.same (.no (.same (.no (.no .nil))))))), .refl _⟩
        · walk_at "st"
          exact ⟨_, _, ⟨ms, c, gm, lm, rfl, rfl⟩, .same (.same (.same (.same (.no (.same (.no (.no .nil))))))), .refl _⟩
      · rintro ρ' h' ⟨ms, c, gm, lm, rfl, rfl⟩
        exact fin _ _ ms gm lm (.same (.same (.same (.same (.no (.no (.no (.no .nil)))))))) rfl
    · walk_at "st"
      rw [List.length_map]
      refine go_dec (fun h2 => ?_) (fun h2 => ?_)
      · walk_at "st"
        show CN _ _ _
        refine snocI ms _ (CN _ _) fun x hx => ?_
        refine fin _ _ (ms ++ [x]) ?_ ?_ (.same (.same (.same (.same (.no (.no (.no (.no .nil)))))))) rfl
        · intro y hy
          rcases List.mem_append.mp hy with hy | hy
          · exact gm y hy
          · simp at hy; omega
        · simp; omega
      · walk_at "st"
        exact fin _ _ ms gm lm (.same (.same (.same (.same (.no (.no (.no (.no .nil)))))))) rfl
  · rintro ρ' h' ⟨ms, gm, lm, rfl, rfl⟩
    walk_at "st"
    exact .frL updW_same (q ms gm lm) hp (.new hp)
/-! ### names -/
abbrev lowC (c : Nat) : Prop := 97 ≤ c ∧ c ≤ 122
abbrev digC (c : Nat) : Prop := 48 ≤ c ∧ c ≤ 57
/-- letters and digits, a letter first, at most so many -/
structure NmL (s : List Nat) (n : Nat) : Prop where
  len : s.length ≤ n
  hd : ∃ c r, s = c :: r ∧ lowC c
  all : ∀ c ∈ s, lowC c ∨ digC c
structure IsNm (s : List Nat) : Prop where
  nm : NmL s 8
  nl : s ≠ wLet
  ni : s ≠ wIn
  nd : s ≠ wDef
theorem NmL.snoc {s : List Nat} {n c : Nat} (x : NmL s n) (hc : lowC c ∨ digC c) : NmL (s ++ [c]) (n + 1) := by
  obtain ⟨a, ⟨d, r, e, l⟩, b⟩ := x
  refine ⟨by simp; omega, ⟨d, r ++ [c], by rw [e]; rfl, l⟩, fun y hy => ?_⟩
  rcases List.mem_append.mp hy with hy | hy
  · exact b y hy
  · simp at hy; subst hy; exact hc
theorem cut_nat {α : Type} (s : List α) (a b : Nat) : cut s (some (a : Int)) (some (b : Int)) = (s.drop a).take (b - a) := by
  unfold cut HT.sIx
  have ha : ¬ ((a : Int) < 0) := by omega
  have hb : ¬ ((b : Int) < 0) := by omega
  simp only [ha, hb, if_false, Int.toNat_natCast]
  by_cases h : a ≤ s.length
  · rw [Nat.min_eq_left h]
    by_cases h2 : b ≤ s.length
    · rw [Nat.min_eq_left h2]
    · rw [Nat.min_eq_right (by omega), List.take_of_length_le (by simp), List.take_of_length_le (by simp; omega)]
  · have e1 : min a s.length = s.length := by omega
    rw [e1, List.drop_of_length_le (Nat.le_refl s.length), List.drop_of_length_le (by omega : s.length ≤ a)]
    simp
theorem cut_to {α : Type} (s : List α) (b : Nat) : cut s none (some (b : Int)) = s.take b := by
  unfold cut HT.sIx
  have hb : ¬ ((b : Int) < 0) := by omega
  simp only [hb, if_false, Int.toNat_natCast, List.drop_zero, Nat.sub_zero]
  by_cases h : b ≤ s.length
  · rw [Nat.min_eq_left h]
  · rw [Nat.min_eq_right (by omega), List.take_of_length_le (Nat.le_refl _), List.take_of_length_le (by omega)]
theorem cut_from {α : Type} (s : List α) (a : Nat) : cut s (some (a : Int)) none = s.drop a := by
  unfold cut HT.sIx
  have ha : ¬ ((a : Int) < 0) := by omega
  simp only [ha, if_false, Int.toNat_natCast]
  by_cases h : a ≤ s.length
  · rw [Nat.min_eq_left h, List.take_of_length_le (by simp)]
  · rw [Nat.min_eq_right (by omega), List.drop_of_length_le (Nat.le_refl s.length), List.drop_of_length_le (by omega : s.length ≤ a)]; simp
theorem atW {P : W → Prop} {l : List W} (hp : ∀ w ∈ l, P w) (i : Int) (h0 : 0 ≤ i) (h1 : i < l.length) : ∃ w, atI l i = some w ∧ P w := by
  obtain ⟨k, rfl⟩ := Int.eq_ofNat_of_zero_le h0
  have h3 : k < l.length := by omega
  exact ⟨l[k], atI_nat (List.getElem?_eq_getElem h3), hp _ (List.getElem_mem h3)⟩
theorem at_lt {l : List Nat} {P : Nat → Prop} (n : Nat) (hl : l.length = n) (h0 : 0 < n) (hp : ∀ c ∈ l, P c) (i : Int) : ∃ c, atI l (i % (n : Int)) = some c ∧ P c := by
  have h1 : 0 ≤ i % (n : Int) := Int.emod_nonneg _ (by omega)
  have h2 : i % (n : Int) < n := Int.emod_lt_of_pos _ (by omega)
  obtain ⟨k, hk⟩ := Int.eq_ofNat_of_zero_le h1
  rw [hk]
  have h3 : k < l.length := by omega
  exact ⟨l[k], atI_nat (List.getElem?_eq_getElem h3), hp _ (List.getElem_mem h3)⟩
/-- the law's name of a number -/
abbrev moreS : List Nat := lettersS ++ digitsS
def lnmC (m k : Nat) : Nat := moreS.getD ((m / 8 ^ (k + 1) * 31 + k * 7) % 36) 0
def lnm0 (n : Nat) : List Nat := lettersS.getD (n % 26) 0 :: (List.range (n / 26 % 8)).map (lnmC (n / 26))
def lnm (n : Nat) : List Nat := if lnm0 n = wLet ∨ lnm0 n = wIn ∨ lnm0 n = wDef then lnm0 n ++ [120] else lnm0 n
theorem lettersS_low : ∀ i < 26, lowC (lettersS.getD i 0) := by decide
theorem moreS_ok : ∀ i < 36, lowC (moreS.getD i 0) ∨ digC (moreS.getD i 0) := by decide
theorem lnm0_nm (n : Nat) : NmL (lnm0 n) 8 := by
  refine ⟨by simp only [lnm0, List.length_cons, List.length_map, List.length_range]; omega, ⟨_, _, rfl, lettersS_low _ (by omega)⟩, fun c hc => ?_⟩
  rcases List.mem_cons.mp hc with rfl | hc
  · exact .inl (lettersS_low _ (by omega))
  · obtain ⟨k, _, rfl⟩ := List.mem_map.mp hc
    exact moreS_ok _ (Nat.mod_lt _ (by decide))
theorem lnm_nm (n : Nat) : IsNm (lnm n) := by
  have hs := lnm0_nm n
  unfold lnm
  generalize lnm0 n = s at hs ⊢
  split
  · rename_i c3
    have l4 : (s ++ [120]).length ≤ 8 := by rcases c3 with e | e | e <;> subst e <;> decide
    refine ⟨⟨l4, ?_, ?_⟩, ?_, ?_, ?_⟩
    · obtain ⟨d, r, e, l⟩ := hs.hd
      exact ⟨d, r ++ [120], by rw [e]; rfl, l⟩
    · intro y hy
      rcases List.mem_append.mp hy with hy | hy
      · exact hs.all y hy
      · simp at hy; subst hy; decide
    all_goals rcases c3 with e | e | e <;> subst e <;> decide
  · rename_i c3
    simp only [not_or] at c3
    exact ⟨hs, c3.1, c3.2.1, c3.2.2⟩
def spNameX : SpW := fun ws h R _ => ∃ n : Nat, ws = [.int (n : Nat)] ∧ R (.str (lnm n)) h
/-- some name -/
def spName : SpW := fun ws h R _ => ∃ n : Nat, ws = [.int (n : Nat)] ∧ ∀ s, IsNm s → R (.str s) h
end

/-! ## kinds and terms -/
inductive Kd where
  | int | bang (a : Kd) | fn (a b : Kd) | pr (a b : Kd)
def Kd.w : Kd → W
  | .int => .tup [.str z_int]
  | .bang a => .tup [.str z_bang, a.w]
  | .fn a b => .tup [.str z_fun, a.w, b.w]
  | .pr a b => .tup [.str z_pair, a.w, b.w]
def Kd.dep : Kd → Nat
  | .int => 1
  | .bang a => a.dep + 1
  | .fn a b => max a.dep b.dep + 1
  | .pr a b => max a.dep b.dep + 1
inductive Tm where
  | var (x : List Nat) | num (n : Int) | op (s : Nat) (a b : Tm) | lam (x : List Nat) (k : Kd) (b : Tm) | app (a b : Tm) | box (a : Tm)
  | lt (x : List Nat) (a b : Tm) | pr (a b : Tm) | sp (x y : List Nat) (a b : Tm)
def Tm.w : Tm → W
  | .var x => .tup [.str z_var, .str x]
  | .num n => .tup [.str z_num, .int n]
  | .op s a b => .tup [.str z_op, .str [s], a.w, b.w]
  | .lam x k b => .tup [.str z_lam, .str x, k.w, b.w]
  | .app a b => .tup [.str z_app, a.w, b.w]
  | .box a => .tup [.str z_box, a.w]
  | .lt x a b => .tup [.str wLet, .str x, a.w, b.w]
  | .pr a b => .tup [.str z_pair, a.w, b.w]
  | .sp x y a b => .tup [.str z_split, .str x, .str y, a.w, b.w]
def Tm.parts : Tm → List Tm
  | .var _ => [] | .num _ => []
  | .op _ a b => [a, b] | .lam _ _ b => [b] | .app a b => [a, b] | .box a => [a]
  | .lt _ a b => [a, b] | .pr a b => [a, b] | .sp _ _ a b => [a, b]
def Tm.size : Tm → Nat
  | .var _ => 1 | .num _ => 1
  | .op _ a b => a.size + b.size + 1 | .lam _ _ b => b.size + 1 | .app a b => a.size + b.size + 1 | .box a => a.size + 1
  | .lt _ a b => a.size + b.size + 1 | .pr a b => a.size + b.size + 1 | .sp _ _ a b => a.size + b.size + 1
def Tm.dep : Tm → Nat
  | .var _ => 1 | .num _ => 1
  | .op _ a b => max a.dep b.dep + 1 | .lam _ _ b => b.dep + 1 | .app a b => max a.dep b.dep + 1 | .box a => a.dep + 1
  | .lt _ a b => max a.dep b.dep + 1 | .pr a b => max a.dep b.dep + 1 | .sp _ _ a b => max a.dep b.dep + 1
/-- what is said of each node -/
def Tm.Ok (N : List Nat → Prop) (I : Int → Prop) (Kp : Kd → Prop) : Tm → Prop
  | .var x => N x | .num n => I n
  | .op s a b => s ∈ [43, 45, 42] ∧ a.Ok N I Kp ∧ b.Ok N I Kp | .lam x k b => N x ∧ Kp k ∧ b.Ok N I Kp | .app a b => a.Ok N I Kp ∧ b.Ok N I Kp | .box a => a.Ok N I Kp
  | .lt x a b => N x ∧ a.Ok N I Kp ∧ b.Ok N I Kp | .pr a b => a.Ok N I Kp ∧ b.Ok N I Kp | .sp x y a b => N x ∧ N y ∧ a.Ok N I Kp ∧ b.Ok N I Kp
theorem fn_false {P : Program} {w : World} {K : PySem.W.Frag} {mg : Str → Option Value} {base : Heap} {CX : CXT} {k : Nat} {f : Addr} {fd : FuncData} {ps : List Str} {sp : SpW} (no : ∀ ws h R ex, ¬ sp ws h R ex) : FnOk P w K mg base CX k f fd ps (lSp K sp) :=
  ⟨fun _ _ _ _ ⟨_, _, _, _, _, _, q, _⟩ => (no _ _ _ _ q).elim, fun _ _ _ _ _ _ _ _ _ _ _ _ _ ⟨_, _, _, _, _, _, q, _⟩ => (no _ _ _ _ q).elim⟩
/-! ### a drawn kind -/
/-- some kind of at most this depth; n bounds the depth of calls -/
def spKind (n : Nat) : SpW := fun ws h R _ => ∃ (i : Nat) (d : Nat), ws = [.int (i : Nat), .int (d : Nat)] ∧ d < n ∧ ∀ k : Kd, k.dep ≤ d + 1 → R k.w h
section
variable {P : Program} {w : World} {K : PySem.W.Frag} {mg : Str → Option Value} {base : Heap}
theorem ok__law_any_kind (T : Tx P w K mg) : ∀ n, FnOk P w K mg base CX0 n T.a__law_any_kind T.fd__law_any_kind ["number", "deep"] (lSp K (spKind n))
  | 0 => fn_false fun ws h R ex ⟨_, _, _, z, _⟩ => absurd z (Nat.not_lt_zero _)
  | n + 1 => by
    have ih := ok__law_any_kind T n
    refine fnW T.F__law_any_kind sc__law_any_kind (fun ws h R ex ⟨_, _, e, _⟩ => by rw [e]; rfl) fun cdv A outer s H E hr => ⟨_, (wss_cons (ws_set (i := 2) sc__law_any_kind.nd (w_op (rw := modW) op_mod lf_int (w_callTy call_int1 lf_toInt (by rfl) T.m_int (by decide +kernel) (wa_cons (w_var 0) wa_nil)) w_int))
    (wss_cons (ws_if (wt_bool (ww_or (wt_cmp (ow_eq hr.units) lf_eq (w_var 1) w_int (nomark _)) (ww_or1 (wt_cmp (rw := ltW) op_lt lf_cmp (w_var 2) w_int (nomark _))))) (wss_one (ws_ret (w_tup (wa_cons (w_str z_int) wa_nil)))) wss_nil)
    (wss_cons (ws_if (wt_cmp (ow_eq hr.units) lf_eq (w_var 2) w_int (nomark _)) (wss_one (ws_ret (w_tup (wa_cons (w_str z_bang) (wa_cons (w_call ih (hr.mono (by walk_at "rm")) (by rfl) T.g__law_any_kind T.F__law_any_kind.kp T.b__law_any_kind (wa_cons (w_op (rw := fdivW) op_fdiv lf_int (w_var 0) w_int) (wa_cons (w_op (rw := subW) op_sub lf_int0 (w_var 1) w_int) wa_nil))) wa_nil))))) wss_nil)
    (wss_cons (ws_set (i := 3) sc__law_any_kind.nd (w_call ih (hr.mono (by walk_at "rm")) (by rfl) T.g__law_any_kind T.F__law_any_kind.kp T.b__law_any_kind (wa_cons (w_op (rw := fdivW) op_fdiv lf_int (w_var 0) w_int) (wa_cons (w_op (rw := subW) op_sub lf_int0 (w_var 1) w_int) wa_nil))))
    (wss_cons (ws_set (i := 4) sc__law_any_kind.nd (w_call ih (hr.mono (by walk_at "rm")) (by rfl) T.g__law_any_kind T.F__law_any_kind.kp T.b__law_any_kind (wa_cons (w_op (rw := fdivW) op_fdiv lf_int (w_var 0) w_int) (wa_cons (w_op (rw := subW) op_sub lf_int0 (w_var 1) w_int) wa_nil))))
    (wss_one (ws_ret (w_tup (wa_cons (w_ix (w_lst (wa_cons (w_str z_fun) (wa_cons (w_str z_fun) (wa_cons (w_str z_pair) wa_nil)))) (w_op (rw := subW) op_sub lf_int0 (w_var 2) w_int)) (wa_cons (w_var 3) (wa_cons (w_var 4) wa_nil))))))))))), fun ws h R ex ⟨i, d, e, hd, q⟩ => ?_⟩
    subst e
    have out : ∀ k : Kd, k.dep ≤ d + 1 → Wl.Cl R k.w h := fun k hk => .of (q k hk)
    walk_at "st"
    refine go_dec (fun c0 => ?_) (fun c0 => ?_)
    · walk_at "st"
      exact out .int (by simp [Kd.dep])
    walk_at "st"
    refine go_dec (fun c1 => ?_) (fun c1 => ?_)
    · walk_at "st"
      exact out .int (by simp [Kd.dep])
    have e6 : (i : Int) / 6 = ((i / 6 : Nat) : Int) := by omega
    have e216 : (i : Int) / 216 = ((i / 216 : Nat) : Int) := by omega
    have ed : (d : Int) - 1 = ((d - 1 : Nat) : Int) := by omega
    walk_at "st"
    refine go_dec (fun c2 => ?_) (fun c2 => ?_)
    · walk_at "st"
      refine ⟨i / 6, d - 1, by rw [e6, ed], by omega, fun k hk => ?_⟩
      walk_at "st"
      exact out (.bang k) (by simp only [Kd.dep]; omega)
    · walk_at "st"
      refine ⟨i / 6, d - 1, by rw [e6, ed], by omega, fun a ha => ?_⟩
      walk_at "st"
      refine ⟨i / 216, d - 1, by rw [e216, ed], by omega, fun b hb => ?_⟩
      walk_at "st"
      rcases (by omega : (i : Int) % 6 - 3 = ((0 : Nat) : Int) ∨ (i : Int) % 6 - 3 = ((1 : Nat) : Int) ∨ (i : Int) % 6 - 3 = ((2 : Nat) : Int)) with e | e | e
      · have e3 : atI [W.str z_fun, .str z_fun, .str z_pair] ((i : Int) % 6 - 3) = some (.str z_fun) := by rw [e]; exact atI_nat rfl
        walk_at "st"
        exact out (.fn a b) (by simp only [Kd.dep]; omega)
      · have e3 : atI [W.str z_fun, .str z_fun, .str z_pair] ((i : Int) % 6 - 3) = some (.str z_fun) := by rw [e]; exact atI_nat rfl
        walk_at "st"
        exact out (.fn a b) (by simp only [Kd.dep]; omega)
      · have e3 : atI [W.str z_fun, .str z_fun, .str z_pair] ((i : Int) % 6 - 3) = some (.str z_pair) := by rw [e]; exact atI_nat rfl
        walk_at "st"
        exact out (.pr a b) (by simp only [Kd.dep]; omega)
end
theorem sk (s : List Nat) : PyData.strOk (mkS s) = s.all fun c => decide (c < 0x110000) := by
  unfold PyData.strOk
  rw [← Array.all_toList]
  rfl
theorem sAll {s : List Nat} (h : ∀ c ∈ s, c < 128) : (s.all fun c => decide (c < 0x110000)) = true := by
  rw [List.all_eq_true]
  intro c hc
  have := h c hc
  simp; omega
theorem strOk_of {s : List Nat} (h : ∀ c ∈ s, c < 128) : PyData.strOk (mkS s) = true := by rw [sk]; exact sAll h
theorem Kd.data (k : Kd) : dataW k.w = true ∧ depW k.w ≤ k.dep := by
  induction k with
  | int => exact ⟨by simp only [Kd.w, dataW, datasW, sk]; decide, by decide⟩
  | bang a ih => exact ⟨by simp only [Kd.w, dataW, datasW, sk, ih.1]; decide, by simp only [Kd.w, depW, depsW, Kd.dep]; omega⟩
  | fn a b iha ihb => exact ⟨by simp only [Kd.w, dataW, datasW, sk, iha.1, ihb.1]; decide, by simp only [Kd.w, depW, depsW, Kd.dep]; omega⟩
  | pr a b iha ihb => exact ⟨by simp only [Kd.w, dataW, datasW, sk, iha.1, ihb.1]; decide, by simp only [Kd.w, depW, depsW, Kd.dep]; omega⟩
theorem IsNm.asc {s : List Nat} (h : IsNm s) : ∀ c ∈ s, c < 128 := fun c hc => by
  rcases h.nm.all c hc with z | z <;> omega
/-- a term of the law's making -/
abbrev TmOk (t : Tm) : Prop := t.Ok IsNm (fun n => 0 ≤ n ∧ n ≤ 1000000) (fun k => k.dep ≤ 4)
theorem Tm.data : ∀ t : Tm, TmOk t → dataW t.w = true ∧ depW t.w ≤ t.dep + 4
  | .var x, h => ⟨by simp only [Tm.w, dataW, datasW, sk, sAll (IsNm.asc h)]; decide, by simp only [Tm.w, depW, depsW, Tm.dep]; omega⟩
  | .num n, h => ⟨by simp only [Tm.w, dataW, datasW, sk]; decide, by simp only [Tm.w, depW, depsW, Tm.dep]; omega⟩
  | .op s a b, h => by
    obtain ⟨hs, ha, hb⟩ := h
    have ia := Tm.data a ha; have ib := Tm.data b hb
    refine ⟨?_, by simp only [Tm.w, depW, depsW, Tm.dep]; omega⟩
    simp only [Tm.w, dataW, datasW, sk, ia.1, ib.1, sAll (s := [s]) (by intro c hc; simp at hc hs; omega)]; decide
  | .lam x k b, h => by
    obtain ⟨hx, hk, hb⟩ := h
    have ib := Tm.data b hb; have ik := Kd.data k
    exact ⟨by simp only [Tm.w, dataW, datasW, sk, ib.1, ik.1, sAll hx.asc]; decide, by simp only [Tm.w, depW, depsW, Tm.dep]; omega⟩
  | .app a b, h => by
    have ia := Tm.data a h.1; have ib := Tm.data b h.2
    exact ⟨by simp only [Tm.w, dataW, datasW, sk, ia.1, ib.1]; decide, by simp only [Tm.w, depW, depsW, Tm.dep]; omega⟩
  | .box a, h => by
    have ia := Tm.data a h
    exact ⟨by simp only [Tm.w, dataW, datasW, sk, ia.1]; decide, by simp only [Tm.w, depW, depsW, Tm.dep]; omega⟩
  | .lt x a b, h => by
    have ia := Tm.data a h.2.1; have ib := Tm.data b h.2.2
    exact ⟨by simp only [Tm.w, dataW, datasW, sk, ia.1, ib.1, sAll h.1.asc]; decide, by simp only [Tm.w, depW, depsW, Tm.dep]; omega⟩
  | .pr a b, h => by
    have ia := Tm.data a h.1; have ib := Tm.data b h.2
    exact ⟨by simp only [Tm.w, dataW, datasW, sk, ia.1, ib.1]; decide, by simp only [Tm.w, depW, depsW, Tm.dep]; omega⟩
  | .sp x y a b, h => by
    have ia := Tm.data a h.2.2.1; have ib := Tm.data b h.2.2.2
    exact ⟨by simp only [Tm.w, dataW, datasW, sk, ia.1, ib.1, sAll h.1.asc, sAll h.2.1.asc]; decide, by simp only [Tm.w, depW, depsW, Tm.dep]; omega⟩
theorem Tms.data : ∀ (ts : List Tm) (n : Nat), (∀ t ∈ ts, TmOk t ∧ t.dep ≤ n) → datasW (ts.map Tm.w) = true ∧ depsW (ts.map Tm.w) ≤ n + 4
  | [], n, _ => ⟨rfl, Nat.zero_le _⟩
  | t :: ts, n, h => by
    obtain ⟨a, b⟩ := Tms.data ts n fun u hu => h u (List.mem_cons_of_mem _ hu)
    obtain ⟨ho, hd⟩ := h t List.mem_cons_self
    have it := Tm.data t ho
    exact ⟨by simp only [List.map_cons, datasW, it.1, a]; rfl, by simp only [List.map_cons, depsW]; omega⟩
abbrev tmsW (ts : List Tm) : List W := ts.map Tm.w
/-- pop, or the other one -/
def spPop : SpW := fun ws h R _ => ∃ (p : Addr) (ts : List Tm) (o : Tm), ws = [.ref p, o.w] ∧ h p = some (.lst (tmsW ts)) ∧ (∀ t ∈ ts, TmOk t ∧ t.dep ≤ 50) ∧
  (ts = [] → R o.w h) ∧ ∀ i l, ts = i ++ [l] → R l.w (updW h p (.lst (tmsW i)))
section
variable {P : Program} {w : World} {K : PySem.W.Frag} {mg : Str → Option Value} {base : Heap}
theorem ok__law_pop (T : Tx P w K mg) : FnOk P w K mg base CX0 1 T.a__law_pop T.fd__law_pop ["stack", "other"] (lSp K spPop) := by
  refine fnW T.F__law_pop sc__law_pop (fun ws h R ex ⟨_, _, _, e, _⟩ => by rw [e]; rfl) fun cdv A outer s H E hr => ⟨_, (wss_cons (ws_if (wt_cmp (ow_eq hr.units) lf_eq (w_var 0) (w_lst wa_nil) (nomark _)) (wss_one (ws_ret (w_var 1))) wss_nil)
    (wss_one (ws_ret (w_bm0 PySem.F.plainAttrs_list PySem.F.slot_list_pop PySem.F.type_list_pop mt_pop tyL_ok lf_pop (w_var 0))))), fun ws h R ex ⟨p, ts, o, e, hp, ho, q0, q1⟩ => ?_⟩
  subst e
  obtain ⟨d1, d2⟩ := Tms.data ts 50 ho
  walk_at "st"
  refine go_eqO hp d1 rfl (by show depsW (ts.map Tm.w) + 1 ≤ 64; omega) (by decide) ?_
  rw [eqD_nil]
  rcases List.eq_nil_or_concat ts with rfl | ⟨i, l, rfl⟩
  · walk_at "st"
    exact .of (q0 rfl)
  · have e : (tmsW (i.concat l)).isEmpty = false := by simp [tmsW]
    rw [e]
    walk_at "st"
    refine go_pop (xs := tmsW i) (w := l.w) (by rw [hp]; simp [tmsW]) ?_
    exact .of (q1 i l (by simp))
end
/-! ### a drawn term -/
def Tm.sizes : List Tm → Nat
  | [] => 0
  | t :: ts => t.size + Tm.sizes ts
theorem Tm.sizes_snoc (ts : List Tm) (t : Tm) : Tm.sizes (ts ++ [t]) = Tm.sizes ts + t.size := by
  induction ts with
  | nil => simp [Tm.sizes]
  | cons u ts ih => simp only [List.cons_append, Tm.sizes, ih]; omega
theorem Tm.size_pos (t : Tm) : 0 < t.size := by cases t <;> simp [Tm.size]
theorem Tm.dep_le : ∀ t : Tm, t.dep ≤ t.size
  | .var _ => by simp [Tm.dep, Tm.size] | .num _ => by simp [Tm.dep, Tm.size]
  | .op _ a b => by have := Tm.dep_le a; have := Tm.dep_le b; simp only [Tm.dep, Tm.size]; omega
  | .lam _ _ b => by have := Tm.dep_le b; simp only [Tm.dep, Tm.size]; omega
  | .app a b => by have := Tm.dep_le a; have := Tm.dep_le b; simp only [Tm.dep, Tm.size]; omega
  | .box a => by have := Tm.dep_le a; simp only [Tm.dep, Tm.size]; omega
  | .lt _ a b => by have := Tm.dep_le a; have := Tm.dep_le b; simp only [Tm.dep, Tm.size]; omega
  | .pr a b => by have := Tm.dep_le a; have := Tm.dep_le b; simp only [Tm.dep, Tm.size]; omega
  | .sp _ _ a b => by have := Tm.dep_le a; have := Tm.dep_le b; simp only [Tm.dep, Tm.size]; omega
/-- the names of a split are different ones -/
def Tm.Dis : Tm → Prop
  | .var _ => True | .num _ => True
  | .op _ a b => a.Dis ∧ b.Dis | .lam _ _ b => b.Dis | .app a b => a.Dis ∧ b.Dis | .box a => a.Dis
  | .lt _ a b => a.Dis ∧ b.Dis | .pr a b => a.Dis ∧ b.Dis | .sp x y a b => x ≠ y ∧ a.Dis ∧ b.Dis
/-- the stack after i numbers -/
structure StOk (D : Prop) (ts : List Tm) (i : Nat) : Prop where
  ds : D → ∀ t ∈ ts, t.Dis
  ok : ∀ t ∈ ts, TmOk t ∧ t.dep ≤ i + 1
  sz : Tm.sizes ts ≤ 3 * i
  ln : ts.length ≤ i
structure Pops (D : Prop) (ts : List Tm) (i : Nat) (t : Tm) (us : List Tm) : Prop where
  dt : D → t.Dis
  du : D → ∀ u ∈ us, u.Dis
  ok : TmOk t ∧ t.dep ≤ i + 1
  rest : ∀ u ∈ us, TmOk u ∧ u.dep ≤ i + 1
  sz : t.size + Tm.sizes us ≤ Tm.sizes ts + 1
  ln : us.length ≤ ts.length
theorem pop_use {D : Prop} {h0 : HW} {p : Addr} {ts : List Tm} {i : Nat} {x : List Nat} {R : KW} {ex : XW → HW → Prop} (ds : D → ∀ t ∈ ts, t.Dis) (ok : ∀ t ∈ ts, TmOk t ∧ t.dep ≤ i + 1) (hi : i ≤ 49) (hx : IsNm x) (k : ∀ t us, Pops D ts i t us → R t.w (updW h0 p (.lst (tmsW us)))) :
    spPop [.ref p, .tup [.str z_var, .str x]] (updW h0 p (.lst (tmsW ts))) R ex := by
  refine ⟨p, ts, .var x, rfl, updW_same, fun t ht => ⟨(ok t ht).1, by have := (ok t ht).2; omega⟩, fun e => ?_, fun init l e => ?_⟩
  · subst e
    exact k (.var x) [] ⟨fun _ => trivial, by simp, ⟨hx, by simp [Tm.dep]⟩, by simp, by simp [Tm.size, Tm.sizes], Nat.le_refl _⟩
  · subst e
    rw [updW_upd]
    refine k l init ⟨fun d => ds d l (by simp), fun d u hu => ds d u (List.mem_append_left _ hu), ok l (by simp), fun u hu => ok u (List.mem_append_left _ hu), ?_, by simp⟩
    rw [Tm.sizes_snoc]; omega
theorem tmsW_snoc (ts : List Tm) (t : Tm) (w : W) (e : t.w = w) : tmsW ts ++ [w] = tmsW (ts ++ [t]) := by subst e; simp [tmsW]
/-- one more node on the stack -/
theorem StOk.push {D : Prop} {ts us : List Tm} {i : Nat} {t : Tm} (h : StOk D ts i) (hds : D → ∀ u ∈ us, u.Dis) (hdt : D → t.Dis) (hu : ∀ u ∈ us, TmOk u ∧ u.dep ≤ i + 1) (ht : TmOk t) (hd : t.dep ≤ i + 2) (hs : t.size + Tm.sizes us ≤ Tm.sizes ts + 3) (hl : us.length ≤ ts.length) : StOk D (us ++ [t]) (i + 1) := by
  refine ⟨fun d u hu' => ?_, fun u hu' => ?_, ?_, ?_⟩
  · rcases List.mem_append.mp hu' with z | z
    · exact hds d u z
    · simp at z; subst z; exact hdt d
  · rcases List.mem_append.mp hu' with z | z
    · have := hu u z; exact ⟨this.1, by omega⟩
    · simp at z; subst z; exact ⟨ht, hd⟩
  · rw [Tm.sizes_snoc]; have := h.sz; omega
  · have := h.ln; simp; omega
def spTerm : SpW := fun ws h R _ => ∃ (ms : List Nat) (ns : List (List Nat)), ws = [.lst (natsW ms), .lst (strsW ns)] ∧ (∀ x ∈ ms, x < 4096) ∧ ms.length ≤ 40 ∧ 0 < ns.length ∧ (∀ s ∈ ns, IsNm s) ∧
  ∀ t : Tm, TmOk t → t.dep ≤ ms.length + 1 → t.size ≤ 3 * ms.length + 1 → (ns.Nodup ∧ 2 ≤ ns.length → t.Dis) → R t.w h
section
variable {P : Program} {w : World} {K : PySem.W.Frag} {mg : Str → Option Value} {base : Heap}
theorem ok__law_any_term (T : Tx P w K mg) : FnOk P w K mg base CX0 6 T.a__law_any_term T.fd__law_any_term ["numbers", "names"] (lSp K spTerm) := by
  refine fnW T.F__law_any_term sc__law_any_term (fun ws h R ex ⟨_, _, e, _⟩ => by rw [e]; rfl) fun cdv A outer s H E hr => ⟨_, (wss_cons (ws_set (i := 2) sc__law_any_term.nd (w_lstO wa_nil))
    (wss_cons (ws_for PassesOwn.never rfl (wi_list (w_var 0)) (wg_name (i := 3) sc__law_any_term.nd) (wss_cons (ws_set (i := 4) sc__law_any_term.nd (w_op (rw := modW) op_mod lf_int (w_callTy call_int1 lf_toInt (by rfl) T.m_int (by decide +kernel) (wa_cons (w_var 3) wa_nil)) w_int))
    (wss_cons (ws_set (i := 5) sc__law_any_term.nd (w_op (rw := fdivW) op_fdiv lf_int (w_callTy call_int1 lf_toInt (by rfl) T.m_int (by decide +kernel) (wa_cons (w_var 3) wa_nil)) w_int))
    (wss_cons (ws_set (i := 6) sc__law_any_term.nd (w_ix (w_var 1) (w_op (rw := modW) op_mod lf_int (w_var 5) (w_callB call_len lf_len (by rfl) T.m_len (by decide +kernel) (wa_cons (w_var 1) wa_nil)))))
    (wss_cons (ws_set (i := 7) sc__law_any_term.nd (w_ix (w_var 1) (w_op (rw := modW) op_mod lf_int (w_op ow_add lf_add (w_op (rw := modW) op_mod lf_int (w_var 5) (w_callB call_len lf_len (by rfl) T.m_len (by decide +kernel) (wa_cons (w_var 1) wa_nil))) w_int) (w_callB call_len lf_len (by rfl) T.m_len (by decide +kernel) (wa_cons (w_var 1) wa_nil)))))
    (wss_cons (ws_set (i := 8) sc__law_any_term.nd (w_tup (wa_cons (w_str z_var) (wa_cons (w_var 6) wa_nil))))
    (wss_one (ws_if (wt_cmp (rw := ltW) op_lt lf_cmp (w_var 4) w_int (nomark _)) (wss_one (ws_expr (w_bm PySem.F.plainAttrs_list PySem.F.slot_list_append PySem.F.type_list_append mt_append tyL_ok lf_append (w_var 2) (wa_cons (w_var 8) wa_nil)))) (wss_one (ws_if (wt_cmp (ow_eq hr.units) lf_eq (w_var 4) w_int (nomark _)) (wss_one (ws_expr (w_bm PySem.F.plainAttrs_list PySem.F.slot_list_append PySem.F.type_list_append mt_append tyL_ok lf_append (w_var 2) (wa_cons (w_tup (wa_cons (w_str z_num) (wa_cons (w_op (rw := mulW) op_mul lf_int (w_op (rw := mulW) op_mul lf_int (w_var 5) (w_var 5)) (w_op ow_add lf_add w_int (w_op (rw := modW) op_mod lf_int (w_var 5) w_int))) wa_nil))) wa_nil)))) (wss_one (ws_if (wt_cmp (ow_eq hr.units) lf_eq (w_var 4) w_int (nomark _)) (wss_one (ws_expr (w_bm PySem.F.plainAttrs_list PySem.F.slot_list_append PySem.F.type_list_append mt_append tyL_ok lf_append (w_var 2) (wa_cons (w_tup (wa_cons (w_str z_lam) (wa_cons (w_var 6) (wa_cons (w_call (ok__law_any_kind T 4) (hr.mono (by walk_at "rm")) (by rfl) T.g__law_any_kind T.F__law_any_kind.kp T.b__law_any_kind (wa_cons (w_var 5) (wa_cons w_int wa_nil))) (wa_cons (w_call (ok__law_pop T) (hr.mono (by walk_at "rm")) (by rfl) T.g__law_pop T.F__law_pop.kp T.b__law_pop (wa_cons (w_var 2) (wa_cons (w_var 8) wa_nil))) wa_nil))))) wa_nil)))) (wss_one (ws_if (wt_cmp (ow_eq hr.units) lf_eq (w_var 4) w_int (nomark _)) (wss_one (ws_expr (w_bm PySem.F.plainAttrs_list PySem.F.slot_list_append PySem.F.type_list_append mt_append tyL_ok lf_append (w_var 2) (wa_cons (w_tup (wa_cons (w_str z_box) (wa_cons (w_call (ok__law_pop T) (hr.mono (by walk_at "rm")) (by rfl) T.g__law_pop T.F__law_pop.kp T.b__law_pop (wa_cons (w_var 2) (wa_cons (w_var 8) wa_nil))) wa_nil))) wa_nil)))) (wss_cons (ws_set (i := 9) sc__law_any_term.nd (w_call (ok__law_pop T) (hr.mono (by walk_at "rm")) (by rfl) T.g__law_pop T.F__law_pop.kp T.b__law_pop (wa_cons (w_var 2) (wa_cons (w_var 8) wa_nil))))
    (wss_cons (ws_set (i := 10) sc__law_any_term.nd (w_call (ok__law_pop T) (hr.mono (by walk_at "rm")) (by rfl) T.g__law_pop T.F__law_pop.kp T.b__law_pop (wa_cons (w_var 2) (wa_cons (w_var 8) wa_nil))))
    (wss_one (ws_if (wt_cmp (ow_eq hr.units) lf_eq (w_var 4) w_int (nomark _)) (wss_one (ws_expr (w_bm PySem.F.plainAttrs_list PySem.F.slot_list_append PySem.F.type_list_append mt_append tyL_ok lf_append (w_var 2) (wa_cons (w_tup (wa_cons (w_str z_op) (wa_cons (w_ix (w_str z_x2bx2dx2a) (w_op (rw := modW) op_mod lf_int (w_var 5) w_int)) (wa_cons (w_var 10) (wa_cons (w_var 9) wa_nil))))) wa_nil)))) (wss_one (ws_if (wt_cmp (ow_eq hr.units) lf_eq (w_var 4) w_int (nomark _)) (wss_one (ws_expr (w_bm PySem.F.plainAttrs_list PySem.F.slot_list_append PySem.F.type_list_append mt_append tyL_ok lf_append (w_var 2) (wa_cons (w_tup (wa_cons (w_str z_app) (wa_cons (w_var 10) (wa_cons (w_var 9) wa_nil)))) wa_nil)))) (wss_one (ws_if (wt_cmp (ow_eq hr.units) lf_eq (w_var 4) w_int (nomark _)) (wss_one (ws_expr (w_bm PySem.F.plainAttrs_list PySem.F.slot_list_append PySem.F.type_list_append mt_append tyL_ok lf_append (w_var 2) (wa_cons (w_tup (wa_cons (w_str wLet) (wa_cons (w_var 6) (wa_cons (w_var 10) (wa_cons (w_var 9) wa_nil))))) wa_nil)))) (wss_one (ws_if (wt_cmp (ow_eq hr.units) lf_eq (w_var 4) w_int (nomark _)) (wss_one (ws_expr (w_bm PySem.F.plainAttrs_list PySem.F.slot_list_append PySem.F.type_list_append mt_append tyL_ok lf_append (w_var 2) (wa_cons (w_tup (wa_cons (w_str z_pair) (wa_cons (w_var 10) (wa_cons (w_var 9) wa_nil)))) wa_nil)))) (wss_one (ws_expr (w_bm PySem.F.plainAttrs_list PySem.F.slot_list_append PySem.F.type_list_append mt_append tyL_ok lf_append (w_var 2) (wa_cons (w_tup (wa_cons (w_str z_split) (wa_cons (w_var 6) (wa_cons (w_var 7) (wa_cons (w_var 10) (wa_cons (w_var 9) wa_nil)))))) wa_nil))))))))))))))))))))))))))))
    (wss_cons (ws_if (wt_cmp (ow_eq hr.units) lf_eq (w_var 2) (w_lst wa_nil) (nomark _)) (wss_one (ws_ret (w_tup (wa_cons (w_str z_num) (wa_cons w_int wa_nil))))) wss_nil)
    (wss_one (ws_ret (w_bm0 PySem.F.plainAttrs_list PySem.F.slot_list_pop PySem.F.type_list_pop mt_pop tyL_ok lf_pop (w_var 2))))))), fun ws h R ex ⟨ms, ns, e, hm, lm, ln, hn, q⟩ => ?_⟩
  subst e
  obtain ⟨D, eD⟩ : ∃ D : Prop, D = (ns.Nodup ∧ 2 ≤ ns.length) := ⟨_, rfl⟩
  rw [← eD] at q
  walk_at "st"
  intro p hp
  walk_at "st"
  have ls : (strsW ns).length = ns.length := by simp [strsW]
  refine go_forL (natsW ms) (fun R q => by walk_at "st"; exact q)
    (fun i ρ' h' => ∃ ts : List Tm, StOk D ts i ∧ ρ' = [some (.lst (natsW ms)), some (.lst (strsW ns)), some (.ref p), none, none, none, none, none, none, none, none] ∧ h' = updW h p (.lst (tmsW ts)))
    (.of ⟨[], ⟨by simp, by simp, by simp [Tm.sizes], by simp⟩, rfl, rfl⟩) ?_ ?_
  · rintro i w ρ' h' hw ⟨ts, st, rfl, rfl⟩
    have hi : i < ms.length := by have := (List.getElem?_eq_some_iff.mp hw).1; simpa using this
    have ew : w = .int (ms[i] : Nat) := by rw [List.getElem?_map, List.getElem?_eq_getElem hi] at hw; exact (Option.some.inj hw).symm
    subst ew
    have m4 := hm _ (List.getElem_mem hi)
    generalize ms[i] = m at m4
    have sw : ∀ (j : Nat) (hj : j < ns.length), atI (strsW ns) (j : Int) = some (.str ns[j]) := fun j hj => atI_nat (by rw [strsW, List.getElem?_map, List.getElem?_eq_getElem hj]; rfl)
    have j1 : m / 10 % ns.length < ns.length := Nat.mod_lt _ ln
    have j2 : (m / 10 % ns.length + 1) % ns.length < ns.length := Nat.mod_lt _ ln
    have e1 := sw _ j1
    have e2 := sw _ j2
    have hx := hn _ (List.getElem_mem j1)
    have hy := hn _ (List.getElem_mem j2)
    have hxy : D → ns[m / 10 % ns.length] ≠ ns[(m / 10 % ns.length + 1) % ns.length] := fun d z => by
      rw [eD] at d
      have := (List.getElem_inj d.1).mp z
      have d2 := d.2
      by_cases c : m / 10 % ns.length + 1 < ns.length
      · rw [Nat.mod_eq_of_lt c] at this; omega
      · rw [show m / 10 % ns.length + 1 = ns.length by omega, Nat.mod_self] at this; omega
    rw [show ((m / 10 % ns.length : Nat) : Int) = (m : Int) / 10 % ((strsW ns).length : Int) by rw [ls, Int.natCast_emod, Int.natCast_ediv]; rfl] at e1
    rw [show (((m / 10 % ns.length + 1) % ns.length : Nat) : Int) = ((m : Int) / 10 % ((strsW ns).length : Int) + 1) % ((strsW ns).length : Int) by rw [ls, Int.natCast_emod, Int.natCast_add, Int.natCast_emod, Int.natCast_ediv]; rfl] at e2
    generalize ns[m / 10 % ns.length] = x at e1 hx hxy
    generalize ns[(m / 10 % ns.length + 1) % ns.length] = y at e2 hy hxy
    have lts := st.ln
    have lt2 : (tmsW ts).length = ts.length := by simp [tmsW]
    have fin : ∀ ρ2 h2 (us : List Tm) (t : Tm), SubS [some (.lst (natsW ms)), some (.lst (strsW ns)), some (.ref p), none, none, none, none, none, none, none, none] ρ2 → (D → ∀ u ∈ us, u.Dis) → (D → t.Dis) → (∀ u ∈ us, TmOk u ∧ u.dep ≤ i + 1) → TmOk t → t.dep ≤ i + 2 → t.size + Tm.sizes us ≤ Tm.sizes ts + 3 → us.length ≤ ts.length →
        h2 = updW h p (.lst (tmsW us ++ [t.w])) → CN (fun ρ' h' => ∃ ts : List Tm, StOk D ts (i + 1) ∧ ρ' = [some (.lst (natsW ms)), some (.lst (strsW ns)), some (.ref p), none, none, none, none, none, none, none, none] ∧ h' = updW h p (.lst (tmsW ts))) ρ2 h2 :=
      fun ρ2 h2 us t sub d1 d2 a b c d e f => ⟨_, _, ⟨us ++ [t], st.push d1 d2 a b c d e, rfl, rfl⟩, sub, by rw [f, tmsW_snoc us t _ rfl]; exact .refl _⟩
    have sub : ∀ a b c d e f g hh : Option W, SubS [some (.lst (natsW ms)), some (.lst (strsW ns)), some (.ref p), none, none, none, none, none, none, none, none] [some (.lst (natsW ms)), some (.lst (strsW ns)), some (.ref p), a, b, c, d, e, f, g, hh] := fun _ _ _ _ _ _ _ _ => .same (.same (.same (.no (.no (.no (.no (.no (.no (.no (.no .nil))))))))))
    have hi50 : i ≤ 49 := by omega
    have q10 : (m : Int) / 10 = ((m / 10 : Nat) : Int) := by omega
    walk_at "st"
    refine go_dec (fun c1 => ?_) (fun c1 => ?_)
    · walk_at "st"
      exact fin _ _ ts (.var x) (sub ..) st.ds (fun _ => trivial) st.ok hx (by simp [Tm.dep]) (by simp only [Tm.size]; omega) (Nat.le_refl _) (by rw [updW_upd]; rfl)
    walk_at "st"
    refine go_dec (fun c2 => ?_) (fun c2 => ?_)
    · walk_at "st"
      refine fin _ _ ts (.num ((m : Int) / 10 * ((m : Int) / 10) * (1 + (m : Int) / 10 % 5))) (sub ..) st.ds (fun _ => trivial) st.ok ?_ (by simp [Tm.dep]) (by simp only [Tm.size]; omega) (Nat.le_refl _) (by rw [updW_upd]; rfl)
      rw [q10]
      have hr : m / 10 ≤ 409 := by omega
      generalize m / 10 = r at hr
      have e5 : (1 + (r : Int) % 5) = ((1 + r % 5 : Nat) : Int) := by omega
      rw [e5, ← Int.natCast_mul, ← Int.natCast_mul]
      have h1 := Nat.mul_le_mul hr hr
      have h2 := Nat.mul_le_mul h1 (show 1 + r % 5 ≤ 5 by omega)
      exact ⟨Int.natCast_nonneg _, by omega⟩
    walk_at "st"
    refine go_dec (fun c5 => ?_) (fun c5 => ?_)
    · walk_at "st"
      refine ⟨m / 10, 3, by rw [q10]; rfl, by decide, fun k hk => ?_⟩
      walk_at "st"
      refine pop_use st.ds st.ok hi50 hx fun t us ps => ?_
      have lus : (tmsW us).length = us.length := by simp [tmsW]
      have := ps.ln
      walk_at "st"
      exact fin _ _ us (.lam x k t) (sub ..) ps.du ps.dt ps.rest ⟨hx, hk, ps.ok.1⟩ (by have := ps.ok.2; simp only [Tm.dep]; omega) (by have := ps.sz; simp only [Tm.size]; omega) ps.ln (by rw [updW_upd]; rfl)
    walk_at "st"
    refine go_dec (fun c6 => ?_) (fun c6 => ?_)
    · walk_at "st"
      refine pop_use st.ds st.ok hi50 hx fun t us ps => ?_
      have lus : (tmsW us).length = us.length := by simp [tmsW]
      have := ps.ln
      walk_at "st"
      exact fin _ _ us (.box t) (sub ..) ps.du ps.dt ps.rest ps.ok.1 (by have := ps.ok.2; simp only [Tm.dep]; omega) (by have := ps.sz; simp only [Tm.size]; omega) ps.ln (by rw [updW_upd]; rfl)
    walk_at "st"
    refine pop_use st.ds st.ok hi50 hx fun b us1 ps1 => ?_
    walk_at "st"
    refine pop_use ps1.du ps1.rest hi50 hx fun a us ps => ?_
    have lus : (tmsW us).length = us.length := by simp [tmsW]
    have := ps.ln
    have := ps1.ln
    have nd : max a.dep b.dep + 1 ≤ i + 2 := by have := ps.ok.2; have := ps1.ok.2; omega
    have nz : a.size + b.size + 1 + Tm.sizes us ≤ Tm.sizes ts + 3 := by have := ps.sz; have := ps1.sz; omega
    have nl : us.length ≤ ts.length := by omega
    walk_at "st"
    refine go_dec (fun c3 => ?_) (fun c3 => ?_)
    · obtain ⟨c, ec, hc⟩ := at_lt (P := fun c => c ∈ [43, 45, 42]) (l := z_x2bx2dx2a) 3 rfl (by decide) (by decide) ((m : Int) / 10)
      walk_at "st"
      exact fin _ _ us (.op c a b) (sub ..) ps.du (fun d => ⟨ps.dt d, ps1.dt d⟩) ps.rest ⟨hc, ps.ok.1, ps1.ok.1⟩ nd nz nl (by rw [updW_upd]; rfl)
    walk_at "st"
    refine go_dec (fun c4 => ?_) (fun c4 => ?_)
    · walk_at "st"
      exact fin _ _ us (.app a b) (sub ..) ps.du (fun d => ⟨ps.dt d, ps1.dt d⟩) ps.rest ⟨ps.ok.1, ps1.ok.1⟩ nd nz nl (by rw [updW_upd]; rfl)
    walk_at "st"
    refine go_dec (fun c7 => ?_) (fun c7 => ?_)
    · walk_at "st"
      exact fin _ _ us (.lt x a b) (sub ..) ps.du (fun d => ⟨ps.dt d, ps1.dt d⟩) ps.rest ⟨hx, ps.ok.1, ps1.ok.1⟩ nd nz nl (by rw [updW_upd]; rfl)
    walk_at "st"
    refine go_dec (fun c8 => ?_) (fun c8 => ?_)
    · walk_at "st"
      exact fin _ _ us (.pr a b) (sub ..) ps.du (fun d => ⟨ps.dt d, ps1.dt d⟩) ps.rest ⟨ps.ok.1, ps1.ok.1⟩ nd nz nl (by rw [updW_upd]; rfl)
    · walk_at "st"
      exact fin _ _ us (.sp x y a b) (sub ..) ps.du (fun d => ⟨hxy d, ps.dt d, ps1.dt d⟩) ps.rest ⟨hx, hy, ps.ok.1, ps1.ok.1⟩ nd nz nl (by rw [updW_upd]; rfl)
  · rintro ρ' h' ⟨ts, st, rfl, rfl⟩
    obtain ⟨d1, d2⟩ := Tms.data ts 50 fun t ht => ⟨(st.ok t ht).1, by have := (st.ok t ht).2; simp at this; omega⟩
    walk_at "st"
    refine go_eqO updW_same d1 rfl (by show depsW (ts.map Tm.w) + 1 ≤ 64; omega) (by decide) ?_
    rw [eqD_nil]
    have hz := st.sz
    rw [List.length_map] at hz
    have ok1 := st.ok
    rcases List.eq_nil_or_concat ts with rfl | ⟨init, l, rfl⟩
    · rw [show (tmsW []).isEmpty = true from rfl]
      walk_at "st"
      exact .base (q (.num 0) ⟨by decide, by decide⟩ (by simp [Tm.dep]) (by simp [Tm.size]) fun _ => trivial) (.new hp)
    · rw [List.concat_eq_append] at *
      have e : (tmsW (init ++ [l])).isEmpty = false := by simp [tmsW]
      rw [e]
      walk_at "st"
      refine go_pop (xs := tmsW init) (w := l.w) (by rw [updW_same]; simp [tmsW]) ?_
      rw [updW_upd]
      obtain ⟨o1, o2⟩ := ok1 l (by simp)
      rw [Tm.sizes_snoc] at hz
      rw [List.length_map] at o2
      exact .base (q l o1 (by omega) (by omega) (fun d => st.ds d l (by simp))) (.new hp)
end
def spNames : SpW := fun ws h R _ => ∃ (ns : List Int) (i : Nat), ws = [.scr (ns.map W.int), .int (i : Nat)] ∧ ∀ xs : List (List Nat), (∀ s ∈ xs, IsNm s) → 2 ≤ xs.length → xs.length ≤ 3 → xs.Nodup → R (.lst (strsW xs)) h
theorem strsW_snoc (ts : List (List Nat)) (t : List Nat) : strsW ts ++ [.str t] = strsW (ts ++ [t]) := by simp [strsW]
theorem flat_strs : ∀ ts : List (List Nat), (strsW ts).all flatW = true
  | [] => rfl
  | _ :: ts => flat_strs ts
theorem any_strs (x : List Nat) : ∀ ts : List (List Nat), ((strsW ts).any fun w => eqF w (.str x)) = decide (x ∈ ts)
  | [] => by simp [strsW]
  | t :: ts => by
    show (decide (t = x) || (strsW ts).any fun w => eqF w (.str x)) = _
    rw [any_strs x ts, Bool.eq_iff_iff, Bool.or_eq_true, decide_eq_true_eq, decide_eq_true_eq, decide_eq_true_eq, List.mem_cons]
    exact ⟨fun h => h.elim (fun e => .inl e.symm) .inr, fun h => h.elim (fun e => .inl e.symm) .inr⟩
theorem nm_q {s : List Nat} (h : IsNm s) : IsNm (s.take 3 ++ [113]) := by
  obtain ⟨⟨l, ⟨c, r, rfl, hc⟩, al⟩, _, _, _⟩ := h
  have mem : ∀ d ∈ (c :: r).take 3, d ∈ (c :: r) := fun d hd => List.mem_of_mem_take hd
  refine ⟨⟨by simp; omega, ⟨c, r.take 2 ++ [113], rfl, hc⟩, fun d hd => ?_⟩, ?_, ?_, ?_⟩
  · rcases List.mem_append.mp hd with z | z
    · exact al d (mem d z)
    · simp at z; subst z; decide
  all_goals
    intro e
    have h2 : ((c :: r).take 3 ++ [113]).getLast? = some 113 := List.getLast?_concat ..
    rw [e] at h2
    exact absurd h2 (by decide)
/-- three numbers do not all give one name that the fourth would be again -/
theorem lett_inj : ∀ i < 26, ∀ j < 26, lettersS.getD i 0 = lettersS.getD j 0 → i = j := by decide
theorem more_inj : ∀ i < 36, ∀ j < 36, moreS.getD i 0 = moreS.getD j 0 → i = j := by decide +kernel
theorem lnm_four {n a b c d : Nat} (e : lnm n = [a, b, c, d]) (hd : d = 113) : n / 26 % 8 = 3 ∧ lettersS.getD (n % 26) 0 = a ∧ moreS.getD (n / 26 / 8 * 31 % 36) 0 = b ∧ moreS.getD ((n / 26 / 64 * 31 + 7) % 36) 0 = c ∧ (n / 26 / 512 * 31 + 14) % 36 = 16 := by
  have e0 : lnm0 n = [a, b, c, d] := by
    unfold lnm at e
    split at e
    · rename_i h
      have := congrArg List.getLast? e
      rw [List.getLast?_concat] at this
      have : 120 = d := Option.some.inj this
      omega
    · exact e
  unfold lnm0 at e0
  have l := congrArg List.length e0
  simp only [List.length_cons, List.length_map, List.length_range, List.length_nil] at l
  have h3 : n / 26 % 8 = 3 := by omega
  rw [h3] at e0
  have e0 : [lettersS.getD (n % 26) 0, lnmC (n / 26) 0, lnmC (n / 26) 1, lnmC (n / 26) 2] = [a, b, c, d] := e0
  simp only [List.cons.injEq, and_true] at e0
  obtain ⟨e1, e2, e3, e4⟩ := e0
  refine ⟨h3, e1, e2, e3, ?_⟩
  rw [hd] at e4
  exact more_inj _ (Nat.mod_lt _ (by decide)) 16 (by decide) e4
theorem lnm_form {p : Nat} (h1 : p / 26 % 8 = 3) (h5 : (p / 26 / 512 * 31 + 14) % 36 = 16) : ∃ i s t, s < 8 ∧ t < 8 ∧ p / 26 / 64 = 8 * (36 * i + 14) + t ∧ p / 26 / 8 = 8 * (p / 26 / 64) + s ∧ p = 26 * (8 * (p / 26 / 8) + 3) + p % 26 := by
  have a3 : p / 26 / 512 % 36 = 14 := by
    generalize p / 26 / 512 = z at h5
    clear h1
    omega
  have e1 := Nat.div_add_mod p 26
  have e2 := Nat.div_add_mod (p / 26) 8
  have e3 := Nat.div_add_mod (p / 26 / 8) 8
  have e4 := Nat.div_add_mod (p / 26 / 64) 8
  have e5 := Nat.div_add_mod (p / 26 / 512) 36
  have f3 : p / 26 / 8 / 8 = p / 26 / 64 := by rw [Nat.div_div_eq_div_mul]
  have f4 : p / 26 / 64 / 8 = p / 26 / 512 := by rw [Nat.div_div_eq_div_mul]
  rw [f3] at e3
  rw [f4] at e4
  rw [a3] at e5
  rw [h1] at e2
  refine ⟨p / 26 / 512 / 36, p / 26 / 8 % 8, p / 26 / 64 % 8, Nat.mod_lt _ (by decide), Nat.mod_lt _ (by decide), ?_, ?_, ?_⟩
  · rw [e5, e4]
  · rw [e3]
  · rw [e2, e1]
theorem lnm_et {i j t t' c2 : Nat} (lt : t < 8) (lt' : t' < 8) (h4 : ((8 * (36 * i + 14) + t) * 31 + 7) % 36 = c2) (g4 : ((8 * (36 * j + 14) + t') * 31 + 7) % 36 = c2) : t = t' := by
  have e1 : ((8 * (36 * i + 14) + t) * 31 + 7) = 36 * (248 * i) + (3479 + t * 31) := by omega
  have e2 : ((8 * (36 * j + 14) + t') * 31 + 7) = 36 * (248 * j) + (3479 + t' * 31) := by omega
  rw [e1, Nat.mul_add_mod] at h4
  rw [e2, Nat.mul_add_mod] at g4
  omega
theorem lnm_es {a t b s s' c1 : Nat} (ls : s < 8) (ls' : s' < 8) (h3 : (8 * (8 * (36 * a + 14) + b) + s) * 31 % 36 = c1) (g3 : (8 * (8 * (36 * t + 14) + b) + s') * 31 % 36 = c1) : s = s' := by
  have e1 : (8 * (8 * (36 * a + 14) + b) + s) * 31 = 36 * (64 * 31 * a) + (27776 + 248 * b + s * 31) := by omega
  have e2 : (8 * (8 * (36 * t + 14) + b) + s') * 31 = 36 * (64 * 31 * t) + (27776 + 248 * b + s' * 31) := by omega
  rw [e1, Nat.mul_add_mod] at h3
  rw [e2, Nat.mul_add_mod] at g3
  generalize 27776 + 248 * b = z at *
  omega
theorem lnm_key {p q c0 c1 c2 : Nat} (h1 : p / 26 % 8 = 3) (h2 : p % 26 = c0) (h3 : p / 26 / 8 * 31 % 36 = c1) (h4 : (p / 26 / 64 * 31 + 7) % 36 = c2) (h5 : (p / 26 / 512 * 31 + 14) % 36 = 16)
    (g1 : q / 26 % 8 = 3) (g2 : q % 26 = c0) (g3 : q / 26 / 8 * 31 % 36 = c1) (g4 : (q / 26 / 64 * 31 + 7) % 36 = c2) (g5 : (q / 26 / 512 * 31 + 14) % 36 = 16) : p % 479232 = q % 479232 := by
  obtain ⟨i, s, t, ls, lt, a2, a1, a0⟩ := lnm_form h1 h5
  obtain ⟨j, s', t', ls', lt', b2, b1, b0⟩ := lnm_form g1 g5
  generalize p / 26 / 64 = P2 at *
  generalize q / 26 / 64 = Q2 at *
  generalize p / 26 / 8 = P1 at *
  generalize q / 26 / 8 = Q1 at *
  generalize p % 26 = P0 at *
  generalize q % 26 = Q0 at *
  clear h1 h5 g1 g5
  subst a2 b2 a1 b1
  obtain rfl := lnm_et lt lt' h4 g4
  obtain rfl := lnm_es ls ls' h3 g3
  obtain rfl : P0 = Q0 := h2.trans g2.symm
  clear h3 h4 g3 g4
  have e1 : p = 479232 * i + (26 * (8 * (8 * (8 * 14 + t) + s) + 3) + P0) := by omega
  have e2 : q = 479232 * j + (26 * (8 * (8 * (8 * 14 + t) + s) + 3) + P0) := by omega
  rw [e1, e2, Nat.mul_add_mod, Nat.mul_add_mod]
theorem lnm_num {v : Nat} (k1 : v % 479232 = (v / 8 + 1) % 479232) (k2 : v % 479232 = (v / 15 + 2) % 479232) : v % 479232 = 273848 := by
  have hr := Nat.mod_lt v (show 0 < 479232 by decide)
  have ex := Nat.div_add_mod v 479232
  have ey := Nat.div_add_mod (v / 8 + 1) 479232
  have ez := Nat.div_add_mod (v / 15 + 2) 479232
  have e8 := Nat.div_add_mod v 8
  have e15 := Nat.div_add_mod v 15
  have l8 := Nat.mod_lt v (show 0 < 8 by decide)
  have l15 := Nat.mod_lt v (show 0 < 15 by decide)
  rw [← k1] at ey
  rw [← k2] at ez
  generalize v / 479232 = x at *
  generalize (v / 8 + 1) / 479232 = y at *
  generalize (v / 15 + 2) / 479232 = z at *
  generalize v / 8 = q at *
  generalize v / 15 = s at *
  generalize v % 479232 = r at *
  generalize v % 8 = u at *
  generalize v % 15 = w at *
  clear k1 k2
  have b1 : 479232 * ((x : Int) - 8 * y) = 7 * r - 8 + u := by omega
  have b2 : 479232 * ((x : Int) - 15 * z) = 14 * r - 30 + w := by omega
  generalize (x : Int) - 8 * y = A at *
  generalize (x : Int) - 15 * z = B at *
  clear ex ey ez e8 e15
  have b3 : 479232 * (2 * A - B) = 14 + 2 * (u : Int) - w := by omega
  have hC : 2 * A - B = 0 := by
    generalize 2 * A - B = C at b3
    clear b1 b2
    omega
  have hA : 479232 * A = 7 * (r : Int) - 8 := by omega
  clear b1 b2 b3 hC
  have a1 : 0 ≤ A := by omega
  have a2 : A ≤ 6 := by omega
  have : A = 0 ∨ A = 1 ∨ A = 2 ∨ A = 3 ∨ A = 4 ∨ A = 5 ∨ A = 6 := by clear hA; omega
  rcases this with e | e | e | e | e | e | e <;> rw [e] at hA <;> omega
theorem lnm_dup {v : Nat} {x : List Nat} (h0 : lnm v = x) (h1 : lnm (v / 8 + 1) = x) (h2 : lnm (v / 15 + 2) = x) : x.take 3 ++ [113] ≠ x := by
  intro e
  have l := congrArg List.length e
  simp only [List.length_append, List.length_take, List.length_cons, List.length_nil] at l
  obtain ⟨a, b, c, d, rfl⟩ : ∃ a b c d, x = [a, b, c, d] := by
    match x, l with
    | [], l => simp at l
    | [_], l => simp at l
    | [_, _], l => simp at l
    | [_, _, _], l => simp at l
    | [a, b, c, d], _ => exact ⟨a, b, c, d, rfl⟩
    | _ :: _ :: _ :: _ :: _ :: _, l => simp at l
  have hd : d = 113 := by
    have e : [a, b, c, 113] = [a, b, c, d] := e
    simp at e; exact e.symm
  obtain ⟨p1, p2, p3, p4, p5⟩ := lnm_four h0 hd
  obtain ⟨q1, q2, q3, q4, q5⟩ := lnm_four h1 hd
  obtain ⟨r1, r2, r3, r4, r5⟩ := lnm_four h2 hd
  have m26 : ∀ z : Nat, z % 26 < 26 := fun z => Nat.mod_lt _ (by decide)
  have m36 : ∀ z : Nat, z % 36 < 36 := fun z => Nat.mod_lt _ (by decide)
  have k1 := lnm_key p1 rfl rfl rfl p5 q1 (lett_inj _ (m26 _) _ (m26 _) (q2.trans p2.symm)) (more_inj _ (m36 _) _ (m36 _) (q3.trans p3.symm)) (more_inj _ (m36 _) _ (m36 _) (q4.trans p4.symm)) q5
  have k2 := lnm_key p1 rfl rfl rfl p5 r1 (lett_inj _ (m26 _) _ (m26 _) (r2.trans p2.symm)) (more_inj _ (m36 _) _ (m36 _) (r3.trans p3.symm)) (more_inj _ (m36 _) _ (m36 _) (r4.trans p4.symm)) r5
  clear p2 p3 p4 p5 q1 q2 q3 q4 q5 r1 r2 r3 r4 r5 h0 h1 h2 e l
  have k3 := lnm_num k1 k2
  omega
section
variable {P : Program} {w : World} {K : PySem.W.Frag} {mg : Str → Option Value} {base : Heap}
end

def Tm.bn : Tm → List (List Nat)
  | .lam x _ _ => [x] | .lt x _ _ => [x] | .sp x y _ _ => [x, y] | _ => []
def insN (bs : List (List Nat)) (x : List Nat) : List (List Nat) := if x ∈ bs then bs else bs ++ [x]
def insA (bs xs : List (List Nat)) : List (List Nat) := xs.foldl insN bs
def Tm.sc (t : Tm) (bs : List (List Nat)) : List (Tm × List (List Nat)) := match t with
  | .var _ => [] | .num _ => []
  | .op _ a b => [(a, bs), (b, bs)] | .lam x _ b => [(b, insN bs x)] | .app a b => [(a, bs), (b, bs)] | .box a => [(a, bs)]
  | .lt x a b => [(a, bs), (b, insN bs x)] | .pr a b => [(a, bs), (b, bs)] | .sp x y a b => [(a, bs), (b, insN (insN bs x) y)]
def dKs (bs : List (List Nat)) : List (L2.Key × W) := bs.map fun s => (.inr (mkS s), .bl true)
abbrev dicN (bs : List (List Nat)) : W := .dic (dKs bs)
def scW (xs : List (Tm × List (List Nat))) : List W := xs.map fun p => .tup [p.1.w, dicN p.2]
theorem dKs_any (x : List Nat) (bs : List (List Nat)) : ((dKs bs).any fun kv => decide (kv.1 = .inr (mkS x))) = decide (x ∈ bs) := by
  induction bs with
  | nil => simp [dKs]
  | cons b bs ih =>
    show (decide ((Sum.inr (mkS b) : L2.Key) = .inr (mkS x)) || (dKs bs).any _) = _
    rw [ih, Bool.eq_iff_iff, Bool.or_eq_true, decide_eq_true_eq, decide_eq_true_eq, decide_eq_true_eq, List.mem_cons, Sum.inr.injEq, mkS_inj]
    exact ⟨fun h => h.elim (fun e => .inl e.symm) .inr, fun h => h.elim (fun e => .inl e.symm) .inr⟩
theorem dKs_put (x : List Nat) (bs : List (List Nat)) : putW (dKs bs) (.inr (mkS x)) (.bl true) = dKs (insN bs x) := by
  unfold putW insN
  rw [dKs_any]
  by_cases h : x ∈ bs
  · rw [decide_eq_true h, if_pos rfl, if_pos h]
    simp [dKs]
  · rw [decide_eq_false h, if_neg Bool.false_ne_true, if_neg h]
    simp [dKs]
theorem dKs_val (x : List Nat) (bs : List (List Nat)) : (valW (dKs bs) (.inr (mkS x))).isSome = decide (x ∈ bs) := by
  rw [← dKs_any]
  unfold valW
  rw [Option.isSome_map, Bool.eq_iff_iff, List.find?_isSome, List.any_eq_true]
theorem dKs_keys (bs : List (List Nat)) : ((dKs bs).map fun kv => wKey kv.1) = strsW bs := by
  simp only [dKs, strsW, List.map_map]
  exact List.map_congr_left fun s _ => rfl
def spParts : SpW := fun ws h R _ => ∃ t : Tm, ws = [t.w] ∧ R (.lst (tmsW t.parts)) h
def spBn : SpW := fun ws h R _ => ∃ t : Tm, ws = [t.w] ∧ R (.lst (strsW t.bn)) h
def spScoped : SpW := fun ws h R _ => ∃ (t : Tm) (bs : List (List Nat)), ws = [t.w, dicN bs] ∧ bs.length ≤ 1000000 ∧ R (.lst (scW (t.sc bs))) h
section
variable {P : Program} {w : World} {K : PySem.W.Frag} {mg : Str → Option Value} {base : Heap}
theorem ok_parts_of (T : Tx P w K mg) : FnOk P w K mg base CX0 1 T.a_parts_of T.fd_parts_of ["term"] (lSp K spParts) := by
  refine fnW T.F_parts_of sc_parts_of (fun ws h R ex ⟨_, e, _⟩ => by rw [e]; rfl) fun cdv A outer s H E hr => ⟨_, (wss_one (ws_ret (w_callTy call_list_of lf_list (by rfl) T.m_list (by decide +kernel) (wa_cons (w_slice (w_var 0) (wo_some (w_kget (T.t__FIRST_PART) (w_glob rfl T.gk__FIRST_PART) (w_ix (w_var 0) w_int))) wo_none) wa_nil)))), fun ws h R ex ⟨t, e, q⟩ => ?_⟩
  subst e
  cases t <;> simp only [Tm.w] <;> walk_at "st" <;> exact .of q
theorem ok_bound_names (T : Tx P w K mg) : FnOk P w K mg base CX0 1 T.a_bound_names T.fd_bound_names ["term"] (lSp K spBn) := by
  refine fnW T.F_bound_names sc_bound_names (fun ws h R ex ⟨_, e, _⟩ => by rw [e]; rfl) fun cdv A outer s H E hr => ⟨_, (wss_one (ws_ret (w_callTy call_list_of lf_list (by rfl) T.m_list (by decide +kernel) (wa_cons (w_slice (w_var 0) (wo_some w_int) (wo_some (w_op ow_add lf_add w_int (w_kget2 (T.t__NAMES_BOUND) (w_glob rfl T.gk__NAMES_BOUND) (w_ix (w_var 0) w_int) w_int)))) wa_nil)))), fun ws h R ex ⟨t, e, q⟩ => ?_⟩
  subst e
  cases t <;> simp only [Tm.w] <;> walk_at "st" <;> exact .of q
end
def fvs : Tm → List (List Nat) → List (List Nat)
  | .var x, bs => if x ∈ bs then [] else [x]
  | .num _, _ => []
  | .op _ a b, bs => fvs a bs ++ fvs b bs
  | .lam x _ b, bs => fvs b (insN bs x)
  | .app a b, bs => fvs a bs ++ fvs b bs
  | .box a, bs => fvs a bs
  | .lt x a b, bs => fvs a bs ++ fvs b (insN bs x)
  | .pr a b, bs => fvs a bs ++ fvs b bs
  | .sp x y a b, bs => fvs a bs ++ fvs b (insN (insN bs x) y)
def fvL (st : List (Tm × List (List Nat))) : List (List Nat) := st.flatMap fun p => fvs p.1 p.2
theorem fvs_sc (t : Tm) (bs : List (List Nat)) (h : ∀ x, t ≠ .var x) : fvs t bs = fvL (t.sc bs) := by
  cases t <;> simp [fvs, fvL, Tm.sc]
  exact absurd rfl (h _)
def szL (st : List (Tm × List (List Nat))) : Nat := Tm.sizes (st.map (·.1))
theorem sizes_app (a b : List Tm) : Tm.sizes (a ++ b) = Tm.sizes a + Tm.sizes b := by
  induction a with
  | nil => simp [Tm.sizes]
  | cons t a ih => simp only [List.cons_append, Tm.sizes, ih]; omega
theorem sizes_rev (a : List Tm) : Tm.sizes a.reverse = Tm.sizes a := by
  induction a with
  | nil => rfl
  | cons t a ih => rw [List.reverse_cons, sizes_app, ih]; simp only [Tm.sizes]; omega
theorem sc_size (t : Tm) (bs : List (List Nat)) : szL (t.sc bs) + 1 = t.size := by cases t <;> simp only [szL, Tm.sc, List.map_cons, List.map_nil, Tm.sizes, Tm.size] <;> omega
theorem parts_size (t : Tm) : Tm.sizes t.parts + 1 = t.size := by cases t <;> simp only [Tm.parts, Tm.sizes, Tm.size] <;> omega
theorem len_sizes (ts : List Tm) : ts.length ≤ Tm.sizes ts := by
  induction ts with
  | nil => exact Nat.le_refl _
  | cons t ts ih => have := t.size_pos; simp only [List.length_cons, Tm.sizes]; omega
theorem insN_len (bs : List (List Nat)) (x : List Nat) : (insN bs x).length ≤ bs.length + 1 := by
  unfold insN; split <;> simp
theorem sc_cases (t : Tm) (bs : List (List Nat)) : (t.bn = [] ∧ t.sc bs = t.parts.map fun u => (u, bs)) ∨
    (t.bn ≠ [] ∧ t.bn.length ≤ 2 ∧ ∃ i l, t.parts = i ++ [l] ∧ t.sc bs = (i.map fun u => (u, bs)) ++ [(l, insA bs t.bn)]) := by
  cases t with
  | lam x k b => exact .inr ⟨by simp [Tm.bn], by simp [Tm.bn], [], b, rfl, rfl⟩
  | lt x a b => exact .inr ⟨by simp [Tm.bn], by simp [Tm.bn], [a], b, rfl, rfl⟩
  | sp x y a b => exact .inr ⟨by simp [Tm.bn], by simp [Tm.bn], [a], b, rfl, rfl⟩
  | _ => exact .inl ⟨rfl, rfl⟩
theorem parts_len (t : Tm) : t.parts.length ≤ 2 := by cases t <;> simp [Tm.parts]
theorem cut_init {α : Type} (s : List α) (x : α) : cut (s ++ [x]) none (some (-1)) = s := by
  unfold cut HT.sIx
  simp
  rw [show (-1 + ((s.length : Int) + 1)).toNat = s.length by omega]
  simp
theorem scW_map (ts : List Tm) (bs : List (List Nat)) : (tmsW ts).map (fun w => .tup [w, dicN bs]) = scW (ts.map fun u => (u, bs)) := by
  simp only [tmsW, scW, List.map_map]; rfl
section
variable {P : Program} {w : World} {K : PySem.W.Frag} {mg : Str → Option Value} {base : Heap}
theorem ok__scoped_parts (T : Tx P w K mg) : FnOk P w K mg base CX0 2 T.a__scoped_parts T.fd__scoped_parts ["node", "bound"] (lSp K spScoped) := by
  refine fnW T.F__scoped_parts sc__scoped_parts (fun ws h R ex ⟨_, _, e, _⟩ => by rw [e]; rfl) fun cdv A outer s H E hr => ⟨_, (wss_cons (ws_set (i := 2) sc__scoped_parts.nd (w_call (ok_parts_of T) (hr.mono (by walk_at "rm")) (by rfl) T.g_parts_of T.F_parts_of.kp T.b_parts_of (wa_cons (w_var 0) wa_nil)))
    (wss_cons (ws_set (i := 3) sc__scoped_parts.nd (w_call (ok_bound_names T) (hr.mono (by walk_at "rm")) (by rfl) T.g_bound_names T.F_bound_names.kp T.b_bound_names (wa_cons (w_var 0) wa_nil)))
    (wss_cons (ws_if (wt_not (wt_truth (w_var 3))) (wss_one (ws_ret (w_lc (x := "part") (j := 6) rfl sc__scoped_parts.nd (wi_list (w_var 2)) (blkOk_by (N := N__scoped_parts) (sc := defScope s__scoped_parts) (by decide +kernel)) (fun _ _ _ _ _ => pg_name (i := 6) sc__scoped_parts.nd rfl (Or.inl rfl)) (fun _ _ _ _ _ => wts_nil) (fun _ _ _ _ _ => (w_tup (wa_cons (w_var 6) (wa_cons (w_var 1) wa_nil))))))) wss_nil)
    (wss_cons (ws_set (i := 4) sc__scoped_parts.nd (w_callTy call_dictD lf_dictO (by rfl) T.m_dict (by decide +kernel) (wa_cons (w_var 1) wa_nil)))
    (wss_cons (ws_for PassesOwn.never rfl (wi_list (w_var 3)) (wg_name (i := 5) sc__scoped_parts.nd) (wss_one (ws_dput (hu_of hr) (w_var 4) (w_var 5) w_bl)))
    (wss_one (ws_ret (w_op ow_add lf_add (w_lc (x := "part") (j := 6) rfl sc__scoped_parts.nd (wi_list (w_slice (w_var 2) wo_none (wo_some (w_un un_neg lf_neg w_int)))) (blkOk_by (N := N__scoped_parts) (sc := defScope s__scoped_parts) (by decide +kernel)) (fun _ _ _ _ _ => pg_name (i := 6) sc__scoped_parts.nd rfl (Or.inl rfl)) (fun _ _ _ _ _ => wts_nil) (fun _ _ _ _ _ => (w_tup (wa_cons (w_var 6) (wa_cons (w_var 1) wa_nil))))) (w_lst (wa_cons (w_tup (wa_cons (w_ix (w_var 2) (w_un un_neg lf_neg w_int)) (wa_cons (w_var 4) wa_nil))) wa_nil)))))))))), fun ws h R ex ⟨t, bs, e, lb, q⟩ => ?_⟩
  subst e
  walk_at "st"
  refine ⟨t, rfl, ?_⟩
  walk_at "st"
  refine ⟨t, rfl, ?_⟩
  walk_at "st"
  have pl := parts_len t
  rcases sc_cases t bs with ⟨e1, e2⟩ | ⟨e1, l2, i, l, e2, e3⟩
  · rw [e2] at q
    rw [e1, show (strsW []).isEmpty = true from rfl]
    walk_at "st"
    refine go_lc (tmsW t.parts) (fun P q => by walk_at "st"; exact q) (by simp; omega) (fun w => .tup [w, dicN bs]) ?_ ?_
    · intro w h' R' hw hr'
      walk_at "st"
      exact hr'
    · walk_at "st"
      rw [scW_map]
      exact .of q
  · have e0 : (strsW t.bn).isEmpty = false := by cases e : t.bn with | nil => exact absurd e e1 | cons _ _ => rfl
    rw [e0]
    walk_at "st"
    intro p hp
    walk_at "st"
    refine go_forL (strsW t.bn) (fun R q => by walk_at "st"; exact q)
      (fun k ρ' h' => ρ' = [some t.w, some (dicN bs), some (.lst (tmsW t.parts)), some (.lst (strsW t.bn)), some (.ref p), none, none] ∧ h' = updW h p (.dic (dKs (insA bs (t.bn.take k)))))
      (.of ⟨rfl, rfl⟩) ?_ ?_
    · rintro k w ρ' h' hw ⟨rfl, rfl⟩
      have hk : k < t.bn.length := by have := (List.getElem?_eq_some_iff.mp hw).1; simpa [strsW] using this
      have ew : w = .str t.bn[k] := by rw [strsW, List.getElem?_map, List.getElem?_eq_getElem hk] at hw; exact (Option.some.inj hw).symm
      subst ew
      have ll : (dKs (insA bs (t.bn.take k))).length ≤ 16000000 := by
        have : ∀ (xs bs : List (List Nat)), (insA bs xs).length ≤ bs.length + xs.length := fun xs => by
          induction xs with
          | nil => intro bs; exact Nat.le_refl _
          | cons x xs ih => intro bs; have h1 := ih (insN bs x); have h2 := insN_len bs x; simp only [insA, List.foldl_cons, List.length_cons] at h1 ⊢; omega
        have := this (t.bn.take k) bs
        simp only [dKs, List.length_map, List.length_take] at this ⊢; omega
      walk_at "st"
      refine ⟨_, _, ⟨rfl, rfl⟩, .same (.same (.same (.same (.same (.no (.no .nil)))))), ?_⟩
      rw [updW_upd, dKs_put, List.take_add_one, List.getElem?_eq_getElem hk]
      show Sub (updW h p (.dic (dKs (insA bs (t.bn.take k ++ [t.bn[k]]))))) _
      rw [insA, List.foldl_append]
      exact .refl _
    · rintro ρ' h' ⟨rfl, rfl⟩
      rw [show (strsW t.bn).length = t.bn.length by simp [strsW], List.take_length]
      have il2 : i.length ≤ 1 := by rw [e2] at pl; simp at pl; omega
      have il : (tmsW i).length ≤ 1 := by simpa using il2
      rw [e2]
      have el : atI (tmsW (i ++ [l])) (-1) = some l.w := by rw [tmsW, List.map_append]; exact atI_last _ _
      have ci : cut (tmsW (i ++ [l])) none (some (-1)) = tmsW i := by rw [tmsW, List.map_append]; exact cut_init _ _
      walk_at "st"
      refine go_lc (tmsW i) (fun P q => by walk_at "st"; rw [ci]; exact q) (by omega) (fun w => .tup [w, dicN bs]) ?_ ?_
      · intro w h' R' hw hr'
        walk_at "st"
        exact hr'
      · walk_at "st"
        rw [e3] at q
        refine .mk q ?_ (.new hp)
        rw [show scW (i.map (fun u => (u, bs)) ++ [(l, insA bs t.bn)]) = scW (i.map fun u => (u, bs)) ++ [.tup [l.w, dicN (insA bs t.bn)]] from List.map_append .., ← scW_map]
        exact .lstV (.snoc (.tup (.cons (.same _) (.cons (.dic updW_same hp) .nil))) _)
end
def depL : List Tm → Nat
  | [] => 0
  | t :: ts => max t.dep (depL ts)
theorem depL_app (a b : List Tm) : depL (a ++ b) = max (depL a) (depL b) := by
  induction a with
  | nil => simp [depL]
  | cons t a ih => simp only [List.cons_append, depL, ih]; omega
theorem parts_dep (t : Tm) : depL t.parts + 1 = t.dep := by cases t <;> simp only [Tm.parts, depL, Tm.dep] <;> omega
theorem row_dep : ∀ ts : List Tm, depL (ts.flatMap Tm.parts) = depL ts - 1
  | [] => rfl
  | t :: ts => by
    have h := parts_dep t
    rw [List.flatMap_cons, depL_app, row_dep ts]
    simp only [depL]; omega
theorem row_size : ∀ ts : List Tm, Tm.sizes (ts.flatMap Tm.parts) + ts.length = Tm.sizes ts
  | [] => rfl
  | t :: ts => by
    have h := parts_size t
    have := row_size ts
    rw [List.flatMap_cons, sizes_app]
    simp only [Tm.sizes, List.length_cons]; omega
def partsW (w : W) : List W := match w with
  | .tup (.str s :: r) => if s = z_var ∨ s = z_num then [] else if s = z_app ∨ s = z_pair ∨ s = z_box then r else if s = z_lam ∨ s = z_split then r.drop 2 else r.drop 1
  | _ => []
theorem partsW_eq (t : Tm) : partsW t.w = tmsW t.parts := by cases t <;> rfl
theorem row_eq (ts : List Tm) : (tmsW ts).flatMap partsW = tmsW (ts.flatMap Tm.parts) := by
  induction ts with
  | nil => rfl
  | cons t ts ih =>
    show partsW t.w ++ (tmsW ts).flatMap partsW = (t.parts ++ ts.flatMap Tm.parts).map Tm.w
    rw [ih, partsW_eq, List.map_append]
theorem fvL_app (a b : List (Tm × List (List Nat))) : fvL (a ++ b) = fvL a ++ fvL b := List.flatMap_append ..
theorem insA_app (bs xs ys : List (List Nat)) : insA bs (xs ++ ys) = insA (insA bs xs) ys := List.foldl_append ..
theorem insA_len (xs : List (List Nat)) : ∀ bs : List (List Nat), (insA bs xs).length ≤ bs.length + xs.length := by
  induction xs with
  | nil => intro bs; exact Nat.le_refl _
  | cons x xs ih => intro bs; have h1 := ih (insN bs x); have h2 := insN_len bs x; simp only [insA, List.foldl_cons, List.length_cons] at h1 ⊢; omega
/-- the bound names never are many -/
def bdL (st : List (Tm × List (List Nat))) (n : Nat) : Prop := ∀ p ∈ st, p.2.length + p.1.size * 2 ≤ n
theorem bd_sc {t : Tm} {bs : List (List Nat)} {n : Nat} (h : bs.length + t.size * 2 ≤ n) : bdL (t.sc bs) n := by
  intro p hp
  have i1 := insN_len bs
  cases t with
  | sp x y a b =>
    have i2 := insN_len (insN bs x) y
    have := i1 x
    simp only [Tm.sc, List.mem_cons, List.not_mem_nil, or_false] at hp
    simp only [Tm.size] at h
    rcases hp with rfl | rfl <;> dsimp only <;> omega
  | lam x k b => have := i1 x; simp only [Tm.sc, List.mem_cons, List.not_mem_nil, or_false] at hp; subst hp; simp only [Tm.size] at h; dsimp only; omega
  | lt x a b => have := i1 x; simp only [Tm.sc, List.mem_cons, List.not_mem_nil, or_false] at hp; simp only [Tm.size] at h; rcases hp with rfl | rfl <;> dsimp only <;> omega
  | var x => simp [Tm.sc] at hp
  | num x => simp [Tm.sc] at hp
  | box a => simp only [Tm.sc, List.mem_cons, List.not_mem_nil, or_false] at hp; simp only [Tm.size] at h; subst hp; dsimp only; omega
  | _ => simp only [Tm.sc, List.mem_cons, List.not_mem_nil, or_false] at hp; simp only [Tm.size] at h; rcases hp with rfl | rfl <;> dsimp only <;> omega
theorem up2 {h : HW} {p1 p2 : Addr} (np : p1 ≠ p2) (a b c : OW) : updW (updW (updW h p1 a) p2 b) p1 c = updW (updW h p1 c) p2 b := by
  funext x
  unfold updW
  by_cases e1 : x = p1
  · have : x ≠ p2 := fun z => np (e1 ▸ z)
    simp [e1, np]
  · simp [e1]
theorem at2 {h : HW} {p1 p2 : Addr} (np : p1 ≠ p2) (a b : OW) : updW (updW h p1 a) p2 b p1 = some a := by rw [updW_ne np, updW_same]
theorem szL_app (a b : List (Tm × List (List Nat))) : szL (a ++ b) = szL a + szL b := by unfold szL; rw [List.map_append, sizes_app]
theorem szL_rev (a : List (Tm × List (List Nat))) : szL a.reverse = szL a := by unfold szL; rw [List.map_reverse, sizes_rev]
theorem len_szL (a : List (Tm × List (List Nat))) : a.length ≤ szL a := by unfold szL; have := len_sizes (a.map (·.1)); simpa using this
theorem scW_app (a b : List (Tm × List (List Nat))) : scW a ++ scW b = scW (a ++ b) := by simp [scW]
theorem tag_ne (u : Tm) (h : ∀ x, u ≠ .var x) : ∃ tg rs, u.w = .tup (.str tg :: rs) ∧ tg ≠ z_var := by
  cases u with
  | var x => exact absurd rfl (h x)
  | _ => exact ⟨_, _, rfl, by decide⟩
def spFree : SpW := fun ws h R _ => ∃ t : Tm, ws = [t.w] ∧ t.size ≤ 1000 ∧ R (.lst (strsW (insA [] (fvs t [])))) h
section
variable {P : Program} {w : World} {K : PySem.W.Frag} {mg : Str → Option Value} {base : Heap}
theorem ok_free_names (T : Tx P w K mg) : FnOk P w K mg base CX0 3 T.a_free_names T.fd_free_names ["term"] (lSp K spFree) := by
  refine fnW T.F_free_names sc_free_names (fun ws h R ex ⟨_, e, _⟩ => by rw [e]; rfl) fun cdv A outer s H E hr => ⟨_, (wss_cons (ws_set (i := 1) sc_free_names.nd w_d0O)
    (wss_cons (ws_set (i := 2) sc_free_names.nd (w_lstO (wa_cons (w_tup (wa_cons (w_var 0) (wa_cons w_d0 wa_nil))) wa_nil)))
    (wss_cons (ws_while PassesOwn.never (wt_truth (w_var 2)) (wss_cons (ws_asg (w_bm0 PySem.F.plainAttrs_list PySem.F.slot_list_pop PySem.F.type_list_pop mt_pop tyL_ok lf_pop (w_var 2)) (wg_tup rfl (wgs_cons (wg_name (i := 3) sc_free_names.nd) (wgs_cons (wg_name (i := 4) sc_free_names.nd) wgs_nil))))
    (wss_cons (ws_if (wt_bool (ww_and (wt_cmp (ow_eq hr.units) lf_eq (w_ix (w_var 3) w_int) (w_str z_var) (nomark _)) (ww_and1 (wt_dnotin (hu_of hr) (w_ix (w_var 3) w_int) (w_var 4))))) (wss_one (ws_dput (hu_of hr) (w_var 1) (w_ix (w_var 3) w_int) w_bl)) wss_nil)
    (wss_one (ws_expr (w_bm PySem.F.plainAttrs_list PySem.F.slot_list_extend PySem.F.type_list_extend mt_extend tyL_ok lf_extend (w_var 2) (wa_cons (w_rev (w_call (ok__scoped_parts T) (hr.mono (by walk_at "rm")) (by rfl) T.g__scoped_parts T.F__scoped_parts.kp T.b__scoped_parts (wa_cons (w_var 3) (wa_cons (w_var 4) wa_nil)))) wa_nil)))))))
    (wss_one (ws_ret (w_callTy (call_list_dK rfl) lf_listD (by rfl) T.m_list (by decide +kernel) (wa_cons (w_var 1) wa_nil))))))), fun ws h R ex ⟨t, e, lt, q⟩ => ?_⟩
  subst e
  walk_at "st"
  intro p1 hp1
  walk_at "st"
  intro p2 hp2
  have np : p1 ≠ p2 := fun z => by rw [z, updW_same] at hp2; cases hp2
  walk_at "st"
  refine go_while (fun m ρ' h' => ∃ (fs : List (List Nat)) (st : List (Tm × List (List Nat))), m = szL st ∧ szL st ≤ t.size ∧ bdL st (t.size * 2) ∧ fs.length + szL st ≤ t.size ∧ insA fs (fvL st.reverse) = insA [] (fvs t []) ∧
      ρ' = [some t.w, some (.ref p1), some (.ref p2), none, none] ∧ h' = updW (updW h p1 (.dic (dKs fs))) p2 (.lst (scW st)))
    ⟨_, .of ⟨[], [(t, [])], rfl, by simp [szL, Tm.sizes], fun p hp => by simp at hp; subst hp; simp, by simp [szL, Tm.sizes], by simp [fvL], rfl, rfl⟩⟩ ?_
  rintro m ρ' h' ⟨fs, st, rfl, hz, hb, hl, hf, rfl, rfl⟩
  walk_at "st"
  rcases List.eq_nil_or_concat st with rfl | ⟨init, ⟨u, bs⟩, rfl⟩
  · rw [show (scW []).isEmpty = true from rfl]
    walk_at "st"
    refine go_listD (by unfold dW; dsimp only; rw [at2 np]) ?_
    rw [dKs_keys]
    rw [show insA fs (fvL ([] : List (Tm × List (List Nat))).reverse) = fs from rfl] at hf
    rw [hf]
    exact .base q ((Sub.new hp1).trans (.new (by rw [updW_ne np.symm]; rwa [updW_ne np.symm] at hp2)))
  · rw [List.concat_eq_append] at *
    rw [show (scW (init ++ [(u, bs)])).isEmpty = false by simp [scW]]
    walk_at "st"
    refine go_pop (xs := scW init) (w := .tup [u.w, dicN bs]) (by rw [updW_same]; simp [scW]) ?_
    rw [updW_upd]
    have hbu := hb (u, bs) (by simp)
    dsimp only at hbu
    have lbs : bs.length ≤ 1000000 := by omega
    rw [szL_app] at hz hl
    rw [show szL [(u, bs)] = u.size by simp [szL, Tm.sizes]] at hz hl
    rw [List.reverse_append, fvL_app, insA_app] at hf
    rw [show fvL [(u, bs)].reverse = fvs u bs by simp [fvL]] at hf
    have su := sc_size u bs
    have l1 := len_szL init
    have l2 := len_szL (u.sc bs)
    have ext : ∀ fs' : List (List Nat), fs'.length + szL init + szL (u.sc bs) ≤ t.size → insA fs' (fvL (u.sc bs)) = insA fs (fvs u bs) →
        CN (fun ρ2 h2 => ∃ m', m' < szL (init ++ [(u, bs)]) ∧ ∃ fs st, m' = szL st ∧ szL st ≤ t.size ∧ bdL st (t.size * 2) ∧ fs.length + szL st ≤ t.size ∧ insA fs (fvL st.reverse) = insA [] (fvs t []) ∧
          ρ2 = [some t.w, some (.ref p1), some (.ref p2), none, none] ∧ h2 = updW (updW h p1 (.dic (dKs fs))) p2 (.lst (scW st))) [some t.w, some (.ref p1), some (.ref p2), some u.w, some (dicN bs)] (updW (updW h p1 (.dic (dKs fs'))) p2 (.lst (scW init ++ (scW (u.sc bs)).reverse))) := fun fs' hl' he => by
      refine ⟨_, _, ⟨_, ?_, fs', init ++ (u.sc bs).reverse, rfl, ?_, ?_, ?_, ?_, rfl, rfl⟩, .same (.same (.same (.no (.no .nil)))), ?_⟩
      · rw [szL_app, szL_app, szL_rev, show szL [(u, bs)] = u.size by simp [szL, Tm.sizes]]; omega
      · rw [szL_app, szL_rev]; omega
      · intro p hp
        rcases List.mem_append.mp hp with z | z
        · exact hb p (List.mem_append_left _ z)
        · exact bd_sc hbu p (List.mem_reverse.mp z)
      · rw [szL_app, szL_rev]; omega
      · rw [List.reverse_append, List.reverse_reverse, fvL_app, insA_app, he]; exact hf
      · rw [← scW_app, show scW (u.sc bs).reverse = (scW (u.sc bs)).reverse by simp [scW]]; exact .refl _
    have lsc : (scW init).length + (scW (u.sc bs)).reverse.length ≤ 16000000 := by simp only [scW, List.length_map, List.length_reverse]; omega
    by_cases hv : ∃ x, u = .var x
    · obtain ⟨x, rfl⟩ := hv
      have gv : dgW (dicN bs) (.str x) (updW (updW h p1 (.dic (dKs fs))) p2 (.lst (scW init))) = some (valW (dKs bs) (.inr (mkS x))) := rfl
      simp only [Tm.w]
      walk_at "st"
      refine go_dec (fun _ => ?_) (fun c => absurd rfl c)
      walk_at "st"
      refine go_dnotin gv ?_
      rw [dKs_val]
      have goal : ∀ fs' : List (List Nat), fs'.length + szL init + szL ((Tm.var x).sc bs) ≤ t.size → insA fs' (fvL ((Tm.var x).sc bs)) = insA fs (fvs (.var x) bs) →
          spScoped [.tup [.str z_var, .str x], dicN bs] (updW (updW h p1 (.dic (dKs fs'))) p2 (.lst (scW init))) (fun y h2 => revW y h2 fun z h3 => extendW (.ref p2) [z] h3 fun _ h4 => CN (fun ρ2 h2 => ∃ m', m' < szL (init ++ [(Tm.var x, bs)]) ∧ ∃ fs st, m' = szL st ∧ szL st ≤ t.size ∧ bdL st (t.size * 2) ∧ fs.length + szL st ≤ t.size ∧ insA fs (fvL st.reverse) = insA [] (fvs t []) ∧
          ρ2 = [some t.w, some (.ref p1), some (.ref p2), none, none] ∧ h2 = updW (updW h p1 (.dic (dKs fs))) p2 (.lst (scW st))) [some t.w, some (.ref p1), some (.ref p2), some (.tup [.str z_var, .str x]), some (dicN bs)] h4) noX := fun fs' a b => by
        refine ⟨.var x, bs, rfl, lbs, ?_⟩
        walk_at "st"
        refine go_extend updW_same lsc ?_
        rw [updW_upd]
        exact ext fs' a b
      refine go_ndec (fun c => ?_) (fun c => ?_)
      · walk_at "st"
        refine go_dputK (at2 np _ _) (by simp only [dKs, List.length_map]; omega) ?_
        rw [up2 np, dKs_put]
        walk_at "st"
        have il := insN_len fs x
        refine goal (insN fs x) ?_ ?_
        · have e1 : szL ((Tm.var x).sc bs) = 0 := rfl
          rw [e1]; simp only [Tm.size] at hl; omega
        · show insN fs x = insA fs (if x ∈ bs then [] else [x])
          rw [if_neg c]; rfl
      · walk_at "st"
        refine goal fs (by omega) ?_
        show fs = insA fs (if x ∈ bs then [] else [x])
        rw [if_pos c]; rfl
    · have hv' : ∀ x, u ≠ .var x := fun x e => hv ⟨x, e⟩
      obtain ⟨tg, rs, ew, nt⟩ := tag_ne u hv'
      rw [ew]
      have e0 : atI (.str tg :: rs) (0 : Int) = some (.str tg) := atI_nat (j := 0) rfl
      walk_at "st"
      refine go_dec (fun c => absurd c nt) (fun c => ?_)
      walk_at "st"
      refine ⟨u, bs, by rw [ew], by omega, ?_⟩
      walk_at "st"
      refine go_extend updW_same lsc ?_
      rw [updW_upd]
      walk_at "st"
      have z := ext fs (by omega) (by rw [fvs_sc u bs hv'])
      rw [ew] at z
      exact z
end
/-! ## the law's own measures -/
/-- what the law's own walk collects: bs in any order, with repeats -/
theorem fvs_mem : ∀ (t : Tm) (bs cs : List (List Nat)), (∀ x, x ∈ bs ↔ x ∈ cs) → fvs t bs = fvs t cs
  | .var x, bs, cs, h => by simp only [fvs]; by_cases c : x ∈ bs; rw [if_pos c, if_pos ((h x).mp c)]; rw [if_neg c, if_neg fun z => c ((h x).mpr z)]
  | .num _, _, _, _ => rfl
  | .op _ a b, bs, cs, h => by simp only [fvs]; rw [fvs_mem a bs cs h, fvs_mem b bs cs h]
  | .lam x _ b, bs, cs, h => by simp only [fvs]; exact fvs_mem b _ _ (insN_mem h x)
  | .app a b, bs, cs, h => by simp only [fvs]; rw [fvs_mem a bs cs h, fvs_mem b bs cs h]
  | .box a, bs, cs, h => by simp only [fvs]; exact fvs_mem a _ _ h
  | .lt x a b, bs, cs, h => by simp only [fvs]; rw [fvs_mem a bs cs h, fvs_mem b _ _ (insN_mem h x)]
  | .pr a b, bs, cs, h => by simp only [fvs]; rw [fvs_mem a bs cs h, fvs_mem b bs cs h]
  | .sp x y a b, bs, cs, h => by simp only [fvs]; rw [fvs_mem a bs cs h, fvs_mem b _ _ (insN_mem (insN_mem h x) y)]
where
  insN_mem {bs cs : List (List Nat)} (h : ∀ x, x ∈ bs ↔ x ∈ cs) (y : List Nat) : ∀ x, x ∈ insN bs y ↔ x ∈ insN cs y := fun x => by
    unfold insN
    by_cases c : y ∈ bs
    · rw [if_pos c, if_pos ((h y).mp c)]; exact h x
    · rw [if_neg c, if_neg fun z => c ((h y).mpr z), List.mem_append, List.mem_append, h x]
theorem app_mem (bs : List (List Nat)) (y : List Nat) : ∀ x, x ∈ bs ++ [y] ↔ x ∈ insN bs y := fun x => by
  unfold insN
  by_cases c : y ∈ bs
  · rw [if_pos c, List.mem_append, List.mem_singleton]; exact ⟨fun h => h.elim id fun e => e ▸ c, .inl⟩
  · rw [if_neg c]
theorem fvs_len : ∀ (t : Tm) (bs : List (List Nat)), (fvs t bs).length ≤ t.size
  | .var x, bs => by simp only [fvs, Tm.size]; split <;> simp
  | .num _, _ => by simp [fvs]
  | .op _ a b, bs => by have := fvs_len a bs; have := fvs_len b bs; simp only [fvs, Tm.size, List.length_append]; omega
  | .lam x _ b, bs => by have := fvs_len b (insN bs x); simp only [fvs, Tm.size]; omega
  | .app a b, bs => by have := fvs_len a bs; have := fvs_len b bs; simp only [fvs, Tm.size, List.length_append]; omega
  | .box a, bs => by have := fvs_len a bs; simp only [fvs, Tm.size]; omega
  | .lt x a b, bs => by have := fvs_len a bs; have := fvs_len b (insN bs x); simp only [fvs, Tm.size, List.length_append]; omega
  | .pr a b, bs => by have := fvs_len a bs; have := fvs_len b bs; simp only [fvs, Tm.size, List.length_append]; omega
  | .sp x y a b, bs => by have := fvs_len a bs; have := fvs_len b (insN (insN bs x) y); simp only [fvs, Tm.size, List.length_append]; omega
def spLFree (n : Nat) : SpW := fun ws h R _ => ∃ (t : Tm) (bs : List (List Nat)), ws = [t.w, .lst (strsW bs)] ∧ t.dep < n ∧ t.size ≤ 1000 ∧ bs.length + 2 * t.dep ≤ 100000 ∧ R (.lst (strsW (fvs t bs))) h
section
variable {P : Program} {w : World} {K : PySem.W.Frag} {mg : Str → Option Value} {base : Heap}
theorem ok__law_parts (T : Tx P w K mg) : FnOk P w K mg base CX0 1 T.a__law_parts T.fd__law_parts ["term"] (lSp K spParts) := by
  refine fnW T.F__law_parts sc__law_parts (fun ws h R ex ⟨_, e, _⟩ => by rw [e]; rfl) fun cdv A outer s H E hr => ⟨_, (wss_cons (ws_if (wt_cmp ow_in lf_in (w_ix (w_var 0) w_int) (w_tup (wa_cons (w_str z_var) (wa_cons (w_str z_num) wa_nil))) (by rfl)) (wss_one (ws_ret (w_lst wa_nil))) wss_nil)
    (wss_cons (ws_if (wt_cmp ow_in lf_in (w_ix (w_var 0) w_int) (w_tup (wa_cons (w_str z_app) (wa_cons (w_str z_pair) wa_nil))) (by rfl)) (wss_one (ws_ret (w_lst (wa_cons (w_ix (w_var 0) w_int) (wa_cons (w_ix (w_var 0) w_int) wa_nil))))) wss_nil)
    (wss_cons (ws_if (wt_cmp (ow_eq hr.units) lf_eq (w_ix (w_var 0) w_int) (w_str z_box) (nomark _)) (wss_one (ws_ret (w_lst (wa_cons (w_ix (w_var 0) w_int) wa_nil)))) wss_nil)
    (wss_cons (ws_if (wt_cmp (ow_eq hr.units) lf_eq (w_ix (w_var 0) w_int) (w_str z_lam) (nomark _)) (wss_one (ws_ret (w_lst (wa_cons (w_ix (w_var 0) w_int) wa_nil)))) wss_nil)
    (wss_cons (ws_if (wt_cmp (ow_eq hr.units) lf_eq (w_ix (w_var 0) w_int) (w_str z_split) (nomark _)) (wss_one (ws_ret (w_lst (wa_cons (w_ix (w_var 0) w_int) (wa_cons (w_ix (w_var 0) w_int) wa_nil))))) wss_nil)
    (wss_one (ws_ret (w_lst (wa_cons (w_ix (w_var 0) w_int) (wa_cons (w_ix (w_var 0) w_int) wa_nil)))))))))), fun ws h R ex ⟨t, e, q⟩ => ?_⟩
  subst e
  cases t <;> simp only [Tm.w] <;> walk_at "stc" <;> exact .of q
theorem ok__law_free (T : Tx P w K mg) : ∀ n, FnOk P w K mg base CX0 (n + 1) T.a__law_free T.fd__law_free ["term", "bound"] (lSp K (spLFree n))
  | 0 => fn_false fun ws h R ex ⟨_, _, _, z, _⟩ => absurd z (Nat.not_lt_zero _)
  | n + 1 => by
    have ih := ok__law_free T n
    refine fnW T.F__law_free sc__law_free (fun ws h R ex ⟨_, _, e, _⟩ => by rw [e]; rfl) fun cdv A outer s H E hr => ⟨_, (wss_cons (ws_if (wt_cmp (ow_eq hr.units) lf_eq (w_ix (w_var 0) w_int) (w_str z_var) (nomark _)) (wss_one (ws_ret (w_ifExp (wt_cmp ow_in lf_in (w_ix (w_var 0) w_int) (w_var 1) (by rfl)) (w_lst wa_nil) (w_lst (wa_cons (w_ix (w_var 0) w_int) wa_nil))))) wss_nil)
    (wss_cons (ws_if (wt_cmp (ow_eq hr.units) lf_eq (w_ix (w_var 0) w_int) (w_str z_lam) (nomark _)) (wss_one (ws_ret (w_call ih (hr.mono (by walk_at "rm")) (by rfl) T.g__law_free T.F__law_free.kp T.b__law_free (wa_cons (w_ix (w_var 0) w_int) (wa_cons (w_op ow_add lf_add (w_var 1) (w_lst (wa_cons (w_ix (w_var 0) w_int) wa_nil))) wa_nil))))) wss_nil)
    (wss_cons (ws_if (wt_cmp (ow_eq hr.units) lf_eq (w_ix (w_var 0) w_int) (w_str wLet) (nomark _)) (wss_one (ws_ret (w_op ow_add lf_add (w_call ih (hr.mono (by walk_at "rm")) (by rfl) T.g__law_free T.F__law_free.kp T.b__law_free (wa_cons (w_ix (w_var 0) w_int) (wa_cons (w_var 1) wa_nil))) (w_call ih (hr.mono (by walk_at "rm")) (by rfl) T.g__law_free T.F__law_free.kp T.b__law_free (wa_cons (w_ix (w_var 0) w_int) (wa_cons (w_op ow_add lf_add (w_var 1) (w_lst (wa_cons (w_ix (w_var 0) w_int) wa_nil))) wa_nil)))))) wss_nil)
    (wss_cons (ws_if (wt_cmp (ow_eq hr.units) lf_eq (w_ix (w_var 0) w_int) (w_str z_split) (nomark _)) (wss_one (ws_ret (w_op ow_add lf_add (w_call ih (hr.mono (by walk_at "rm")) (by rfl) T.g__law_free T.F__law_free.kp T.b__law_free (wa_cons (w_ix (w_var 0) w_int) (wa_cons (w_var 1) wa_nil))) (w_call ih (hr.mono (by walk_at "rm")) (by rfl) T.g__law_free T.F__law_free.kp T.b__law_free (wa_cons (w_ix (w_var 0) w_int) (wa_cons (w_op ow_add lf_add (w_var 1) (w_lst (wa_cons (w_ix (w_var 0) w_int) (wa_cons (w_ix (w_var 0) w_int) wa_nil)))) wa_nil)))))) wss_nil)
    (wss_cons (ws_set (i := 2) sc__law_free.nd (w_lst wa_nil))
    (wss_cons (ws_for PassesOwn.never rfl (wi_list (w_call (ok__law_parts T) (hr.mono (by walk_at "rm")) (by rfl) T.g__law_parts T.F__law_parts.kp T.b__law_parts (wa_cons (w_var 0) wa_nil))) (wg_name (i := 3) sc__law_free.nd) (wss_one (ws_set (i := 2) sc__law_free.nd (w_op ow_add lf_add (w_var 2) (w_call ih (hr.mono (by walk_at "rm")) (by rfl) T.g__law_free T.F__law_free.kp T.b__law_free (wa_cons (w_var 3) (wa_cons (w_var 1) wa_nil)))))))
    (wss_one (ws_ret (w_var 2))))))))), fun ws h R ex ⟨t, bs, e, hd, hz, hb, q⟩ => ?_⟩
    subst e
    have lsb : (strsW bs).length = bs.length := by simp [strsW]
    have fl := fvs_len t bs
    have flat : ∀ (ws : List W) (u : Tm), u = t → (∀ x, t ≠ .var x) → t.sc bs = t.parts.map (fun v => (v, bs)) → u.w = .tup ws →
        sFor (oItL (oCall spParts noX (oCons (oVar 0) oNil))) (gN 3) (sAsg (oOp addW (oVar 2) (oCall (spLFree n) noX (oCons (oVar 3) (oCons (oVar 1) oNil)))) (gN 2))
          ({ nx := fun x h' => Wl.Cl R W.non h', rt := Wl.Cl R : EndsW }.wn (sRet (oVar 2) { nx := fun x h' => Wl.Cl R W.non h', rt := Wl.Cl R })) [some (.tup ws), some (.lst (strsW bs)), some (.lst []), none] h := fun ws u eu hv hs ew => by
      subst eu
      rw [← ew]
      have sz := parts_size u
      have dp := parts_dep u
      have memd : ∀ (l : List Tm) v, v ∈ l → v.dep ≤ depL l ∧ v.size ≤ Tm.sizes l := fun l => by
        induction l with
        | nil => intro v h; cases h
        | cons a l ih => intro v h; simp only [depL, Tm.sizes]; rcases List.mem_cons.mp h with rfl | h; exact ⟨by omega, by omega⟩; have := ih v h; exact ⟨by omega, by omega⟩
      refine go_forL (tmsW u.parts) (fun R q => by walk_at "st"; exact ⟨u, rfl, q⟩)
        (fun i ρ' h' => ρ' = [some u.w, some (.lst (strsW bs)), some (.lst (strsW ((u.parts.take i).flatMap fun v => fvs v bs))), none] ∧ h' = h) (.of ⟨rfl, rfl⟩) ?_ ?_
      · rintro i w ρ' h' hw ⟨rfl, rfl⟩
        have hi : i < u.parts.length := by have := (List.getElem?_eq_some_iff.mp hw).1; simpa using this
        have ev : w = (u.parts[i]).w := by rw [List.getElem?_map, List.getElem?_eq_getElem hi] at hw; exact (Option.some.inj hw).symm
        subst ev
        obtain ⟨m1, m2⟩ := memd u.parts _ (List.getElem_mem hi)
        walk_at "st"
        refine ⟨_, bs, rfl, by omega, by omega, by omega, ?_⟩
        have l1 : ((u.parts.take i).flatMap fun v => fvs v bs).length ≤ ((u.parts).flatMap fun v => fvs v bs).length := flatMap_take_len _ _ _
        have l2 : ((u.parts).flatMap fun v => fvs v bs) = fvs u bs := by rw [fvs_sc u bs hv, hs, fvL, List.flatMap_map]
        have l3 := fvs_len u.parts[i] bs
        rw [l2] at l1
        have l4 : (strsW ((u.parts.take i).flatMap fun v => fvs v bs)).length ≤ 1000 := by simp only [strsW, List.length_map]; omega
        have l5 : (strsW (fvs u.parts[i] bs)).length ≤ 1000 := by simp only [strsW, List.length_map]; omega
        walk_at "st"
        have e9 : (u.parts.take (i + 1)).flatMap (fun v => fvs v bs) = (u.parts.take i).flatMap (fun v => fvs v bs) ++ fvs u.parts[i] bs := by rw [List.take_add_one, List.getElem?_eq_getElem hi, List.flatMap_append]; simp
        rw [e9]
        exact ⟨_, _, ⟨rfl, rfl⟩, .same (.same (.cons (fun _ e => by cases e; simp [strsW]) (.no .nil))), .refl _⟩
      · rintro ρ' h' ⟨rfl, rfl⟩
        rw [show (tmsW u.parts).length = u.parts.length by simp, List.take_length, show ((u.parts).flatMap fun v => fvs v bs) = fvs u bs by rw [fvs_sc u bs hv, hs, fvL, List.flatMap_map]]
        walk_at "st"
        exact .of q
    cases t with
    | var x =>
      simp only [Tm.w]
      walk_at "stc"
      refine go_inL rfl (flat_strs bs) ?_
      rw [any_strs]
      simp only [fvs] at q
      refine go_dec (fun c => ?_) (fun c => ?_)
      · rw [if_pos c] at q; walk_at "st"; exact .of q
      · rw [if_neg c] at q; walk_at "st"; exact .of q
    | num n => simp only [Tm.w]; walk_at "stc"; exact flat _ _ rfl nofun rfl rfl
    | op s a b => simp only [Tm.w]; walk_at "stc"; exact flat _ _ rfl nofun rfl rfl
    | app a b => simp only [Tm.w]; walk_at "stc"; exact flat _ _ rfl nofun rfl rfl
    | box a => simp only [Tm.w]; walk_at "stc"; exact flat _ _ rfl nofun rfl rfl
    | pr a b => simp only [Tm.w]; walk_at "stc"; exact flat _ _ rfl nofun rfl rfl
    | lam x k b =>
      simp only [Tm.w, Tm.dep, Tm.size, fvs] at *
      walk_at "stc"
      refine ⟨b, bs ++ [x], by rw [strsW_snoc], by omega, by omega, by simp; omega, ?_⟩
      rw [fvs_mem b _ _ (app_mem bs x)]
      exact .of q
    | lt x a b =>
      simp only [Tm.w, Tm.dep, Tm.size, fvs] at *
      walk_at "stc"
      refine ⟨a, bs, rfl, by omega, by omega, by omega, ?_⟩
      walk_at "stc"
      refine ⟨b, bs ++ [x], by rw [strsW_snoc], by omega, by omega, by simp; omega, ?_⟩
      rw [fvs_mem b _ _ (app_mem bs x)]
      have l1 := fvs_len a bs
      have l2 := fvs_len b (insN bs x)
      have l4 : (strsW (fvs a bs)).length ≤ 1000 := by simp only [strsW, List.length_map]; omega
      have l5 : (strsW (fvs b (insN bs x))).length ≤ 1000 := by simp only [strsW, List.length_map]; omega
      walk_at "stc"
      rw [show strsW (fvs a bs) ++ strsW (fvs b (insN bs x)) = strsW (fvs a bs ++ fvs b (insN bs x)) by simp [strsW]]
      exact .of q
    | sp x y a b =>
      simp only [Tm.w, Tm.dep, Tm.size, fvs] at *
      walk_at "stc"
      refine ⟨a, bs, rfl, by omega, by omega, by omega, ?_⟩
      walk_at "stc"
      refine ⟨b, bs ++ [x] ++ [y], by simp [strsW], by omega, by omega, by simp; omega, ?_⟩
      rw [fvs_mem b _ _ (app_mem (bs ++ [x]) y), fvs_mem b _ _ (fvs_mem.insN_mem (app_mem bs x) y)]
      have l1 := fvs_len a bs
      have l2 := fvs_len b (insN (insN bs x) y)
      have l4 : (strsW (fvs a bs)).length ≤ 1000 := by simp only [strsW, List.length_map]; omega
      have l5 : (strsW (fvs b (insN (insN bs x) y))).length ≤ 1000 := by simp only [strsW, List.length_map]; omega
      walk_at "stc"
      rw [show strsW (fvs a bs) ++ strsW (fvs b (insN (insN bs x) y)) = strsW (fvs a bs ++ fvs b (insN (insN bs x) y)) by simp [strsW]]
      exact .of q
end
def spLDep (n : Nat) : SpW := fun ws h R _ => ∃ t : Tm, ws = [t.w] ∧ t.dep < n ∧ R (.int (t.dep : Nat)) h
def spLSize (n : Nat) : SpW := fun ws h R _ => ∃ t : Tm, ws = [t.w] ∧ t.dep < n ∧ R (.int (t.size : Nat)) h
theorem ints_of (ns : List Int) : intsOf (ns.map W.int) = some ns := by
  induction ns with
  | nil => rfl
  | cons n ns ih => simp only [List.map_cons, intsOf, ih]; rfl
theorem memd (l : List Tm) : ∀ v ∈ l, v.dep ≤ depL l ∧ v.size ≤ Tm.sizes l := by
  induction l with
  | nil => intro v h; cases h
  | cons a l ih =>
    intro v h; simp only [depL, Tm.sizes]
    rcases List.mem_cons.mp h with rfl | h
    · exact ⟨by omega, by omega⟩
    · have := ih v h; exact ⟨by omega, by omega⟩
theorem sum_sizes : ∀ ts : List Tm, (ts.map fun v => ((v.size : Nat) : Int)).sum = (Tm.sizes ts : Nat)
  | [] => rfl
  | t :: ts => by rw [List.map_cons, List.sum_cons, sum_sizes ts]; simp [Tm.sizes]
theorem max_deps : ∀ (ts : List Tm) (n : Nat), maxI (n : Int) (ts.map fun v => ((v.dep : Nat) : Int)) = (max n (depL ts) : Nat)
  | [], n => by simp [maxI, depL]
  | t :: ts, n => by
    show maxI (max (n : Int) (t.dep : Int)) _ = _
    have e : max (n : Int) (t.dep : Int) = ((max n t.dep : Nat) : Int) := by omega
    rw [e, max_deps ts]
    simp only [depL]; omega
section
variable {P : Program} {w : World} {K : PySem.W.Frag} {mg : Str → Option Value} {base : Heap}
end

local macro_rules | `(tactic| walk_at "sts") => `(tactic| repeat ((fail_if_success (with_reducible show sSeq _ _ _ _ _)); walk_at "st1"))
/-! ## the walk through a term: its objects -/
theorem val_put (kws : List (L2.Key × W)) (k k' : L2.Key) (w : W) : valW (putW kws k w) k' = if k' = k then some w else valW kws k' := by
  unfold valW putW
  by_cases c : (kws.any fun kv => decide (kv.1 = k)) = true
  · rw [if_pos c]
    obtain ⟨z, hz, ez⟩ := List.any_eq_true.mp c
    have ez := of_decide_eq_true ez
    clear c
    induction kws with
    | nil => cases hz
    | cons y ys ih =>
      rw [List.map_cons, List.find?_cons, List.find?_cons]
      by_cases e : y.1 = k
      · rw [if_pos e]
        by_cases e2 : k' = k
        · rw [if_pos e2, e2, decide_eq_true e]; rfl
        · rw [if_neg e2, decide_eq_false (fun z => e2 (z.symm.trans e))]
          dsimp only
          by_cases hm : z ∈ ys
          · rw [ih hm, if_neg e2]
          · congr 1
            clear ih hz hm
            induction ys with
            | nil => rfl
            | cons x xs ih =>
              rw [List.map_cons, List.find?_cons, List.find?_cons]
              by_cases e3 : x.1 = k
              · rw [if_pos e3, decide_eq_false (fun z => e2 (z.symm.trans e3))]; exact ih
              · rw [if_neg e3]
                by_cases e4 : x.1 = k'
                · rw [decide_eq_true e4]
                · rw [decide_eq_false e4]; exact ih
      · rw [if_neg e]
        have hm : z ∈ ys := (List.mem_cons.mp hz).resolve_left fun q => e (by rw [← q]; exact ez)
        by_cases e3 : y.1 = k'
        · rw [decide_eq_true e3, if_neg (fun q => e (e3.trans q))]
        · rw [decide_eq_false e3]; exact ih hm
  · rw [if_neg c, List.find?_append]
    have hn : ∀ kv ∈ kws, kv.1 ≠ k := fun kv hkv e => c (List.any_eq_true.mpr ⟨kv, hkv, decide_eq_true e⟩)
    by_cases e2 : k' = k
    · rw [if_pos e2, e2, List.find?_eq_none.mpr fun kv hkv => by rw [decide_eq_true_eq]; exact hn kv hkv]
      simp
    · rw [if_neg e2]
      cases kws.find? fun kv => decide (kv.1 = k') with
      | some x => rfl
      | none => rw [List.find?_cons, decide_eq_false (fun z => e2 z.symm)]; rfl
theorem put_len (kws : List (L2.Key × W)) (k : L2.Key) (w : W) : (putW kws k w).length ≤ kws.length + 1 := by
  unfold putW; split <;> simp
theorem dW_up {h : HW} {a : Addr} {l : List W} {o : OW} {x : W} {kws : List (L2.Key × W)} (e : h a = some (.lst l)) (d : dW x h = some kws) : dW x (updW h a o) = some kws := by
  cases x with
  | ref p =>
    have hp : p ≠ a := fun z => by rw [z] at d; unfold dW at d; dsimp only at d; rw [e] at d; cases d
    unfold dW at d ⊢
    dsimp only at d ⊢
    rw [updW_ne hp]; exact d
  | _ => exact d
theorem dW_sub {h h' : HW} {x : W} {kws : List (L2.Key × W)} (s : Sub h h') (d : dW x h = some kws) : dW x h' = some kws := by
  cases x with
  | ref p =>
    unfold dW at d ⊢
    dsimp only at d ⊢
    split at d
    · rename_i hp
      rw [s _ _ hp]; exact d
    · cases d
  | _ => exact d
abbrev wkF (v a1 a2 : Addr) : List (Str × W) := [("visitor", .ref v), ("waiting", .ref a1), ("results", .ref a2)]
structure WkOk (CW CV a0 v a1 a2 : Addr) (h : HW) (qs rs : List W) : Prop where
  w : h a0 = some (.ins CW (wkF v a1 a2))
  v : h v = some (.ins CV [])
  q : h a1 = some (.lst qs)
  r : h a2 = some (.lst rs)
  n12 : a1 ≠ a2
section
variable {CW CV a0 v a1 a2 : Addr} {h : HW} {qs rs qs' rs' : List W}
theorem WkOk.ne (k : WkOk CW CV a0 v a1 a2 h qs rs) : a0 ≠ a1 ∧ a0 ≠ a2 ∧ v ≠ a1 ∧ v ≠ a2 ∧ a2 ≠ a1 :=
  ⟨fun z => (by have := k.w; rw [z, k.q] at this; cases this), fun z => (by have := k.w; rw [z, k.r] at this; cases this),
   fun z => (by have := k.v; rw [z, k.q] at this; cases this), fun z => (by have := k.v; rw [z, k.r] at this; cases this), fun z => k.n12 z.symm⟩
theorem WkOk.upq (k : WkOk CW CV a0 v a1 a2 h qs rs) : WkOk CW CV a0 v a1 a2 (updW h a1 (.lst qs')) qs' rs := by
  obtain ⟨n1, n2, n3, n4, n5⟩ := k.ne
  exact ⟨by rw [updW_ne n1]; exact k.w, by rw [updW_ne n3]; exact k.v, updW_same, by rw [updW_ne n5]; exact k.r, k.n12⟩
theorem WkOk.upr (k : WkOk CW CV a0 v a1 a2 h qs rs) : WkOk CW CV a0 v a1 a2 (updW h a2 (.lst rs')) qs rs' := by
  obtain ⟨n1, n2, n3, n4, n5⟩ := k.ne
  exact ⟨by rw [updW_ne n2]; exact k.w, by rw [updW_ne n4]; exact k.v, by rw [updW_ne k.n12]; exact k.q, updW_same, k.n12⟩
theorem WkOk.sub (k : WkOk CW CV a0 v a1 a2 h qs rs) {h' : HW} (s : Sub h h') : WkOk CW CV a0 v a1 a2 h' qs rs := ⟨s _ _ k.w, s _ _ k.v, s _ _ k.q, s _ _ k.r, k.n12⟩
end
/-! ### the terms that come out -/
def Tm.withP : Tm → List Tm → Tm
  | .op s _ _, [a, b] => .op s a b | .lam x k _, [b] => .lam x k b | .app _ _, [a, b] => .app a b | .box _, [a] => .box a
  | .lt x _ _, [a, b] => .lt x a b | .pr _ _, [a, b] => .pr a b | .sp x y _ _, [a, b] => .sp x y a b | t, _ => t
/-- the names of a dict put in -/
def Tm.put (m : List Nat → Option Tm) : Tm → List (List Nat) → Tm
  | .var x, bs => if x ∈ bs then .var x else (m x).getD (.var x)
  | .num n, _ => .num n
  | .op s a b, bs => .op s (a.put m bs) (b.put m bs)
  | .lam x k b, bs => .lam x k (b.put m (bs ++ [x]))
  | .app a b, bs => .app (a.put m bs) (b.put m bs)
  | .box a, bs => .box (a.put m bs)
  | .lt x a b, bs => .lt x (a.put m bs) (b.put m (bs ++ [x]))
  | .pr a b, bs => .pr (a.put m bs) (b.put m bs)
  | .sp x y a b, bs => .sp x y (a.put m bs) (b.put m (bs ++ [x, y]))
abbrev entW (nm : W) (lv : Int) (u : W) : W := .tup [.str z_enter, u, nm, .int lv]
abbrev bndW (nm : W) (lv : Int) (u : W) : W := .tup [.str z_bind, u, nm, .int lv]
abbrev levW (ms : W) (lv : Int) (u : W) : W := .tup [.str z_leave, u, ms, .int lv]
def Tm.inl (t : Tm) (lv : Int) : Int := match t with | .box _ => lv + 1 | _ => lv
/-- what waits behind a node that is met -/
def Tm.ents (t : Tm) (nm : W) (lv : Int) : List W :=
  match t.bn with
  | [] => levW (.lst []) lv t.w :: (tmsW t.parts).reverse.map (entW nm (t.inl lv))
  | _ :: _ => bndW nm lv t.w :: (tmsW t.parts.dropLast).reverse.map (entW nm lv)
def Tm.bms (t : Tm) : List W := t.bn.map fun x => (Tm.var x).w
def putsW (kws : List (L2.Key × W)) (t : Tm) : List (L2.Key × W) := t.bn.foldl (fun k x => putW k (.inr (mkS x)) (Tm.var x).w) kws
/-! ### what the walk's defs do -/
def spWInit (CW : Addr) : SpW := fun ws h R _ => ∃ (a0 : Addr) (v : Addr), ws = [.ref a0, .ref v] ∧ h a0 = some (.ins CW []) ∧ ∀ a1 a2, a1 ≠ a2 → a0 ≠ a1 → a0 ≠ a2 → h a1 = none → h a2 = none →
  R .non (updW (updW (updW h a1 (.lst [])) a2 (.lst [])) a0 (.ins CW (wkF v a1 a2)))
def spWAwait (CW CV : Addr) : SpW := fun ws h R _ => ∃ (a0 v a1 a2 : Addr) (qs rs ps : List W) (nm : W) (lv : Int), ws = [.ref a0, .lst ps, nm, .int lv] ∧ WkOk CW CV a0 v a1 a2 h qs rs ∧ qs.length + ps.length ≤ 1000000 ∧
  R .non (updW h a1 (.lst (qs ++ ps.reverse.map (entW nm lv))))
def spWEnter (CW CV : Addr) : SpW := fun ws h R _ => ∃ (a0 v a1 a2 : Addr) (qs rs : List W) (t : Tm) (nm : W) (lv : Int) (kws : List (L2.Key × W)), ws = [.ref a0, t.w, nm, .int lv] ∧ WkOk CW CV a0 v a1 a2 h qs rs ∧ qs.length + rs.length ≤ 900000 ∧
  dW nm h = some kws ∧ (((∃ x u, t = .var x ∧ valW kws (.inr (mkS x)) = some u ∧ R .non (updW h a2 (.lst (rs ++ [u]))))) ∨ ((∀ x, t ≠ .var x) ∧ R .non (updW h a1 (.lst (qs ++ t.ents nm lv)))))
def spWBind (CW CV : Addr) : SpW := fun ws h R _ => ∃ (a0 v a1 a2 : Addr) (qs rs : List W) (t : Tm) (nm : W) (lv : Int) (kws : List (L2.Key × W)), ws = [.ref a0, t.w, nm, .int lv] ∧ WkOk CW CV a0 v a1 a2 h qs rs ∧ qs.length + rs.length ≤ 900000 ∧
  dW nm h = some kws ∧ kws.length ≤ 1000000 ∧ t.bn ≠ [] ∧ (1 < t.parts.length → rs ≠ []) ∧ ∀ l, t.parts.getLast? = some l → ∀ p, h p = none → R .non (updW (updW h p (.dic (putsW kws t))) a1 (.lst (qs ++ [levW (.lst t.bms) lv t.w, entW (.ref p) lv l.w])))
def spWLeave (CW CV : Addr) : SpW := fun ws h R _ => ∃ (a0 v a1 a2 : Addr) (qs rs : List W) (t : Tm) (us : List Tm) (ms : W) (lv : Int), ws = [.ref a0, t.w, ms, .int lv] ∧ WkOk CW CV a0 v a1 a2 h qs (rs ++ tmsW us) ∧ qs.length + rs.length ≤ 900000 ∧
  us.length = t.parts.length ∧ R .non (updW h a2 (.lst (rs ++ [(t.withP us).w])))
def spLUsed (CV : Addr) : SpW := fun ws h R _ => ∃ (v : Addr) (u l : W), ws = [.ref v, u, l] ∧ R u h
def spLBound (CV : Addr) : SpW := fun ws h R _ => ∃ (v : Addr) (t : Tm) (u l : W), ws = [.ref v, t.w, u, l] ∧ R (.lst t.bms) h
def spLMade (CV : Addr) : SpW := fun ws h R _ => ∃ (v : Addr) (t : Tm) (us : List Tm) (ms l : W), ws = [.ref v, t.w, l, ms, .lst (tmsW us)] ∧ us.length = t.parts.length ∧ R (t.withP us).w h
def spWith : SpW := fun ws h R _ => ∃ (t : Tm) (us : List Tm), ws = [t.w, .lst (tmsW us)] ∧ us.length = t.parts.length ∧ R (t.withP us).w h
section
variable {P : Program} {w : World} {K : PySem.W.Frag} {mg : Str → Option Value} {base : Heap}
theorem ok_with_parts (T : Tx P w K mg) : FnOk P w K mg base CX0 1 T.a_with_parts T.fd_with_parts ["term", "parts"] (lSp K spWith) := by
  refine fnW T.F_with_parts sc_with_parts (fun ws h R ex ⟨_, _, e, _⟩ => by rw [e]; rfl) fun cdv A outer s H E hr => ⟨_, (wss_one (ws_ret (w_op ow_add lf_add (w_sliceA (w_var 0) wo_none (wo_some (w_kget (T.t__FIRST_PART) (w_glob rfl T.gk__FIRST_PART) (w_ix (w_var 0) w_int)))) (w_callTy call_tuple_of lf_tuple (by rfl) T.m_tuple (by decide +kernel) (wa_cons (w_var 1) wa_nil))))), fun ws h R ex ⟨t, us, e, l, q⟩ => ?_⟩
  subst e
  cases t with
  | var x =>
    obtain rfl : us = [] := List.length_eq_zero_iff.mp l
    simp only [Tm.w]
    walk_at "st"
    rw [show cut [W.str z_var, .str x] none (some 2) = [.str z_var, .str x] from rfl]
    walk_at "st"
    exact .of q
  | num n =>
    obtain rfl : us = [] := List.length_eq_zero_iff.mp l
    simp only [Tm.w]
    walk_at "st"
    rw [show cut [W.str z_num, .int n] none (some 2) = [.str z_num, .int n] from rfl]
    walk_at "st"
    exact .of q
  | op s a b =>
    obtain ⟨c, d, rfl⟩ : ∃ c d, us = [c, d] := by match us, l with | [c, d], _ => exact ⟨c, d, rfl⟩
    simp only [Tm.w]
    walk_at "st"
    rw [show cut [W.str z_op, .str [s], a.w, b.w] none (some 2) = [.str z_op, .str [s]] from rfl]
    walk_at "st"
    exact .of q
  | lam x k b =>
    obtain ⟨c, rfl⟩ : ∃ c, us = [c] := by match us, l with | [c], _ => exact ⟨c, rfl⟩
    simp only [Tm.w]
    walk_at "st"
    rw [show cut [W.str z_lam, .str x, k.w, b.w] none (some 3) = [.str z_lam, .str x, k.w] from rfl]
    walk_at "st"
    exact .of q
  | app a b =>
    obtain ⟨c, d, rfl⟩ : ∃ c d, us = [c, d] := by match us, l with | [c, d], _ => exact ⟨c, d, rfl⟩
    simp only [Tm.w]
    walk_at "st"
    rw [show cut [W.str z_app, a.w, b.w] none (some 1) = [.str z_app] from rfl]
    walk_at "st"
    exact .of q
  | box a =>
    obtain ⟨c, rfl⟩ : ∃ c, us = [c] := by match us, l with | [c], _ => exact ⟨c, rfl⟩
    simp only [Tm.w]
    walk_at "st"
    rw [show cut [W.str z_box, a.w] none (some 1) = [.str z_box] from rfl]
    walk_at "st"
    exact .of q
  | lt x a b =>
    obtain ⟨c, d, rfl⟩ : ∃ c d, us = [c, d] := by match us, l with | [c, d], _ => exact ⟨c, d, rfl⟩
    simp only [Tm.w]
    walk_at "st"
    rw [show cut [W.str wLet, .str x, a.w, b.w] none (some 2) = [.str wLet, .str x] from rfl]
    walk_at "st"
    exact .of q
  | pr a b =>
    obtain ⟨c, d, rfl⟩ : ∃ c d, us = [c, d] := by match us, l with | [c, d], _ => exact ⟨c, d, rfl⟩
    simp only [Tm.w]
    walk_at "st"
    rw [show cut [W.str z_pair, a.w, b.w] none (some 1) = [.str z_pair] from rfl]
    walk_at "st"
    exact .of q
  | sp x y a b =>
    obtain ⟨c, d, rfl⟩ : ∃ c d, us = [c, d] := by match us, l with | [c, d], _ => exact ⟨c, d, rfl⟩
    simp only [Tm.w]
    walk_at "st"
    rw [show cut [W.str z_split, .str x, .str y, a.w, b.w] none (some 3) = [.str z_split, .str x, .str y] from rfl]
    walk_at "st"
    exact .of q
theorem ok_Walk___init__ (T : Tx P w K mg) : FnOk P w K mg base CX0 1 T.a_Walk___init__ T.fd_Walk___init__ ["self", "visitor"] (lSp K (spWInit T.aC_Walk)) := by
  refine fnW T.F_Walk___init__ sc_Walk___init__ (fun ws h R ex ⟨_, _, e, _⟩ => by rw [e]; rfl) fun cdv A outer s H E hr => ⟨_, (wss_cons (ws_fld T.cls_Walk T.na_Walk_visitor (w_var 0) (w_var 1))
    (wss_cons (ws_fld T.cls_Walk T.na_Walk_waiting (w_var 0) (w_lstO wa_nil))
    (wss_one (ws_fld T.cls_Walk T.na_Walk_results (w_var 0) (w_lstO wa_nil))))), fun ws h R ex ⟨a0, v, e, ha, q⟩ => ?_⟩
  subst e
  walk_at "st"
  intro a1 h1
  have n1 : a0 ≠ a1 := fun z => by rw [← z, updW_same] at h1; cases h1
  have e1 : h a1 = none := by rwa [updW_ne n1.symm] at h1
  walk_at "st"
  intro a2 h2
  have n2 : a0 ≠ a2 := fun z => by rw [← z, updW_same] at h2; cases h2
  rw [updW_ne n2.symm] at h2
  have n12 : a1 ≠ a2 := fun z => by rw [← z, updW_same] at h2; cases h2
  have e2 : h a2 = none := by rwa [updW_ne n12.symm, updW_ne n2.symm] at h2
  walk_at "st"
  refine .of (cast ?_ (q a1 a2 n12 n1 n2 e1 e2))
  congr 1
  funext b
  unfold updW
  by_cases b0 : b = a0
  · rw [if_pos b0, if_pos b0]; rfl
  · by_cases b1 : b = a1
    · have b2 : ¬ b = a2 := fun z => n12 (b1.symm.trans z)
      simp only [b0, b1, b2, if_true, if_false, n1.symm, n12]
    · simp only [b0, b1, if_false]
theorem ok_Walk_await_parts (T : Tx P w K mg) : FnOk P w K mg base CX0 1 T.a_Walk_await_parts T.fd_Walk_await_parts ["self", "parts", "names", "level"] (lSp K (spWAwait T.aC_Walk T.aC_Linker)) := by
  refine fnW T.F_Walk_await_parts sc_Walk_await_parts (fun ws h R ex ⟨_, _, _, _, _, _, _, _, _, e, _⟩ => by rw [e]; rfl) fun cdv A outer s H E hr => ⟨_, (wss_one (ws_for PassesOwn.never rfl (wi_rev (by rfl) T.m_reversed (w_var 1)) (wg_name (i := 4) sc_Walk_await_parts.nd) (wss_one (ws_expr (w_bm PySem.F.plainAttrs_list PySem.F.slot_list_append PySem.F.type_list_append mt_append tyL_ok lf_append (w_fld T.cls_Walk T.na_Walk_waiting (w_var 0)) (wa_cons (w_tup (wa_cons (w_str z_enter) (wa_cons (w_var 4) (wa_cons (w_var 2) (wa_cons (w_var 3) wa_nil))))) wa_nil)))))), fun ws h R ex ⟨a0, v, a1, a2, qs, rs, ps, nm, lv, e, k, l, q⟩ => ?_⟩
  subst e
  obtain ⟨n1, n2, n3, n4, n5⟩ := k.ne
  obtain ⟨hw, hv, hq, hr', n12⟩ := k
  walk_at "st"
  refine go_forRvL ps (fun R q => by walk_at "st"; exact q)
    (fun i ρ' h' => ρ' = [some (.ref a0), some (.lst ps), some nm, some (.int lv), none] ∧ h' = updW h a1 (.lst (qs ++ (ps.reverse.take i).map (entW nm lv))))
    (.of ⟨rfl, ?_⟩) ?_ ?_
  · simp only [List.take_zero, List.map_nil, List.append_nil]
    funext b
    unfold updW
    split
    · rename_i e; rw [e, hq]
    · rfl
  · rintro i u ρ' h' hu ⟨rfl, rfl⟩
    have hi : i < ps.reverse.length := (List.getElem?_eq_some_iff.mp hu).1
    have eu : ps.reverse[i] = u := (List.getElem?_eq_some_iff.mp hu).2
    have li : i < ps.length := by simpa using hi
    walk_at "st"
    refine ⟨_, _, ⟨rfl, rfl⟩, .same (.same (.same (.same (.no .nil)))), ?_⟩
    rw [updW_upd, List.append_assoc, List.take_add_one, List.getElem?_eq_getElem hi, eu, List.map_append]
    exact .refl _
  · rintro ρ' h' ⟨rfl, rfl⟩
    rw [List.take_of_length_le (by simp)]
    exact .of q
theorem ok_Linker_used (T : Tx P w K mg) : FnOk P w K mg base CX0 1 T.a_Linker_used T.fd_Linker_used ["self", "meaning", "level"] (lSp K (spLUsed T.aC_Linker)) := by
  refine fnW T.F_Linker_used sc_Linker_used (fun ws h R ex ⟨_, _, _, e, _⟩ => by rw [e]; rfl) fun cdv A outer s H E hr => ⟨_, (wss_one (ws_ret (w_var 1))), fun ws h R ex ⟨v, u, l, e, q⟩ => ?_⟩
  subst e
  walk_at "st"
  exact .of q
theorem ok_Linker_bound (T : Tx P w K mg) : FnOk P w K mg base CX0 3 T.a_Linker_bound T.fd_Linker_bound ["self", "node", "part", "level"] (lSp K (spLBound T.aC_Linker)) := by
  refine fnW T.F_Linker_bound sc_Linker_bound (fun ws h R ex ⟨_, _, _, _, e, _⟩ => by rw [e]; rfl) fun cdv A outer s H E hr => ⟨_, (wss_one (ws_ret (w_lc (x := "name") (j := 4) rfl sc_Linker_bound.nd (wi_list (w_call (ok_bound_names T) (hr.mono (by walk_at "rm")) (by rfl) T.g_bound_names T.F_bound_names.kp T.b_bound_names (wa_cons (w_var 1) wa_nil))) (blkOk_by (N := N_Linker_bound) (sc := defScope s_Linker_bound) (by decide +kernel)) (fun _ _ _ _ _ => pg_name (i := 4) sc_Linker_bound.nd rfl (Or.inl rfl)) (fun _ _ _ _ _ => wts_nil) (fun _ _ _ _ _ => (w_tup (wa_cons (w_str z_var) (wa_cons (w_var 4) wa_nil))))))), fun ws h R ex ⟨v, t, u, l, e, q⟩ => ?_⟩
  subst e
  walk_at "st"
  have pl : t.bn.length ≤ 2 := by cases t <;> simp [Tm.bn]
  refine go_lc (strsW t.bn) (fun P q => by walk_at "st"; exact ⟨t, rfl, q⟩) (by simp [strsW]; omega) (fun w => .tup [.str z_var, w]) ?_ ?_
  · intro w h' R' hw hr'
    walk_at "st"
    exact hr'
  · rw [show (strsW t.bn).map (fun w => W.tup [.str z_var, w]) = t.bms by unfold strsW Tm.bms; rw [List.map_map]; rfl]
    exact .of q
theorem ok_Linker_made (T : Tx P w K mg) : FnOk P w K mg base CX0 3 T.a_Linker_made T.fd_Linker_made ["self", "node", "level", "meanings", "parts"] (lSp K (spLMade T.aC_Linker)) := by
  refine fnW T.F_Linker_made sc_Linker_made (fun ws h R ex ⟨_, _, _, _, _, e, _⟩ => by rw [e]; rfl) fun cdv A outer s H E hr => ⟨_, (wss_one (ws_ret (w_call (ok_with_parts T) (hr.mono (by walk_at "rm")) (by rfl) T.g_with_parts T.F_with_parts.kp T.b_with_parts (wa_cons (w_var 1) (wa_cons (w_var 4) wa_nil))))), fun ws h R ex ⟨v, t, us, ms, l, e, lu, q⟩ => ?_⟩
  subst e
  walk_at "st"
  exact ⟨t, us, rfl, lu, .of q⟩
theorem ok_Walk_enter (T : Tx P w K mg) : FnOk P w K mg base CX0 4 T.a_Walk_enter T.fd_Walk_enter ["self", "node", "names", "level"] (lSp K (spWEnter T.aC_Walk T.aC_Linker)) := by
  refine fnW T.F_Walk_enter sc_Walk_enter (fun ws h R ex ⟨_, _, _, _, _, _, _, _, _, _, e, _⟩ => by rw [e]; rfl) fun cdv A outer s H E hr => ⟨_, (wss_cons (ws_set (i := 4) sc_Walk_enter.nd (w_call (ok_parts_of T) (hr.mono (by walk_at "rm")) (by rfl) T.g_parts_of T.F_parts_of.kp T.b_parts_of (wa_cons (w_var 1) wa_nil)))
    (wss_one (ws_if (wt_cmp (ow_eq hr.units) lf_eq (w_ix (w_var 1) w_int) (w_str z_var) (nomark _)) (wss_one (ws_expr (w_bm PySem.F.plainAttrs_list PySem.F.slot_list_append PySem.F.type_list_append mt_append tyL_ok lf_append (w_fld T.cls_Walk T.na_Walk_results (w_var 0)) (wa_cons (w_methG T.cls_Linker T.m_Linker_used (ok_Linker_used T) (hr.mono (by walk_at "rm")) T.b_Linker_used pass0 (fun _ _ _ => el_no) (w_fld T.cls_Walk T.na_Walk_visitor (w_var 0)) (wa_cons (w_dget (hu_of hr) (w_var 2) (w_ix (w_var 1) w_int)) (wa_cons (w_var 3) wa_nil))) wa_nil)))) (wss_one (ws_if (wt_truth (w_call (ok_bound_names T) (hr.mono (by walk_at "rm")) (by rfl) T.g_bound_names T.F_bound_names.kp T.b_bound_names (wa_cons (w_var 1) wa_nil))) (wss_cons (ws_expr (w_bm PySem.F.plainAttrs_list PySem.F.slot_list_append PySem.F.type_list_append mt_append tyL_ok lf_append (w_fld T.cls_Walk T.na_Walk_waiting (w_var 0)) (wa_cons (w_tup (wa_cons (w_str z_bind) (wa_cons (w_var 1) (wa_cons (w_var 2) (wa_cons (w_var 3) wa_nil))))) wa_nil)))
    (wss_one (ws_expr (w_methG T.cls_Walk T.m_Walk_await_parts (ok_Walk_await_parts T) (hr.mono (by walk_at "rm")) T.b_Walk_await_parts pass0 (fun _ _ _ => el_no) (w_var 0) (wa_cons (w_slice (w_var 4) wo_none (wo_some (w_un un_neg lf_neg w_int))) (wa_cons (w_var 2) (wa_cons (w_var 3) wa_nil))))))) (wss_cons (ws_expr (w_bm PySem.F.plainAttrs_list PySem.F.slot_list_append PySem.F.type_list_append mt_append tyL_ok lf_append (w_fld T.cls_Walk T.na_Walk_waiting (w_var 0)) (wa_cons (w_tup (wa_cons (w_str z_leave) (wa_cons (w_var 1) (wa_cons (w_lst wa_nil) (wa_cons (w_var 3) wa_nil))))) wa_nil)))
    (wss_one (ws_expr (w_methG T.cls_Walk T.m_Walk_await_parts (ok_Walk_await_parts T) (hr.mono (by walk_at "rm")) T.b_Walk_await_parts pass0 (fun _ _ _ => el_no) (w_var 0) (wa_cons (w_var 4) (wa_cons (w_var 2) (wa_cons (w_ifExp (wt_cmp (ow_eq hr.units) lf_eq (w_ix (w_var 1) w_int) (w_str z_box) (nomark _)) (w_op ow_add lf_add (w_var 3) w_int) (w_var 3)) wa_nil)))))))))))), fun ws h R ex ⟨a0, v, a1, a2, qs, rs, t, nm, lv, kws, e, k, l, d, q⟩ => ?_⟩
  subst e
  have k' := k
  obtain ⟨n1, n2, n3, n4, n5⟩ := k.ne
  obtain ⟨hw, hv, hq, hr', n12⟩ := k
  rcases q with ⟨x, u, rfl, ev, q⟩ | ⟨nv, q⟩
  · simp only [Tm.w]
    walk_at "st"
    refine ⟨.var x, rfl, ?_⟩
    walk_at "stc"
    refine go_dget (w := u) (by unfold dgW; rw [d]; exact congrArg some ev) ?_
    walk_at "st"
    refine ⟨v, u, _, rfl, ?_⟩
    walk_at "st"
    exact .of q
  cases t with
  | var x => exact absurd rfl (nv x)
  | num n =>
    simp only [Tm.w]
    walk_at "st"
    refine ⟨.num n, rfl, ?_⟩
    walk_at "stc"
    refine ⟨.num n, rfl, ?_⟩
    walk_at "stc"
    refine ⟨a0, v, a1, a2, _, rs, [], nm, _, rfl, k'.upq, by simp; omega, ?_⟩
    rw [updW_upd, List.append_assoc]
    exact .of q
  | op s a b =>
    simp only [Tm.w]
    walk_at "st"
    refine ⟨.op s a b, rfl, ?_⟩
    walk_at "stc"
    refine ⟨.op s a b, rfl, ?_⟩
    walk_at "stc"
    refine ⟨a0, v, a1, a2, _, rs, [a.w, b.w], nm, _, rfl, k'.upq, by simp; omega, ?_⟩
    rw [updW_upd, List.append_assoc]
    exact .of q
  | lam x k b =>
    simp only [Tm.w]
    walk_at "st"
    refine ⟨.lam x k b, rfl, ?_⟩
    walk_at "stc"
    refine ⟨.lam x k b, rfl, ?_⟩
    walk_at "stc"
    refine ⟨a0, v, a1, a2, _, rs, [], nm, _, rfl, k'.upq, by simp; omega, ?_⟩
    rw [updW_upd, List.append_assoc]
    exact .of q
  | app a b =>
    simp only [Tm.w]
    walk_at "st"
    refine ⟨.app a b, rfl, ?_⟩
    walk_at "stc"
    refine ⟨.app a b, rfl, ?_⟩
    walk_at "stc"
    refine ⟨a0, v, a1, a2, _, rs, [a.w, b.w], nm, _, rfl, k'.upq, by simp; omega, ?_⟩
    rw [updW_upd, List.append_assoc]
    exact .of q
  | box a =>
    simp only [Tm.w]
    walk_at "st"
    refine ⟨.box a, rfl, ?_⟩
    walk_at "stc"
    refine ⟨.box a, rfl, ?_⟩
    walk_at "stc"
    refine ⟨a0, v, a1, a2, _, rs, [a.w], nm, _, rfl, k'.upq, by simp; omega, ?_⟩
    rw [updW_upd, List.append_assoc]
    exact .of q
  | lt x a b =>
    simp only [Tm.w]
    walk_at "st"
    refine ⟨.lt x a b, rfl, ?_⟩
    walk_at "stc"
    refine ⟨.lt x a b, rfl, ?_⟩
    walk_at "stc"
    refine ⟨a0, v, a1, a2, _, rs, [a.w], nm, _, rfl, k'.upq, by simp; omega, ?_⟩
    rw [updW_upd, List.append_assoc]
    exact .of q
  | pr a b =>
    simp only [Tm.w]
    walk_at "st"
    refine ⟨.pr a b, rfl, ?_⟩
    walk_at "stc"
    refine ⟨.pr a b, rfl, ?_⟩
    walk_at "stc"
    refine ⟨a0, v, a1, a2, _, rs, [a.w, b.w], nm, _, rfl, k'.upq, by simp; omega, ?_⟩
    rw [updW_upd, List.append_assoc]
    exact .of q
  | sp x y a b =>
    simp only [Tm.w]
    walk_at "st"
    refine ⟨.sp x y a b, rfl, ?_⟩
    walk_at "stc"
    refine ⟨.sp x y a b, rfl, ?_⟩
    walk_at "stc"
    refine ⟨a0, v, a1, a2, _, rs, [a.w], nm, _, rfl, k'.upq, by simp; omega, ?_⟩
    rw [updW_upd, List.append_assoc]
    exact .of q
theorem ok_Walk_bind (T : Tx P w K mg) : FnOk P w K mg base CX0 4 T.a_Walk_bind T.fd_Walk_bind ["self", "node", "names", "level"] (lSp K (spWBind T.aC_Walk T.aC_Linker)) := by
  refine fnW T.F_Walk_bind sc_Walk_bind (fun ws h R ex ⟨_, _, _, _, _, _, _, _, _, _, e, _⟩ => by rw [e]; rfl) fun cdv A outer s H E hr => ⟨_, (wss_cons (ws_set (i := 4) sc_Walk_bind.nd (w_call (ok_parts_of T) (hr.mono (by walk_at "rm")) (by rfl) T.g_parts_of T.F_parts_of.kp T.b_parts_of (wa_cons (w_var 1) wa_nil)))
    (wss_cons (ws_set (i := 5) sc_Walk_bind.nd (w_ifExp (wt_cmp (rw := gtW) op_gt lf_cmp (w_callB call_len lf_len (by rfl) T.m_len (by decide +kernel) (wa_cons (w_var 4) wa_nil)) w_int (nomark _)) (w_ix (w_fld T.cls_Walk T.na_Walk_results (w_var 0)) (w_un un_neg lf_neg w_int)) w_non))
    (wss_cons (ws_set (i := 6) sc_Walk_bind.nd (w_methG T.cls_Linker T.m_Linker_bound (ok_Linker_bound T) (hr.mono (by walk_at "rm")) T.b_Linker_bound pass0 (fun _ _ _ => el_no) (w_fld T.cls_Walk T.na_Walk_visitor (w_var 0)) (wa_cons (w_var 1) (wa_cons (w_var 5) (wa_cons (w_var 3) wa_nil)))))
    (wss_cons (ws_set (i := 7) sc_Walk_bind.nd (w_callTy call_dictD lf_dictO (by rfl) T.m_dict (by decide +kernel) (wa_cons (w_var 2) wa_nil)))
    (wss_cons (ws_for PassesOwn.never rfl (wi_zip (by rfl) T.m_zip (wa_cons (w_call (ok_bound_names T) (hr.mono (by walk_at "rm")) (by rfl) T.g_bound_names T.F_bound_names.kp T.b_bound_names (wa_cons (w_var 1) wa_nil)) (wa_cons (w_var 6) wa_nil))) (wg_tup rfl (wgs_cons (wg_name (i := 8) sc_Walk_bind.nd) (wgs_cons (wg_name (i := 9) sc_Walk_bind.nd) wgs_nil))) (wss_one (ws_dput (hu_of hr) (w_var 7) (w_var 8) (w_var 9))))
    (wss_cons (ws_expr (w_bm PySem.F.plainAttrs_list PySem.F.slot_list_append PySem.F.type_list_append mt_append tyL_ok lf_append (w_fld T.cls_Walk T.na_Walk_waiting (w_var 0)) (wa_cons (w_tup (wa_cons (w_str z_leave) (wa_cons (w_var 1) (wa_cons (w_var 6) (wa_cons (w_var 3) wa_nil))))) wa_nil)))
    (wss_one (ws_expr (w_methG T.cls_Walk T.m_Walk_await_parts (ok_Walk_await_parts T) (hr.mono (by walk_at "rm")) T.b_Walk_await_parts pass0 (fun _ _ _ => el_no) (w_var 0) (wa_cons (w_slice (w_var 4) (wo_some (w_un un_neg lf_neg w_int)) wo_none) (wa_cons (w_var 7) (wa_cons (w_var 3) wa_nil)))))))))))), fun ws h R ex ⟨a0, v, a1, a2, qs, rs, t, nm, lv, kws, e, k, l, d, lk, nb, ne, q⟩ => ?_⟩
  subst e
  have k' := k
  obtain ⟨n1, n2, n3, n4, n5⟩ := k.ne
  obtain ⟨hw, hv, hq, hr', n12⟩ := k
  have lt : (tmsW t.parts).length = t.parts.length := by simp
  have l2 : t.bn.length ≤ 2 := by cases t <;> simp [Tm.bn]
  obtain ⟨i, l, ep⟩ : ∃ i l, t.parts = i ++ [l] := by cases t <;> first | exact absurd rfl nb | exact ⟨[], _, rfl⟩ | exact ⟨[_], _, rfl⟩
  have q := q l (by rw [ep]; simp)
  walk_at "st"
  refine ⟨t, rfl, ?_⟩
  walk_at "sts"
  with_reducible show sSeq _ _ _ _ _
  refine go_seqM (fun ρ' h' => h' = h ∧ ∃ u, ρ' = [some (.ref a0), some t.w, some nm, some (.int lv), some (.lst (tmsW t.parts)), some u, none, none, none, none]) ?_ ?_
  · rintro ρ' h' ⟨rfl, u, rfl⟩
    walk_at "st"
    refine ⟨v, t, u, _, rfl, ?_⟩
    walk_at "st"
    refine go_dictO d ?_
    intro p hp
    have q := q p hp
    walk_at "st"
    have lb : t.bms.length = t.bn.length := by simp [Tm.bms]
    have lz : (zipW (strsW t.bn) t.bms).length = t.bn.length := by simp [zipW, strsW, lb]
    refine go_forZ (strsW t.bn) t.bms (fun R q => by walk_at "st"; exact ⟨t, rfl, (by walk_at "st"; exact q)⟩)
      (fun i ρ' h2 => ρ' = [some (.ref a0), some t.w, some nm, some (.int lv), some (.lst (tmsW t.parts)), some u, some (.lst t.bms), some (.ref p), none, none] ∧ h2 = updW h' p (.dic ((t.bn.take i).foldl (fun k x => putW k (.inr (mkS x)) (Tm.var x).w) kws)))
      (.of ⟨rfl, rfl⟩) ?_ ?_
    · rintro i y ρ' h2 hy ⟨rfl, rfl⟩
      have hi : i < t.bn.length := by have := (List.getElem?_eq_some_iff.mp hy).1; omega
      have ey : y = .tup [.str t.bn[i], (Tm.var t.bn[i]).w] := by
        unfold zipW strsW Tm.bms at hy
        rw [List.getElem?_zipWith, List.getElem?_map, List.getElem?_map, List.getElem?_eq_getElem hi] at hy
        exact (Option.some.inj hy).symm
      subst ey
      have ll : ∀ (xs : List (List Nat)) (k : List (L2.Key × W)), (xs.foldl (fun k x => putW k (.inr (mkS x)) (Tm.var x).w) k).length ≤ k.length + xs.length := fun xs => by
        induction xs with
        | nil => intro k; exact Nat.le_refl _
        | cons x xs ih => intro k; have h1 := ih (putW k (.inr (mkS x)) (Tm.var x).w); have h2 := put_len k (.inr (mkS x)) (Tm.var x).w; simp only [List.foldl_cons, List.length_cons] at h1 ⊢; omega
      have ll := ll (t.bn.take i) kws
      rw [List.length_take] at ll
      walk_at "st"
      refine ⟨_, _, ⟨rfl, rfl⟩, .same (.same (.same (.same (.same (.same (.same (.same (.no (.no .nil))))))))), ?_⟩
      rw [updW_upd, List.take_add_one, List.getElem?_eq_getElem hi, List.foldl_append]
      exact .refl _
    · rintro ρ' h2 ⟨rfl, rfl⟩
      rw [lz, List.take_length]
      have np0 : a0 ≠ p := fun z => by rw [← z, hw] at hp; cases hp
      have npv : v ≠ p := fun z => by rw [← z, hv] at hp; cases hp
      have np1 : a1 ≠ p := fun z => by rw [← z, hq] at hp; cases hp
      have np2 : a2 ≠ p := fun z => by rw [← z, hr'] at hp; cases hp
      have k2 : WkOk T.aC_Walk T.aC_Linker a0 v a1 a2 (updW h' p (.dic (putsW kws t))) qs rs := ⟨by rw [updW_ne np0]; exact hw, by rw [updW_ne npv]; exact hv, by rw [updW_ne np1]; exact hq, by rw [updW_ne np2]; exact hr', n12⟩
      have ec : cut (tmsW t.parts) (some (-1)) none = [l.w] := by
        rw [ep, show tmsW (i ++ [l]) = tmsW i ++ [l.w] by simp [tmsW]]
        unfold cut HT.sIx
        simp
        rw [show (-1 + ((i.length : Int) + 1)).toNat = (tmsW i).length by simp; omega, List.drop_left, show i.length + 1 - (tmsW i).length = 1 by simp]
        rfl
      walk_at "st"
      rw [ec]
      refine ⟨a0, v, a1, a2, _, rs, [l.w], _, _, rfl, k2.upq, by simp; omega, ?_⟩
      rw [updW_upd, List.append_assoc]
      exact .of q
  · intro N hN
    walk_at "st"
    refine go_dec (fun c => ?_) (fun c => ?_)
    · rcases List.eq_nil_or_concat rs with z | ⟨r0, u, z⟩
      · exact absurd z (ne (by rw [lt] at c; omega))
      · rw [List.concat_eq_append] at z
        have e9 : atI rs (-1) = some u := by rw [z]; exact atI_last _ _
        walk_at "st"
        exact hN _ _ ⟨rfl, u, rfl⟩
    · walk_at "st"
      exact hN _ _ ⟨rfl, _, rfl⟩
theorem ok_Walk_leave (T : Tx P w K mg) : FnOk P w K mg base CX0 4 T.a_Walk_leave T.fd_Walk_leave ["self", "node", "meanings", "level"] (lSp K (spWLeave T.aC_Walk T.aC_Linker)) := by
  refine fnW T.F_Walk_leave sc_Walk_leave (fun ws h R ex ⟨_, _, _, _, _, _, _, _, _, _, e, _⟩ => by rw [e]; rfl) fun cdv A outer s H E hr => ⟨_, (wss_cons (ws_set (i := 4) sc_Walk_leave.nd (w_op (rw := subW) op_sub lf_int0 (w_callB call_len lf_len (by rfl) T.m_len (by decide +kernel) (wa_cons (w_fld T.cls_Walk T.na_Walk_results (w_var 0)) wa_nil)) (w_callB call_len lf_len (by rfl) T.m_len (by decide +kernel) (wa_cons (w_call (ok_parts_of T) (hr.mono (by walk_at "rm")) (by rfl) T.g_parts_of T.F_parts_of.kp T.b_parts_of (wa_cons (w_var 1) wa_nil)) wa_nil))))
    (wss_cons (ws_set (i := 5) sc_Walk_leave.nd (w_slice (w_fld T.cls_Walk T.na_Walk_results (w_var 0)) (wo_some (w_var 4)) wo_none))
    (wss_cons (ws_delF (w_fld T.cls_Walk T.na_Walk_results (w_var 0)) (w_var 4))
    (wss_one (ws_expr (w_bm PySem.F.plainAttrs_list PySem.F.slot_list_append PySem.F.type_list_append mt_append tyL_ok lf_append (w_fld T.cls_Walk T.na_Walk_results (w_var 0)) (wa_cons (w_methG T.cls_Linker T.m_Linker_made (ok_Linker_made T) (hr.mono (by walk_at "rm")) T.b_Linker_made pass0 (fun _ _ _ => el_no) (w_fld T.cls_Walk T.na_Walk_visitor (w_var 0)) (wa_cons (w_var 1) (wa_cons (w_var 3) (wa_cons (w_var 2) (wa_cons (w_var 5) wa_nil))))) wa_nil))))))), fun ws h R ex ⟨a0, v, a1, a2, qs, rs, t, us, ms, lv, e, k, l, lu, q⟩ => ?_⟩
  subst e
  have k' := k
  obtain ⟨n1, n2, n3, n4, n5⟩ := k.ne
  obtain ⟨hw, hv, hq, hr', n12⟩ := k
  have lt : (tmsW t.parts).length = t.parts.length := by simp
  have lu2 : (tmsW us).length = us.length := by simp
  walk_at "st"
  refine ⟨t, rfl, ?_⟩
  walk_at "st"
  have es : (((rs ++ tmsW us).length : Nat) : Int) - ((tmsW t.parts).length : Nat) = ((rs.length : Nat) : Int) := by rw [lt, List.length_append, lu2, lu]; omega
  rw [es]
  walk_at "st"
  refine go_slO hr' ?_
  rw [cut_from, List.drop_left]
  walk_at "st"
  rw [show (rs ++ tmsW us).take ((rs.length : Nat) : Int).toNat = rs by rw [Int.toNat_natCast, List.take_left]]
  walk_at "st"
  refine ⟨v, t, us, _, _, rfl, lu, ?_⟩
  walk_at "st"
  rw [updW_upd]
  exact .of q
end
def EnvOk (kws : List (L2.Key × W)) (m : List Nat → Option Tm) (bs : List (List Nat)) : Prop := ∀ y, valW kws (.inr (mkS y)) = if y ∈ bs then some (Tm.var y).w else (m y).map Tm.w
theorem EnvOk.put {kws : List (L2.Key × W)} {m : List Nat → Option Tm} {bs : List (List Nat)} (h : EnvOk kws m bs) (x : List Nat) : EnvOk (putW kws (.inr (mkS x)) (Tm.var x).w) m (bs ++ [x]) := fun y => by
  rw [val_put, h y]
  by_cases e : y = x
  · subst e; rw [if_pos rfl, if_pos (by simp)]
  · rw [if_neg (fun z => e (mkS_inj.mp (Sum.inr.inj z)))]
    have : (y ∈ bs ++ [x]) ↔ y ∈ bs := by simp [e]
    simp only [this]
theorem EnvOk.puts {kws : List (L2.Key × W)} {m : List Nat → Option Tm} {bs : List (List Nat)} (h : EnvOk kws m bs) (t : Tm) : EnvOk (putsW kws t) m (bs ++ t.bn) := by
  cases t <;> first
    | exact h.put _
    | exact (by simpa [Tm.bn, putsW] using h)
    | exact (by simpa [Tm.bn, putsW] using (h.put _).put _)
/-- what waits, the next one first -/
inductive Fr where
  | ent (t : Tm) (bs : List (List Nat)) (nm : W) (lv : Int) | bnd (t : Tm) (bs : List (List Nat)) (nm : W) (lv : Int) | lev (t : Tm) (ms : W) (lv : Int)
def Fr.w : Fr → W
  | .ent t _ nm lv => entW nm lv t.w | .bnd t _ nm lv => bndW nm lv t.w | .lev t ms lv => levW ms lv t.w
def lvR (t : Tm) (rs : List Tm) : List Tm := rs.take (rs.length - t.parts.length) ++ [t.withP (rs.drop (rs.length - t.parts.length))]
def runF (m : List Nat → Option Tm) : List Fr → List Tm → List Tm
  | [], rs => rs
  | .ent t bs _ _ :: fs, rs => runF m fs (rs ++ [t.put m bs])
  | .bnd t bs _ _ :: fs, rs => runF m fs (lvR t (rs ++ (t.parts.getLast?.map fun l => l.put m (bs ++ t.bn)).toList))
  | .lev t _ _ :: fs, rs => runF m fs (lvR t rs)
def okF : List Fr → Nat → Prop
  | [], n => n = 1
  | .ent _ _ _ _ :: fs, n => okF fs (n + 1)
  | .bnd t _ _ _ :: fs, n => t.bn ≠ [] ∧ t.parts.length ≤ n + 1 ∧ okF fs (n + 2 - t.parts.length)
  | .lev t _ _ :: fs, n => t.parts.length ≤ n ∧ okF fs (n + 1 - t.parts.length)
def wtF : List Fr → Nat
  | [] => 0
  | .ent t _ _ _ :: fs => 3 * t.size + wtF fs
  | .bnd t _ _ _ :: fs => 3 * ((t.parts.getLast?.map Tm.size).getD 0) + 2 + wtF fs
  | .lev _ _ _ :: fs => 1 + wtF fs
/-- names that a node finds -/
def FrOk (m : List Nat → Option Tm) (h : HW) (z : Nat) : Fr → Prop
  | .ent t bs nm _ => ∃ kws, dW nm h = some kws ∧ EnvOk kws m bs ∧ (∀ x ∈ fvs t bs, (m x).isSome = true) ∧ kws.length + 2 * t.size ≤ z
  | .bnd t bs nm _ => ∃ kws, dW nm h = some kws ∧ EnvOk kws m bs ∧ (∀ l, t.parts.getLast? = some l → ∀ x ∈ fvs l (bs ++ t.bn), (m x).isSome = true) ∧ kws.length + 2 * t.size ≤ z
  | .lev _ _ _ => True
theorem fvs_congr : ∀ (t : Tm) (bs cs : List (List Nat)), (∀ y, y ∈ bs ↔ y ∈ cs) → fvs t bs = fvs t cs := fun t => by
  have ins : ∀ (bs cs : List (List Nat)) (x : List Nat), (∀ y, y ∈ bs ↔ y ∈ cs) → ∀ y, y ∈ insN bs x ↔ y ∈ insN cs x := fun bs cs x h y => by
    have m : ∀ ds : List (List Nat), y ∈ insN ds x ↔ y ∈ ds ∨ y = x := fun ds => by
      unfold insN
      split
      · rename_i hx
        exact ⟨.inl, fun z => z.elim id fun e => by rw [e]; exact hx⟩
      · simp
    rw [m, m, h]
  induction t with
  | var x => intro bs cs h; simp only [fvs, h]
  | num n => intro bs cs h; rfl
  | op s a b iha ihb => intro bs cs h; simp only [fvs, iha bs cs h, ihb bs cs h]
  | lam x k b ih => intro bs cs h; simp only [fvs, ih _ _ (ins bs cs x h)]
  | app a b iha ihb => intro bs cs h; simp only [fvs, iha bs cs h, ihb bs cs h]
  | box a ih => intro bs cs h; simp only [fvs, ih bs cs h]
  | lt x a b iha ihb => intro bs cs h; simp only [fvs, iha bs cs h, ihb _ _ (ins bs cs x h)]
  | pr a b iha ihb => intro bs cs h; simp only [fvs, iha bs cs h, ihb bs cs h]
  | sp x y a b iha ihb => intro bs cs h; simp only [fvs, iha bs cs h, ihb _ _ (ins _ _ y (ins bs cs x h))]
theorem insN_app (bs : List (List Nat)) (x : List Nat) : ∀ y, y ∈ insN bs x ↔ y ∈ bs ++ [x] := fun y => by
  unfold insN
  split
  · rename_i hx
    simp only [List.mem_append, List.mem_singleton]
    exact ⟨.inl, fun z => z.elim id fun e => by rw [e]; exact hx⟩
  · rfl
theorem fvs1 (t : Tm) (bs : List (List Nat)) (x : List Nat) : fvs t (insN bs x) = fvs t (bs ++ [x]) := fvs_congr t _ _ (insN_app bs x)
theorem fvs2 (t : Tm) (bs : List (List Nat)) (x y : List Nat) : fvs t (insN (insN bs x) y) = fvs t (bs ++ [x, y]) := fvs_congr t _ _ fun z => by
  rw [insN_app, List.mem_append, insN_app, List.mem_append, List.mem_append]; simp [or_assoc]
theorem tmsW_append (a b : List Tm) : tmsW (a ++ b) = tmsW a ++ tmsW b := by simp [tmsW]
theorem lvR_app (t : Tm) (rs us : List Tm) (h : us.length = t.parts.length) : lvR t (rs ++ us) = rs ++ [t.withP us] := by
  unfold lvR
  rw [show (rs ++ us).length - t.parts.length = rs.length by rw [List.length_append, h]; omega, List.take_left, List.drop_left]
section
variable {m : List Nat → Option Tm}
theorem ent_step (t : Tm) (nv : ∀ x, t ≠ .var x) (bs : List (List Nat)) (nm : W) (lv : Int) (fs : List Fr) : ∃ gs : List Fr, (gs.map Fr.w).reverse = (fs.map Fr.w).reverse ++ t.ents nm lv ∧ (∀ rs, runF m gs rs = runF m (.ent t bs nm lv :: fs) rs) ∧
    (∀ n, okF fs (n + 1) → okF gs n) ∧ wtF gs < wtF (.ent t bs nm lv :: fs) ∧ ∀ h z, (∀ f ∈ Fr.ent t bs nm lv :: fs, FrOk m h z f) → ∀ f ∈ gs, FrOk m h z f := by
  have sub : ∀ (u : Tm) (lv' : Int), (∀ x ∈ fvs u bs, x ∈ fvs t bs) → u.size < t.size → ∀ h z, FrOk m h z (.ent t bs nm lv) → FrOk m h z (.ent u bs nm lv') := fun u lv' hf hz h z ⟨kws, a, b, c, d⟩ => ⟨kws, a, b, fun x hx => c x (hf x hx), by omega⟩
  cases t with
  | var x => exact absurd rfl (nv x)
  | num n =>
    refine ⟨.lev (.num n) (.lst []) lv :: fs, by simp [Tm.ents, Tm.bn, Tm.parts, tmsW, Fr.w], fun rs => ?_, fun n h => by simpa [okF, Tm.parts] using h, by simp [wtF, Tm.size], fun h z a f hf => ?_⟩
    · show runF m fs (lvR _ rs) = runF m fs (rs ++ [_])
      have := lvR_app (.num n) rs [] rfl
      rw [List.append_nil] at this
      rw [this]; rfl
    · rcases List.mem_cons.mp hf with rfl | hf
      · trivial
      · exact a f (List.mem_cons_of_mem _ hf)
  | op s a b =>
    refine ⟨.ent a bs nm lv :: .ent b bs nm lv :: .lev (.op s a b) (.lst []) lv :: fs, by simp [Tm.ents, Tm.bn, Tm.parts, tmsW, Fr.w, Tm.inl], fun rs => ?_, fun n h => by simpa [okF, Tm.parts] using h, by simp [wtF, Tm.size]; omega, fun h z w f hf => ?_⟩
    · show runF m fs (lvR _ ((rs ++ [_]) ++ [_])) = runF m fs (rs ++ [_])
      rw [List.append_assoc]; exact congrArg (runF m fs) (lvR_app _ rs [_, _] rfl)
    · have w0 := w _ List.mem_cons_self
      simp only [List.mem_cons] at hf
      rcases hf with rfl | rfl | rfl | hf
      · exact sub a lv (fun x hx => by simp [fvs, hx]) (by simp [Tm.size]; omega) h z w0
      · exact sub b lv (fun x hx => by simp [fvs, hx]) (by simp [Tm.size]; omega) h z w0
      · trivial
      · exact w f (List.mem_cons_of_mem _ hf)
  | app a b =>
    refine ⟨.ent a bs nm lv :: .ent b bs nm lv :: .lev (.app a b) (.lst []) lv :: fs, by simp [Tm.ents, Tm.bn, Tm.parts, tmsW, Fr.w, Tm.inl], fun rs => ?_, fun n h => by simpa [okF, Tm.parts] using h, by simp [wtF, Tm.size]; omega, fun h z w f hf => ?_⟩
    · show runF m fs (lvR _ ((rs ++ [_]) ++ [_])) = runF m fs (rs ++ [_])
      rw [List.append_assoc]; exact congrArg (runF m fs) (lvR_app _ rs [_, _] rfl)
    · have w0 := w _ List.mem_cons_self
      simp only [List.mem_cons] at hf
      rcases hf with rfl | rfl | rfl | hf
      · exact sub a lv (fun x hx => by simp [fvs, hx]) (by simp [Tm.size]; omega) h z w0
      · exact sub b lv (fun x hx => by simp [fvs, hx]) (by simp [Tm.size]; omega) h z w0
      · trivial
      · exact w f (List.mem_cons_of_mem _ hf)
  | pr a b =>
    refine ⟨.ent a bs nm lv :: .ent b bs nm lv :: .lev (.pr a b) (.lst []) lv :: fs, by simp [Tm.ents, Tm.bn, Tm.parts, tmsW, Fr.w, Tm.inl], fun rs => ?_, fun n h => by simpa [okF, Tm.parts] using h, by simp [wtF, Tm.size]; omega, fun h z w f hf => ?_⟩
    · show runF m fs (lvR _ ((rs ++ [_]) ++ [_])) = runF m fs (rs ++ [_])
      rw [List.append_assoc]; exact congrArg (runF m fs) (lvR_app _ rs [_, _] rfl)
    · have w0 := w _ List.mem_cons_self
      simp only [List.mem_cons] at hf
      rcases hf with rfl | rfl | rfl | hf
      · exact sub a lv (fun x hx => by simp [fvs, hx]) (by simp [Tm.size]; omega) h z w0
      · exact sub b lv (fun x hx => by simp [fvs, hx]) (by simp [Tm.size]; omega) h z w0
      · trivial
      · exact w f (List.mem_cons_of_mem _ hf)
  | box a =>
    refine ⟨.ent a bs nm (lv + 1) :: .lev (.box a) (.lst []) lv :: fs, by simp [Tm.ents, Tm.bn, Tm.parts, tmsW, Fr.w, Tm.inl], fun rs => ?_, fun n h => by simpa [okF, Tm.parts] using h, by simp [wtF, Tm.size]; omega, fun h z w f hf => ?_⟩
    · show runF m fs (lvR _ (rs ++ [_])) = runF m fs (rs ++ [_])
      exact congrArg (runF m fs) (lvR_app _ rs [_] rfl)
    · have w0 := w _ List.mem_cons_self
      simp only [List.mem_cons] at hf
      rcases hf with rfl | rfl | hf
      · exact sub a (lv + 1) (fun x hx => by simp [fvs, hx]) (by simp [Tm.size]) h z w0
      · trivial
      · exact w f (List.mem_cons_of_mem _ hf)
  | lam x k b =>
    refine ⟨.bnd (.lam x k b) bs nm lv :: fs, by simp [Tm.ents, Tm.bn, Tm.parts, tmsW, Fr.w], fun rs => ?_, fun n h => ⟨by simp [Tm.bn], by simp [Tm.parts], by simpa [Tm.parts] using h⟩, by simp [wtF, Tm.size, Tm.parts]; omega, fun h z w f hf => ?_⟩
    · show runF m fs (lvR _ (rs ++ [_])) = runF m fs (rs ++ [_])
      exact congrArg (runF m fs) (lvR_app _ rs [_] rfl)
    · rcases List.mem_cons.mp hf with rfl | hf
      · obtain ⟨kws, a, b', c, d⟩ := w _ List.mem_cons_self
        refine ⟨kws, a, b', fun l hl y hy => c y ?_, d⟩
        cases hl
        simp only [fvs]; rw [fvs1]; exact hy
      · exact w f (List.mem_cons_of_mem _ hf)
  | lt x a b =>
    refine ⟨.ent a bs nm lv :: .bnd (.lt x a b) bs nm lv :: fs, by simp [Tm.ents, Tm.bn, Tm.parts, tmsW, Fr.w], fun rs => ?_, fun n h => ⟨by simp [Tm.bn], by simp [Tm.parts], by simpa [Tm.parts] using h⟩, by simp [wtF, Tm.size, Tm.parts]; omega, fun h z w f hf => ?_⟩
    · show runF m fs (lvR _ ((rs ++ [_]) ++ [_])) = runF m fs (rs ++ [_])
      rw [List.append_assoc]; exact congrArg (runF m fs) (lvR_app _ rs [_, _] rfl)
    · have w0 := w _ List.mem_cons_self
      simp only [List.mem_cons] at hf
      rcases hf with rfl | rfl | hf
      · exact sub a lv (fun x hx => by simp [fvs, hx]) (by simp [Tm.size]; omega) h z w0
      · obtain ⟨kws, a, b', c, d⟩ := w0
        refine ⟨kws, a, b', fun l hl y hy => c y ?_, d⟩
        cases hl
        simp only [fvs]; rw [fvs1]; exact List.mem_append_right _ hy
      · exact w f (List.mem_cons_of_mem _ hf)
  | sp x y a b =>
    refine ⟨.ent a bs nm lv :: .bnd (.sp x y a b) bs nm lv :: fs, by simp [Tm.ents, Tm.bn, Tm.parts, tmsW, Fr.w], fun rs => ?_, fun n h => ⟨by simp [Tm.bn], by simp [Tm.parts], by simpa [Tm.parts] using h⟩, by simp [wtF, Tm.size, Tm.parts]; omega, fun h z w f hf => ?_⟩
    · show runF m fs (lvR _ ((rs ++ [_]) ++ [_])) = runF m fs (rs ++ [_])
      rw [List.append_assoc]; exact congrArg (runF m fs) (lvR_app _ rs [_, _] rfl)
    · have w0 := w _ List.mem_cons_self
      simp only [List.mem_cons] at hf
      rcases hf with rfl | rfl | hf
      · exact sub a lv (fun x hx => by simp [fvs, hx]) (by simp [Tm.size]; omega) h z w0
      · obtain ⟨kws, a, b', c, d⟩ := w0
        refine ⟨kws, a, b', fun l hl y hy => c y ?_, d⟩
        cases hl
        simp only [fvs]; rw [fvs2]; exact List.mem_append_right _ hy
      · exact w f (List.mem_cons_of_mem _ hf)
theorem len_wtF : ∀ fs : List Fr, fs.length ≤ wtF fs
  | [] => Nat.le_refl _
  | .ent t _ _ _ :: fs => by have := len_wtF fs; have := t.size_pos; simp only [List.length_cons, wtF]; omega
  | .bnd t _ _ _ :: fs => by have := len_wtF fs; simp only [List.length_cons, wtF]; omega
  | .lev _ _ _ :: fs => by have := len_wtF fs; simp only [List.length_cons, wtF]; omega
theorem FrOk.mono {h h' : HW} {z : Nat} (s : ∀ nm kws, dW nm h = some kws → dW nm h' = some kws) : ∀ {f : Fr}, FrOk m h z f → FrOk m h' z f
  | .ent _ _ _ _, ⟨kws, a, b⟩ => ⟨kws, s _ _ a, b⟩
  | .bnd _ _ _ _, ⟨kws, a, b⟩ => ⟨kws, s _ _ a, b⟩
  | .lev _ _ _, _ => trivial
theorem putsW_len (kws : List (L2.Key × W)) (t : Tm) : (putsW kws t).length ≤ kws.length + t.bn.length := by
  have : ∀ (xs : List (List Nat)) (k : List (L2.Key × W)), (xs.foldl (fun k x => putW k (.inr (mkS x)) (Tm.var x).w) k).length ≤ k.length + xs.length := fun xs => by
    induction xs with
    | nil => intro k; exact Nat.le_refl _
    | cons x xs ih => intro k; have h1 := ih (putW k (.inr (mkS x)) (Tm.var x).w); have h2 := put_len k (.inr (mkS x)) (Tm.var x).w; simp only [List.foldl_cons, List.length_cons] at h1 ⊢; omega
  exact this t.bn kws
end
def spWalked (CV : Addr) : SpW := fun ws h R _ => ∃ (t : Tm) (nm : W) (v : Addr) (kws : List (L2.Key × W)) (m : List Nat → Option Tm), ws = [t.w, nm, .ref v] ∧ h v = some (.ins CV []) ∧ dW nm h = some kws ∧ EnvOk kws m [] ∧ (∀ x ∈ fvs t [], (m x).isSome = true) ∧
  t.size ≤ 10000 ∧ kws.length ≤ 10000 ∧ R (t.put m []).w h
section
variable {P : Program} {w : World} {K : PySem.W.Frag} {mg : Str → Option Value} {base : Heap}
theorem ok_walked (T : Tx P w K mg) : FnOk P w K mg base CX0 8 T.a_walked T.fd_walked ["term", "names", "visitor"] (lSp K (spWalked T.aC_Linker)) := by
  refine fnW T.F_walked sc_walked (fun ws h R ex ⟨_, _, _, _, _, e, _⟩ => by rw [e]; rfl) fun cdv A outer s H E hr => ⟨_, (wss_cons (ws_set (i := 3) sc_walked.nd (w_makeG T.mk_Walk (ok_Walk___init__ T) (hr.mono (by walk_at "rm")) (by rfl) T.gC_Walk T.b_Walk___init__ pass0 (fun _ _ _ => el_no) (wa_cons (w_var 2) wa_nil)))
    (wss_cons (ws_expr (w_bm PySem.F.plainAttrs_list PySem.F.slot_list_append PySem.F.type_list_append mt_append tyL_ok lf_append (w_fld T.cls_Walk T.na_Walk_waiting (w_var 3)) (wa_cons (w_tup (wa_cons (w_str z_enter) (wa_cons (w_var 0) (wa_cons (w_var 1) (wa_cons w_int wa_nil))))) wa_nil)))
    (wss_cons (ws_while PassesOwn.never (wt_truth (w_fld T.cls_Walk T.na_Walk_waiting (w_var 3))) (wss_cons (ws_asg (w_bm0 PySem.F.plainAttrs_list PySem.F.slot_list_pop PySem.F.type_list_pop mt_pop tyL_ok lf_pop (w_fld T.cls_Walk T.na_Walk_waiting (w_var 3))) (wg_tup rfl (wgs_cons (wg_name (i := 4) sc_walked.nd) (wgs_cons (wg_name (i := 5) sc_walked.nd) (wgs_cons (wg_name (i := 6) sc_walked.nd) (wgs_cons (wg_name (i := 7) sc_walked.nd) wgs_nil))))))
    (wss_one (ws_if (wt_cmp (ow_eq hr.units) lf_eq (w_var 4) (w_str z_enter) (nomark _)) (wss_one (ws_expr (w_methG T.cls_Walk T.m_Walk_enter (ok_Walk_enter T) (hr.mono (by walk_at "rm")) T.b_Walk_enter pass0 (fun _ _ _ => el_no) (w_var 3) (wa_cons (w_var 5) (wa_cons (w_var 6) (wa_cons (w_var 7) wa_nil)))))) (wss_one (ws_if (wt_cmp (ow_eq hr.units) lf_eq (w_var 4) (w_str z_bind) (nomark _)) (wss_one (ws_expr (w_methG T.cls_Walk T.m_Walk_bind (ok_Walk_bind T) (hr.mono (by walk_at "rm")) T.b_Walk_bind pass0 (fun _ _ _ => el_no) (w_var 3) (wa_cons (w_var 5) (wa_cons (w_var 6) (wa_cons (w_var 7) wa_nil)))))) (wss_one (ws_expr (w_methG T.cls_Walk T.m_Walk_leave (ok_Walk_leave T) (hr.mono (by walk_at "rm")) T.b_Walk_leave pass0 (fun _ _ _ => el_no) (w_var 3) (wa_cons (w_var 5) (wa_cons (w_var 6) (wa_cons (w_var 7) wa_nil))))))))))))
    (wss_one (ws_ret (w_bm0 PySem.F.plainAttrs_list PySem.F.slot_list_pop PySem.F.type_list_pop mt_pop tyL_ok lf_pop (w_fld T.cls_Walk T.na_Walk_results (w_var 3)))))))), fun ws h R ex ⟨t, nm, v, kws, m, e, hv, d, en, cv, zt, zk, q⟩ => ?_⟩
  subst e
  walk_at "st"
  intro a0 h0
  refine ⟨a0, v, rfl, updW_same, fun a1 a2 n12 n01 n02 e1 e2 => ⟨rfl, ?_⟩⟩
  have e1' : h a1 = none := by rwa [updW_ne n01.symm] at e1
  have e2' : h a2 = none := by rwa [updW_ne n02.symm] at e2
  have nv0 : v ≠ a0 := fun z => by rw [z, h0] at hv; cases hv
  have nv1 : v ≠ a1 := fun z => by rw [z, e1'] at hv; cases hv
  have nv2 : v ≠ a2 := fun z => by rw [z, e2'] at hv; cases hv
  obtain ⟨hh, eh⟩ : ∃ hh, hh = updW (updW (updW (updW h a0 (.ins T.aC_Walk [])) a1 (.lst [])) a2 (.lst [])) a0 (.ins T.aC_Walk (wkF v a1 a2)) := ⟨_, rfl⟩
  rw [← eh]
  have k0 : WkOk T.aC_Walk T.aC_Linker a0 v a1 a2 hh [] [] := by
    refine ⟨by rw [eh, updW_same], ?_, ?_, ?_, n12⟩
    · rw [eh, updW_ne nv0, updW_ne nv2, updW_ne nv1, updW_ne nv0]; exact hv
    · rw [eh, updW_ne n01.symm, updW_ne n12, updW_same]
    · rw [eh, updW_ne n02.symm, updW_same]
  have sup : ∀ (h' : HW) (a : Addr) (o : OW), Sub h h' → h a = none → Sub h (updW h' a o) := fun h' a o sb n b u e => by
    rw [updW_ne (fun z => by rw [z, n] at e; cases e)]; exact sb b u e
  have sb0 : Sub h hh := by
    rw [eh]
    exact sup _ _ _ (sup _ _ _ (sup _ _ _ (sup _ _ _ (.refl _) h0) e1') e2') h0
  clear eh
  have k0' := k0
  obtain ⟨m1, m2, m3, m4, m5⟩ := k0.ne
  obtain ⟨gw, gv, gq, gr, _⟩ := k0
  walk_at "st"
  refine go_while (fun μ ρ' h' => ∃ (fs : List Fr) (rs : List Tm), μ = wtF fs ∧ WkOk T.aC_Walk T.aC_Linker a0 v a1 a2 h' (fs.map Fr.w).reverse (tmsW rs) ∧ Sub h h' ∧ runF m fs rs = [t.put m []] ∧ okF fs rs.length ∧ rs.length + wtF fs ≤ 30000 ∧
      (∀ f ∈ fs, FrOk m h' 30000 f) ∧ ρ' = [some t.w, some nm, some (.ref v), some (.ref a0), none, none, none, none])
    ⟨_, .of ⟨[.ent t [] nm 0], [], rfl, k0'.upq, sup _ _ _ sb0 e1', by simp [runF], rfl, by simp [wtF]; omega, fun f hf => ?_, rfl⟩⟩ ?_
  · rw [List.mem_singleton] at hf
    subst hf
    exact ⟨kws, dW_up gq (dW_sub sb0 d), en, cv, by omega⟩
  rintro μ ρ' h' ⟨fs, rs, rfl, k, sb, hrun, hok, hlen, hfr, rfl⟩
  have k' := k
  clear m1 m2 m3 m4 m5 gw gv gq gr
  obtain ⟨m1, m2, m3, m4, m5⟩ := k.ne
  obtain ⟨gw, gv, gq, gr, _⟩ := k
  walk_at "st"
  cases fs with
  | nil =>
    rw [show (List.map Fr.w []).reverse.isEmpty = true from rfl]
    walk_at "st"
    have hrs : rs = [t.put m []] := hrun
    subst hrs
    refine go_pop (xs := []) (w := (t.put m []).w) gr ?_
    exact .base q (sup _ _ _ sb e2')
  | cons f fs =>
    have hz : (tmsW rs).length = rs.length := by simp
    have lw := len_wtF fs
    rw [show (List.map Fr.w (f :: fs)).reverse.isEmpty = false by simp]
    walk_at "st"
    refine go_pop (xs := (fs.map Fr.w).reverse) (w := f.w) (by rw [gq]; simp) ?_
    have k2 := k'.upq (qs' := (fs.map Fr.w).reverse)
    have sb2 := sup _ a1 (.lst (fs.map Fr.w).reverse) sb e1'
    have hfr2 : ∀ g ∈ f :: fs, FrOk m (updW h' a1 (.lst (fs.map Fr.w).reverse)) 30000 g := fun g hg => (hfr g hg).mono fun _ _ e => dW_up gq e
    cases f with
    | ent u bs nm' lv =>
      obtain ⟨kw2, d2, en2, cv2, l2⟩ := hfr2 _ List.mem_cons_self
      simp only [Fr.w]
      walk_at "stc"
      by_cases var : ∃ x, u = .var x
      · obtain ⟨x, rfl⟩ := var
        have ev : valW kw2 (.inr (mkS x)) = some ((Tm.var x).put m bs).w := by
          rw [en2 x]
          unfold Tm.put
          by_cases hx : x ∈ bs
          · rw [if_pos hx, if_pos hx]
          · have := cv2 x (by simp [fvs, hx])
            rw [if_neg hx, if_neg hx]
            cases e : m x with
            | none => rw [e] at this; cases this
            | some y => rfl
        refine ⟨a0, v, a1, a2, _, _, .var x, nm', lv, kw2, rfl, k2, by simp [wtF] at hlen ⊢; omega, d2, .inl ⟨x, _, rfl, ev, ?_⟩⟩
        walk_at "st"
        refine ⟨_, _, ⟨_, ?_, fs, rs ++ [(Tm.var x).put m bs], rfl, ?_, sup _ _ _ sb2 e2', hrun, by simpa [okF] using hok, ?_, fun g hg => ?_, rfl⟩, .same (.same (.same (.same (.no (.no (.no (.no .nil))))))), .refl _⟩
        · simp [wtF, Tm.size]
        · have := k2.upr (rs' := tmsW (rs ++ [(Tm.var x).put m bs])); simpa [tmsW] using this
        · simp [wtF, Tm.size] at hlen ⊢; omega
        · exact (hfr2 g (List.mem_cons_of_mem _ hg)).mono fun _ _ e => dW_up k2.r e
      · have nvar : ∀ x, u ≠ .var x := fun x e => var ⟨x, e⟩
        obtain ⟨gs, g1, g2, g3, g4, g5⟩ := ent_step (m := m) u nvar bs nm' lv fs
        refine ⟨a0, v, a1, a2, _, _, u, nm', lv, kw2, rfl, k2, by have := u.size_pos; simp [wtF] at hlen ⊢; omega, d2, .inr ⟨nvar, ?_⟩⟩
        walk_at "st"
        rw [updW_upd, ← g1]
        refine ⟨_, _, ⟨_, g4, gs, rs, rfl, k'.upq, sup _ _ _ sb e1', (g2 rs).trans hrun, g3 _ (by simpa [okF] using hok), by omega, fun g hg => ?_, rfl⟩, .same (.same (.same (.same (.no (.no (.no (.no .nil))))))), .refl _⟩
        exact (g5 h' 30000 hfr g hg).mono fun _ _ e => dW_up gq e
    | bnd u bs nm' lv =>
      obtain ⟨kw2, d2, en2, cv2, l2⟩ := hfr2 _ List.mem_cons_self
      obtain ⟨nb, ol, ok2⟩ := hok
      simp only [Fr.w]
      walk_at "stc"
      refine ⟨a0, v, a1, a2, _, _, u, nm', lv, kw2, rfl, k2, by simp [wtF] at hlen ⊢; omega, d2, by omega, nb, fun c z => ?_, fun l el p hp => ?_⟩
      · have : rs.length = 0 := by rw [← hz, z]; rfl
        omega
      · have hl : l.size + 1 ≤ u.size := by
          have := parts_size u
          obtain ⟨i, e⟩ := List.getLast?_eq_some_iff.mp el
          rw [e, sizes_app] at this
          simp [Tm.sizes] at this; omega
        have np1 : a1 ≠ p := fun z => by rw [← z, updW_same] at hp; cases hp
        have hp' : h' p = none := by rwa [updW_ne np1.symm] at hp
        have sb3 : Sub h' (updW h' p (.dic (putsW kw2 u))) := .new hp'
        have k3 : WkOk T.aC_Walk T.aC_Linker a0 v a1 a2 (updW h' p (.dic (putsW kw2 u))) _ _ := k'.sub sb3
        have eh : updW (updW (updW h' a1 (.lst (fs.map Fr.w).reverse)) p (.dic (putsW kw2 u))) a1 (.lst ((fs.map Fr.w).reverse ++ [levW (.lst u.bms) lv u.w, entW (.ref p) lv l.w])) = updW (updW h' p (.dic (putsW kw2 u))) a1 (.lst ((Fr.ent l (bs ++ u.bn) (.ref p) lv :: Fr.lev u (.lst u.bms) lv :: fs).map Fr.w).reverse) := by
          rw [show (List.map Fr.w (Fr.ent l (bs ++ u.bn) (.ref p) lv :: Fr.lev u (.lst u.bms) lv :: fs)).reverse = (fs.map Fr.w).reverse ++ [levW (.lst u.bms) lv u.w, entW (.ref p) lv l.w] by simp [Fr.w]]
          funext b
          unfold updW
          by_cases b1 : b = a1
          · simp only [if_pos b1]
          · by_cases b2 : b = p
            · simp only [if_neg b1, if_pos b2]
            · simp only [if_neg b1, if_neg b2]
        rw [eh]
        have pl2 := parts_len u
        have bl2 : u.bn.length ≤ 2 := by cases u <;> simp [Tm.bn]
        have pl := putsW_len kw2 u
        walk_at "st"
        refine ⟨_, _, ⟨_, ?_, _, rs, rfl, k3.upq, sup _ _ _ (sb.trans sb3) e1', ?_, ?_, ?_, fun g hg => ?_, rfl⟩, .same (.same (.same (.same (.no (.no (.no (.no .nil))))))), .refl _⟩
        · simp [wtF, el]; omega
        · rw [← hrun]; simp [runF, el]
        · refine ⟨by omega, ?_⟩
          rw [show rs.length + 1 + 1 - u.parts.length = rs.length + 2 - u.parts.length by omega]; exact ok2
        · simp [wtF, el] at hlen ⊢; omega
        · have mono : ∀ nm kws, dW nm h' = some kws → dW nm (updW (updW h' p (.dic (putsW kw2 u))) a1 (.lst ((Fr.ent l (bs ++ u.bn) (.ref p) lv :: Fr.lev u (.lst u.bms) lv :: fs).map Fr.w).reverse)) = some kws := fun _ _ e => dW_up k3.q (dW_sub sb3 e)
          simp only [List.mem_cons] at hg
          rcases hg with rfl | rfl | hg
          · refine ⟨putsW kw2 u, ?_, en2.puts u, cv2 l el, by omega⟩
            unfold dW
            dsimp only
            rw [updW_ne np1.symm, updW_same]
          · trivial
          · exact (hfr g (List.mem_cons_of_mem _ hg)).mono mono
    | lev u ms lv =>
      obtain ⟨ol, ok2⟩ := hok
      simp only [Fr.w]
      walk_at "stc"
      have es : rs = rs.take (rs.length - u.parts.length) ++ rs.drop (rs.length - u.parts.length) := (List.take_append_drop _ _).symm
      have lt : (rs.take (rs.length - u.parts.length)).length = rs.length - u.parts.length := by rw [List.length_take]; omega
      refine ⟨a0, v, a1, a2, (fs.map Fr.w).reverse, tmsW (rs.take (rs.length - u.parts.length)), u, rs.drop (rs.length - u.parts.length), ms, lv, rfl, ?_, ?_, ?_, ?_⟩
      · rw [show tmsW (rs.take (rs.length - u.parts.length)) ++ tmsW (rs.drop (rs.length - u.parts.length)) = tmsW rs by rw [← tmsW_append, ← es]]
        exact k2
      · simp [wtF] at hlen ⊢; omega
      · rw [List.length_drop]; omega
      · walk_at "st"
        have e3 : tmsW (rs.take (rs.length - u.parts.length)) ++ [(u.withP (rs.drop (rs.length - u.parts.length))).w] = tmsW (lvR u rs) := by simp [tmsW, lvR]
        rw [e3]
        have ll : (lvR u rs).length = rs.length + 1 - u.parts.length := by unfold lvR; rw [List.length_append, lt]; simp; omega
        refine ⟨_, _, ⟨_, ?_, fs, lvR u rs, rfl, k2.upr, sup _ _ _ sb2 e2', hrun, by rw [ll]; exact ok2, ?_, fun g hg => ?_, rfl⟩, .same (.same (.same (.same (.no (.no (.no (.no .nil))))))), .refl _⟩
        · simp [wtF]
        · simp [wtF] at hlen ⊢; omega
        · exact (hfr2 g (List.mem_cons_of_mem _ hg)).mono fun _ _ e => dW_up k2.r e
end

/-! ## definitions that are linked -/
structure Ld where
  x : List Nat
  t : Tm
def Ld.w (d : Ld) : W := .tup [.str d.x, .tup [.str z_int], d.t.w]
structure Ld.Ok (d : Ld) : Prop where
  nm : IsNm d.x
  tm : TmOk d.t
  sz : d.t.size ≤ 60
  dp : d.t.dep ≤ 36
def upM (m : List Nat → Option Tm) (x : List Nat) (t : Tm) : List Nat → Option Tm := fun y => if y = x then some t else m y
def envA : (List Nat → Option Tm) → List Ld → (List Nat → Option Tm)
  | m, [] => m
  | m, d :: r => envA (upM m d.x (d.t.put m [])) r
abbrev env0 : List Nat → Option Tm := fun _ => none
theorem envA_app : ∀ (l : List Ld) (m : List Nat → Option Tm) (d : Ld), envA m (l ++ [d]) = upM (envA m l) d.x (d.t.put (envA m l) [])
  | [], m, d => rfl
  | e :: l, m, d => by rw [List.cons_append, envA, envA_app l, envA]
theorem envA_some : ∀ (l : List Ld) (m : List Nat → Option Tm) (y : List Nat), (envA m l y).isSome = ((m y).isSome || decide (y ∈ l.map Ld.x))
  | [], m, y => by simp [envA]
  | e :: l, m, y => by
    rw [envA, envA_some l]
    unfold upM
    by_cases c : y = e.x
    · simp [c]
    · simp [c]
/-- the first name that nobody has -/
def unkF : List (List Nat) → List Ld → Option (List Nat)
  | _, [] => none
  | e, d :: r => match (fvs d.t []).find? (fun x => decide (x ∉ e)) with | some x => some x | none => unkF (e ++ [d.x]) r
theorem find_insA (p : List Nat → Bool) : ∀ (xs bs : List (List Nat)), (∀ b ∈ bs, p b = false) → (insA bs xs).find? p = xs.find? p
  | [], bs, h => List.find?_eq_none.mpr fun b hb => by rw [h b hb]; exact Bool.false_ne_true
  | x :: xs, bs, h => by
    show (insA (insN bs x) xs).find? p = _
    rw [List.find?_cons]
    cases e : p x with
    | false =>
      refine find_insA p xs (insN bs x) fun b hb => ?_
      rcases List.mem_append.mp ((insN_app bs x b).mp hb) with z | z
      · exact h b z
      · rw [List.mem_singleton] at z; rw [z, e]
    | true =>
      have nx : x ∉ bs := fun z => by rw [h x z] at e; cases e
      have pre : ∀ (xs bs : List (List Nat)), ∃ r, insA bs xs = bs ++ r := fun xs => by
        induction xs with
        | nil => intro bs; exact ⟨[], by simp [insA]⟩
        | cons y ys ih =>
          intro bs
          obtain ⟨r, er⟩ := ih (insN bs y)
          show ∃ r, insA (insN bs y) ys = bs ++ r
          rw [er]
          unfold insN
          split
          · exact ⟨r, rfl⟩
          · exact ⟨[y] ++ r, by simp⟩
      obtain ⟨r, er⟩ := pre xs (insN bs x)
      rw [er]
      unfold insN
      rw [if_neg nx, List.append_assoc, List.find?_append, List.find?_eq_none.mpr fun b hb => by rw [h b hb]; exact Bool.false_ne_true]
      simp [e]
theorem put_ok : ∀ (t : Tm) (m : List Nat → Option Tm) (bs : List (List Nat)) (D : Nat), TmOk t → (∀ y u, m y = some u → TmOk u ∧ u.dep ≤ D) → TmOk (t.put m bs) ∧ (t.put m bs).dep ≤ t.dep + D := fun t m => by
  induction t with
  | var x =>
    intro bs D h hm
    unfold Tm.put
    split
    · exact ⟨h, by omega⟩
    · cases e : m x with
      | none => exact ⟨h, by show (Tm.var x).dep ≤ _; omega⟩
      | some u => obtain ⟨a, b⟩ := hm x u e; exact ⟨a, by show u.dep ≤ _; omega⟩
  | num n => intro bs D h hm; exact ⟨h, by simp only [Tm.put]; omega⟩
  | op s a b iha ihb => intro bs D h hm; obtain ⟨a1, a2⟩ := iha bs D h.2.1 hm; obtain ⟨b1, b2⟩ := ihb bs D h.2.2 hm; exact ⟨⟨h.1, a1, b1⟩, by simp only [Tm.put, Tm.dep]; omega⟩
  | lam x k b ih => intro bs D h hm; obtain ⟨a1, a2⟩ := ih (bs ++ [x]) D h.2.2 hm; exact ⟨⟨h.1, h.2.1, a1⟩, by simp only [Tm.put, Tm.dep]; omega⟩
  | app a b iha ihb => intro bs D h hm; obtain ⟨a1, a2⟩ := iha bs D h.1 hm; obtain ⟨b1, b2⟩ := ihb bs D h.2 hm; exact ⟨⟨a1, b1⟩, by simp only [Tm.put, Tm.dep]; omega⟩
  | box a ih => intro bs D h hm; obtain ⟨a1, a2⟩ := ih bs D h hm; exact ⟨a1, by simp only [Tm.put, Tm.dep]; omega⟩
  | lt x a b iha ihb => intro bs D h hm; obtain ⟨a1, a2⟩ := iha bs D h.2.1 hm; obtain ⟨b1, b2⟩ := ihb (bs ++ [x]) D h.2.2 hm; exact ⟨⟨h.1, a1, b1⟩, by simp only [Tm.put, Tm.dep]; omega⟩
  | pr a b iha ihb => intro bs D h hm; obtain ⟨a1, a2⟩ := iha bs D h.1 hm; obtain ⟨b1, b2⟩ := ihb bs D h.2 hm; exact ⟨⟨a1, b1⟩, by simp only [Tm.put, Tm.dep]; omega⟩
  | sp x y a b iha ihb => intro bs D h hm; obtain ⟨a1, a2⟩ := iha bs D h.2.2.1 hm; obtain ⟨b1, b2⟩ := ihb (bs ++ [x, y]) D h.2.2.2 hm; exact ⟨⟨h.1, h.2.1, a1, b1⟩, by simp only [Tm.put, Tm.dep]; omega⟩
theorem env_ok : ∀ (l : List Ld) (m : List Nat → Option Tm) (D : Nat), (∀ d ∈ l, d.Ok) → (∀ y u, m y = some u → TmOk u ∧ u.dep ≤ D) → ∀ y u, envA m l y = some u → TmOk u ∧ u.dep ≤ 36 * l.length + D
  | [], m, D, _, hm, y, u, e => by have := hm y u e; exact ⟨this.1, by have := this.2; omega⟩
  | d :: l, m, D, h, hm, y, u, e => by
    have hd := h d List.mem_cons_self
    have hp := put_ok d.t m [] D hd.tm hm
    have dp := hd.dp
    have := env_ok l (upM m d.x (d.t.put m [])) (36 + D) (fun x hx => h x (List.mem_cons_of_mem _ hx)) (fun z v ez => by
      unfold upM at ez
      split at ez
      · cases ez; exact ⟨hp.1, by have := hp.2; omega⟩
      · have := hm z v ez; exact ⟨this.1, by have := this.2; omega⟩) y u e
    exact ⟨this.1, by have := this.2; simp only [List.length_cons]; omega⟩
/-- a later definition of another name changes nothing -/
theorem env_keep : ∀ (l : List Ld) (m : List Nat → Option Tm) (y : List Nat), y ∉ l.map Ld.x → envA m l y = m y
  | [], m, y, _ => rfl
  | d :: l, m, y, h => by
    rw [envA, env_keep l _ y fun z => h (by simp at z ⊢; exact .inr z)]
    unfold upM
    rw [if_neg fun z => h (by simp [z])]
theorem EnvOk.up {kws : List (L2.Key × W)} {m : List Nat → Option Tm} (h : EnvOk kws m []) (x : List Nat) (t : Tm) : EnvOk (putW kws (.inr (mkS x)) t.w) (upM m x t) [] := fun y => by
  rw [val_put, h y]
  unfold upM
  simp only [List.not_mem_nil, if_false]
  by_cases e : y = x
  · subst e; rw [if_pos rfl, if_pos rfl]; rfl
  · rw [if_neg (fun z => e (mkS_inj.mp (Sum.inr.inj z))), if_neg e]
theorem nodup_at {ds : List Ld} (nd : (ds.map Ld.x).Nodup) {i : Nat} (hi : i < ds.length) {es : List (List Nat)} (e : es = (ds.take i).map Ld.x) : ds[i].x ∉ es := fun z => by
  have h : ds.map Ld.x = (ds.take i).map Ld.x ++ (ds[i].x :: (ds.drop (i + 1)).map Ld.x) := by
    conv => lhs; rw [← List.take_append_drop i ds, List.drop_eq_getElem_cons hi]
    rw [List.map_append, List.map_cons]
  rw [h] at nd
  rw [e] at z
  exact (List.nodup_append.mp nd).2.2 _ z _ List.mem_cons_self rfl
theorem nodup_from {ds : List Ld} (nd : (ds.map Ld.x).Nodup) {i : Nat} (hi : i < ds.length) : ds[i].x ∉ (ds.drop (i + 1)).map Ld.x := fun z => by
  have h : ds.map Ld.x = (ds.take i).map Ld.x ++ (ds[i].x :: (ds.drop (i + 1)).map Ld.x) := by
    conv => lhs; rw [← List.take_append_drop i ds, List.drop_eq_getElem_cons hi]
    rw [List.map_append, List.map_cons]
  rw [h] at nd
  exact (List.nodup_cons.mp (List.nodup_append.mp nd).2.1).1 z
theorem envA_apps : ∀ (a b : List Ld) (m : List Nat → Option Tm), envA m (a ++ b) = envA (envA m a) b
  | [], b, m => rfl
  | d :: a, b, m => by rw [List.cons_append, envA, envA_apps a b, envA]
theorem unk_none : ∀ (ds : List Ld) (e : List (List Nat)), unkF e ds = none → ∀ (i : Nat) (hi : i < ds.length), ∀ x ∈ fvs ds[i].t [], x ∈ e ∨ x ∈ (ds.take i).map Ld.x
  | [], e, _, i, hi, _, _ => absurd hi (Nat.not_lt_zero _)
  | d :: ds, e, h, i, hi, x, hx => by
    rw [unkF] at h
    cases ef : (fvs d.t []).find? (fun x => decide (x ∉ e)) with
    | some y => rw [ef] at h; cases h
    | none =>
      rw [ef] at h
      cases i with
      | zero =>
        have := List.find?_eq_none.mp ef x hx
        left
        by_cases c : x ∈ e
        · exact c
        · exact absurd (decide_eq_true c) this
      | succ i =>
        have := unk_none ds (e ++ [d.x]) h i (by simpa using hi) x hx
        simp only [List.mem_append, List.mem_singleton] at this
        simp only [List.take_succ_cons, List.map_cons, List.mem_cons]
        rcases this with (z | z) | z
        · exact .inl z
        · exact .inr (.inl z)
        · exact .inr (.inr z)
/-- the linked term of a definition -/
theorem env_at {ds : List Ld} (nd : (ds.map Ld.x).Nodup) {i : Nat} (hi : i < ds.length) : envA env0 ds ds[i].x = some (ds[i].t.put (envA env0 (ds.take i)) []) := by
  have h : ds = ds.take i ++ [ds[i]] ++ ds.drop (i + 1) := by
    conv => lhs; rw [← List.take_append_drop i ds, List.drop_eq_getElem_cons hi]
    simp
  rw [show envA env0 ds = envA env0 (ds.take i ++ [ds[i]] ++ ds.drop (i + 1)) from congrArg (envA env0) h, envA_apps, env_keep _ _ _ (nodup_from nd hi), envA_app]
  unfold upM
  rw [if_pos rfl]
theorem nm_low {s : List Nat} (h : (s.all fun c => decide (97 ≤ c) && decide (c ≤ 122)) = true) (l : s.length ≤ 8) (n : s ≠ []) (a : s ≠ wLet) (b : s ≠ wIn) (d : s ≠ wDef) : IsNm s := by
  have low : ∀ c ∈ s, lowC c := fun c hc => by
    have := List.all_eq_true.mp h c hc
    rw [Bool.and_eq_true, decide_eq_true_eq, decide_eq_true_eq] at this
    exact ⟨this.1, this.2⟩
  obtain ⟨c, r, e⟩ : ∃ c r, s = c :: r := by cases s with | nil => exact absurd rfl n | cons c r => exact ⟨c, r, rfl⟩
  exact ⟨⟨l, ⟨c, r, e, low c (by rw [e]; exact List.mem_cons_self)⟩, fun c hc => .inl (low c hc)⟩, a, b, d⟩
abbrev nms5 : List (List Nat) := [z_one, z_two, z_three, z_four, z_five]
theorem nms5_nm : ∀ x ∈ nms5, IsNm x := fun x hx => by
  simp only [nms5, List.mem_cons, List.not_mem_nil, or_false] at hx
  rcases hx with rfl | rfl | rfl | rfl | rfl <;> exact nm_low (by decide) (by decide) (by decide) (by decide) (by decide) (by decide)
theorem own_nm : IsNm z_own := nm_low (by decide) (by decide) (by decide) (by decide) (by decide) (by decide)
theorem self_nm : IsNm z_self := nm_low (by decide) (by decide) (by decide) (by decide) (by decide) (by decide)
theorem nms5_nd : nms5.Nodup := by decide
theorem nms5_own : z_own ∉ nms5 := by decide
theorem lds_data : ∀ ds : List Ld, (∀ d ∈ ds, d.Ok) → datasW (ds.map Ld.w) = true ∧ depsW (ds.map Ld.w) ≤ 42
  | [], _ => ⟨rfl, by decide⟩
  | d :: ds, h => by
    obtain ⟨a, b⟩ := lds_data ds fun x hx => h x (List.mem_cons_of_mem _ hx)
    have hd := h d List.mem_cons_self
    obtain ⟨t1, t2⟩ := d.t.data hd.tm
    have := hd.dp
    have e := strOk_of (s := d.x) (IsNm.asc hd.nm)
    have e2 : PyData.strOk (mkS z_int) = true := by rw [sk]; decide
    refine ⟨?_, ?_⟩
    · simp only [List.map_cons, datasW, Ld.w, dataW, t1, e, e2, a]; rfl
    · simp only [List.map_cons, depsW, Ld.w, depW]; omega
theorem any2l (a b t : List Nat) : ([W.str a, .str b].any fun w => eqF w (.str t)) = decide (t = a ∨ t = b) := by
  show (decide (a = t) || (decide (b = t) || false)) = _
  rw [Bool.eq_iff_iff]
  simp only [Bool.or_eq_true, decide_eq_true_eq, Bool.or_false]
  exact ⟨fun h => h.elim (fun e => .inl e.symm) fun e => .inr e.symm, fun h => h.elim (fun e => .inl e.symm) fun e => .inr e.symm⟩
theorem del_upd9 {h : HW} {p : Addr} {o : OW} (hp : h p = none) : delW (updW h p o) p = h := by
  funext b
  unfold delW
  split
  · rename_i e; rw [e, hp]
  · rename_i e; rw [updW_ne e]
def unkO (u v : Option (List Nat)) : Option (List Nat) := match u with | some x => some x | none => v
def optW : Option (List Nat) → W | none => .non | some s => .str s
local macro_rules | `(tactic| walk_at "sti") => `(tactic| repeat ((fail_if_success (with_reducible show sSeq (sIf _ _ _) _ _ _ _)); walk_at "st1"))
def spPut (n : Nat) : SpW := fun ws h R _ => ∃ (t : Tm) (kn : W) (kws : List (L2.Key × W)) (m : List Nat → Option Tm) (bs : List (List Nat)), ws = [t.w, kn, .lst (strsW bs)] ∧ dW kn h = some kws ∧ EnvOk kws m [] ∧ t.dep < n ∧ bs.length + 2 * t.dep ≤ 100000 ∧ R (t.put m bs).w h
def unkK (aU : Addr) (u : Option (List Nat)) (p : Prop) (h : HW) (ex : XW → HW → Prop) : Prop := match u with
  | none => p
  | some s => ∀ h', Sub h h' → ex (nameX aU s) h'
def spLinked (aU : Addr) : SpW := fun ws h R ex => ∃ (ds : List Ld) (nm : List Nat), ws = [.lst (ds.map Ld.w), .str nm] ∧ ds.length ≤ 5 ∧ (∀ d ∈ ds, d.Ok) ∧ (ds.map Ld.x).Nodup ∧ nm.length ≤ 1000 ∧
  if nm ∈ ds.map Ld.x then unkK aU (unkF [] ds) (∀ u, envA env0 ds nm = some u → R u.w h) h ex else ∀ h', Sub h h' → ex (nameX aU nm) h'
def spRefU (aU : Addr) : SpW := fun ws h R ex => ∃ (ds : List Ld), ws = [.lst (ds.map Ld.w)] ∧ ds.length ≤ 5 ∧ (∀ d ∈ ds, d.Ok) ∧ (ds.map Ld.x).Nodup ∧ unkK aU (unkF [] ds) (R .non h) h ex
def spLaw : SpW := fun ws h R _ => ∃ ns : List Int, ws = [.scr (ns.map W.int)] ∧ ns.length ≤ 63 ∧ R (.bl true) h
abbrev lawK : Nat := 230
theorem law_sp (h : HW) (ns : List Int) (l : ns.length ≤ 63) : spLaw [.scr (ns.map W.int)] h (fun w _ => w = .bl true) noX := ⟨ns, rfl, l, rfl⟩
section
variable {P : Program} {w : World} {K : PySem.W.Frag} {mg : Str → Option Value} {base : Heap}
theorem ok__law_put (T : Tx P w K mg) : ∀ n, FnOk P w K mg base CX0 n T.a__law_put T.fd__law_put ["term", "known", "bound"] (lSp K (spPut n))
  | 0 => fn_false fun ws h R ex ⟨_, _, _, _, _, _, _, _, z, _⟩ => absurd z (Nat.not_lt_zero _)
  | n + 1 => by
    have ih := ok__law_put T n
    refine fnW T.F__law_put sc__law_put (fun ws h R ex ⟨_, _, _, _, _, e, _⟩ => by rw [e]; rfl) fun cdv A outer s H E hr => ⟨_, (wss_cons (ws_set (i := 3) sc__law_put.nd (w_ix (w_var 0) w_int))
    (wss_cons (ws_if (wt_cmp (ow_eq hr.units) lf_eq (w_var 3) (w_str z_var) (nomark _)) (wss_cons (ws_if (wt_bool (ww_or (wt_cmp ow_in lf_in (w_ix (w_var 0) w_int) (w_var 2) (by rfl)) (ww_or1 (wt_dnotin (hu_of hr) (w_ix (w_var 0) w_int) (w_var 1))))) (wss_one (ws_ret (w_var 0))) wss_nil)
    (wss_one (ws_ret (w_dget (hu_of hr) (w_var 1) (w_ix (w_var 0) w_int))))) wss_nil)
    (wss_cons (ws_if (wt_cmp (ow_eq hr.units) lf_eq (w_var 3) (w_str z_num) (nomark _)) (wss_one (ws_ret (w_var 0))) wss_nil)
    (wss_cons (ws_if (wt_cmp ow_in lf_in (w_var 3) (w_tup (wa_cons (w_str z_app) (wa_cons (w_str z_pair) wa_nil))) (by rfl)) (wss_one (ws_ret (w_tup (wa_cons (w_var 3) (wa_cons (w_call ih (hr.mono (by walk_at "rm")) (by rfl) T.g__law_put T.F__law_put.kp T.b__law_put (wa_cons (w_ix (w_var 0) w_int) (wa_cons (w_var 1) (wa_cons (w_var 2) wa_nil)))) (wa_cons (w_call ih (hr.mono (by walk_at "rm")) (by rfl) T.g__law_put T.F__law_put.kp T.b__law_put (wa_cons (w_ix (w_var 0) w_int) (wa_cons (w_var 1) (wa_cons (w_var 2) wa_nil)))) wa_nil)))))) wss_nil)
    (wss_cons (ws_if (wt_cmp (ow_eq hr.units) lf_eq (w_var 3) (w_str z_op) (nomark _)) (wss_one (ws_ret (w_tup (wa_cons (w_var 3) (wa_cons (w_ix (w_var 0) w_int) (wa_cons (w_call ih (hr.mono (by walk_at "rm")) (by rfl) T.g__law_put T.F__law_put.kp T.b__law_put (wa_cons (w_ix (w_var 0) w_int) (wa_cons (w_var 1) (wa_cons (w_var 2) wa_nil)))) (wa_cons (w_call ih (hr.mono (by walk_at "rm")) (by rfl) T.g__law_put T.F__law_put.kp T.b__law_put (wa_cons (w_ix (w_var 0) w_int) (wa_cons (w_var 1) (wa_cons (w_var 2) wa_nil)))) wa_nil))))))) wss_nil)
    (wss_cons (ws_if (wt_cmp (ow_eq hr.units) lf_eq (w_var 3) (w_str z_box) (nomark _)) (wss_one (ws_ret (w_tup (wa_cons (w_var 3) (wa_cons (w_call ih (hr.mono (by walk_at "rm")) (by rfl) T.g__law_put T.F__law_put.kp T.b__law_put (wa_cons (w_ix (w_var 0) w_int) (wa_cons (w_var 1) (wa_cons (w_var 2) wa_nil)))) wa_nil))))) wss_nil)
    (wss_cons (ws_if (wt_cmp (ow_eq hr.units) lf_eq (w_var 3) (w_str z_lam) (nomark _)) (wss_one (ws_ret (w_tup (wa_cons (w_var 3) (wa_cons (w_ix (w_var 0) w_int) (wa_cons (w_ix (w_var 0) w_int) (wa_cons (w_call ih (hr.mono (by walk_at "rm")) (by rfl) T.g__law_put T.F__law_put.kp T.b__law_put (wa_cons (w_ix (w_var 0) w_int) (wa_cons (w_var 1) (wa_cons (w_op ow_add lf_add (w_var 2) (w_lst (wa_cons (w_ix (w_var 0) w_int) wa_nil))) wa_nil)))) wa_nil))))))) wss_nil)
    (wss_cons (ws_if (wt_cmp (ow_eq hr.units) lf_eq (w_var 3) (w_str wLet) (nomark _)) (wss_one (ws_ret (w_tup (wa_cons (w_var 3) (wa_cons (w_ix (w_var 0) w_int) (wa_cons (w_call ih (hr.mono (by walk_at "rm")) (by rfl) T.g__law_put T.F__law_put.kp T.b__law_put (wa_cons (w_ix (w_var 0) w_int) (wa_cons (w_var 1) (wa_cons (w_var 2) wa_nil)))) (wa_cons (w_call ih (hr.mono (by walk_at "rm")) (by rfl) T.g__law_put T.F__law_put.kp T.b__law_put (wa_cons (w_ix (w_var 0) w_int) (wa_cons (w_var 1) (wa_cons (w_op ow_add lf_add (w_var 2) (w_lst (wa_cons (w_ix (w_var 0) w_int) wa_nil))) wa_nil)))) wa_nil))))))) wss_nil)
    (wss_one (ws_ret (w_tup (wa_cons (w_var 3) (wa_cons (w_ix (w_var 0) w_int) (wa_cons (w_ix (w_var 0) w_int) (wa_cons (w_call ih (hr.mono (by walk_at "rm")) (by rfl) T.g__law_put T.F__law_put.kp T.b__law_put (wa_cons (w_ix (w_var 0) w_int) (wa_cons (w_var 1) (wa_cons (w_var 2) wa_nil)))) (wa_cons (w_call ih (hr.mono (by walk_at "rm")) (by rfl) T.g__law_put T.F__law_put.kp T.b__law_put (wa_cons (w_ix (w_var 0) w_int) (wa_cons (w_var 1) (wa_cons (w_op ow_add lf_add (w_var 2) (w_lst (wa_cons (w_ix (w_var 0) w_int) (wa_cons (w_ix (w_var 0) w_int) wa_nil)))) wa_nil)))) wa_nil)))))))))))))))), fun ws h R ex ⟨t, kn, kws, m, bs, e, d, en, hd, lb, q⟩ => ?_⟩
    subst e
    have lsb : (strsW bs).length = bs.length := by simp [strsW]
    cases t with
    | var x =>
      simp only [Tm.w]
      walk_at "stc"
      refine go_inL rfl (flat_strs bs) ?_
      rw [any_strs]
      unfold Tm.put at q
      refine go_dec (fun c => ?_) (fun c => ?_)
      · rw [if_pos c] at q; walk_at "st"; exact .of q
      · rw [if_neg c] at q
        have gv : dgW kn (.str x) h = some ((m x).map Tm.w) := by unfold dgW; rw [d]; exact congrArg some (by rw [en x, if_neg (List.not_mem_nil)])
        walk_at "st"
        refine go_dnotin gv ?_
        cases e : m x with
        | none => rw [e] at q; walk_at "stc"; exact .of q
        | some u =>
          rw [e] at q gv
          walk_at "stc"
          refine go_dget gv ?_
          walk_at "st"
          exact .of q
    | num n => simp only [Tm.w]; walk_at "stc"; exact .of q
    | op s a b =>
      simp only [Tm.w, Tm.dep] at *
      walk_at "stc"
      refine ⟨a, kn, kws, m, bs, rfl, d, en, by omega, by omega, ?_⟩
      walk_at "stc"
      refine ⟨b, kn, kws, m, bs, rfl, d, en, by omega, by omega, ?_⟩
      walk_at "stc"
      exact .of q
    | lam x k b =>
      simp only [Tm.w, Tm.dep] at *
      walk_at "stc"
      refine ⟨b, kn, kws, m, bs ++ [x], by rw [strsW_snoc], d, en, by omega, by simp; omega, ?_⟩
      walk_at "stc"
      exact .of q
    | app a b =>
      simp only [Tm.w, Tm.dep] at *
      walk_at "stc"
      refine ⟨a, kn, kws, m, bs, rfl, d, en, by omega, by omega, ?_⟩
      walk_at "stc"
      refine ⟨b, kn, kws, m, bs, rfl, d, en, by omega, by omega, ?_⟩
      walk_at "stc"
      exact .of q
    | box a =>
      simp only [Tm.w, Tm.dep] at *
      walk_at "stc"
      refine ⟨a, kn, kws, m, bs, rfl, d, en, by omega, by omega, ?_⟩
      walk_at "stc"
      exact .of q
    | lt x a b =>
      simp only [Tm.w, Tm.dep] at *
      walk_at "stc"
      refine ⟨a, kn, kws, m, bs, rfl, d, en, by omega, by omega, ?_⟩
      walk_at "stc"
      refine ⟨b, kn, kws, m, bs ++ [x], by rw [strsW_snoc], d, en, by omega, by simp; omega, ?_⟩
      walk_at "stc"
      exact .of q
    | pr a b =>
      simp only [Tm.w, Tm.dep] at *
      walk_at "stc"
      refine ⟨a, kn, kws, m, bs, rfl, d, en, by omega, by omega, ?_⟩
      walk_at "stc"
      refine ⟨b, kn, kws, m, bs, rfl, d, en, by omega, by omega, ?_⟩
      walk_at "stc"
      exact .of q
    | sp x y a b =>
      simp only [Tm.w, Tm.dep] at *
      walk_at "stc"
      refine ⟨a, kn, kws, m, bs, rfl, d, en, by omega, by omega, ?_⟩
      walk_at "stc"
      refine ⟨b, kn, kws, m, bs ++ [x, y], by simp [strsW], d, en, by omega, by simp; omega, ?_⟩
      walk_at "stc"
      exact .of q
theorem ok__refuse_unknown (T : Tx P w K mg) : FnOk P w K mg base (L2.CX P w) 8 T.a__refuse_unknown T.fd__refuse_unknown ["program"] (lSp K (spRefU T.aC_UnknownName)) := by
  refine fnWX T.F__refuse_unknown sc__refuse_unknown (fun ws h R ex ⟨_, e, _⟩ => by rw [e]; rfl) fun cdv A outer s H E ex hr => ⟨_, (wss_cons (ws_set (i := 1) sc__refuse_unknown.nd (w_set0 (P := P) (w := w) rfl rfl (by rfl) T.m_set (by decide +kernel)))
    (wss_one (ws_for (passes_of rfl) rfl (wi_list (w_var 0)) (wg_tup rfl (wgs_cons (wg_name (i := 2) sc__refuse_unknown.nd) (wgs_cons (wg_name (i := 3) sc__refuse_unknown.nd) (wgs_cons (wg_name (i := 4) sc__refuse_unknown.nd) wgs_nil)))) (wss_cons (ws_for (passes_of rfl) rfl (wi_list (w_call (ok_free_names T) (hr.mono (by walk_at "rm")) (by rfl) T.g_free_names T.F_free_names.kp T.b_free_names (wa_cons (w_var 4) wa_nil))) (wg_name (i := 5) sc__refuse_unknown.nd) (wss_one (ws_if (wt_cmp or_snotinK (lf_inS2 (P := P) (w := w)) (w_var 5) (w_var 1) (by rfl)) (wss_one (ws_raiseN rfl (takes_of rfl rfl rfl rfl) T.sp_UnknownName T.m_super (hr.mono (by walk_at "rm")) (by rfl) T.gC_UnknownName (w_var 5))) wss_nil)))
    (wss_one (ws_expr (w_sadd (P := P) (w := w) rfl rfl (w_var 1) (wa_cons (w_var 2) wa_nil)))))))), fun ws h R ⟨ds, e, l, ok, nd, q⟩ => ?_⟩
  subst e
  walk_at "st"
  intro p hp
  walk_at "st"
  dsimp only [EndsW.wn]
  refine go_forL (ds.map Ld.w) (fun R q => by walk_at "st"; exact q)
    (fun i ρ' h' => unkF ((ds.take i).map Ld.x) (ds.drop i) = unkF [] ds ∧ ρ' = [some (.lst (ds.map Ld.w)), some (.ref p), none, none, none, none] ∧ h' = updW h p (setO P w p ((ds.take i).map Ld.x)))
    (.of ⟨rfl, rfl, rfl⟩) ?_ ?_
  · rintro i y ρ' h' hy ⟨ed, rfl, rfl⟩
    have hi : i < ds.length := by have := (List.getElem?_eq_some_iff.mp hy).1; simpa using this
    have ey : y = ds[i].w := by rw [List.getElem?_map, List.getElem?_eq_getElem hi] at hy; exact (Option.some.inj hy).symm
    subst ey
    have hd := ok ds[i] (List.getElem_mem hi)
    rw [List.drop_eq_getElem_cons hi, unkF] at ed
    obtain ⟨es, ees⟩ : ∃ es, es = (ds.take i).map Ld.x := ⟨_, rfl⟩
    rw [← ees] at ed
    have les : es.length ≤ 4000 := by rw [ees]; simp; omega
    obtain ⟨xs, exs⟩ : ∃ xs, xs = insA [] (fvs ds[i].t []) := ⟨_, rfl⟩
    have ef : (fvs ds[i].t []).find? (fun x => decide (x ∉ es)) = xs.find? (fun x => decide (x ∉ es)) := by rw [exs]; exact (find_insA _ _ [] (fun b z => nomatch z)).symm
    rw [ef] at ed
    have sz := hd.sz
    rw [← ees]
    show _
    unfold Ld.w
    walk_at "st"
    refine go_forL (strsW xs) (fun R q => by walk_at "st"; exact ⟨ds[i].t, rfl, by omega, by rw [← exs]; exact q⟩)
      (fun j ρ' h' => (xs.drop j).find? (fun x => decide (x ∉ es)) = xs.find? (fun x => decide (x ∉ es)) ∧ ρ' = [some (.lst (ds.map Ld.w)), some (.ref p), some (.str ds[i].x), some (.tup [.str z_int]), some ds[i].t.w, none] ∧ h' = updW h p (setO P w p es))
      (.of ⟨rfl, rfl, rfl⟩) ?_ ?_
    · rintro j y ρ' h' hy ⟨ej, rfl, rfl⟩
      have hj : j < xs.length := by have := (List.getElem?_eq_some_iff.mp hy).1; simpa [strsW] using this
      have ey : y = .str xs[j] := by rw [strsW, List.getElem?_map, List.getElem?_eq_getElem hj] at hy; exact (Option.some.inj hy).symm
      subst ey
      rw [List.drop_eq_getElem_cons hj, List.find?_cons] at ej
      walk_at "st"
      refine go_ndec (fun c => ?_) (fun c => ?_)
      · rw [decide_eq_true c] at ej
        rw [← ej] at ed
        have ed : some xs[j] = unkF [] ds := ed
        rw [← ed] at q
        walk_at "st"
        exact q _ (.new hp)
      · rw [decide_eq_false (fun z => z c)] at ej
        walk_at "st"
        exact ⟨_, _, ⟨ej, rfl, rfl⟩, .same (.same (.same (.same (.same (.no .nil))))), .refl _⟩
    · rintro ρ' h' ⟨ej, rfl, rfl⟩
      rw [show (strsW xs).length = xs.length by simp [strsW], List.drop_length, List.find?_nil] at ej
      rw [← ej] at ed
      have et : (ds.take (i + 1)).map Ld.x = es ++ [ds[i].x] := by rw [ees, List.take_add_one, List.getElem?_eq_getElem hi, List.map_append]; rfl
      have nin : ds[i].x ∉ es := nodup_at nd hi (by rw [ees])
      have ea : addS es ds[i].x = es ++ [ds[i].x] := if_neg nin
      walk_at "st"
      refine ⟨⟨_, updW_same⟩, ?_⟩
      walk_at "st"
      refine ⟨_, updW_same, les, ?_⟩
      walk_at "st"
      rw [updW_upd, ea, ← et]
      exact ⟨_, _, ⟨by rw [et]; exact ed, rfl, rfl⟩, .same (.same (.no (.no (.no (.no .nil))))), .refl _⟩
  · rintro ρ' h' ⟨ed, rfl, rfl⟩
    rw [List.length_map, List.drop_length, unkF] at ed
    rw [← ed] at q
    walk_at "st"
    exact .base q (.new hp)
theorem ok_linked (T : Tx P w K mg) : FnOk P w K mg base (L2.CX P w) 20 T.a_linked T.fd_linked ["program", "name"] (lSp K (spLinked T.aC_UnknownName)) := by
  refine fnWX T.F_linked sc_linked (fun ws h R ex ⟨_, _, e, _⟩ => by rw [e]; rfl) fun cdv A outer s H E ex hr => ⟨_, (wss_cons (ws_if (wt_cmp ow_notIn lf_notIn (w_var 1) (w_lc (x := "definition") (j := 6) rfl sc_linked.nd (wi_list (w_var 0)) (blkOk_by (N := N_linked) (sc := defScope s_linked) (by decide +kernel)) (fun _ _ _ _ _ => pg_name (i := 6) sc_linked.nd rfl (Or.inl rfl)) (fun _ _ _ _ _ => wts_nil) (fun _ _ _ _ _ => (w_ix (w_var 6) w_int))) (by rfl)) (wss_one (ws_raiseN rfl (takes_of rfl rfl rfl rfl) T.sp_UnknownName T.m_super (hr.mono (by walk_at "rm")) (by rfl) T.gC_UnknownName (w_var 1))) wss_nil)
    (wss_cons (ws_expr (w_callX (ok__refuse_unknown T) (hr.mono (by walk_at "rm")) (by rfl) T.g__refuse_unknown T.F__refuse_unknown.kp T.b__refuse_unknown (takes_of rfl rfl rfl rfl) (wa_cons (w_var 0) wa_nil)))
    (wss_cons (ws_set (i := 2) sc_linked.nd w_d0O)
    (wss_cons (ws_for (passes_of rfl) rfl (wi_list (w_var 0)) (wg_tup rfl (wgs_cons (wg_name (i := 3) sc_linked.nd) (wgs_cons (wg_name (i := 4) sc_linked.nd) (wgs_cons (wg_name (i := 5) sc_linked.nd) wgs_nil)))) (wss_cons (ws_dput (hu_of hr) (w_var 2) (w_var 3) (w_call (ok_walked T) (hr.mono (by walk_at "rm")) (by rfl) T.g_walked T.F_walked.kp T.b_walked (wa_cons (w_var 5) (wa_cons (w_var 2) (wa_cons (w_makeB T.mkB_Linker (by rfl) T.gC_Linker) wa_nil)))))
    (wss_one (ws_if (wt_cmp (ow_eq hr.units) lf_eq (w_var 3) (w_var 1) (nomark _)) (wss_one ws_break) wss_nil))))
    (wss_one (ws_ret (w_dget (hu_of hr) (w_var 2) (w_var 1)))))))), fun ws h R ⟨ds, nm, e, l, ok, nd, lx, q⟩ => ?_⟩
  subst e
  walk_at "st"
  refine go_lcI (ds.map Ld.w) (ds.map fun d => .str d.x) (fun P q => by walk_at "st"; exact q) (by simp) (by simp; omega) ?_ ?_
  · intro i v y h1 R' e1 e2 hq
    rw [List.getElem?_map] at e1 e2
    obtain ⟨d, e3, e4⟩ := Option.map_eq_some_iff.mp e1
    rw [e3] at e2
    cases e2; subst e4
    show _
    unfold Ld.w
    walk_at "st"
    exact hq
  rw [show (ds.map fun d => W.str d.x) = strsW (ds.map Ld.x) by simp [strsW]]
  refine go_notInL rfl (flat_strs _) ?_
  rw [any_strs]
  refine go_ndec (fun c => ?_) (fun c => ?_)
  · rw [if_neg c] at q
    walk_at "st"
    exact q _ (.refl _)
  rw [if_pos c] at q
  walk_at "st"
  refine ⟨ds, rfl, l, ok, nd, ?_⟩
  cases eu : unkF [] ds with
  | some u => rw [eu] at q; exact q
  | none =>
    rw [eu] at q
    have q : ∀ u, envA env0 ds nm = some u → R u.w h := q
    show unkK _ none _ _ _
    unfold unkK
    walk_at "st"
    intro p hp
    walk_at "st"
    refine go_forL (ds.map Ld.w) (fun R q => by walk_at "st"; exact q)
      (fun i ρ' h' => ∃ kws : List (L2.Key × W), kws.length ≤ i ∧ EnvOk kws (envA env0 (ds.take i)) [] ∧ nm ∉ (ds.take i).map Ld.x ∧ ρ' = [some (.lst (ds.map Ld.w)), some (.str nm), some (.ref p), none, none, none, none] ∧ h' = updW h p (.dic kws))
      (.of ⟨[], Nat.le_refl _, fun y => rfl, by simp, rfl, rfl⟩) ?_ ?_
    · rintro i y ρ' h' hy ⟨kws, lk, en, nn, rfl, rfl⟩
      have hi : i < ds.length := by have := (List.getElem?_eq_some_iff.mp hy).1; simpa using this
      have ey : y = ds[i].w := by rw [List.getElem?_map, List.getElem?_eq_getElem hi] at hy; exact (Option.some.inj hy).symm
      subst ey
      have hd := ok ds[i] (List.getElem_mem hi)
      have et : ds.take (i + 1) = ds.take i ++ [ds[i]] := by rw [List.take_add_one, List.getElem?_eq_getElem hi]; rfl
      have lz := hd.sz
      show _
      unfold Ld.w
      walk_at "st"
      intro v hv
      walk_at "st"
      have npv : p ≠ v := fun z => by rw [← z, updW_same] at hv; cases hv
      refine ⟨ds[i].t, .ref p, v, kws, envA env0 (ds.take i), rfl, updW_same, by unfold dW; dsimp only; rw [updW_ne npv, updW_same], en, fun x hx => ?_, by omega, by omega, ?_⟩
      · rw [envA_some]
        rcases unk_none ds [] eu i hi x hx with z | z
        · cases z
        · rw [decide_eq_true z]; simp
      have hp2 : updW (updW h p (.dic kws)) v (.ins T.aC_Linker []) p = some (.dic kws) := by rw [updW_ne npv, updW_same]
      have en2 : EnvOk (putW kws (.inr (mkS ds[i].x)) (ds[i].t.put (envA env0 (ds.take i)) []).w) (envA env0 (ds.take (i + 1))) [] := by rw [et, envA_app]; exact en.up _ _
      have lp2 := put_len kws (.inr (mkS ds[i].x)) (ds[i].t.put (envA env0 (ds.take i)) []).w
      have sbp : ∀ k2 : List (L2.Key × W), Sub (updW h p (.dic k2)) (updW (updW (updW h p (.dic kws)) v (.ins T.aC_Linker [])) p (.dic k2)) := fun k2 b o e => by
        by_cases b1 : b = p
        · rw [b1, updW_same] at e ⊢; exact e
        · rw [updW_ne b1] at e ⊢
          have bv : b ≠ v := fun z => by rw [z] at e b1; rw [updW_ne b1] at hv; rw [hv] at e; cases e
          rw [updW_ne bv, updW_ne b1]; exact e
      walk_at "st"
      refine go_dec (fun c2 => ?_) (fun c2 => ?_)
      · have q := q _ (by rw [← c2]; exact env_at nd hi)
        have gv : ∀ h2 : HW, h2 p = some (.dic (putW kws (.inr (mkS ds[i].x)) (ds[i].t.put (envA env0 (ds.take i)) []).w)) → dgW (.ref p) (.str nm) h2 = some (some (ds[i].t.put (envA env0 (ds.take i)) []).w) := fun h2 e2 => by
          unfold dgW dW
          dsimp only
          rw [e2]
          refine congrArg some ?_
          rw [← c2, val_put, if_pos rfl]
        walk_at "st"
        refine go_dget (gv _ updW_same) ?_
        exact .base q ((Sub.new hp).trans (sbp _))
      · walk_at "st"
        refine ⟨_, _, ⟨_, by omega, en2, fun z => ?_, rfl, rfl⟩, .same (.same (.same (.no (.no (.no (.no .nil)))))), sbp _⟩
        rw [et, List.map_append] at z
        rcases List.mem_append.mp z with z | z
        · exact nn z
        · simp at z; exact c2 z.symm
    · rintro ρ' h' ⟨kws, lk, en, nn, rfl, rfl⟩
      rw [List.length_map, List.take_length] at nn
      exact absurd c nn
theorem ok_law (T : Tx P w K mg) : FnOk P w K mg base CX0 230 T.a_law T.fd_law ["script"] (lSp K spLaw) := by
  refine fnW T.F_law sc_law (fun ws h R ex ⟨_, e, _⟩ => by rw [e]; rfl) fun cdv A outer s H E hr => ⟨_, (wss_cons (ws_set (i := 1) sc_law.nd (w_callB call_abs lf_abs (by rfl) T.m_abs (by decide +kernel) (wa_cons (w_call (ok__law_cell T) (hr.mono (by walk_at "rm")) (by rfl) T.g__law_cell T.F__law_cell.kp T.b__law_cell (wa_cons (w_var 0) (wa_cons w_int wa_nil))) wa_nil)))
    (wss_cons (ws_set (i := 2) sc_law.nd (w_slice (w_lst (wa_cons (w_str z_one) (wa_cons (w_str z_two) (wa_cons (w_str z_three) (wa_cons (w_str z_four) (wa_cons (w_str z_five) wa_nil)))))) wo_none (wo_some (w_op ow_add lf_add w_int (w_op (rw := modW) op_mod lf_int (w_var 1) w_int)))))
    (wss_cons (ws_set (i := 3) sc_law.nd (w_call (ok__law_numbers T) (hr.mono (by walk_at "rm")) (by rfl) T.g__law_numbers T.F__law_numbers.kp T.b__law_numbers (wa_cons (w_var 0) (wa_cons w_int (wa_cons w_int wa_nil)))))
    (wss_cons (ws_set (i := 4) sc_law.nd (w_lstO wa_nil))
    (wss_cons (ws_for PassesOwn.never rfl (wi_range1 (by rfl) T.m_range (wa_cons (w_callB call_len lf_len (by rfl) T.m_len (by decide +kernel) (wa_cons (w_var 2) wa_nil)) wa_nil)) (wg_name (i := 5) sc_law.nd) (wss_cons (ws_set (i := 12) sc_law.nd (w_op ow_add lf_add (w_slice (w_var 2) wo_none (wo_some (w_var 5))) (w_lst (wa_cons (w_str z_own) wa_nil))))
    (wss_cons (ws_if (wt_cmp (ow_eq hr.units) lf_eq (w_op (rw := modW) op_mod lf_int (w_op (rw := fdivW) op_fdiv lf_int (w_var 1) w_int) w_int) w_int (nomark _)) (wss_one (ws_set (i := 12) sc_law.nd (w_op ow_add lf_add (w_var 2) (w_lst (wa_cons (w_str z_own) wa_nil))))) wss_nil)
    (wss_cons (ws_if (wt_cmp (ow_eq hr.units) lf_eq (w_callB call_len lf_len (by rfl) T.m_len (by decide +kernel) (wa_cons (w_var 12) wa_nil)) w_int (nomark _)) (wss_one (ws_set (i := 12) sc_law.nd (w_op ow_add lf_add (w_var 12) (w_lst (wa_cons (w_str z_self) wa_nil))))) wss_nil)
    (wss_cons (ws_set (i := 13) sc_law.nd (w_call (ok__law_any_term T) (hr.mono (by walk_at "rm")) (by rfl) T.g__law_any_term T.F__law_any_term.kp T.b__law_any_term (wa_cons (w_slice (w_var 3) (wo_some (w_op (rw := mulW) op_mul lf_int w_int (w_var 5))) (wo_some (w_op ow_add lf_add (w_op (rw := mulW) op_mul lf_int w_int (w_var 5)) w_int))) (wa_cons (w_var 12) wa_nil))))
    (wss_cons (ws_if (wt_cmp (ow_ne hr.units) lf_ne (w_op (rw := modW) op_mod lf_int (w_op (rw := fdivW) op_fdiv lf_int (w_var 1) w_int) w_int) w_int (nomark _)) (wss_one (ws_for PassesOwn.never rfl (wi_list (w_callB cr_sortedS lf_sortedS (by rfl) T.m_sorted (by decide +kernel) (wa_cons (w_call (ok__law_free T 60) (hr.mono (by walk_at "rm")) (by rfl) T.g__law_free T.F__law_free.kp T.b__law_free (wa_cons (w_var 13) (wa_cons (w_lst wa_nil) wa_nil))) wa_nil))) (wg_name (i := 14) sc_law.nd) (wss_one (ws_if (wt_cmp ow_in lf_in (w_var 14) (w_tup (wa_cons (w_str z_own) (wa_cons (w_str z_self) wa_nil))) (by rfl)) (wss_one (ws_set (i := 13) sc_law.nd (w_tup (wa_cons (w_str z_lam) (wa_cons (w_var 14) (wa_cons (w_tup (wa_cons (w_str z_int) wa_nil)) (wa_cons (w_var 13) wa_nil))))))) wss_nil)))) wss_nil)
    (wss_one (ws_expr (w_bm PySem.F.plainAttrs_list PySem.F.slot_list_append PySem.F.type_list_append mt_append tyL_ok lf_append (w_var 4) (wa_cons (w_tup (wa_cons (w_ix (w_var 2) (w_var 5)) (wa_cons (w_tup (wa_cons (w_str z_int) wa_nil)) (wa_cons (w_var 13) wa_nil)))) wa_nil))))))))))
    (wss_cons (ws_frz (i := 4) (ws_set (i := 6) sc_law.nd w_d0O))
    (wss_cons (ws_set (i := 7) sc_law.nd w_non)
    (wss_cons (ws_for PassesOwn.never rfl (wi_list (w_var 4)) (wg_name (i := 8) sc_law.nd) (wss_cons (ws_for PassesOwn.never rfl (wi_list (w_call (ok__law_free T 60) (hr.mono (by walk_at "rm")) (by rfl) T.g__law_free T.F__law_free.kp T.b__law_free (wa_cons (w_ix (w_var 8) w_int) (wa_cons (w_lst wa_nil) wa_nil)))) (wg_name (i := 14) sc_law.nd) (wss_one (ws_if (wt_bool (ww_and (wt_cmp op_isN lf_isN (w_var 7) w_non (nomark _)) (ww_and1 (wt_dnotin (hu_of hr) (w_var 14) (w_var 6))))) (wss_one (ws_set (i := 7) sc_law.nd (w_var 14))) wss_nil)))
    (wss_one (ws_dput (hu_of hr) (w_var 6) (w_ix (w_var 8) w_int) (w_call (ok__law_put T 60) (hr.mono (by walk_at "rm")) (by rfl) T.g__law_put T.F__law_put.kp T.b__law_put (wa_cons (w_ix (w_var 8) w_int) (wa_cons (w_var 6) (wa_cons (w_lst wa_nil) wa_nil))))))))
    (wss_cons (ws_set (i := 9) sc_law.nd (w_ix (w_op ow_add lf_add (w_var 2) (w_lst (wa_cons (w_str z_own) wa_nil))) (w_op (rw := modW) op_mod lf_int (w_op (rw := fdivW) op_fdiv lf_int (w_var 1) w_int) (w_op ow_add lf_add (w_callB call_len lf_len (by rfl) T.m_len (by decide +kernel) (wa_cons (w_var 2) wa_nil)) w_int))))
    (wss_cons (ws_set (i := 10) sc_law.nd (w_callTy call_list_of lf_list (by rfl) T.m_list (by decide +kernel) (wa_cons (w_var 4) wa_nil)))
    (wss_cons (ws_tryAX (i := 11) (j := 15) rfl rfl sc_law.nd rfl rfl ⟨rfl, by decide, .inl T.gC_SharenetError⟩ rfl rfl (ok_linked T) (hr.mono (by walk_at "rm")) (by rfl) T.g_linked T.F_linked.kp T.b_linked (fun _ _ => (wa_cons (w_var 10) (wa_cons (w_var 9) wa_nil))) (fun x od a oe pn ec hz hf => (wss_cons (ws_if (wt_not (wt_val (w_isX ec hz hf (by rfl) T.m_isinstance (by decide +kernel) (wa_cons (w_var 11) (wa_cons (w_glob rfl T.gC_UnknownName) wa_nil))))) (wss_one (ws_ret w_bl)) wss_nil)
    (wss_cons (ws_if (wt_cmp (ow_eq hr.units) lf_eq (w_var 9) (w_str z_own) (nomark _)) (wss_one (ws_ret (w_cmp (ow_eq hr.units) lf_eq (w_xf ec hz hf (w_var 11)) (w_str z_own) (nomark _)))) wss_nil)
    (wss_one (ws_ret (w_cmp (ow_eq hr.units) lf_eq (w_xf ec hz hf (w_var 11)) (w_var 7) (nomark _))))))))
    (wss_one (ws_ret (w_and (w_cmp (ow_ne hr.units) lf_ne (w_var 9) (w_str z_own) (nomark _)) (w_and (w_cmp op_isN lf_isN (w_var 7) w_non (nomark _)) (w_and (w_cmp (ow_eqL (n := 3600) (room_far hr (by decide))) lf_eqL (w_var 15) (w_dget (hu_of hr) (w_var 6) (w_var 9)) (nomark _)) (w_one (w_cmp (ow_eq hr.units) lf_eq (w_var 10) (w_var 4) (nomark _))))))))))))))))))), fun ws h R ex ⟨ns, e, l, q⟩ => ?_⟩
  subst e
  walk_at "st"
  refine ⟨ns, 0, rfl, ?_⟩
  walk_at "st"
  generalize (ns.getD 0 0).natAbs = dg
  obtain ⟨nn, hn, en⟩ : ∃ nn : Nat, (1 ≤ nn ∧ nn ≤ 5) ∧ 1 + (dg : Int) % 5 = (nn : Nat) := ⟨(1 + (dg : Int) % 5).toNat, by omega, by omega⟩
  rw [en]
  walk_at "st"
  rw [cut_to, show [W.str z_one, .str z_two, .str z_three, .str z_four, .str z_five] = strsW nms5 from rfl, show (strsW nms5).take nn = strsW (nms5.take nn) by simp [strsW]]
  obtain ⟨nms, enm, lnm, gnm, dnm, onm⟩ : ∃ nms : List (List Nat), nms = nms5.take nn ∧ nms.length = nn ∧ (∀ x ∈ nms, IsNm x) ∧ nms.Nodup ∧ z_own ∉ nms := ⟨_, rfl, by rw [List.length_take]; show min nn 5 = nn; omega, fun x hx => nms5_nm x (List.mem_of_mem_take hx), nms5_nd.sublist (List.take_sublist _ _), fun z => nms5_own (List.mem_of_mem_take z)⟩
  rw [← enm]
  walk_at "st"
  refine ⟨ns, 1, 40, rfl, l, by decide, by decide, fun ms gm lm => ?_⟩
  walk_at "st"
  intro p hp
  walk_at "st"
  have lns : (strsW nms).length = nn := by simp [strsW, lnm]
  refine go_forR1 ((strsW nms).length : Int) (fun RA q => by walk_at "st"; exact q) (by omega)
    (fun i ρ' h' => ∃ ds : List Ld, ds.length = i ∧ (∀ d ∈ ds, d.Ok) ∧ ds.map Ld.x = nms.take i ∧ ρ' = [some (.scr (ns.map W.int)), some (.int (dg : Nat)), some (.lst (strsW nms)), some (.lst (natsW ms)), some (.ref p)] ++ List.replicate 11 none ∧ h' = updW h p (.lst (ds.map Ld.w)))
    (.of ⟨[], rfl, by simp, rfl, rfl, rfl⟩) ?_ ?_
  · rintro i ρ' h' hi ⟨ds, li, ok, ex, rfl, rfl⟩
    rw [Int.toNat_natCast, lns] at hi
    have lds : (ds.map Ld.w).length = ds.length := by simp
    have en0 : atI (strsW nms) (i : Int) = some (.str nms[i]) := atI_nat (by rw [strsW, List.getElem?_map, List.getElem?_eq_getElem (by omega)]; rfl)
    have gi := gnm nms[i] (List.getElem_mem _)
    have ec0 : cut (strsW nms) none (some (i : Int)) = strsW (nms.take i) := by rw [cut_to]; simp [strsW]
    have lt1 : (strsW (nms.take i)).length ≤ 5 := by simp [strsW]; omega
    walk_at "st"
    rw [ec0]
    walk_at "sti"
    with_reducible show sSeq _ _ _ _ _
    refine go_seqM (fun ρ' h' => h' = updW h p (.lst (ds.map Ld.w)) ∧ ∃ mn : List (List Nat), (∀ x ∈ mn, IsNm x) ∧ 0 < mn.length ∧ mn.length ≤ 6 ∧ ρ' = [some (.scr (ns.map W.int)), some (.int (dg : Nat)), some (.lst (strsW nms)), some (.lst (natsW ms)), some (.ref p), some (.int (i : Nat)), none, none, none, none, none, none, some (.lst (strsW mn)), none, none, none]) ?_ ?_
    · rintro ρ' h' ⟨rfl, mn, gmn, lmn, lmn6, rfl⟩
      have lsm : (strsW mn).length = mn.length := by simp [strsW]
      walk_at "sti"
      with_reducible show sSeq _ _ _ _ _
      refine go_seqM (fun ρ' h' => h' = updW h p (.lst (ds.map Ld.w)) ∧ ∃ mn : List (List Nat), (∀ x ∈ mn, IsNm x) ∧ 0 < mn.length ∧ ρ' = [some (.scr (ns.map W.int)), some (.int (dg : Nat)), some (.lst (strsW nms)), some (.lst (natsW ms)), some (.ref p), some (.int (i : Nat)), none, none, none, none, none, none, some (.lst (strsW mn)), none, none, none]) ?_ ?_
      · clear lsm lmn6 lmn gmn mn
        rintro ρ' h' ⟨rfl, mn, gmn, lmn, rfl⟩
        have e8 : (8 : Int) * (i : Int) = ((8 * i : Nat) : Int) := by omega
        have ec : cut (natsW ms) (some ((8 : Int) * (i : Int))) (some ((8 : Int) * (i : Int) + 8)) = natsW ((ms.drop (8 * i)).take 8) := by
          rw [show (8 : Int) * (i : Int) + 8 = ((8 * i + 8 : Nat) : Int) by omega, e8, cut_nat, show 8 * i + 8 - 8 * i = 8 by omega]
          simp [natsW]
        walk_at "st"
        rw [ec]
        have l8 : ((ms.drop (8 * i)).take 8).length ≤ 8 := by simp; omega
        refine ⟨(ms.drop (8 * i)).take 8, mn, rfl, fun y hy => gm y (List.mem_of_mem_drop (List.mem_of_mem_take hy)), by omega, lmn, gmn, fun t ht hd hz dis => ?_⟩
        walk_at "sti"
        with_reducible show sSeq _ _ _ _ _
        refine go_seqM (fun ρ' h' => h' = updW h p (.lst (ds.map Ld.w)) ∧ ∃ t : Tm, TmOk t ∧ t.size ≤ 60 ∧ t.dep ≤ 36 ∧ ρ' = [some (.scr (ns.map W.int)), some (.int (dg : Nat)), some (.lst (strsW nms)), some (.lst (natsW ms)), some (.ref p), some (.int (i : Nat)), none, none, none, none, none, none, some (.lst (strsW mn)), some t.w, none, none]) ?_ ?_
        · clear dis hz hd ht t
          rintro ρ' h' ⟨rfl, t, ht, hz, hd, rfl⟩
          walk_at "st"
          refine ⟨_, _, ⟨ds ++ [⟨nms[i], t⟩], by simp; omega, fun d hd' => ?_, ?_, rfl, rfl⟩, ?_, ?_⟩
          · rcases List.mem_append.mp hd' with z | z
            · exact ok d z
            · rw [List.mem_singleton] at z
              subst z
              exact ⟨gi, ht, hz, hd⟩
          · rw [List.map_append, ex, List.take_add_one, List.getElem?_eq_getElem (by omega)]; rfl
          · exact .same (.same (.same (.same (.same (.no (.no (.no (.no (.no (.no (.no (.no (.no (.no (.no .nil)))))))))))))))
          · rw [updW_upd, List.map_append]; exact .refl _
        · intro N hN
          walk_at "st"
          refine go_ndec (fun c => ?_) (fun c => ?_)
          · walk_at "st"
            unfold sFor oItL
            walk_at "st"
            have fl := fvs_len t []
            refine ⟨t, [], rfl, by omega, by omega, by simp; omega, ?_⟩
            walk_at "st"
            show sortedSW [.lst ((fvs t []).map W.str)] _ _
            refine go_sortedS (by omega) fun ys pm => ?_
            have ly : ys.length ≤ 25 := by rw [pm.length_eq]; omega
            refine ⟨fun j ρ' h' => ∃ t' : Tm, TmOk t' ∧ t'.size ≤ 25 + j ∧ t'.dep ≤ 9 + j ∧ h' = updW h p (.lst (ds.map Ld.w)) ∧ ρ' = [some (.scr (ns.map W.int)), some (.int (dg : Nat)), some (.lst (strsW nms)), some (.lst (natsW ms)), some (.ref p), some (.int (i : Nat)), none, none, none, none, none, none, some (.lst (strsW mn)), some t'.w, none, none],
              .of ⟨t, ht, by omega, by omega, rfl, rfl⟩, ?_, ?_⟩
            · rintro j y ρ' h' hy ⟨t', h1, h2, h3, rfl, rfl⟩
              have hj : j < ys.length := by have := (List.getElem?_eq_some_iff.mp hy).1; simpa using this
              have ey : y = .str ys[j] := by rw [List.getElem?_map, List.getElem?_eq_getElem hj] at hy; exact (Option.some.inj hy).symm
              subst ey
              walk_at "st"
              rw [any2l]
              refine go_dec (fun c => ?_) (fun c => ?_)
              · have gy : IsNm ys[j] := by rcases c with z | z <;> rw [z]; exact own_nm; exact self_nm
                walk_at "st"
                refine ⟨_, _, ⟨.lam ys[j] .int t', ⟨gy, by simp [Kd.dep], h1⟩, by simp only [Tm.size]; omega, by simp only [Tm.dep]; omega, rfl, rfl⟩, .same (.same (.same (.same (.same (.same (.same (.same (.same (.same (.same (.same (.same (.same (.no (.no .nil))))))))))))))), .refl _⟩
              · walk_at "st"
                exact ⟨_, _, ⟨t', h1, by omega, by omega, rfl, rfl⟩, .same (.same (.same (.same (.same (.same (.same (.same (.same (.same (.same (.same (.same (.same (.no (.no .nil))))))))))))))), .refl _⟩
            · rintro ρ' h' ⟨t', h1, h2, h3, rfl, rfl⟩
              rw [List.length_map] at h2 h3
              exact hN _ _ ⟨rfl, t', h1, by omega, by omega, rfl⟩
          · walk_at "st"
            exact hN _ _ ⟨rfl, t, ht, by omega, by omega, rfl⟩
      · intro N hN
        walk_at "st"
        refine go_dec (fun c => ?_) (fun c => ?_)
        · walk_at "st"
          refine hN _ _ ⟨rfl, mn ++ [z_self], fun x hx => ?_, by simp, by simp [strsW]⟩
          rcases List.mem_append.mp hx with z | z
          · exact gmn x z
          · rw [List.mem_singleton] at z; rw [z]; exact self_nm
        · walk_at "st"
          exact hN _ _ ⟨rfl, mn, gmn, lmn, rfl⟩
    · intro N hN
      walk_at "st"
      refine go_dec (fun c => ?_) (fun c => ?_)
      · walk_at "st"
        refine hN _ _ ⟨rfl, nms ++ [z_own], fun x hx => ?_, by simp, by simp; omega, by simp [strsW]⟩
        rcases List.mem_append.mp hx with z | z
        · exact gnm x z
        · rw [List.mem_singleton] at z; rw [z]; exact own_nm
      · walk_at "st"
        refine hN _ _ ⟨rfl, nms.take i ++ [z_own], fun x hx => ?_, by simp, by simp; omega, by simp [strsW]⟩
        rcases List.mem_append.mp hx with z | z
        · exact gnm x (List.mem_of_mem_take z)
        · rw [List.mem_singleton] at z; rw [z]; exact own_nm
  · rintro ρ' h' ⟨ds, li, ok, ex, rfl, rfl⟩
    rw [Int.toNat_natCast, lns, ← lnm, List.take_length] at ex
    rw [Int.toNat_natCast, lns] at li
    walk_at "st"
    rw [del_upd9 hp]
    intro pk hpk
    walk_at "st"
    refine go_forL (ds.map Ld.w) (fun R q => by walk_at "st"; exact q)
      (fun i ρ' h' => ∃ (kws : List (L2.Key × W)) (u : Option (List Nat)), kws.length ≤ i ∧ EnvOk kws (envA env0 (ds.take i)) [] ∧ unkO u (unkF ((ds.take i).map Ld.x) (ds.drop i)) = unkF [] ds ∧
        ρ' = [some (.scr (ns.map W.int)), some (.int (dg : Nat)), some (.lst (strsW nms)), some (.lst (natsW ms)), some (.lst (ds.map Ld.w)), none, some (.ref pk), some (optW u)] ++ List.replicate 8 none ∧ h' = updW h pk (.dic kws))
      (.of ⟨[], none, Nat.le_refl _, fun y => rfl, rfl, rfl, rfl⟩) ?_ ?_
    · rintro i y ρ' h' hy ⟨kws, u, lk, en9, eu, rfl, rfl⟩
      have hi : i < ds.length := by have := (List.getElem?_eq_some_iff.mp hy).1; simpa using this
      have ey : y = ds[i].w := by rw [List.getElem?_map, List.getElem?_eq_getElem hi] at hy; exact (Option.some.inj hy).symm
      subst ey
      have hd := ok ds[i] (List.getElem_mem hi)
      have dz := hd.sz
      have dd := hd.dp
      obtain ⟨es, ees⟩ : ∃ es, es = (ds.take i).map Ld.x := ⟨_, rfl⟩
      rw [List.drop_eq_getElem_cons hi, unkF, ← ees] at eu
      obtain ⟨xs, exs⟩ : ∃ xs, xs = fvs ds[i].t [] := ⟨_, rfl⟩
      rw [← exs] at eu
      walk_at "st"
      refine go_forL (strsW xs) (fun R q => by
          unfold Ld.w
          walk_at "st"
          exact ⟨ds[i].t, [], rfl, by omega, by omega, by simp; omega, by rw [← exs]; exact q⟩)
        (fun j ρ' h' => ∃ u2, unkO u2 ((xs.drop j).find? fun x => decide (x ∉ es)) = unkO u (xs.find? fun x => decide (x ∉ es)) ∧
          ρ' = [some (.scr (ns.map W.int)), some (.int (dg : Nat)), some (.lst (strsW nms)), some (.lst (natsW ms)), some (.lst (ds.map Ld.w)), none, some (.ref pk), some (optW u2), some ds[i].w] ++ List.replicate 7 none ∧ h' = updW h pk (.dic kws))
        (.of ⟨u, rfl, rfl, rfl⟩) ?_ ?_
      · rintro j y ρ' h' hy ⟨u2, e2, rfl, rfl⟩
        have hj : j < xs.length := by have := (List.getElem?_eq_some_iff.mp hy).1; simpa [strsW] using this
        have ey : y = .str xs[j] := by rw [strsW, List.getElem?_map, List.getElem?_eq_getElem hj] at hy; exact (Option.some.inj hy).symm
        subst ey
        rw [List.drop_eq_getElem_cons hj, List.find?_cons] at e2
        cases u2 with
        | some s2 =>
          walk_at "st"
          refine go_isN (b := false) rfl ?_
          walk_at "st"
          exact ⟨_, _, ⟨some s2, e2, rfl, rfl⟩, .same (.same (.same (.same (.same (.same (.same (.same (.same (.no (.no (.no (.no (.no (.no (.no .nil))))))))))))))), .refl _⟩
        | none =>
          have gv : dgW (.ref pk) (.str xs[j]) (updW h pk (.dic kws)) = some (valW kws (.inr (mkS xs[j]))) := by unfold dgW dW; dsimp only; rw [updW_same]; rfl
          have gs : (valW kws (.inr (mkS xs[j]))).isSome = decide (xs[j] ∈ es) := by
            rw [en9 xs[j], if_neg (List.not_mem_nil), Option.isSome_map, envA_some, ees]; rfl
          walk_at "st"
          refine go_isN (b := true) rfl ?_
          walk_at "st"
          refine go_dnotin gv ?_
          rw [gs]
          walk_at "st"
          refine go_ndec (fun c => ?_) (fun c => ?_)
          · rw [decide_eq_true c] at e2
            walk_at "st"
            exact ⟨_, _, ⟨some xs[j], e2, rfl, rfl⟩, .same (.same (.same (.same (.same (.same (.same (.same (.same (.no (.no (.no (.no (.no (.no (.no .nil))))))))))))))), .refl _⟩
          · rw [decide_eq_false (fun z => z c)] at e2
            walk_at "st"
            exact ⟨_, _, ⟨none, e2, rfl, rfl⟩, .same (.same (.same (.same (.same (.same (.same (.same (.same (.no (.no (.no (.no (.no (.no (.no .nil))))))))))))))), .refl _⟩
      · rintro ρ' h' ⟨u2, e2, rfl, rfl⟩
        rw [show (strsW xs).length = xs.length by simp [strsW], List.drop_length, List.find?_nil] at e2
        have et : ds.take (i + 1) = ds.take i ++ [ds[i]] := by rw [List.take_add_one, List.getElem?_eq_getElem hi]; rfl
        unfold Ld.w
        walk_at "st"
        refine ⟨ds[i].t, .ref pk, kws, envA env0 (ds.take i), [], rfl, by unfold dW; dsimp only; rw [updW_same], en9, by omega, by simp; omega, ?_⟩
        have lp := put_len kws (.inr (mkS ds[i].x)) (ds[i].t.put (envA env0 (ds.take i)) []).w
        walk_at "st"
        refine ⟨_, _, ⟨putW kws (.inr (mkS ds[i].x)) (ds[i].t.put (envA env0 (ds.take i)) []).w, u2, by omega, by rw [et, envA_app]; exact en9.up _ _, ?_, rfl, rfl⟩, .same (.same (.same (.same (.same (.same (.same (.same (.no (.no (.no (.no (.no (.no (.no (.no .nil))))))))))))))), ?_⟩
        · rw [et, List.map_append, ← ees, ← eu]
          cases u2 with
          | some s2 =>
            cases u with
            | some s1 => exact e2
            | none =>
              have e2 : some s2 = xs.find? (fun x => decide (x ∉ es)) := e2
              rw [← e2]; rfl
          | none =>
            cases u with
            | some s1 => cases e2
            | none =>
              have e2 : none = xs.find? (fun x => decide (x ∉ es)) := e2
              rw [← e2]; rfl
        · rw [updW_upd]; exact .refl _
    · rintro ρ' h' ⟨kws, u, lk, en9, eu, rfl, rfl⟩
      rw [List.length_map, List.take_length] at en9
      rw [List.length_map, List.take_length, List.drop_length, unkF] at eu
      have eu : u = unkF [] ds := by rw [← eu]; cases u <;> rfl
      subst eu
      walk_at "st"
      obtain ⟨j, hj, ej⟩ : ∃ j : Nat, j < (nms ++ [z_own]).length ∧ (dg : Int) / 5 % (((strsW nms).length : Nat) + 1 : Int) = (j : Nat) := by
        have h1 : 0 ≤ (dg : Int) / 5 % (((strsW nms).length : Nat) + 1 : Int) := Int.emod_nonneg _ (by omega)
        have h2 : (dg : Int) / 5 % (((strsW nms).length : Nat) + 1 : Int) < ((strsW nms).length : Nat) + 1 := Int.emod_lt_of_pos _ (by omega)
        exact ⟨((dg : Int) / 5 % (((strsW nms).length : Nat) + 1 : Int)).toNat, by simp; omega, by omega⟩
      rw [ej, show strsW nms ++ [W.str z_own] = strsW (nms ++ [z_own]) by simp [strsW]]
      have ea : atI (strsW (nms ++ [z_own])) (j : Int) = some (.str (nms ++ [z_own])[j]) := atI_nat (by rw [strsW, List.getElem?_map, List.getElem?_eq_getElem hj]; rfl)
      have wm : (nms ++ [z_own])[j] ∈ nms ++ [z_own] := List.getElem_mem hj
      generalize (nms ++ [z_own])[j] = wn at ea wm
      have lwn : wn.length ≤ 1000 := by
        rcases List.mem_append.mp wm with z | z
        · have := (gnm wn z).nm.len; omega
        · rw [List.mem_singleton] at z; rw [z]; decide
      walk_at "st"
      refine go_tryX1 ?_
      walk_at "st"
      refine ⟨ds, wn, rfl, by omega, ok, by rw [ex]; exact dnm, lwn, ?_⟩
      rw [ex]
      by_cases cw : wn ∈ nms
      · have nw : wn ≠ z_own := fun z => onm (by rw [← z]; exact cw)
        rw [if_pos cw]
        cases eu : unkF [] ds with
        | some s2 =>
          show ∀ h', Sub _ h' → _
          intro h2 sb
          refine ⟨T.ec_UnknownName, T.xm_UnknownName_SharenetError, fun a => ?_⟩
          walk_at "st"
          refine go_isE T.is_UnknownName_UnknownName ?_
          walk_at "st"
          refine go_dec (fun c => absurd c nw) (fun _ => ?_)
          walk_at "st"
          refine go_xf T.sp_UnknownName.no ?_
          walk_at "st"
          refine ⟨_, _, rfl, rfl, ?_⟩
          unfold optW
          walk_at "st"
          rw [decide_eq_true rfl]
          exact .base q ((Sub.new hpk).trans sb)
        | none =>
          show ∀ u, envA env0 ds wn = some u → _
          intro u hu
          obtain ⟨tu, du⟩ := env_ok ds env0 0 ok (fun _ _ z => nomatch z) wn u hu
          obtain ⟨d1, d2⟩ := u.data tu
          have gv : ∀ h2 : HW, h2 pk = some (.dic kws) → dgW (.ref pk) (.str wn) h2 = some (some u.w) := fun h2 e2 => by
            unfold dgW dW
            dsimp only
            rw [e2]
            refine congrArg some ?_
            rw [en9 wn, if_neg (List.not_mem_nil), hu]; rfl
          have dl := lds_data ds ok
          walk_at "st"
          refine go_ndec (fun _ => ?_) (fun c => absurd c nw)
          walk_at "st"
          refine go_isN (b := true) rfl ?_
          walk_at "stc"
          refine go_dget (gv _ updW_same) ?_
          refine go_eqL d1 d1 (by omega) ?_
          rw [eqv_of u.w d1]
          walk_at "stc"
          refine go_eqD (x := .lst (ds.map Ld.w)) (y := .lst (ds.map Ld.w)) dl.1 dl.1 (by show depsW _ + 1 ≤ 64; omega) (by show depsW _ + 1 ≤ 64; omega) ?_
          rw [eqv_of (.lst (ds.map Ld.w)) dl.1]
          exact .base q (.new hpk)
      · have nw : wn = z_own := by
          rcases List.mem_append.mp wm with z | z
          · exact absurd z cw
          · exact List.mem_singleton.mp z
        rw [if_neg cw]
        intro h2 sb
        refine ⟨T.ec_UnknownName, T.xm_UnknownName_SharenetError, fun a => ?_⟩
        walk_at "st"
        refine go_isE T.is_UnknownName_UnknownName ?_
        walk_at "st"
        refine go_dec (fun _ => ?_) (fun c => absurd nw c)
        walk_at "st"
        refine go_xf T.sp_UnknownName.no ?_
        walk_at "st"
        refine ⟨_, _, rfl, rfl, ?_⟩
        walk_at "st"
        rw [decide_eq_true nw]
        exact .base q ((Sub.new hpk).trans sb)
end

/-! ## what the top has written -/
theorem all_mk {P : Program} {w : World} {K : PySem.W.Frag} {h : Heap} {mg : Str → Option Value} (X : K.In h) (G : h.Ns mainGlobals mg)
    {I0 : Addr} (ia0 : PySem.W.nsIn K mainGlobals "Linker" = some (some (.ref I0))) (ip0 : PySem.W.plainGet K I0 Str.empty = true) (ih0 : PySem.W.hasDictIn K I0 = true) (io0 : PySem.W.plainOver K I0 = true) (is0 : PySem.W.findIn K (.ref I0) "__setattr__" = some (some (.builtin "object.__setattr__")))
    (jm0 : PySem.W.makesIn K I0 = true) (jk0 : PySem.W.keepIn K (.ref I0) = true) (ji0 : PySem.W.findIn K (.ref I0) "__init__" = some (some (.builtin "object.__init__"))) (jt0 : PySem.W.mroIn K I0 (.type "object") = some true)
    {I1 : Addr} (ia1 : PySem.W.nsIn K mainGlobals "Walk" = some (some (.ref I1))) (ip1 : PySem.W.plainGet K I1 Str.empty = true) (ih1 : PySem.W.hasDictIn K I1 = true) (io1 : PySem.W.plainOver K I1 = true) (is1 : PySem.W.findIn K (.ref I1) "__setattr__" = some (some (.builtin "object.__setattr__")))
    (im1 : PySem.W.makesIn K I1 = true) (ik1 : PySem.W.keepIn K (.ref I1) = true)
    (in1_0 : PySem.W.findIn K (.ref I1) "results" = some none)
    (in1_1 : PySem.W.findIn K (.ref I1) "visitor" = some none)
    (in1_2 : PySem.W.findIn K (.ref I1) "waiting" = some none)
    {f0 : Addr} {od0 an0 : Option Addr} {sl0 : Array (Option Value)} {oc0 kV0 dc0 pm0 cd0 ct0 : Value} (a0_0 : PySem.W.nsIn K mainGlobals "parts_of" = some (some (.ref f0))) (l0 : K.lookup f0 = some ⟨oc0, od0, .func (PySem.W.fnOf "parts_of" "parts_of" (defArgs s_parts_of) (defBody s_parts_of) (defScope s_parts_of) .none kV0 dc0 pm0 an0 cd0 ct0), sl0⟩) (c0 : PySem.W.codeIn K cd0 "parts_of" = true) (k0 : PySem.W.keepIn K (.ref f0) = true)
    {f1 : Addr} {od1 an1 : Option Addr} {sl1 : Array (Option Value)} {oc1 kV1 dc1 pm1 cd1 ct1 : Value} (a1_0 : PySem.W.nsIn K mainGlobals "with_parts" = some (some (.ref f1))) (l1 : K.lookup f1 = some ⟨oc1, od1, .func (PySem.W.fnOf "with_parts" "with_parts" (defArgs s_with_parts) (defBody s_with_parts) (defScope s_with_parts) .none kV1 dc1 pm1 an1 cd1 ct1), sl1⟩) (c1 : PySem.W.codeIn K cd1 "with_parts" = true) (k1 : PySem.W.keepIn K (.ref f1) = true)
    {f2 : Addr} {od2 an2 : Option Addr} {sl2 : Array (Option Value)} {oc2 kV2 dc2 pm2 cd2 ct2 : Value} (a2_0 : PySem.W.nsIn K mainGlobals "bound_names" = some (some (.ref f2))) (l2 : K.lookup f2 = some ⟨oc2, od2, .func (PySem.W.fnOf "bound_names" "bound_names" (defArgs s_bound_names) (defBody s_bound_names) (defScope s_bound_names) .none kV2 dc2 pm2 an2 cd2 ct2), sl2⟩) (c2 : PySem.W.codeIn K cd2 "bound_names" = true) (k2 : PySem.W.keepIn K (.ref f2) = true)
    {f3 : Addr} {od3 an3 : Option Addr} {sl3 : Array (Option Value)} {oc3 kV3 dc3 pm3 cd3 ct3 : Value} (a3_0 : PySem.W.nsIn K mainGlobals "free_names" = some (some (.ref f3))) (l3 : K.lookup f3 = some ⟨oc3, od3, .func (PySem.W.fnOf "free_names" "free_names" (defArgs s_free_names) (defBody s_free_names) (defScope s_free_names) .none kV3 dc3 pm3 an3 cd3 ct3), sl3⟩) (c3 : PySem.W.codeIn K cd3 "free_names" = true) (k3 : PySem.W.keepIn K (.ref f3) = true)
    {f4 : Addr} {od4 an4 : Option Addr} {sl4 : Array (Option Value)} {oc4 kV4 dc4 pm4 cd4 ct4 : Value} (a4_0 : PySem.W.nsIn K mainGlobals "_scoped_parts" = some (some (.ref f4))) (l4 : K.lookup f4 = some ⟨oc4, od4, .func (PySem.W.fnOf "_scoped_parts" "_scoped_parts" (defArgs s__scoped_parts) (defBody s__scoped_parts) (defScope s__scoped_parts) .none kV4 dc4 pm4 an4 cd4 ct4), sl4⟩) (c4 : PySem.W.codeIn K cd4 "_scoped_parts" = true) (k4 : PySem.W.keepIn K (.ref f4) = true)
    {f5 : Addr} {od5 an5 : Option Addr} {sl5 : Array (Option Value)} {oc5 kV5 dc5 pm5 cd5 ct5 : Value} (a5_0 : PySem.W.nsIn K mainGlobals "walked" = some (some (.ref f5))) (l5 : K.lookup f5 = some ⟨oc5, od5, .func (PySem.W.fnOf "walked" "walked" (defArgs s_walked) (defBody s_walked) (defScope s_walked) .none kV5 dc5 pm5 an5 cd5 ct5), sl5⟩) (c5 : PySem.W.codeIn K cd5 "walked" = true) (k5 : PySem.W.keepIn K (.ref f5) = true)
    {f6 : Addr} {od6 an6 : Option Addr} {sl6 : Array (Option Value)} {oc6 kV6 dc6 pm6 cd6 ct6 : Value} (a6 : PySem.W.findIn K (.ref I1) "__init__" = some (some (.ref f6))) (l6 : K.lookup f6 = some ⟨oc6, od6, .func (PySem.W.fnOf "__init__" "Walk.__init__" (defArgs s_Walk___init__) (defBody s_Walk___init__) (defScope s_Walk___init__) .none kV6 dc6 pm6 an6 cd6 ct6), sl6⟩) (c6 : PySem.W.codeIn K cd6 "Walk.__init__" = true) (k6 : PySem.W.keepIn K (.ref f6) = true) (e6 : PySem.W.isFn K (.ref f6) = true)
    {f7 : Addr} {od7 an7 : Option Addr} {sl7 : Array (Option Value)} {oc7 kV7 dc7 pm7 cd7 ct7 : Value} (a7 : PySem.W.findIn K (.ref I1) "enter" = some (some (.ref f7))) (l7 : K.lookup f7 = some ⟨oc7, od7, .func (PySem.W.fnOf "enter" "Walk.enter" (defArgs s_Walk_enter) (defBody s_Walk_enter) (defScope s_Walk_enter) .none kV7 dc7 pm7 an7 cd7 ct7), sl7⟩) (c7 : PySem.W.codeIn K cd7 "Walk.enter" = true) (k7 : PySem.W.keepIn K (.ref f7) = true) (e7 : PySem.W.isFn K (.ref f7) = true)
    {f8 : Addr} {od8 an8 : Option Addr} {sl8 : Array (Option Value)} {oc8 kV8 dc8 pm8 cd8 ct8 : Value} (a8 : PySem.W.findIn K (.ref I1) "bind" = some (some (.ref f8))) (l8 : K.lookup f8 = some ⟨oc8, od8, .func (PySem.W.fnOf "bind" "Walk.bind" (defArgs s_Walk_bind) (defBody s_Walk_bind) (defScope s_Walk_bind) .none kV8 dc8 pm8 an8 cd8 ct8), sl8⟩) (c8 : PySem.W.codeIn K cd8 "Walk.bind" = true) (k8 : PySem.W.keepIn K (.ref f8) = true) (e8 : PySem.W.isFn K (.ref f8) = true)
    {f9 : Addr} {od9 an9 : Option Addr} {sl9 : Array (Option Value)} {oc9 kV9 dc9 pm9 cd9 ct9 : Value} (a9 : PySem.W.findIn K (.ref I1) "leave" = some (some (.ref f9))) (l9 : K.lookup f9 = some ⟨oc9, od9, .func (PySem.W.fnOf "leave" "Walk.leave" (defArgs s_Walk_leave) (defBody s_Walk_leave) (defScope s_Walk_leave) .none kV9 dc9 pm9 an9 cd9 ct9), sl9⟩) (c9 : PySem.W.codeIn K cd9 "Walk.leave" = true) (k9 : PySem.W.keepIn K (.ref f9) = true) (e9 : PySem.W.isFn K (.ref f9) = true)
    {f10 : Addr} {od10 an10 : Option Addr} {sl10 : Array (Option Value)} {oc10 kV10 dc10 pm10 cd10 ct10 : Value} (a10 : PySem.W.findIn K (.ref I1) "await_parts" = some (some (.ref f10))) (l10 : K.lookup f10 = some ⟨oc10, od10, .func (PySem.W.fnOf "await_parts" "Walk.await_parts" (defArgs s_Walk_await_parts) (defBody s_Walk_await_parts) (defScope s_Walk_await_parts) .none kV10 dc10 pm10 an10 cd10 ct10), sl10⟩) (c10 : PySem.W.codeIn K cd10 "Walk.await_parts" = true) (k10 : PySem.W.keepIn K (.ref f10) = true) (e10 : PySem.W.isFn K (.ref f10) = true)
    {f11 : Addr} {od11 an11 : Option Addr} {sl11 : Array (Option Value)} {oc11 kV11 dc11 pm11 cd11 ct11 : Value} (a11_0 : PySem.W.nsIn K mainGlobals "linked" = some (some (.ref f11))) (l11 : K.lookup f11 = some ⟨oc11, od11, .func (PySem.W.fnOf "linked" "linked" (defArgs s_linked) (defBody s_linked) (defScope s_linked) .none kV11 dc11 pm11 an11 cd11 ct11), sl11⟩) (c11 : PySem.W.codeIn K cd11 "linked" = true) (k11 : PySem.W.keepIn K (.ref f11) = true)
    {f12 : Addr} {od12 an12 : Option Addr} {sl12 : Array (Option Value)} {oc12 kV12 dc12 pm12 cd12 ct12 : Value} (a12_0 : PySem.W.nsIn K mainGlobals "_refuse_unknown" = some (some (.ref f12))) (l12 : K.lookup f12 = some ⟨oc12, od12, .func (PySem.W.fnOf "_refuse_unknown" "_refuse_unknown" (defArgs s__refuse_unknown) (defBody s__refuse_unknown) (defScope s__refuse_unknown) .none kV12 dc12 pm12 an12 cd12 ct12), sl12⟩) (c12 : PySem.W.codeIn K cd12 "_refuse_unknown" = true) (k12 : PySem.W.keepIn K (.ref f12) = true)
    {f13 : Addr} {od13 an13 : Option Addr} {sl13 : Array (Option Value)} {oc13 kV13 dc13 pm13 cd13 ct13 : Value} (a13 : PySem.W.findIn K (.ref I0) "bound" = some (some (.ref f13))) (l13 : K.lookup f13 = some ⟨oc13, od13, .func (PySem.W.fnOf "bound" "Linker.bound" (defArgs s_Linker_bound) (defBody s_Linker_bound) (defScope s_Linker_bound) .none kV13 dc13 pm13 an13 cd13 ct13), sl13⟩) (c13 : PySem.W.codeIn K cd13 "Linker.bound" = true) (k13 : PySem.W.keepIn K (.ref f13) = true) (e13 : PySem.W.isFn K (.ref f13) = true)
    {f14 : Addr} {od14 an14 : Option Addr} {sl14 : Array (Option Value)} {oc14 kV14 dc14 pm14 cd14 ct14 : Value} (a14 : PySem.W.findIn K (.ref I0) "used" = some (some (.ref f14))) (l14 : K.lookup f14 = some ⟨oc14, od14, .func (PySem.W.fnOf "used" "Linker.used" (defArgs s_Linker_used) (defBody s_Linker_used) (defScope s_Linker_used) .none kV14 dc14 pm14 an14 cd14 ct14), sl14⟩) (c14 : PySem.W.codeIn K cd14 "Linker.used" = true) (k14 : PySem.W.keepIn K (.ref f14) = true) (e14 : PySem.W.isFn K (.ref f14) = true)
    {f15 : Addr} {od15 an15 : Option Addr} {sl15 : Array (Option Value)} {oc15 kV15 dc15 pm15 cd15 ct15 : Value} (a15 : PySem.W.findIn K (.ref I0) "made" = some (some (.ref f15))) (l15 : K.lookup f15 = some ⟨oc15, od15, .func (PySem.W.fnOf "made" "Linker.made" (defArgs s_Linker_made) (defBody s_Linker_made) (defScope s_Linker_made) .none kV15 dc15 pm15 an15 cd15 ct15), sl15⟩) (c15 : PySem.W.codeIn K cd15 "Linker.made" = true) (k15 : PySem.W.keepIn K (.ref f15) = true) (e15 : PySem.W.isFn K (.ref f15) = true)
    {f16 : Addr} {od16 an16 : Option Addr} {sl16 : Array (Option Value)} {oc16 kV16 dc16 pm16 cd16 ct16 : Value} (a16_0 : PySem.W.nsIn K mainGlobals "_law_cell" = some (some (.ref f16))) (l16 : K.lookup f16 = some ⟨oc16, od16, .func (PySem.W.fnOf "_law_cell" "_law_cell" (defArgs s__law_cell) (defBody s__law_cell) (defScope s__law_cell) .none kV16 dc16 pm16 an16 cd16 ct16), sl16⟩) (c16 : PySem.W.codeIn K cd16 "_law_cell" = true) (k16 : PySem.W.keepIn K (.ref f16) = true)
    {f17 : Addr} {od17 an17 : Option Addr} {sl17 : Array (Option Value)} {oc17 kV17 dc17 pm17 cd17 ct17 : Value} (a17_0 : PySem.W.nsIn K mainGlobals "_law_numbers" = some (some (.ref f17))) (l17 : K.lookup f17 = some ⟨oc17, od17, .func (PySem.W.fnOf "_law_numbers" "_law_numbers" (defArgs s__law_numbers) (defBody s__law_numbers) (defScope s__law_numbers) .none kV17 dc17 pm17 an17 cd17 ct17), sl17⟩) (c17 : PySem.W.codeIn K cd17 "_law_numbers" = true) (k17 : PySem.W.keepIn K (.ref f17) = true)
    {f18 : Addr} {od18 an18 : Option Addr} {sl18 : Array (Option Value)} {oc18 kV18 dc18 pm18 cd18 ct18 : Value} (a18_0 : PySem.W.nsIn K mainGlobals "_law_any_kind" = some (some (.ref f18))) (l18 : K.lookup f18 = some ⟨oc18, od18, .func (PySem.W.fnOf "_law_any_kind" "_law_any_kind" (defArgs s__law_any_kind) (defBody s__law_any_kind) (defScope s__law_any_kind) .none kV18 dc18 pm18 an18 cd18 ct18), sl18⟩) (c18 : PySem.W.codeIn K cd18 "_law_any_kind" = true) (k18 : PySem.W.keepIn K (.ref f18) = true)
    {f19 : Addr} {od19 an19 : Option Addr} {sl19 : Array (Option Value)} {oc19 kV19 dc19 pm19 cd19 ct19 : Value} (a19_0 : PySem.W.nsIn K mainGlobals "_law_pop" = some (some (.ref f19))) (l19 : K.lookup f19 = some ⟨oc19, od19, .func (PySem.W.fnOf "_law_pop" "_law_pop" (defArgs s__law_pop) (defBody s__law_pop) (defScope s__law_pop) .none kV19 dc19 pm19 an19 cd19 ct19), sl19⟩) (c19 : PySem.W.codeIn K cd19 "_law_pop" = true) (k19 : PySem.W.keepIn K (.ref f19) = true)
    {f20 : Addr} {od20 an20 : Option Addr} {sl20 : Array (Option Value)} {oc20 kV20 dc20 pm20 cd20 ct20 : Value} (a20_0 : PySem.W.nsIn K mainGlobals "_law_any_term" = some (some (.ref f20))) (l20 : K.lookup f20 = some ⟨oc20, od20, .func (PySem.W.fnOf "_law_any_term" "_law_any_term" (defArgs s__law_any_term) (defBody s__law_any_term) (defScope s__law_any_term) .none kV20 dc20 pm20 an20 cd20 ct20), sl20⟩) (c20 : PySem.W.codeIn K cd20 "_law_any_term" = true) (k20 : PySem.W.keepIn K (.ref f20) = true)
    {f21 : Addr} {od21 an21 : Option Addr} {sl21 : Array (Option Value)} {oc21 kV21 dc21 pm21 cd21 ct21 : Value} (a21_0 : PySem.W.nsIn K mainGlobals "_law_parts" = some (some (.ref f21))) (l21 : K.lookup f21 = some ⟨oc21, od21, .func (PySem.W.fnOf "_law_parts" "_law_parts" (defArgs s__law_parts) (defBody s__law_parts) (defScope s__law_parts) .none kV21 dc21 pm21 an21 cd21 ct21), sl21⟩) (c21 : PySem.W.codeIn K cd21 "_law_parts" = true) (k21 : PySem.W.keepIn K (.ref f21) = true)
    {f22 : Addr} {od22 an22 : Option Addr} {sl22 : Array (Option Value)} {oc22 kV22 dc22 pm22 cd22 ct22 : Value} (a22_0 : PySem.W.nsIn K mainGlobals "_law_free" = some (some (.ref f22))) (l22 : K.lookup f22 = some ⟨oc22, od22, .func (PySem.W.fnOf "_law_free" "_law_free" (defArgs s__law_free) (defBody s__law_free) (defScope s__law_free) .none kV22 dc22 pm22 an22 cd22 ct22), sl22⟩) (c22 : PySem.W.codeIn K cd22 "_law_free" = true) (k22 : PySem.W.keepIn K (.ref f22) = true)
    {f23 : Addr} {od23 an23 : Option Addr} {sl23 : Array (Option Value)} {oc23 kV23 dc23 pm23 cd23 ct23 : Value} (a23_0 : PySem.W.nsIn K mainGlobals "_law_put" = some (some (.ref f23))) (l23 : K.lookup f23 = some ⟨oc23, od23, .func (PySem.W.fnOf "_law_put" "_law_put" (defArgs s__law_put) (defBody s__law_put) (defScope s__law_put) .none kV23 dc23 pm23 an23 cd23 ct23), sl23⟩) (c23 : PySem.W.codeIn K cd23 "_law_put" = true) (k23 : PySem.W.keepIn K (.ref f23) = true)
    {f24 : Addr} {od24 an24 : Option Addr} {sl24 : Array (Option Value)} {oc24 kV24 dc24 pm24 cd24 ct24 : Value} (a24_0 : PySem.W.nsIn K mainGlobals "law" = some (some (.ref f24))) (l24 : K.lookup f24 = some ⟨oc24, od24, .func (PySem.W.fnOf "law" "law" (defArgs s_law) (defBody s_law) (defScope s_law) .none kV24 dc24 pm24 an24 cd24 ct24), sl24⟩) (c24 : PySem.W.codeIn K cd24 "law" = true) (k24 : PySem.W.keepIn K (.ref f24) = true)
    {C0 : Addr} {cd0 : ClassData} (ga0 : PySem.W.nsIn K mainGlobals "SharenetError" = some (some (.ref C0))) (gb0 : PySem.W.subIn K (.ref C0) (.type "BaseException") = some true) (gt0 : PySem.W.typeIn K (.ref C0) = some (.type "type")) (gc0 : PySem.W.clsIn K C0 = some cd0)
    {C1 : Addr} {cd1 : ClassData} (ga1 : PySem.W.nsIn K mainGlobals "UnknownName" = some (some (.ref C1))) (gb1 : PySem.W.subIn K (.ref C1) (.type "BaseException") = some true) (gt1 : PySem.W.typeIn K (.ref C1) = some (.type "type")) (gc1 : PySem.W.clsIn K C1 = some cd1)
    {Xnm1 : Str} {Xq1 : Str} {XN1 : Addr} {Xbs1 : List Value} {Xbm1 : List Value} {Xsn1 : List Str} {Xsub1 : List Value} {Xab1 : Bool} {Xcol1 : Option Bool} {Xdd1 : Option Addr} {Xk01 : Option Value} {Xk11 : Option Value} {Xk21 : Option Value} {Xk31 : Option Value} {Xk51 : Option Value} {Xf1 : Addr} {Xoc1 : Value} {Xod1 : Option Addr} {Xosl1 : Array (Option Value)} {XkV1 : Value} {Xdoc1 : Value} {Xpm1 : Value} {Xct1 : Value} {Xan1 : Option Addr} {Xcda1 : Addr} {Xcc1 : Addr} {Xccl1 : Value} {Xcdd1 : Option Addr} {Xvs1 : Array Value} {Xccs1 : Array (Option Value)} {Xfile1 : Str} {Xtf1 : Tok} {Xcl1 : Value} {Xcld1 : Option Addr} {Xcsl1 : Array (Option Value)} (xlc1 : K.lookup C1 = some (excClassObj Xnm1 Xq1 C1 XN1 Xbs1 Xbm1 true Xsn1 Xsub1 Xab1 Xcol1 Xdd1 Xk01 Xk11 Xk21 Xk31 Xk51 "ValueError.__new__")) (xrv1 : PySem.HandSPX.refsVE Xbm1 = true) (xsa1 : PySem.W.findIn K (.ref C1) "__setattr__" = some (some (.builtin "object.__setattr__"))) (xkc1 : PySem.W.keepIn K (.ref C1) = true) (xin1 : PySem.W.findIn K (.ref C1) "__init__" = some (some (.ref Xf1))) (xty1 : PySem.W.typeIn K (.ref Xf1) = some (.type "function")) (xlf1 : K.lookup Xf1 = some ⟨Xoc1, Xod1, .func (PySem.W.ksFn "__init__" "UnknownName.__init__" (defArgs s_UnknownName___init__) (defBody s_UnknownName___init__) (defScope s_UnknownName___init__) .none XkV1 Xdoc1 Xpm1 Xan1 (.ref Xcda1) Xct1 Xcc1), Xosl1⟩) (xco1 : PySem.W.codeIn K (.ref Xcda1) "UnknownName.__init__" = true) (xlk1 : K.lookup Xcda1 = some ⟨Xccl1, Xcdd1, .fields Xvs1, Xccs1⟩) (xvf1 : Xvs1[2]? = some (.str Xfile1 Xtf1)) (xpf1 : ((P.main.file : Str) == Xfile1) = true) (xll1 : K.lookup Xcc1 = some ⟨Xcl1, Xcld1, .cell (some (.ref C1)), Xcsl1⟩) (xtp1 : (P.main.scope.names.lookup ("super" : Str)).isSome = false) (xgl1 : PySem.W.nsIn K mainGlobals "super" = some none) (xsu1 : PySem.W.ks_superIn K C1 C1 "__init__" = some (some (.builtin "ValueError.__init__"))) (xsb1 : PySem.W.subIn K (.ref C1) (.type "ValueError") = some true) (xmr1 : PySem.W.mroIn K C1 (.ref C1) = some true) (xst1 : PySem.W.nsIn K PySem.cStatics "thirdparty.any" = some none) (xno1 : PySem.W.findIn K (.ref C1) "name" = some none)
    (hg1 : PySem.W.findIn K (.ref C1) "__getattribute__" = some (some (.builtin "BaseException.__getattribute__"))) (hk1 : PySem.W.findIn K (.ref C1) "__getattr__" = some none) (hs1 : PySem.W.subIn K (.ref C1) (.type "BaseException") = some true) (hd1 : PySem.W.hasDictIn K C1 = true) (ha1 : PySem.W.findIn K (.ref C1) "__class__" = some (some (.builtin "object.__class__"))) (hn1 : PySem.W.specialIn K (.builtin "object.__class__") "__get__" = some (some (.builtin "getset_descriptor.__get__"))) (ht1 : PySem.W.takesIn K (.builtin "object.__class__") = some true) (hm1 : PySem.W.mroIn K C1 (.type "object") = some true)
    (su1_0 : PySem.W.subIn K (.ref C1) (.ref C0) = some true) (ne1_0 : (Value.ref C1 == Value.ref C0) = false)
    (su1_1 : PySem.W.subIn K (.ref C1) (.ref C1) = some true) (ne1_1 : (Value.ref C1 == Value.ref C1) = true)
    {pd0 : Addr} {es0 : Array DictEntry} {nd0 : Nat} {td0_0 : Tok} {td0_1 : Tok} {td0_2 : Tok} {td0_3 : Tok} {td0_4 : Tok} {td0_5 : Tok} {td0_6 : Tok} {td0_7 : Tok} {td0_8 : Tok} (co0 : PySem.W.nsIn K mainGlobals "_FIRST_PART" = some (some (.ref pd0))) (cl0 : K.lookup pd0 = some ⟨.type "dict", none, .dict es0 nd0, #[]⟩) (ck0 : PySem.W.KeysLit w.params es0.toList) (cx0 : (pd0 == sysModules) = false) (cy0_0 : PySem.W.nsIn K pd0 "var" = some (some (.int 2 td0_0))) (cy0_1 : PySem.W.nsIn K pd0 "num" = some (some (.int 2 td0_1))) (cy0_2 : PySem.W.nsIn K pd0 "op" = some (some (.int 2 td0_2))) (cy0_3 : PySem.W.nsIn K pd0 "lam" = some (some (.int 3 td0_3))) (cy0_4 : PySem.W.nsIn K pd0 "app" = some (some (.int 1 td0_4))) (cy0_5 : PySem.W.nsIn K pd0 "box" = some (some (.int 1 td0_5))) (cy0_6 : PySem.W.nsIn K pd0 "let" = some (some (.int 2 td0_6))) (cy0_7 : PySem.W.nsIn K pd0 "pair" = some (some (.int 1 td0_7))) (cy0_8 : PySem.W.nsIn K pd0 "split" = some (some (.int 3 td0_8))) 
    {pd1 : Addr} {es1 : Array DictEntry} {nd1 : Nat} {td1_0 : Tok} {td1_1 : Tok} {td1_2 : Tok} (co1 : PySem.W.nsIn K mainGlobals "_NAMES_BOUND" = some (some (.ref pd1))) (cl1 : K.lookup pd1 = some ⟨.type "dict", none, .dict es1 nd1, #[]⟩) (ck1 : PySem.W.KeysLit w.params es1.toList) (cx1 : (pd1 == sysModules) = false) (cy1_0 : PySem.W.nsIn K pd1 "lam" = some (some (.int 1 td1_0))) (cy1_1 : PySem.W.nsIn K pd1 "let" = some (some (.int 1 td1_1))) (cy1_2 : PySem.W.nsIn K pd1 "split" = some (some (.int 2 td1_2))) (cn1_0 : PySem.W.nsIn K pd1 "var" = some none) (cn1_1 : PySem.W.nsIn K pd1 "num" = some none) (cn1_2 : PySem.W.nsIn K pd1 "op" = some none) (cn1_3 : PySem.W.nsIn K pd1 "app" = some none) (cn1_4 : PySem.W.nsIn K pd1 "box" = some none) (cn1_5 : PySem.W.nsIn K pd1 "pair" = some none)
    (z0 : PySem.W.nsIn K mainGlobals "abs" = some none)
    (z1 : PySem.W.nsIn K mainGlobals "dict" = some none)
    (z2 : PySem.W.nsIn K mainGlobals "int" = some none)
    (z3 : PySem.W.nsIn K mainGlobals "isinstance" = some none)
    (z4 : PySem.W.nsIn K mainGlobals "len" = some none)
    (z5 : PySem.W.nsIn K mainGlobals "list" = some none)
    (z6 : PySem.W.nsIn K mainGlobals "range" = some none)
    (z7 : PySem.W.nsIn K mainGlobals "reversed" = some none)
    (z8 : PySem.W.nsIn K mainGlobals "set" = some none)
    (z9 : PySem.W.nsIn K mainGlobals "sorted" = some none)
    (z10 : PySem.W.nsIn K mainGlobals "super" = some none)
    (z11 : PySem.W.nsIn K mainGlobals "tuple" = some none)
    (z12 : PySem.W.nsIn K mainGlobals "zip" = some none)
    : Nonempty (Tx P w K mg) :=
  ⟨{
    aC_Linker := I0, cls_Linker := ⟨ip0, ih0, io0, is0⟩
    gC_Linker := PySem.W.mg_of X G ia0, mkB_Linker := ⟨jm0, ji0, jt0, jk0⟩
    aC_Walk := I1, cls_Walk := ⟨ip1, ih1, io1, is1⟩
    na_Walk_results := in1_0
    na_Walk_visitor := in1_1
    na_Walk_waiting := in1_2
    a_parts_of := f0, fd_parts_of := _, F_parts_of := fun_mk (st := s_parts_of) l0 c0 k0, b_parts_of := (fun_mk (st := s_parts_of) l0 c0 k0).binds (ps := ["term"]) (fun _ _ _ _ _ _ us hl => match us, hl with | [_], _ => rfl), g_parts_of := PySem.W.mg_of X G a0_0
    a_with_parts := f1, fd_with_parts := _, F_with_parts := fun_mk (st := s_with_parts) l1 c1 k1, b_with_parts := (fun_mk (st := s_with_parts) l1 c1 k1).binds (ps := ["term", "parts"]) (fun _ _ _ _ _ _ us hl => match us, hl with | [_, _], _ => rfl), g_with_parts := PySem.W.mg_of X G a1_0
    a_bound_names := f2, fd_bound_names := _, F_bound_names := fun_mk (st := s_bound_names) l2 c2 k2, b_bound_names := (fun_mk (st := s_bound_names) l2 c2 k2).binds (ps := ["term"]) (fun _ _ _ _ _ _ us hl => match us, hl with | [_], _ => rfl), g_bound_names := PySem.W.mg_of X G a2_0
    a_free_names := f3, fd_free_names := _, F_free_names := fun_mk (st := s_free_names) l3 c3 k3, b_free_names := (fun_mk (st := s_free_names) l3 c3 k3).binds (ps := ["term"]) (fun _ _ _ _ _ _ us hl => match us, hl with | [_], _ => rfl), g_free_names := PySem.W.mg_of X G a3_0
    a__scoped_parts := f4, fd__scoped_parts := _, F__scoped_parts := fun_mk (st := s__scoped_parts) l4 c4 k4, b__scoped_parts := (fun_mk (st := s__scoped_parts) l4 c4 k4).binds (ps := ["node", "bound"]) (fun _ _ _ _ _ _ us hl => match us, hl with | [_, _], _ => rfl), g__scoped_parts := PySem.W.mg_of X G a4_0
    a_walked := f5, fd_walked := _, F_walked := fun_mk (st := s_walked) l5 c5 k5, b_walked := (fun_mk (st := s_walked) l5 c5 k5).binds (ps := ["term", "names", "visitor"]) (fun _ _ _ _ _ _ us hl => match us, hl with | [_, _, _], _ => rfl), g_walked := PySem.W.mg_of X G a5_0
    a_Walk___init__ := f6, fd_Walk___init__ := _, F_Walk___init__ := fun_mk (st := s_Walk___init__) l6 c6 k6, b_Walk___init__ := (fun_mk (st := s_Walk___init__) l6 c6 k6).binds (ps := ["self", "visitor"]) (fun _ _ _ _ _ _ us hl => match us, hl with | [_, _], _ => rfl)
    gC_Walk := PySem.W.mg_of X G ia1, mk_Walk := ⟨im1, a6, e6, ik1⟩
    a_Walk_enter := f7, fd_Walk_enter := _, F_Walk_enter := fun_mk (st := s_Walk_enter) l7 c7 k7, b_Walk_enter := (fun_mk (st := s_Walk_enter) l7 c7 k7).binds (ps := ["self", "node", "names", "level"]) (fun _ _ _ _ _ _ us hl => match us, hl with | [_, _, _, _], _ => rfl)
    m_Walk_enter := ⟨a7, e7, k7⟩
    a_Walk_bind := f8, fd_Walk_bind := _, F_Walk_bind := fun_mk (st := s_Walk_bind) l8 c8 k8, b_Walk_bind := (fun_mk (st := s_Walk_bind) l8 c8 k8).binds (ps := ["self", "node", "names", "level"]) (fun _ _ _ _ _ _ us hl => match us, hl with | [_, _, _, _], _ => rfl)
    m_Walk_bind := ⟨a8, e8, k8⟩
    a_Walk_leave := f9, fd_Walk_leave := _, F_Walk_leave := fun_mk (st := s_Walk_leave) l9 c9 k9, b_Walk_leave := (fun_mk (st := s_Walk_leave) l9 c9 k9).binds (ps := ["self", "node", "meanings", "level"]) (fun _ _ _ _ _ _ us hl => match us, hl with | [_, _, _, _], _ => rfl)
    m_Walk_leave := ⟨a9, e9, k9⟩
    a_Walk_await_parts := f10, fd_Walk_await_parts := _, F_Walk_await_parts := fun_mk (st := s_Walk_await_parts) l10 c10 k10, b_Walk_await_parts := (fun_mk (st := s_Walk_await_parts) l10 c10 k10).binds (ps := ["self", "parts", "names", "level"]) (fun _ _ _ _ _ _ us hl => match us, hl with | [_, _, _, _], _ => rfl)
    m_Walk_await_parts := ⟨a10, e10, k10⟩
    a_linked := f11, fd_linked := _, F_linked := fun_mk (st := s_linked) l11 c11 k11, b_linked := (fun_mk (st := s_linked) l11 c11 k11).binds (ps := ["program", "name"]) (fun _ _ _ _ _ _ us hl => match us, hl with | [_, _], _ => rfl), g_linked := PySem.W.mg_of X G a11_0
    a__refuse_unknown := f12, fd__refuse_unknown := _, F__refuse_unknown := fun_mk (st := s__refuse_unknown) l12 c12 k12, b__refuse_unknown := (fun_mk (st := s__refuse_unknown) l12 c12 k12).binds (ps := ["program"]) (fun _ _ _ _ _ _ us hl => match us, hl with | [_], _ => rfl), g__refuse_unknown := PySem.W.mg_of X G a12_0
    a_Linker_bound := f13, fd_Linker_bound := _, F_Linker_bound := fun_mk (st := s_Linker_bound) l13 c13 k13, b_Linker_bound := (fun_mk (st := s_Linker_bound) l13 c13 k13).binds (ps := ["self", "node", "part", "level"]) (fun _ _ _ _ _ _ us hl => match us, hl with | [_, _, _, _], _ => rfl)
    m_Linker_bound := ⟨a13, e13, k13⟩
    a_Linker_used := f14, fd_Linker_used := _, F_Linker_used := fun_mk (st := s_Linker_used) l14 c14 k14, b_Linker_used := (fun_mk (st := s_Linker_used) l14 c14 k14).binds (ps := ["self", "meaning", "level"]) (fun _ _ _ _ _ _ us hl => match us, hl with | [_, _, _], _ => rfl)
    m_Linker_used := ⟨a14, e14, k14⟩
    a_Linker_made := f15, fd_Linker_made := _, F_Linker_made := fun_mk (st := s_Linker_made) l15 c15 k15, b_Linker_made := (fun_mk (st := s_Linker_made) l15 c15 k15).binds (ps := ["self", "node", "level", "meanings", "parts"]) (fun _ _ _ _ _ _ us hl => match us, hl with | [_, _, _, _, _], _ => rfl)
    m_Linker_made := ⟨a15, e15, k15⟩
    a__law_cell := f16, fd__law_cell := _, F__law_cell := fun_mk (st := s__law_cell) l16 c16 k16, b__law_cell := (fun_mk (st := s__law_cell) l16 c16 k16).binds (ps := ["script", "k"]) (fun _ _ _ _ _ _ us hl => match us, hl with | [_, _], _ => rfl), g__law_cell := PySem.W.mg_of X G a16_0
    a__law_numbers := f17, fd__law_numbers := _, F__law_numbers := fun_mk (st := s__law_numbers) l17 c17 k17, b__law_numbers := (fun_mk (st := s__law_numbers) l17 c17 k17).binds (ps := ["script", "first", "most"]) (fun _ _ _ _ _ _ us hl => match us, hl with | [_, _, _], _ => rfl), g__law_numbers := PySem.W.mg_of X G a17_0
    a__law_any_kind := f18, fd__law_any_kind := _, F__law_any_kind := fun_mk (st := s__law_any_kind) l18 c18 k18, b__law_any_kind := (fun_mk (st := s__law_any_kind) l18 c18 k18).binds (ps := ["number", "deep"]) (fun _ _ _ _ _ _ us hl => match us, hl with | [_, _], _ => rfl), g__law_any_kind := PySem.W.mg_of X G a18_0
    a__law_pop := f19, fd__law_pop := _, F__law_pop := fun_mk (st := s__law_pop) l19 c19 k19, b__law_pop := (fun_mk (st := s__law_pop) l19 c19 k19).binds (ps := ["stack", "other"]) (fun _ _ _ _ _ _ us hl => match us, hl with | [_, _], _ => rfl), g__law_pop := PySem.W.mg_of X G a19_0
    a__law_any_term := f20, fd__law_any_term := _, F__law_any_term := fun_mk (st := s__law_any_term) l20 c20 k20, b__law_any_term := (fun_mk (st := s__law_any_term) l20 c20 k20).binds (ps := ["numbers", "names"]) (fun _ _ _ _ _ _ us hl => match us, hl with | [_, _], _ => rfl), g__law_any_term := PySem.W.mg_of X G a20_0
    a__law_parts := f21, fd__law_parts := _, F__law_parts := fun_mk (st := s__law_parts) l21 c21 k21, b__law_parts := (fun_mk (st := s__law_parts) l21 c21 k21).binds (ps := ["term"]) (fun _ _ _ _ _ _ us hl => match us, hl with | [_], _ => rfl), g__law_parts := PySem.W.mg_of X G a21_0
    a__law_free := f22, fd__law_free := _, F__law_free := fun_mk (st := s__law_free) l22 c22 k22, b__law_free := (fun_mk (st := s__law_free) l22 c22 k22).binds (ps := ["term", "bound"]) (fun _ _ _ _ _ _ us hl => match us, hl with | [_, _], _ => rfl), g__law_free := PySem.W.mg_of X G a22_0
    a__law_put := f23, fd__law_put := _, F__law_put := fun_mk (st := s__law_put) l23 c23 k23, b__law_put := (fun_mk (st := s__law_put) l23 c23 k23).binds (ps := ["term", "known", "bound"]) (fun _ _ _ _ _ _ us hl => match us, hl with | [_, _, _], _ => rfl), g__law_put := PySem.W.mg_of X G a23_0
    a_law := f24, fd_law := _, F_law := fun_mk (st := s_law) l24 c24 k24, b_law := (fun_mk (st := s_law) l24 c24 k24).binds (ps := ["script"]) (fun _ _ _ _ _ _ us hl => match us, hl with | [_], _ => rfl), g_law := PySem.W.mg_of X G a24_0
    aC_SharenetError := C0, gC_SharenetError := PySem.W.mg_of X G ga0
    aC_UnknownName := C1, gC_UnknownName := PySem.W.mg_of X G ga1
    ai_UnknownName := Xf1, sp_UnknownName := sup_mk shape_UnknownName xlf1 xco1 xlk1 xvf1 xpf1 xll1 xtp1 xgl1 ⟨⟨_, _, _, _, _, _, _, _, _, _, _, _, _, _, _, xlc1, xrv1⟩, xsa1, gb1, gt1, xkc1⟩ xin1 xty1 xsu1 xsb1 xmr1 xst1 xno1
    ec_UnknownName := ⟨hg1, hk1, hs1, hd1, ha1, hn1, ht1, hm1⟩
    xm_UnknownName_SharenetError := exm_of gb0 gt0 (some_is gc0) su1_0
    is_UnknownName_UnknownName := kit_me
    p__FIRST_PART := pd0, gk__FIRST_PART := PySem.W.mg_of X G co0, t__FIRST_PART := ⟨⟨es0, nd0, cl0, ck0⟩, cx0, (.cons cy0_0 (Sk.int _ _) (.cons cy0_1 (Sk.int _ _) (.cons cy0_2 (Sk.int _ _) (.cons cy0_3 (Sk.int _ _) (.cons cy0_4 (Sk.int _ _) (.cons cy0_5 (Sk.int _ _) (.cons cy0_6 (Sk.int _ _) (.cons cy0_7 (Sk.int _ _) (.cons cy0_8 (Sk.int _ _) .nil))))))))), .nil⟩
    p__NAMES_BOUND := pd1, gk__NAMES_BOUND := PySem.W.mg_of X G co1, t__NAMES_BOUND := ⟨⟨es1, nd1, cl1, ck1⟩, cx1, (.cons cy1_0 (Sk.int _ _) (.cons cy1_1 (Sk.int _ _) (.cons cy1_2 (Sk.int _ _) .nil))), (.cons cn1_0 (.cons cn1_1 (.cons cn1_2 (.cons cn1_3 (.cons cn1_4 (.cons cn1_5 .nil))))))⟩
    m_abs := PySem.W.mg_none_of X G z0
    m_dict := PySem.W.mg_none_of X G z1
    m_int := PySem.W.mg_none_of X G z2
    m_isinstance := PySem.W.mg_none_of X G z3
    m_len := PySem.W.mg_none_of X G z4
    m_list := PySem.W.mg_none_of X G z5
    m_range := PySem.W.mg_none_of X G z6
    m_reversed := PySem.W.mg_none_of X G z7
    m_set := PySem.W.mg_none_of X G z8
    m_sorted := PySem.W.mg_none_of X G z9
    m_super := PySem.W.mg_none_of X G z10
    m_tuple := PySem.W.mg_none_of X G z11
    m_zip := PySem.W.mg_none_of X G z12 }⟩
theorem fin_mk {P : Program} {w : World} {K : PySem.W.Frag} {mg : Str → Option Value} {fa : Addr} (hfa : mg "law" = some (.ref fa)) (T : Tx P w K mg) :
    ∃ fd : FuncData, (∀ (s : Shared) (v : Value), BindsTo s fd ⟨[v], []⟩ [("script", v)]) ∧ ∀ base : Heap, K.In base → base.Ns mainGlobals mg → FnOk P w K mg base CX0 lawK fa fd ["script"] (lSp K spLaw) := by
  have e := hfa.symm.trans T.g_law
  cases e
  refine ⟨T.fd_law, fun s v => ?_, fun base _ _ => ok_law T⟩
  obtain ⟨oc, od, kV, doc, pm, an, cdv, ct, osl, e, _, _⟩ := T.F_law.ex
  rw [e]
  exact .of_eq rfl
end Lw
open PySem PySem.W PyProof.Rows
set_option maxHeartbeats 0 in
theorem PySem.Challenge.cw_sharenet_k09_linking_holds : PySem.Challenge.rw_sharenet_k09_linking.Holds := by
  w_on; o_law; k_head; (case hw => w_witness2)
  k_fill
  refine L2.walk_of (l := PySem.Challenge.rw_sharenet_k09_linking) (n := 63) (k := Lw.lawK) (x := "script") (CX := fun _ => L2.CX0) (sp := fun w => Wl.lSp _ Lw.spLaw) rfl (by decide) rfl ⟨rfl, by decide, by decide⟩ (fun w h Y => PySem.W.kIn_of Y) ?F
    (fun w H a ns hl ho hS => Wl.hspW Lw.law_sp _ H a ns hl ho hS) (fun _ _ _ _ _ h => h)
  case F =>
    intro w mg fa h KX G hmg
    refine Nonempty.elim ?mk (Lw.fin_mk hmg)
    refine' Lw.all_mk KX G ?ia0 ?ip0 ?ih0 ?io0 ?is0 ?jm0 ?jk0 ?ji0 ?jt0 ?ia1 ?ip1 ?ih1 ?io1 ?is1 ?im1 ?ik1 ?in1_0 ?in1_1 ?in1_2 ?a0_0 ?l0 ?c0 ?k0 ?a1_0 ?l1 ?c1 ?k1 ?a2_0 ?l2 ?c2 ?k2 ?a3_0 ?l3 ?c3 ?k3 ?a4_0 ?l4 ?c4 ?k4 ?a5_0 ?l5 ?c5 ?k5 ?a6 ?l6 ?c6 ?k6 ?e6 ?a7 ?l7 ?c7 ?k7 ?e7 ?a8 ?l8 ?c8 ?k8 ?e8 ?a9 ?l9 ?c9 ?k9 ?e9 ?a10 ?l10 ?c10 ?k10 ?e10 ?a11_0 ?l11 ?c11 ?k11 ?a12_0 ?l12 ?c12 ?k12 ?a13 ?l13 ?c13 ?k13 ?e13 ?a14 ?l14 ?c14 ?k14 ?e14 ?a15 ?l15 ?c15 ?k15 ?e15 ?a16_0 ?l16 ?c16 ?k16 ?a17_0 ?l17 ?c17 ?k17 ?a18_0 ?l18 ?c18 ?k18 ?a19_0 ?l19 ?c19 ?k19 ?a20_0 ?l20 ?c20 ?k20 ?a21_0 ?l21 ?c21 ?k21 ?a22_0 ?l22 ?c22 ?k22 ?a23_0 ?l23 ?c23 ?k23 ?a24_0 ?l24 ?c24 ?k24 ?ga0 ?gb0 ?gt0 ?gc0 ?ga1 ?gb1 ?gt1 ?gc1 ?xlc1 ?xrv1 ?xsa1 ?xkc1 ?xin1 ?xty1 ?xlf1 ?xco1 ?xlk1 ?xvf1 ?xpf1 ?xll1 ?xtp1 ?xgl1 ?xsu1 ?xsb1 ?xmr1 ?xst1 ?xno1 ?hg1 ?hk1 ?hs1 ?hd1 ?ha1 ?hn1 ?ht1 ?hm1 ?su1_0 ?ne1_0 ?su1_1 ?ne1_1 ?co0 ?cl0 ?ck0 ?cx0 ?cy0_0 ?cy0_1 ?cy0_2 ?cy0_3 ?cy0_4 ?cy0_5 ?cy0_6 ?cy0_7 ?cy0_8 ?co1 ?cl1 ?ck1 ?cx1 ?cy1_0 ?cy1_1 ?cy1_2 ?cn1_0 ?cn1_1 ?cn1_2 ?cn1_3 ?cn1_4 ?cn1_5 ?z0 ?z1 ?z2 ?z3 ?z4 ?z5 ?z6 ?z7 ?z8 ?z9 ?z10 ?z11 ?z12
    ((case ia0 => k_is); (case ip0 => k_is); (case ih0 => k_is); (case io0 => k_is); (case is0 => k_is); (case jm0 => k_is); (case jk0 => k_is); (case ji0 => k_is); (case jt0 => k_is); (case ia1 => k_is); (case ip1 => k_is); (case ih1 => k_is); (case io1 => k_is); (case is1 => k_is); (case im1 => k_is); (case ik1 => k_is); (case in1_0 => k_is); (case in1_1 => k_is); (case in1_2 => k_is); (case a0_0 => k_is); (case l0 => k_is); (case c0 => k_is); (case k0 => k_is); (case a1_0 => k_is); (case l1 => k_is); (case c1 => k_is); (case k1 => k_is); (case a2_0 => k_is); (case l2 => k_is); (case c2 => k_is); (case k2 => k_is); (case a3_0 => k_is); (case l3 => k_is); (case c3 => k_is); (case k3 => k_is); (case a4_0 => k_is); (case l4 => k_is); (case c4 => k_is); (case k4 => k_is); (case a5_0 => k_is); (case l5 => k_is); (case c5 => k_is); (case k5 => k_is); (case a6 => k_is); (case l6 => k_is); (case c6 => k_is); (case k6 => k_is); (case e6 => k_is); (case a7 => k_is); (case l7 => k_is); (case c7 => k_is); (case k7 => k_is); (case e7 => k_is); (case a8 => k_is); (case l8 => k_is); (case c8 => k_is); (case k8 => k_is); (case e8 => k_is); (case a9 => k_is); (case l9 => k_is); (case c9 => k_is); (case k9 => k_is); (case e9 => k_is); (case a10 => k_is); (case l10 => k_is); (case c10 => k_is); (case k10 => k_is); (case e10 => k_is); (case a11_0 => k_is); (case l11 => k_is); (case c11 => k_is); (case k11 => k_is); (case a12_0 => k_is); (case l12 => k_is); (case c12 => k_is); (case k12 => k_is); (case a13 => k_is); (case l13 => k_is); (case c13 => k_is); (case k13 => k_is); (case e13 => k_is); (case a14 => k_is); (case l14 => k_is); (case c14 => k_is); (case k14 => k_is); (case e14 => k_is); (case a15 => k_is); (case l15 => k_is); (case c15 => k_is); (case k15 => k_is); (case e15 => k_is); (case a16_0 => k_is); (case l16 => k_is); (case c16 => k_is); (case k16 => k_is); (case a17_0 => k_is); (case l17 => k_is); (case c17 => k_is); (case k17 => k_is); (case a18_0 => k_is); (case l18 => k_is); (case c18 => k_is); (case k18 => k_is); (case a19_0 => k_is); (case l19 => k_is); (case c19 => k_is); (case k19 => k_is); (case a20_0 => k_is); (case l20 => k_is); (case c20 => k_is); (case k20 => k_is); (case a21_0 => k_is); (case l21 => k_is); (case c21 => k_is); (case k21 => k_is); (case a22_0 => k_is); (case l22 => k_is); (case c22 => k_is); (case k22 => k_is); (case a23_0 => k_is); (case l23 => k_is); (case c23 => k_is); (case k23 => k_is); (case a24_0 => k_is); (case l24 => k_is); (case c24 => k_is); (case k24 => k_is); (case ga0 => k_is); (case gb0 => k_is); (case gt0 => k_is); (case gc0 => k_is); (case ga1 => k_is); (case gb1 => k_is); (case gt1 => k_is); (case gc1 => k_is); (case xlc1 => k_is); (case xrv1 => rfl); (case xsa1 => k_is); (case xkc1 => k_is); (case xin1 => k_is); (case xty1 => k_is); (case xlf1 => k_is); (case xco1 => k_is); (case xlk1 => k_is); (case xvf1 => rfl); (case xpf1 => rfl); (case xll1 => k_is); (case xtp1 => rfl); (case xgl1 => k_is); (case xsu1 => (first | k_is | rfl)); (case xsb1 => (first | k_is | rfl)); (case xmr1 => (first | k_is | rfl)); (case xst1 => (first | k_is | rfl)); (case xno1 => k_is); (case hg1 => k_is); (case hk1 => k_is); (case hs1 => k_is); (case hd1 => k_is); (case ha1 => k_is); (case hn1 => k_is); (case ht1 => k_is); (case hm1 => k_is); (case su1_0 => k_is); (case ne1_0 => rfl); (case su1_1 => k_is); (case ne1_1 => rfl); (case co0 => k_is); (case cl0 => k_is); (case ck0 => (repeat (first | exact trivial | refine ⟨⟨_, _, rfl, rfl⟩, ?_⟩))); (case cx0 => rfl); (case cy0_0 => k_is); (case cy0_1 => k_is); (case cy0_2 => k_is); (case cy0_3 => k_is); (case cy0_4 => k_is); (case cy0_5 => k_is); (case cy0_6 => k_is); (case cy0_7 => k_is); (case cy0_8 => k_is); (case co1 => k_is); (case cl1 => k_is); (case ck1 => (repeat (first | exact trivial | refine ⟨⟨_, _, rfl, rfl⟩, ?_⟩))); (case cx1 => rfl); (case cy1_0 => k_is); (case cy1_1 => k_is); (case cy1_2 => k_is); (case cn1_0 => k_is); (case cn1_1 => k_is); (case cn1_2 => k_is); (case cn1_3 => k_is); (case cn1_4 => k_is); (case cn1_5 => k_is); (case z0 => k_is); (case z1 => k_is); (case z2 => k_is); (case z3 => k_is); (case z4 => k_is); (case z5 => k_is); (case z6 => k_is); (case z7 => k_is); (case z8 => k_is); (case z9 => k_is); (case z10 => k_is); (case z11 => k_is); (case z12 => k_is))
