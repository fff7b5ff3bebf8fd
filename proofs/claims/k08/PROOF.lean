import PyProof.Rows.All
import Wide.All
import OpenK.AllK
import Wide.FinOn
import HandS.ForMost
import HandS.Flow
import HandS.Style
import HandS.Rev
import HandS.FStr
import HandS.IsInst
import HandS.CallLocal
import HandS.AnyAll
import HandS.WrittenGet
import HandS.ListItems
import HandS.SetKeys
import HandS.Evl
import HandS.ForExc
import HandS.Small
import HandS.RaiseMore
import HandS.ExcIs
import HandS.Conv
import HandS.WordsDict
import HandS.Star
import HandS.StrMore
import HandS.WideBits
import HandS.Text
import KE.KIntText
import HandS.RevTup
import KE.KExcSuper
import KE.KExcIs
import HandS.ExcInit
import HandS.ExcField
import HandS.Nested
import HandS.Replace
import HandS.Ends
import PySem.Challenge.RW_sharenet_k08_program_texts
set_option Elab.async false
set_option linter.all false
set_option maxRecDepth 100000
namespace Wl
open PySem PySem.Spec PyProof.Rows L2
/-! ## values with tuples (and lists that nobody writes any more) as trees -/
inductive W where
  | non | bl (b : Bool) | int (i : Int) | str (s : List Nat) | tup (ws : List W) | lst (ws : List W) | scr (ws : List W)
  | dic (kws : List (L2.Key × W)) | ref (a : Addr) | ty (n : String)
def mkS (l : List Nat) : Str := ⟨l.toArray⟩
/-- what is owned: it may be written -/
inductive OW where
  | lst (ws : List W) | dic (kws : List (L2.Key × W)) | ins (C : Addr) (fs : List (Str × W)) | raw (u : HO)
abbrev HW := Addr → Option OW
def updW (h : HW) (a : Addr) (o : OW) : HW := fun b => if b = a then some o else h b
theorem updW_same {h : HW} {a : Addr} {o : OW} : updW h a o a = some o := if_pos rfl
theorem updW_ne {h : HW} {a b : Addr} {o : OW} (e : b ≠ a) : updW h a o b = h b := if_neg e
theorem updW_upd {h : HW} {a : Addr} {o u : OW} : updW (updW h a o) a u = updW h a u := by
  funext b; unfold updW; split <;> rfl
def delW (h : HW) (a : Addr) : HW := fun b => if b = a then none else h b
theorem delW_same {h : HW} {a : Addr} : delW h a a = none := if_pos rfl
theorem delW_ne {h : HW} {a b : Addr} (e : b ≠ a) : delW h a b = h b := if_neg e
def Sub (h h' : HW) : Prop := ∀ a o, h a = some o → h' a = some o
theorem Sub.refl (h : HW) : Sub h h := fun _ _ e => e
theorem Sub.trans {h h1 h2 : HW} (a : Sub h h1) (b : Sub h1 h2) : Sub h h2 := fun x o e => b x o (a x o e)
theorem Sub.new {h : HW} {p : Addr} {o : OW} (e : h p = none) : Sub h (updW h p o) := fun a u q => by
  rw [updW_ne (fun z => by rw [z, e] at q; cases q)]; exact q
theorem Sub.none {h h' : HW} {a : Addr} (s : Sub h h') (e : h' a = none) : h a = none := by
  cases q : h a with
  | none => rfl
  | some o => rw [s a o q] at e; cases e
/-- an object that is not owned stays as it is -/
def ST (H : Hp) (h : HW) (H' : Hp) (h' : HW) : Prop := ∀ a o, H a = some o → h a = none → H' a = some o ∧ h' a = none
theorem ST.refl (H : Hp) (h : HW) : ST H h H h := fun _ _ a b => ⟨a, b⟩
theorem ST.trans {H H1 H2 : Hp} {h h1 h2 : HW} (a : ST H h H1 h1) (b : ST H1 h1 H2 h2) : ST H h H2 h2 := fun x o e n => b x o (a x o e n).1 (a x o e n).2
theorem ST.drop {H : Hp} {h h0 : HW} (s : Sub h0 h) : ST H h H h0 := fun x o e n => ⟨e, s.none n⟩
/-- a list, a tuple that stays -/
def FzL (H : Hp) (h : HW) (a : Addr) (vs : List V) : Prop := H a = some (.lst vs) ∧ h a = none
def FzS (K : PySem.W.Frag) (H : Hp) (h : HW) (a : Addr) (vs : List V) : Prop :=
  ((∃ o, H a = some (.frz o (.lst vs))) ∧ h a = none) ∨
    ∃ (o : Obj) (its : Array Value) (n : Nat), K.lookup a = some o ∧ o.cls = .type "list" ∧ o.dict = none ∧ o.data = .seq its n ∧ its.size ≤ sizeLine ∧ Vals vs its.toList
def FzT (K : PySem.W.Frag) (H : Hp) (h : HW) (a : Addr) (vs : List V) : Prop :=
  (Rd H a (.tup vs) ∧ h a = none) ∨
    ∃ (o : Obj) (its : Array Value) (n : Nat), K.lookup a = some o ∧ o.cls = .type "tuple" ∧ o.data = .seq its n ∧ its.size ≤ sizeLine ∧ Vals vs its.toList
def FzD (H : Hp) (h : HW) (a : Addr) (kvs : List (L2.Key × V)) : Prop := H a = some (.dK kvs) ∧ h a = none
section
variable {K : PySem.W.Frag} {H H' : Hp} {h h' : HW} {a : Addr} {vs : List V}
theorem FzL.mono (x : FzL H h a vs) (s : ST H h H' h') : FzL H' h' a vs := s a _ x.1 x.2
theorem FzD.mono {kvs : List (L2.Key × V)} (x : FzD H h a kvs) (s : ST H h H' h') : FzD H' h' a kvs := s a _ x.1 x.2
theorem FzS.mono (x : FzS K H h a vs) (s : ST H h H' h') : FzS K H' h' a vs := by
  rcases x with ⟨⟨o, e⟩, n⟩ | x
  · exact .inl ⟨⟨o, (s a _ e n).1⟩, (s a _ e n).2⟩
  · exact .inr x
theorem FzT.mono (x : FzT K H h a vs) (s : ST H h H' h') : FzT K H' h' a vs := by
  rcases x with ⟨e | ⟨o, e⟩, n⟩ | x
  · exact .inl ⟨.inl (s a _ e n).1, (s a _ e n).2⟩
  · exact .inl ⟨.inr ⟨o, (s a _ e n).1⟩, (s a _ e n).2⟩
  · exact .inr x
theorem FzL.sq (x : FzL H h a vs) : SqL K H a vs := .inl (.inl x.1)
theorem FzS.sq (x : FzS K H h a vs) : SqL K H a vs := by
  rcases x with ⟨⟨o, e⟩, _⟩ | x
  · exact .inl (.inr ⟨o, e⟩)
  · exact .inr x
theorem FzT.sq (x : FzT K H h a vs) : SqT K H a vs := by
  rcases x with ⟨e, _⟩ | x
  · exact .inl e
  · exact .inr x
end
/-! ## what a value stands for -/
mutual
inductive RW (K : PySem.W.Frag) (H : Hp) (h : HW) : V → W → Prop
  | non : RW K H h .non .non
  | bl (b : Bool) : RW K H h (.bl b) (.bl b)
  | int (i : Int) : RW K H h (.int i) (.int i)
  | str (s : List Nat) : RW K H h (.str (mkS s)) (.str s)
  | ty (n : String) : RW K H h (.ty n) (.ty n)
  | ref (a : Addr) : RW K H h (.ref a) (.ref a)
  | tup {a : Addr} {vs : List V} {ws : List W} (f : FzT K H h a vs) (r : RWs K H h vs ws) : RW K H h (.ref a) (.tup ws)
  | lst {a : Addr} {vs : List V} {ws : List W} (f : FzL H h a vs) (r : RWs K H h vs ws) : RW K H h (.ref a) (.lst ws)
  | scr {a : Addr} {vs : List V} {ws : List W} (f : FzS K H h a vs) (r : RWs K H h vs ws) : RW K H h (.ref a) (.scr ws)
  | dic {a : Addr} {kvs : List (L2.Key × V)} {kws : List (L2.Key × W)} (f : FzD H h a kvs) (r : RKs K H h kvs kws) : RW K H h (.ref a) (.dic kws)
inductive RWs (K : PySem.W.Frag) (H : Hp) (h : HW) : List V → List W → Prop
  | nil : RWs K H h [] []
  | cons {v : V} {w : W} {vs : List V} {ws : List W} (r : RW K H h v w) (t : RWs K H h vs ws) : RWs K H h (v :: vs) (w :: ws)
inductive RKs (K : PySem.W.Frag) (H : Hp) (h : HW) : List (L2.Key × V) → List (L2.Key × W) → Prop
  | nil : RKs K H h [] []
  | cons {k : L2.Key} {v : V} {w : W} {vs : List (L2.Key × V)} {ws : List (L2.Key × W)} (r : RW K H h v w) (t : RKs K H h vs ws) : RKs K H h ((k, v) :: vs) ((k, w) :: ws)
end
section
variable {K : PySem.W.Frag} {H H' : Hp} {h h' : HW}
mutual
theorem RW.mono (s : ST H h H' h') : ∀ {v : V} {w : W}, RW K H h v w → RW K H' h' v w
  | _, _, .non => .non
  | _, _, .bl b => .bl b
  | _, _, .int i => .int i
  | _, _, .str x => .str x
  | _, _, .ty n => .ty n
  | _, _, .ref a => .ref a
  | _, _, .tup f r => .tup (f.mono s) (RWs.mono s r)
  | _, _, .lst f r => .lst (f.mono s) (RWs.mono s r)
  | _, _, .scr f r => .scr (f.mono s) (RWs.mono s r)
  | _, _, .dic f r => .dic (f.mono s) (RKs.mono s r)
theorem RWs.mono (s : ST H h H' h') : ∀ {vs : List V} {ws : List W}, RWs K H h vs ws → RWs K H' h' vs ws
  | _, _, .nil => .nil
  | _, _, .cons r t => .cons (RW.mono s r) (RWs.mono s t)
theorem RKs.mono (s : ST H h H' h') : ∀ {vs : List (L2.Key × V)} {ws : List (L2.Key × W)}, RKs K H h vs ws → RKs K H' h' vs ws
  | _, _, .nil => .nil
  | _, _, .cons r t => .cons (RW.mono s r) (RKs.mono s t)
end
theorem RWs.length : ∀ {vs : List V} {ws : List W}, RWs K H h vs ws → vs.length = ws.length
  | _, _, .nil => rfl
  | _, _, .cons _ t => congrArg (· + 1) (RWs.length t)
theorem RWs.get : ∀ {vs : List V} {ws : List W} {i : Nat} {w : W}, RWs K H h vs ws → ws[i]? = some w → ∃ v, vs[i]? = some v ∧ RW K H h v w
  | _, _, _, _, .nil, e => by simp at e
  | _, _, 0, _, .cons r _, e => by simp at e; subst e; exact ⟨_, rfl, r⟩
  | _, _, i + 1, w, .cons _ t, e => by
    obtain ⟨v, h1, h2⟩ := RWs.get (i := i) (w := w) t (by simpa using e)
    exact ⟨v, by simpa using h1, h2⟩
theorem RWs.getv : ∀ {vs : List V} {ws : List W} {i : Nat} {v : V}, RWs K H h vs ws → vs[i]? = some v → ∃ w, ws[i]? = some w ∧ RW K H h v w
  | _, _, _, _, .nil, e => by simp at e
  | _, _, 0, _, .cons r _, e => by simp at e; subst e; exact ⟨_, rfl, r⟩
  | _, _, i + 1, w, .cons _ t, e => by
    obtain ⟨v, h1, h2⟩ := RWs.getv (i := i) (v := w) t (by simpa using e)
    exact ⟨v, by simpa using h1, h2⟩
theorem RWs.append : ∀ {vs us : List V} {ws xs : List W}, RWs K H h vs ws → RWs K H h us xs → RWs K H h (vs ++ us) (ws ++ xs)
  | _, _, _, _, .nil, s => s
  | _, _, _, _, .cons r t, s => .cons r (RWs.append t s)
theorem RWs.drop : ∀ {vs : List V} {ws : List W} (n : Nat), RWs K H h vs ws → RWs K H h (vs.drop n) (ws.drop n)
  | _, _, 0, r => r
  | _, _, _ + 1, .nil => .nil
  | _, _, n + 1, .cons _ t => RWs.drop n t
theorem RWs.take : ∀ {vs : List V} {ws : List W} (n : Nat), RWs K H h vs ws → RWs K H h (vs.take n) (ws.take n)
  | _, _, 0, _ => .nil
  | _, _, _ + 1, .nil => .nil
  | _, _, n + 1, .cons r t => .cons r (RWs.take n t)
theorem RWs.set {v : V} {w : W} (r : RW K H h v w) : ∀ {vs : List V} {ws : List W} (i : Nat), RWs K H h vs ws → RWs K H h (vs.set i v) (ws.set i w)
  | _, _, _, .nil => .nil
  | _, _, 0, .cons _ t => .cons r t
  | _, _, i + 1, .cons q t => .cons q (RWs.set r i t)
theorem RWs.reverse : ∀ {vs : List V} {ws : List W}, RWs K H h vs ws → RWs K H h vs.reverse ws.reverse
  | _, _, .nil => .nil
  | _, _, .cons r t => by rw [List.reverse_cons, List.reverse_cons]; exact (RWs.reverse t).append (.cons r .nil)
theorem RWs.dropLast {vs : List V} {ws : List W} (t : RWs K H h vs ws) : RWs K H h vs.dropLast ws.dropLast := by
  rw [List.dropLast_eq_take, List.dropLast_eq_take, t.length]; exact t.take _
end
/-! ## the owned objects -/
inductive RFs (K : PySem.W.Frag) (H : Hp) (h : HW) : List (Str × V) → List (Str × W) → Prop
  | nil : RFs K H h [] []
  | cons {f : Str} {v : V} {w : W} {vs : List (Str × V)} {ws : List (Str × W)} (r : RW K H h v w) (t : RFs K H h vs ws) : RFs K H h ((f, v) :: vs) ((f, w) :: ws)
theorem RFs.mono {K : PySem.W.Frag} {H H' : Hp} {h h' : HW} (s : ST H h H' h') : ∀ {vs : List (Str × V)} {ws : List (Str × W)}, RFs K H h vs ws → RFs K H' h' vs ws
  | _, _, .nil => .nil
  | _, _, .cons r t => .cons (r.mono s) (RFs.mono s t)
def OR (K : PySem.W.Frag) (H : Hp) (h : HW) (a : Addr) : OW → Prop
  | .lst ws => ∃ vs, H a = some (.lst vs) ∧ RWs K H h vs ws
  | .dic kws => ∃ kvs, H a = some (.dK kvs) ∧ RKs K H h kvs kws
  | .ins C fs => ∃ dx gs, H a = some (.ins C dx gs) ∧ RFs K H h gs fs
  | .raw u => H a = some u
def HR (K : PySem.W.Frag) (H : Hp) (h : HW) : Prop := ∀ a o, h a = some o → OR K H h a o
section
variable {K : PySem.W.Frag} {H H' : Hp} {h h' : HW} {a p : Addr}
theorem HR.fresh (x : HR K H h) (e : H p = none) : h p = none := by
  cases q : h p with
  | none => rfl
  | some o =>
    have z := x p o q
    cases o with
    | lst ws => obtain ⟨_, z, _⟩ := z; rw [e] at z; cases z
    | dic ws => obtain ⟨_, z, _⟩ := z; rw [e] at z; cases z
    | ins C fs => obtain ⟨_, _, z, _⟩ := z; rw [e] at z; cases z
    | raw u => have z : H p = some u := z; rw [e] at z; cases z
/-- another heap: what is owned is as it was -/
theorem HR.move {H' : Hp} {h' : HW} (st : ST H h H' h') {a : Addr} {o : OW} (z : OR K H h a o) (k : ∀ u, H a = some u → H' a = some u) : OR K H' h' a o := by
  cases o with
  | lst ws => obtain ⟨vs, z, r⟩ := z; exact ⟨vs, k _ z, r.mono st⟩
  | dic ws => obtain ⟨vs, z, r⟩ := z; exact ⟨vs, k _ z, r.mono st⟩
  | ins C fs => obtain ⟨dx, gs, z, r⟩ := z; exact ⟨dx, gs, k _ z, r.mono st⟩
  | raw u => exact k _ z
theorem HR.drop {h0 : HW} (x : HR K H h) (s : Sub h0 h) : HR K H h0 := fun a o e => HR.move (.drop s) (x a o (s a o e)) fun _ q => q
/-- a new object that is not owned -/
theorem ST.newF (e : H p = none) (o : HO) : ST H h (upd H p o) h := fun b u q n => ⟨by rw [upd_ne (ne_of_none q e)]; exact q, n⟩
theorem HR.newF (x : HR K H h) (e : H p = none) (o : HO) : HR K (upd H p o) h := fun b u q => HR.move (.newF e o) (x b u q) fun w z => by rw [upd_ne (ne_of_none z e)]; exact z
/-- a new object that is owned -/
theorem ST.newO (e : H p = none) (o : HO) (u : OW) : ST H h (upd H p o) (updW h p u) := fun b v q n =>
  ⟨by rw [upd_ne (ne_of_none q e)]; exact q, by rw [updW_ne (ne_of_none q e)]; exact n⟩
theorem HR.newO (x : HR K H h) (e : H p = none) {o : HO} {u : OW} (new : OR K (upd H p o) (updW h p u) p u) : HR K (upd H p o) (updW h p u) := fun b v q => by
  by_cases hb : b = p
  · subst hb; rw [updW_same] at q; cases q; exact new
  · rw [updW_ne hb] at q
    exact HR.move (.newO e o u) (x b v q) fun w z => by rw [upd_ne hb]; exact z
/-- an owned object is written -/
theorem ST.mut {u0 : OW} (e : h a = some u0) (o : HO) (u : OW) : ST H h (upd H a o) (updW h a u) := fun b v q n => by
  have hb : b ≠ a := fun z => by rw [z, e] at n; cases n
  exact ⟨by rw [upd_ne hb]; exact q, by rw [updW_ne hb]; exact n⟩
theorem HR.mut (x : HR K H h) {u0 : OW} (e : h a = some u0) {o : HO} {u : OW} (new : OR K (upd H a o) (updW h a u) a u) : HR K (upd H a o) (updW h a u) := fun b v q => by
  by_cases hb : b = a
  · subst hb; rw [updW_same] at q; cases q; exact new
  · rw [updW_ne hb] at q
    exact HR.move (.mut e o u) (x b v q) fun w z => by rw [upd_ne hb]; exact z
theorem ST.newI {x dx C : Addr} {fs : List (Str × V)} (e : H x = none) (ed : H dx = none) (u : OW) : ST H h (upd (upd H dx (.own x)) x (.ins C dx fs)) (updW h x u) := fun b v q n =>
  ⟨by rw [upd_ne (ne_of_none q e), upd_ne (ne_of_none q ed)]; exact q, by rw [updW_ne (ne_of_none q e)]; exact n⟩
theorem HR.newI {C dx : Addr} {x : Addr} (r : HR K H h) (e : H x = none) (ed : H dx = none) : HR K (upd (upd H dx (.own x)) x (.ins C dx [])) (updW h x (.ins C [])) := fun b v q => by
  by_cases hb : b = x
  · subst hb; rw [updW_same] at q; cases q; exact ⟨dx, [], upd_same, .nil⟩
  · rw [updW_ne hb] at q
    exact HR.move (.newI e ed _) (r b v q) fun w z => by rw [upd_ne hb, upd_ne (ne_of_none z ed)]; exact z
end
/-! ## slots -/
abbrev SlW := List (Option W)
def sl : SlW → Nat → Option W
  | [], _ => none
  | o :: _, 0 => o
  | _ :: r, n + 1 => sl r n
inductive SR (K : PySem.W.Frag) (H : Hp) (h : HW) : L2.St → SlW → Prop
  | nil : SR K H h [] []
  | cons {o : Option V} {p : Option W} {σ : L2.St} {ρ : SlW} (r : ∀ w, p = some w → ∃ v, o = some v ∧ RW K H h v w) (t : SR K H h σ ρ) : SR K H h (o :: σ) (p :: ρ)
section
variable {K : PySem.W.Frag} {H H' : Hp} {h h' : HW}
theorem SR.mono (s : ST H h H' h') : ∀ {σ : L2.St} {ρ : SlW}, SR K H h σ ρ → SR K H' h' σ ρ
  | _, _, .nil => .nil
  | _, _, .cons r t => .cons (fun w e => let ⟨v, a, b⟩ := r w e; ⟨v, a, b.mono s⟩) (SR.mono s t)
theorem SR.get : ∀ {σ : L2.St} {ρ : SlW} {i : Nat} {w : W}, SR K H h σ ρ → sl ρ i = some w → ∃ v, σ[i]? = some (some v) ∧ RW K H h v w
  | _, _, _, _, .nil, e => by simp [sl] at e
  | _, _, 0, w, .cons r t, e => by
    obtain ⟨v, a, b⟩ := r w e
    exact ⟨v, by rw [a]; rfl, b⟩
  | _, _, i + 1, w, .cons r t, e => by
    obtain ⟨v, a, b⟩ := SR.get (i := i) (w := w) t e
    exact ⟨v, by simpa using a, b⟩
theorem SR.set {v : V} {w : W} (q : RW K H h v w) : ∀ {σ : L2.St} {ρ : SlW} (i : Nat), SR K H h σ ρ → SR K H h (σ.set i (some v)) (ρ.set i (some w))
  | _, _, _, .nil => .nil
  | _, _, 0, .cons _ t => .cons (fun w' e => by cases e; exact ⟨v, rfl, q⟩) t
  | _, _, i + 1, .cons r t => .cons r (SR.set q i t)
theorem SR.setN : ∀ {σ : L2.St} {ρ : SlW} (i : Nat), SR K H h σ ρ → SR K H h (σ.set i none) (ρ.set i none)
  | _, _, _, .nil => .nil
  | _, _, 0, .cons _ t => .cons (fun w' e => by cases e) t
  | _, _, i + 1, .cons r t => .cons r (SR.setN i t)
theorem SR.length : ∀ {σ : L2.St} {ρ : SlW}, SR K H h σ ρ → σ.length = ρ.length
  | _, _, .nil => rfl
  | _, _, .cons _ t => congrArg (· + 1) (SR.length t)
/-- forgetting slots -/
inductive SubS : SlW → SlW → Prop
  | nil : SubS [] []
  | cons {o p : Option W} {ρ ρ' : SlW} (r : ∀ w, o = some w → p = some w) (t : SubS ρ ρ') : SubS (o :: ρ) (p :: ρ')
theorem SubS.refl : ∀ ρ : SlW, SubS ρ ρ
  | [] => .nil
  | o :: ρ => .cons (fun _ e => e) (SubS.refl ρ)
theorem SubS.no {p : Option W} {ρ ρ' : SlW} (t : SubS ρ ρ') : SubS (none :: ρ) (p :: ρ') := .cons (fun _ e => by cases e) t
theorem SubS.same {p : Option W} {ρ ρ' : SlW} (t : SubS ρ ρ') : SubS (p :: ρ) (p :: ρ') := .cons (fun _ e => e) t
theorem SR.sub : ∀ {σ : L2.St} {ρ ρ' : SlW}, SubS ρ ρ' → SR K H h σ ρ' → SR K H h σ ρ
  | _, _, _, .nil, .nil => .nil
  | _, _, _, .cons r t, .cons q u => .cons (fun w e => q w (r w e)) (SR.sub t u)
end
/-- the names' values at the entry -/
def startW (n : Nat) (ws : List W) : SlW := ws.map some ++ List.replicate (n - ws.length) none
theorem SR.start {K : PySem.W.Frag} {H : Hp} {h : HW} {N : List Str} {vs : List V} {ws : List W} (r : RWs K H h vs ws) : SR K H h (start N vs) (startW N.length ws) := by
  unfold L2.start startW
  rw [r.length]
  generalize N.length - ws.length = n
  have e : ∀ n : Nat, SR K H h (List.replicate n (none : Option V)) (List.replicate n (none : Option W)) := fun n => by
    induction n with
    | zero => exact .nil
    | succ n ih => exact .cons (fun _ e => by cases e) ih
  have f : ∀ {vs : List V} {ws : List W}, RWs K H h vs ws → SR K H h (vs.map some ++ List.replicate n none) (ws.map some ++ List.replicate n none) := fun {vs ws} r => by
    induction vs generalizing ws with
    | nil => cases r; exact e n
    | cons v vs ih =>
      cases r with
      | cons r t => exact .cons (fun w e => by cases e; exact ⟨v, rfl, r⟩) (ih t)
  exact f r
end Wl

set_option Elab.async false
set_option linter.all false
set_option maxRecDepth 100000
namespace Wl
open PySem PySem.Spec PyProof.Rows L2
theorem _root_.L2.PE.imp {X : Cx} {e : Expr} {t t' : TE} (h : PE X e t) (i : ∀ σ H Q, t' σ H Q → t σ H Q) : PE X e t' := ⟨fun p s σ H Q I q => h.run p s σ H Q I (i _ _ _ q)⟩
theorem _root_.L2.PT.imp {X : Cx} {e : Expr} {t t' : TT} (h : PT X e t) (i : ∀ σ H Q, t' σ H Q → t σ H Q) : PT X e t' := ⟨fun p s σ H Q I q => h.run p s σ H Q I (i _ _ _ q)⟩
theorem _root_.L2.PW.imp {X : Cx} {e : Expr} {t t' : TT} (h : PW X e t) (i : ∀ σ H Q, t' σ H Q → t σ H Q) : PW X e t' := ⟨fun wh p s σ H Q I q => h.run wh p s σ H Q I (i _ _ _ q)⟩
theorem _root_.L2.PA.imp {X : Cx} {e : List Expr} {t t' : TA} (h : PA X e t) (i : ∀ σ H Q, t' σ H Q → t σ H Q) : PA X e t' := ⟨fun po p s σ H Q I q => h.run po p s σ H Q I (i _ _ _ q)⟩
theorem _root_.L2.PS.imp {X : Cx} {e : Stmt} {t t' : TS} (h : PS X e t) (i : ∀ D σ H, t' D σ H → t D σ H) : PS X e t' := ⟨fun p s σ H D I q => h.run p s σ H D I (i _ _ _ q)⟩
theorem _root_.L2.PSs.imp {X : Cx} {e : List Stmt} {t t' : TS} (h : PSs X e t) (i : ∀ D σ H, t' D σ H → t D σ H) : PSs X e t' := ⟨fun p s σ H D I q => h.run p s σ H D I (i _ _ _ q)⟩
/-! ## wishes -/
/-- what an exception brings: its class, the fields of its own dict -/
structure XW where
  C : Addr
  fs : Option (List (Str × W))
def XR (K : PySem.W.Frag) (H : Hp) (h : HW) (x : XW) (od : Option Addr) : Prop := match x.fs with
  | none => od = none
  | some fs => ∃ d gs, od = some d ∧ H d = some (.xd gs) ∧ h d = none ∧ RFs K H h gs fs
structure Lk where
  el : Hp → HW → Prop
  mono : ∀ {H h H' h'}, el H h → ST H h H' h' → el H' h'
def Lk.no : Lk := ⟨fun _ _ => True, fun _ _ => trivial⟩
/-- the wish ex stands for E -/
def Lk.of (K : PySem.W.Frag) (E : XK) (ex : XW → HW → Prop) : Lk := ⟨fun H h => ∀ x h' od H', ex x h' → ST H h H' h' → HR K H' h' → XR K H' h' x od → E (.ref x.C) od H',
  fun a s x h' od H' e st => a x h' od H' e (s.trans st)⟩
abbrev KW := W → HW → Prop
abbrev TEW := SlW → HW → KW → Prop
abbrev TTW := SlW → HW → (Bool → HW → Prop) → Prop
abbrev TAW := SlW → HW → (List W → HW → Prop) → Prop
structure EndsW where
  nx : SlW → HW → Prop
  rt : KW
  bk : SlW → HW → Prop := fun _ _ => False
  ct : SlW → HW → Prop := fun _ _ => False
@[reducible] def EndsW.wn (D : EndsW) (n : SlW → HW → Prop) : EndsW := ⟨n, D.rt, D.bk, D.ct⟩
/-- a loop's turn: what is wanted at its end, behind a break -/
@[reducible] def EndsW.lp (D : EndsW) (n b : SlW → HW → Prop) : EndsW := ⟨n, D.rt, b, n⟩
abbrev TSW := EndsW → SlW → HW → Prop
def KV (K : PySem.W.Frag) (H : Hp) (h : HW) (R : KW) (Q : VK) : Prop := ∀ w h' v H', R w h' → ST H h H' h' → HR K H' h' → RW K H' h' v w → Q v H'
def KB (K : PySem.W.Frag) (H : Hp) (h : HW) (R : Bool → HW → Prop) (Q : Bool → Hp → Prop) : Prop := ∀ b h' H', R b h' → ST H h H' h' → HR K H' h' → Q b H'
def KL (K : PySem.W.Frag) (H : Hp) (h : HW) (R : List W → HW → Prop) (Q : List V → Hp → Prop) : Prop := ∀ ws h' vs H', R ws h' → ST H h H' h' → HR K H' h' → RWs K H' h' vs ws → Q vs H'
def KN (K : PySem.W.Frag) (H : Hp) (h : HW) (R : SlW → HW → Prop) (Q : L2.St → Hp → Prop) : Prop := ∀ ρ h' σ H', R ρ h' → ST H h H' h' → HR K H' h' → SR K H' h' σ ρ → Q σ H'
section
variable {K : PySem.W.Frag} {H H' : Hp} {h h' : HW}
theorem KV.mono {R : KW} {Q : VK} (k : KV K H h R Q) (s : ST H h H' h') : KV K H' h' R Q := fun w h'' v H'' r st => k w h'' v H'' r (s.trans st)
theorem KB.mono {R : Bool → HW → Prop} {Q : Bool → Hp → Prop} (k : KB K H h R Q) (s : ST H h H' h') : KB K H' h' R Q := fun w h'' H'' r st => k w h'' H'' r (s.trans st)
theorem KL.mono {R : List W → HW → Prop} {Q : List V → Hp → Prop} (k : KL K H h R Q) (s : ST H h H' h') : KL K H' h' R Q := fun w h'' v H'' r st => k w h'' v H'' r (s.trans st)
theorem KN.mono {R : SlW → HW → Prop} {Q : L2.St → Hp → Prop} (k : KN K H h R Q) (s : ST H h H' h') : KN K H' h' R Q := fun w h'' v H'' r st => k w h'' v H'' r (s.trans st)
end
/-- where one stands -/
structure Sta (K : PySem.W.Frag) (L : Lk) (σ : L2.St) (H : Hp) (ρ : SlW) (h : HW) : Prop where
  sr : SR K H h σ ρ
  hr : HR K H h
  el : L.el H h
theorem Sta.to {K : PySem.W.Frag} {L : Lk} {σ : L2.St} {H H' : Hp} {ρ : SlW} {h h' : HW} (x : Sta K L σ H ρ h) (s : ST H h H' h') (r : HR K H' h') : Sta K L σ H' ρ h' := ⟨x.sr.mono s, r, L.mono x.el s⟩
def lE (K : PySem.W.Frag) (L : Lk) (t : TEW) : TE := fun σ H Q => ∃ ρ h R, Sta K L σ H ρ h ∧ t ρ h R ∧ KV K H h R Q
def lT (K : PySem.W.Frag) (L : Lk) (t : TTW) : TT := fun σ H Q => ∃ ρ h R, Sta K L σ H ρ h ∧ t ρ h R ∧ KB K H h R Q
def lA (K : PySem.W.Frag) (L : Lk) (t : TAW) : TA := fun σ H Q => ∃ ρ h R, Sta K L σ H ρ h ∧ t ρ h R ∧ KL K H h R Q
structure KD (K : PySem.W.Frag) (H : Hp) (h : HW) (DW : EndsW) (D : Ends) : Prop where
  nx : KN K H h DW.nx D.nx
  rt : KV K H h DW.rt D.rt
  bk : KN K H h DW.bk D.bk
  ct : KN K H h DW.ct D.ct
theorem KD.mono {K : PySem.W.Frag} {H H' : Hp} {h h' : HW} {DW : EndsW} {D : Ends} (k : KD K H h DW D) (s : ST H h H' h') : KD K H' h' DW D := ⟨k.nx.mono s, k.rt.mono s, k.bk.mono s, k.ct.mono s⟩
def lS (K : PySem.W.Frag) (L : Lk) (t : TSW) : TS := fun D σ H => ∃ ρ h DW, Sta K L σ H ρ h ∧ t DW ρ h ∧ KD K H h DW D

abbrev WE (X : Cx) (L : Lk) (e : Expr) (t : TEW) : Prop := PE X e (lE X.K L t)
abbrev WT (X : Cx) (L : Lk) (e : Expr) (t : TTW) : Prop := PT X e (lT X.K L t)
abbrev WA (X : Cx) (L : Lk) (es : List Expr) (t : TAW) : Prop := PA X es (lA X.K L t)
abbrev WS (X : Cx) (L : Lk) (s : Stmt) (t : TSW) : Prop := PS X s (lS X.K L t)
abbrev WSs (X : Cx) (L : Lk) (s : List Stmt) (t : TSW) : Prop := PSs X s (lS X.K L t)

/-! ## rules by values -/
abbrev RW2 := W → W → HW → KW → Prop
def Lf2 (K : PySem.W.Frag) (r : R2) (rw : RW2) : Prop := ∀ x y H Q w1 w2 h R, RW K H h x w1 → RW K H h y w2 → HR K H h → rw w1 w2 h R → KV K H h R Q → r x y H Q
def Lf1 (K : PySem.W.Frag) (r : V → Hp → VK → Prop) (rw : W → HW → KW → Prop) : Prop := ∀ x H Q w h R, RW K H h x w → HR K H h → rw w h R → KV K H h R Q → r x H Q
def LfC (K : PySem.W.Frag) (r : List V → Hp → VK → Prop) (rw : List W → HW → KW → Prop) : Prop := ∀ xs H Q ws h R, RWs K H h xs ws → HR K H h → rw ws h R → KV K H h R Q → r xs H Q
def LfM (K : PySem.W.Frag) (r : V → List V → Hp → VK → Prop) (rw : W → List W → HW → KW → Prop) : Prop := ∀ x xs H Q w ws h R, RW K H h x w → RWs K H h xs ws → HR K H h → rw w ws h R → KV K H h R Q → r x xs H Q
/-- a value and nothing else -/
theorem KV.go {K : PySem.W.Frag} {H : Hp} {h : HW} {R : KW} {Q : VK} (k : KV K H h R Q) (hr : HR K H h) {v : V} {w : W} (q : R w h) (r : RW K H h v w) : Q v H := k w h v H q (.refl _ _) hr r

/-! ## names, constants -/
section
variable {X : Cx} {L : Lk} {pos : Pos}
def oVar (i : Nat) : TEW := fun ρ h R => match sl ρ i with | some w => R w h | none => False
def oC (w : W) : TEW := fun _ h R => R w h
theorem w_var (i : Nat) {x : Str} (hN : X.N[i]? = some x := by rfl) (hv : Vis X.env.scope x := by first | exact Or.inl rfl | exact Or.inr (Or.inl rfl) | exact Or.inr (Or.inr rfl)) (hd : (x == ("__debug__" : Str)) = false := by decide)
    (hcd : (x == ("__classdict__" : Str)) = false := by decide) : WE X L (.Name x pos) (oVar i) := (pe_var hN hv hd hcd).imp fun σ H Q ⟨ρ, h, R, S, t, k⟩ => by
  unfold oVar at t
  split at t
  · rename_i w e
    obtain ⟨v, e1, r⟩ := S.sr.get e
    exact ⟨v, e1, k.go S.hr t r⟩
  · exact t.elim
theorem w_const {e : Expr} {v : V} {w : W} (p : PE X e (tC v)) (r : ∀ H h, HR X.K H h → RW X.K H h v w) : WE X L e (oC w) := p.imp fun σ H Q ⟨ρ, h, R, S, t, k⟩ => k.go S.hr t (r _ _ S.hr)
theorem w_int {i j pos} : WE X L (.Constant (.int i) j pos) (oC (.int i)) := w_const pe_int fun _ _ _ => .int i
theorem w_bl {b j pos} : WE X L (.Constant (.bool b) j pos) (oC (.bl b)) := w_const pe_bl fun _ _ _ => .bl b
theorem w_non {j pos} : WE X L (.Constant .none j pos) (oC .non) := w_const pe_non fun _ _ _ => .non
theorem w_str {x j pos} (l : List Nat) (e : x = mkS l := by rfl) : WE X L (.Constant (.str x) j pos) (oC (.str l)) := w_const pe_str fun _ _ _ => by rw [e]; exact .str l
/-- a def, a class, a method table ..: an address of the written part -/
theorem w_glob {x : Str} {a : Addr} (hg : Gl X x) (hm : X.mg x = some (.ref a)) (hd : (x == ("__debug__" : Str)) = false := by decide) : WE X L (.Name x pos) (oC (.ref a)) := w_const (pe_glob hg hm (v := .ref a) rfl hd) fun _ _ _ => .ref a
theorem w_globI {x : Str} {i : Int} (hg : Gl X x) (hm : ∃ t, X.mg x = some (.int i t)) (hd : (x == ("__debug__" : Str)) = false := by decide) : WE X L (.Name x pos) (oC (.int i)) :=
  let ⟨t, hm⟩ := hm; w_const (pe_glob hg hm (v := .int i) ⟨t, rfl⟩ hd) fun _ _ _ => .int i
theorem w_globS {x : Str} (l : List Nat) (hg : Gl X x) (hm : ∃ t, X.mg x = some (.str (mkS l) t)) (hd : (x == ("__debug__" : Str)) = false := by decide) : WE X L (.Name x pos) (oC (.str l)) :=
  let ⟨t, hm⟩ := hm; w_const (pe_glob hg hm (v := .str (mkS l)) ⟨t, rfl⟩ hd) fun _ _ _ => .str l
theorem w_bltn {x : Str} {n : String} (hg : Gl X x) (hm : X.mg x = none) (hv : bootBuiltins x = some (.type n)) (hn : x ≠ "__name__" := by decide) (hd : (x == ("__debug__" : Str)) = false := by decide) : WE X L (.Name x pos) (oC (.ty n)) := w_const (pe_bltn (v := .ty n) hg hm hv rfl hn hd) fun _ _ _ => .ty n
/-- a constant of the written part: any value that stands for w wherever -/
structure Sk (K : PySem.W.Frag) (u : Value) (w : W) : Prop where
  is : ∃ v, RelV v u ∧ ∀ H h, RW K H h v w
theorem w_globW {x : Str} {u : Value} {w : W} (hg : Gl X x) (hm : X.mg x = some u) (s : Sk X.K u w) (hd : (x == ("__debug__" : Str)) = false := by decide) : WE X L (.Name x pos) (oC w) :=
  let ⟨v, r, q⟩ := s.is; w_const (pe_glob hg hm r hd) fun H h _ => q H h

/-! ## operators -/
variable {a b c e : Expr} {es : List Expr} {ta tb tc te : TEW} {t : TAW}
def oOp (rw : RW2) (ta tb : TEW) : TEW := fun ρ h R => ta ρ h fun x h1 => tb ρ h1 fun y h2 => rw x y h2 R
def oUn (rw : W → HW → KW → Prop) (ta : TEW) : TEW := fun ρ h R => ta ρ h fun x h1 => rw x h1 R
theorem bin_imp {r : R2} {rw : RW2} (l : Lf2 X.K r rw) : ∀ σ H Q, lE X.K L (oOp rw ta tb) σ H Q → tOp r (lE X.K L ta) (lE X.K L tb) σ H Q := fun σ H Q ⟨ρ, h, R, S, t, k⟩ =>
  ⟨ρ, h, _, S, t, fun w1 h1 v1 H1 t1 s1 r1 q1 => ⟨ρ, h1, _, S.to s1 r1, t1, fun w2 h2 v2 H2 t2 s2 r2 q2 => l v1 v2 H2 Q w1 w2 h2 R (q1.mono s2) q2 r2 t2 (k.mono (s1.trans s2))⟩⟩
theorem w_op {op : Operator} {r : R2} {rw : RW2} (ho : OpR X (binaryOp op) r) (l : Lf2 X.K r rw) (ha : WE X L a ta) (hb : WE X L b tb) : WE X L (.BinOp a op b pos) (oOp rw ta tb) := (pe_op ho ha hb).imp (bin_imp l)
theorem w_un {op : UnaryOp} {r : V → Hp → VK → Prop} {rw : W → HW → KW → Prop} (ho : UnR X (unaryOp op) r) (l : Lf1 X.K r rw) (ha : WE X L a ta) : WE X L (.UnaryOp op a pos) (oUn rw ta) := (pe_un ho ha).imp fun σ H Q ⟨ρ, h, R, S, t, k⟩ =>
  ⟨ρ, h, _, S, t, fun w1 h1 v1 H1 t1 s1 r1 q1 => l v1 H1 Q w1 h1 R q1 r1 t1 (k.mono s1)⟩
theorem w_cmp {op : CmpOp} {r : R2} {rw : RW2} (ho : OpR X (compareOp op) r) (l : Lf2 X.K r rw) (ha : WE X L a ta) (hb : WE X L b tb) (hm : behindInMarks op b = false) : WE X L (.Compare a [op] [b] pos) (oOp rw ta tb) := (pe_cmpR ho ha hb hm).imp (bin_imp l)
/-- a value that is a bool, as a test -/
def oTest (te : TEW) : TTW := fun ρ h R => te ρ h fun x h1 => match x with | .bl k => R k h1 | _ => False
theorem test_imp {te : TE} {tw : TEW} (i : ∀ σ H Q, lE X.K L tw σ H Q → te σ H Q) : ∀ σ H Q, lT X.K L (oTest tw) σ H Q → (te σ H fun x H' => ∃ k, x = .bl k ∧ Q k H') := fun σ H Q ⟨ρ, h, R, S, t, k⟩ =>
  i σ H _ ⟨ρ, h, _, S, t, fun w1 h1 v1 H1 t1 s1 r1 q1 => by
    cases w1 with
    | bl b => cases q1; exact ⟨b, rfl, k b h1 H1 t1 s1 r1⟩
    | _ => exact t1.elim⟩
theorem wt_cmp {op : CmpOp} {r : R2} {rw : RW2} (ho : OpR X (compareOp op) r) (l : Lf2 X.K r rw) (ha : WE X L a ta) (hb : WE X L b tb) (hm : behindInMarks op b = false) : WT X L (.Compare a [op] [b] pos) (oTest (oOp rw ta tb)) := (pt_cmpR ho ha hb hm).imp (test_imp (bin_imp l))
theorem wt_val (ha : WE X L e te) (he : ∀ whole, isTrue e X.env whole = (do let v ← whole; standAt e.pos; holding [v] (truthy v)) := by intro _; rfl) : WT X L e (oTest te) := (pt_val ha he).imp (test_imp fun _ _ _ q => q)
/-- a op1 b op2 c -/
def oChain (r r' : RW2) (ta tb tc : TEW) : TEW := fun ρ h R => ta ρ h fun x h1 => tb ρ h1 fun y h2 => r x y h2 fun z h3 => match z with
  | .bl k => if k = true then tc ρ h3 fun w' h4 => r' y w' h4 R else R (.bl false) h3
  | _ => False
theorem chain_imp {r r' : R2} {rw rw' : RW2} (l : Lf2 X.K r rw) (l' : Lf2 X.K r' rw') : ∀ σ H Q, lE X.K L (oChain rw rw' ta tb tc) σ H Q → tChain r r' (lE X.K L ta) (lE X.K L tb) (lE X.K L tc) σ H Q := fun σ H Q ⟨ρ, h, R, S, t, k⟩ =>
  ⟨ρ, h, _, S, t, fun w1 h1 v1 H1 t1 s1 r1 q1 => ⟨ρ, h1, _, S.to s1 r1, t1, fun w2 h2 v2 H2 t2 s2 r2 q2 => l v1 v2 H2 _ w1 w2 h2 _ (q1.mono s2) q2 r2 t2 fun w3 h3 v3 H3 t3 s3 r3 q3 => by
    cases w3 with
    | bl b =>
      cases q3
      refine ⟨b, rfl, ?_⟩
      cases b with
      | true => exact ⟨ρ, h3, _, S.to (s1.trans (s2.trans s3)) r3, t3, fun w4 h4 v4 H4 t4 s4 r4 q4 => l' v2 v4 H4 Q w2 w4 h4 R (q2.mono (s3.trans s4)) q4 r4 t4 (k.mono (s1.trans (s2.trans (s3.trans s4))))⟩
      | false => exact k _ h3 _ H3 t3 (s1.trans (s2.trans s3)) r3 (.bl false)
    | _ => exact t3.elim⟩⟩
theorem w_chain {op op' : CmpOp} {r r' : R2} {rw rw' : RW2} (ho : OpR X (compareOp op) r) (l : Lf2 X.K r rw) (ho' : OpR X (compareOp op') r') (l' : Lf2 X.K r' rw') (ha : WE X L a ta) (hb : WE X L b tb) (hc : WE X L c tc)
    (hm : lastMarks [op, op'] [b, c] = false := by with_unfolding_all rfl) : WE X L (.Compare a [op, op'] [b, c] pos) (oChain rw rw' ta tb tc) := (pe_chain ho ho' ha hb hc hm).imp (chain_imp l l')
theorem wt_chain {op op' : CmpOp} {r r' : R2} {rw rw' : RW2} (ho : OpR X (compareOp op) r) (l : Lf2 X.K r rw) (ho' : OpR X (compareOp op') r') (l' : Lf2 X.K r' rw') (ha : WE X L a ta) (hb : WE X L b tb) (hc : WE X L c tc)
    (hm : lastMarks [op, op'] [b, c] = false := by with_unfolding_all rfl) : WT X L (.Compare a [op, op'] [b, c] pos) (oTest (oChain rw rw' ta tb tc)) := (pt_chain ho ho' ha hb hc hm).imp (test_imp (chain_imp l l'))
/-! ## tests -/
variable {tA tB' : TTW} {rest : List Expr}
def oAnd (t u : TTW) : TTW := fun ρ h R => t ρ h fun c h1 => if c = true then u ρ h1 R else R false h1
def oOr (t u : TTW) : TTW := fun ρ h R => t ρ h fun c h1 => if c = true then R true h1 else u ρ h1 R
def oNot (t : TTW) : TTW := fun ρ h R => t ρ h fun c h1 => R (!c) h1
abbrev WW (X : Cx) (L : Lk) (e : Expr) (t : TTW) : Prop := PW X e (lT X.K L t)
theorem ww_and1 (ha : WT X L a tA) : WW X L (.BoolOp .And [a] pos) tA := pw_and1 ha
theorem ww_or1 (ha : WT X L a tA) : WW X L (.BoolOp .Or [a] pos) tA := pw_or1 ha
theorem ww_and (ha : WT X L a tA) (hb : WW X L (.BoolOp .And (b :: rest) pos) tB') : WW X L (.BoolOp .And (a :: b :: rest) pos) (oAnd tA tB') := (pw_and ha hb).imp fun σ H Q ⟨ρ, h, R, S, t, k⟩ =>
  ⟨ρ, h, _, S, t, fun c h1 H1 t1 s1 r1 => by
    cases c with
    | true => exact ⟨ρ, h1, R, S.to s1 r1, t1, k.mono s1⟩
    | false => exact k _ h1 H1 t1 s1 r1⟩
theorem ww_or (ha : WT X L a tA) (hb : WW X L (.BoolOp .Or (b :: rest) pos) tB') : WW X L (.BoolOp .Or (a :: b :: rest) pos) (oOr tA tB') := (pw_or ha hb).imp fun σ H Q ⟨ρ, h, R, S, t, k⟩ =>
  ⟨ρ, h, _, S, t, fun c h1 H1 t1 s1 r1 => by
    cases c with
    | true => exact k _ h1 H1 t1 s1 r1
    | false => exact ⟨ρ, h1, R, S.to s1 r1, t1, k.mono s1⟩⟩
theorem wt_bool {t : TTW} (h : WW X L e t) : WT X L e t := h.pt
theorem wt_not (ha : WT X L a tA) : WT X L (.UnaryOp .Not a pos) (oNot tA) := (pt_not ha).imp fun σ H Q ⟨ρ, h, R, S, t, k⟩ => ⟨ρ, h, _, S, t, fun c h1 H1 t1 s1 r1 => k _ h1 H1 t1 s1 r1⟩
/-- and, or, not as values: all but the last are bools -/
def oAndV (ta tb : TEW) : TEW := fun ρ h R => ta ρ h fun x h1 => match x with | .bl c => if c = true then tb ρ h1 R else R (.bl false) h1 | _ => False
def oOrV (ta tb : TEW) : TEW := fun ρ h R => ta ρ h fun x h1 => match x with | .bl c => if c = true then R (.bl true) h1 else tb ρ h1 R | _ => False
def oNotV (ta : TEW) : TEW := fun ρ h R => ta ρ h fun x h1 => match x with | .bl c => R (.bl (!c)) h1 | _ => False
theorem w_one {op} (h : WE X L a ta) : WE X L (.BoolOp op [a] pos) ta := pe_one h
theorem w_and (ha : WE X L a ta) (hb : WE X L (.BoolOp .And (b :: rest) pos) tb) : WE X L (.BoolOp .And (a :: b :: rest) pos) (oAndV ta tb) := (pe_and ha hb).imp fun σ H Q ⟨ρ, h, R, S, t, k⟩ =>
  ⟨ρ, h, _, S, t, fun w1 h1 v1 H1 t1 s1 r1 q1 => by
    cases w1 with
    | bl c =>
      cases q1
      refine ⟨c, rfl, ?_⟩
      cases c with
      | true => exact ⟨ρ, h1, R, S.to s1 r1, t1, k.mono s1⟩
      | false => exact k _ h1 _ H1 t1 s1 r1 (.bl false)
    | _ => exact t1.elim⟩
theorem w_or (ha : WE X L a ta) (hb : WE X L (.BoolOp .Or (b :: rest) pos) tb) : WE X L (.BoolOp .Or (a :: b :: rest) pos) (oOrV ta tb) := (pe_or ha hb).imp fun σ H Q ⟨ρ, h, R, S, t, k⟩ =>
  ⟨ρ, h, _, S, t, fun w1 h1 v1 H1 t1 s1 r1 q1 => by
    cases w1 with
    | bl c =>
      cases q1
      refine ⟨c, rfl, ?_⟩
      cases c with
      | true => exact k _ h1 _ H1 t1 s1 r1 (.bl true)
      | false => exact ⟨ρ, h1, R, S.to s1 r1, t1, k.mono s1⟩
    | _ => exact t1.elim⟩
theorem w_not (ha : WE X L a ta) : WE X L (.UnaryOp .Not a pos) (oNotV ta) := (pe_not ha).imp fun σ H Q ⟨ρ, h, R, S, t, k⟩ =>
  ⟨ρ, h, _, S, t, fun w1 h1 v1 H1 t1 s1 r1 q1 => by
    cases w1 with
    | bl c => cases q1; exact ⟨c, rfl, k _ h1 _ H1 t1 s1 r1 (.bl _)⟩
    | _ => exact t1.elim⟩
def oIf (t : TTW) (ta tb : TEW) : TEW := fun ρ h R => t ρ h fun c h1 => if c = true then ta ρ h1 R else tb ρ h1 R
theorem w_ifExp (hc : WT X L c tA) (ha : WE X L a ta) (hb : WE X L b tb) : WE X L (.IfExp c a b pos) (oIf tA ta tb) := (pe_ifExp hc ha hb).imp fun σ H Q ⟨ρ, h, R, S, t, k⟩ =>
  ⟨ρ, h, _, S, t, fun c h1 H1 t1 s1 r1 => by
    cases c with
    | true => exact ⟨ρ, h1, R, S.to s1 r1, t1, k.mono s1⟩
    | false => exact ⟨ρ, h1, R, S.to s1 r1, t1, k.mono s1⟩⟩
/-! ## arguments, displays -/
def oNil : TAW := fun _ h R => R [] h
def oCons (ta : TEW) (tr : TAW) : TAW := fun ρ h R => ta ρ h fun x h1 => tr ρ h1 fun xs h2 => R (x :: xs) h2
theorem wa_nil : WA X L [] oNil := pa_nil.imp fun σ H Q ⟨ρ, h, R, S, t, k⟩ => k _ h _ H t (.refl _ _) S.hr .nil
theorem wa_cons (ha : WE X L e te) (hr : WA X L es t) (hs : starEach (e :: es) X.env = (false, eval e X.env) :: starEach es X.env := by rfl) : WA X L (e :: es) (oCons te t) := (pa_cons ha hr hs).imp fun σ H Q ⟨ρ, h, R, S, t, k⟩ =>
  ⟨ρ, h, _, S, t, fun w1 h1 v1 H1 t1 s1 r1 q1 => ⟨ρ, h1, _, S.to s1 r1, t1, fun ws h2 vs H2 t2 s2 r2 q2 => k _ h2 _ H2 t2 (s1.trans s2) r2 (.cons (q1.mono s2) q2)⟩⟩
theorem sz_small {n : Nat} (h : n ≤ 100000 := by decide) : n ≤ sizeLine := Nat.le_trans h (by decide)
theorem FzT.new {K : PySem.W.Frag} {H : Hp} {h : HW} {p : Addr} {vs : List V} (hr : HR K H h) (e : H p = none) : FzT K (upd H p (.tup vs)) h p vs := .inl ⟨.inl upd_same, hr.fresh e⟩
theorem FzL.new {K : PySem.W.Frag} {H : Hp} {h : HW} {p : Addr} {vs : List V} (hr : HR K H h) (e : H p = none) : FzL (upd H p (.lst vs)) h p vs := ⟨upd_same, hr.fresh e⟩
/-- a new tuple, a new list that stays, a new list that is owned -/
theorem KV.tup {K : PySem.W.Frag} {H : Hp} {h : HW} {R : KW} {Q : VK} (k : KV K H h R Q) (hr : HR K H h) {vs : List V} {ws : List W} (r : RWs K H h vs ws) (t : R (.tup ws) h) {p : Addr} (e : H p = none) : Q (.ref p) (upd H p (.tup vs)) :=
  k _ h _ _ t (.newF e _) (hr.newF e _) (.tup (.new hr e) (r.mono (.newF e _)))
theorem KV.lst {K : PySem.W.Frag} {H : Hp} {h : HW} {R : KW} {Q : VK} (k : KV K H h R Q) (hr : HR K H h) {vs : List V} {ws : List W} (r : RWs K H h vs ws) (t : R (.lst ws) h) {p : Addr} (e : H p = none) : Q (.ref p) (upd H p (.lst vs)) :=
  k _ h _ _ t (.newF e _) (hr.newF e _) (.lst (.new (K := K) hr e) (r.mono (.newF e _)))
theorem KV.lstO {K : PySem.W.Frag} {H : Hp} {h : HW} {R : KW} {Q : VK} (k : KV K H h R Q) (hr : HR K H h) {vs : List V} {ws : List W} (r : RWs K H h vs ws) (t : ∀ p, h p = none → R (.ref p) (updW h p (.lst ws))) {p : Addr} (e : H p = none) : Q (.ref p) (upd H p (.lst vs)) :=
  k _ _ _ _ (t p (hr.fresh e)) (.newO e _ _) (hr.newO e ⟨vs, upd_same, r.mono (.newO e _ _)⟩) (.ref p)
def oTup (t : TAW) : TEW := fun ρ h R => t ρ h fun ws h1 => ws.length ≤ 16000000 ∧ R (.tup ws) h1
def oLst (t : TAW) : TEW := fun ρ h R => t ρ h fun ws h1 => ws.length ≤ 16000000 ∧ R (.lst ws) h1
def oLstO (t : TAW) : TEW := fun ρ h R => t ρ h fun ws h1 => ws.length ≤ 16000000 ∧ ∀ p, h1 p = none → R (.ref p) (updW h1 p (.lst ws))
theorem sz_big {n : Nat} (h : n ≤ 16000000) : n ≤ sizeLine := Nat.le_trans h (by decide)
theorem w_tup {x1} (ha : WA X L es t) : WE X L (.Tuple es x1 pos) (oTup t) := (pe_tup ha).imp fun σ H Q ⟨ρ, h, R, S, t, k⟩ =>
  ⟨ρ, h, _, S, t, fun ws h1 vs H1 ⟨e, t1⟩ s1 r1 q1 => ⟨by rw [q1.length]; exact sz_big e, fun p hp => (k.mono s1).tup r1 q1 t1 hp⟩⟩
theorem w_lst (ha : WA X L es t) : WE X L (.List es pos) (oLst t) := (pe_lst ha).imp fun σ H Q ⟨ρ, h, R, S, t, k⟩ =>
  ⟨ρ, h, _, S, t, fun ws h1 vs H1 ⟨e, t1⟩ s1 r1 q1 => ⟨by rw [q1.length]; exact sz_big e, fun p hp => (k.mono s1).lst r1 q1 t1 hp⟩⟩
theorem w_lstO (ha : WA X L es t) : WE X L (.List es pos) (oLstO t) := (pe_lst ha).imp fun σ H Q ⟨ρ, h, R, S, t, k⟩ =>
  ⟨ρ, h, _, S, t, fun ws h1 vs H1 ⟨e, t1⟩ s1 r1 q1 => ⟨by rw [q1.length]; exact sz_big e, fun p hp => (k.mono s1).lstO r1 q1 t1 hp⟩⟩
end
end Wl

set_option Elab.async false
set_option linter.all false
set_option maxRecDepth 100000
namespace Wl
open PySem PySem.Spec PyProof.Rows L2
theorem mkS_append (a b : List Nat) : mkS a ++ mkS b = mkS (a ++ b) := by
  show Str.append _ _ = _
  simp [Str.append, mkS]
theorem mkS_length (a : List Nat) : (mkS a).length = a.length := by simp [mkS, Str.length]
theorem mkS_inj {a b : List Nat} : mkS a = mkS b ↔ a = b := by simp [mkS]
theorem mkS_list (z : Str) : z = mkS z.cps.toList := by cases z; rfl
theorem RW.eq_int {K : PySem.W.Frag} {H : Hp} {h : HW} {x : V} {i : Int} (r : RW K H h x (.int i)) : x = .int i := by cases r; rfl
theorem RW.eq_str {K : PySem.W.Frag} {H : Hp} {h : HW} {x : V} {i : List Nat} (r : RW K H h x (.str i)) : x = .str (mkS i) := by cases r; rfl
theorem RW.eq_bl {K : PySem.W.Frag} {H : Hp} {h : HW} {x : V} {i : Bool} (r : RW K H h x (.bl i)) : x = .bl i := by cases r; rfl
theorem RW.eq_ref {K : PySem.W.Frag} {H : Hp} {h : HW} {x : V} {a : Addr} (r : RW K H h x (.ref a)) : x = .ref a := by cases r; rfl
theorem RWs.one {K : PySem.W.Frag} {H : Hp} {h : HW} {xs : List V} {w : W} (r : RWs K H h xs [w]) : ∃ x, xs = [x] ∧ RW K H h x w := by
  cases r with
  | cons r t => cases t; exact ⟨_, rfl, r⟩
theorem RWs.two {K : PySem.W.Frag} {H : Hp} {h : HW} {xs : List V} {w u : W} (r : RWs K H h xs [w, u]) : ∃ x y, xs = [x, y] ∧ RW K H h x w ∧ RW K H h y u := by
  cases r with
  | cons r t => cases t with | cons q t => cases t; exact ⟨_, _, rfl, r, q⟩
theorem RWs.zero {K : PySem.W.Frag} {H : Hp} {h : HW} {xs : List V} (r : RWs K H h xs []) : xs = [] := by cases r; rfl
section
variable {X : Cx} {K : PySem.W.Frag}
/-! ## arithmetic -/
def addW : RW2 := fun x y h R => match x, y with
  | .int i, .int j => R (.int (i + j)) h
  | .str i, .str j => i.length + j.length ≤ 16000000 ∧ R (.str (i ++ j)) h
  | .tup xs, .tup ys => xs ≠ [] ∧ xs.length + ys.length ≤ 16000000 ∧ R (.tup (xs ++ ys)) h
  | .lst xs, .lst ys => xs.length + ys.length ≤ 16000000 ∧ R (.lst (xs ++ ys)) h
  | _, _ => False
theorem ow_add : OpR X (binaryOp .Add) (fun x y H Q => rI0 (fun i j => .int (i + j)) x y H Q ∨ (∃ i j, x = .str i ∧ y = .str j ∧ i.length + j.length ≤ sizeLine ∧ Q (.str (i ++ j)) H) ∨ rCatT X.K x y H Q ∨ rCat x y H Q) :=
  op_add.or (op_add_str.or (op_catT.or op_cat))
theorem lf_add : Lf2 K (fun x y H Q => rI0 (fun i j => .int (i + j)) x y H Q ∨ (∃ i j, x = .str i ∧ y = .str j ∧ i.length + j.length ≤ sizeLine ∧ Q (.str (i ++ j)) H) ∨ rCatT K x y H Q ∨ rCat x y H Q) addW := fun x y H Q w1 w2 h R r1 r2 hr t k => by
  unfold addW at t
  split at t
  · cases r1; cases r2; exact .inl ⟨_, _, rfl, rfl, k.go hr t (.int _)⟩
  · cases r1; cases r2
    refine .inr (.inl ⟨_, _, rfl, rfl, ?_, ?_⟩)
    · rw [mkS_length, mkS_length]; exact sz_big t.1
    · rw [mkS_append]; exact k.go hr t.2 (.str _)
  · rename_i xs ys
    cases r1 with
    | tup f1 q1 =>
      cases r2 with
      | tup f2 q2 =>
        obtain ⟨t1, t2, t3⟩ := t
        refine .inr (.inr (.inl ⟨_, _, _, _, rfl, rfl, f1.sq, f2.sq, ?_, ?_, ?_, ?_⟩))
        · intro e; subst e; cases q1; exact t1 rfl
        · rw [q1.length, q2.length]; exact sz_big t2
        · intro e; subst e; cases q2; rw [List.append_nil] at t3; exact k.go hr t3 (.tup f1 q1)
        · exact fun _ p hp => k.tup hr (q1.append q2) t3 hp
  · rename_i xs ys
    cases r1 with
    | lst f1 q1 =>
      cases r2 with
      | lst f2 q2 =>
        obtain ⟨t2, t3⟩ := t
        exact .inr (.inr (.inr ⟨_, _, _, _, rfl, rfl, f1.1, f2.1, by rw [q1.length, q2.length]; exact sz_big t2, fun p hp => k.lst hr (q1.append q2) t3 hp⟩))
  · exact t.elim
def intW (C : Int → Int → Prop) (g : Int → Int → Int) : RW2 := fun x y h R => match x, y with
  | .int i, .int j => C i j ∧ R (.int (g i j)) h
  | _, _ => False
def intW0 (g : Int → Int → Int) : RW2 := fun x y h R => match x, y with
  | .int i, .int j => R (.int (g i j)) h
  | _, _ => False
theorem lf_int {C : Int → Int → Prop} {g : Int → Int → Int} : Lf2 K (rI C fun i j => .int (g i j)) (intW C g) := fun x y H Q w1 w2 h R r1 r2 hr t k => by
  unfold intW at t
  split at t
  · cases r1; cases r2; exact ⟨_, _, rfl, rfl, t.1, k.go hr t.2 (.int _)⟩
  · exact t.elim
theorem lf_int0 {g : Int → Int → Int} : Lf2 K (rI0 fun i j => .int (g i j)) (intW0 g) := fun x y H Q w1 w2 h R r1 r2 hr t k => by
  unfold intW0 at t
  split at t
  · cases r1; cases r2; exact ⟨_, _, rfl, rfl, k.go hr t (.int _)⟩
  · exact t.elim
def cmpW (g : Int → Int → Bool) : RW2 := fun x y h R => match x, y with
  | .int i, .int j => R (.bl (g i j)) h
  | _, _ => False
theorem lf_cmp {g : Int → Int → Bool} : Lf2 K (rI0 fun i j => .bl (g i j)) (cmpW g) := fun x y H Q w1 w2 h R r1 r2 hr t k => by
  unfold cmpW at t
  split at t
  · cases r1; cases r2; exact ⟨_, _, rfl, rfl, k.go hr t (.bl _)⟩
  · exact t.elim
def subW : RW2 := intW0 fun i j => i - j
def mulW : RW2 := intW CMul fun i j => i * j
def modW : RW2 := intW (fun _ j => 0 < j) fun i j => i % j
def fdivW : RW2 := intW CDiv fun i j => i / j
def ltW : RW2 := cmpW fun i j => decide (i < j)
def leW : RW2 := cmpW fun i j => decide (i ≤ j)
def gtW : RW2 := cmpW fun i j => decide (j < i)
def geW : RW2 := cmpW fun i j => decide (j ≤ i)
theorem CMul.r {i j : Int} (h : -(2 ^ 64) < j ∧ j < 2 ^ 64) : CMul i j := .inr h
theorem CMul.l {i j : Int} (h : -(2 ^ 64) < i ∧ i < 2 ^ 64) : CMul i j := .inl h
/-- unary minus -/
def negW : W → HW → KW → Prop := fun x h R => match x with | .int i => R (.int (-i)) h | _ => False
theorem lf_neg : Lf1 K (rU fun i => .int (-i)) negW := fun x H Q w h R r hr t k => by
  unfold negW at t
  split at t
  · cases r; exact ⟨_, rfl, k.go hr t (.int _)⟩
  · exact t.elim
/-! ## == of data at any depth -/
mutual
def toD : W → PyData
  | .int i => .int i
  | .str s => .str (mkS s)
  | .bl b => .bool b
  | .tup ws => .tuple (toDs ws)
  | .lst ws => .list (toDs ws)
  | _ => .none
def toDs : List W → List PyData
  | [] => []
  | w :: ws => toD w :: toDs ws
end
mutual
/-- None, bools, ints, texts, tuples and lists of such -/
def dataW : W → Bool
  | .non => true
  | .bl _ => true
  | .int _ => true
  | .str s => PyData.strOk (mkS s)
  | .tup ws => datasW ws
  | .lst ws => datasW ws
  | _ => false
def datasW : List W → Bool
  | [] => true
  | w :: ws => dataW w && datasW ws
end
mutual
def depW : W → Nat
  | .tup ws => depsW ws + 1
  | .lst ws => depsW ws + 1
  | _ => 0
def depsW : List W → Nat
  | [] => 0
  | w :: ws => max (depW w) (depsW ws)
end
mutual
theorem dp_of {H : Hp} {h : HW} : ∀ {v : V} {w : W}, RW K H h v w → dataW w = true → Dp K H v (toD w)
  | _, _, .non, e => by rw [toD] <;> first | exact .non | exact (fun _ => nofun)
  | _, _, .bl b, e => by rw [toD]; exact .bl b
  | _, _, .int i, _ => by rw [toD]; exact .int i
  | _, _, .str x, _ => by rw [toD]; exact .str _
  | _, _, .ty n, e => by simp [dataW] at e
  | _, _, .ref a, e => by simp [dataW] at e
  | _, _, .tup f r, e => by rw [toD]; exact .tup f.sq (dps_of r (by simpa [dataW] using e))
  | _, _, .lst f r, e => by rw [toD]; exact .lst f.sq (dps_of r (by simpa [dataW] using e))
  | _, _, .scr f r, e => by simp [dataW] at e
  | _, _, .dic f r, e => by simp [dataW] at e
theorem dps_of {H : Hp} {h : HW} : ∀ {v : List V} {w : List W}, RWs K H h v w → datasW w = true → DpAll K H v (toDs w)
  | _, _, .nil, _ => by rw [toDs]; exact .nil
  | _, _, .cons r t, e => by
    rw [datasW, Bool.and_eq_true] at e
    rw [toDs]; exact .cons (dp_of r e.1) (dps_of t e.2)
end
mutual
theorem lay_of : ∀ w : W, dataW w = true → (toD w).canLay0 = true
  | .non, _ => by simp [toD, PyData.canLay0]
  | .bl b, _ => by simp [toD, PyData.canLay0]
  | .int i, _ => by simp [toD, PyData.canLay0]
  | .str s, e => by simpa [toD, PyData.canLay0, dataW] using e
  | .tup ws, e => by rw [toD, PyData.canLay0]; exact lays_of ws (by simpa [dataW] using e)
  | .lst ws, e => by rw [toD, PyData.canLay0]; exact lays_of ws (by simpa [dataW] using e)
  | .scr _, e => by simp [dataW] at e
  | .dic _, e => by simp [dataW] at e
  | .ref _, e => by simp [dataW] at e
  | .ty _, e => by simp [dataW] at e
theorem lays_of : ∀ ws : List W, datasW ws = true → PyData.canLayAll0 (toDs ws) = true
  | [], _ => by simp [toDs, PyData.canLayAll0]
  | w :: ws, e => by
    rw [datasW, Bool.and_eq_true] at e
    rw [toDs, PyData.canLayAll0, lay_of w e.1, lays_of ws e.2]; rfl
end
mutual
theorem dep_of : ∀ w : W, (toD w).depth ≤ depW w
  | .non => by simp [toD, PyData.depth]
  | .bl b => by simp [toD, PyData.depth]
  | .int i => by simp [toD, PyData.depth]
  | .str s => by simp [toD, PyData.depth]
  | .tup ws => by rw [toD, PyData.depth, depW]; exact Nat.succ_le_succ (deps_of ws)
  | .lst ws => by rw [toD, PyData.depth, depW]; exact Nat.succ_le_succ (deps_of ws)
  | .scr _ => by simp [toD, PyData.depth]
  | .dic _ => by simp [toD, PyData.depth]
  | .ref _ => by simp [toD, PyData.depth]
  | .ty _ => by simp [toD, PyData.depth]
theorem deps_of : ∀ ws : List W, PyData.depthAll (toDs ws) ≤ depsW ws
  | [] => by simp [toDs, PyData.depthAll]
  | w :: ws => by
    have h1 := dep_of w
    have h2 := deps_of ws
    rw [toDs, PyData.depthAll, depsW]
    omega
end
def eqD (x y : W) : Bool := PyData.eqv (toD x) (toD y)
mutual
theorem eqv_of : ∀ x : W, dataW x = true → eqD x x = true
  | .non, _ => by simp [eqD, toD, PyData.eqv]
  | .bl b, _ => by simp [eqD, toD, PyData.eqv]
  | .int i, _ => by simp [eqD, toD, PyData.eqv]
  | .str s, e => by simp [eqD, toD, PyData.eqv]
  | .tup ws, e => by unfold eqD; rw [toD, PyData.eqv]; exact eqvs_of ws (by simpa [dataW] using e)
  | .lst ws, e => by unfold eqD; rw [toD, PyData.eqv]; exact eqvs_of ws (by simpa [dataW] using e)
  | .scr _, e => by simp [dataW] at e
  | .dic _, e => by simp [dataW] at e
  | .ref _, e => by simp [dataW] at e
  | .ty _, e => by simp [dataW] at e
theorem eqvs_of : ∀ ws : List W, datasW ws = true → PyData.eqvAll (toDs ws) (toDs ws) = true
  | [], _ => by simp [toDs, PyData.eqvAll]
  | w :: ws, e => by
    rw [datasW, Bool.and_eq_true] at e
    have h1 := eqv_of w e.1
    unfold eqD at h1
    rw [toDs, PyData.eqvAll, h1, eqvs_of ws e.2]; rfl
end
/-- an owned list as it is now -/
def rsv (x : W) (h : HW) : W := match x with
  | .ref p => (match h p with | some (.lst ws) => .lst ws | _ => .ref p)
  | x => x
theorem rsv_of {x : W} {h : HW} (e : dataW x = true) : rsv x h = x := by cases x <;> first | rfl | exact absurd e (by simp [dataW])
theorem dpr_of {H : Hp} {h : HW} (hr : HR K H h) {v : V} {w : W} (r : RW K H h v w) (e : dataW (rsv w h) = true) : Dp K H v (toD (rsv w h)) := by
  cases w with
  | ref p =>
    unfold rsv at e ⊢
    dsimp only at e ⊢
    split at e
    · rename_i ws hp
      cases r
      obtain ⟨vs, a, q⟩ := hr _ _ hp
      rw [toD]; exact .lst (.inl (.inl a)) (dps_of q (by simpa [dataW] using e))
    · simp [dataW] at e
  | _ => exact dp_of r e
def eqW : RW2 := fun x y h R => match x, y with
  | .int i, .int j => R (.bl (decide (i = j))) h
  | .str s, .str t => R (.bl (decide (s = t))) h
  | x, y => dataW (rsv x h) = true ∧ dataW (rsv y h) = true ∧ depW (rsv x h) ≤ 64 ∧ depW (rsv y h) ≤ 64 ∧ R (.bl (eqD (rsv x h) (rsv y h))) h
def neW : RW2 := fun x y h R => match x, y with
  | .int i, .int j => R (.bl (!decide (i = j))) h
  | .str s, .str t => R (.bl (!decide (s = t))) h
  | x, y => dataW (rsv x h) = true ∧ dataW (rsv y h) = true ∧ depW (rsv x h) ≤ 64 ∧ depW (rsv y h) ≤ 64 ∧ R (.bl (!eqD (rsv x h) (rsv y h))) h
theorem shaped_of {x : W} (h : dataW x = true) (d : depW x ≤ 64) : SeqAt.shaped (toD x) = true := by
  unfold SeqAt.shaped
  rw [lay_of x h, Bool.true_and, decide_eq_true_eq]
  exact Nat.le_trans (dep_of x) d
theorem eqD_nil (ws : List W) : eqD (.lst ws) (.lst []) = ws.isEmpty := by cases ws <;> simp [eqD, toD, toDs, PyData.eqv, PyData.eqvAll]
theorem ow_eq (hu : X.A.units + 64 < cLine) : OpR X (compareOp .Eq) (fun x y H Q => rEq x y H Q ∨ rEqD X.K x y H Q) := op_eq.or (op_eqD hu)
theorem ow_ne (hu : X.A.units + 64 < cLine) : OpR X (compareOp .NotEq) (fun x y H Q => rNe x y H Q ∨ rNeD X.K x y H Q) := op_ne.or (op_neD hu)
theorem lf_eq : Lf2 K (fun x y H Q => rEq x y H Q ∨ rEqD K x y H Q) eqW := fun x y H Q w1 w2 h R r1 r2 hr t k => by
  unfold eqW at t
  split at t
  · cases r1; cases r2
    refine .inl ⟨rfl, ?_⟩
    have := k.go hr t (.bl _)
    simpa [V.int.injEq] using this
  · cases r1; cases r2
    refine .inl ⟨rfl, ?_⟩
    have := k.go hr t (.bl _)
    simpa [V.str.injEq, mkS_inj] using this
  · obtain ⟨a, b, c, d, t⟩ := t
    exact .inr ⟨_, _, dpr_of hr r1 a, dpr_of hr r2 b, shaped_of a c, shaped_of b d, k.go hr t (.bl _)⟩
theorem lf_ne : Lf2 K (fun x y H Q => rNe x y H Q ∨ rNeD K x y H Q) neW := fun x y H Q w1 w2 h R r1 r2 hr t k => by
  unfold neW at t
  split at t
  · cases r1; cases r2
    refine .inl ⟨rfl, ?_⟩
    have := k.go hr t (.bl _)
    simpa [V.int.injEq] using this
  · cases r1; cases r2
    refine .inl ⟨rfl, ?_⟩
    have := k.go hr t (.bl _)
    simpa [V.str.injEq, mkS_inj] using this
  · obtain ⟨a, b, c, d, t⟩ := t
    exact .inr ⟨_, _, dpr_of hr r1 a, dpr_of hr r2 b, shaped_of a c, shaped_of b d, k.go hr t (.bl _)⟩
end
end Wl

set_option Elab.async false
set_option linter.all false
set_option maxRecDepth 100000
namespace Wl
open PySem PySem.Spec PyProof.Rows L2
section
variable {X : Cx} {K : PySem.W.Frag} {H : Hp} {h : HW}
theorem RWs.ints : ∀ {vs : List V} {ns : List Int}, RWs K H h vs (ns.map W.int) → vs = ns.map V.int
  | _, [], .nil => rfl
  | _, n :: ns, .cons r t => by rw [List.map_cons, r.eq_int, RWs.ints t]
theorem RWs.strs : ∀ {vs : List V} {ns : List (List Nat)}, RWs K H h vs (ns.map W.str) → vs = (ns.map mkS).map V.str
  | _, [], .nil => rfl
  | _, n :: ns, .cons r t => by rw [List.map_cons, List.map_cons, r.eq_str, RWs.strs t]
theorem RWs.bls : ∀ {vs : List V} {ns : List Bool}, RWs K H h vs (ns.map W.bl) → vs = ns.map V.bl
  | _, [], .nil => rfl
  | _, n :: ns, .cons r t => by rw [List.map_cons, r.eq_bl, RWs.bls t]
theorem RWs.of_ints : ∀ {ns : List Int}, RWs K H h (ns.map V.int) (ns.map W.int)
  | [] => .nil
  | n :: ns => .cons (.int n) RWs.of_ints
theorem RWs.of_strs : ∀ {ns : List (List Nat)}, RWs K H h ((ns.map mkS).map V.str) (ns.map W.str)
  | [] => .nil
  | n :: ns => .cons (.str n) RWs.of_strs
/-! ## in -/
def flatW : W → Bool
  | .int _ => true
  | .str _ => true
  | _ => false
def eqF : W → W → Bool
  | .int i, .int j => decide (i = j)
  | .str i, .str j => decide (i = j)
  | _, _ => false
def keyW : W → Option L2.Key
  | .int i => some (.inl i)
  | .str s => some (.inr (mkS s))
  | _ => none
def inW : RW2 := fun x y h R => match y with
  | .tup ws => flatW x = true ∧ ws.all flatW = true ∧ R (.bl (ws.any fun w => eqF w x)) h
  | .lst ws => flatW x = true ∧ ws.all flatW = true ∧ R (.bl (ws.any fun w => eqF w x)) h
  | .str t => match x with
    | .str [c] => R (.bl (decide (c ∈ t))) h
    | _ => False
  | .ref p => match h p with
    | some (.lst ws) => flatW x = true ∧ ws.all flatW = true ∧ R (.bl (ws.any fun w => eqF w x)) h
    | _ => False
  | _ => False
def notInW : RW2 := fun x y h R => match y with
  | .tup ws => flatW x = true ∧ ws.all flatW = true ∧ R (.bl (!ws.any fun w => eqF w x)) h
  | .lst ws => flatW x = true ∧ ws.all flatW = true ∧ R (.bl (!ws.any fun w => eqF w x)) h
  | .str t => match x with
    | .str [c] => R (.bl (!decide (c ∈ t))) h
    | _ => False
  | .ref p => match h p with
    | some (.lst ws) => flatW x = true ∧ ws.all flatW = true ∧ R (.bl (!ws.any fun w => eqF w x)) h
    | _ => False
  | _ => False
theorem flat_of {v : V} {w : W} (r : RW K H h v w) (f : flatW w = true) : flatV v = true := by
  cases r <;> first | rfl | exact absurd f Bool.false_ne_true
theorem flats_of : ∀ {vs : List V} {ws : List W}, RWs K H h vs ws → ws.all flatW = true → vs.all flatV = true
  | _, _, .nil, _ => rfl
  | _, _, .cons r t, f => by
    rw [List.all_cons, Bool.and_eq_true] at f ⊢
    exact ⟨flat_of r f.1, flats_of t f.2⟩
theorem eqF_of {v u : V} {w x : W} (r : RW K H h v w) (q : RW K H h u x) (f : flatW w = true) (g : flatW x = true) : eqV v u = eqF w x := by
  cases r <;> first | exact absurd f Bool.false_ne_true | skip
  · cases q <;> first | exact absurd g Bool.false_ne_true | skip
    · show (_ == _) = decide _; exact Bool.beq_eq_decide_eq _ _
    · rfl
  · cases q <;> first | exact absurd g Bool.false_ne_true | skip
    · rfl
    · rename_i a b
      show (mkS a == mkS b) = decide (a = b)
      by_cases e : a = b
      · subst e; simp
      · simp [e, mkS_inj]
theorem inV_of {u : V} {x : W} (q : RW K H h u x) (g : flatW x = true) : ∀ {vs : List V} {ws : List W}, RWs K H h vs ws → ws.all flatW = true → inV u vs = ws.any fun w => eqF w x
  | _, _, .nil, _ => rfl
  | _, _, .cons r t, f => by
    rw [List.all_cons, Bool.and_eq_true] at f
    unfold inV
    rw [List.any_cons, List.any_cons, eqF_of r q f.1 g]
    congr 1
    exact inV_of q g t f.2
theorem dec_mem {c : Nat} {t : List Nat} : decide (c ∈ (mkS t).cps.toList) = decide (c ∈ t) := by
  rw [decide_eq_decide]; simp [mkS]
theorem ow_in : OpR X (compareOp .In) (fun x y H Q => rIn X.K false x y H Q ∨ (∃ (c : Nat) (z : Str), x = .str ⟨#[c]⟩ ∧ y = .str z ∧ Q (.bl (decide (c ∈ z.cps.toList))) H)) := op_in_seq.or op_in_sign
theorem ow_notIn : OpR X (compareOp .NotIn) (fun x y H Q => rIn X.K true x y H Q ∨ (∃ (c : Nat) (z : Str), x = .str ⟨#[c]⟩ ∧ y = .str z ∧ Q (.bl (!decide (c ∈ z.cps.toList))) H)) := op_notIn_seq.or op_notIn_sign
theorem lf_in : Lf2 K (fun x y H Q => rIn K false x y H Q ∨ (∃ (c : Nat) (z : Str), x = .str ⟨#[c]⟩ ∧ y = .str z ∧ Q (.bl (decide (c ∈ z.cps.toList))) H)) inW := fun x y H Q w1 w2 h R r1 r2 hr t k => by
  unfold inW at t
  split at t
  · obtain ⟨f, g, t⟩ := t
    cases r2 with
    | tup f2 q2 => exact .inl ⟨_, _, rfl, .inr f2.sq, flat_of r1 f, flats_of q2 g, by rw [inV_of r1 f q2 g]; exact k.go hr t (.bl _)⟩
  · obtain ⟨f, g, t⟩ := t
    cases r2 with
    | lst f2 q2 => exact .inl ⟨_, _, rfl, .inl f2.sq, flat_of r1 f, flats_of q2 g, by rw [inV_of r1 f q2 g]; exact k.go hr t (.bl _)⟩
  · split at t
    · cases r1; cases r2
      exact .inr ⟨_, _, rfl, rfl, by rw [dec_mem]; exact k.go hr t (.bl _)⟩
    · exact t.elim
  · split at t
    · rename_i p e ws hp
      obtain ⟨f, g, t⟩ := t
      cases r2
      obtain ⟨vs, hv, q2⟩ := hr p _ hp
      exact .inl ⟨_, _, rfl, .inl (SqL.of hv), flat_of r1 f, flats_of q2 g, by rw [inV_of r1 f q2 g]; exact k.go hr t (.bl _)⟩
    · exact t.elim
  · exact t.elim
theorem lf_notIn : Lf2 K (fun x y H Q => rIn K true x y H Q ∨ (∃ (c : Nat) (z : Str), x = .str ⟨#[c]⟩ ∧ y = .str z ∧ Q (.bl (!decide (c ∈ z.cps.toList))) H)) notInW := fun x y H Q w1 w2 h R r1 r2 hr t k => by
  unfold notInW at t
  split at t
  · obtain ⟨f, g, t⟩ := t
    cases r2 with
    | tup f2 q2 => exact .inl ⟨_, _, rfl, .inr f2.sq, flat_of r1 f, flats_of q2 g, by rw [inV_of r1 f q2 g]; exact k.go hr t (.bl _)⟩
  · obtain ⟨f, g, t⟩ := t
    cases r2 with
    | lst f2 q2 => exact .inl ⟨_, _, rfl, .inl f2.sq, flat_of r1 f, flats_of q2 g, by rw [inV_of r1 f q2 g]; exact k.go hr t (.bl _)⟩
  · split at t
    · cases r1; cases r2
      exact .inr ⟨_, _, rfl, rfl, by rw [dec_mem]; exact k.go hr t (.bl _)⟩
    · exact t.elim
  · split at t
    · rename_i p e ws hp
      obtain ⟨f, g, t⟩ := t
      cases r2
      obtain ⟨vs, hv, q2⟩ := hr p _ hp
      exact .inl ⟨_, _, rfl, .inl (SqL.of hv), flat_of r1 f, flats_of q2 g, by rw [inV_of r1 f q2 g]; exact k.go hr t (.bl _)⟩
    · exact t.elim
  · exact t.elim
/-! ## subscripts, slices -/
theorem RWs.atI {vs : List V} {ws : List W} {i : Int} {w : W} (r : RWs K H h vs ws) (e : atI ws i = some w) : ∃ v, L2.atI vs i = some v ∧ RW K H h v w := by
  unfold L2.atI at e ⊢
  rw [r.length]
  cases q : ixN ws.length i with
  | none => rw [q] at e; cases e
  | some j => rw [q] at e; exact r.get e
def ixW : RW2 := fun x y h R => match y with
  | .int i => (match x with
    | .tup ws => (match atI ws i with | some w => R w h | none => False)
    | .lst ws => (match atI ws i with | some w => R w h | none => False)
    | .scr ws => (match atI ws i with | some w => R w h | none => False)
    | .str s => (match atI s i with | some c => s.length ≤ 16000000 ∧ R (.str [c]) h | none => False)
    | .ref p => (match h p with | some (.lst ws) => (match atI ws i with | some w => R w h | none => False) | _ => False)
    | _ => False)
  | _ => False
theorem lf_ix : Lf2 K (rIx K) ixW := fun x y H Q w1 w2 h R r1 r2 hr t k => by
  unfold ixW at t
  split at t
  · cases r2
    split at t
    · split at t
      · rename_i e
        cases r1 with
        | tup f q => obtain ⟨v, e1, e2⟩ := q.atI e; exact .inr (.inl ⟨_, _, _, _, rfl, rfl, f.sq, e1, k.go hr t e2⟩)
      · exact t.elim
    · split at t
      · rename_i e
        cases r1 with
        | lst f q => obtain ⟨v, e1, e2⟩ := q.atI e; exact .inl ⟨_, _, _, _, rfl, rfl, f.sq, e1, k.go hr t e2⟩
      · exact t.elim
    · split at t
      · rename_i e
        cases r1 with
        | scr f q => obtain ⟨v, e1, e2⟩ := q.atI e; exact .inl ⟨_, _, _, _, rfl, rfl, f.sq, e1, k.go hr t e2⟩
      · exact t.elim
    · split at t
      · rename_i s c e
        cases r1
        exact .inr (.inr ⟨_, _, c, rfl, rfl, by rw [mkS_length]; exact sz_big t.1, by simpa [mkS] using e, k.go hr t.2 (.str [c])⟩)
      · exact t.elim
    · split at t
      · rename_i hp
        split at t
        · rename_i e
          cases r1
          obtain ⟨vs, hv, q⟩ := hr _ _ hp
          obtain ⟨v, e1, e2⟩ := q.atI e
          exact .inl ⟨_, _, _, _, rfl, rfl, SqL.of hv, e1, k.go hr t e2⟩
        · exact t.elim
      · exact t.elim
    · exact t.elim
  · exact t.elim
def cut {α : Type} (xs : List α) (lo hi : Option Int) : List α := (xs.drop (HT.sIx xs.length 0 lo)).take (HT.sIx xs.length xs.length hi - HT.sIx xs.length 0 lo)
theorem RWs.cut {vs : List V} {ws : List W} (r : RWs K H h vs ws) (lo hi : Option Int) : RWs K H h (cutV vs lo hi) (Wl.cut ws lo hi) := by
  unfold cutV Wl.cut
  rw [r.length]
  exact (r.drop _).take _
abbrev TOW := SlW → HW → (Option Int → HW → Prop) → Prop
def oNoPart : TOW := fun _ h R => R none h
def oPart (t : TEW) : TOW := fun ρ h R => t ρ h fun x h1 => match x with | .int i => R (some i) h1 | _ => False
def lO (K : PySem.W.Frag) (L : Lk) (t : TOW) : TO := fun σ H Q => ∃ ρ h R, Sta K L σ H ρ h ∧ t ρ h R ∧ ∀ o h' H', R o h' → ST H h H' h' → HR K H' h' → Q o H'
theorem _root_.L2.PO.imp {X : Cx} {e : Option Expr} {t t' : TO} (h : PO X e t) (i : ∀ σ H Q, t' σ H Q → t σ H Q) : PO X e t' := ⟨fun p s σ H Q I q => h.run p s σ H Q I (i _ _ _ q)⟩
variable {L : Lk} {e : Expr} {te : TEW} {lo hi : Option Expr} {tl th : TOW} {pos p2 : Pos} {a b : Expr} {ta tb : TEW}
theorem wo_none : PO X none (lO X.K L oNoPart) := po_none.imp fun σ H Q ⟨ρ, h, R, S, t, k⟩ => k _ h H t (.refl _ _) S.hr
theorem wo_some (he : WE X L e te) : PO X (some e) (lO X.K L (oPart te)) := (po_some he).imp fun σ H Q ⟨ρ, h, R, S, t, k⟩ =>
  ⟨ρ, h, _, S, t, fun w1 h1 v1 H1 t1 s1 r1 q1 => by
    cases w1 with
    | int i => cases q1; exact ⟨i, rfl, k _ h1 H1 t1 s1 r1⟩
    | _ => exact t1.elim⟩
def slW (x : W) (lo hi : Option Int) (h : HW) (R : KW) : Prop := match x with
  | .tup ws => ¬ (HT.sIx ws.length 0 lo = 0 ∧ HT.sIx ws.length ws.length hi = ws.length) ∧ R (.tup (cut ws lo hi)) h
  | .lst ws => R (.lst (cut ws lo hi)) h
  | .scr ws => R (.lst (cut ws lo hi)) h
  | .str s => s.length ≤ 16000000 ∧ R (.str (cut s lo hi)) h
  | .ref p => match h p with | some (.lst ws) => R (.lst (cut ws lo hi)) h | _ => False
  | _ => False
def oSl (te : TEW) (tl th : TOW) : TEW := fun ρ h R => te ρ h fun x h1 => tl ρ h1 fun l h2 => th ρ h2 fun u h3 => slW x l u h3 R
def rSl (K : PySem.W.Frag) : V → Option Int → Option Int → Hp → VK → Prop := fun x lo hi H Q => rSlT K x lo hi H Q ∨ rSlL K x lo hi H Q ∨ rSlS x lo hi H Q
theorem sl_any : SlR X (rSl X.K) := sl_tup.or (sl_list.or sl_str)
theorem lf_sl {x : V} {w : W} {lo hi : Option Int} {R : KW} {Q : VK} (r : RW K H h x w) (hr : HR K H h) (t : slW w lo hi h R) (k : KV K H h R Q) : rSl K x lo hi H Q := by
  unfold slW at t
  split at t
  · cases r with
    | tup f q => exact .inl ⟨_, _, rfl, f.sq, by rw [q.length]; exact t.1, fun p hp => k.tup hr (q.cut lo hi) t.2 hp⟩
  · cases r with
    | lst f q => exact .inr (.inl ⟨_, _, rfl, f.sq, fun p hp => k.lst hr (q.cut lo hi) t hp⟩)
  · cases r with
    | scr f q => exact .inr (.inl ⟨_, _, rfl, f.sq, fun p hp => k.lst hr (q.cut lo hi) t hp⟩)
  · rename_i s
    cases r
    refine .inr (.inr ⟨_, rfl, by rw [mkS_length]; exact sz_big t.1, ?_⟩)
    have e : cutS (mkS s) lo hi = mkS (cut s lo hi) := by
      unfold cutS cut
      rw [mkS_length]; rfl
    rw [e]; exact k.go hr t.2 (.str _)
  · split at t
    · rename_i hp
      cases r
      obtain ⟨vs, hv, q⟩ := hr _ _ hp
      exact .inr (.inl ⟨_, _, rfl, SqL.of hv, fun p hp => k.lst hr (q.cut lo hi) t hp⟩)
    · exact t.elim
  · exact t.elim
theorem w_slice (he : WE X L e te) (hl : PO X lo (lO X.K L tl)) (hu : PO X hi (lO X.K L th)) : WE X L (.Subscript e (.Slice lo hi none p2) pos) (oSl te tl th) := (pe_slice sl_any he hl hu).imp fun σ H Q ⟨ρ, h, R, S, t, k⟩ =>
  ⟨ρ, h, _, S, t, fun w1 h1 v1 H1 t1 s1 r1 q1 => ⟨ρ, h1, _, S.to s1 r1, t1, fun o1 h2 H2 t2 s2 r2 => ⟨ρ, h2, _, S.to (s1.trans s2) r2, t2, fun o2 h3 H3 t3 s3 r3 =>
    lf_sl (q1.mono (s2.trans s3)) r3 t3 (k.mono (s1.trans (s2.trans s3)))⟩⟩⟩
theorem w_ix (ha : WE X L a ta) (hb : WE X L b tb) (hs : PlainIx b := by exact fun _ _ => rfl) : WE X L (.Subscript a b pos) (oOp ixW ta tb) := (pe_ix ix_seq ha hb hs).imp (bin_imp lf_ix)
/-- xs[::-1] of a list -/
def revW : W → HW → KW → Prop := fun x h R => match x with
  | .lst ws => R (.lst ws.reverse) h
  | .scr ws => R (.lst ws.reverse) h
  | .ref p => (match h p with | some (.lst ws) => R (.lst ws.reverse) h | _ => False)
  | _ => False
theorem w_rev {k : Nat} {p1 p2 p3 pos : Pos} (he : WE X L e te) : WE X L (.Subscript e (.Slice none none (some (.UnaryOp .USub (.Constant (.int 1) k p1) p2)) p3) pos) (oUn revW te) := (pe_revL he).imp fun σ H Q ⟨ρ, h, R, S, t, k⟩ =>
  ⟨ρ, h, _, S, t, fun w1 h1 v1 H1 t1 s1 r1 q1 => by
    unfold revW at t1
    split at t1
    · cases q1 with
      | lst f q => exact ⟨_, _, rfl, f.sq, fun p hp => (k.mono s1).lst r1 q.reverse t1 hp⟩
    · cases q1 with
      | scr f q => exact ⟨_, _, rfl, f.sq, fun p hp => (k.mono s1).lst r1 q.reverse t1 hp⟩
    · split at t1
      · rename_i hp
        cases q1
        obtain ⟨vs, hv, q⟩ := r1 _ _ hp
        exact ⟨_, _, rfl, SqL.of hv, fun p hp => (k.mono s1).lst r1 q.reverse t1 hp⟩
      · exact t1.elim
    · exact t1.elim⟩
end
end Wl

set_option Elab.async false
set_option linter.all false
set_option maxRecDepth 100000
namespace Wl
open PySem PySem.Spec PyProof.Rows L2
section
variable {X : Cx} {K : PySem.W.Frag} {H : Hp} {h : HW} {L : Lk} {pos p : Pos} {e : Expr} {es : List Expr} {t : TAW}
/-! ## built-ins by their names -/
def oCB (rw : List W → HW → KW → Prop) (t : TAW) : TEW := fun ρ h R => t ρ h fun ws h1 => rw ws h1 R
theorem cb_imp {r : List V → Hp → VK → Prop} {rw : List W → HW → KW → Prop} (l : LfC X.K r rw) : ∀ σ H Q, lE X.K L (oCB rw t) σ H Q → tCB r (lA X.K L t) σ H Q := fun σ H Q ⟨ρ, h, R, S, t, k⟩ =>
  ⟨ρ, h, _, S, t, fun ws h1 vs H1 t1 s1 r1 q1 => l vs H1 Q ws h1 R q1 r1 t1 (k.mono s1)⟩
theorem w_callB {x : Str} {id : String} {r : List V → Hp → VK → Prop} {rw : List W → HW → KW → Prop} (hc : CallR X (.builtin id) r) (l : LfC X.K r rw) (hg : Gl X x) (hm : X.mg x = none) (hv : bootBuiltins x = some (.builtin id)) (ha : WA X L (e :: es) t)
    (hn : x ≠ "__name__" := by decide) (hdb : (x == ("__debug__" : Str)) = false := by decide)
    (he : starEach (e :: es) X.env = (false, eval e X.env) :: starEach es X.env := by rfl) (hpl : (backTo pos (starEach es X.env)).any (·.1) = false := by rfl) : WE X L (.Call (.Name x p) (e :: es) [] pos) (oCB rw t) :=
  (pe_callB hc hg hm hv ha hn hdb he hpl).imp (cb_imp l)
theorem w_callTy {x : Str} {T : String} {r : List V → Hp → VK → Prop} {rw : List W → HW → KW → Prop} (hc : CallR X (.type T) r) (l : LfC X.K r rw) (hg : Gl X x) (hm : X.mg x = none) (hv : bootBuiltins x = some (.type T)) (ha : WA X L (e :: es) t)
    (hn : x ≠ "__name__" := by decide) (hdb : (x == ("__debug__" : Str)) = false := by decide)
    (he : starEach (e :: es) X.env = (false, eval e X.env) :: starEach es X.env := by rfl) (hpl : (backTo pos (starEach es X.env)).any (·.1) = false := by rfl) : WE X L (.Call (.Name x p) (e :: es) [] pos) (oCB rw t) :=
  (pe_callTy hc hg hm hv ha hn hdb he hpl).imp (cb_imp l)
def lenW : List W → HW → KW → Prop := fun ws h R => match ws with
  | [.tup xs] => R (.int xs.length) h
  | [.lst xs] => R (.int xs.length) h
  | [.scr xs] => R (.int xs.length) h
  | [.str s] => s.length ≤ 16000000 ∧ R (.int s.length) h
  | [.ref p] => (match h p with | some (.lst xs) => R (.int xs.length) h | _ => False)
  | _ => False
theorem lf_len : LfC K (fun xs H Q => ∃ x n, xs = [x] ∧ LenV K x H n ∧ Q (.int n) H) lenW := fun xs H Q ws h R r hr t k => by
  unfold lenW at t
  split at t
  · obtain ⟨x, rfl, q⟩ := r.one
    cases q with
    | tup f q => exact ⟨_, _, rfl, .inr ⟨_, f.sq, q.length.symm⟩, k.go hr t (.int _)⟩
  · obtain ⟨x, rfl, q⟩ := r.one
    cases q with
    | lst f q => exact ⟨_, _, rfl, .inl ⟨_, f.sq, q.length.symm⟩, k.go hr t (.int _)⟩
  · obtain ⟨x, rfl, q⟩ := r.one
    cases q with
    | scr f q => exact ⟨_, _, rfl, .inl ⟨_, f.sq, q.length.symm⟩, k.go hr t (.int _)⟩
  · obtain ⟨x, rfl, q⟩ := r.one
    cases q
    exact ⟨_, _, rfl, ⟨by rw [mkS_length]; exact sz_big t.1, (mkS_length _).symm⟩, k.go hr t.2 (.int _)⟩
  · split at t
    · rename_i hp
      obtain ⟨x, rfl, q⟩ := r.one
      cases q
      obtain ⟨vs, hv, q⟩ := hr _ _ hp
      exact ⟨_, _, rfl, .inl ⟨_, SqL.of hv, q.length.symm⟩, k.go hr t (.int _)⟩
    · exact t.elim
  · exact t.elim
def absW : List W → HW → KW → Prop := fun ws h R => match ws with | [.int i] => R (.int i.natAbs) h | _ => False
theorem lf_abs : LfC K (fun xs H Q => ∃ i, xs = [.int i] ∧ Q (.int (if i < 0 then -i else i)) H) absW := fun xs H Q ws h R r hr t k => by
  unfold absW at t
  split at t
  · rename_i i
    obtain ⟨x, rfl, q⟩ := r.one
    cases q
    refine ⟨_, rfl, ?_⟩
    have e : (if i < 0 then -i else i) = (i.natAbs : Int) := by split <;> omega
    rw [e]; exact k.go hr t (.int _)
  · exact t.elim
def toIntW : List W → HW → KW → Prop := fun ws h R => match ws with | [.int i] => R (.int i) h | [.bl b] => R (.int (if b = true then 1 else 0)) h | _ => False
theorem lf_toInt : LfC K (fun xs H Q => (∃ i, xs = [.int i] ∧ Q (.int i) H) ∨ ∃ k, xs = [.bl k] ∧ Q (.int (if k then 1 else 0)) H) toIntW := fun xs H Q ws h R r hr t k => by
  unfold toIntW at t
  split at t
  · obtain ⟨x, rfl, q⟩ := r.one; cases q; exact .inl ⟨_, rfl, k.go hr t (.int _)⟩
  · obtain ⟨x, rfl, q⟩ := r.one; cases q; exact .inr ⟨_, rfl, k.go hr t (.int _)⟩
  · exact t.elim
/-- the decimal text of an int -/
def decS (i : Int) : List Nat := (Str.ofString (toString i)).cps.toList
def strW : List W → HW → KW → Prop := fun ws h R => match ws with | [.int i] => i.natAbs.log2 < 1920 ∧ R (.str (decS i)) h | _ => False
theorem lf_str : LfC K (fun xs H Q => ∃ i, xs = [.int i] ∧ i.natAbs.log2 < 1920 ∧ Q (.str (toString i)) H) strW := fun xs H Q ws h R r hr t k => by
  unfold strW at t
  split at t
  · obtain ⟨x, rfl, q⟩ := r.one; cases q
    refine ⟨_, rfl, t.1, k.go hr t.2 ?_⟩
    rw [mkS_list (Str.ofString (toString _))]; exact .str _
  · exact t.elim
def intsOf : List W → Option (List Int)
  | [] => some []
  | .int i :: r => (intsOf r).map (i :: ·)
  | _ :: _ => none
theorem intsOf_map : ∀ ns : List Int, intsOf (ns.map W.int) = some ns
  | [] => rfl
  | n :: ns => by rw [List.map_cons, intsOf, intsOf_map ns]; rfl
theorem intsOf_eq : ∀ {ws : List W} {ns : List Int}, intsOf ws = some ns → ws = ns.map W.int
  | [], ns, e => by cases e; rfl
  | .int i :: r, ns, e => by
    rw [intsOf] at e
    cases q : intsOf r with
    | none => rw [q] at e; cases e
    | some ms => rw [q] at e; cases e; rw [List.map_cons, intsOf_eq q]
  | .non :: _, _, e => nomatch e
  | .bl _ :: _, _, e => nomatch e
  | .str _ :: _, _, e => nomatch e
  | .tup _ :: _, _, e => nomatch e
  | .lst _ :: _, _, e => nomatch e
  | .scr _ :: _, _, e => nomatch e
  | .dic _ :: _, _, e => nomatch e
  | .ref _ :: _, _, e => nomatch e
  | .ty _ :: _, _, e => nomatch e
def blsOf : List W → Option (List Bool)
  | [] => some []
  | .bl i :: r => (blsOf r).map (i :: ·)
  | _ :: _ => none
theorem blsOf_map : ∀ ns : List Bool, blsOf (ns.map W.bl) = some ns
  | [] => rfl
  | n :: ns => by rw [List.map_cons, blsOf, blsOf_map ns]; rfl
theorem blsOf_eq : ∀ {ws : List W} {ns : List Bool}, blsOf ws = some ns → ws = ns.map W.bl
  | [], ns, e => by cases e; rfl
  | .bl i :: r, ns, e => by
    rw [blsOf] at e
    cases q : blsOf r with
    | none => rw [q] at e; cases e
    | some ms => rw [q] at e; cases e; rw [List.map_cons, blsOf_eq q]
  | .non :: _, _, e => nomatch e
  | .int _ :: _, _, e => nomatch e
  | .str _ :: _, _, e => nomatch e
  | .tup _ :: _, _, e => nomatch e
  | .lst _ :: _, _, e => nomatch e
  | .scr _ :: _, _, e => nomatch e
  | .dic _ :: _, _, e => nomatch e
  | .ref _ :: _, _, e => nomatch e
  | .ty _ :: _, _, e => nomatch e
def strsOf : List W → Option (List (List Nat))
  | [] => some []
  | .str i :: r => (strsOf r).map (i :: ·)
  | _ :: _ => none
theorem strsOf_map : ∀ ns : List (List Nat), strsOf (ns.map W.str) = some ns
  | [] => rfl
  | n :: ns => by rw [List.map_cons, strsOf, strsOf_map ns]; rfl
theorem strsOf_eq : ∀ {ws : List W} {ns : List (List Nat)}, strsOf ws = some ns → ws = ns.map W.str
  | [], ns, e => by cases e; rfl
  | .str i :: r, ns, e => by
    rw [strsOf] at e
    cases q : strsOf r with
    | none => rw [q] at e; cases e
    | some ms => rw [q] at e; cases e; rw [List.map_cons, strsOf_eq q]
  | .non :: _, _, e => nomatch e
  | .int _ :: _, _, e => nomatch e
  | .bl _ :: _, _, e => nomatch e
  | .tup _ :: _, _, e => nomatch e
  | .lst _ :: _, _, e => nomatch e
  | .scr _ :: _, _, e => nomatch e
  | .dic _ :: _, _, e => nomatch e
  | .ref _ :: _, _, e => nomatch e
  | .ty _ :: _, _, e => nomatch e
def sumW : List W → HW → KW → Prop := fun ws h R => match ws with | [.lst xs] => (match intsOf xs with | some ns => R (.int ns.sum) h | none => False) | _ => False
theorem lf_sum : LfC K (rSum K) sumW := fun xs H Q ws h R r hr t k => by
  unfold sumW at t
  split at t
  · split at t
    · rename_i e
      obtain ⟨x, rfl, q⟩ := r.one
      cases q with
      | lst f q => rw [intsOf_eq e] at q; exact ⟨_, _, rfl, by rw [← q.ints]; exact f.sq, k.go hr t (.int _)⟩
    · exact t.elim
  · exact t.elim
/-- the greatest of a list with a first item -/
def maxI (n : Int) (ns : List Int) : Int := ns.foldl max n
theorem maxI_mem : ∀ (ns : List Int) (n : Int), maxI n ns ∈ n :: ns
  | [], n => by simp [maxI]
  | m :: ns, n => by
    have := maxI_mem ns (max n m)
    show maxI (max n m) ns ∈ _
    rcases List.mem_cons.mp this with e | e
    · rw [e]; rcases Int.le_total n m with q | q
      · rw [Int.max_eq_right q]; simp
      · rw [Int.max_eq_left q]; simp
    · exact List.mem_cons_of_mem _ (List.mem_cons_of_mem _ e)
theorem maxI_ge : ∀ (ns : List Int) (n y : Int), y ∈ n :: ns → y ≤ maxI n ns
  | [], n, y, h => by simp at h; subst h; exact Int.le_refl _
  | m :: ns, n, y, h => by
    have up := maxI_ge ns (max n m)
    show y ≤ maxI (max n m) ns
    rcases List.mem_cons.mp h with e | e
    · subst e; exact Int.le_trans (Int.le_max_left _ _) (up _ List.mem_cons_self)
    · rcases List.mem_cons.mp e with e | e
      · subst e; exact Int.le_trans (Int.le_max_right _ _) (up _ List.mem_cons_self)
      · exact up _ (List.mem_cons_of_mem _ e)
def maxW : List W → HW → KW → Prop := fun ws h R => match ws with | [.lst xs] => (match intsOf xs with | some (n :: ns) => R (.int (maxI n ns)) h | _ => False) | _ => False
theorem lf_max : LfC K (rMax K) maxW := fun xs H Q ws h R r hr t k => by
  unfold maxW at t
  split at t
  · split at t
    · rename_i n ns e
      obtain ⟨x, rfl, q⟩ := r.one
      cases q with
      | lst f q =>
        rw [intsOf_eq e] at q
        refine ⟨_, n :: ns, rfl, by rw [← q.ints]; exact f.sq, Nat.zero_lt_succ _, fun m h1 h2 => ?_⟩
        have e : m = maxI n ns := Int.le_antisymm (maxI_ge ns n m h1) (h2 _ (maxI_mem ns n))
        rw [e]; exact k.go hr t (.int _)
    · exact t.elim
  · exact t.elim
def allW : List W → HW → KW → Prop := fun ws h R => match ws with | [.lst xs] => (match blsOf xs with | some ns => R (.bl (ns.all id)) h | none => False) | _ => False
theorem lf_all : LfC K (rAll K) allW := fun xs H Q ws h R r hr t k => by
  unfold allW at t
  split at t
  · split at t
    · rename_i e
      obtain ⟨x, rfl, q⟩ := r.one
      cases q with
      | lst f q => rw [blsOf_eq e] at q; exact ⟨_, _, rfl, by rw [← q.bls]; exact f.sq, k.go hr t (.bl _)⟩
    · exact t.elim
  · exact t.elim
/-- list(x): a new list that stays -/
def listW : List W → HW → KW → Prop := fun ws h R => match ws with
  | [.tup xs] => R (.lst xs) h
  | [.lst xs] => R (.lst xs) h
  | [.scr xs] => R (.lst xs) h
  | [.ref p] => (match h p with | some (.lst xs) => R (.lst xs) h | _ => False)
  | _ => False
theorem lf_list : LfC K (fun xs H Q => ∃ p ys, xs = [.ref p] ∧ (SqL K H p ys ∨ SqT K H p ys) ∧ ∀ l, H l = none → Q (.ref l) (upd H l (.lst ys))) listW := fun xs H Q ws h R r hr t k => by
  unfold listW at t
  split at t
  · obtain ⟨x, rfl, q⟩ := r.one
    cases q with
    | tup f q => exact ⟨_, _, rfl, .inr f.sq, fun p hp => k.lst hr q t hp⟩
  · obtain ⟨x, rfl, q⟩ := r.one
    cases q with
    | lst f q => exact ⟨_, _, rfl, .inl f.sq, fun p hp => k.lst hr q t hp⟩
  · obtain ⟨x, rfl, q⟩ := r.one
    cases q with
    | scr f q => exact ⟨_, _, rfl, .inl f.sq, fun p hp => k.lst hr q t hp⟩
  · split at t
    · rename_i hp
      obtain ⟨x, rfl, q⟩ := r.one
      cases q
      obtain ⟨vs, hv, q⟩ := hr _ _ hp
      exact ⟨_, _, rfl, .inl (SqL.of hv), fun p hp => k.lst hr q t hp⟩
    · exact t.elim
  · exact t.elim
/-- list(x): a new list that will be written -/
def listOW : List W → HW → KW → Prop := fun ws h R => match ws with
  | [.tup xs] => ∀ p, h p = none → R (.ref p) (updW h p (.lst xs))
  | [.lst xs] => ∀ p, h p = none → R (.ref p) (updW h p (.lst xs))
  | [.scr xs] => ∀ p, h p = none → R (.ref p) (updW h p (.lst xs))
  | _ => False
theorem lf_listO : LfC K (fun xs H Q => ∃ p ys, xs = [.ref p] ∧ (SqL K H p ys ∨ SqT K H p ys) ∧ ∀ l, H l = none → Q (.ref l) (upd H l (.lst ys))) listOW := fun xs H Q ws h R r hr t k => by
  unfold listOW at t
  split at t
  · obtain ⟨x, rfl, q⟩ := r.one
    cases q with
    | tup f q => exact ⟨_, _, rfl, .inr f.sq, fun p hp => k.lstO hr q t hp⟩
  · obtain ⟨x, rfl, q⟩ := r.one
    cases q with
    | lst f q => exact ⟨_, _, rfl, .inl f.sq, fun p hp => k.lstO hr q t hp⟩
  · obtain ⟨x, rfl, q⟩ := r.one
    cases q with
    | scr f q => exact ⟨_, _, rfl, .inl f.sq, fun p hp => k.lstO hr q t hp⟩
  · exact t.elim
/-- isinstance(x, T), T a built-in class -/
def isW : List W → HW → KW → Prop := fun ws h R => match ws with
  | [.int _, .ty n] => (match kitB "int" n with | some b => R (.bl b) h | none => False)
  | [.bl _, .ty n] => (match kitB "bool" n with | some b => R (.bl b) h | none => False)
  | [.str _, .ty n] => (match kitB "str" n with | some b => R (.bl b) h | none => False)
  | [.tup _, .ty n] => (match kitB "tuple" n with | some b => R (.bl b) h | none => False)
  | [.lst _, .ty n] => (match kitB "list" n with | some b => R (.bl b) h | none => False)
  | _ => False
theorem lf_is : LfC K (rIsi K) isW := fun xs H Q ws h R r hr t k => by
  unfold isW at t
  split at t
  · split at t
    · rename_i e
      obtain ⟨x, y, rfl, q, q'⟩ := r.two
      cases q; cases q'
      exact ⟨_, _, _, _, _, rfl, .ty _, .base (.int _), kit_ty e, k.go hr t (.bl _)⟩
    · exact t.elim
  · split at t
    · rename_i e
      obtain ⟨x, y, rfl, q, q'⟩ := r.two
      cases q; cases q'
      exact ⟨_, _, _, _, _, rfl, .ty _, .base (.bl _), kit_ty e, k.go hr t (.bl _)⟩
    · exact t.elim
  · split at t
    · rename_i e
      obtain ⟨x, y, rfl, q, q'⟩ := r.two
      cases q; cases q'
      exact ⟨_, _, _, _, _, rfl, .ty _, .base (.str _), kit_ty e, k.go hr t (.bl _)⟩
    · exact t.elim
  · split at t
    · rename_i e
      obtain ⟨x, y, rfl, q, q'⟩ := r.two
      cases q'
      cases q with
      | tup f q =>
        rcases f with ⟨f | ⟨o, f⟩, _⟩ | ⟨o, its, n, f, c, _⟩
        · exact ⟨_, _, _, _, _, rfl, .ty _, .base (.tup f), kit_ty e, k.go hr t (.bl _)⟩
        · exact ⟨_, _, _, _, _, rfl, .ty _, .fTuple f, kit_ty e, k.go hr t (.bl _)⟩
        · exact ⟨_, _, _, _, _, rfl, .ty _, .kTuple f c, kit_ty e, k.go hr t (.bl _)⟩
    · exact t.elim
  · split at t
    · rename_i e
      obtain ⟨x, y, rfl, q, q'⟩ := r.two
      cases q'
      cases q with
      | lst f q => exact ⟨_, _, _, _, _, rfl, .ty _, .base (.lst f.1), kit_ty e, k.go hr t (.bl _)⟩
    · exact t.elim
  · exact t.elim
/-! ## methods of built-in values -/
def tyS : W → HW → Prop := fun x _ => match x with | .str _ => True | _ => False
def tyL : W → HW → Prop := fun x h => match x with | .ref p => (match h p with | some (.lst _) => True | _ => False) | _ => False
def TyOk (K : PySem.W.Frag) (T : String) (ty : W → HW → Prop) : Prop := ∀ v w H h, RW K H h v w → HR K H h → ty w h → tyV K T v H
theorem tyS_ok : TyOk K "str" tyS := fun v w H h r hr t => by
  unfold tyS at t
  split at t
  · cases r; rfl
  · exact t.elim
theorem tyL_ok : TyOk K "list" tyL := fun v w H h r hr t => by
  unfold tyL at t
  split at t
  · split at t
    · rename_i hp
      cases r
      obtain ⟨vs, hv, q⟩ := hr _ _ hp
      exact .inl ⟨rfl, _, SqL.of hv⟩
    · exact t.elim
  · exact t.elim
def oBM0 (ty : W → HW → Prop) (rw : W → List W → HW → KW → Prop) (to : TEW) : TEW := fun ρ h R => to ρ h fun x h1 => ty x h1 ∧ rw x [] h1 R
def oBM (ty : W → HW → Prop) (rw : W → List W → HW → KW → Prop) (to : TEW) (t : TAW) : TEW := fun ρ h R => to ρ h fun x h1 => ty x h1 ∧ t ρ h1 fun ws h2 => rw x ws h2 R
section
variable {o : Expr} {to : TEW} {name : Str} {apos cpos : Pos} {id T : String} {r : V → List V → Hp → VK → Prop} {rw : W → List W → HW → KW → Prop} {ty : W → HW → Prop}
theorem w_bm0 (pa : PlainAttrs T) (slot : Slot T name id) (hty : typeOf (.builtin id) = pure (.type "method_descriptor")) (hm : MtR X id r) (tok : TyOk X.K T ty) (l : LfM X.K r rw) (ho : WE X L o to)
    (hbase : attributeBase o name X.env (eval o X.env) = eval o X.env := by rfl) (hline : (apos.endLine == cpos.line) = true := by rfl) :
    WE X L (.Call (.Attribute o name apos) [] [] cpos) (oBM0 ty rw to) := (pe_bm0 pa slot hty hm ho hbase hline).imp fun σ H Q ⟨ρ, h, R, S, t, k⟩ =>
  ⟨ρ, h, _, S, t, fun w1 h1 v1 H1 t1 s1 r1 q1 => ⟨tok _ _ _ _ q1 r1 t1.1, l _ _ H1 Q _ _ h1 R q1 .nil r1 t1.2 (k.mono s1)⟩⟩
theorem w_bm (pa : PlainAttrs T) (slot : Slot T name id) (hty : typeOf (.builtin id) = pure (.type "method_descriptor")) (hm : MtR X id r) (tok : TyOk X.K T ty) (l : LfM X.K r rw) (ho : WE X L o to) (ha : WA X L (e :: es) t)
    (hbase : attributeBase o name X.env (eval o X.env) = eval o X.env := by rfl)
    (hfew : ((backTo cpos (starEach (e :: es) X.env)).all (fun x => !x.1) && (backToKw cpos (keywordEach [] X.env)).all (fun x => x.1.isSome)
      && decide ((e :: es).length + ([] : List Keyword).length + (if ([] : List Keyword).isEmpty then 0 else 1) < 30)) = true := by rfl)
    (hline : (apos.endLine == cpos.line) = true := by rfl) (hs : starEach (e :: es) X.env = (false, eval e X.env) :: starEach es X.env := by rfl) (hplain : (backTo cpos (starEach es X.env)).any (·.1) = false := by rfl) :
    WE X L (.Call (.Attribute o name apos) (e :: es) [] cpos) (oBM ty rw to t) := (pe_bm pa slot hty hm ho ha hbase hfew hline hs hplain).imp fun σ H Q ⟨ρ, h, R, S, t, k⟩ =>
  ⟨ρ, h, _, S, t, fun w1 h1 v1 H1 t1 s1 r1 q1 => ⟨tok _ _ _ _ q1 r1 t1.1, ρ, h1, _, S.to s1 r1, t1.2, fun ws h2 vs H2 t2 s2 r2 q2 => l _ _ H2 Q _ _ h2 R (q1.mono s2) q2 r2 t2 (k.mono (s1.trans s2))⟩⟩
end
def appendW : W → List W → HW → KW → Prop := fun x ws h R => match x, ws with
  | .ref p, [y] => (match h p with | some (.lst xs) => xs.length ≤ 16000000 ∧ R .non (updW h p (.lst (xs ++ [y]))) | _ => False)
  | _, _ => False
theorem sz_lt {n : Nat} (h : n ≤ 16000000) : n < sizeLine := Nat.lt_of_le_of_lt h (by decide)
/-- an owned list is rewritten -/
theorem KV.mut {R : KW} {Q : VK} (k : KV K H h R Q) (hr : HR K H h) {p : Addr} {u0 : OW} (hp : h p = some u0) {vs : List V} {ws : List W} (r : RWs K H h vs ws) {v : V} {w : W} (q : RW K H h v w) (t : R w (updW h p (.lst ws))) : Q v (upd H p (.lst vs)) :=
  k _ _ _ _ t (.mut hp _ _) (hr.mut hp ⟨vs, upd_same, r.mono (.mut hp _ _)⟩) (q.mono (.mut hp _ _))
theorem lf_append : LfM K rAppend appendW := fun x xs H Q w ws h R r rs hr t k => by
  unfold appendW at t
  split at t
  · split at t
    · rename_i hp
      cases r
      obtain ⟨y, rfl, ry⟩ := rs.one
      obtain ⟨vs, hv, q⟩ := hr _ _ hp
      exact ⟨_, _, _, rfl, rfl, hv, by rw [q.length]; exact sz_lt t.1, k.mut hr hp (q.append (.cons ry .nil)) .non t.2⟩
    · exact t.elim
  · exact t.elim
def popW : W → List W → HW → KW → Prop := fun x ws h R => match x, ws with
  | .ref p, [] => (match h p with | some (.lst xs) => (match xs.getLast? with | some y => R y (updW h p (.lst xs.dropLast)) | none => False) | _ => False)
  | _, _ => False
theorem lf_pop : LfM K rPop popW := fun x xs H Q w ws h R r rs hr t k => by
  unfold popW at t
  split at t
  · split at t
    · rename_i hp
      split at t
      · rename_i e
        cases r
        cases rs
        obtain ⟨vs, hv, q⟩ := hr _ _ hp
        rw [List.getLast?_eq_getElem?] at e
        obtain ⟨v, e1, e2⟩ := q.get e
        exact ⟨_, _, v, rfl, rfl, hv, by rw [q.length]; exact e1, k.mut hr hp q.dropLast e2 t⟩
      · exact t.elim
    · exact t.elim
  · exact t.elim
/-- xs.extend(ys), ys a list that stays -/
def extendW : W → List W → HW → KW → Prop := fun x ws h R => match x, ws with
  | .ref p, [.lst ys] => (match h p with | some (.lst xs) => xs.length + ys.length ≤ 16000000 ∧ R .non (updW h p (.lst (xs ++ ys))) | _ => False)
  | _, _ => False
theorem lf_extend : LfM K rExtend extendW := fun x xs H Q w ws h R r rs hr t k => by
  unfold extendW at t
  split at t
  · split at t
    · rename_i hp
      cases r
      obtain ⟨y, rfl, ry⟩ := rs.one
      cases ry with
      | lst f q2 =>
        obtain ⟨vs, hv, q⟩ := hr _ _ hp
        exact ⟨_, _, _, _, rfl, rfl, hv, f.1, by rw [q.length, q2.length]; exact sz_big t.1, k.mut hr hp (q.append q2) .non t.2⟩
    · exact t.elim
  · exact t.elim
/-- sep.join(texts) -/
def joinS (a : List Nat) : List (List Nat) → List Nat
  | [] => []
  | [p] => p
  | p :: q :: r => p ++ (a ++ joinS a (q :: r))
def joinW : W → List W → HW → KW → Prop := fun x ws h R => match x, ws with
  | .str a, [.lst xs] => (match strsOf xs with | some ss => (ss.map List.length).sum + ss.length * a.length ≤ 16000000 ∧ R (.str (joinS a ss)) h | none => False)
  | _, _ => False
theorem join_mk (a : List Nat) : ∀ ss : List (List Nat), Str.join (mkS a) (ss.map mkS) = mkS (joinS a ss)
  | [] => rfl
  | [p] => rfl
  | p :: q :: r => by
    show mkS p ++ mkS a ++ Str.join (mkS a) ((q :: r).map mkS) = _
    rw [join_mk a (q :: r), mkS_append, mkS_append, joinS, List.append_assoc]
theorem lens_mk (ss : List (List Nat)) : (ss.map mkS).map (·.length) = ss.map List.length := by
  rw [List.map_map]
  apply List.map_congr_left
  intro x _; exact mkS_length x
theorem lf_join : LfM K (fun x xs H Q => ∃ a p, ∃ ys : List Str, x = .str a ∧ xs = [.ref p] ∧ (SqL K H p (ys.map V.str) ∨ SqT K H p (ys.map V.str)) ∧
    (ys.map (·.length)).sum + ys.length * a.length ≤ 16777216 ∧ Q (.str (Txt.join a ys)) H) joinW := fun x xs H Q w ws h R r rs hr t k => by
  unfold joinW at t
  split at t
  · split at t
    · rename_i ss e
      cases r
      obtain ⟨y, rfl, ry⟩ := rs.one
      cases ry with
      | lst f q =>
        rw [strsOf_eq e] at q
        refine ⟨_, _, ss.map mkS, rfl, rfl, .inl (by rw [← q.strs]; exact f.sq), ?_, ?_⟩
        · rw [lens_mk, List.length_map, mkS_length]; exact Nat.le_trans t.1 (by decide)
        · rw [TL.join_eq, join_mk]; exact k.go hr t.2 (.str _)
    · exact t.elim
  · exact t.elim
def alnumS (s : List Nat) : Bool := decide (s.length > 0) && s.all Unicode.isAlnum
def isalnumW : W → List W → HW → KW → Prop := fun x ws h R => match x, ws with
  | .str a, [] => R (.bl (alnumS a)) h
  | _, _ => False
theorem lf_isalnum : LfM K (fun x xs H Q => ∃ a, x = .str a ∧ xs = [] ∧ True ∧ Q (.bl (Txt.isalnum a)) H) isalnumW := fun x xs H Q w ws h R r rs hr t k => by
  unfold isalnumW at t
  split at t
  · rename_i a
    cases r
    cases rs
    refine ⟨_, rfl, rfl, trivial, ?_⟩
    have e : Txt.isalnum (mkS a) = alnumS a := by
      simp [Txt.isalnum, alnumS, Str.length, mkS]
    rw [e]; exact k.go hr t (.bl _)
  · exact t.elim
end
end Wl

set_option Elab.async false
set_option linter.all false
set_option maxRecDepth 100000
namespace Wl
open PySem PySem.Spec PyProof.Rows L2
/-! ## what is walked -/
structure ItW (K : PySem.W.Frag) (J : It) (H0 : Hp) (h0 : HW) (ws : List W) : Prop where
  step : ∀ i H h w, ST H0 h0 H h → HR K H h → ws[i]? = some w → J.go i H ∧ ∀ x H', J.yld i H x H' → ST H h H' h ∧ HR K H' h ∧ RW K H' h x w
  stop : ∀ i H h, ST H0 h0 H h → HR K H h → ws.length ≤ i → J.stop i H
abbrev TIW := SlW → HW → (List W → HW → Prop) → Prop
def lI (K : PySem.W.Frag) (L : Lk) (t : TIW) : TI := fun σ H R => ∃ ρ h P, Sta K L σ H ρ h ∧ t ρ h P ∧ ∀ ws h' J H', P ws h' → ST H h H' h' → HR K H' h' → ItW K J H' h' ws → R J H'
abbrev WI (X : Cx) (L : Lk) (tg e : Expr) (t : TIW) : Prop := PI X tg e (lI X.K L t)
theorem _root_.L2.PI.imp {X : Cx} {tg e : Expr} {t t' : TI} (h : PI X tg e t) (i : ∀ σ H Q, t' σ H Q → t σ H Q) : PI X tg e t' := ⟨fun p s σ H Q I q => h.run p s σ H Q I (i _ _ _ q)⟩
section
variable {X : Cx} {L : Lk} {tg e : Expr} {te : TEW} {pos p : Pos}
/-- a list or a tuple that stays -/
def oItL (te : TEW) : TIW := fun ρ h P => te ρ h fun x h1 => match x with | .lst ws => P ws h1 | .scr ws => P ws h1 | _ => False
def oItT (te : TEW) : TIW := fun ρ h P => te ρ h fun x h1 => match x with | .tup ws => P ws h1 | _ => False
theorem itSq {K : PySem.W.Frag} {H : Hp} {h : HW} {a : Addr} {vs : List V} {ws : List W} (f : ∀ H' h', ST H h H' h' → SqL K H' a vs) (r : RWs K H h vs ws) : ItW K (Itl K a) H h ws where
  step := fun i H1 h1 w st hr e => by
    obtain ⟨v, e1, e2⟩ := (r.mono st).get e
    refine ⟨⟨vs, v, f _ _ st, e1⟩, fun x H' ⟨eH, y⟩ => ?_⟩
    subst eH
    have := y vs (f _ _ st)
    rw [e1] at this; cases this
    exact ⟨.refl _ _, hr, e2⟩
  stop := fun i H1 h1 st hr e => ⟨vs, f _ _ st, by rw [r.length]; exact e⟩
theorem itSqT {K : PySem.W.Frag} {H : Hp} {h : HW} {a : Addr} {vs : List V} {ws : List W} (f : ∀ H' h', ST H h H' h' → SqT K H' a vs) (r : RWs K H h vs ws) : ItW K (Itt K a) H h ws where
  step := fun i H1 h1 w st hr e => by
    obtain ⟨v, e1, e2⟩ := (r.mono st).get e
    refine ⟨⟨vs, v, f _ _ st, e1⟩, fun x H' ⟨eH, y⟩ => ?_⟩
    subst eH
    have := y vs (f _ _ st)
    rw [e1] at this; cases this
    exact ⟨.refl _ _, hr, e2⟩
  stop := fun i H1 h1 st hr e => ⟨vs, f _ _ st, by rw [r.length]; exact e⟩
theorem wi_list (he : WE X L e te) : WI X L tg e (oItL te) := (pi_list he).imp fun σ H Q ⟨ρ, h, P, S, t, k⟩ =>
  ⟨ρ, h, _, S, t, fun w1 h1 v1 H1 t1 s1 r1 q1 => by
    cases w1 with
    | lst ws => cases q1 with | lst f q => exact ⟨_, rfl, ⟨_, f.sq⟩, k _ h1 _ H1 t1 s1 r1 (itSq (fun _ _ st => (f.mono st).sq) q)⟩
    | scr ws => cases q1 with | scr f q => exact ⟨_, rfl, ⟨_, f.sq⟩, k _ h1 _ H1 t1 s1 r1 (itSq (fun _ _ st => (f.mono st).sq) q)⟩
    | _ => exact t1.elim⟩
theorem wi_tup (he : WE X L e te) : WI X L tg e (oItT te) := (pi_tup he).imp fun σ H Q ⟨ρ, h, P, S, t, k⟩ =>
  ⟨ρ, h, _, S, t, fun w1 h1 v1 H1 t1 s1 r1 q1 => by
    cases w1 with
    | tup ws => cases q1 with | tup f q => exact ⟨_, rfl, ⟨_, f.sq⟩, k _ h1 _ H1 t1 s1 r1 (itSqT (fun _ _ st => (f.mono st).sq) q)⟩
    | _ => exact t1.elim⟩
/-- a text's signs -/
def oItS (te : TEW) : TIW := fun ρ h P => te ρ h fun x h1 => match x with | .str s => P (s.map fun c => .str [c]) h1 | _ => False
theorem itS {K : PySem.W.Frag} {H : Hp} {h : HW} (s : List Nat) : ItW K (Its (mkS s)) H h (s.map fun c => .str [c]) where
  step := fun i H1 h1 w st hr e => by
    rw [List.getElem?_map] at e
    obtain ⟨c, e1, e2⟩ := Option.map_eq_some_iff.mp e
    refine ⟨?_, fun x H' ⟨eH, c', e3, e4⟩ => ?_⟩
    · have := (List.getElem?_eq_some_iff.mp e1).1
      show i < (mkS s).cps.size
      simpa [mkS] using this
    · subst eH e2 e4
      have e5 : s[i]? = some c' := by simpa [mkS] using e3
      rw [e1] at e5; cases e5
      exact ⟨.refl _ _, hr, .str [c]⟩
  stop := fun i H1 h1 st hr e => by
    have : s.length ≤ i := by simpa using e
    show (mkS s).cps.size ≤ i
    simpa [mkS] using this
theorem wi_str (he : WE X L e te) : WI X L tg e (oItS te) := (pi_str he).imp fun σ H Q ⟨ρ, h, P, S, t, k⟩ =>
  ⟨ρ, h, _, S, t, fun w1 h1 v1 H1 t1 s1 r1 q1 => by
    cases w1 with
    | str s => cases q1; exact ⟨_, rfl, k _ h1 _ H1 t1 s1 r1 (itS s)⟩
    | _ => exact t1.elim⟩
/-- range -/
def rngW (lo : Int) (n : Nat) : List W := (List.range n).map fun i => .int (lo + (i : Nat))
theorem itR {K : PySem.W.Frag} {H : Hp} {h : HW} (lo : Int) (n : Nat) : ItW K (Itr lo n) H h (rngW lo n) where
  step := fun i H1 h1 w st hr e => by
    unfold rngW at e
    rw [List.getElem?_map] at e
    obtain ⟨c, e1, e2⟩ := Option.map_eq_some_iff.mp e
    have hi : i < n := by
      have := (List.getElem?_eq_some_iff.mp e1).1
      simpa using this
    have hc : c = i := by
      rw [List.getElem?_range hi] at e1; cases e1; rfl
    refine ⟨hi, fun x H' ⟨eH, e3⟩ => ?_⟩
    subst eH e2 e3 hc
    exact ⟨.refl _ _, hr, .int _⟩
  stop := fun i H1 h1 st hr e => by
    have : n ≤ i := by simpa [rngW] using e
    exact this
def oRng1 (ta : TAW) : TIW := fun ρ h P => ta ρ h fun ws h1 => match ws with | [.int j] => (-4611686018427387904 ≤ j ∧ j < 4611686018427387904) ∧ P (rngW 0 j.toNat) h1 | _ => False
def oRng2 (ta : TAW) : TIW := fun ρ h P => ta ρ h fun ws h1 => match ws with
  | [.int i, .int j] => (-4611686018427387904 ≤ i ∧ i < 4611686018427387904 ∧ -4611686018427387904 ≤ j ∧ j < 4611686018427387904) ∧ P (rngW i (j - i).toNat) h1
  | _ => False
theorem wi_range1 {a : Expr} {ta : TAW} (hg : Gl X "range") (hm : X.mg "range" = none) (ha : WA X L [a] ta) (hs : starEach [a] X.env = [(false, eval a X.env)] := by rfl) : WI X L tg (.Call (.Name "range" p) [a] [] pos) (oRng1 ta) := (pi_range1 hg hm ha hs).imp fun σ H Q ⟨ρ, h, P, S, t, k⟩ =>
  ⟨ρ, h, _, S, t, fun ws h1 vs H1 t1 s1 r1 q1 => by
    split at t1
    · obtain ⟨v, rfl, r⟩ := q1.one
      cases r
      exact ⟨_, rfl, by omega, by omega, k _ h1 _ H1 t1.2 s1 r1 (itR _ _)⟩
    · exact t1.elim⟩
theorem wi_range2 {a b : Expr} {ta : TAW} (hg : Gl X "range") (hm : X.mg "range" = none) (ha : WA X L [a, b] ta) (hs : starEach [a, b] X.env = [(false, eval a X.env), (false, eval b X.env)] := by rfl) (hs2 : starEach [b] X.env = [(false, eval b X.env)] := by rfl) :
    WI X L tg (.Call (.Name "range" p) [a, b] [] pos) (oRng2 ta) := (pi_range2 hg hm ha hs hs2).imp fun σ H Q ⟨ρ, h, P, S, t, k⟩ =>
  ⟨ρ, h, _, S, t, fun ws h1 vs H1 t1 s1 r1 q1 => by
    split at t1
    · obtain ⟨v, u, rfl, r, r'⟩ := q1.two
      cases r; cases r'
      exact ⟨_, _, rfl, by omega, k _ h1 _ H1 t1.2 s1 r1 (itR _ _)⟩
    · exact t1.elim⟩
end
/-! ## targets -/
abbrev TGW := W → SlW → HW → (SlW → HW → Prop) → Prop
abbrev TGsW := List W → SlW → HW → (SlW → HW → Prop) → Prop
def lG (K : PySem.W.Frag) (L : Lk) (g : TGW) : TG := fun v σ H Q => ∃ w ρ h P, RW K H h v w ∧ Sta K L σ H ρ h ∧ g w ρ h P ∧ KN K H h P Q
def lGs (K : PySem.W.Frag) (L : Lk) (g : TGsW) : TGs := fun vs σ H Q => ∃ ws ρ h P, RWs K H h vs ws ∧ Sta K L σ H ρ h ∧ g ws ρ h P ∧ KN K H h P Q
abbrev WG (X : Cx) (L : Lk) (tg : Expr) (g : TGW) : Prop := PG X tg (lG X.K L g)
theorem _root_.L2.PG.imp {X : Cx} {tg : Expr} {t t' : TG} (h : PG X tg t) (i : ∀ v σ H Q, t' v σ H Q → t v σ H Q) : PG X tg t' := ⟨fun p s σ H v u Q I r q => h.run p s σ H v u Q I r (i _ _ _ _ q)⟩
theorem _root_.L2.PGs.imp {X : Cx} {tg : List Expr} {t t' : TGs} (h : PGs X tg t) (i : ∀ v σ H Q, t' v σ H Q → t v σ H Q) : PGs X tg t' := ⟨fun p s σ H v u Q I r q => h.run p s σ H v u Q I r (i _ _ _ _ q)⟩
section
variable {X : Cx} {L : Lk} {pos : Pos} {e : Expr} {es : List Expr}
def gN (i : Nat) : TGW := fun w ρ h P => P (ρ.set i (some w)) h
theorem wg_name {i : Nat} {x : Str} (hN : X.N.Nodup) (hi : X.N[i]? = some x := by rfl) (hx : Loc X.env.scope x := by first | exact .inl rfl | exact .inr rfl) (hf : X.fn x = true ∨ X.env.scope.names.lookup x = some .local := by first | exact .inl rfl | exact .inr rfl | assumption) : WG X L (.Name x pos) (gN i) :=
  (pg_name hN hi hx hf).imp fun v σ H Q ⟨w, ρ, h, P, r, S, t, k⟩ => k _ h _ H t (.refl _ _) S.hr (S.sr.set r i)
def gNilW : TGsW := fun ws ρ h P => match ws with | [] => P ρ h | _ => False
def gConsW (g : TGW) (gs : TGsW) : TGsW := fun ws ρ h P => match ws with | w :: r => g w ρ h fun ρ' h' => gs r ρ' h' P | _ => False
theorem wgs_nil : PGs X [] (lGs X.K L gNilW) := pgs_nil.imp fun vs σ H Q ⟨ws, ρ, h, P, r, S, t, k⟩ => by
  cases ws with
  | nil => cases r; exact ⟨rfl, k _ h _ H t (.refl _ _) S.hr S.sr⟩
  | cons => exact t.elim
theorem wgs_cons {g : TGW} {gs : TGsW} (h1 : WG X L e g) (h2 : PGs X es (lGs X.K L gs)) (el : ∀ {H h H' h'}, L.el H h → ST H h H' h' → L.el H' h' := L.mono)
    (hs : (assignEach (e :: es) X.env).map (·.2) = assign e X.env :: (assignEach es X.env).map (·.2) := by rfl) : PGs X (e :: es) (lGs X.K L (gConsW g gs)) := (pgs_cons h1 h2 hs).imp fun vs σ H Q ⟨ws, ρ, h, P, r, S, t, k⟩ => by
  cases ws with
  | nil => exact t.elim
  | cons w ws =>
    cases r with
    | cons r q => exact ⟨_, _, rfl, w, ρ, h, _, r, S, t, fun ρ1 h1 σ1 H1 t1 s1 r1 q1 => ⟨ws, ρ1, h1, P, q.mono s1, ⟨q1, r1, el S.el s1⟩, t1, k.mono s1⟩⟩
def gT (n : Nat) (gs : TGsW) : TGW := fun w ρ h P => match w with | .tup ws => ws.length = n ∧ gs ws ρ h P | _ => False
theorem wg_tup {k n : Nat} {gs : TGsW} (hc : X.calm = true) (h : PGs X es (lGs X.K L gs)) (hn : (assignEach es X.env).length = n := by rfl) (hst : (assignEach es X.env).findIdx? (·.1) = none := by rfl) : WG X L (.Tuple es k pos) (gT n gs) :=
  (pg_tup hc h hn hst).imp fun v σ H Q ⟨w, ρ, h, P, r, S, t, k⟩ => by
    cases w with
    | tup ws => cases r with | tup f q => exact ⟨_, _, rfl, f.sq, by rw [q.length]; exact t.1, ws, ρ, h, P, q, S, t.2, k⟩
    | _ => exact t.elim
end
/-! ## statements -/
section
variable {X : Cx} {L : Lk} {pos : Pos} {e c : Expr} {te : TEW} {st : Stmt} {rest a b : List Stmt} {t u : TSW} {tc : TTW}
def sNext : TSW := fun D ρ h => D.nx ρ h
def sSeq (t u : TSW) : TSW := fun D ρ h => t (D.wn (u D)) ρ h
theorem wss_nil : WSs X L [] sNext := pss_nil.imp fun D σ H ⟨ρ, h, DW, S, t, k⟩ => k.nx _ h _ H t (.refl _ _) S.hr S.sr
theorem wss_cons (h1 : WS X L st t) (h2 : WSs X L rest u) : WSs X L (st :: rest) (sSeq t u) := (pss_cons h1 h2).imp fun D σ H ⟨ρ, h, DW, S, t, k⟩ =>
  ⟨ρ, h, _, S, t, ⟨fun ρ1 h1 σ1 H1 t1 s1 r1 q1 => ⟨ρ1, h1, DW, ⟨q1, r1, L.mono S.el s1⟩, t1, k.mono s1⟩, k.rt, k.bk, k.ct⟩⟩
theorem wss_one (h1 : WS X L st t) : WSs X L [st] t := pss_one h1
def sBreak : TSW := fun D ρ h => D.bk ρ h
def sCont : TSW := fun D ρ h => D.ct ρ h
theorem ws_pass : WS X L (.Pass pos) sNext := ps_pass.imp fun D σ H ⟨ρ, h, DW, S, t, k⟩ => k.nx _ h _ H t (.refl _ _) S.hr S.sr
theorem ws_break : WS X L (.Break pos) sBreak := ps_break.imp fun D σ H ⟨ρ, h, DW, S, t, k⟩ => k.bk _ h _ H t (.refl _ _) S.hr S.sr
theorem ws_continue : WS X L (.Continue pos) sCont := ps_continue.imp fun D σ H ⟨ρ, h, DW, S, t, k⟩ => k.ct _ h _ H t (.refl _ _) S.hr S.sr
theorem ws_doc {x j pos pos'} : WS X L (.Expr (.Constant (.str x) j pos) pos') sNext := ps_doc.imp fun D σ H ⟨ρ, h, DW, S, t, k⟩ => k.nx _ h _ H t (.refl _ _) S.hr S.sr
def sDrop (te : TEW) : TSW := fun D ρ h => te ρ h fun _ h1 => D.nx ρ h1
theorem ws_expr (he : WE X L e te) (hs : swapsWith e none pos.line X.env = pure false := by rfl) : WS X L (.Expr e pos) (sDrop te) := (ps_expr he hs).imp fun D σ H ⟨ρ, h, DW, S, t, k⟩ =>
  ⟨ρ, h, _, S, t, fun w1 h1 v1 H1 t1 s1 r1 q1 => k.nx _ h1 _ H1 t1 s1 r1 (S.sr.mono s1)⟩
def sRet (te : TEW) : TSW := fun D ρ h => te ρ h D.rt
theorem ws_ret (he : WE X L e te) : WS X L (.Return (some e) pos) (sRet te) := (ps_ret he).imp fun D σ H ⟨ρ, h, DW, S, t, k⟩ => ⟨ρ, h, _, S, t, k.rt⟩
def sRetN : TSW := fun D _ h => D.rt .non h
theorem ws_retN : WS X L (.Return none pos) sRetN := ps_retN.imp fun D σ H ⟨ρ, h, DW, S, t, k⟩ => k.rt _ h _ H t (.refl _ _) S.hr .non
def sIf (c : TTW) (t u : TSW) : TSW := fun D ρ h => c ρ h fun b h1 => if b = true then t D ρ h1 else u D ρ h1
theorem ws_if (hc : WT X L c tc) (ha : WSs X L a t) (hb : WSs X L b u) : WS X L (.If c a b pos) (sIf tc t u) := (ps_if hc ha hb).imp fun D σ H ⟨ρ, h, DW, S, t, k⟩ =>
  ⟨ρ, h, _, S, t, fun b h1 H1 t1 s1 r1 => by
    cases b with
    | true => exact ⟨ρ, h1, DW, S.to s1 r1, t1, k.mono s1⟩
    | false => exact ⟨ρ, h1, DW, S.to s1 r1, t1, k.mono s1⟩⟩
def sNever : TSW := fun _ _ _ => False
theorem ws_never : WS X L st sNever := ps_never.imp fun D σ H ⟨ρ, h, DW, S, t, k⟩ => t.elim
theorem wss_never : WSs X L rest sNever := pss_never.imp fun D σ H ⟨ρ, h, DW, S, t, k⟩ => t.elim
def sAsg (te : TEW) (g : TGW) : TSW := fun D ρ h => te ρ h fun x h1 => g x ρ h1 D.nx
theorem ws_set {i : Nat} {x : Str} {pos' : Pos} (hN : X.N.Nodup) (he : WE X L e te) (hi : X.N[i]? = some x := by rfl) (hx : Loc X.env.scope x := by first | exact .inl rfl | exact .inr rfl) (hs : swapsWith e (some (.Name x pos')) pos.line X.env = pure false := by rfl) (hf : X.fn x = true ∨ X.env.scope.names.lookup x = some .local := by first | exact .inl rfl | exact .inr rfl | assumption) :
    WS X L (.Assign [.Name x pos'] e pos) (sAsg te (gN i)) := (ps_set hN hi hx he hs hf).imp fun D σ H ⟨ρ, h, DW, S, t, k⟩ =>
  ⟨ρ, h, _, S, t, fun w1 h1 v1 H1 t1 s1 r1 q1 => k.nx _ h1 _ H1 t1 s1 r1 ((S.sr.mono s1).set q1 i)⟩
theorem ws_asg {tg : Expr} {g : TGW} (he : WE X L e te) (hg : WG X L tg g) (hs : swapsWithSole [tg] e pos.line X.env = pure false := by rfl) (hw : swappedStores [tg] e X.env = pure none := by rfl)
    (h1 : (assignEach [tg] X.env).map (·.2) = [assign tg X.env] := by rfl) : WS X L (.Assign [tg] e pos) (sAsg te g) := (ps_asg he hg hs hw h1).imp fun D σ H ⟨ρ, h, DW, S, t, k⟩ =>
  ⟨ρ, h, _, S, t, fun w1 h1 v1 H1 t1 s1 r1 q1 => ⟨w1, ρ, h1, _, q1, S.to s1 r1, t1, k.nx.mono s1⟩⟩
/-- name op= e -/
def Lf2i (K : PySem.W.Frag) (r : TIp) (rw : RW2) : Prop := ∀ x y H Q w1 w2 h R, RW K H h x w1 → RW K H h y w2 → HR K H h → rw w1 w2 h R → KV K H h R Q → r x y H Q
def sAug (i : Nat) (te : TEW) (rw : RW2) : TSW := fun D ρ h => match sl ρ i with | some w => te ρ h fun y h1 => rw w y h1 fun z h2 => D.nx (ρ.set i (some z)) h2 | none => False
theorem ws_aug {i : Nat} {x : Str} {op : Operator} {r : R2} {rw : RW2} {pos' : Pos} (hN : X.N.Nodup) (he : WE X L e te) (ho : OpR X (inplaceOp op) r) (l : Lf2 X.K r rw) (hi : X.N[i]? = some x := by rfl) (hx : Loc X.env.scope x := by first | exact .inl rfl | exact .inr rfl)
    (hf : X.fn x = true ∨ X.env.scope.names.lookup x = some .local := by first | exact .inl rfl | exact .inr rfl | assumption) : WS X L (.AugAssign (.Name x pos') op e pos) (sAug i te rw) := (ps_aug hN hi hx he ho hf).imp fun D σ H ⟨ρ, h, DW, S, t, k⟩ => by
  unfold sAug at t
  split at t
  · rename_i w ew
    obtain ⟨v, e1, r1⟩ := S.sr.get ew
    exact ⟨v, e1, ρ, h, _, S, t, fun w1 h1 v1 H1 t1 s1 r2 q1 => l v v1 H1 _ w w1 h1 _ (r1.mono s1) q1 r2 t1 fun w2 h2 v2 H2 t2 s2 r3 q2 => k.nx _ h2 _ H2 t2 (s1.trans s2) r3 ((S.sr.mono (s1.trans s2)).set q2 i)⟩
  · exact t.elim
/-! ## loops -/
/-- what is known is forgotten: objects that nobody owns any more, slots -/
def CN (P : SlW → HW → Prop) : SlW → HW → Prop := fun ρ h => ∃ ρ0 h0, P ρ0 h0 ∧ SubS ρ0 ρ ∧ Sub h0 h
theorem CN.of {P : SlW → HW → Prop} {ρ : SlW} {h : HW} (p : P ρ h) : CN P ρ h := ⟨ρ, h, p, .refl _, .refl _⟩
theorem CN.sl {P : SlW → HW → Prop} {ρ ρ0 : SlW} {h : HW} (p : P ρ0 h) (s : SubS ρ0 ρ) : CN P ρ h := ⟨ρ0, h, p, s, .refl _⟩
def sFor (ti : TIW) (g : TGW) (tb : TSW) : TSW := fun D ρ h => ti ρ h fun ws h1 => ∃ Pv : Nat → SlW → HW → Prop, CN (Pv 0) ρ h1 ∧
  (∀ i w ρ' h', ws[i]? = some w → Pv i ρ' h' → g w ρ' h' fun ρ2 h2 => tb (D.lp (CN (Pv (i + 1))) D.nx) ρ2 h2) ∧ ∀ ρ' h', Pv ws.length ρ' h' → D.nx ρ' h'
theorem ws_for {tg it : Expr} {body : List Stmt} {ti : TIW} {g : TGW} {tb : TSW} (hp : PassesOwn (model X.prog X.w) X.A X.env X.xe) (hc : X.calm = true) (hi : WI X L tg it ti) (hg : WG X L tg g) (hb : WSs X L body tb)
    (hs : ∀ x, foldedSetIterable it X.env x = pure x := by intro _; rfl) : WS X L (.For tg it body [] pos) (sFor ti g tb) := (ps_for hp hc hi hg hb hs).imp fun D σ H ⟨ρ, h, DW, S, t, k⟩ =>
  ⟨ρ, h, _, S, t, fun ws h1 J H1 ⟨Pv, p0, turn, fin⟩ s1 r1 I => by
    refine ⟨fun i m σ' H' => m = ws.length - i ∧ i ≤ ws.length ∧ ∃ ρ' h', Pv i ρ' h' ∧ Sta X.K L σ' H' ρ' h' ∧ ST H1 h1 H' h', ?_, ?_⟩
    · obtain ⟨ρ0, h0, p, e1, e2⟩ := p0
      exact ⟨_, rfl, Nat.zero_le _, ρ0, h0, p, ⟨((S.sr.mono s1).mono (.drop e2)).sub e1, r1.drop e2, L.mono (L.mono S.el s1) (.drop e2)⟩, .drop e2⟩
    · rintro i m σ' H' ⟨rfl, hi, ρ', h', p, S', st⟩
      by_cases hlt : i < ws.length
      · have hw : ws[i]? = some ws[i] := List.getElem?_eq_getElem hlt
        obtain ⟨go, yl⟩ := I.step i H' h' ws[i] st S'.hr hw
        refine .inr ⟨go, fun σ2 H2 => ∃ ρ' h', Pv (i + 1) ρ' h' ∧ Sta X.K L σ2 H2 ρ' h' ∧ ST H1 h1 H2 h', fun σ2 H2 p' => ⟨ws.length - (i + 1), by omega, rfl, hlt, p'⟩, fun x H2 y => ?_⟩
        obtain ⟨st2, hr2, rx⟩ := yl x H2 y
        have S2 := S'.to st2 hr2
        refine ⟨ws[i], ρ', h', _, rx, S2, turn i _ ρ' h' hw p, fun ρ2 h2 σ2 H3 t2 s2 r2 q2 => ⟨ρ2, h2, _, ⟨q2, r2, L.mono S2.el s2⟩, t2, ?_⟩⟩
        have tot : ST H1 h1 H3 h2 := (st.trans st2).trans s2
        have nxt : KN X.K H3 h2 (CN (Pv (i + 1))) fun σ2 H2 => ∃ ρ' h', Pv (i + 1) ρ' h' ∧ Sta X.K L σ2 H2 ρ' h' ∧ ST H1 h1 H2 h' := fun ρ4 h4 σ4 H4 ⟨ρ0, h0, p, e1, e2⟩ s4 r4 q4 =>
          ⟨ρ0, h0, p, ⟨(q4.mono (.drop e2)).sub e1, r4.drop e2, L.mono (L.mono (L.mono S2.el s2) s4) (.drop e2)⟩, (tot.trans s4).trans (.drop e2)⟩
        exact ⟨nxt, k.rt.mono (s1.trans tot), k.nx.mono (s1.trans tot), nxt⟩
      · have e : i = ws.length := by omega
        subst e
        exact .inl ⟨I.stop _ H' h' st S'.hr (Nat.le_refl _), k.nx _ h' _ H' (fin ρ' h' p) (s1.trans st) S'.hr S'.sr⟩⟩
def sWhile (c : TTW) (tb : TSW) : TSW := fun D ρ h => ∃ Pv : Nat → SlW → HW → Prop, (∃ m, CN (Pv m) ρ h) ∧ ∀ m ρ' h', Pv m ρ' h' →
  c ρ' h' fun b h1 => if b = true then tb (D.lp (CN fun ρ2 h2 => ∃ m', m' < m ∧ Pv m' ρ2 h2) D.nx) ρ' h1 else D.nx ρ' h1
theorem ws_while {body : List Stmt} {tb : TSW} (hp : PassesOwn (model X.prog X.w) X.A X.env X.xe) (hc : WT X L c tc) (hb : WSs X L body tb) : WS X L (.While c body [] pos) (sWhile tc tb) := (ps_while hp hc hb).imp fun D σ H ⟨ρ, h, DW, S, t, k⟩ => by
  obtain ⟨Pv, ⟨m0, ρ0, h0, p0, e1, e2⟩, turn⟩ := t
  refine ⟨fun m σ' H' => ∃ ρ' h', Pv m ρ' h' ∧ Sta X.K L σ' H' ρ' h' ∧ ST H h H' h', ⟨m0, ρ0, h0, p0, ⟨(S.sr.mono (.drop e2)).sub e1, S.hr.drop e2, L.mono S.el (.drop e2)⟩, .drop e2⟩, ?_⟩
  rintro m σ' H' ⟨ρ', h', p, S', st⟩
  refine ⟨ρ', h', _, S', turn m ρ' h' p, fun b h1 H1 t1 s1 r1 => ?_⟩
  cases b with
  | false => exact k.nx _ h1 _ H1 t1 (st.trans s1) r1 (S'.sr.mono s1)
  | true =>
    have nxt : KN X.K H1 h1 (CN fun ρ2 h2 => ∃ m', m' < m ∧ Pv m' ρ2 h2) fun σ2 H2 => ∃ m', m' < m ∧ ∃ ρ' h', Pv m' ρ' h' ∧ Sta X.K L σ2 H2 ρ' h' ∧ ST H h H2 h' := fun ρ4 h4 σ4 H4 ⟨ρ0, h0, ⟨m', hm, p⟩, e1, e2⟩ s4 r4 q4 =>
      ⟨m', hm, ρ0, h0, p, ⟨(q4.mono (.drop e2)).sub e1, r4.drop e2, L.mono (L.mono (L.mono S'.el s1) s4) (.drop e2)⟩, ((st.trans s1).trans s4).trans (.drop e2)⟩
    exact ⟨_, fun _ _ q => q, ρ', h1, _, S'.to s1 r1, t1, ⟨nxt, k.rt.mono (st.trans s1), k.nx.mono (st.trans s1), nxt⟩⟩
end
end Wl

set_option Elab.async false
set_option linter.all false
set_option maxRecDepth 100000
namespace Wl
open PySem PySem.Spec PyProof.Rows L2
/-! ## a def's promise -/
abbrev SpW := List W → HW → KW → (XW → HW → Prop) → Prop
def lSp (K : PySem.W.Frag) (sp : SpW) : Sp := fun vs H Q E => ∃ ws h R ex, RWs K H h vs ws ∧ HR K H h ∧ sp ws h R ex ∧ KV K H h R Q ∧ (Lk.of K E ex).el H h
/-- no exception -/
abbrev noX : XW → HW → Prop := fun _ _ => False
/-! owned lists and dicts within a value that nobody will write any more -/
mutual
inductive FrW (h h0 : HW) : W → W → Prop
  | same (w : W) : FrW h h0 w w
  | lst {p : Addr} {ws ws' : List W} (e : h p = some (.lst ws)) (n : h0 p = none) (r : FrWs h h0 ws ws') : FrW h h0 (.ref p) (.lst ws')
  | dic {p : Addr} {kws : List (L2.Key × W)} (e : h p = some (.dic kws)) (n : h0 p = none) : FrW h h0 (.ref p) (.dic kws)
  | tup {ws ws' : List W} (r : FrWs h h0 ws ws') : FrW h h0 (.tup ws) (.tup ws')
  | lstV {ws ws' : List W} (r : FrWs h h0 ws ws') : FrW h h0 (.lst ws) (.lst ws')
inductive FrWs (h h0 : HW) : List W → List W → Prop
  | nil : FrWs h h0 [] []
  | cons {w w' : W} {ws ws' : List W} (r : FrW h h0 w w') (t : FrWs h h0 ws ws') : FrWs h h0 (w :: ws) (w' :: ws')
end
theorem FrWs.same {h h0 : HW} : ∀ ws : List W, FrWs h h0 ws ws
  | [] => .nil
  | w :: ws => .cons (.same w) (FrWs.same ws)
section
variable {K : PySem.W.Frag} {H : Hp} {h h0 : HW}
mutual
theorem FrW.rw (hr : HR K H h) (s : Sub h0 h) : ∀ {w w' : W}, FrW h h0 w w' → ∀ {v : V}, RW K H h v w → RW K H h0 v w'
  | _, _, .same w, _, r => r.mono (.drop s)
  | _, _, .lst e n q, v, r => by
    cases r
    obtain ⟨vs, hv, r⟩ := hr _ _ e
    exact .lst ⟨hv, n⟩ (FrWs.rws hr s q r)
  | _, _, .dic e n, v, r => by
    cases r
    obtain ⟨vs, hv, r⟩ := hr _ _ e
    exact .dic ⟨hv, n⟩ (r.mono (.drop s))
  | _, _, .tup q, v, r => by
    cases r with
    | tup f r => exact .tup (f.mono (.drop s)) (FrWs.rws hr s q r)
  | _, _, .lstV q, v, r => by
    cases r with
    | lst f r => exact .lst (f.mono (.drop s)) (FrWs.rws hr s q r)
theorem FrWs.rws (hr : HR K H h) (s : Sub h0 h) : ∀ {w w' : List W}, FrWs h h0 w w' → ∀ {v : List V}, RWs K H h v w → RWs K H h0 v w'
  | _, _, .nil, _, r => by cases r; exact .nil
  | _, _, .cons q t, _, r => by
    cases r with
    | cons r u => exact .cons (FrW.rw hr s q r) (FrWs.rws hr s t u)
end
end
/-- what a value's way out may forget: objects that nobody owns any more -/
inductive Cl (R : KW) : W → HW → Prop
  | mk {w w' : W} {h0 h : HW} (r : R w' h0) (f : FrW h h0 w w') (s : Sub h0 h) : Cl R w h
theorem Cl.base {R : KW} {w : W} {h0 h : HW} (r : R w h0) (s : Sub h0 h) : Cl R w h := .mk r (.same w) s
theorem Cl.of {R : KW} {w : W} {h : HW} (r : R w h) : Cl R w h := .base r (.refl _)
theorem Cl.frL {R : KW} {p : Addr} {ws : List W} {h0 h : HW} (e : h p = some (.lst ws)) (r : R (.lst ws) h0) (n : h0 p = none) (s : Sub h0 h) : Cl R (.ref p) h := .mk r (.lst e n (.same ws)) s
theorem KV.cl {K : PySem.W.Frag} {H : Hp} {h : HW} {R : KW} {Q : VK} (k : KV K H h R Q) : KV K H h (Cl R) Q := fun w h' v H' c st hr rw => by
  cases c with
  | mk r f s => exact k _ _ v H' r (st.trans (.drop s)) (hr.drop s) (f.rw hr s rw)
section
variable {P : Program} {w : World} {K : PySem.W.Frag} {mg : Str → Option Value} {base : Heap}
theorem fnW {x qual : Str} {st : Stmt} {f : Addr} {fd : FuncData} {N ps : List Str} {k : Nat} {sp : SpW} (F : Fun K x qual st f fd) (S : FnScope N ps (defScope st)) (len : ∀ ws h R ex, sp ws h R ex → ws.length = ps.length)
    (hbody : ∀ (cdv : Value) (A : Around) (outer : List Env) (s : Shared) (H : Hp) (E : XK), Room k (A.deeper (envOfC qual (defScope st) s.heap.objs.size f cdv)) →
      ∃ t, WSs (cxOf CX0 P w K mg base N qual (defScope st) f cdv A outer s H E).nox Lk.no (defBody st) t ∧ ∀ ws h R ex, sp ws h R ex → t { nx := fun _ h' => Cl R .non h', rt := Cl R } (startW N.length ws) h) : FnOk P w K mg base CX0 (k + 1) f fd ps (lSp K sp) := by
  refine F.ok S (fun vs H Q E ⟨ws, h, R, ex, r, hr, q, kv, el⟩ => by rw [r.length]; exact len _ _ _ _ q) fun cdv A outer s H vs Q E hro ⟨ws, h, R, ex, r, hr, q, kv, el⟩ => ?_
  obtain ⟨t, ht, go⟩ := hbody cdv A outer s H E hro
  exact ⟨_, ht, _, h, _, ⟨.start r, hr, trivial⟩, go ws h R ex q, ⟨fun _ h' _ H' c st hr _ => kv.cl _ h' _ H' c st hr .non, kv.cl, fun _ _ _ _ c => c.elim, fun _ _ _ _ c => c.elim⟩⟩
/-- .. for a def that may raise -/
theorem fnWX {x qual : Str} {st : Stmt} {f : Addr} {fd : FuncData} {N ps : List Str} {k : Nat} {sp : SpW} (F : Fun K x qual st f fd) (S : FnScope N ps (defScope st)) (len : ∀ ws h R ex, sp ws h R ex → ws.length = ps.length)
    (hbody : ∀ (cdv : Value) (A : Around) (outer : List Env) (s : Shared) (H : Hp) (E : XK) (ex : XW → HW → Prop), Room k (A.deeper (envOfC qual (defScope st) s.heap.objs.size f cdv)) →
      ∃ t, WSs (cxOf (L2.CX P w) P w K mg base N qual (defScope st) f cdv A outer s H E) (Lk.of K E ex) (defBody st) t ∧ ∀ ws h R, sp ws h R ex → t { nx := fun _ h' => Cl R .non h', rt := Cl R } (startW N.length ws) h) : FnOk P w K mg base (L2.CX P w) (k + 1) f fd ps (lSp K sp) := by
  refine F.okX S (fun vs H Q E ⟨ws, h, R, ex, r, hr, q, kv, el⟩ => by rw [r.length]; exact len _ _ _ _ q) fun cdv A outer s H vs Q E hro ⟨ws, h, R, ex, r, hr, q, kv, el⟩ => ?_
  obtain ⟨t, ht, go⟩ := hbody cdv A outer s H E ex hro
  exact ⟨_, ht, _, h, _, ⟨.start r, hr, el⟩, go ws h R q, ⟨fun _ h' _ H' c st hr _ => kv.cl _ h' _ H' c st hr .non, kv.cl, fun _ _ _ _ c => c.elim, fun _ _ _ _ c => c.elim⟩⟩
end
section
variable {X : Cx} {L : Lk} {CX : CXT} {k : Nat} {f : Addr} {fd : FuncData} {ps : List Str} {sp : SpW} {x : Str} {p pos : Pos} {e : Expr} {es : List Expr} {t : TAW} {ex : XW → HW → Prop} {E : XK}
def oCall (sp : SpW) (ex : XW → HW → Prop) (t : TAW) : TEW := fun ρ h R => t ρ h fun ws h1 => sp ws h1 R ex
theorem w_callG (F : FnOk X.prog X.w X.K X.mg X.base CX k f fd ps (lSp X.K sp)) (hr : Room k X.A) (hg : Gl X x) (hm : X.mg x = some (.ref f)) (hk : PySem.W.keepIn X.K (.ref f) = true) (hb : Binds X.K fd ps []) (hx : Passes CX X E) (hE : ∀ H h, L.el H h → (Lk.of X.K E ex).el H h)
    (ha : WA X L (e :: es) t) (hdb : (x == ("__debug__" : Str)) = false := by decide) (he : starEach (e :: es) X.env = (false, eval e X.env) :: starEach es X.env := by rfl) (hpl : (backTo pos (starEach es X.env)).any (·.1) = false := by rfl) :
    WE X L (.Call (.Name x p) (e :: es) [] pos) (oCall sp ex t) := (pe_call F hr hg hm hk hb .nil hx ha hdb he hpl).imp fun σ H Q ⟨ρ, h, R, S, t, k⟩ =>
  ⟨ρ, h, _, S, t, fun ws h1 vs H1 t1 s1 r1 q1 => by
    show lSp X.K sp (vs ++ []) H1 Q E
    rw [List.append_nil]
    exact ⟨ws, h1, R, ex, q1, r1, t1, k.mono s1, hE _ _ (L.mono S.el s1)⟩⟩
theorem el_no {K : PySem.W.Frag} {H : Hp} {h : HW} : (Lk.of K E0 noX).el H h := fun _ _ _ _ e => e.elim
/-- a callee that lets nothing out -/
theorem w_call (F : FnOk X.prog X.w X.K X.mg X.base CX0 k f fd ps (lSp X.K sp)) (hr : Room k X.A) (hg : Gl X x) (hm : X.mg x = some (.ref f)) (hk : PySem.W.keepIn X.K (.ref f) = true) (hb : Binds X.K fd ps [])
    (ha : WA X L (e :: es) t) (hdb : (x == ("__debug__" : Str)) = false := by decide) (he : starEach (e :: es) X.env = (false, eval e X.env) :: starEach es X.env := by rfl) (hpl : (backTo pos (starEach es X.env)).any (·.1) = false := by rfl) :
    WE X L (.Call (.Name x p) (e :: es) [] pos) (oCall sp noX t) := w_callG F hr hg hm hk hb pass0 (fun _ _ _ => el_no) ha hdb he hpl
/-- a callee that may raise, but not here -/
theorem w_callN (F : FnOk X.prog X.w X.K X.mg X.base (L2.CX X.prog X.w) k f fd ps (lSp X.K sp)) (hr : Room k X.A) (hg : Gl X x) (hm : X.mg x = some (.ref f)) (hk : PySem.W.keepIn X.K (.ref f) = true) (hb : Binds X.K fd ps [])
    (ha : WA X L (e :: es) t) (hdb : (x == ("__debug__" : Str)) = false := by decide) (he : starEach (e :: es) X.env = (false, eval e X.env) :: starEach es X.env := by rfl) (hpl : (backTo pos (starEach es X.env)).any (·.1) = false := by rfl) :
    WE X L (.Call (.Name x p) (e :: es) [] pos) (oCall sp noX t) := w_callG F hr hg hm hk hb passL (fun _ _ _ => el_no) ha hdb he hpl
/-- a callee that may raise, within a def that lets it out -/
theorem w_callX {X : Cx} {sp : SpW} {t : TAW} (F : FnOk X.prog X.w X.K X.mg X.base (L2.CX X.prog X.w) k f fd ps (lSp X.K sp)) (hr : Room k X.A) (hg : Gl X x) (hm : X.mg x = some (.ref f)) (hk : PySem.W.keepIn X.K (.ref f) = true) (hb : Binds X.K fd ps [])
    (tk : Takes X (fun cls d _ H => E cls d H))
    (ha : WA X (Lk.of X.K E ex) (e :: es) t) (hdb : (x == ("__debug__" : Str)) = false := by decide) (he : starEach (e :: es) X.env = (false, eval e X.env) :: starEach es X.env := by rfl) (hpl : (backTo pos (starEach es X.env)).any (·.1) = false := by rfl) :
    WE X (Lk.of X.K E ex) (.Call (.Name x p) (e :: es) [] pos) (oCall sp ex t) := w_callG F hr hg hm hk hb (passes_call tk fun _ _ _ _ z => z) (fun _ _ z => z) ha hdb he hpl
/-- raise C(e), C an own exception without own __init__ -/
def sRaise (C : Addr) (ex : XW → HW → Prop) (te : TEW) : TSW := fun D ρ h => te ρ h fun _ h1 => ex ⟨C, none⟩ h1
theorem ws_raise {C : Addr} {te : TEW} {pos2 : Pos} (hc : X.calm = true) (tk : Takes X (fun cls d _ H => E cls d H)) (q : PySem.W.excIn X.K C [.type "ValueError", .type "Exception", .type "BaseException", .type "object"] "ValueError.__new__" = true) (gC : X.mg x = some (.ref C))
    (kC : PySem.W.keepIn X.K (.ref C) = true) (r1 : PySem.W.subIn X.K (.ref C) (.type "BaseException") = some true) (r2 : PySem.W.typeIn X.K (.ref C) = some (.type "type")) (hg : Gl X x) (he : WE X (Lk.of X.K E ex) e te)
    (hs : starEach [e] X.env = (false, eval e X.env) :: starEach [] X.env := by rfl) (hdb : (x == ("__debug__" : Str)) = false := by decide) : WS X (Lk.of X.K E ex) (.Raise (some (.Call (.Name x p) [e] [] pos)) none pos2) (sRaise C ex te) :=
  (ps_raise hc tk (SkE.pmk_own1 PySem.F.excBase_ValueError q gC kC (raises_own r1 r2) hg he hs hdb)).imp fun D σ H ⟨ρ, h, DW, S, t, k⟩ =>
    ⟨ρ, h, _, S, t, fun w1 h1 v1 H1 t1 s1 r1 q1 => S.el ⟨C, none⟩ h1 none H1 t1 s1 r1 rfl⟩
/-! ## f-strings -/
/-- {e}: a text or an int -/
def fmtW : W → HW → KW → Prop := fun x h R => match x with
  | .str s => s.length ≤ 16000000 ∧ R (.str s) h
  | .int i => i.natAbs.log2 < 1920 ∧ R (.str (decS i)) h
  | _ => False
theorem w_fmt {te : TEW} (he : WE X L e te) : WE X L (.FormattedValue e (-1) none pos) (oUn fmtW te) := (pe_fmt he).imp fun σ H Q ⟨ρ, h, R, S, t, k⟩ =>
  ⟨ρ, h, _, S, t, fun w1 h1 v1 H1 t1 s1 r1 q1 => by
    unfold fmtW at t1
    split at t1
    · cases q1; exact .inl ⟨_, rfl, by rw [mkS_length]; exact sz_big t1.1, k _ h1 _ H1 t1.2 s1 r1 (.str _)⟩
    · cases q1
      refine .inr ⟨_, rfl, t1.1, k _ h1 _ H1 t1.2 s1 r1 ?_⟩
      rw [mkS_list (Str.ofString (toString _))]; exact .str _
    · exact t1.elim⟩
inductive WJ (X : Cx) (L : Lk) : List Expr → List TEW → Prop where
  | nil : WJ X L [] []
  | cons {e : Expr} {t : TEW} {es : List Expr} {ts : List TEW} (h : WE X L e t) (r : WJ X L es ts) : WJ X L (e :: es) (t :: ts)
theorem WJ.pj {es : List Expr} {ts : List TEW} (j : WJ X L es ts) : PJ X es (ts.map (lE X.K L)) := by
  induction j with
  | nil => exact .nil
  | cons h r ih => exact .cons h ih
def oJs : List TEW → List Nat → SlW → HW → (List Nat → HW → Prop) → Prop
  | [], acc, _, h, R => R acc h
  | t :: ts, acc, ρ, h, R => t ρ h fun x h1 => match x with
    | .str y => acc.length + y.length ≤ 16000000 ∧ oJs ts (acc ++ y) ρ h1 R
    | _ => False
def oJoin (ts : List TEW) : TEW := fun ρ h R => oJs ts [] ρ h fun out h1 => R (.str out) h1
theorem js_imp (K : PySem.W.Frag) (L : Lk) (Q : Str → Hp → Prop) : ∀ (ts : List TEW) (acc : List Nat) (σ : L2.St) (H : Hp) (ρ : SlW) (h : HW) (R : List Nat → HW → Prop), Sta K L σ H ρ h → oJs ts acc ρ h R → (∀ out h' H', R out h' → ST H h H' h' → HR K H' h' → Q (mkS out) H') →
    tJs (ts.map (lE K L)) (mkS acc) σ H Q
  | [], acc, σ, H, ρ, h, R, S, t, k => k _ _ _ t (.refl _ _) S.hr
  | t :: ts, acc, σ, H, ρ, h, R, S, q, k => ⟨ρ, h, _, S, q, fun w1 h1 v1 H1 t1 s1 r1 q1 => by
    cases w1 with
    | str y =>
      cases q1
      refine ⟨_, rfl, ?_, ?_⟩
      · rw [mkS_append, mkS_length, List.length_append]; exact sz_big t1.1
      · rw [mkS_append]; exact js_imp K L Q ts _ σ H1 ρ h1 R (S.to s1 r1) t1.2 fun out h' H' a b c => k out h' H' a (s1.trans b) c
    | _ => exact t1.elim⟩
theorem w_joined {v1 v2 : Expr} {rest : List Expr} {ts : List TEW} (j : WJ X L (v1 :: v2 :: rest) ts) : WE X L (.JoinedStr (v1 :: v2 :: rest) pos) (oJoin ts) := (pe_joined j.pj).imp fun σ H Q ⟨ρ, h, R, S, t, k⟩ => by
  have e : (Str.empty : Str) = mkS [] := rfl
  rw [e]
  exact js_imp X.K L _ ts [] σ H ρ h _ S t fun out h' H' a b c => k _ h' _ H' a b c (.str _)
theorem w_joined1 {te : TEW} (he : WE X L e te) : WE X L (.JoinedStr [e] pos) te := pe_joined1 he
end
/-! ## comprehensions -/
section
variable {X : Cx} {L : Lk}
def oYes : TTW := fun _ h R => R true h
abbrev WTs (X : Cx) (L : Lk) (es : List Expr) (t : TTW) : Prop := PTs X es (lT X.K L t)
theorem _root_.L2.PTs.imp {X : Cx} {e : List Expr} {t t' : TT} (h : PTs X e t) (i : ∀ σ H Q, t' σ H Q → t σ H Q) : PTs X e t' := ⟨fun p s σ H Q I q => h.run p s σ H Q I (i _ _ _ q)⟩
theorem wts_nil : WTs X L [] oYes := pts_nil.imp fun σ H Q ⟨ρ, h, R, S, t, k⟩ => k _ h H t (.refl _ _) S.hr
theorem wts_one {c : Expr} {t : TTW} (h : WT X L c t) : WTs X L [c] t := pts_one h
/-- [elt for x in iter if ..]: a new list that stays -/
def oLc (ti : TIW) (j : Nat) (tt : TTW) (te : TEW) : TEW := fun ρ h R => ti ρ h fun ws h1 => ws.length ≤ 16000000 ∧ ∀ p, h1 p = none → ∃ Pv : Nat → List W → HW → Prop, Pv 0 [] h1 ∧
  (∀ i w acc h', ws[i]? = some w → h' p = none → acc.length ≤ i → Pv i acc h' → tt (ρ.set j (some w)) (updW h' p (.lst acc)) fun b h3 => if b = true then te (ρ.set j (some w)) h3 fun y h4 => ∃ h5, Sub (updW h5 p (.lst acc)) h4 ∧ h5 p = none ∧ Pv (i + 1) (acc ++ [y]) h5
    else ∃ h5, Sub (updW h5 p (.lst acc)) h3 ∧ h5 p = none ∧ Pv (i + 1) acc h5) ∧ ∀ acc h', h' p = none → Pv ws.length acc h' → R (.lst acc) h'
theorem lc_imp {K : PySem.W.Frag} {ti : TIW} {j : Nat} {tt : TTW} {te : TEW} : ∀ σ H Q, lE K L (oLc ti j tt te) σ H Q → tLc (lI K L ti) (gName j) (lT K L tt) (lE K L te) [j] σ H Q := fun σ H Q ⟨ρ, h, R, S, t, k⟩ =>
  ⟨ρ, h, _, S, t, fun ws h1 J H1 ⟨hz, t1⟩ s1 r1 I D hD => by
    obtain ⟨Pv, p0, turn, fin⟩ := t1 D (r1.fresh hD)
    have w0 : wipe σ [j] = σ.set j none := rfl
    refine ⟨fun i m H2 => m = ws.length - i ∧ i ≤ ws.length ∧ ∃ acc h', Pv i acc h' ∧ h' D = none ∧ acc.length ≤ i ∧ HR K H2 (updW h' D (.lst acc)) ∧ ST H1 h1 H2 (updW h' D (.lst acc)), ⟨_, rfl, Nat.zero_le _, [], h1, p0, r1.fresh hD, Nat.le_refl _, ?_, .newO hD _ _⟩, ?_⟩
    · exact r1.newO hD ⟨[], upd_same, .nil⟩
    · rintro i m H2 ⟨rfl, hi, acc, h2, p, n2, ha, hr2, st2⟩
      by_cases hlt : i < ws.length
      · have hw : ws[i]? = some ws[i] := List.getElem?_eq_getElem hlt
        obtain ⟨go, yl⟩ := I.step i H2 _ ws[i] st2 hr2 hw
        refine .inr ⟨go, fun H3 => ∃ acc h', Pv (i + 1) acc h' ∧ h' D = none ∧ acc.length ≤ i + 1 ∧ HR K H3 (updW h' D (.lst acc)) ∧ ST H1 h1 H3 (updW h' D (.lst acc)), fun H3 p' => ⟨ws.length - (i + 1), by omega, rfl, hlt, p'⟩, fun x H3 y => ?_⟩
        obtain ⟨st3, hr3, rx⟩ := yl x H3 y
        show wipe ((wipe σ [j]).set j (some x)) [j] = wipe σ [j] ∧ _
        refine ⟨by show ((σ.set j none).set j (some x)).set j none = σ.set j none; rw [List.set_set, List.set_set], ρ.set j (some ws[i]), _, _, ?_, turn i _ acc h2 hw n2 ha p, ?_⟩
        · refine ⟨?_, hr3, L.mono (L.mono (L.mono S.el s1) st2) st3⟩
          show SR K H3 _ ((σ.set j none).set j (some x)) _
          rw [List.set_set]
          exact (((S.sr.mono s1).mono st2).mono st3).set rx j
        · intro b h4 H4 t4 s4 r4
          have tot : ST H1 h1 H4 h4 := (st2.trans st3).trans s4
          cases b with
          | false =>
            obtain ⟨h5, sub, n5, p5⟩ := t4
            exact ⟨acc, h5, p5, n5, Nat.le_succ_of_le ha, r4.drop sub, tot.trans (.drop sub)⟩
          | true =>
            refine ⟨_, h4, _, ⟨?_, r4, L.mono (L.mono (L.mono (L.mono S.el s1) st2) st3) s4⟩, t4, fun y h5 v H5 ⟨h6, sub, n6, p6⟩ s5 r5 q5 => ?_⟩
            · show SR K H4 _ ((σ.set j none).set j (some x)) _
              rw [List.set_set]
              exact ((((S.sr.mono s1).mono st2).mono st3).mono s4).set (rx.mono s4) j
            · have hp : h5 D = some (.lst acc) := sub D _ updW_same
              obtain ⟨vs, hv, q⟩ := r5 D _ hp
              refine ⟨vs, hv, by rw [q.length]; exact Nat.lt_of_le_of_lt (Nat.le_trans ha hi) (sz_lt hz), acc ++ [y], h6, p6, n6, by rw [List.length_append]; exact Nat.succ_le_succ ha, ?_, ?_⟩
              all_goals
                have s6 : ST H5 h5 (upd H5 D (.lst (vs ++ [v]))) (updW h5 D (.lst (acc ++ [y]))) := .mut hp _ _
                have r6 : HR K (upd H5 D (.lst (vs ++ [v]))) (updW h5 D (.lst (acc ++ [y]))) := r5.mut hp ⟨_, upd_same, ((q.mono s6).append (.cons (q5.mono s6) .nil))⟩
                have sub6 : Sub (updW h6 D (.lst (acc ++ [y]))) (updW h5 D (.lst (acc ++ [y]))) := fun b o e => by
                  by_cases hb : b = D
                  · subst hb; rw [updW_same] at e ⊢; exact e
                  · rw [updW_ne hb] at e ⊢
                    exact sub b o (by rw [updW_ne hb]; exact e)
              · exact r6.drop sub6
              · exact ((tot.trans s5).trans s6).trans (.drop sub6)
      · have e : i = ws.length := by omega
        subst e
        obtain ⟨vs, hv, q⟩ := hr2 D _ updW_same
        have sub : Sub h2 (updW h2 D (.lst acc)) := .new n2
        exact .inl ⟨I.stop _ H2 _ st2 hr2 (Nat.le_refl _), k _ h2 _ H2 (fin acc h2 n2 p) ((s1.trans st2).trans (.drop sub)) (hr2.drop sub) (.lst ⟨hv, n2⟩ (q.mono (.drop sub)))⟩⟩
theorem w_lc {elt tg iter : Expr} {ifs : List Expr} {scope : Scope} {x : Str} {j : Nat} {pos : Pos} {ti : TIW} {tt : TTW} {te : TEW} (hc : X.calm = true) (hN : X.N.Nodup) (hi : WI X L tg iter ti) (ok : BlkOk X.N X.env.scope scope [(x, j)])
    (hg : ∀ (s : Shared) (H : Hp) (C : Addr) (cl : List (Str × Addr)) (fp : List Addr), PG (X.blk s H scope (compEnvC scope cl C X.env) fp) tg (gName j)) (ht : ∀ (s : Shared) (H : Hp) (C : Addr) (cl : List (Str × Addr)) (fp : List Addr), WTs (X.blk s H scope (compEnvC scope cl C X.env) fp) L ifs tt)
    (he : ∀ (s : Shared) (H : Hp) (C : Addr) (cl : List (Str × Addr)) (fp : List Addr), WE (X.blk s H scope (compEnvC scope cl C X.env) fp) L elt te) (hs : ∀ x, foldedSetIterable iter X.env x = pure x := by intro _; rfl) :
    WE X L (.ListComp elt [⟨tg, iter, ifs, 0⟩] scope pos) (oLc ti j tt te) := (pe_lc hc hN hi ok hg ht he hs).imp lc_imp
theorem ws_setLc {i : Nat} {y : Str} {py : Pos} {elt tg iter : Expr} {ifs : List Expr} {scope : Scope} {x : Str} {j : Nat} {pos spos : Pos} {ti : TIW} {tt : TTW} {te : TEW} (hc : X.calm = true) (hN : X.N.Nodup) (hy : X.N[i]? = some y) (hyl : X.env.scope.names.lookup y = some .local)
    (hsw : swapsWith (.ListComp elt [⟨tg, iter, ifs, 0⟩] scope pos) (some (.Name y py)) spos.line X.env = pure true) (hi : WI X L tg iter ti) (ok : BlkOk X.N X.env.scope scope [(x, j)])
    (hg : ∀ (s : Shared) (H : Hp) (C : Addr) (cl : List (Str × Addr)) (fp : List Addr), PG (X.blk s H scope (compEnvC scope cl C X.env) fp) tg (gName j)) (ht : ∀ (s : Shared) (H : Hp) (C : Addr) (cl : List (Str × Addr)) (fp : List Addr), WTs (X.blk s H scope (compEnvC scope cl C X.env) fp) L ifs tt)
    (he : ∀ (s : Shared) (H : Hp) (C : Addr) (cl : List (Str × Addr)) (fp : List Addr), WE (X.blk s H scope (compEnvC scope cl C X.env) fp) L elt te) (hs : ∀ x, foldedSetIterable iter X.env x = pure x := by intro _; rfl) :
    WS X L (.Assign [.Name y py] (.ListComp elt [⟨tg, iter, ifs, 0⟩] scope pos) spos) (sAsg (oLc ti j tt te) (gN i)) := (ps_setLc hc hN hy hyl hsw hi ok hg ht he hs).imp fun D σ H ⟨ρ, h, DW, S, t, k⟩ =>
  lc_imp σ H _ ⟨ρ, h, _, S, t, fun w1 h1 v1 H1 t1 s1 r1 q1 => k.nx _ h1 _ H1 t1 s1 r1 ((S.sr.mono s1).set q1 i)⟩
end
end Wl

set_option Elab.async false
set_option linter.all false
set_option maxRecDepth 100000
namespace Wl
open PySem PySem.Spec PyProof.Rows L2
section
variable {rw : RW2} {rw1 : W → HW → KW → Prop} {ta tb tc te : TEW} {ρ : SlW} {h : HW} {R : KW} {RB : Bool → HW → Prop} {RA : List W → HW → Prop} {tA tB : TTW} {t : TAW} {D : EndsW} {s u : TSW} {i j : Int} {a b : List Nat} {xs ys : List W} {p q : Prop} {w : W}
theorem go_var {n : Nat} (e : sl ρ n = some w) (k : R w h) : oVar n ρ h R := by unfold oVar; rw [e]; exact k
theorem go_c (k : R w h) : oC w ρ h R := k
theorem go_op (k : ta ρ h fun x h1 => tb ρ h1 fun y h2 => rw x y h2 R) : oOp rw ta tb ρ h R := k
theorem go_un (k : ta ρ h fun x h1 => rw1 x h1 R) : oUn rw1 ta ρ h R := k
theorem go_test (k : te ρ h fun x h1 => match x with | .bl k => RB k h1 | _ => False) : oTest te ρ h RB := k
theorem go_chain {r r' : RW2} (k : ta ρ h fun x h1 => tb ρ h1 fun y h2 => r x y h2 fun z h3 => match z with
  | .bl k => if k = true then tc ρ h3 fun w' h4 => r' y w' h4 R else R (.bl false) h3
  | _ => False) : oChain r r' ta tb tc ρ h R := k
theorem go_and (k : tA ρ h fun c h1 => if c = true then tB ρ h1 RB else RB false h1) : oAnd tA tB ρ h RB := k
theorem go_or (k : tA ρ h fun c h1 => if c = true then RB true h1 else tB ρ h1 RB) : oOr tA tB ρ h RB := k
theorem go_not (k : tA ρ h fun c h1 => RB (!c) h1) : oNot tA ρ h RB := k
theorem go_andV (k : ta ρ h fun x h1 => match x with | .bl c => if c = true then tb ρ h1 R else R (.bl false) h1 | _ => False) : oAndV ta tb ρ h R := k
theorem go_orV (k : ta ρ h fun x h1 => match x with | .bl c => if c = true then R (.bl true) h1 else tb ρ h1 R | _ => False) : oOrV ta tb ρ h R := k
theorem go_notV (k : ta ρ h fun x h1 => match x with | .bl c => R (.bl (!c)) h1 | _ => False) : oNotV ta ρ h R := k
theorem go_ifE (k : tA ρ h fun c h1 => if c = true then ta ρ h1 R else tb ρ h1 R) : oIf tA ta tb ρ h R := k
theorem go_yes (k : RB true h) : oYes ρ h RB := k
theorem go_nil (k : RA [] h) : oNil ρ h RA := k
theorem go_cons (k : ta ρ h fun x h1 => t ρ h1 fun xs h2 => RA (x :: xs) h2) : oCons ta t ρ h RA := k
def tupK (R : KW) (ws : List W) (h1 : HW) : Prop := ws.length ≤ 16000000 ∧ R (.tup ws) h1
def lstK (R : KW) (ws : List W) (h1 : HW) : Prop := ws.length ≤ 16000000 ∧ R (.lst ws) h1
def lstOK (R : KW) (ws : List W) (h1 : HW) : Prop := ws.length ≤ 16000000 ∧ ∀ p, h1 p = none → R (.ref p) (updW h1 p (.lst ws))
theorem go_tup (k : t ρ h (tupK R)) : oTup t ρ h R := k
theorem go_lst (k : t ρ h (lstK R)) : oLst t ρ h R := k
theorem go_lstO (k : t ρ h (lstOK R)) : oLstO t ρ h R := k
theorem go_tupK (e : xs.length ≤ 16000000) (k : R (.tup xs) h) : tupK R xs h := ⟨e, k⟩
theorem go_lstK (e : xs.length ≤ 16000000) (k : R (.lst xs) h) : lstK R xs h := ⟨e, k⟩
theorem go_lstOK (e : xs.length ≤ 16000000) (k : ∀ p, h p = none → R (.ref p) (updW h p (.lst xs))) : lstOK R xs h := ⟨e, k⟩
/-! operators by values -/
theorem go_addI (k : R (.int (i + j)) h) : addW (.int i) (.int j) h R := k
theorem go_addS (e : a.length + b.length ≤ 16000000) (k : R (.str (a ++ b)) h) : addW (.str a) (.str b) h R := ⟨e, k⟩
theorem go_addT (n : xs ≠ []) (e : xs.length + ys.length ≤ 16000000) (k : R (.tup (xs ++ ys)) h) : addW (.tup xs) (.tup ys) h R := ⟨n, e, k⟩
theorem go_addL (e : xs.length + ys.length ≤ 16000000) (k : R (.lst (xs ++ ys)) h) : addW (.lst xs) (.lst ys) h R := ⟨e, k⟩
theorem go_int {C : Int → Int → Prop} {g : Int → Int → Int} (e : C i j) (k : R (.int (g i j)) h) : intW C g (.int i) (.int j) h R := ⟨e, k⟩
theorem go_int0 {g : Int → Int → Int} (k : R (.int (g i j)) h) : intW0 g (.int i) (.int j) h R := k
theorem go_sub (k : R (.int (i - j)) h) : subW (.int i) (.int j) h R := k
theorem go_mul (e : CMul i j) (k : R (.int (i * j)) h) : mulW (.int i) (.int j) h R := ⟨e, k⟩
theorem go_mod (e : 0 < j) (k : R (.int (i % j)) h) : modW (.int i) (.int j) h R := ⟨e, k⟩
theorem go_fdiv (e : CDiv i j) (k : R (.int (i / j)) h) : fdivW (.int i) (.int j) h R := ⟨e, k⟩
theorem cdiv_ok (a : 0 < j) (b : j < 1073741824) : CDiv i j := ⟨a, b⟩
theorem go_neg (k : R (.int (-i)) h) : negW (.int i) h R := k
theorem go_lt (k : R (.bl (decide (i < j))) h) : ltW (.int i) (.int j) h R := k
theorem go_le (k : R (.bl (decide (i ≤ j))) h) : leW (.int i) (.int j) h R := k
theorem go_gt (k : R (.bl (decide (j < i))) h) : gtW (.int i) (.int j) h R := k
theorem go_ge (k : R (.bl (decide (j ≤ i))) h) : geW (.int i) (.int j) h R := k
theorem go_eqI (k : R (.bl (decide (i = j))) h) : eqW (.int i) (.int j) h R := k
theorem go_eqS (k : R (.bl (decide (a = b))) h) : eqW (.str a) (.str b) h R := k
theorem go_neI (k : R (.bl (!decide (i = j))) h) : neW (.int i) (.int j) h R := k
theorem go_neS (k : R (.bl (!decide (a = b))) h) : neW (.str a) (.str b) h R := k
theorem go_eqD {x y : W} (a : dataW x = true) (b : dataW y = true) (c : depW x ≤ 64) (d : depW y ≤ 64) (k : R (.bl (eqD x y)) h) : eqW x y h R := by
  unfold eqW
  split
  · rename_i i j
    have : eqD (.int i) (.int j) = decide (i = j) := by simp only [eqD, toD, PyData.eqv]; exact Bool.beq_eq_decide_eq _ _
    rw [this] at k; exact k
  · rename_i s t
    have : eqD (.str s) (.str t) = decide (s = t) := by
      simp only [eqD, toD, PyData.eqv]
      by_cases e : s = t
      · subst e; simp
      · simp [e, mkS_inj]
    rw [this] at k; exact k
  · rw [rsv_of a, rsv_of b]; exact ⟨a, b, c, d, k⟩
theorem go_neD {x y : W} (a : dataW x = true) (b : dataW y = true) (c : depW x ≤ 64) (d : depW y ≤ 64) (k : R (.bl (!eqD x y)) h) : neW x y h R := by
  unfold neW
  split
  · rename_i i j
    have : eqD (.int i) (.int j) = decide (i = j) := by simp only [eqD, toD, PyData.eqv]; exact Bool.beq_eq_decide_eq _ _
    rw [this] at k; exact k
  · rename_i s t
    have : eqD (.str s) (.str t) = decide (s = t) := by
      simp only [eqD, toD, PyData.eqv]
      by_cases e : s = t
      · subst e; simp
      · simp [e, mkS_inj]
    rw [this] at k; exact k
  · rw [rsv_of a, rsv_of b]; exact ⟨a, b, c, d, k⟩
theorem go_eqO {p : Addr} {y : W} (hp : h p = some (.lst xs)) (a : dataW (.lst xs) = true) (b : dataW y = true) (c : depW (.lst xs) ≤ 64) (d : depW y ≤ 64) (k : R (.bl (eqD (.lst xs) y)) h) : eqW (.ref p) y h R := by
  have e : rsv (.ref p) h = .lst xs := by unfold rsv; dsimp only; rw [hp]
  show dataW (rsv (.ref p) h) = true ∧ dataW (rsv y h) = true ∧ depW (rsv (.ref p) h) ≤ 64 ∧ depW (rsv y h) ≤ 64 ∧ R (.bl (eqD (rsv (.ref p) h) (rsv y h))) h
  rw [e, rsv_of b]; exact ⟨a, b, c, d, k⟩
theorem go_neO {p : Addr} {y : W} (hp : h p = some (.lst xs)) (a : dataW (.lst xs) = true) (b : dataW y = true) (c : depW (.lst xs) ≤ 64) (d : depW y ≤ 64) (k : R (.bl (!eqD (.lst xs) y)) h) : neW (.ref p) y h R := by
  have e : rsv (.ref p) h = .lst xs := by unfold rsv; dsimp only; rw [hp]
  show dataW (rsv (.ref p) h) = true ∧ dataW (rsv y h) = true ∧ depW (rsv (.ref p) h) ≤ 64 ∧ depW (rsv y h) ≤ 64 ∧ R (.bl (!eqD (rsv (.ref p) h) (rsv y h))) h
  rw [e, rsv_of b]; exact ⟨a, b, c, d, k⟩
theorem go_neR {p : Addr} {x : W} (hp : h p = some (.lst ys)) (a : dataW x = true) (b : dataW (.lst ys) = true) (c : depW x ≤ 64) (d : depW (.lst ys) ≤ 64) (k : R (.bl (!eqD x (.lst ys))) h) : neW x (.ref p) h R := by
  have e : rsv (.ref p) h = .lst ys := by unfold rsv; dsimp only; rw [hp]
  have g : dataW (rsv x h) = true ∧ dataW (rsv (.ref p) h) = true ∧ depW (rsv x h) ≤ 64 ∧ depW (rsv (.ref p) h) ≤ 64 ∧ R (.bl (!eqD (rsv x h) (rsv (.ref p) h))) h := by rw [e, rsv_of a]; exact ⟨a, b, c, d, k⟩
  cases x <;> exact g
theorem go_inT {x : W} (f : flatW x = true) (g : xs.all flatW = true) (k : R (.bl (xs.any fun w => eqF w x)) h) : inW x (.tup xs) h R := ⟨f, g, k⟩
theorem go_inL {x : W} (f : flatW x = true) (g : xs.all flatW = true) (k : R (.bl (xs.any fun w => eqF w x)) h) : inW x (.lst xs) h R := ⟨f, g, k⟩
theorem go_inS {c : Nat} (k : R (.bl (decide (c ∈ a))) h) : inW (.str [c]) (.str a) h R := k
theorem go_inO {x : W} {p : Addr} (hp : h p = some (.lst xs)) (f : flatW x = true) (g : xs.all flatW = true) (k : R (.bl (xs.any fun w => eqF w x)) h) : inW x (.ref p) h R := by
  unfold inW; dsimp only; rw [hp]; exact ⟨f, g, k⟩
theorem go_notInT {x : W} (f : flatW x = true) (g : xs.all flatW = true) (k : R (.bl (!xs.any fun w => eqF w x)) h) : notInW x (.tup xs) h R := ⟨f, g, k⟩
theorem go_notInL {x : W} (f : flatW x = true) (g : xs.all flatW = true) (k : R (.bl (!xs.any fun w => eqF w x)) h) : notInW x (.lst xs) h R := ⟨f, g, k⟩
theorem go_notInS {c : Nat} (k : R (.bl (!decide (c ∈ a))) h) : notInW (.str [c]) (.str a) h R := k
theorem go_notInO {x : W} {p : Addr} (hp : h p = some (.lst xs)) (f : flatW x = true) (g : xs.all flatW = true) (k : R (.bl (!xs.any fun w => eqF w x)) h) : notInW x (.ref p) h R := by
  unfold notInW; dsimp only; rw [hp]; exact ⟨f, g, k⟩
theorem go_ixT (e : atI xs i = some w) (k : R w h) : ixW (.tup xs) (.int i) h R := by unfold ixW; dsimp only; rw [e]; exact k
theorem go_ixL (e : atI xs i = some w) (k : R w h) : ixW (.lst xs) (.int i) h R := by unfold ixW; dsimp only; rw [e]; exact k
theorem go_ixC (e : atI xs i = some w) (k : R w h) : ixW (.scr xs) (.int i) h R := by unfold ixW; dsimp only; rw [e]; exact k
theorem go_ixS {c : Nat} (e : atI a i = some c) (l : a.length ≤ 16000000) (k : R (.str [c]) h) : ixW (.str a) (.int i) h R := by unfold ixW; dsimp only; rw [e]; exact ⟨l, k⟩
theorem go_ixO {p : Addr} (hp : h p = some (.lst xs)) (e : atI xs i = some w) (k : R w h) : ixW (.ref p) (.int i) h R := by unfold ixW; dsimp only; rw [hp]; dsimp only; rw [e]; exact k
/-! slices -/
theorem go_sl {tl th : TOW} (k : te ρ h fun x h1 => tl ρ h1 fun l h2 => th ρ h2 fun u h3 => slW x l u h3 R) : oSl te tl th ρ h R := k
theorem go_noPart {RO : Option Int → HW → Prop} (k : RO none h) : oNoPart ρ h RO := k
theorem go_part {RO : Option Int → HW → Prop} (k : te ρ h fun x h1 => match x with | .int i => RO (some i) h1 | _ => False) : oPart te ρ h RO := k
theorem go_slT {lo hi : Option Int} (e : ¬ (HT.sIx xs.length 0 lo = 0 ∧ HT.sIx xs.length xs.length hi = xs.length)) (k : R (.tup (cut xs lo hi)) h) : slW (.tup xs) lo hi h R := ⟨e, k⟩
theorem go_slL {lo hi : Option Int} (k : R (.lst (cut xs lo hi)) h) : slW (.lst xs) lo hi h R := k
theorem go_slC {lo hi : Option Int} (k : R (.lst (cut xs lo hi)) h) : slW (.scr xs) lo hi h R := k
theorem go_slS {lo hi : Option Int} (e : a.length ≤ 16000000) (k : R (.str (cut a lo hi)) h) : slW (.str a) lo hi h R := ⟨e, k⟩
theorem go_slO {lo hi : Option Int} {p : Addr} (hp : h p = some (.lst xs)) (k : R (.lst (cut xs lo hi)) h) : slW (.ref p) lo hi h R := by unfold slW; dsimp only; rw [hp]; exact k
theorem go_revL (k : R (.lst xs.reverse) h) : revW (.lst xs) h R := k
theorem go_revO {p : Addr} (hp : h p = some (.lst xs)) (k : R (.lst xs.reverse) h) : revW (.ref p) h R := by unfold revW; dsimp only; rw [hp]; exact k
/-! calls -/
theorem go_cb {rc : List W → HW → KW → Prop} (k : t ρ h fun ws h1 => rc ws h1 R) : oCB rc t ρ h R := k
theorem go_lenT (k : R (.int xs.length) h) : lenW [.tup xs] h R := k
theorem go_lenL (k : R (.int xs.length) h) : lenW [.lst xs] h R := k
theorem go_lenC (k : R (.int xs.length) h) : lenW [.scr xs] h R := k
theorem go_lenS (e : a.length ≤ 16000000) (k : R (.int a.length) h) : lenW [.str a] h R := ⟨e, k⟩
theorem go_lenO {p : Addr} (hp : h p = some (.lst xs)) (k : R (.int xs.length) h) : lenW [.ref p] h R := by unfold lenW; dsimp only; rw [hp]; exact k
theorem go_abs (k : R (.int i.natAbs) h) : absW [.int i] h R := k
theorem go_toInt (k : R (.int i) h) : toIntW [.int i] h R := k
theorem go_toIntB {b : Bool} (k : R (.int (if b = true then 1 else 0)) h) : toIntW [.bl b] h R := k
theorem go_str (e : i.natAbs.log2 < 1920) (k : R (.str (decS i)) h) : strW [.int i] h R := ⟨e, k⟩
theorem go_sum {ns : List Int} (e : intsOf xs = some ns) (k : R (.int ns.sum) h) : sumW [.lst xs] h R := by unfold sumW; dsimp only; rw [e]; exact k
theorem go_max {n : Int} {ns : List Int} (e : intsOf xs = some (n :: ns)) (k : R (.int (maxI n ns)) h) : maxW [.lst xs] h R := by unfold maxW; dsimp only; rw [e]; exact k
theorem go_all {bs : List Bool} (e : blsOf xs = some bs) (k : R (.bl (bs.all id)) h) : allW [.lst xs] h R := by unfold allW; dsimp only; rw [e]; exact k
theorem go_listT (k : R (.lst xs) h) : listW [.tup xs] h R := k
theorem go_listL (k : R (.lst xs) h) : listW [.lst xs] h R := k
theorem go_listC (k : R (.lst xs) h) : listW [.scr xs] h R := k
theorem go_listO {p : Addr} (hp : h p = some (.lst xs)) (k : R (.lst xs) h) : listW [.ref p] h R := by unfold listW; dsimp only; rw [hp]; exact k
theorem go_isI {n : String} {b : Bool} (e : kitB "int" n = some b) (k : R (.bl b) h) : isW [.int i, .ty n] h R := by unfold isW; dsimp only; rw [e]; exact k
theorem go_isB {n : String} {b c : Bool} (e : kitB "bool" n = some b) (k : R (.bl b) h) : isW [.bl c, .ty n] h R := by unfold isW; dsimp only; rw [e]; exact k
theorem go_isS {n : String} {b : Bool} (e : kitB "str" n = some b) (k : R (.bl b) h) : isW [.str a, .ty n] h R := by unfold isW; dsimp only; rw [e]; exact k
theorem go_isT {n : String} {b : Bool} (e : kitB "tuple" n = some b) (k : R (.bl b) h) : isW [.tup xs, .ty n] h R := by unfold isW; dsimp only; rw [e]; exact k
theorem go_bm0 {ty : W → HW → Prop} {rm : W → List W → HW → KW → Prop} (k : te ρ h fun x h1 => ty x h1 ∧ rm x [] h1 R) : oBM0 ty rm te ρ h R := k
theorem go_bm {ty : W → HW → Prop} {rm : W → List W → HW → KW → Prop} (k : te ρ h fun x h1 => ty x h1 ∧ t ρ h1 fun ws h2 => rm x ws h2 R) : oBM ty rm te t ρ h R := k
theorem go_tyS (k : p) : tyS (.str a) h ∧ p := ⟨trivial, k⟩
theorem go_tyL {q : Addr} (hp : h q = some (.lst xs)) (k : p) : tyL (.ref q) h ∧ p := ⟨by unfold tyL; dsimp only; rw [hp]; trivial, k⟩
theorem go_append {p : Addr} (hp : h p = some (.lst xs)) (e : xs.length ≤ 16000000) (k : R .non (updW h p (.lst (xs ++ [w])))) : appendW (.ref p) [w] h R := by unfold appendW; dsimp only; rw [hp]; exact ⟨e, k⟩
theorem go_pop {p : Addr} (hp : h p = some (.lst (xs ++ [w]))) (k : R w (updW h p (.lst xs))) : popW (.ref p) [] h R := by
  unfold popW; dsimp only; rw [hp]; dsimp only; rw [List.getLast?_concat]; dsimp only; rw [List.dropLast_concat]; exact k
theorem go_extend {p : Addr} (hp : h p = some (.lst xs)) (e : xs.length + ys.length ≤ 16000000) (k : R .non (updW h p (.lst (xs ++ ys)))) : extendW (.ref p) [.lst ys] h R := by unfold extendW; dsimp only; rw [hp]; exact ⟨e, k⟩
theorem go_join {ss : List (List Nat)} (e : strsOf xs = some ss) (l : (ss.map List.length).sum + ss.length * a.length ≤ 16000000) (k : R (.str (joinS a ss)) h) : joinW (.str a) [.lst xs] h R := by unfold joinW; dsimp only; rw [e]; exact ⟨l, k⟩
theorem go_isalnum (k : R (.bl (alnumS a)) h) : isalnumW (.str a) [] h R := k
theorem go_call {sp : SpW} {ex : XW → HW → Prop} (k : t ρ h fun ws h1 => sp ws h1 R ex) : oCall sp ex t ρ h R := k
/-! f-strings -/
theorem go_fmtS (e : a.length ≤ 16000000) (k : R (.str a) h) : fmtW (.str a) h R := ⟨e, k⟩
theorem go_fmtI (e : i.natAbs.log2 < 1920) (k : R (.str (decS i)) h) : fmtW (.int i) h R := ⟨e, k⟩
theorem go_join0 {ts : List TEW} (k : oJs ts [] ρ h fun out h1 => R (.str out) h1) : oJoin ts ρ h R := k
theorem go_js0 {acc : List Nat} {RS : List Nat → HW → Prop} (k : RS acc h) : oJs [] acc ρ h RS := k
theorem go_js1 {ts : List TEW} {acc : List Nat} {RS : List Nat → HW → Prop} (k : te ρ h fun x h1 => match x with | .str y => acc.length + y.length ≤ 16000000 ∧ oJs ts (acc ++ y) ρ h1 RS | _ => False) : oJs (te :: ts) acc ρ h RS := k
/-! statements -/
theorem go_seq (k : s (D.wn (u D)) ρ h) : sSeq s u D ρ h := k
theorem go_next (k : D.nx ρ h) : sNext D ρ h := k
theorem go_break (k : D.bk ρ h) : sBreak D ρ h := k
theorem go_cont (k : D.ct ρ h) : sCont D ρ h := k
theorem go_drop (k : te ρ h fun _ h1 => D.nx ρ h1) : sDrop te D ρ h := k
theorem go_ret (k : te ρ h D.rt) : sRet te D ρ h := k
theorem go_retN (k : D.rt .non h) : sRetN D ρ h := k
theorem go_if (k : tA ρ h fun b h1 => if b = true then s D ρ h1 else u D ρ h1) : sIf tA s u D ρ h := k
theorem go_asg {g : TGW} (k : te ρ h fun x h1 => g x ρ h1 D.nx) : sAsg te g D ρ h := k
theorem go_gN {n : Nat} {P : SlW → HW → Prop} (k : P (ρ.set n (some w)) h) : gN n w ρ h P := k
theorem go_gT {n : Nat} {gs : TGsW} {P : SlW → HW → Prop} (e : xs.length = n) (k : gs xs ρ h P) : gT n gs (.tup xs) ρ h P := ⟨e, k⟩
theorem go_gNil {P : SlW → HW → Prop} (k : P ρ h) : gNilW [] ρ h P := k
theorem go_gCons {g : TGW} {gs : TGsW} {P : SlW → HW → Prop} (k : g w ρ h fun ρ' h' => gs xs ρ' h' P) : gConsW g gs (w :: xs) ρ h P := k
theorem go_aug {n : Nat} (e : sl ρ n = some w) (k : te ρ h fun y h1 => rw w y h1 fun z h2 => D.nx (ρ.set n (some z)) h2) : sAug n te rw D ρ h := by unfold sAug; rw [e]; exact k
theorem go_raise {C : Addr} {ex : XW → HW → Prop} (k : te ρ h fun _ h1 => ex ⟨C, none⟩ h1) : sRaise C ex te D ρ h := k
theorem go_dec [Decidable p] {A B : Prop} (h1 : p → A) (h2 : ¬ p → B) : if decide p = true then A else B := by
  by_cases c : p
  · rw [decide_eq_true c, if_pos rfl]; exact h1 c
  · rw [decide_eq_false c, if_neg Bool.false_ne_true]; exact h2 c
theorem go_ndec [Decidable p] {A B : Prop} (h1 : ¬ p → A) (h2 : p → B) : if (!decide p) = true then A else B := by
  by_cases c : p
  · rw [decide_eq_true c]; exact iteF (h2 c)
  · rw [decide_eq_false c]; exact iteT (h1 c)
theorem go_tt {A B : Prop} (h1 : A) : if true = true then A else B := iteT h1
theorem go_ff {A B : Prop} (h1 : B) : if false = true then A else B := iteF h1
theorem go_nff {A B : Prop} (h1 : A) : if (!false) = true then A else B := iteT h1
theorem go_ntt {A B : Prop} (h1 : B) : if (!true) = true then A else B := iteF h1
theorem go_isT' {b : Bool} {A B : Prop} (e : b = true) (h1 : A) : if b = true then A else B := by rw [e]; exact iteT h1
theorem go_isF' {b : Bool} {A B : Prop} (e : b = false) (h1 : B) : if b = true then A else B := by rw [e]; exact iteF h1
theorem go_for {ti : TIW} {g : TGW} {tb : TSW} (Pv : Nat → SlW → HW → Prop) (k : ti ρ h fun ws h1 => CN (Pv 0) ρ h1 ∧
  (∀ i w ρ' h', ws[i]? = some w → Pv i ρ' h' → g w ρ' h' fun ρ2 h2 => tb (D.lp (CN (Pv (i + 1))) D.nx) ρ2 h2) ∧ ∀ ρ' h', Pv ws.length ρ' h' → D.nx ρ' h') (mono : ∀ {P P' : List W → HW → Prop}, (∀ ws h', P ws h' → P' ws h') → ti ρ h P → ti ρ h P') : sFor ti g tb D ρ h :=
  mono (fun ws h' q => ⟨Pv, q⟩) k
theorem go_forR2 {g : TGW} {tb : TSW} {ta : TAW} (lo hi : Int) (ev : ∀ RA : List W → HW → Prop, RA [.int lo, .int hi] h → ta ρ h RA) (bd : -4611686018427387904 ≤ lo ∧ lo < 4611686018427387904 ∧ -4611686018427387904 ≤ hi ∧ hi < 4611686018427387904)
  (Pv : Nat → SlW → HW → Prop) (p0 : CN (Pv 0) ρ h) (turn : ∀ (i : Nat) ρ' h', i < (hi - lo).toNat → Pv i ρ' h' → g (.int (lo + i)) ρ' h' fun ρ2 h2 => tb (D.lp (CN (Pv (i + 1))) D.nx) ρ2 h2)
  (fin : ∀ ρ' h', Pv (hi - lo).toNat ρ' h' → D.nx ρ' h') : sFor (oRng2 ta) g tb D ρ h := ev _ ⟨bd, Pv, p0, fun i w ρ' h' e p => by
    unfold rngW at e
    rw [List.getElem?_map] at e
    obtain ⟨c, e1, e2⟩ := Option.map_eq_some_iff.mp e
    have hi' : i < (hi - lo).toNat := by have := (List.getElem?_eq_some_iff.mp e1).1; simpa using this
    rw [List.getElem?_range hi'] at e1
    cases e1; subst e2
    exact turn i ρ' h' hi' p, fun ρ' h' p => fin ρ' h' (by simpa [rngW] using p)⟩
theorem go_forR1 {g : TGW} {tb : TSW} {ta : TAW} (hi : Int) (ev : ∀ RA : List W → HW → Prop, RA [.int hi] h → ta ρ h RA) (bd : -4611686018427387904 ≤ hi ∧ hi < 4611686018427387904)
  (Pv : Nat → SlW → HW → Prop) (p0 : CN (Pv 0) ρ h) (turn : ∀ (i : Nat) ρ' h', i < hi.toNat → Pv i ρ' h' → g (.int (i : Nat)) ρ' h' fun ρ2 h2 => tb (D.lp (CN (Pv (i + 1))) D.nx) ρ2 h2)
  (fin : ∀ ρ' h', Pv hi.toNat ρ' h' → D.nx ρ' h') : sFor (oRng1 ta) g tb D ρ h := ev _ ⟨bd, Pv, p0, fun i w ρ' h' e p => by
    unfold rngW at e
    rw [List.getElem?_map] at e
    obtain ⟨c, e1, e2⟩ := Option.map_eq_some_iff.mp e
    have hi' : i < hi.toNat := by have := (List.getElem?_eq_some_iff.mp e1).1; simpa using this
    rw [List.getElem?_range hi'] at e1
    cases e1; subst e2
    rw [Int.zero_add]
    exact turn i ρ' h' hi' p, fun ρ' h' p => fin ρ' h' (by simpa [rngW] using p)⟩
theorem go_forL {g : TGW} {tb : TSW} (ws : List W) (ev : ∀ R : KW, R (.lst ws) h → te ρ h R)
  (Pv : Nat → SlW → HW → Prop) (p0 : CN (Pv 0) ρ h) (turn : ∀ (i : Nat) w ρ' h', ws[i]? = some w → Pv i ρ' h' → g w ρ' h' fun ρ2 h2 => tb (D.lp (CN (Pv (i + 1))) D.nx) ρ2 h2)
  (fin : ∀ ρ' h', Pv ws.length ρ' h' → D.nx ρ' h') : sFor (oItL te) g tb D ρ h := ev _ ⟨Pv, p0, turn, fin⟩
theorem go_forT {g : TGW} {tb : TSW} (ws : List W) (ev : ∀ R : KW, R (.tup ws) h → te ρ h R)
  (Pv : Nat → SlW → HW → Prop) (p0 : CN (Pv 0) ρ h) (turn : ∀ (i : Nat) w ρ' h', ws[i]? = some w → Pv i ρ' h' → g w ρ' h' fun ρ2 h2 => tb (D.lp (CN (Pv (i + 1))) D.nx) ρ2 h2)
  (fin : ∀ ρ' h', Pv ws.length ρ' h' → D.nx ρ' h') : sFor (oItT te) g tb D ρ h := ev _ ⟨Pv, p0, turn, fin⟩
theorem go_while {tc : TTW} {tb : TSW} (Pv : Nat → SlW → HW → Prop) (p0 : ∃ m, CN (Pv m) ρ h) (turn : ∀ m ρ' h', Pv m ρ' h' → tc ρ' h' fun b h1 => if b = true then tb (D.lp (CN fun ρ2 h2 => ∃ m', m' < m ∧ Pv m' ρ2 h2) D.nx) ρ' h1 else D.nx ρ' h1) : sWhile tc tb D ρ h := ⟨Pv, p0, turn⟩
/-- a comprehension whose element is a function of the item -/
theorem go_lcL {j : Nat} (ws : List W) (ev : ∀ P : List W → HW → Prop, P ws h → (fun ti : TIW => ti ρ h P) (oItL te)) (hz : ws.length ≤ 16000000) (f : W → W) (el : ∀ (w : W) (h' : HW) (R' : KW), w ∈ ws → R' (f w) h' → tb (ρ.set j (some w)) h' R') (k : R (.lst (ws.map f)) h) : oLc (oItL te) j oYes tb ρ h R := by
  refine ev _ ⟨hz, fun p hp => ⟨fun i acc h' => acc = (ws.take i).map f ∧ h' = h, ⟨rfl, rfl⟩, ?_, ?_⟩⟩
  · rintro i w acc h' e n hl ⟨rfl, rfl⟩
    refine go_yes ?_
    rw [if_pos rfl]
    refine el w _ _ (List.mem_of_getElem? e) ⟨_, .refl _, hp, ?_, rfl⟩
    rw [List.take_add_one, e]; simp
  · rintro acc h' n ⟨rfl, rfl⟩
    rw [List.take_length]; exact k
/-- the same over anything that is walked -/
theorem go_lc {ti : TIW} {j : Nat} (ws : List W) (ev : ∀ P : List W → HW → Prop, P ws h → ti ρ h P) (hz : ws.length ≤ 16000000) (f : W → W) (el : ∀ (w : W) (h' : HW) (R' : KW), w ∈ ws → R' (f w) h' → tb (ρ.set j (some w)) h' R') (k : R (.lst (ws.map f)) h) : oLc ti j oYes tb ρ h R := by
  refine ev _ ⟨hz, fun p hp => ⟨fun i acc h' => acc = (ws.take i).map f ∧ h' = h, ⟨rfl, rfl⟩, ?_, ?_⟩⟩
  · rintro i w acc h' e n hl ⟨rfl, rfl⟩
    refine go_yes ?_
    rw [if_pos rfl]
    refine el w _ _ (List.mem_of_getElem? e) ⟨_, .refl _, hp, ?_, rfl⟩
    rw [List.take_add_one, e]; simp
  · rintro acc h' n ⟨rfl, rfl⟩
    rw [List.take_length]; exact k
/-- the same where the element is any value of a kind -/
theorem go_lcP {ti : TIW} {j : Nat} (ws : List W) (ev : ∀ P : List W → HW → Prop, P ws h → ti ρ h P) (hz : ws.length ≤ 16000000) (G : W → W → Prop) (el : ∀ (w : W) (h' : HW) (R' : KW), w ∈ ws → (∀ y, G w y → R' y h') → tb (ρ.set j (some w)) h' R') (k : ∀ ys, Paired G ws ys → R (.lst ys) h) : oLc ti j oYes tb ρ h R := by
  refine ev _ ⟨hz, fun p hp => ⟨fun i acc h' => Paired G (ws.take i) acc ∧ h' = h, ⟨.nil, rfl⟩, ?_, ?_⟩⟩
  · rintro i w acc h' e n hl ⟨pa, rfl⟩
    refine go_yes ?_
    rw [if_pos rfl]
    refine el w _ _ (List.mem_of_getElem? e) fun y hy => ⟨_, .refl _, hp, ?_, rfl⟩
    rw [List.take_add_one, e]
    have app : ∀ {l1 l2 : List W}, Paired G l1 l2 → Paired G (l1 ++ [w]) (l2 ++ [y]) := fun {l1 l2} pa => by
      induction pa with
      | nil => exact .cons hy .nil
      | cons r t ih => exact .cons r ih
    exact app pa
  · rintro acc h' n ⟨pa, rfl⟩
    rw [List.take_length] at pa; exact k acc pa
end
end Wl

set_option Elab.async false
set_option linter.all false
set_option maxRecDepth 100000
namespace Wl
open PySem PySem.Spec PyProof.Rows L2
theorem XR.mono {K : PySem.W.Frag} {H H' : Hp} {h h' : HW} {x : XW} {od : Option Addr} (r : XR K H h x od) (s : ST H h H' h') : XR K H' h' x od := by
  obtain ⟨C, fs⟩ := x
  cases fs with
  | none => exact r
  | some fs =>
    obtain ⟨d, gs, e, e2, n, q⟩ := r
    exact ⟨d, gs, e, (s d _ e2 n).1, (s d _ e2 n).2, q.mono s⟩
/-- within an except suite: what the exception brings -/
def Lk.x (K : PySem.W.Frag) (x : XW) (od : Option Addr) : Lk := ⟨fun H h => XR K H h x od, XR.mono⟩
section
variable {X : Cx} {K : PySem.W.Frag}
def isEW (K : PySem.W.Frag) (D a : Addr) : List W → HW → KW → Prop := fun ws h R => ∃ C b, ws = [.ref a, .ref C] ∧ PySem.W.kitOne K (.ref D) (.ref C) = some b ∧ R (.bl b) h
theorem lf_isE {D a : Addr} : LfC K (rIsE K D a) (isEW K D a) := fun xs H Q ws h R r hr ⟨C, b, e, e2, t⟩ k => by
  subst e
  obtain ⟨x, y, rfl, q1, q2⟩ := r.two
  cases q1; cases q2
  exact ⟨_, .ref C, b, rfl, fun u e => e, e2, k.go hr t (.bl _)⟩
abbrev EndsW.sx (D : EndsW) (i : Nat) : EndsW := ⟨fun ρ h => D.nx (ρ.set i none) h, D.rt, fun ρ h => D.bk (ρ.set i none) h, fun ρ h => D.ct (ρ.set i none) h⟩
/-- try: x = f(..) / f(..) except S as n: suite -/
def sTry (K : PySem.W.Frag) (S : Addr) (sp : SpW) (t : TAW) (j : Option Nat) (i : Nat) (tsu : Addr → Addr → TSW) : TSW := fun D ρ h => t ρ h fun ws h1 => sp ws h1 (fun w h2 => D.nx (match j with | some j => ρ.set j (some w) | none => ρ) h2)
  fun x h2 => x.fs = none ∧ ExcC K x.C ∧ PySem.W.exmOne K (.ref x.C) (.ref S) = some true ∧ ∀ a, tsu x.C a (D.sx i) (ρ.set i (some (.ref a))) h2
variable {x n fx : Str} {S f : Addr} {i k : Nat} {b₀ : Stmt} {suite : List Stmt} {np pos pos' epos p cpos : Pos} {fd : FuncData} {ps : List Str} {sp : SpW} {e : Expr} {es : List Expr} {t : TAW} {tsu : Addr → Addr → TSW}
theorem try_el {σ : L2.St} {H : Hp} {D : Ends} {ρ : SlW} {h : HW} {DW : EndsW} (S1 : Sta K Lk.no σ H ρ h) (kd : KD K H h DW D) {h1 : HW} {H1 : Hp} (s1 : ST H h H1 h1) :
    (Lk.of K (L2.WE (wAs K (.ref S) i (fun a cls d => fun D σ H => ∃ C : Addr, cls = .ref C ∧ d = none ∧ ExcC K C ∧ lS K Lk.no (tsu C a) D σ H) (fun _ _ _ _ => False) D) σ)
      fun x h2 => x.fs = none ∧ ExcC K x.C ∧ PySem.W.exmOne K (.ref x.C) (.ref S) = some true ∧ ∀ a, tsu x.C a (DW.sx i) (ρ.set i (some (.ref a))) h2).el H1 h1 := by
  intro x h2 od H2 ⟨e0, ec, e1, e2⟩ s2 r2 xr
  have eo : od = none := by unfold XR at xr; rw [e0] at xr; exact xr
  refine ⟨true, e1, fun _ a ha => ⟨x.C, rfl, eo, ec, ρ.set i (some (.ref a)), h2, DW.sx i, ⟨(S1.sr.mono (s1.trans s2)).set (.ref a) i, r2, trivial⟩, e2 a, ?_⟩, fun z => nomatch z⟩
  have st := s1.trans s2
  exact ⟨fun ρ' h' σ' H' q s r sr => kd.nx _ h' _ H' q (st.trans s) r (sr.setN i), kd.rt.mono st, fun ρ' h' σ' H' q s r sr => kd.bk _ h' _ H' q (st.trans s) r (sr.setN i), fun ρ' h' σ' H' q s r sr => kd.ct _ h' _ H' q (st.trans s) r (sr.setN i)⟩
theorem ws_tryD (hs : X.stack = X.env :: X.outer) (hf : X.env.frame = some X.env.locals) (hN : X.N.Nodup) (hi : X.N[i]? = some n) (hln : X.env.kindOf n = some .local) (hc : Names X x (.ref S))
    (F : FnOk X.prog X.w X.K X.mg X.base (L2.CX X.prog X.w) k f fd ps (lSp X.K sp)) (hr : Room k X.A) (hg : Gl X fx) (hm : X.mg fx = some (.ref f)) (hk : PySem.W.keepIn X.K (.ref f) = true) (hb : Binds X.K fd ps [])
    (ha : ∀ pn xe, WA (X.tr pn xe) Lk.no (e :: es) t)
    (hsu : ∀ (C a : Addr) (oe : Obj) (pn : List (Addr × Obj)), ExcC X.K C → Zc (.ref C) none oe → (∃ vs, oe.data = .fields vs) → WSs (X.suite a ((a, oe) :: pn)) Lk.no (b₀ :: suite) (tsu C a))
    (hdb : (fx == ("__debug__" : Str)) = false := by decide) (he : starEach (e :: es) X.env = (false, eval e X.env) :: starEach es X.env := by rfl) (hpl : (backTo cpos (starEach es X.env)).any (·.1) = false := by rfl)
    (hsw : swapsWith (.Call (.Name fx p) (e :: es) [] cpos) none epos.line X.env = pure false := by rfl) :
    WS X Lk.no (.Try [.Expr (.Call (.Name fx p) (e :: es) [] cpos) epos] [.ExceptHandler (some (.Name x np)) (some n) (b₀ :: suite) pos'] [] [] pos) (sTry X.K S sp t none i tsu) :=
  (ps_try_as (tb := fun W => tDrop (tCallS (lSp X.K sp) (L2.WE W) (lA X.K Lk.no t))) (ts := fun a cls d => fun D σ H => ∃ C : Addr, cls = .ref C ∧ d = none ∧ ExcC X.K C ∧ lS X.K Lk.no (tsu C a) D σ H) (Wout := fun _ _ _ _ => False) hs hf hN hi hln hc
    (fun _ _ z => by obtain ⟨_, _, _, _, _, _, _, _, _, _, _, _, _, _, _, _, z⟩ := z; exact z.elim)
    (fun W pn xe tk _ => pss_one (ps_expr (pe_callS (X := X.tr pn xe) F hr hg hm hk hb (fun σ => passAt tk σ) (ha pn xe) hdb he hpl) hsw))
    (fun a oe cls d pn hz hf => ⟨fun pins s σ H D I ⟨C, ec, ed, ex, q⟩ => by subst ec ed; exact (hsu C a oe pn ex hz hf).run pins s σ H D I q⟩)).imp fun D σ H ⟨ρ, h, DW, S1, t1, kd⟩ =>
    ⟨ρ, h, _, S1, t1, fun ws h1 vs H1 q s1 r1 rws => ⟨ws, h1, _, _, rws, r1, q, fun w h2 v H2 r st hr rw => kd.nx _ h2 _ H2 r (s1.trans st) hr (S1.sr.mono (s1.trans st)), try_el S1 kd s1⟩⟩
theorem ws_tryA {j : Nat} {y : Str} {yp : Pos} (hs : X.stack = X.env :: X.outer) (hf : X.env.frame = some X.env.locals) (hN : X.N.Nodup) (hi : X.N[i]? = some n) (hln : X.env.kindOf n = some .local) (hc : Names X x (.ref S))
    (hj : X.N[j]? = some y) (hy : X.env.scope.names.lookup y = some .local)
    (F : FnOk X.prog X.w X.K X.mg X.base (L2.CX X.prog X.w) k f fd ps (lSp X.K sp)) (hr : Room k X.A) (hg : Gl X fx) (hm : X.mg fx = some (.ref f)) (hk : PySem.W.keepIn X.K (.ref f) = true) (hb : Binds X.K fd ps [])
    (ha : ∀ pn xe, WA (X.tr pn xe) Lk.no (e :: es) t)
    (hsu : ∀ (C a : Addr) (oe : Obj) (pn : List (Addr × Obj)), ExcC X.K C → Zc (.ref C) none oe → (∃ vs, oe.data = .fields vs) → WSs (X.suite a ((a, oe) :: pn)) Lk.no (b₀ :: suite) (tsu C a))
    (hdb : (fx == ("__debug__" : Str)) = false := by decide) (he : starEach (e :: es) X.env = (false, eval e X.env) :: starEach es X.env := by rfl) (hpl : (backTo cpos (starEach es X.env)).any (·.1) = false := by rfl)
    (hsw : swapsWith (.Call (.Name fx p) (e :: es) [] cpos) (some (.Name y yp)) epos.line X.env = pure false := by rfl) :
    WS X Lk.no (.Try [.Assign [.Name y yp] (.Call (.Name fx p) (e :: es) [] cpos) epos] [.ExceptHandler (some (.Name x np)) (some n) (b₀ :: suite) pos'] [] [] pos) (sTry X.K S sp t (some j) i tsu) :=
  (ps_try_as (tb := fun W => tAsg (tCallS (lSp X.K sp) (L2.WE W) (lA X.K Lk.no t)) (gName j)) (ts := fun a cls d => fun D σ H => ∃ C : Addr, cls = .ref C ∧ d = none ∧ ExcC X.K C ∧ lS X.K Lk.no (tsu C a) D σ H) (Wout := fun _ _ _ _ => False) hs hf hN hi hln hc
    (fun _ _ z => by obtain ⟨_, _, _, _, _, _, _, _, _, _, _, _, _, _, _, _, z⟩ := z; exact z.elim)
    (fun W pn xe tk _ => pss_one (ps_set (X := X.tr pn xe) hN hj (.inl hy) (pe_callS (X := X.tr pn xe) F hr hg hm hk hb (fun σ => passAt tk σ) (ha pn xe) hdb he hpl) hsw (.inr hy)))
    (fun a oe cls d pn hz hf => ⟨fun pins s σ H D I ⟨C, ec, ed, ex, q⟩ => by subst ec ed; exact (hsu C a oe pn ex hz hf).run pins s σ H D I q⟩)).imp fun D σ H ⟨ρ, h, DW, S1, t1, kd⟩ =>
    ⟨ρ, h, _, S1, t1, fun ws h1 vs H1 q s1 r1 rws => ⟨ws, h1, _, _, rws, r1, q, fun w h2 v H2 r st hr rw => kd.nx _ h2 _ H2 r (s1.trans st) hr ((S1.sr.mono (s1.trans st)).set rw j), try_el S1 kd s1⟩⟩
end
section
variable {K : PySem.W.Frag} {S : Addr} {sp : SpW} {t : TAW} {tsu : Addr → Addr → TSW} {D : EndsW} {ρ : SlW} {h : HW} {i j : Nat}
theorem go_try0 (k : t ρ h fun ws h1 => sp ws h1 (fun w h2 => D.nx ρ h2) fun x h2 => x.fs = none ∧ ExcC K x.C ∧ PySem.W.exmOne K (.ref x.C) (.ref S) = some true ∧ ∀ a, tsu x.C a (D.sx i) (ρ.set i (some (.ref a))) h2) : sTry K S sp t none i tsu D ρ h := k
theorem go_try1 (k : t ρ h fun ws h1 => sp ws h1 (fun w h2 => D.nx (ρ.set j (some w)) h2) fun x h2 => x.fs = none ∧ ExcC K x.C ∧ PySem.W.exmOne K (.ref x.C) (.ref S) = some true ∧ ∀ a, tsu x.C a (D.sx i) (ρ.set i (some (.ref a))) h2) : sTry K S sp t (some j) i tsu D ρ h := k
theorem go_isE {C a A : Addr} {b : Bool} {R : KW} (e : PySem.W.kitOne K (.ref C) (.ref A) = some b) (k : R (.bl b) h) : isEW K C a [.ref a, .ref A] h R := ⟨A, b, rfl, e, k⟩
end
/-! ## small numbers -/
theorem l2 {i : Int} (h : i.natAbs ≤ 1000000000000000000) : i.natAbs.log2 < 1920 := by
  by_cases z : i.natAbs = 0
  · rw [z]; decide
  · rw [Nat.log2_lt z]
    exact Nat.lt_of_le_of_lt h (Nat.lt_of_lt_of_le (by decide : (1000000000000000000 : Nat) < 2 ^ 64) (Nat.pow_le_pow_right (by decide) (by decide)))
end Wl
namespace Wl
open PySem PySem.Spec PyProof.Rows L2
theorem decS_len {i : Int} (h : i.natAbs.log2 < 1920) : (decS i).length ≤ 1921 := by
  have := int_text_len_1921 h
  unfold decS
  rw [Array.length_toList]
  exact this
theorem decS_len' {i : Int} (h : i.natAbs ≤ 1000000000000000000) : (decS i).length ≤ 1921 := decS_len (l2 h)
theorem decS_nat (n : Nat) : decS (n : Int) = TL.numL n := TL.tl_num n
/-! ## comprehensions over what is not one list -/
section
variable {ti : TIW} {te tb : TEW} {tt : TTW} {j : Nat} {ρ : SlW} {h : HW} {R : KW}
def LcB (j : Nat) (tt : TTW) (te : TEW) (ρ : SlW) (R : KW) (ws : List W) (h1 : HW) : Prop := ws.length ≤ 16000000 ∧ ∀ p, h1 p = none → ∃ Pv : Nat → List W → HW → Prop, Pv 0 [] h1 ∧
  (∀ i w acc h', ws[i]? = some w → h' p = none → acc.length ≤ i → Pv i acc h' → tt (ρ.set j (some w)) (updW h' p (.lst acc)) fun b h3 => if b = true then te (ρ.set j (some w)) h3 fun y h4 => ∃ h5, Sub (updW h5 p (.lst acc)) h4 ∧ h5 p = none ∧ Pv (i + 1) (acc ++ [y]) h5
    else ∃ h5, Sub (updW h5 p (.lst acc)) h3 ∧ h5 p = none ∧ Pv (i + 1) acc h5) ∧ ∀ acc h', h' p = none → Pv ws.length acc h' → R (.lst acc) h'
theorem go_lcS (k : ti ρ h (LcB j tt te ρ R)) : oLc ti j tt te ρ h R := k
theorem go_itL {P : List W → HW → Prop} (k : te ρ h fun x h1 => match x with | .lst ws => P ws h1 | .scr ws => P ws h1 | _ => False) : oItL te ρ h P := k
theorem lcB_P {ws : List W} (G : W → W → Prop) (hz : ws.length ≤ 16000000) (el : ∀ (w : W) (h' : HW) (R' : KW), w ∈ ws → (∀ y, G w y → R' y h') → tb (ρ.set j (some w)) h' R') (k : ∀ ys, Paired G ws ys → R (.lst ys) h) : LcB j oYes tb ρ R ws h :=
  go_lcP (ti := fun _ h P => P ws h) ws (fun _ q => q) hz G el k
end
/-! ## the head -/
theorem hspW {sp : SpW} {n : Nat} (hsp : ∀ (h : HW) (ns : List Int), ns.length ≤ n → sp [.scr (ns.map W.int)] h (fun w _ => w = .bl true) noX) (K : PySem.W.Frag) (H : Hp) (a : Addr) (ns : List Int) (hl : ns.length ≤ n) (ho : Only H) (hS : SqL K H a (ns.map V.int)) :
    lSp K sp [.ref a] H (fun v _ => v = .bl true) fun _ _ _ => False := by
  have rIs : ∀ ns : List Int, RWs K H (fun _ => none) (ns.map V.int) (ns.map W.int) := fun ns => by
    induction ns with
    | nil => exact .nil
    | cons n ns ih => exact .cons (.int n) ih
  have f : FzS K H (fun _ => none) a (ns.map V.int) := by
    rcases hS with (e | e) | e
    · rcases ho a with z | ⟨o, xs, z⟩ <;> rw [e] at z <;> cases z
    · exact .inl ⟨e, rfl⟩
    · exact .inr e
  exact ⟨_, fun _ => none, _, noX, .cons (.scr f (rIs ns)) .nil, (fun _ _ z => nomatch z), hsp _ ns hl, fun w h' v H' e _ _ r => by subst e; cases r; rfl, fun _ _ _ _ z => z.elim⟩
/-! ## constants of the written part -/
inductive Sks (K : PySem.W.Frag) : List Value → List W → Prop
  | nil : Sks K [] []
  | cons {u : Value} {w : W} {us : List Value} {ws : List W} (s : Sk K u w) (t : Sks K us ws) : Sks K (u :: us) (w :: ws)
theorem Sks.is {K : PySem.W.Frag} {us : List Value} {ws : List W} (s : Sks K us ws) : ∃ vs, Vals vs us ∧ ∀ H h, RWs K H h vs ws := by
  induction s with
  | nil => exact ⟨[], .nil, fun _ _ => .nil⟩
  | cons s _ ih =>
    obtain ⟨v, a, b⟩ := s.is
    obtain ⟨vs, c, d⟩ := ih
    exact ⟨v :: vs, .cons a c, fun H h => .cons (b H h) (d H h)⟩
theorem Sk.int {K : PySem.W.Frag} (i : Int) (t : Tok) : Sk K (.int i t) (.int i) := ⟨.int i, ⟨t, rfl⟩, fun _ _ => .int i⟩
theorem Sk.str {K : PySem.W.Frag} (s : List Nat) (t : Tok) : Sk K (.str (mkS s) t) (.str s) := ⟨.str (mkS s), ⟨t, rfl⟩, fun _ _ => .str s⟩
theorem Sk.bl {K : PySem.W.Frag} (b : Bool) : Sk K (.bool b) (.bl b) := ⟨.bl b, rfl, fun _ _ => .bl b⟩
theorem Sk.ref {K : PySem.W.Frag} (a : Addr) : Sk K (.ref a) (.ref a) := ⟨.ref a, rfl, fun _ _ => .ref a⟩
theorem Sk.tup {K : PySem.W.Frag} {a : Addr} {d : Option Addr} {its : Array Value} {n : Nat} {sl : Array (Option Value)} {ws : List W} (lk : K.lookup a = some ⟨.type "tuple", d, .seq its n, sl⟩) (hs : its.size ≤ sizeLine) (s : Sks K its.toList ws) : Sk K (.ref a) (.tup ws) := by
  obtain ⟨vs, c, r⟩ := s.is
  exact ⟨.ref a, rfl, fun H h => .tup (.inr ⟨_, its, n, lk, rfl, rfl, hs, c⟩) (r H h)⟩
/-! ## classes -/
section
variable {K : PySem.W.Frag} {C S : Addr} {r : Bool} {cd : ClassData}
theorem kitCls_of (t : PySem.W.typeIn K (.ref S) = some (.type "type")) (c : (PySem.W.clsIn K S).isSome = true) (s : PySem.W.subIn K (.ref C) (.ref S) = some r) : PySem.W.kitCls K (.ref C) (.ref S) = some r := by
  unfold PySem.W.kitCls
  dsimp only
  rw [c, t, Bool.true_and, beq_self_eq_true, if_pos rfl]
  exact s
theorem exm_of (b : PySem.W.subIn K (.ref S) (.type "BaseException") = some true) (t : PySem.W.typeIn K (.ref S) = some (.type "type")) (c : (PySem.W.clsIn K S).isSome = true) (s : PySem.W.subIn K (.ref C) (.ref S) = some r) : PySem.W.exmOne K (.ref C) (.ref S) = some r := by
  unfold PySem.W.exmOne
  rw [b, beq_self_eq_true, if_pos rfl]
  exact kitCls_of t c s
theorem kit_me : PySem.W.kitOne K (.ref C) (.ref C) = some true := if_pos (beq_self_eq_true _)
theorem kit_of (n : (Value.ref C == Value.ref S) = false) (t : PySem.W.typeIn K (.ref S) = some (.type "type")) (c : (PySem.W.clsIn K S).isSome = true) (s : PySem.W.subIn K (.ref C) (.ref S) = some r) : PySem.W.kitOne K (.ref C) (.ref S) = some r := by
  unfold PySem.W.kitOne
  rw [n, if_neg Bool.false_ne_true]
  exact kitCls_of t c s
theorem some_is {α : Type} {x : Option α} {a : α} (h : x = some a) : x.isSome = true := by rw [h]; rfl
end
end Wl

set_option Elab.async false
set_option linter.all false
set_option maxRecDepth 100000
namespace Wl
open PySem PySem.Spec PyProof.Rows L2
/-! ## dicts with ints and texts as keys -/
def wKey : L2.Key → W
  | .inl i => .int i
  | .inr x => .str x.cps.toList
/-- the pairs of a dict: owned or not -/
def dW (x : W) (h : HW) : Option (List (L2.Key × W)) := match x with
  | .dic kws => some kws
  | .ref p => (match h p with | some (.dic kws) => some kws | _ => none)
  | _ => none
def valW {α : Type} (kws : List (L2.Key × α)) (k : L2.Key) : Option α := (kws.find? fun kv => decide (kv.1 = k)).map (·.2)
def putW {α : Type} (kws : List (L2.Key × α)) (k : L2.Key) (w : α) : List (L2.Key × α) :=
  if (kws.any fun kv => decide (kv.1 = k)) = true then kws.map (fun kv => if kv.1 = k then (kv.1, w) else kv) else kws ++ [(k, w)]
section
variable {K : PySem.W.Frag} {H : Hp} {h : HW}
theorem RKs.val {k : L2.Key} : ∀ {kvs : List (L2.Key × V)} {kws : List (L2.Key × W)}, RKs K H h kvs kws → (valV kvs k = none ∧ valW kws k = none) ∨ ∃ v w, valV kvs k = some v ∧ valW kws k = some w ∧ RW K H h v w
  | _, _, .nil => .inl ⟨rfl, rfl⟩
  | _, _, @RKs.cons _ _ _ k' v w vs ws r t => by
    by_cases e : k' = k
    · exact .inr ⟨v, w, by simp [valV, List.find?_cons, e], by simp [valW, List.find?_cons, e], r⟩
    · rcases t.val (k := k) with ⟨a, b⟩ | ⟨v', w', a, b, c⟩
      · exact .inl ⟨by simpa [valV, List.find?_cons, e] using a, by simpa [valW, List.find?_cons, e] using b⟩
      · exact .inr ⟨v', w', by simpa [valV, List.find?_cons, e] using a, by simpa [valW, List.find?_cons, e] using b, c⟩
theorem RKs.length : ∀ {kvs : List (L2.Key × V)} {kws : List (L2.Key × W)}, RKs K H h kvs kws → kvs.length = kws.length
  | _, _, .nil => rfl
  | _, _, .cons _ t => congrArg (· + 1) t.length
theorem RKs.any {k : L2.Key} : ∀ {kvs : List (L2.Key × V)} {kws : List (L2.Key × W)}, RKs K H h kvs kws → (kvs.any fun kv => decide (kv.1 = k)) = kws.any fun kv => decide (kv.1 = k)
  | _, _, .nil => rfl
  | _, _, .cons _ t => by simp [t.any]
theorem RKs.putMap {k : L2.Key} {v : V} {w : W} (r : RW K H h v w) : ∀ {kvs : List (L2.Key × V)} {kws : List (L2.Key × W)}, RKs K H h kvs kws → RKs K H h (kvs.map fun kv => if kv.1 = k then (kv.1, v) else kv) (kws.map fun kv => if kv.1 = k then (kv.1, w) else kv)
  | _, _, .nil => .nil
  | _, _, @RKs.cons _ _ _ k' v' w' vs ws q t => by
    simp only [List.map_cons]
    by_cases e : k' = k
    · rw [if_pos e, if_pos e]; exact .cons r (t.putMap r)
    · rw [if_neg e, if_neg e]; exact .cons q (t.putMap r)
theorem RKs.snoc {k : L2.Key} {v : V} {w : W} (r : RW K H h v w) : ∀ {kvs : List (L2.Key × V)} {kws : List (L2.Key × W)}, RKs K H h kvs kws → RKs K H h (kvs ++ [(k, v)]) (kws ++ [(k, w)])
  | _, _, .nil => .cons r .nil
  | _, _, .cons q t => .cons q (t.snoc r)
theorem RKs.put {k : L2.Key} {v : V} {w : W} (r : RW K H h v w) {kvs : List (L2.Key × V)} {kws : List (L2.Key × W)} (t : RKs K H h kvs kws) : RKs K H h (putK kvs k v) (putW kws k w) := by
  unfold putK putW
  rw [t.any (k := k)]
  split
  · exact t.putMap r
  · exact t.snoc r
theorem RKs.keys : ∀ {kvs : List (L2.Key × V)} {kws : List (L2.Key × W)}, RKs K H h kvs kws → RWs K H h (kvs.map fun kv => kV kv.1) (kws.map fun kv => wKey kv.1)
  | _, _, .nil => .nil
  | _, _, @RKs.cons _ _ _ k v w vs ws _ t => by
    refine .cons ?_ t.keys
    cases k with
    | inl i => exact .int i
    | inr x =>
      have e : x = mkS x.cps.toList := by cases x; rfl
      show RW K H h (.str x) (.str x.cps.toList)
      conv => lhs; rw [e]
      exact .str _
theorem dic_at {v : V} {x : W} {kws : List (L2.Key × W)} (hr : HR K H h) (r : RW K H h v x) (e : dW x h = some kws) : ∃ a kvs, v = .ref a ∧ H a = some (.dK kvs) ∧ RKs K H h kvs kws := by
  unfold dW at e
  split at e
  · cases e
    cases r with
    | dic f q => exact ⟨_, _, rfl, f.1, q⟩
  · split at e
    · rename_i hp
      cases e
      cases r
      obtain ⟨kvs, a, b⟩ := hr _ _ hp
      exact ⟨_, _, rfl, a, b⟩
    · cases e
  · cases e
theorem key_at {v : V} {x : W} {k : L2.Key} (r : RW K H h v x) (e : keyW x = some k) : v = kV k := by
  unfold keyW at e
  split at e
  · cases e; cases r; rfl
  · cases e; cases r; rfl
  · cases e
theorem KV.dic {R : KW} {Q : VK} (k : KV K H h R Q) (hr : HR K H h) {kvs : List (L2.Key × V)} {kws : List (L2.Key × W)} (r : RKs K H h kvs kws) (t : R (.dic kws) h) {p : Addr} (e : H p = none) : Q (.ref p) (upd H p (.dK kvs)) :=
  k _ h _ _ t (.newF e _) (hr.newF e _) (.dic ⟨upd_same, hr.fresh e⟩ (r.mono (.newF e _)))
theorem KV.dicO {R : KW} {Q : VK} (k : KV K H h R Q) (hr : HR K H h) {kvs : List (L2.Key × V)} {kws : List (L2.Key × W)} (r : RKs K H h kvs kws) (t : ∀ p, h p = none → R (.ref p) (updW h p (.dic kws))) {p : Addr} (e : H p = none) : Q (.ref p) (upd H p (.dK kvs)) :=
  k _ _ _ _ (t p (hr.fresh e)) (.newO e _ _) (hr.newO e ⟨kvs, upd_same, r.mono (.newO e _ _)⟩) (.ref p)
end
section
variable {X : Cx} {L : Lk} {a b c : Expr} {pos : Pos} {ta tb tc : TEW}
/-- {}: one that stays, one that is owned -/
def oD0 : TEW := fun _ h R => R (.dic []) h
def oD0O : TEW := fun _ h R => ∀ p, h p = none → R (.ref p) (updW h p (.dic []))
theorem w_d0 : WE X L (.Dict [] [] pos) oD0 := pe_dnewK.imp fun σ H Q ⟨ρ, h, R, S, t, k⟩ p hp => k.dic S.hr .nil t hp
theorem w_d0O : WE X L (.Dict [] [] pos) oD0O := pe_dnewK.imp fun σ H Q ⟨ρ, h, R, S, t, k⟩ p hp => k.dicO S.hr .nil t hp
/-- dict(d) -/
def dictW : List W → HW → KW → Prop := fun ws h R => match ws with | [x] => (match dW x h with | some kws => R (.dic kws) h | none => False) | _ => False
def dictOW : List W → HW → KW → Prop := fun ws h R => match ws with | [x] => (match dW x h with | some kws => ∀ p, h p = none → R (.ref p) (updW h p (.dic kws)) | none => False) | _ => False
abbrev rDict : List V → Hp → VK → Prop := fun xs H Q => ∃ (a : Addr) (kvs : List (Key × V)), xs = [.ref a] ∧ Rd H a (.dK kvs) ∧ ∀ p, H p = none → Q (.ref p) (upd H p (.dK kvs))
theorem lf_dict {K : PySem.W.Frag} : LfC K rDict dictW := fun xs H Q ws h R r hr t k => by
  unfold dictW at t
  split at t
  · split at t
    · rename_i e
      obtain ⟨x, rfl, q⟩ := r.one
      obtain ⟨a, kvs, rfl, ha, rk⟩ := dic_at hr q e
      exact ⟨a, kvs, rfl, .inl ha, fun p hp => k.dic hr rk t hp⟩
    · exact t.elim
  · exact t.elim
theorem lf_dictO {K : PySem.W.Frag} : LfC K rDict dictOW := fun xs H Q ws h R r hr t k => by
  unfold dictOW at t
  split at t
  · split at t
    · rename_i e
      obtain ⟨x, rfl, q⟩ := r.one
      obtain ⟨a, kvs, rfl, ha, rk⟩ := dic_at hr q e
      exact ⟨a, kvs, rfl, .inl ha, fun p hp => k.dicO hr rk t hp⟩
    · exact t.elim
  · exact t.elim
/-- list(d) -/
def listDW : List W → HW → KW → Prop := fun ws h R => match ws with | [x] => (match dW x h with | some kws => R (.lst (kws.map fun kv => wKey kv.1)) h | none => False) | _ => False
theorem lf_listD {K : PySem.W.Frag} : LfC K rListD listDW := fun xs H Q ws h R r hr t k => by
  unfold listDW at t
  split at t
  · split at t
    · rename_i e
      obtain ⟨x, rfl, q⟩ := r.one
      obtain ⟨a, kvs, rfl, ha, rk⟩ := dic_at hr q e
      exact ⟨a, kvs, rfl, ha, fun p hp => k.lst hr rk.keys t hp⟩
    · exact t.elim
  · exact t.elim
/-- len(d) -/
def lenDW : List W → HW → KW → Prop := fun ws h R => match ws with | [x] => (match dW x h with | some kws => R (.int kws.length) h | none => False) | _ => False
theorem lf_lenD {K : PySem.W.Frag} : LfC K (fun xs H Q => ∃ a kvs, xs = [V.ref a] ∧ H a = some (.dK kvs) ∧ Q (.int kvs.length) H) lenDW := fun xs H Q ws h R r hr t k => by
  unfold lenDW at t
  split at t
  · split at t
    · rename_i e
      obtain ⟨x, rfl, q⟩ := r.one
      obtain ⟨a, kvs, rfl, ha, rk⟩ := dic_at hr q e
      refine ⟨a, kvs, rfl, ha, ?_⟩
      rw [rk.length]
      exact k.go hr t (.int _)
    · exact t.elim
  · exact t.elim
/-- k in d -/
def dgW (x y : W) (h : HW) : Option (Option W) := match dW x h, keyW y with | some kws, some k => some (valW kws k) | _, _ => none
theorem dg_at {K : PySem.W.Frag} {H : Hp} {h : HW} {v u : V} {x y : W} {o : Option W} (hr : HR K H h) (rx : RW K H h v x) (ry : RW K H h u y) (e : dgW x y h = some o) :
    ∃ a ov, v = .ref a ∧ DGet H a u ov ∧ IsD H a ∧ ((ov = none ∧ o = none) ∨ ∃ v1 w1, ov = some v1 ∧ o = some w1 ∧ RW K H h v1 w1) := by
  unfold dgW at e
  split at e
  · rename_i e1 e2
    cases e
    obtain ⟨a, kvs, rfl, ha, rk⟩ := dic_at hr rx e1
    cases key_at ry e2
    exact ⟨a, _, rfl, .k ha, .inl ⟨_, .inl ha⟩, rk.val⟩
  · cases e
def dinW : W → W → HW → KW → Prop := fun y x h R => match dgW x y h with | some o => R (.bl o.isSome) h | none => False
def dnotinW : W → W → HW → KW → Prop := fun y x h R => match dgW x y h with | some o => R (.bl (!o.isSome)) h | none => False
theorem din_imp {K : PySem.W.Frag} : ∀ σ H Q, lE K L (oOp dinW ta tb) σ H Q → tDIn (lE K L ta) (lE K L tb) σ H Q := fun σ H Q ⟨ρ, h, R, S, t, k⟩ =>
  ⟨ρ, h, _, S, t, fun w1 h1 v1 H1 t1 s1 r1 q1 => ⟨ρ, h1, _, S.to s1 r1, t1, fun w2 h2 v2 H2 t2 s2 r2 q2 => by
    unfold dinW at t2
    split at t2
    · rename_i o e
      obtain ⟨a, ov, rfl, g, _, z⟩ := dg_at r2 q2 (q1.mono s2) e
      refine ⟨a, ov, rfl, g, ?_⟩
      rcases z with ⟨rfl, rfl⟩ | ⟨_, _, rfl, rfl, _⟩ <;> exact k _ h2 _ H2 t2 (s1.trans s2) r2 (.bl _)
    · exact t2.elim⟩⟩
theorem dnotin_imp {K : PySem.W.Frag} : ∀ σ H Q, lE K L (oOp dnotinW ta tb) σ H Q → tDNotIn (lE K L ta) (lE K L tb) σ H Q := fun σ H Q ⟨ρ, h, R, S, t, k⟩ =>
  ⟨ρ, h, _, S, t, fun w1 h1 v1 H1 t1 s1 r1 q1 => ⟨ρ, h1, _, S.to s1 r1, t1, fun w2 h2 v2 H2 t2 s2 r2 q2 => by
    unfold dnotinW at t2
    split at t2
    · rename_i o e
      obtain ⟨a, ov, rfl, g, _, z⟩ := dg_at r2 q2 (q1.mono s2) e
      refine ⟨a, ov, rfl, g, ?_⟩
      rcases z with ⟨rfl, rfl⟩ | ⟨_, _, rfl, rfl, _⟩ <;> exact k _ h2 _ H2 t2 (s1.trans s2) r2 (.bl _)
    · exact t2.elim⟩⟩
theorem w_din (hu : X.A.units + 1 < cLine) (ha : WE X L a ta) (hb : WE X L b tb) (hm : behindInMarks .In b = false := by rfl) : WE X L (.Compare a [.In] [b] pos) (oOp dinW ta tb) := (pe_cmp (pc_din hu ha hb) hm).imp din_imp
theorem w_dnotin (hu : X.A.units + 1 < cLine) (ha : WE X L a ta) (hb : WE X L b tb) (hm : behindInMarks .NotIn b = false := by rfl) : WE X L (.Compare a [.NotIn] [b] pos) (oOp dnotinW ta tb) := (pe_cmp (pc_dnotin hu ha hb) hm).imp dnotin_imp
theorem wt_din (hu : X.A.units + 1 < cLine) (ha : WE X L a ta) (hb : WE X L b tb) (hm : behindInMarks .In b = false := by rfl) : WT X L (.Compare a [.In] [b] pos) (oTest (oOp dinW ta tb)) := (pt_cmp (pc_din hu ha hb) hm).imp (test_imp din_imp)
theorem wt_dnotin (hu : X.A.units + 1 < cLine) (ha : WE X L a ta) (hb : WE X L b tb) (hm : behindInMarks .NotIn b = false := by rfl) : WT X L (.Compare a [.NotIn] [b] pos) (oTest (oOp dnotinW ta tb)) := (pt_cmp (pc_dnotin hu ha hb) hm).imp (test_imp dnotin_imp)
/-- d[k] -/
def dgetW : W → W → HW → KW → Prop := fun x y h R => match dgW x y h with | some (some w) => R w h | _ => False
theorem w_dget (hu : X.A.units + 1 < cLine) (ha : WE X L a ta) (hb : WE X L b tb) (hs : NoSl b := by exact fun _ _ => rfl) : WE X L (.Subscript a b pos) (oOp dgetW ta tb) := (pe_dget hu ha hb hs).imp fun σ H Q ⟨ρ, h, R, S, t, k⟩ =>
  ⟨ρ, h, _, S, t, fun w1 h1 v1 H1 t1 s1 r1 q1 => ⟨ρ, h1, _, S.to s1 r1, t1, fun w2 h2 v2 H2 t2 s2 r2 q2 => by
    unfold dgetW at t2
    split at t2
    · rename_i w e
      obtain ⟨a, ov, rfl, g, _, z⟩ := dg_at r2 (q1.mono s2) q2 e
      rcases z with ⟨_, z⟩ | ⟨v3, w3, rfl, e3, r3⟩
      · cases z
      · cases e3; exact ⟨a, v3, rfl, g, k _ h2 _ H2 t2 (s1.trans s2) r2 r3⟩
    · exact t2.elim⟩⟩
/-- d[k] = v -/
def dputK (x : W) (k : Option L2.Key) (v : W) (P : HW → Prop) (h3 : HW) : Prop := match x, k with
  | .ref p, some k => (match h3 p with | some (.dic kws) => kws.length ≤ 16000000 ∧ P (updW h3 p (.dic (putW kws k v))) | _ => False)
  | _, _ => False
def sDput (tv td ty : TEW) : TSW := fun D ρ h => tv ρ h fun v h1 => td ρ h1 fun x h2 => ty ρ h2 fun y h3 => dputK x (keyW y) v (D.nx ρ) h3
theorem ws_dput {pos' : Pos} (hu : X.A.units + 1 < cLine) (ho : WE X L a ta) (hi : WE X L b tb) (hv : WE X L c tc) (hs : swapsWith c (some (.Subscript a b pos')) pos.line X.env = pure false := by rfl) :
    WS X L (.Assign [.Subscript a b pos'] c pos) (sDput tc ta tb) := (ps_dput hu ho hi hv hs).imp fun D σ H ⟨ρ, h, DW, S, t, k⟩ =>
  ⟨ρ, h, _, S, t, fun w1 h1 v1 H1 t1 s1 r1 q1 => ⟨ρ, h1, _, S.to s1 r1, t1, fun w2 h2 v2 H2 t2 s2 r2 q2 => ⟨ρ, h2, _, S.to (s1.trans s2) r2, t2, fun w3 h3 v3 H3 t3 s3 r3 q3 => by
    unfold dputK at t3
    split at t3
    · rename_i p k' e
      split at t3
      · rename_i kws hp
        cases q2
        obtain ⟨kvs, hk, rk⟩ := r3 _ _ hp
        cases key_at q3 e
        have st : ST H3 h3 (upd H3 p (.dK (putK kvs k' v1))) (updW h3 p (.dic (putW kws k' w1))) := .mut hp _ _
        refine ⟨p, _, rfl, .inl ⟨kvs, k', hk, rfl, by rw [rk.length]; exact sz_lt t3.1, rfl⟩, k.nx ρ _ _ _ t3.2 (((s1.trans s2).trans s3).trans st) ?_ ((S.sr.mono ((s1.trans s2).trans s3)).mono st)⟩
        exact r3.mut hp ⟨_, upd_same, (rk.mono st).put (((q1.mono s2).mono s3).mono st)⟩
      · exact t3.elim
    · exact t3.elim⟩⟩⟩
end
/-! ## is it empty? -/
def truW (x : W) (h : HW) : Option Bool := match x with
  | .non => some false
  | .bl b => some b
  | .int i => some (i != 0)
  | .tup ws => some (!ws.isEmpty)
  | .lst ws => some (!ws.isEmpty)
  | .scr ws => some (!ws.isEmpty)
  | .dic kws => some (!kws.isEmpty)
  | .ref p => (match h p with | some (.lst ws) => some (!ws.isEmpty) | some (.dic kws) => some (!kws.isEmpty) | _ => none)
  | _ => none
section
variable {X : Cx} {L : Lk} {e : Expr} {te : TEW}
def truK (o : Option Bool) (R : Bool → HW → Prop) (h1 : HW) : Prop := match o with | some b => R b h1 | none => False
def oTruth (te : TEW) : TTW := fun ρ h R => te ρ h fun x h1 => truK (truW x h1) R h1
theorem emp_of {K : PySem.W.Frag} {H : Hp} {h : HW} {vs : List V} {ws : List W} (r : RWs K H h vs ws) : (!ws.isEmpty) = !vs.isEmpty := by cases r <;> rfl
theorem empK_of {K : PySem.W.Frag} {H : Hp} {h : HW} {vs : List (L2.Key × V)} {ws : List (L2.Key × W)} (r : RKs K H h vs ws) : (!ws.isEmpty) = !vs.isEmpty := by cases r <;> rfl
theorem wt_truth (ha : WE X L e te) (he : ∀ whole, isTrue e X.env whole = (do let v ← whole; standAt e.pos; holding [v] (truthy v)) := by intro _; rfl) : WT X L e (oTruth te) := (pt_truth ha he).imp fun σ H Q ⟨ρ, h, R, S, t, k⟩ =>
  ⟨ρ, h, _, S, t, fun w1 h1 v1 H1 t1 s1 r1 q1 => by
    unfold truK at t1
    split at t1
    · rename_i b eb
      refine ⟨b, ?_, k b h1 H1 t1 s1 r1⟩
      unfold truW at eb
      split at eb
      · cases eb; cases q1; rfl
      · cases eb; cases q1; rfl
      · cases eb; cases q1; rfl
      · cases eb; cases q1 with | tup f r => exact .inr (.inl ⟨_, f.sq, emp_of r⟩)
      · cases eb; cases q1 with | lst f r => exact .inl ⟨_, f.sq, emp_of r⟩
      · cases eb; cases q1 with | scr f r => exact .inl ⟨_, f.sq, emp_of r⟩
      · cases eb; cases q1 with | dic f r => exact .inr (.inr ⟨_, f.1, empK_of r⟩)
      · split at eb
        · rename_i hp
          cases eb; cases q1
          obtain ⟨vs, a, r⟩ := r1 _ _ hp
          exact .inl ⟨_, .inl (.inl a), emp_of r⟩
        · rename_i hp
          cases eb; cases q1
          obtain ⟨vs, a, r⟩ := r1 _ _ hp
          exact .inr (.inr ⟨_, a, empK_of r⟩)
        · cases eb
      · cases eb
    · exact t1.elim⟩
end
end Wl

set_option Elab.async false
set_option linter.all false
set_option maxRecDepth 100000
namespace L2
open PySem PySem.Spec PyProof.Rows
/-- d.get(k, x), d a written dict with texts as keys -/
def tKGet2 (K : PySem.W.Frag) (w : World) (td ty tx : TE) : TE := fun σ H Q => td σ H fun x H1 => ∃ (p : Addr) (es : Array DictEntry) (n : Nat), x = .ref p ∧ K.lookup p = some ⟨.type "dict", none, .dict es n, #[]⟩ ∧ PySem.W.KeysLit w.params es.toList ∧ (p == sysModules) = false ∧
  ty σ H1 fun y H2 => tx σ H2 fun z H3 => ∃ (s : Str) (ou : Option Value), y = .str s ∧ PySem.W.nsIn K p s = some ou ∧ (∀ u, ou = some u → ∃ v, RelV v u ∧ Q v H3) ∧ (ou = none → Q z H3)
section
variable {X : Cx} {o e f : Expr} {apos cpos : Pos} {td ty tx : TE}
theorem pe_kget2 (ho : PE X o td) (he : PE X e ty) (hf : PE X f tx) (m : M2 X o "get" apos e f cpos) : PE X (.Call (.Attribute o "get" apos) [e, f] [] cpos) (tKGet2 X.K X.w td ty tx) := by
  refine ⟨fun pins s σ H Q I h => ?_⟩
  refine wpAny_Call_method m.base m.few m.line PySem.F.plainAttrs_dict PySem.F.slot_dict_get PySem.F.type_dict_get (thn (ho.run pins s σ H _ I h) fun u s1 ⟨x, H1, I1, rx, p, es, n, ex, hl, hk, low, q1⟩ => ?_)
  subst ex
  obtain rfl : u = Value.ref p := rx
  have hm1 := PySem.W.mapOf_K (prog := X.prog) (w := X.w) I1.kIn hl hk
  refine ⟨hm1.typeIs, fun b q => by cases q; exact ⟨_, I1.kIn _ _ hl, rfl⟩, ?_⟩
  rw [m.trees]
  refine Calls.callWith_builtin rfl (Calls.evalArgs_plain (Calls.spliced_cons (thn (he.run pins s1 σ H1 _ I1 q1) fun iv s2 ⟨y, H2, I2, ry, q2⟩ =>
    Calls.spliced_cons (thn (hf.run pins s2 σ H2 _ I2 q2) fun fv s3 ⟨z, H3, I3, rz, st, ou, ey, en, qs, qn⟩ => Calls.spliced_nil ?_))))
  subst ey
  obtain ⟨t, rfl⟩ := (show ∃ t, iv = Value.str st t from ry)
  have hm := PySem.W.mapOf_K (prog := X.prog) (w := X.w) I3.kIn hl hk
  have hf' := PySem.W.find_K hl en
  refine call_meetsIn PySem.F.slot_dict_get hm.typeIs PySem.F.entry_dict_get (PySem.F.args_dict_get_3 _ _ _) (meets_dict_get_default (strKind X.prog X.w) p (strKind_is X.prog X.w st t) low fv) ⟨_, hm, ?_⟩
  show EP X pins σ Q _ _
  rw [hf']
  cases ou with
  | some u =>
    obtain ⟨v, rv, q⟩ := qs u rfl
    exact ⟨v, H3, I3.tok _, rv, q⟩
  | none => exact ⟨z, H3, I3.tok _, rz, qn rfl⟩
end
end L2
namespace Wl
open PySem PySem.Spec PyProof.Rows L2
/-! ## written dicts -/
inductive KYes (K : PySem.W.Frag) (p : Addr) : List (List Nat × W) → Prop
  | nil : KYes K p []
  | cons {s : List Nat} {w : W} {u : Value} {r : List (List Nat × W)} (n : PySem.W.nsIn K p (mkS s) = some (some u)) (q : Sk K u w) (t : KYes K p r) : KYes K p ((s, w) :: r)
inductive KNo (K : PySem.W.Frag) (p : Addr) : List (List Nat) → Prop
  | nil : KNo K p []
  | cons {s : List Nat} {r : List (List Nat)} (n : PySem.W.nsIn K p (mkS s) = some none) (t : KNo K p r) : KNo K p (s :: r)
structure KTab (w : World) (K : PySem.W.Frag) (p : Addr) (tbl : List (List Nat × W)) (no : List (List Nat)) : Prop where
  ex : ∃ es n, K.lookup p = some ⟨.type "dict", none, .dict es n, #[]⟩ ∧ PySem.W.KeysLit w.params es.toList
  low : (p == sysModules) = false
  yes : KYes K p tbl
  no : KNo K p no
def tabW : List (List Nat × W) → List Nat → Option W
  | [], _ => none
  | (s, w) :: r, t => if s = t then some w else tabW r t
theorem KYes.at {K : PySem.W.Frag} {p : Addr} {tbl : List (List Nat × W)} {s : List Nat} {w : W} (y : KYes K p tbl) (e : tabW tbl s = some w) : ∃ u, PySem.W.nsIn K p (mkS s) = some (some u) ∧ Sk K u w := by
  induction y with
  | nil => cases e
  | cons n q t ih =>
    unfold tabW at e
    split at e
    · rename_i es
      cases e; subst es; exact ⟨_, n, q⟩
    · exact ih e
theorem KNo.at {K : PySem.W.Frag} {p : Addr} {no : List (List Nat)} {s : List Nat} (y : KNo K p no) (e : s ∈ no) : PySem.W.nsIn K p (mkS s) = some none := by
  induction y with
  | nil => cases e
  | cons n t ih =>
    rcases List.mem_cons.mp e with rfl | e
    · exact n
    · exact ih e
section
variable {X : Cx} {L : Lk} {a b c : Expr} {pos apos : Pos} {ta tb tc : TEW} {p : Addr} {tbl : List (List Nat × W)} {no : List (List Nat)}
def kgetW (p : Addr) (tbl : List (List Nat × W)) : RW2 := fun x y h R => x = .ref p ∧ match y with | .str s => (match tabW tbl s with | some w => R w h | none => False) | _ => False
theorem lf_kget {w : World} {K : PySem.W.Frag} (T : KTab w K p tbl no) : Lf2 K (rIxD K w) (kgetW p tbl) := fun x y H Q w1 w2 h R r1 r2 hr t k => by
  obtain ⟨e1, t⟩ := t
  subst e1
  split at t
  · split at t
    · rename_i e
      cases r1; cases r2
      obtain ⟨u, n, s⟩ := T.yes.at e
      obtain ⟨v, rv, rw⟩ := s.is
      obtain ⟨es, n', hl, hk⟩ := T.ex
      exact ⟨p, _, v, rfl, rfl, ⟨es, n', u, hl, hk, n, rv⟩, k.go hr t (rw _ _)⟩
    · exact t.elim
  · exact t.elim
theorem w_kget (T : KTab X.w X.K p tbl no) (ha : WE X L a ta) (hb : WE X L b tb) (hs : PlainIx b := by exact fun _ _ => rfl) : WE X L (.Subscript a b pos) (oOp (kgetW p tbl) ta tb) := (pe_ix ix_kdict ha hb hs).imp (bin_imp (lf_kget T))
def kget2K (tbl : List (List Nat × W)) (no : List (List Nat)) (y z : W) (R : KW) (h3 : HW) : Prop := match y with
  | .str s => (match tabW tbl s with | some w => R w h3 | none => s ∈ no ∧ R z h3)
  | _ => False
def oKGet2 (p : Addr) (tbl : List (List Nat × W)) (no : List (List Nat)) (ta tb tc : TEW) : TEW := fun ρ h R => ta ρ h fun x h1 => x = .ref p ∧ tb ρ h1 fun y h2 => tc ρ h2 fun z h3 => kget2K tbl no y z R h3
theorem w_kget2 {cpos : Pos} (T : KTab X.w X.K p tbl no) (ha : WE X L a ta) (hb : WE X L b tb) (hc : WE X L c tc) (m : M2 X a "get" apos b c cpos := by exact ⟨rfl, rfl, rfl, rfl⟩) : WE X L (.Call (.Attribute a "get" apos) [b, c] [] cpos) (oKGet2 p tbl no ta tb tc) := (pe_kget2 ha hb hc m).imp fun σ H Q ⟨ρ, h, R, S, t, k⟩ =>
  ⟨ρ, h, _, S, t, fun w1 h1 v1 H1 ⟨e1, t1⟩ s1 r1 q1 => by
    subst e1; cases q1
    obtain ⟨es, n', hl, hk⟩ := T.ex
    refine ⟨p, es, n', rfl, hl, hk, T.low, ρ, h1, _, S.to s1 r1, t1, fun w2 h2 v2 H2 t2 s2 r2 q2 => ⟨ρ, h2, _, S.to (s1.trans s2) r2, t2, fun w3 h3 v3 H3 t3 s3 r3 q3 => ?_⟩⟩
    unfold kget2K at t3
    split at t3
    · cases q2
      split at t3
      · rename_i e
        obtain ⟨u, n, s⟩ := T.yes.at e
        obtain ⟨v, rv, rw⟩ := s.is
        exact ⟨_, _, rfl, n, fun u' e' => by cases e'; exact ⟨v, rv, k _ h3 _ H3 t3 ((s1.trans s2).trans s3) r3 (rw _ _)⟩, fun z => nomatch z⟩
      · exact ⟨_, none, rfl, T.no.at t3.1, (fun _ z => nomatch z), fun _ => k _ h3 _ H3 t3.2 ((s1.trans s2).trans s3) r3 q3⟩
    · exact t3.elim⟩
end
/-! ## [elt for x in iter for y in iter2], the heap as it was -/
section
variable {X : Cx} {L : Lk}
abbrev slC2 (ρ : SlW) (j j2 : Nat) (w : W) : SlW := ((ρ.set j2 none).set j none).set j (some w)
def oLc2 (ti : TIW) (j : Nat) (ti2 : TIW) (j2 : Nat) (te : TEW) : TEW := fun ρ h R => ti ρ h fun ws h1 => ∀ p, h1 p = none → ∃ f : W → List W, (ws.flatMap f).length ≤ 16000000 ∧ R (.lst (ws.flatMap f)) h1 ∧
  ∀ w ∈ ws, ∀ acc, ti2 (slC2 ρ j j2 w) (updW h1 p (.lst acc)) fun xs h3 => h3 = updW h1 p (.lst acc) ∧ ∃ g : W → W, f w = xs.map g ∧ ∀ x ∈ xs, ∀ acc2, te ((slC2 ρ j j2 w).set j2 (some x)) (updW h1 p (.lst acc2)) fun y h4 => h4 = updW h1 p (.lst acc2) ∧ y = g x
theorem flatMap_take_len {α β : Type} (f : α → List β) (ws : List α) (i : Nat) : ((ws.take i).flatMap f).length ≤ (ws.flatMap f).length := by
  conv => rhs; rw [← List.take_append_drop i ws]
  rw [List.flatMap_append, List.length_append]; omega
theorem wipe2 {α : Type} (σ : List (Option α)) (j j2 : Nat) (a : Option α) : (((((σ.set j2 none).set j none).set j a).set j2 none).set j none) = (σ.set j2 none).set j none := by
  rw [List.set_set]
  by_cases e : j = j2
  · subst e; simp [List.set_set]
  · rw [List.set_comm _ _ (fun z => e z), List.set_set, List.set_set]
theorem lc2_imp {K : PySem.W.Frag} {ti ti2 : TIW} {j j2 : Nat} {te : TEW} : ∀ σ H Q, lE K L (oLc2 ti j ti2 j2 te) σ H Q → tLc2 (lI K L ti) (gName j) (lT K L oYes) (lI K L ti2) (gName j2) (lT K L oYes) (lE K L te) [j, j2] [j2] σ H Q := fun σ H Q ⟨ρ, h, R, S, t, k⟩ =>
  ⟨ρ, h, _, S, t, fun ws h1 J H1 t1 s1 r1 I D hD => by
    obtain ⟨f, hz, fin, body⟩ := t1 D (r1.fresh hD)
    have nD := r1.fresh hD
    refine ⟨fun i m H2 => m = ws.length - i ∧ i ≤ ws.length ∧ HR K H2 (updW h1 D (.lst ((ws.take i).flatMap f))) ∧ ST H1 h1 H2 (updW h1 D (.lst ((ws.take i).flatMap f))), ⟨_, rfl, Nat.zero_le _, r1.newO hD ⟨[], upd_same, .nil⟩, .newO hD _ _⟩, ?_⟩
    rintro i m H2 ⟨rfl, hi, hr2, st2⟩
    by_cases hlt : i < ws.length
    · have hw : ws[i]? = some ws[i] := List.getElem?_eq_getElem hlt
      obtain ⟨go, yl⟩ := I.step i H2 _ ws[i] st2 hr2 hw
      have ext : (ws.take (i + 1)).flatMap f = (ws.take i).flatMap f ++ f ws[i] := by rw [List.take_add_one, hw, List.flatMap_append]; simp [List.flatMap_cons]
      have lim := flatMap_take_len f ws (i + 1)
      rw [ext] at lim
      refine .inr ⟨go, fun H3 => HR K H3 (updW h1 D (.lst ((ws.take (i + 1)).flatMap f))) ∧ ST H1 h1 H3 (updW h1 D (.lst ((ws.take (i + 1)).flatMap f))), fun H3 p' => ⟨ws.length - (i + 1), by omega, rfl, hlt, p'⟩, fun x H3 y => ?_⟩
      obtain ⟨st3, hr3, rx⟩ := yl x H3 y
      have sr3 : SR K H3 (updW h1 D (.lst ((ws.take i).flatMap f))) (((σ.set j2 none).set j none).set j (some x)) (slC2 ρ j j2 ws[i]) := (((((S.sr.mono s1).mono st2).mono st3).setN j2).setN j).set rx j
      refine ⟨wipe2 σ j j2 (some x), slC2 ρ j j2 ws[i], _, fun b h' => b = true ∧ h' = updW h1 D (.lst ((ws.take i).flatMap f)), ⟨sr3, hr3, L.mono (L.mono (L.mono S.el s1) st2) st3⟩, ⟨rfl, rfl⟩, fun b h4 H4 ⟨eb, eh⟩ s4 r4 => ?_⟩
      subst eb eh
      rw [if_pos rfl]
      have st4 := (st2.trans st3).trans s4
      refine ⟨_, _, _, ⟨sr3.mono s4, r4, L.mono (L.mono S.el s1) st4⟩, body ws[i] (List.getElem_mem hlt) _, fun xs h5 J1 H5 ⟨eh, g, ef, el⟩ s5 r5 I1 => ?_⟩
      subst eh
      rw [ef] at ext lim
      have st5 := st4.trans s5
      refine ⟨fun jj m H6 => m = xs.length - jj ∧ jj ≤ xs.length ∧ HR K H6 (updW h1 D (.lst ((ws.take i).flatMap f ++ (xs.take jj).map g))) ∧ ST H1 h1 H6 (updW h1 D (.lst ((ws.take i).flatMap f ++ (xs.take jj).map g))) ∧
        ST H5 (updW h1 D (.lst ((ws.take i).flatMap f))) H6 (updW h1 D (.lst ((ws.take i).flatMap f ++ (xs.take jj).map g))) ∧ SR K H6 (updW h1 D (.lst ((ws.take i).flatMap f ++ (xs.take jj).map g))) (((σ.set j2 none).set j none).set j (some x)) (slC2 ρ j j2 ws[i]),
        ⟨_, rfl, Nat.zero_le _, by simpa using r5, by simpa using st5, by rw [List.take_zero, List.map_nil, List.append_nil]; exact .refl _ _, by simpa using (sr3.mono s4).mono s5⟩, ?_⟩
      rintro jj m H6 ⟨rfl, hj, hr6, st6, sti6, sr6⟩
      by_cases hl2 : jj < xs.length
      · have hx : xs[jj]? = some xs[jj] := List.getElem?_eq_getElem hl2
        obtain ⟨go2, yl2⟩ := I1.step jj H6 _ xs[jj] sti6 hr6 hx
        refine .inr ⟨go2, fun H7 => HR K H7 (updW h1 D (.lst ((ws.take i).flatMap f ++ (xs.take (jj + 1)).map g))) ∧ ST H1 h1 H7 (updW h1 D (.lst ((ws.take i).flatMap f ++ (xs.take (jj + 1)).map g))) ∧
          ST H5 (updW h1 D (.lst ((ws.take i).flatMap f))) H7 (updW h1 D (.lst ((ws.take i).flatMap f ++ (xs.take (jj + 1)).map g))) ∧ SR K H7 (updW h1 D (.lst ((ws.take i).flatMap f ++ (xs.take (jj + 1)).map g))) (((σ.set j2 none).set j none).set j (some x)) (slC2 ρ j j2 ws[i]),
          fun H7 ⟨a, b, c, d⟩ => ⟨_, by omega, rfl, hl2, a, b, c, d⟩, fun x2 H7 y2 => ?_⟩
        obtain ⟨st7, hr7, rx2⟩ := yl2 x2 H7 y2
        have ew : ∀ σ' : L2.St, wipe σ' [j2] = σ'.set j2 none := fun _ => rfl
        have ext2 : (xs.take (jj + 1)).map g = (xs.take jj).map g ++ [g xs[jj]] := by rw [List.take_add_one, hx, List.map_append]; rfl
        have lim2 : ((ws.take i).flatMap f ++ (xs.take jj).map g).length < sizeLine := by
          have : ((xs.take jj).map g).length ≤ (xs.map g).length := by simp; omega
          simp only [List.length_append] at lim this ⊢
          exact Nat.lt_of_le_of_lt (by omega : _ ≤ 16000000) (by decide)
        show wipe ((wipe (((σ.set j2 none).set j none).set j (some x)) [j2]).set j2 (some x2)) [j2] = wipe (((σ.set j2 none).set j none).set j (some x)) [j2] ∧ _
        simp only [ew, List.set_set]
        have sr7 := (sr6.mono st7).set rx2 j2
        refine ⟨trivial, _, _, fun b h' => b = true ∧ h' = updW h1 D (.lst ((ws.take i).flatMap f ++ (xs.take jj).map g)), ⟨sr7, hr7, L.mono (L.mono (L.mono S.el s1) st6) st7⟩, ⟨rfl, rfl⟩, fun b h8 H8 ⟨eb, eh⟩ s8 r8 => ?_⟩
        subst eb eh
        rw [if_pos rfl]
        refine ⟨_, _, _, ⟨sr7.mono s8, r8, L.mono (L.mono (L.mono (L.mono S.el s1) st6) st7) s8⟩, el xs[jj] (List.getElem_mem hl2) _, fun y h9 v H9 ⟨eh, ey⟩ s9 r9 q9 => ?_⟩
        subst eh ey
        obtain ⟨vs, hv, q⟩ := r9 D _ updW_same
        have upw : ∀ a b : List W, updW (updW h1 D (.lst a)) D (.lst b) = updW h1 D (.lst b) := fun a b => updW_upd
        have s10 : ST H9 (updW h1 D (.lst ((ws.take i).flatMap f ++ (xs.take jj).map g))) (upd H9 D (.lst (vs ++ [v]))) (updW h1 D (.lst ((ws.take i).flatMap f ++ (xs.take (jj + 1)).map g))) := by
          have z : ST H9 (updW h1 D (.lst ((ws.take i).flatMap f ++ (xs.take jj).map g))) (upd H9 D (.lst (vs ++ [v]))) (updW (updW h1 D (.lst ((ws.take i).flatMap f ++ (xs.take jj).map g))) D (.lst ((ws.take i).flatMap f ++ (xs.take (jj + 1)).map g))) := .mut updW_same _ _
          rwa [upw] at z
        have r10 : HR K (upd H9 D (.lst (vs ++ [v]))) (updW h1 D (.lst ((ws.take i).flatMap f ++ (xs.take (jj + 1)).map g))) := by
          have := r9.mut (a := D) (u0 := .lst ((ws.take i).flatMap f ++ (xs.take jj).map g)) updW_same (o := .lst (vs ++ [v])) (u := .lst ((ws.take i).flatMap f ++ (xs.take (jj + 1)).map g)) ⟨_, upd_same, by
            have z := (q.mono s10).append (.cons (q9.mono s10) .nil)
            rw [List.append_assoc, ← ext2] at z
            rw [upw]; exact z⟩
          rwa [upw] at this
        refine ⟨vs, hv, by rw [q.length]; exact lim2, r10, (((st6.trans st7).trans s8).trans s9).trans s10, (((sti6.trans st7).trans s8).trans s9).trans s10, by have z := (((sr6.mono st7).mono s8).mono s9).mono s10; simp only [slC2, List.set_set] at z; exact z⟩
      · have e : jj = xs.length := by omega
        subst e
        refine .inl ⟨I1.stop _ H6 _ sti6 hr6 (Nat.le_refl _), ?_, ?_⟩
        · rw [ext]; rw [List.take_length] at hr6; exact hr6
        · rw [ext]; rw [List.take_length] at st6; exact st6
    · have e : i = ws.length := by omega
      subst e
      rw [List.take_length] at hr2 st2
      obtain ⟨vs, hv, q⟩ := hr2 D _ updW_same
      have sub : Sub h1 (updW h1 D (.lst (ws.flatMap f))) := .new nD
      exact .inl ⟨I.stop _ H2 _ st2 hr2 (Nat.le_refl _), k _ h1 _ H2 fin ((s1.trans st2).trans (.drop sub)) (hr2.drop sub) (.lst ⟨hv, nD⟩ (q.mono (.drop sub)))⟩⟩
theorem w_lc2 {elt tg iter tg1 iter1 : Expr} {scope : Scope} {x x2 : Str} {j j2 : Nat} {pos : Pos} {ti ti2 : TIW} {te : TEW} (hc : X.calm = true) (hN : X.N.Nodup) (hi : WI X L tg iter ti) (ok : BlkOk X.N X.env.scope scope [(x, j), (x2, j2)])
    (hg : ∀ (s : Shared) (H : Hp) (C : Addr) (cl : List (Str × Addr)) (fp : List Addr), PG (X.blk s H scope (compEnvC scope cl C X.env) fp) tg (gName j)) (hi1 : ∀ (s : Shared) (H : Hp) (C : Addr) (cl : List (Str × Addr)) (fp : List Addr), WI (X.blk s H scope (compEnvC scope cl C X.env) fp) L tg1 iter1 ti2)
    (hg1 : ∀ (s : Shared) (H : Hp) (C : Addr) (cl : List (Str × Addr)) (fp : List Addr), PG (X.blk s H scope (compEnvC scope cl C X.env) fp) tg1 (gName j2))
    (he : ∀ (s : Shared) (H : Hp) (C : Addr) (cl : List (Str × Addr)) (fp : List Addr), WE (X.blk s H scope (compEnvC scope cl C X.env) fp) L elt te) (hs : ∀ x, foldedSetIterable iter X.env x = pure x := by intro _; rfl) (hs1 : ∀ env x, foldedSetIterable iter1 env x = pure x := by intro _ _; rfl) :
    WE X L (.ListComp elt [⟨tg, iter, [], 0⟩, ⟨tg1, iter1, [], 0⟩] scope pos) (oLc2 ti j ti2 j2 te) :=
  (pe_lc2 hc hN hi ok (vs1 := [j2]) (by simp) hg (fun _ _ _ _ _ => wts_nil) hi1 hg1 (fun _ _ _ _ _ => wts_nil) he hs hs1).imp lc2_imp
theorem ws_setLc2 {i : Nat} {y : Str} {py : Pos} {elt tg iter tg1 iter1 : Expr} {scope : Scope} {x x2 : Str} {j j2 : Nat} {pos spos : Pos} {ti ti2 : TIW} {te : TEW} (hc : X.calm = true) (hN : X.N.Nodup) (hy : X.N[i]? = some y) (hyl : X.env.scope.names.lookup y = some .local)
    (hsw : swapsWith (.ListComp elt [⟨tg, iter, [], 0⟩, ⟨tg1, iter1, [], 0⟩] scope pos) (some (.Name y py)) spos.line X.env = pure true) (hi : WI X L tg iter ti) (ok : BlkOk X.N X.env.scope scope [(x, j), (x2, j2)])
    (hg : ∀ (s : Shared) (H : Hp) (C : Addr) (cl : List (Str × Addr)) (fp : List Addr), PG (X.blk s H scope (compEnvC scope cl C X.env) fp) tg (gName j)) (hi1 : ∀ (s : Shared) (H : Hp) (C : Addr) (cl : List (Str × Addr)) (fp : List Addr), WI (X.blk s H scope (compEnvC scope cl C X.env) fp) L tg1 iter1 ti2)
    (hg1 : ∀ (s : Shared) (H : Hp) (C : Addr) (cl : List (Str × Addr)) (fp : List Addr), PG (X.blk s H scope (compEnvC scope cl C X.env) fp) tg1 (gName j2))
    (he : ∀ (s : Shared) (H : Hp) (C : Addr) (cl : List (Str × Addr)) (fp : List Addr), WE (X.blk s H scope (compEnvC scope cl C X.env) fp) L elt te) (hs : ∀ x, foldedSetIterable iter X.env x = pure x := by intro _; rfl) (hs1 : ∀ env x, foldedSetIterable iter1 env x = pure x := by intro _ _; rfl) :
    WS X L (.Assign [.Name y py] (.ListComp elt [⟨tg, iter, [], 0⟩, ⟨tg1, iter1, [], 0⟩] scope pos) spos) (sAsg (oLc2 ti j ti2 j2 te) (gN i)) :=
  (ps_setLc2 hc hN hy hyl hsw hi ok (vs1 := [j2]) (by simp) hg (fun _ _ _ _ _ => wts_nil) hi1 hg1 (fun _ _ _ _ _ => wts_nil) he hs hs1).imp fun D σ H ⟨ρ, h, DW, S, t, k⟩ =>
  lc2_imp σ H _ ⟨ρ, h, _, S, t, fun w1 h1 v1 H1 t1 s1 r1 q1 => k.nx _ h1 _ H1 t1 s1 r1 ((S.sr.mono s1).set q1 i)⟩
end
/-! ## stepping -/
section
variable {ρ : SlW} {h : HW} {R : KW} {RB : Bool → HW → Prop} {te ta tb tc : TEW} {x y w : W} {p : Addr} {kws : List (L2.Key × W)}
theorem go_d0 (k : R (.dic []) h) : oD0 ρ h R := k
theorem go_d0O (k : ∀ p, h p = none → R (.ref p) (updW h p (.dic []))) : oD0O ρ h R := k
theorem go_truth (k : te ρ h fun x h1 => truK (truW x h1) RB h1) : oTruth te ρ h RB := k
theorem go_truL {ws : List W} (k : RB (!ws.isEmpty) h) : truK (truW (.lst ws) h) RB h := k
theorem go_truT {ws : List W} (k : RB (!ws.isEmpty) h) : truK (truW (.tup ws) h) RB h := k
theorem go_truI {i : Int} (k : RB (i != 0) h) : truK (truW (.int i) h) RB h := k
theorem go_truO {ws : List W} (hp : h p = some (.lst ws)) (k : RB (!ws.isEmpty) h) : truK (truW (.ref p) h) RB h := by unfold truW; dsimp only; rw [hp]; exact k
theorem go_din {o : Option W} (e : dgW x y h = some o) (k : R (.bl o.isSome) h) : dinW y x h R := by unfold dinW; rw [e]; exact k
theorem go_dnotin {o : Option W} (e : dgW x y h = some o) (k : R (.bl (!o.isSome)) h) : dnotinW y x h R := by unfold dnotinW; rw [e]; exact k
theorem go_dget (e : dgW x y h = some (some w)) (k : R w h) : dgetW x y h R := by unfold dgetW; rw [e]; exact k
theorem go_dict (e : dW x h = some kws) (k : R (.dic kws) h) : dictW [x] h R := by unfold dictW; dsimp only; rw [e]; exact k
theorem go_dictO (e : dW x h = some kws) (k : ∀ p, h p = none → R (.ref p) (updW h p (.dic kws))) : dictOW [x] h R := by unfold dictOW; dsimp only; rw [e]; exact k
theorem go_listD (e : dW x h = some kws) (k : R (.lst (kws.map fun kv => wKey kv.1)) h) : listDW [x] h R := by unfold listDW; dsimp only; rw [e]; exact k
theorem go_lenD (e : dW x h = some kws) (k : R (.int kws.length) h) : lenDW [x] h R := by unfold lenDW; dsimp only; rw [e]; exact k
theorem go_dput {D : EndsW} (k : tc ρ h fun v h1 => ta ρ h1 fun x h2 => tb ρ h2 fun y h3 => dputK x (keyW y) v (D.nx ρ) h3) : sDput tc ta tb D ρ h := k
theorem go_dputK {P : HW → Prop} {s : List Nat} (hp : h p = some (.dic kws)) (e : kws.length ≤ 16000000) (k : P (updW h p (.dic (putW kws (.inr (mkS s)) w)))) : dputK (.ref p) (keyW (.str s)) w P h := by unfold dputK keyW; dsimp only; rw [hp]; exact ⟨e, k⟩
theorem go_kget {tbl : List (List Nat × W)} {s : List Nat} (e : tabW tbl s = some w) (k : R w h) : kgetW p tbl (.ref p) (.str s) h R := ⟨rfl, by dsimp only; rw [e]; exact k⟩
theorem go_kget2 {tbl : List (List Nat × W)} {no : List (List Nat)} (k : ta ρ h fun x h1 => x = .ref p ∧ tb ρ h1 fun y h2 => tc ρ h2 fun z h3 => kget2K tbl no y z R h3) : oKGet2 p tbl no ta tb tc ρ h R := k
theorem go_kget2Y {tbl : List (List Nat × W)} {no : List (List Nat)} {s : List Nat} (e : tabW tbl s = some w) (k : R w h) : kget2K tbl no (.str s) x R h := by unfold kget2K; dsimp only; rw [e]; exact k
theorem go_kget2N {tbl : List (List Nat × W)} {no : List (List Nat)} {s : List Nat} (e : tabW tbl s = none) (m : s ∈ no) (k : R x h) : kget2K tbl no (.str s) x R h := by unfold kget2K; dsimp only; rw [e]; exact ⟨m, k⟩
theorem go_lc2 {ti ti2 : TIW} {j j2 : Nat} (ws : List W) (ev : ∀ P : List W → HW → Prop, P ws h → ti ρ h P) (f : W → List W) (hz : (ws.flatMap f).length ≤ 16000000)
    (el : ∀ p, h p = none → ∀ w ∈ ws, ∀ acc, ti2 (slC2 ρ j j2 w) (updW h p (.lst acc)) fun xs h3 => h3 = updW h p (.lst acc) ∧ ∃ g : W → W, f w = xs.map g ∧ ∀ x ∈ xs, ∀ acc2, te ((slC2 ρ j j2 w).set j2 (some x)) (updW h p (.lst acc2)) fun y h4 => h4 = updW h p (.lst acc2) ∧ y = g x)
    (k : R (.lst (ws.flatMap f)) h) : oLc2 ti j ti2 j2 te ρ h R := ev _ fun p hp => ⟨f, hz, k, el p hp⟩
theorem go_lcI {ti : TIW} {j : Nat} {tb : TEW} (ws fs : List W) (ev : ∀ P : List W → HW → Prop, P ws h → ti ρ h P) (hl : fs.length = ws.length) (hz : ws.length ≤ 16000000)
    (el : ∀ (i : Nat) (w y : W) (h' : HW) (R' : KW), ws[i]? = some w → fs[i]? = some y → R' y h' → tb (ρ.set j (some w)) h' R') (k : R (.lst fs) h) : oLc ti j oYes tb ρ h R := by
  refine ev _ ⟨hz, fun p hp => ⟨fun i acc h' => acc = fs.take i ∧ h' = h, ⟨rfl, rfl⟩, ?_, ?_⟩⟩
  · rintro i w acc h' e n hla ⟨rfl, rfl⟩
    refine go_yes ?_
    rw [if_pos rfl]
    have hi : i < fs.length := by rw [hl]; exact (List.getElem?_eq_some_iff.mp e).1
    refine el i w fs[i] _ _ e (List.getElem?_eq_getElem hi) ⟨_, .refl _, hp, ?_, rfl⟩
    rw [List.take_add_one, List.getElem?_eq_getElem hi]; rfl
  · rintro acc h' n ⟨rfl, rfl⟩
    rw [← hl, List.take_length]; exact k
theorem go_nntt {A B : Prop} (h1 : A) : if (!!true) = true then A else B := iteT h1
theorem go_nnff {A B : Prop} (h1 : B) : if (!!false) = true then A else B := iteF h1
theorem go_eqq {q : Prop} (k : q) : x = x ∧ q := ⟨rfl, k⟩
end
theorem FrWs.snoc {h h0 : HW} {w w' : W} (q : FrW h h0 w w') : ∀ ws : List W, FrWs h h0 (ws ++ [w]) (ws ++ [w'])
  | [] => .cons q .nil
  | x :: ws => .cons (.same x) (FrWs.snoc q ws)
theorem FrWs.app {h h0 : HW} {as bs ws ws' : List W} (q : FrWs h h0 as bs) (r : FrWs h h0 ws ws') : FrWs h h0 (as ++ ws) (bs ++ ws') := by
  induction as generalizing bs with
  | nil => cases q; exact r
  | cons a as ih => cases q with | cons x t => exact .cons x (ih t)
end Wl

set_option Elab.async false
set_option linter.all false
set_option maxRecDepth 100000
namespace Wl
open PySem PySem.Spec PyProof.Rows L2
theorem updW_mid {h : HW} {p1 p2 : Addr} (np : p1 ≠ p2) (a b c : OW) : updW (updW (updW h p1 a) p2 b) p1 c = updW (updW h p1 c) p2 b := by
  funext x
  unfold updW
  by_cases e1 : x = p1
  · subst e1; rw [if_pos rfl, if_neg np, if_pos rfl]
  · rw [if_neg e1]
    by_cases e2 : x = p2
    · rw [if_pos e2, if_pos e2]
    · rw [if_neg e2, if_neg e2, if_neg e1, if_neg e1]
section
variable {X : Cx} {L : Lk} {K : PySem.W.Frag}
/-! ## a local name that holds a def -/
def oCallF (i : Nat) (f : Addr) (sp : SpW) (t : TAW) : TEW := fun ρ h R => sl ρ i = some (.ref f) ∧ t ρ h fun ws h1 => sp ws h1 R noX
theorem w_callF {i k : Nat} {f : Addr} {fd : FuncData} {ps : List Str} {sp : SpW} {x : Str} {p pos : Pos} {e : Expr} {es : List Expr} {t : TAW} (F : FnOk X.prog X.w X.K X.mg X.base CX0 k f fd ps (lSp X.K sp)) (hr : Room k X.A)
    (hk : PySem.W.keepIn X.K (.ref f) = true) (hb : Binds X.K fd ps []) (ha : WA X L (e :: es) t) (hN : X.N[i]? = some x := by rfl) (hv : Vis X.env.scope x := by first | exact Or.inl rfl | exact Or.inr (Or.inl rfl) | exact Or.inr (Or.inr rfl))
    (hdb : (x == ("__debug__" : Str)) = false := by decide) (hcd : (x == ("__classdict__" : Str)) = false := by decide)
    (he : starEach (e :: es) X.env = (false, eval e X.env) :: starEach es X.env := by rfl) (hpl : (backTo pos (starEach es X.env)).any (·.1) = false := by rfl) :
    WE X L (.Call (.Name x p) (e :: es) [] pos) (oCallF i f sp t) := (pe_callL (i := i) F hr hN hv hk hb .nil pass0 ha hdb hcd he hpl).imp fun σ H Q ⟨ρ, h, R, S, ⟨ef, t⟩, k⟩ => by
  obtain ⟨v, e1, r⟩ := S.sr.get ef
  cases r
  exact ⟨e1, ρ, h, _, S, t, fun ws h1 vs H1 t1 s1 r1 q1 => by
    show lSp X.K sp (vs ++ []) H1 Q E0
    rw [List.append_nil]
    exact ⟨ws, h1, R, noX, q1, r1, t1, k.mono s1, el_no⟩⟩
/-! ## a star in a display -/
def itemsW (x : W) (h : HW) : Option (List W) := match x with
  | .lst ws => some ws
  | .scr ws => some ws
  | .tup ws => some ws
  | .ref p => (match h p with | some (.lst ws) => some ws | _ => none)
  | _ => none
theorem items_at {H : Hp} {h : HW} {v : V} {x : W} {ws : List W} (hr : HR K H h) (r : RW K H h v x) (e : itemsW x h = some ws) : ∃ a xs, v = .ref a ∧ (SqT K H a xs ∨ SqL K H a xs) ∧ RWs K H h xs ws := by
  unfold itemsW at e
  split at e
  · cases e; cases r with | lst f q => exact ⟨_, _, rfl, .inr f.sq, q⟩
  · cases e; cases r with | scr f q => exact ⟨_, _, rfl, .inr f.sq, q⟩
  · cases e; cases r with | tup f q => exact ⟨_, _, rfl, .inl f.sq, q⟩
  · split at e
    · rename_i hp
      cases e; cases r
      obtain ⟨vs, a, q⟩ := hr _ _ hp
      exact ⟨_, _, rfl, .inr (SqL.of a), q⟩
    · cases e
  · cases e
def starK (o : Option (List W)) (R : List W → Prop) : Prop := match o with | some ws => R ws | none => False
def oStar (te : TEW) (tr : TAW) : TAW := fun ρ h R => te ρ h fun x h1 => starK (itemsW x h1) fun ws => tr ρ h1 fun xs h2 => R (ws ++ xs) h2
theorem wa_star {e : Expr} {es : List Expr} {p : Pos} {te : TEW} {tr : TAW} (he : WE X L e te) (hr : WA X L es tr) (hs : starEach (.Starred e p :: es) X.env = (true, eval e X.env) :: starEach es X.env := by rfl) : WA X L (.Starred e p :: es) (oStar te tr) := (StX.pa_star he hr hs).imp fun σ H Q ⟨ρ, h, R, S, t, k⟩ =>
  ⟨ρ, h, _, S, t, fun w1 h1 v1 H1 t1 s1 r1 q1 => by
    unfold starK at t1
    split at t1
    · rename_i ws e
      obtain ⟨a, xs, rfl, sq, q⟩ := items_at r1 q1 e
      exact ⟨a, xs, rfl, sq, ρ, h1, _, S.to s1 r1, t1, fun us h2 vs H2 t2 s2 r2 q2 => k _ h2 _ H2 t2 (s1.trans s2) r2 ((q.mono s2).append q2)⟩
    · exact t1.elim⟩
theorem go_star {te : TEW} {tr : TAW} {ρ : SlW} {h : HW} {R : List W → HW → Prop} (k : te ρ h fun x h1 => starK (itemsW x h1) fun ws => tr ρ h1 fun xs h2 => R (ws ++ xs) h2) : oStar te tr ρ h R := k
theorem go_starL {ws : List W} {h : HW} {R : List W → Prop} (k : R ws) : starK (itemsW (.lst ws) h) R := k
theorem go_starT {ws : List W} {h : HW} {R : List W → Prop} (k : R ws) : starK (itemsW (.tup ws) h) R := k
theorem go_starO {ws : List W} {h : HW} {p : Addr} {R : List W → Prop} (hp : h p = some (.lst ws)) (k : R ws) : starK (itemsW (.ref p) h) R := by unfold itemsW; dsimp only; rw [hp]; exact k
/-! ## sep.join of any list of texts -/
def joinW2 : W → List W → HW → KW → Prop := fun x ws h R => match x, ws with
  | .str a, [y] => (match itemsW y h with | some xs => (match strsOf xs with | some ss => (ss.map List.length).sum + ss.length * a.length ≤ 16000000 ∧ R (.str (joinS a ss)) h | none => False) | none => False)
  | _, _ => False
theorem lf_join2 : LfM K (fun x xs H Q => ∃ a p, ∃ ys : List Str, x = .str a ∧ xs = [.ref p] ∧ (SqL K H p (ys.map V.str) ∨ SqT K H p (ys.map V.str)) ∧
    (ys.map (·.length)).sum + ys.length * a.length ≤ 16777216 ∧ Q (.str (Txt.join a ys)) H) joinW2 := fun x xs H Q w ws h R r rs hr t k => by
  unfold joinW2 at t
  split at t
  · split at t
    · rename_i e1
      split at t
      · rename_i ss e
        cases r
        obtain ⟨y, rfl, ry⟩ := rs.one
        obtain ⟨a, vs, rfl, sq, q⟩ := items_at hr ry e1
        rw [strsOf_eq e] at q
        refine ⟨_, _, ss.map mkS, rfl, rfl, ?_, ?_, ?_⟩
        · rw [← q.strs]; exact sq.symm
        · rw [lens_mk, List.length_map, mkS_length]; exact Nat.le_trans t.1 (by decide)
        · rw [TL.join_eq, join_mk]; exact k.go hr t.2 (.str _)
      · exact t.elim
    · exact t.elim
  · exact t.elim

end
section
variable {R : KW} {h : HW} {a : List Nat} {xs : List W}
theorem go_join2 {y : W} {ss : List (List Nat)} (e0 : itemsW y h = some xs) (e : strsOf xs = some ss) (l : (ss.map List.length).sum + ss.length * a.length ≤ 16000000) (k : R (.str (joinS a ss)) h) : joinW2 (.str a) [y] h R := by unfold joinW2; dsimp only; rw [e0]; dsimp only; rw [e]; exact ⟨l, k⟩
theorem items_ref {p : Addr} (hp : h p = some (.lst xs)) : itemsW (.ref p) h = some xs := by unfold itemsW; dsimp only; rw [hp]
theorem joinS_nil : ∀ ss : List (List Nat), joinS [] ss = ss.flatten
  | [] => rfl
  | [p] => by simp [joinS]
  | p :: q :: r => by rw [joinS, joinS_nil (q :: r)]; simp
end
end Wl

set_option Elab.async false
set_option linter.all false
set_option maxRecDepth 100000
namespace Wl
open PySem PySem.Spec PyProof.Rows L2
/-! ## targets of comprehensions -/
theorem wipe_get (σ : L2.St) (js : List Nat) (i : Nat) : (wipe σ js)[i]? = if i ∈ js then σ[i]?.map (fun _ => none) else σ[i]? := by
  induction js with
  | nil => simp [wipe]
  | cons j js ih =>
    unfold wipe
    by_cases e : j = i
    · subst e
      rw [if_pos List.mem_cons_self]
      by_cases l : j < σ.length
      · rw [List.getElem?_set_self (by rw [wipe_length]; exact l), List.getElem?_eq_getElem l]; rfl
      · rw [List.getElem?_eq_none (by rw [List.length_set, wipe_length]; omega), List.getElem?_eq_none (by omega)]; rfl
    · rw [List.getElem?_set_ne e, ih]
      have : (i ∈ j :: js) ↔ i ∈ js := ⟨fun z => (List.mem_cons.mp z).resolve_left fun z => e z.symm, List.mem_cons_of_mem _⟩
      simp only [this]
theorem wipe_idem (σ : L2.St) (js : List Nat) : wipe (wipe σ js) js = wipe σ js := by
  apply List.ext_getElem?
  intro i
  rw [wipe_get, wipe_get]
  by_cases h : i ∈ js
  · rw [if_pos h, if_pos h]; cases σ[i]? <;> rfl
  · rw [if_neg h, if_neg h]
theorem wipe_set {σ : L2.St} {js : List Nat} {j : Nat} {v : Option V} (h : j ∈ js) : wipe (σ.set j v) js = wipe σ js := by
  apply List.ext_getElem?
  intro i
  rw [wipe_get, wipe_get]
  by_cases e : j = i
  · subst e
    rw [if_pos h, if_pos h]
    by_cases l : j < σ.length
    · rw [List.getElem?_set_self l, List.getElem?_eq_getElem l]; rfl
    · rw [List.getElem?_eq_none (by rw [List.length_set]; omega), List.getElem?_eq_none (by omega)]
  · rw [List.getElem?_set_ne e]
def wipeW (ρ : SlW) : List Nat → SlW
  | [] => ρ
  | v :: vs => (wipeW ρ vs).set v none
theorem SR.wipe {K : PySem.W.Frag} {H : Hp} {h : HW} {σ : L2.St} {ρ : SlW} (s : SR K H h σ ρ) : ∀ js : List Nat, SR K H h (L2.wipe σ js) (wipeW ρ js)
  | [] => s
  | j :: js => (SR.wipe s js).setN j
abbrev TGF := W → SlW → Option SlW
abbrev TGsF := List W → SlW → Option SlW
def gfN (j : Nat) : TGF := fun w ρ => some (ρ.set j (some w))
def gfNil : TGsF := fun ws ρ => match ws with | [] => some ρ | _ => none
def gfCons (g : TGF) (gs : TGsF) : TGsF := fun ws ρ => match ws with | w :: r => (match g w ρ with | some ρ' => gs r ρ' | none => none) | [] => none
def gfT (n : Nat) (gs : TGsF) : TGF := fun w ρ => match w with | .tup ws => if ws.length = n then gs ws ρ else none | _ => none
/-- what a target does to the slots, at both levels -/
def TgOk (K : PySem.W.Frag) (js : List Nat) (g : TG) (f : TGF) : Prop := ∀ (v : V) (w : W) (σ : L2.St) (H : Hp) (ρ ρ' : SlW) (h : HW) (Q : L2.St → Hp → Prop), RW K H h v w → SR K H h σ ρ → f w ρ = some ρ' → (∀ σ', L2.wipe σ' js = L2.wipe σ js → SR K H h σ' ρ' → Q σ' H) → g v σ H Q
def TgsOk (K : PySem.W.Frag) (js : List Nat) (g : TGs) (f : TGsF) : Prop := ∀ (v : List V) (w : List W) (σ : L2.St) (H : Hp) (ρ ρ' : SlW) (h : HW) (Q : L2.St → Hp → Prop), RWs K H h v w → SR K H h σ ρ → f w ρ = some ρ' → (∀ σ', L2.wipe σ' js = L2.wipe σ js → SR K H h σ' ρ' → Q σ' H) → g v σ H Q
section
variable {K : PySem.W.Frag} {js : List Nat}
theorem tgN {j : Nat} (m : j ∈ js) : TgOk K js (gName j) (gfN j) := fun v w σ H ρ ρ' h Q r s e k => by
  cases e
  exact k _ (wipe_set m) (s.set r j)
theorem tgNil : TgsOk K js gNil gfNil := fun v w σ H ρ ρ' h Q r s e k => by
  cases w with
  | nil => cases r; cases e; exact ⟨rfl, k _ rfl s⟩
  | cons => cases e
theorem tgCons {g : TG} {f : TGF} {gs : TGs} {fs : TGsF} (a : TgOk K js g f) (b : TgsOk K js gs fs) : TgsOk K js (gCons g gs) (gfCons f fs) := fun v w σ H ρ ρ' h Q r s e k => by
  cases w with
  | nil => cases e
  | cons w ws =>
    cases r with
    | cons r q =>
      unfold gfCons at e
      dsimp only at e
      split at e
      · rename_i ρ1 e1
        exact ⟨_, _, rfl, a _ _ σ H ρ ρ1 h _ r s e1 fun σ1 w1 s1 => b _ _ σ1 H ρ1 ρ' h _ q s1 e fun σ2 w2 s2 => k σ2 (w2.trans w1) s2⟩
      · cases e
theorem tgT {n : Nat} {gs : TGs} {fs : TGsF} (b : TgsOk K js gs fs) : TgOk K js (gTup K n gs) (gfT n fs) := fun v w σ H ρ ρ' h Q r s e k => by
  unfold gfT at e
  split at e
  · split at e
    · rename_i l
      cases r with
      | tup f q => exact ⟨_, _, rfl, f.sq, by rw [q.length]; exact l, b _ _ σ H ρ ρ' h Q q s e k⟩
    · cases e
  · cases e
end
section
variable {X : Cx} {L : Lk}
def oLcT (ti : TIW) (js : List Nat) (gf : TGF) (tt : TTW) (te : TEW) : TEW := fun ρ h R => ti ρ h fun ws h1 => ws.length ≤ 16000000 ∧ ∀ p, h1 p = none → ∃ Pv : Nat → List W → HW → Prop, Pv 0 [] h1 ∧
  (∀ i w acc h', ws[i]? = some w → h' p = none → acc.length ≤ i → Pv i acc h' → ∃ ρ', gf w (wipeW ρ js) = some ρ' ∧ tt ρ' (updW h' p (.lst acc)) fun b h3 => if b = true then te ρ' h3 fun y h4 => ∃ h5, Sub (updW h5 p (.lst acc)) h4 ∧ h5 p = none ∧ Pv (i + 1) (acc ++ [y]) h5
    else ∃ h5, Sub (updW h5 p (.lst acc)) h3 ∧ h5 p = none ∧ Pv (i + 1) acc h5) ∧ ∀ acc h', h' p = none → Pv ws.length acc h' → R (.lst acc) h'
theorem lcT_imp {K : PySem.W.Frag} {ti : TIW} {js : List Nat} {g : TG} {gf : TGF} (G : TgOk K js g gf) {tt : TTW} {te : TEW} : ∀ σ H Q, lE K L (oLcT ti js gf tt te) σ H Q → tLc (lI K L ti) g (lT K L tt) (lE K L te) js σ H Q := fun σ H Q ⟨ρ, h, R, S, t, k⟩ =>
  ⟨ρ, h, _, S, t, fun ws h1 J H1 ⟨hz, t1⟩ s1 r1 I D hD => by
    obtain ⟨Pv, p0, turn, fin⟩ := t1 D (r1.fresh hD)
    refine ⟨fun i m H2 => m = ws.length - i ∧ i ≤ ws.length ∧ ∃ acc h', Pv i acc h' ∧ h' D = none ∧ acc.length ≤ i ∧ HR K H2 (updW h' D (.lst acc)) ∧ ST H1 h1 H2 (updW h' D (.lst acc)), ⟨_, rfl, Nat.zero_le _, [], h1, p0, r1.fresh hD, Nat.le_refl _, ?_, .newO hD _ _⟩, ?_⟩
    · exact r1.newO hD ⟨[], upd_same, .nil⟩
    · rintro i m H2 ⟨rfl, hi, acc, h2, p, n2, ha, hr2, st2⟩
      by_cases hlt : i < ws.length
      · have hw : ws[i]? = some ws[i] := List.getElem?_eq_getElem hlt
        obtain ⟨go, yl⟩ := I.step i H2 _ ws[i] st2 hr2 hw
        refine .inr ⟨go, fun H3 => ∃ acc h', Pv (i + 1) acc h' ∧ h' D = none ∧ acc.length ≤ i + 1 ∧ HR K H3 (updW h' D (.lst acc)) ∧ ST H1 h1 H3 (updW h' D (.lst acc)), fun H3 p' => ⟨ws.length - (i + 1), by omega, rfl, hlt, p'⟩, fun x H3 y => ?_⟩
        obtain ⟨st3, hr3, rx⟩ := yl x H3 y
        obtain ⟨ρ', eg, turn⟩ := turn i _ acc h2 hw n2 ha p
        have sr0 := (((S.sr.mono s1).mono st2).mono st3).wipe js
        refine G _ _ _ _ _ ρ' _ _ rx sr0 eg fun σ2 w2 sr2 => ⟨w2.trans (wipe_idem σ js), ρ', _, _, ⟨sr2, hr3, L.mono (L.mono (L.mono S.el s1) st2) st3⟩, turn, ?_⟩
        intro b h4 H4 t4 s4 r4
        have tot : ST H1 h1 H4 h4 := (st2.trans st3).trans s4
        cases b with
        | false =>
          obtain ⟨h5, sub, n5, p5⟩ := t4
          exact ⟨acc, h5, p5, n5, Nat.le_succ_of_le ha, r4.drop sub, tot.trans (.drop sub)⟩
        | true =>
          refine ⟨_, h4, _, ⟨sr2.mono s4, r4, L.mono (L.mono (L.mono (L.mono S.el s1) st2) st3) s4⟩, t4, fun y h5 v H5 ⟨h6, sub, n6, p6⟩ s5 r5 q5 => ?_⟩
          have hp : h5 D = some (.lst acc) := sub D _ updW_same
          obtain ⟨vs, hv, q⟩ := r5 D _ hp
          refine ⟨vs, hv, by rw [q.length]; exact Nat.lt_of_le_of_lt (Nat.le_trans ha hi) (sz_lt hz), acc ++ [y], h6, p6, n6, by rw [List.length_append]; exact Nat.succ_le_succ ha, ?_, ?_⟩
          all_goals
            have s6 : ST H5 h5 (upd H5 D (.lst (vs ++ [v]))) (updW h5 D (.lst (acc ++ [y]))) := .mut hp _ _
            have r6 : HR K (upd H5 D (.lst (vs ++ [v]))) (updW h5 D (.lst (acc ++ [y]))) := r5.mut hp ⟨_, upd_same, ((q.mono s6).append (.cons (q5.mono s6) .nil))⟩
            have sub6 : Sub (updW h6 D (.lst (acc ++ [y]))) (updW h5 D (.lst (acc ++ [y]))) := fun b o e => by
              by_cases hb : b = D
              · subst hb; rw [updW_same] at e ⊢; exact e
              · rw [updW_ne hb] at e ⊢
                exact sub b o (by rw [updW_ne hb]; exact e)
          · exact r6.drop sub6
          · exact ((tot.trans s5).trans s6).trans (.drop sub6)
      · have e : i = ws.length := by omega
        subst e
        obtain ⟨vs, hv, q⟩ := hr2 D _ updW_same
        have sub : Sub h2 (updW h2 D (.lst acc)) := .new n2
        exact .inl ⟨I.stop _ H2 _ st2 hr2 (Nat.le_refl _), k _ h2 _ H2 (fin acc h2 n2 p) ((s1.trans st2).trans (.drop sub)) (hr2.drop sub) (.lst ⟨hv, n2⟩ (q.mono (.drop sub)))⟩⟩
theorem w_lcT {elt tg iter : Expr} {ifs : List Expr} {scope : Scope} {own : List (Str × Nat)} {pos : Pos} {ti : TIW} {g : TG} {gf : TGF} {tt : TTW} {te : TEW} (hc : X.calm = true) (hN : X.N.Nodup) (G : TgOk X.K (own.map (·.2)) g gf) (hi : WI X L tg iter ti) (ok : BlkOk X.N X.env.scope scope own)
    (hg : ∀ (s : Shared) (H : Hp) (C : Addr) (cl : List (Str × Addr)) (fp : List Addr), PG (X.blk s H scope (compEnvC scope cl C X.env) fp) tg g) (ht : ∀ (s : Shared) (H : Hp) (C : Addr) (cl : List (Str × Addr)) (fp : List Addr), WTs (X.blk s H scope (compEnvC scope cl C X.env) fp) L ifs tt)
    (he : ∀ (s : Shared) (H : Hp) (C : Addr) (cl : List (Str × Addr)) (fp : List Addr), WE (X.blk s H scope (compEnvC scope cl C X.env) fp) L elt te) (hs : ∀ x, foldedSetIterable iter X.env x = pure x := by intro _; rfl) :
    WE X L (.ListComp elt [⟨tg, iter, ifs, 0⟩] scope pos) (oLcT ti (own.map (·.2)) gf tt te) := (pe_lc hc hN hi ok hg ht he hs).imp (lcT_imp G)
theorem ws_setLcT {i : Nat} {y : Str} {py : Pos} {elt tg iter : Expr} {ifs : List Expr} {scope : Scope} {own : List (Str × Nat)} {pos spos : Pos} {ti : TIW} {g : TG} {gf : TGF} {tt : TTW} {te : TEW} (hc : X.calm = true) (hN : X.N.Nodup) (hy : X.N[i]? = some y) (hyl : X.env.scope.names.lookup y = some .local)
    (hsw : swapsWith (.ListComp elt [⟨tg, iter, ifs, 0⟩] scope pos) (some (.Name y py)) spos.line X.env = pure true) (G : TgOk X.K (own.map (·.2)) g gf) (hi : WI X L tg iter ti) (ok : BlkOk X.N X.env.scope scope own)
    (hg : ∀ (s : Shared) (H : Hp) (C : Addr) (cl : List (Str × Addr)) (fp : List Addr), PG (X.blk s H scope (compEnvC scope cl C X.env) fp) tg g) (ht : ∀ (s : Shared) (H : Hp) (C : Addr) (cl : List (Str × Addr)) (fp : List Addr), WTs (X.blk s H scope (compEnvC scope cl C X.env) fp) L ifs tt)
    (he : ∀ (s : Shared) (H : Hp) (C : Addr) (cl : List (Str × Addr)) (fp : List Addr), WE (X.blk s H scope (compEnvC scope cl C X.env) fp) L elt te) (hs : ∀ x, foldedSetIterable iter X.env x = pure x := by intro _; rfl) :
    WS X L (.Assign [.Name y py] (.ListComp elt [⟨tg, iter, ifs, 0⟩] scope pos) spos) (sAsg (oLcT ti (own.map (·.2)) gf tt te) (gN i)) := (ps_setLc hc hN hy hyl hsw hi ok hg ht he hs).imp fun D σ H ⟨ρ, h, DW, S, t, k⟩ =>
  lcT_imp G σ H _ ⟨ρ, h, _, S, t, fun w1 h1 v1 H1 t1 s1 r1 q1 => k.nx _ h1 _ H1 t1 s1 r1 ((S.sr.mono s1).set q1 i)⟩
theorem go_lcTI {ti : TIW} {js : List Nat} {gf : TGF} {tb : TEW} {ρ : SlW} {h : HW} {R : KW} (ws fs : List W) (ev : ∀ P : List W → HW → Prop, P ws h → ti ρ h P) (hl : fs.length = ws.length) (hz : ws.length ≤ 16000000)
    (el : ∀ (i : Nat) (w y : W) (h' : HW) (R' : KW), ws[i]? = some w → fs[i]? = some y → R' y h' → ∃ ρ', gf w (wipeW ρ js) = some ρ' ∧ tb ρ' h' R') (k : R (.lst fs) h) : oLcT ti js gf oYes tb ρ h R := by
  refine ev _ ⟨hz, fun p hp => ⟨fun i acc h' => acc = fs.take i ∧ h' = h, ⟨rfl, rfl⟩, ?_, ?_⟩⟩
  · rintro i w acc h' e n hla ⟨rfl, rfl⟩
    have hi : i < fs.length := by rw [hl]; exact (List.getElem?_eq_some_iff.mp e).1
    obtain ⟨ρ', eg, go⟩ := el i w fs[i] (updW h' p (.lst (fs.take i))) (fun y h4 => ∃ h5, Sub (updW h5 p (.lst (fs.take i))) h4 ∧ h5 p = none ∧ (fs.take i) ++ [y] = fs.take (i + 1) ∧ h5 = h') e (List.getElem?_eq_getElem hi) ⟨_, .refl _, hp, by rw [List.take_add_one, List.getElem?_eq_getElem hi]; rfl, rfl⟩
    refine ⟨ρ', eg, go_yes ?_⟩
    rw [if_pos rfl]
    exact go
  · rintro acc h' n ⟨rfl, rfl⟩
    rw [← hl, List.take_length]; exact k
end
theorem go_truB {b : Bool} {RB : Bool → HW → Prop} {h : HW} (k : RB b h) : truK (truW (.bl b) h) RB h := k
end Wl

set_option Elab.async false
set_option linter.all false
set_option maxRecDepth 100000
namespace Wl
open PySem PySem.Spec PyProof.Rows L2
/-! ## instances of own classes -/
def putFW (f : Str) (w : W) : List (Str × W) → List (Str × W)
  | [] => [(f, w)]
  | (k, x) :: r => if k = f then (k, w) :: r else (k, x) :: putFW f w r
section
variable {K : PySem.W.Frag} {H : Hp} {h : HW}
theorem RFs.lookup {f : Str} {w : W} : ∀ {gs : List (Str × V)} {fs : List (Str × W)}, RFs K H h gs fs → fs.lookup f = some w → ∃ v, gs.lookup f = some v ∧ RW K H h v w
  | _, _, .nil, e => by cases e
  | _, _, @RFs.cons _ _ _ k v w' vs ws r t, e => by
    simp only [List.lookup] at e ⊢
    by_cases c : (f == k) = true
    · rw [c] at e ⊢; cases e; exact ⟨v, rfl, r⟩
    · rw [Bool.eq_false_iff.mpr c] at e ⊢; exact RFs.lookup t e
theorem RFs.lookup_none {f : Str} : ∀ {gs : List (Str × V)} {fs : List (Str × W)}, RFs K H h gs fs → fs.lookup f = none → gs.lookup f = none
  | _, _, .nil, e => rfl
  | _, _, @RFs.cons _ _ _ k v w' vs ws r t, e => by
    simp only [List.lookup] at e ⊢
    by_cases c : (f == k) = true
    · rw [c] at e; cases e
    · rw [Bool.eq_false_iff.mpr c] at e ⊢; exact RFs.lookup_none t e
theorem RFs.length : ∀ {gs : List (Str × V)} {fs : List (Str × W)}, RFs K H h gs fs → gs.length = fs.length
  | _, _, .nil => rfl
  | _, _, .cons _ t => congrArg (· + 1) t.length
theorem RFs.put {f : Str} {v : V} {w : W} (q : RW K H h v w) : ∀ {gs : List (Str × V)} {fs : List (Str × W)}, RFs K H h gs fs → RFs K H h (putF f v gs) (putFW f w fs)
  | _, _, .nil => .cons q .nil
  | _, _, @RFs.cons _ _ _ k v' w' vs ws r t => by
    show RFs K H h (if k = f then (k, v) :: vs else (k, v') :: putF f v vs) (if k = f then (k, w) :: ws else (k, w') :: putFW f w ws)
    by_cases c : k = f
    · rw [if_pos c, if_pos c]; exact .cons q t
    · rw [if_neg c, if_neg c]; exact .cons r (RFs.put q t)
theorem ins_at {a C : Addr} {fs : List (Str × W)} (hr : HR K H h) (e : h a = some (.ins C fs)) : ∃ dx gs, H a = some (.ins C dx gs) ∧ RFs K H h gs fs := hr a _ e
end
section
variable {X : Cx} {L : Lk} {C : Addr} {f m x : Str} {e o : Expr} {es : List Expr} {te to tv : TEW} {t : TAW} {pos apos p : Pos}
def fldK (C : Addr) (f : Str) (x : W) (h : HW) (R : KW) : Prop := match x with
  | .ref a => ∃ fs w, h a = some (.ins C fs) ∧ fs.lookup f = some w ∧ R w h
  | _ => False
def oFld (C : Addr) (f : Str) (te : TEW) : TEW := fun ρ h R => te ρ h fun x h1 => fldK C f x h1 R
theorem w_fld (c : Cls X.K C) (n : NoAttr X.K C f) (he : WE X L e te) (hb : attributeBase e f X.env (eval e X.env) = eval e X.env := by rfl) : WE X L (.Attribute e f pos) (oFld C f te) := (pe_fld he hb).imp fun σ H Q ⟨ρ, h, R, S, t, k⟩ =>
  ⟨ρ, h, _, S, t, fun w1 h1 v1 H1 t1 s1 r1 q1 => by
    unfold fldK at t1
    split at t1
    · obtain ⟨fs, w, ea, l, t1⟩ := t1
      cases q1
      obtain ⟨dx, gs, eH, rf⟩ := ins_at r1 ea
      obtain ⟨v, lv, rv⟩ := rf.lookup l
      exact ⟨_, C, dx, gs, v, rfl, eH, c, n, lv, k _ h1 _ H1 t1 s1 r1 rv⟩
    · exact t1.elim⟩
/-- o.f = v -/
def putK (C : Addr) (f : Str) (x v : W) (P : HW → Prop) (h : HW) : Prop := match x with
  | .ref a => ∃ fs, h a = some (.ins C fs) ∧ fs.length < 1000 ∧ P (updW h a (.ins C (putFW f v fs)))
  | _ => False
def sFldW (C : Addr) (f : Str) (to tv : TEW) : TSW := fun D ρ h => tv ρ h fun v h1 => to ρ h1 fun x h2 => putK C f x v (D.nx ρ) h2
theorem ws_fld {value : Expr} {pos' : Pos} (c : Cls X.K C) (n : NoAttr X.K C f) (ho : WE X L o to) (hv : WE X L value tv) (hs : swapsWith value (some (.Attribute o f pos')) pos.line X.env = pure false := by rfl) :
    WS X L (.Assign [.Attribute o f pos'] value pos) (sFldW C f to tv) := (ps_fld ho hv hs).imp fun D σ H ⟨ρ, h, DW, S, t, k⟩ =>
  ⟨ρ, h, _, S, t, fun w1 h1 v1 H1 t1 s1 r1 q1 => ⟨ρ, h1, _, S.to s1 r1, t1, fun w2 h2 v2 H2 t2 s2 r2 q2 => by
    unfold putK at t2
    split at t2
    · obtain ⟨fs, ea, l, t2⟩ := t2
      cases q2
      obtain ⟨dx, gs, eH, rf⟩ := ins_at r2 ea
      have st := ST.mut (H := H2) ea (.ins C dx (putF f v1 gs)) (.ins C (putFW f w1 fs))
      refine ⟨_, C, dx, gs, rfl, eH, c, n, by rw [rf.length]; exact l, k.nx ρ _ _ _ t2 ((s1.trans s2).trans st) ?_ ((S.sr.mono (s1.trans s2)).mono st)⟩
      exact r2.mut ea ⟨dx, _, upd_same, (rf.mono st).put ((q1.mono s2).mono st)⟩
    · exact t2.elim⟩⟩
/-- o.f op= v -/
def sFldAugW (C : Addr) (f : Str) (to tv : TEW) (rw : RW2) : TSW := fun D ρ h => to ρ h fun x h1 => fldK C f x h1 fun y h2 => tv ρ h2 fun z h3 => rw y z h3 fun u h4 => putK C f x u (D.nx ρ) h4
theorem ws_fldaug {value : Expr} {tpos : Pos} {op : Operator} {r : R2} {rw : RW2} (c : Cls X.K C) (n : NoAttr X.K C f) (ho : WE X L o to) (hv : WE X L value tv) (hop : OpR X (inplaceOp op) r) (l : Lf2 X.K r rw) :
    WS X L (.AugAssign (.Attribute o f tpos) op value pos) (sFldAugW C f to tv rw) := (ps_fldaug (rd := r) ho hv (fun pins s σ H x y u v Q I rx ry q => hop pins s σ H x y u v Q I rx ry q)).imp fun D σ H ⟨ρ, h, DW, S, t, k⟩ =>
  ⟨ρ, h, _, S, t, fun w1 h1 v1 H1 t1 s1 r1 q1 => by
    unfold fldK at t1
    split at t1
    · obtain ⟨fs, w, ea, lk, t1⟩ := t1
      cases q1
      obtain ⟨dx, gs, eH, rf⟩ := ins_at r1 ea
      obtain ⟨v, lv, rv⟩ := rf.lookup lk
      refine ⟨_, C, dx, gs, v, rfl, eH, c, n, lv, ρ, h1, _, S.to s1 r1, t1, fun w2 h2 v2 H2 t2 s2 r2 q2 => l v v2 H2 _ w w2 h2 _ (rv.mono s2) q2 r2 t2 fun w3 h3 v3 H3 t3 s3 r3 q3 => ?_⟩
      obtain ⟨fs', ea', l', t3⟩ := t3
      obtain ⟨dx', gs', eH', rf'⟩ := ins_at r3 ea'
      have st := ST.mut (H := H3) ea' (.ins C dx' (putF f v3 gs')) (.ins C (putFW f w3 fs'))
      refine ⟨dx', gs', eH', by rw [rf'.length]; exact l', k.nx ρ _ _ _ t3 (((s1.trans s2).trans s3).trans st) ?_ ((S.sr.mono ((s1.trans s2).trans s3)).mono st)⟩
      exact r3.mut ea' ⟨dx', _, upd_same, (rf'.mono st).put (q3.mono st)⟩
    · exact t1.elim⟩
/-! ### methods -/
variable {CX : CXT} {k : Nat} {g : Addr} {fd : FuncData} {ps : List Str} {sp : SpW} {ex : XW → HW → Prop} {E : XK}
def methK (C : Addr) (m : Str) (x : W) (h : HW) (P : Prop) : Prop := match x with
  | .ref a => (∃ fs, h a = some (.ins C fs) ∧ fs.lookup m = none) ∧ P
  | _ => False
def oMeth (C : Addr) (m : Str) (sp : SpW) (ex : XW → HW → Prop) (to : TEW) (t : TAW) : TEW := fun ρ h R => to ρ h fun x h1 => methK C m x h1 (t ρ h1 fun ws h2 => sp (x :: ws) h2 R ex)
theorem w_methG {pl : Sem Bool} (c : Cls X.K C) (hm : Meth X.K C m g) (F : FnOk X.prog X.w X.K X.mg X.base CX k g fd ps (lSp X.K sp)) (hr : Room k X.A) (hb : Binds X.K fd ps []) (hx : Passes CX X E) (hE : ∀ H h, L.el H h → (Lk.of X.K E ex).el H h)
    (ho : WE X L o to) (ha : WA X L (e :: es) t) (hst : starEach (e :: es) X.env = (false, eval e X.env) :: starEach es X.env := by rfl) (hpl : (backTo pos (starEach es X.env)).any (·.1) = false := by rfl)
    (ht : eval (.Call (.Attribute o m apos) (e :: es) [] pos) X.env = (do
      let ov ← eval o X.env
      standAt apos.atName
      let (f, first) ← holding [ov] (getMethod ov m pl)
      callWith pos f first (backTo pos (starEach (e :: es) X.env)) (backToKw pos (keywordEach [] X.env))) := by rfl) :
    WE X L (.Call (.Attribute o m apos) (e :: es) [] pos) (oMeth C m sp ex to t) := (pe_meth ho c hm F hr hb .nil hx ha hst hpl ht).imp fun σ H Q ⟨ρ, h, R, S, t, k⟩ =>
  ⟨ρ, h, _, S, t, fun w1 h1 v1 H1 t1 s1 r1 q1 => by
    unfold methK at t1
    split at t1
    · obtain ⟨⟨fs, ea, l⟩, t1⟩ := t1
      cases q1
      obtain ⟨dx, gs, eH, rf⟩ := ins_at r1 ea
      refine ⟨_, dx, gs, rfl, eH, rf.lookup_none l, ρ, h1, _, S.to s1 r1, t1, fun ws h2 vs H2 t2 s2 r2 q2 => ?_⟩
      show lSp X.K sp (_ :: (vs ++ [])) H2 Q E
      rw [List.append_nil]
      exact ⟨_, h2, R, ex, .cons (.ref _) q2, r2, t2, k.mono (s1.trans s2), hE _ _ (L.mono S.el (s1.trans s2))⟩
    · exact t1.elim⟩
theorem w_meth0G {pl : Sem Bool} (c : Cls X.K C) (hm : Meth X.K C m g) (F : FnOk X.prog X.w X.K X.mg X.base CX k g fd ps (lSp X.K sp)) (hr : Room k X.A) (hb : Binds X.K fd ps []) (hx : Passes CX X E) (hE : ∀ H h, L.el H h → (Lk.of X.K E ex).el H h)
    (ho : WE X L o to)
    (ht : eval (.Call (.Attribute o m apos) [] [] pos) X.env = (do
      let ov ← eval o X.env
      standAt apos.atName
      let (f, first) ← holding [ov] (getMethod ov m pl)
      callWith pos f first (backTo pos (starEach [] X.env)) (backToKw pos (keywordEach [] X.env))) := by rfl) :
    WE X L (.Call (.Attribute o m apos) [] [] pos) (oMeth C m sp ex to oNil) := (pe_meth0 ho c hm F hr hb .nil hx ht).imp fun σ H Q ⟨ρ, h, R, S, t, k⟩ =>
  ⟨ρ, h, _, S, t, fun w1 h1 v1 H1 t1 s1 r1 q1 => by
    unfold methK at t1
    split at t1
    · obtain ⟨⟨fs, ea, l⟩, t1⟩ := t1
      cases q1
      obtain ⟨dx, gs, eH, rf⟩ := ins_at r1 ea
      refine ⟨_, dx, gs, rfl, eH, rf.lookup_none l, ?_⟩
      exact ⟨_, h1, R, ex, .cons (.ref _) .nil, r1, t1, k.mono s1, hE _ _ (L.mono S.el s1)⟩
    · exact t1.elim⟩
/-! ### a new instance -/
def makeK (C : Addr) (sp : SpW) (ex : XW → HW → Prop) (ws : List W) (h1 : HW) (R : KW) : Prop := ∀ x, h1 x = none → sp (.ref x :: ws) (updW h1 x (.ins C [])) (fun w h2 => w = .non ∧ R (.ref x) h2) ex
def oMake (C : Addr) (sp : SpW) (ex : XW → HW → Prop) (t : TAW) : TEW := fun ρ h R => t ρ h fun ws h1 => makeK C sp ex ws h1 R
theorem make_sp {K : PySem.W.Frag} {H1 : Hp} {h1 : HW} {vs : List V} {ws : List W} {R : KW} {Q : VK} (q1 : RWs K H1 h1 vs ws) (r1 : HR K H1 h1) (t1 : makeK C sp ex ws h1 R) (kv : KV K H1 h1 R Q) (el : (Lk.of K E ex).el H1 h1) (x dx : Addr) (ex' : H1 x = none) (ed : H1 dx = none) :
    lSp K sp (.ref x :: (vs ++ [])) (upd (upd H1 dx (.own x)) x (.ins C dx [])) (fun v H2 => v = .non ∧ Q (.ref x) H2) E := by
  have st : ST H1 h1 (upd (upd H1 dx (.own x)) x (.ins C dx [])) (updW h1 x (.ins C [])) := .newI (fs := []) ex' ed _
  have hr2 : HR K (upd (upd H1 dx (.own x)) x (.ins C dx [])) (updW h1 x (.ins C [])) := r1.newI ex' ed
  rw [List.append_nil]
  refine ⟨_, _, _, ex, .cons (.ref x) (q1.mono st), hr2, t1 x (r1.fresh ex'), ?_, (Lk.of K E ex).mono el st⟩
  rintro w h' v H' ⟨rfl, rr⟩ s' hr' rw'
  cases rw'
  exact ⟨rfl, kv _ h' _ H' rr (st.trans s') hr' (.ref x)⟩
theorem w_makeG (M : Mk X.K C g) (F : FnOk X.prog X.w X.K X.mg X.base CX k g fd ps (lSp X.K sp)) (hr : Room (k + 1) X.A) (hg : Gl X x) (hm : X.mg x = some (.ref C)) (hb : Binds X.K fd ps []) (hx : Passes CX X E) (hE : ∀ H h, L.el H h → (Lk.of X.K E ex).el H h)
    (ha : WA X L (e :: es) t) (hdb : (x == ("__debug__" : Str)) = false := by decide) (he : starEach (e :: es) X.env = (false, eval e X.env) :: starEach es X.env := by rfl) (hpl : (backTo pos (starEach es X.env)).any (·.1) = false := by rfl) :
    WE X L (.Call (.Name x p) (e :: es) [] pos) (oMake C sp ex t) := (pe_make M F hr hg hm hb .nil hx ha hdb he hpl).imp fun σ H Q ⟨ρ, h, R, S, t, k⟩ =>
  ⟨ρ, h, _, S, t, fun ws h1 vs H1 t1 s1 r1 q1 x dx ex' ed ne => make_sp q1 r1 t1 (k.mono s1) (hE _ _ (L.mono S.el s1)) x dx ex' ed⟩
theorem w_make0G (M : Mk X.K C g) (F : FnOk X.prog X.w X.K X.mg X.base CX k g fd ps (lSp X.K sp)) (hr : Room (k + 1) X.A) (hg : Gl X x) (hm : X.mg x = some (.ref C)) (hb : Binds X.K fd ps []) (hx : Passes CX X E) (hE : ∀ H h, L.el H h → (Lk.of X.K E ex).el H h)
    (hdb : (x == ("__debug__" : Str)) = false := by decide) : WE X L (.Call (.Name x p) [] [] pos) (oMake C sp ex oNil) := (pe_make0 M F hr hg hm hb .nil hx hdb).imp fun σ H Q ⟨ρ, h, R, S, t, k⟩ =>
  fun x dx ex' ed ne => make_sp (vs := []) (ws := []) .nil S.hr t k (hE _ _ S.el) x dx ex' ed
end
section
variable {C : Addr} {f m : Str} {te to tv : TEW} {t : TAW} {ρ : SlW} {h : HW} {R : KW} {D : EndsW} {sp : SpW} {ex : XW → HW → Prop} {a : Addr} {w v : W} {fs : List (Str × W)}
theorem go_fld (k : te ρ h fun x h1 => fldK C f x h1 R) : oFld C f te ρ h R := k
theorem go_fldK (e : h a = some (.ins C fs)) (l : fs.lookup f = some w) (k : R w h) : fldK C f (.ref a) h R := ⟨fs, w, e, l, k⟩
theorem go_sfld (k : tv ρ h fun v h1 => to ρ h1 fun x h2 => putK C f x v (D.nx ρ) h2) : sFldW C f to tv D ρ h := k
theorem go_putK {P : HW → Prop} (e : h a = some (.ins C fs)) (l : fs.length < 1000) (k : P (updW h a (.ins C (putFW f v fs)))) : putK C f (.ref a) v P h := ⟨fs, e, l, k⟩
theorem go_sfldaug {rw : RW2} (k : to ρ h fun x h1 => fldK C f x h1 fun y h2 => tv ρ h2 fun z h3 => rw y z h3 fun u h4 => putK C f x u (D.nx ρ) h4) : sFldAugW C f to tv rw D ρ h := k
theorem go_meth (k : to ρ h fun x h1 => methK C m x h1 (t ρ h1 fun ws h2 => sp (x :: ws) h2 R ex)) : oMeth C m sp ex to t ρ h R := k
theorem go_methK {P : Prop} (e : h a = some (.ins C fs)) (l : fs.lookup m = none) (k : P) : methK C m (.ref a) h P := ⟨⟨fs, e, l⟩, k⟩
theorem go_make (k : t ρ h fun ws h1 => makeK C sp ex ws h1 R) : oMake C sp ex t ρ h R := k
end
end Wl
namespace Wl
open PySem PySem.Spec PyProof.Rows L2
/-! ## {e!r} of a text: some text -/
def fmtRW : W → HW → KW → Prop := fun x h R => match x with
  | .str s => (∀ c ∈ s, c < 1114112) ∧ s.length ≤ 1000000 ∧ ∀ r : List Nat, r.length ≤ 12 * s.length + 20 → R (.str r) h
  | _ => False
theorem w_fmtR {X : Cx} {L : Lk} {e : Expr} {te : TEW} {pos : Pos} (he : WE X L e te) : WE X L (.FormattedValue e 114 none pos) (oUn fmtRW te) := (pe_fmtR he).imp fun σ H Q ⟨ρ, h, R, S, t, k⟩ =>
  ⟨ρ, h, _, S, t, fun w1 h1 v1 H1 t1 s1 r1 q1 => by
    unfold fmtRW at t1
    split at t1
    · rename_i s
      cases q1
      obtain ⟨a, b, t1⟩ := t1
      have l := StrLaws.reprText_len (mkS s) (by intro c hc; exact Nat.lt_of_lt_of_le (a c (by simpa [mkS] using hc)) (by decide))
      have l2 : (reprText (mkS s)).length ≤ 12 * s.length + 20 := by rw [mkS_length] at l; omega
      refine .inl ⟨_, rfl, sz_big (by omega), ?_⟩
      rw [mkS_list (reprText (mkS s))]
      exact k _ h1 _ H1 (t1 _ (by simpa [Str.length] using l2)) s1 r1 (.str _)
    · exact t1.elim⟩
theorem go_fmtR {R : KW} {h : HW} {s : List Nat} (a : ∀ c ∈ s, c < 1114112) (b : s.length ≤ 1000000) (k : ∀ r : List Nat, r.length ≤ 12 * s.length + 20 → R (.str r) h) : fmtRW (.str s) h R := ⟨a, b, k⟩
end Wl

set_option Elab.async false
set_option linter.all false
set_option maxRecDepth 100000
namespace Wl
open PySem PySem.Spec PyProof.Rows L2
theorem del_sub {h : HW} {p : Addr} : Sub (delW h p) h := fun b o e => by
  unfold delW at e
  split at e
  · cases e
  · exact e
/-! ## a list that is walked: nobody owns it any more -/
section
variable {X : Cx} {L : Lk} {tg e : Expr} {te : TEW} {pos p : Pos}
def walkK (x : W) (h1 : HW) (P : List W → HW → Prop) : Prop := match x with
  | .lst ws => P ws h1
  | .scr ws => P ws h1
  | .ref p => (match h1 p with | some (.lst ws) => P ws (delW h1 p) | _ => False)
  | _ => False
theorem walk_at_ {K : PySem.W.Frag} {H : Hp} {h : HW} {v : V} {x : W} {P : List W → HW → Prop} (hr : HR K H h) (r : RW K H h v x) (t : walkK x h P) : ∃ a vs ws h', v = .ref a ∧ P ws h' ∧ Sub h' h ∧ (∀ H2 h2, ST H h' H2 h2 → SqL K H2 a vs) ∧ SqL K H a vs ∧ RWs K H h' vs ws := by
  unfold walkK at t
  split at t
  · cases r with | lst f q => exact ⟨_, _, _, h, rfl, t, .refl _, fun _ _ st => (f.mono st).sq, f.sq, q⟩
  · cases r with | scr f q => exact ⟨_, _, _, h, rfl, t, .refl _, fun _ _ st => (f.mono st).sq, f.sq, q⟩
  · split at t
    · rename_i p _ ws hp
      cases r
      obtain ⟨vs, a, q⟩ := hr _ _ hp
      have f : FzL H (delW h p) p vs := ⟨a, delW_same⟩
      exact ⟨_, _, _, _, rfl, t, del_sub, fun _ _ st => (f.mono st).sq, SqL.of a, q.mono (.drop del_sub)⟩
    · exact t.elim
  · exact t.elim
def oItA (te : TEW) : TIW := fun ρ h P => te ρ h fun x h1 => walkK x h1 P
theorem wi_any (he : WE X L e te) : WI X L tg e (oItA te) := (pi_list he).imp fun σ H Q ⟨ρ, h, P, S, t, k⟩ =>
  ⟨ρ, h, _, S, t, fun w1 h1 v1 H1 t1 s1 r1 q1 => by
    obtain ⟨a, vs, ws, h', rfl, t2, sub, f, sq, q⟩ := walk_at_ r1 q1 t1
    exact ⟨_, rfl, ⟨_, sq⟩, k _ h' _ H1 t2 (s1.trans (.drop sub)) (r1.drop sub) (itSq f q)⟩⟩
/-- reversed(xs) -/
def oItRv (te : TEW) : TIW := fun ρ h P => te ρ h fun x h1 => walkK x h1 fun ws h2 => P ws.reverse h2
theorem itRv {K : PySem.W.Frag} {H : Hp} {h : HW} {a : Addr} {vs : List V} {ws : List W} (f : ∀ H' h', ST H h H' h' → SqL K H' a vs) (r : RWs K H h vs ws) : ItW K (Itv K a vs.length) H h ws.reverse where
  step := fun i H1 h1 w st hr e => by
    have hi : i < ws.length := by have := (List.getElem?_eq_some_iff.mp e).1; simpa using this
    rw [List.getElem?_reverse hi] at e
    obtain ⟨v, e1, e2⟩ := (r.mono st).get e
    rw [← r.length] at e1 hi
    refine ⟨⟨hi, vs, v, f _ _ st, e1⟩, fun x H' ⟨eH, y⟩ => ?_⟩
    subst eH
    have := y vs (f _ _ st)
    rw [e1] at this; cases this
    exact ⟨.refl _ _, hr, e2⟩
  stop := fun i H1 h1 st hr e => by rw [List.length_reverse, ← r.length] at e; exact e
theorem wi_rev (hg : Gl X "reversed") (hm : X.mg "reversed" = none) (he : WE X L e te) (hs : starEach [e] X.env = (false, eval e X.env) :: starEach [] X.env := by rfl) : WI X L tg (.Call (.Name "reversed" p) [e] [] pos) (oItRv te) := (RT.pi_revA hg hm he hs).imp fun σ H Q ⟨ρ, h, P, S, t, k⟩ =>
  ⟨ρ, h, _, S, t, fun w1 h1 v1 H1 t1 s1 r1 q1 => by
    obtain ⟨a, vs, ws, h', rfl, t2, sub, f, sq, q⟩ := walk_at_ r1 q1 t1
    exact ⟨_, vs, rfl, .inl ⟨sq, k _ h' _ H1 t2 (s1.trans (.drop sub)) (r1.drop sub) (itRv f q)⟩⟩⟩
end
/-! ## int(text) -/
def intStrW : List W → HW → KW → Prop := fun ws h R => match ws with
  | [.str s] => ∃ n, PySem.intText? (mkS s) = some n ∧ s.length ≤ 640 ∧ R (.int n) h
  | _ => False
theorem lf_intStr {K : PySem.W.Frag} : LfC K (fun xs H Q => ∃ a n, xs = [.str a] ∧ PySem.intText? a = some n ∧ a.length ≤ 640 ∧ Q (.int n) H) intStrW := fun xs H Q ws h R r hr t k => by
  unfold intStrW at t
  split at t
  · obtain ⟨n, e, l, t⟩ := t
    obtain ⟨x, rfl, q⟩ := r.one
    cases q
    exact ⟨_, n, rfl, e, by rw [mkS_length]; exact l, k.go hr t (.int _)⟩
  · exact t.elim
theorem go_intStr {s : List Nat} {n : Int} {h : HW} {R : KW} (e : PySem.intText? (mkS s) = some n) (l : s.length ≤ 640) (k : R (.int n) h) : intStrW [.str s] h R := ⟨n, e, l, k⟩
/-! ## stepping -/
section
variable {ρ : SlW} {h : HW} {te : TEW} {D : EndsW}
theorem go_forA {g : TGW} {tb : TSW} {p : Addr} (ws : List W) (ev : ∀ R : KW, R (.ref p) h → te ρ h R) (hp : h p = some (.lst ws))
  (Pv : Nat → SlW → HW → Prop) (p0 : CN (Pv 0) ρ (delW h p)) (turn : ∀ (i : Nat) w ρ' h', ws[i]? = some w → Pv i ρ' h' → g w ρ' h' fun ρ2 h2 => tb (D.lp (CN (Pv (i + 1))) D.nx) ρ2 h2)
  (fin : ∀ ρ' h', Pv ws.length ρ' h' → D.nx ρ' h') : sFor (oItA te) g tb D ρ h := ev _ (by unfold walkK; dsimp only; rw [hp]; exact ⟨Pv, p0, turn, fin⟩)
theorem go_forRv {g : TGW} {tb : TSW} {p : Addr} (ws : List W) (ev : ∀ R : KW, R (.ref p) h → te ρ h R) (hp : h p = some (.lst ws))
  (Pv : Nat → SlW → HW → Prop) (p0 : CN (Pv 0) ρ (delW h p)) (turn : ∀ (i : Nat) w ρ' h', ws.reverse[i]? = some w → Pv i ρ' h' → g w ρ' h' fun ρ2 h2 => tb (D.lp (CN (Pv (i + 1))) D.nx) ρ2 h2)
  (fin : ∀ ρ' h', Pv ws.length ρ' h' → D.nx ρ' h') : sFor (oItRv te) g tb D ρ h := ev _ (by unfold walkK; dsimp only; rw [hp]; exact ⟨Pv, p0, turn, fun ρ' h' q => fin ρ' h' (by rw [List.length_reverse] at q; exact q)⟩)
theorem go_forRvL {g : TGW} {tb : TSW} (ws : List W) (ev : ∀ R : KW, R (.lst ws) h → te ρ h R)
  (Pv : Nat → SlW → HW → Prop) (p0 : CN (Pv 0) ρ h) (turn : ∀ (i : Nat) w ρ' h', ws.reverse[i]? = some w → Pv i ρ' h' → g w ρ' h' fun ρ2 h2 => tb (D.lp (CN (Pv (i + 1))) D.nx) ρ2 h2)
  (fin : ∀ ρ' h', Pv ws.length ρ' h' → D.nx ρ' h') : sFor (oItRv te) g tb D ρ h := ev _ ⟨Pv, p0, turn, fun ρ' h' q => fin ρ' h' (by rw [List.length_reverse] at q; exact q)⟩
end
end Wl

set_option Elab.async false
set_option linter.all false
set_option maxRecDepth 100000
namespace Wl
open PySem PySem.Spec PyProof.Rows L2
/-! ## the greater and the lesser of two -/
section
variable {K : PySem.W.Frag} {h : HW} {R : KW} {i j : Int}
def max2W : List W → HW → KW → Prop := fun ws h R => match ws with | [.int i, .int j] => R (.int (max i j)) h | _ => False
def min2W : List W → HW → KW → Prop := fun ws h R => match ws with | [.int i, .int j] => R (.int (min i j)) h | _ => False
theorem lf_max2 : LfC K (fun xs H Q => ∃ i j, xs = [.int i, .int j] ∧ Q (.int (if j > i then j else i)) H) max2W := fun xs H Q ws h R r hr t k => by
  unfold max2W at t
  split at t
  · rename_i i j
    obtain ⟨x, y, rfl, q, q'⟩ := r.two
    cases q; cases q'
    refine ⟨_, _, rfl, ?_⟩
    rw [show (if j > i then j else i) = max i j by omega]; exact k.go hr t (.int _)
  · exact t.elim
theorem lf_min2 : LfC K (fun xs H Q => ∃ i j, xs = [.int i, .int j] ∧ Q (.int (if j < i then j else i)) H) min2W := fun xs H Q ws h R r hr t k => by
  unfold min2W at t
  split at t
  · rename_i i j
    obtain ⟨x, y, rfl, q, q'⟩ := r.two
    cases q; cases q'
    refine ⟨_, _, rfl, ?_⟩
    rw [show (if j < i then j else i) = min i j by omega]; exact k.go hr t (.int _)
  · exact t.elim
theorem go_max2 (k : R (.int (max i j)) h) : max2W [.int i, .int j] h R := k
theorem go_min2 (k : R (.int (min i j)) h) : min2W [.int i, .int j] h R := k
end
/-! ## a walk over the signs of a text -/
section
variable {te : TEW} {ρ : SlW} {h : HW} {D : EndsW}
theorem go_forS {g : TGW} {tb : TSW} (s : List Nat) (ev : ∀ R : KW, R (.str s) h → te ρ h R)
  (Pv : Nat → SlW → HW → Prop) (p0 : CN (Pv 0) ρ h) (turn : ∀ (i : Nat) c ρ' h', s[i]? = some c → Pv i ρ' h' → g (.str [c]) ρ' h' fun ρ2 h2 => tb (D.lp (CN (Pv (i + 1))) D.nx) ρ2 h2)
  (fin : ∀ ρ' h', Pv s.length ρ' h' → D.nx ρ' h') : sFor (oItS te) g tb D ρ h := ev _ ⟨Pv, p0, fun i w ρ' h' e p => by
    rw [List.getElem?_map] at e
    obtain ⟨c, ec, rfl⟩ := Option.map_eq_some_iff.mp e
    exact turn i c ρ' h' ec p, fun ρ' h' p => fin ρ' h' (by rw [List.length_map] at p; exact p)⟩
end
end Wl

set_option Elab.async false
set_option linter.all false
set_option maxRecDepth 100000
namespace Wl
open PySem PySem.Spec PyProof.Rows L2
/-! ## defs that call deep: room counted by single frames -/
structure RoomD (d : Nat) (A : Around) : Prop where
  quiet : A.handled = none
  frames : A.depth + d + 5 < recursionLimit
  cunits : 3 * A.units + 16 * d + 600 < 3 * cLine
theorem RoomD.less {c d : Nat} {A : Around} (r : RoomD d A) (h : c ≤ d) : RoomD c A := ⟨r.quiet, by have := r.frames; omega, by have := r.cunits; omega⟩
theorem RoomD.down {d : Nat} {A : Around} (r : RoomD (d + 1) A) (env : Env) : RoomD d (A.deeper env) :=
  ⟨r.quiet, by have a := r.frames; have b : (A.deeper env).depth = A.depth + 1 := rfl; omega, by have a := r.cunits; have b : (A.deeper env).units = A.units + 3 := rfl; omega⟩
theorem RoomD.room {k d : Nat} {A : Around} (r : RoomD d A) (h : 3 * k ≤ d) : Room k A := ⟨r.quiet, by have := r.frames; omega, by have := r.cunits; omega⟩
theorem RoomD.units {d : Nat} {A : Around} (r : RoomD d A) : A.units + 64 < cLine := (r.room (k := 0) (Nat.zero_le _)).units
theorem roomD_of {k : Nat} {A : Around} (r : Room k A) : RoomD (3 * k) A := ⟨r.hd, by have := r.dp; omega, by have := r.un; omega⟩
/-- what such a def promises -/
structure FnD (P : Program) (w : World) (K : PySem.W.Frag) (mg : Str → Option Value) (base : Heap) (CX : CXT) (d : Nat) (f : Addr) (fd : FuncData) (ps : List Str) (sp : Sp) : Prop where
  size : ∀ vs H Q E, sp vs H Q E → vs.length = ps.length
  goes : ∀ (A : Around), RoomD d A → ∀ (outer : List Env) (s : Shared) (H : Hp) (args : Args) (us : List Value) (vs : List V) (Q : VK) (E : XK), Env0 P w K mg base A outer s H → BindsTo s fd args (ps.zip us) → Vals vs us → sp vs H Q E →
    codeAny (model P w) A (.call (.ref f) args) (CR CX outer P w H s Q E) s
section
variable {P : Program} {w : World} {K : PySem.W.Frag} {mg : Str → Option Value} {base : Heap} {CX : CXT} {f : Addr} {fd : FuncData} {ps : List Str}
theorem FnD.fnOk {k : Nat} {sp : Sp} (F : FnD P w K mg base CX (3 * k) f fd ps sp) : FnOk P w K mg base CX k f fd ps sp :=
  ⟨F.size, fun A outer s H args us vs Q E r e b v q => F.goes A (roomD_of r) outer s H args us vs Q E e b v q⟩
theorem FnD.less {c d : Nat} {sp : Sp} (F : FnD P w K mg base CX c f fd ps sp) (h : c ≤ d) : FnD P w K mg base CX d f fd ps sp :=
  ⟨F.size, fun A r => F.goes A (r.less h)⟩
theorem FnD.none {d : Nat} {sp : SpW} (no : ∀ ws h R ex, ¬ sp ws h R ex) : FnD P w K mg base CX d f fd ps (lSp K sp) :=
  ⟨fun _ _ _ _ ⟨_, _, _, _, _, _, q, _⟩ => (no _ _ _ _ q).elim, fun _ _ _ _ _ _ _ _ _ _ _ _ _ ⟨_, _, _, _, _, _, q, _⟩ => (no _ _ _ _ q).elim⟩
/-- by its body -/
theorem fnD {x qual : Str} {st : Stmt} {N : List Str} {d : Nat} {sp : SpW} (F : Fun K x qual st f fd) (S : FnScope N ps (defScope st)) (len : ∀ ws h R ex, sp ws h R ex → ws.length = ps.length)
    (hbody : ∀ (cdv : Value) (A : Around) (outer : List Env) (s : Shared) (H : Hp) (E : XK) (ex : XW → HW → Prop), RoomD d (A.deeper (envOfC qual (defScope st) s.heap.objs.size f cdv)) →
      ∃ t, WSs (cxOf (L2.CX P w) P w K mg base N qual (defScope st) f cdv A outer s H E) (Lk.of K E ex) (defBody st) t ∧ ∀ ws h R, sp ws h R ex → t { nx := fun _ h' => Cl R .non h', rt := Cl R } (startW N.length ws) h) :
    FnD P w K mg base (L2.CX P w) (d + 1) f fd ps (lSp K sp) := by
  obtain ⟨oc, od, kV, doc, pm, an, cdv, ct, osl, rfl, look, code⟩ := F.ex
  refine ⟨fun vs H Q E ⟨ws, h, R, ex, r, _, q, _⟩ => by rw [r.length]; exact len _ _ _ _ q, fun A room outer s H args us vs Q E env0 bind vals ⟨ws, h, R, ex, r, hr, q, kv, el⟩ => ?_⟩
  have size : vs.length = ps.length := by rw [r.length]; exact len _ _ _ _ q
  have inK : K.In s.heap := env0.mod.kin.keeps (fun b o z => (env0.bs b o z).1)
  have noLim : s.heap.NoLimit := env0.mod.nolimit.keeps (fun b o z => (env0.bs b o z).1)
  obtain ⟨t, body, go⟩ := hbody cdv A outer s H E ex (room.down _)
  have kinds : ∀ y ∈ ps.zip us, (defScope st).names.lookup y.1 = some .local ∨ ((defScope st).names.lookup y.1 = some .cell ∧ ((cellsFrom (s.heap.objs.size + 1) (defScope st).names []).lookup y.1).isSome = true) := by
    intro y hy
    cases S.par y.1 (List.of_mem_zip (a := y.1) (b := y.2) hy).1 with
    | inl z => exact .inl z
    | inr z => exact .inr ⟨z, PySem.W.cellsFrom_some _ _ _ (.inl z)⟩
  refine codeAny_call_function (show A.depth < recursionLimit by have := room.frames; omega) (inK _ _ look) rfl S.co S.gen rfl (PySem.W.codeRec_of inK code) (bind _ _ _ _ ?_)
  refine wpAny_newFunctionEnv_cells S.kind kinds ?_
  rintro env rfl s1 inCall
  refine ⟨noLim.keeps inCall.toInCall.keep, codeAny_func ?_⟩
  have start := inv_start (P := P) (w := w) (K := K) (mg := mg) (base := base) (CX := L2.CX P w) (E := E) S room.quiet env0 size vals inCall
  have run := body.run [] s1 (L2.start N vs) H { nx := fun _ H' => Q .non H', rt := Q } start
    ⟨_, h, _, ⟨.start r, hr, el⟩, go ws h R q, ⟨fun _ h' _ H' c st hr _ => kv.cl _ h' _ H' c st hr .non, kv.cl, fun _ _ _ _ c => c.elim, fun _ _ _ _ c => c.elim⟩⟩
  refine wpAny_mono run ?_ (fun _ _ z => z)
  intro fl s2 z
  match fl, z with
  | .ret u, ⟨v, _, H', J, rv, q⟩ => exact ⟨v, H', J.os, J.bare, J.base, J.hok, rv, q⟩
  | .next, ⟨_, H', J, q⟩ => exact ⟨V.non, H', J.os, J.bare, J.base, J.hok, (rfl : RelV V.non Value.none), q⟩
  | .brk, ⟨_, _, _, q⟩ => exact q.elim
  | .cont, ⟨_, _, _, q⟩ => exact q.elim
end
section
variable {X : Cx} {f : Addr} {fd : FuncData} {ps : List Str} {x : Str} {p pos : Pos} {e : Expr} {es : List Expr} {ex : XW → HW → Prop} {E : XK} {d : Nat}
theorem pe_callD {sp : Sp} {t : TA} (F : FnD X.prog X.w X.K X.mg X.base (L2.CX X.prog X.w) d f fd ps sp) (room : RoomD d X.A) (hg : Gl X x) (hm : X.mg x = some (.ref f)) (hk : PySem.W.keepIn X.K (.ref f) = true) (hb : Binds X.K fd ps []) (out : Passes (L2.CX X.prog X.w) X E)
    (ha : PA X (e :: es) t) (hdb : (x == ("__debug__" : Str)) = false) (he : starEach (e :: es) X.env = (false, eval e X.env) :: starEach es X.env) (hpl : (backTo pos (starEach es X.env)).any (·.1) = false) :
    PE X (.Call (.Name x p) (e :: es) [] pos) (tCall sp [] E t) := ⟨fun pins s σ H Q I h => by
  refine wpAny_Call_Name_kw <| ld_glob I hg hm ?_ hdb
  have args := ha.run pos pins s σ H _ I h
  refine PySem.W.callWith_K (h₀ := X.base) I.ok.mod.kin hk (thn args ?_) he hpl
  rintro us s1 ⟨vs, H1, J, vals, q⟩
  have bound := hb s1 us J.kIn (by rw [← F.size _ _ _ _ q, List.append_nil, List.append_nil, vals.length])
  rw [List.append_nil] at q bound
  refine ⟨J.kIn, wpAny_call (codeAny_mono (F.goes X.A room X.stack s1 H1 ⟨us, []⟩ us vs Q E J.env0 bound vals q) ?_)⟩
  intro r s2 z
  match r, z with
  | .error er, z => exact out pins σ H1 s1 er s2 J z
  | .ok (.ret u), z => exact J.after z
  | .ok .next, z => exact False.elim z
  | .ok .brk, z => exact False.elim z
  | .ok .cont, z => exact False.elim z⟩
/-- a call of such a def, within one that lets its exceptions out -/
theorem w_callD {sp : SpW} {t : TAW} (F : FnD X.prog X.w X.K X.mg X.base (L2.CX X.prog X.w) d f fd ps (lSp X.K sp)) (hr : RoomD d X.A) (hg : Gl X x) (hm : X.mg x = some (.ref f)) (hk : PySem.W.keepIn X.K (.ref f) = true) (hb : Binds X.K fd ps [])
    (tk : Takes X (fun cls d _ H => E cls d H))
    (ha : WA X (Lk.of X.K E ex) (e :: es) t) (hdb : (x == ("__debug__" : Str)) = false := by decide) (he : starEach (e :: es) X.env = (false, eval e X.env) :: starEach es X.env := by rfl) (hpl : (backTo pos (starEach es X.env)).any (·.1) = false := by rfl) :
    WE X (Lk.of X.K E ex) (.Call (.Name x p) (e :: es) [] pos) (oCall sp ex t) :=
  (pe_callD F hr hg hm hk hb (passes_call tk fun _ _ _ _ z => z) ha hdb he hpl).imp fun σ H Q ⟨ρ, h, R, S, t, k⟩ => ⟨ρ, h, _, S, t, fun ws h1 vs H1 t1 s1 r1 q1 => by
    show lSp X.K sp (vs ++ []) H1 Q E
    rw [List.append_nil]
    exact ⟨ws, h1, R, ex, q1, r1, t1, k.mono s1, (Lk.of X.K E ex).mono S.el s1⟩⟩
end
end Wl

set_option Elab.async false
set_option linter.all false
set_option maxRecDepth 100000
namespace Wl
open PySem PySem.Spec PyProof.Rows L2
/-! ## sets of texts -/
def hasS (xs : List (List Nat)) : L2.Key → Bool := fun k => xs.any fun s => decide (k = (Sum.inr (mkS s) : L2.Key))
def setO (P : Program) (w : World) (p : Addr) (xs : List (List Nat)) : OW := .raw (SetK P w p (hasS xs) xs.length)
def addS (xs : List (List Nat)) (s : List Nat) : List (List Nat) := if s ∈ xs then xs else xs ++ [s]
theorem key_inj {a b : List Nat} (e : (Sum.inr (mkS a) : L2.Key) = .inr (mkS b)) : a = b := mkS_inj.mp (Sum.inr.inj e)
theorem hasS_str (xs : List (List Nat)) (s : List Nat) : hasS xs (.inr (mkS s)) = decide (s ∈ xs) := by
  unfold hasS
  rw [Bool.eq_iff_iff, List.any_eq_true, decide_eq_true_eq]
  exact ⟨fun ⟨a, h, e⟩ => by rw [key_inj (of_decide_eq_true e)]; exact h, fun h => ⟨s, h, decide_eq_true rfl⟩⟩
theorem hasS_add (xs : List (List Nat)) (s : List Nat) : (fun j => hasS xs j || decide (j = (Sum.inr (mkS s) : L2.Key))) = hasS (addS xs s) := by
  funext j
  unfold addS
  split
  · rename_i h
    by_cases e : j = Sum.inr (mkS s)
    · rw [e, hasS_str, decide_eq_true h]; rfl
    · rw [decide_eq_false e, Bool.or_false]
  · unfold hasS
    rw [List.any_append]; simp
theorem addS_len (xs : List (List Nat)) (s : List Nat) : (addS xs s).length = if hasS xs (.inr (mkS s)) = true then xs.length else xs.length + 1 := by
  unfold addS
  rw [hasS_str]
  by_cases h : s ∈ xs
  · rw [if_pos h, decide_eq_true h, if_pos rfl]
  · rw [if_neg h, decide_eq_false h, if_neg Bool.false_ne_true]; simp
section
variable {X : Cx} {L : Lk} {K : PySem.W.Frag} {H : Hp} {h : HW} {R : KW} {Q : VK} {P : Program} {w : World} {p : Addr} {xs : List (List Nat)} {s : List Nat}
def oSet0 (P : Program) (w : World) : TEW := fun _ h R => ∀ p, h p = none → R (.ref p) (updW h p (setO P w p []))
theorem w_set0 {x : Str} {q pos : Pos} (eP : X.prog = P) (ew : X.w = w) (hg : Gl X x) (hm : X.mg x = none) (hv : bootBuiltins x = some (.type "set")) (hn : x ≠ "__name__" := by decide) (hdb : (x == ("__debug__" : Str)) = false := by decide) :
    WE X L (.Call (.Name x q) [] [] pos) (oSet0 P w) := by
  subst eP ew
  exact (pe_callTy0 cr_set0K hg hm hv hn hdb).imp fun σ H Q ⟨ρ, h, R, S, t, k⟩ =>
  ⟨rfl, fun p hp => k _ _ _ _ (t p (S.hr.fresh hp)) (.newO hp _ _) (S.hr.newO hp (show upd H p _ p = some _ from upd_same)) (.ref p)⟩
def inSW (P : Program) (w : World) (neg : Bool) : RW2 := fun x y h R => match x, y with
  | .str s, .ref p => ∃ xs, h p = some (setO P w p xs) ∧ R (.bl (if neg then !decide (s ∈ xs) else decide (s ∈ xs))) h
  | _, _ => False
theorem lf_inS2 {neg : Bool} : Lf2 K (rSInK P w neg) (inSW P w neg) := fun x y H Q w1 w2 h R r1 r2 hr t k => by
  unfold inSW at t
  split at t
  · obtain ⟨xs, hp, t⟩ := t
    cases r1; cases r2
    refine ⟨.inr (mkS _), _, _, _, rfl, rfl, hr _ _ hp, ?_⟩
    rw [hasS_str]; exact k.go hr t (.bl _)
  · exact t.elim
theorem go_inSet {neg : Bool} (e : h p = some (setO P w p xs)) (k : R (.bl (if neg then !decide (s ∈ xs) else decide (s ∈ xs))) h) : inSW P w neg (.str s) (.ref p) h R := ⟨xs, e, k⟩
theorem go_inSetF (e : h p = some (setO P w p xs)) (k : R (.bl (decide (s ∈ xs))) h) : inSW P w false (.str s) (.ref p) h R := ⟨xs, e, k⟩
theorem go_inSetT (e : h p = some (setO P w p xs)) (k : R (.bl (!decide (s ∈ xs))) h) : inSW P w true (.str s) (.ref p) h R := ⟨xs, e, k⟩
def oSAdd (P : Program) (w : World) (to : TEW) (t : TAW) : TEW := fun ρ h R => to ρ h fun x h1 => match x with
  | .ref p => (∃ xs, h1 p = some (setO P w p xs)) ∧ t ρ h1 fun ws h2 => (match ws with | [.str s] => ∃ xs, h2 p = some (setO P w p xs) ∧ xs.length ≤ 4000 ∧ R .non (updW h2 p (setO P w p (addS xs s))) | _ => False)
  | _ => False
theorem w_sadd {o e : Expr} {es : List Expr} {to : TEW} {t : TAW} {apos cpos : Pos} (eP : X.prog = P) (ew : X.w = w) (ho : WE X L o to) (ha : WA X L (e :: es) t)
    (hbase : attributeBase o "add" X.env (eval o X.env) = eval o X.env := by rfl)
    (hfew : ((backTo cpos (starEach (e :: es) X.env)).all (fun x => !x.1) && (backToKw cpos (keywordEach [] X.env)).all (fun x => x.1.isSome) && decide ((e :: es).length + ([] : List Keyword).length + (if ([] : List Keyword).isEmpty then 0 else 1) < 30)) = true := by rfl)
    (hline : (apos.endLine == cpos.line) = true := by rfl) (hs : starEach (e :: es) X.env = (false, eval e X.env) :: starEach es X.env := by rfl) (hplain : (backTo cpos (starEach es X.env)).any (·.1) = false := by rfl) :
    WE X L (.Call (.Attribute o "add" apos) (e :: es) [] cpos) (oSAdd P w to t) := by
  subst eP ew
  exact (pe_saddK ho ha hbase hfew hline hs hplain).imp fun σ H Q ⟨ρ, h, R, S, t, k⟩ =>
  ⟨ρ, h, _, S, t, fun w1 h1 v1 H1 t1 s1 r1 q1 => by
    split at t1
    · obtain ⟨⟨xs, hp⟩, t1⟩ := t1
      cases q1
      refine ⟨⟨_, _, _, rfl, r1 _ _ hp⟩, ρ, h1, _, S.to s1 r1, t1, fun ws h2 vs H2 t2 s2 r2 q2 => ?_⟩
      split at t2
      · obtain ⟨ys, hp2, l, t2⟩ := t2
        obtain ⟨x, rfl, q⟩ := q2.one
        cases q
        refine ⟨_, .inr (mkS _), _, _, rfl, rfl, r2 _ _ hp2, by have : scanBound = 4096 := rfl; omega, ?_⟩
        rw [hasS_add, ← addS_len]
        exact k _ _ _ _ t2 ((s1.trans s2).trans (.mut hp2 _ _)) (r2.mut hp2 (show upd H2 _ _ _ = some _ from upd_same)) .non
      · exact t2.elim
    · exact t1.elim⟩
theorem go_set0 {ρ : SlW} (k : ∀ p, h p = none → R (.ref p) (updW h p (setO P w p []))) : oSet0 P w ρ h R := k
theorem go_sadd {to : TEW} {t : TAW} {ρ : SlW} (k : to ρ h fun x h1 => match x with
  | .ref p => (∃ xs, h1 p = some (setO P w p xs)) ∧ t ρ h1 fun ws h2 => (match ws with | [.str s] => ∃ xs, h2 p = some (setO P w p xs) ∧ xs.length ≤ 4000 ∧ R .non (updW h2 p (setO P w p (addS xs s))) | _ => False)
  | _ => False) : oSAdd P w to t ρ h R := k
/-- s.add(x) on a set that one knows -/
theorem go_sadd1 {to : TEW} {t : TAW} {ρ : SlW} (k : to ρ h fun x h1 => match x with
  | .ref p => (∃ xs, h1 p = some (setO P w p xs)) ∧ t ρ h1 fun ws h2 => (match ws with | [.str s] => ∃ xs, h2 p = some (setO P w p xs) ∧ xs.length ≤ 4000 ∧ R .non (updW h2 p (setO P w p (addS xs s))) | _ => False)
  | _ => False) : oSAdd P w to t ρ h R := k
/-- a list of a slot that nobody writes any more -/
def sFrz (i : Nat) (u : TSW) : TSW := fun D ρ h => ∃ p ws, sl ρ i = some (.ref p) ∧ h p = some (.lst ws) ∧ u D (ρ.set i (some (.lst ws))) (delW h p)
theorem set_same {α : Type} {l : List α} {i : Nat} {a : α} (e : l[i]? = some a) : l.set i a = l := by
  apply List.ext_getElem?
  intro j
  rw [List.getElem?_set]
  by_cases c : i = j
  · subst c
    rw [if_pos rfl, e, if_pos (List.getElem?_eq_some_iff.mp e).1]
  · rw [if_neg c]
theorem ws_frz {st : Stmt} {i : Nat} {u : TSW} (h1 : WS X L st u) : WS X L st (sFrz i u) := h1.imp fun D σ H ⟨ρ, h, DW, S, ⟨p, ws, e1, e2, t⟩, k⟩ => by
  have sb : Sub (delW h p) h := del_sub
  have st : ST H h H (delW h p) := .drop sb
  obtain ⟨vs, ev, rs⟩ := S.hr _ _ e2
  have new : RW X.K H (delW h p) (.ref p) (.lst ws) := .lst ⟨ev, delW_same⟩ (rs.mono st)
  obtain ⟨v, es, rv⟩ := S.sr.get e1
  cases rv
  have sr := (S.sr.mono st).set new i
  rw [set_same es] at sr
  exact ⟨_, _, DW, ⟨sr, S.hr.drop sb, L.mono S.el st⟩, t, k.mono st⟩
theorem go_frz {i : Nat} {u : TSW} {D : EndsW} {ρ : SlW} {ws : List W} (e1 : sl ρ i = some (.ref p)) (e2 : h p = some (.lst ws)) (k : u D (ρ.set i (some (.lst ws))) (delW h p)) : sFrz i u D ρ h := ⟨p, ws, e1, e2, k⟩
end
end Wl

set_option Elab.async false
set_option linter.all false
set_option maxRecDepth 100000
namespace PySem
open PySem.Calls PyProof.Rows RT
section
variable {prog : Program} {w : World} {A : Around} {E : Value → Shared → Prop} {s : Shared}
/-- list(it), it a fresh reversed(..) of a list at l -/
theorem listOfRev {it l : Addr} {its : Array Value} {Q : Value → Shared → Prop} (calm : A.handled = none) (isIt : s.heap.IsRevIter it l ((its.size : Int) - 1)) (isL : s.heap.IsList l its) (apart : l ≠ it) (small : its.size ≤ sizeLine)
    (done : ∀ (h' : Heap) (tk : Nat) (out : Array Value) (c : Nat), (∀ b o, b ≠ it → s.heap.get? b = some o → h'.get? b = some o) → ItemsOf (fun i v => its[its.size - 1 - i]? = some v) out its.size →
      h'.get? s.heap.objs.size = some { cls := .type "list", dict := none, data := .seq out c, slots := #[] } → Q (.ref s.heap.objs.size) { s with heap := h', toks := tk }) :
    wpAny (model prog w) A (call (.type "list") [.ref it]) Q E s := by
  obtain ⟨oIt, gIt, _⟩ := id isIt
  obtain ⟨oL, gL, _⟩ := id isL
  have n1 : s.heap.objs.size ≠ it := Nat.ne_of_gt (Heap.lt_size gIt)
  have n2 : s.heap.objs.size ≠ l := Nat.ne_of_gt (Heap.lt_size gL)
  have nf : s.heap.objs.size ∉ [it, l] := fun z => by rcases List.mem_cons.mp z with z | z; exact n1 z; exact n2 (List.mem_singleton.mp z)
  generalize eb : s.heap.objs.size = B at *
  refine callType_codes (Q₁ := fun ob t => ob = .ref B ∧ t = { s with heap := s.heap.push { cls := .type "list", data := .seq #[] } }) F.called_list (F.typeCall_list_1 _) F.entry_list_init (code_list_new _ ⟨by rw [eb], rfl⟩) ?_
  rintro _ _ ⟨rfl, rfl⟩
  have g0 : (s.heap.push { cls := .type "list", data := .seq #[] }).get? B = some { cls := .type "list", data := .seq #[] } := by rw [← eb]; exact Heap.get?_push_size _ rfl
  have k0 : ∀ b o, s.heap.get? b = some o → (s.heap.push { cls := .type "list", data := .seq #[] }).get? b = some o := fun b o z => Heap.get?_push_of_some _ z
  refine ⟨⟨_, g0, rfl⟩, F.args_list_init_2 _ _, ?_⟩
  generalize s.heap.push { cls := .type "list", data := .seq #[] } = h0 at g0 k0
  have walk := (Walks.listRev (prog := prog) (w := w) (A := A.in1.in1) calm it l apart its).toS
  show wpAny _ A.in1.in1 (do let old ← Builtin.List.listItems (.ref B); Builtin.List.listUpdate (.ref B) (fun _ => #[]); letGo old.toList.reverse; Builtin.List.listExtendWith (.ref B) (.ref it) .none) _ _ _
  unfold Builtin.List.listItems
  refine wpAny_bind (wpAny_bind (wpAny_seqItems g0 rfl (wpAny_pure ?_)))
  refine wpAny_bind (show wpAny _ A.in1.in1 (updateSeq B (fun _ => #[])) _ _ _ from wpAny_updateSeq g0 rfl ?_)
  have g1 := Heap.get?_update_self (Obj.mapSeq (fun _ => (#[] : Array Value))) g0 rfl
  have k1 : ∀ b o, s.heap.get? b = some o → (h0.update B (Obj.mapSeq (fun _ => (#[] : Array Value)))).get? b = some o := fun b o z => by
    have nb : b ≠ B := fun y => absurd (Heap.lt_size z) (by rw [y, ← eb]; exact Nat.lt_irrefl _)
    exact (Heap.get?_update_other _ _ (Ne.symm nb)).trans (k0 b o z)
  generalize h0.update B (Obj.mapSeq (fun _ => (#[] : Array Value))) = h1 at g1 k1
  have i1 : h1.IsRevIter it l ((its.size : Int) - 1) := isIt.at (k1 it)
  have l1 : h1.IsList l its := by
    obtain ⟨o, ho, r⟩ := id isL
    exact ⟨o, k1 l o ho, r⟩
  have ty : ({ s with heap := h1 } : Shared).TypeIs (.ref it) "list_reverseiterator" := Heap.IsRevIter.typeIs (s := { s with heap := h1 }) i1
  refine wpAny_bind (wpAny_letGo ?_)
  have same : Builtin.List.listSameRef (.ref B) (.ref it) = false := by simp [Builtin.List.listSameRef, n1]
  unfold Builtin.List.listExtendWith
  refine wpAny_bind (wpAny_typeOf ty ?_)
  rw [if_neg (by rw [same]; decide)]
  refine wpAny_bind (wpAny_pyIter_revIter (s := { s with heap := h1 }) i1 ?_)
  refine wpAny_bind (wpAny_holding ?_)
  unfold Builtin.List.listLengthHint
  refine wpAny_bind (wpAny_specialOf ty nolen_lri ?_)
  refine wpAny_bind (show wpAny _ A.in1.in1 (specialOf (Value.ref it) (Str.ofString "__length_hint__")) _ _ _ from wpAny_specialOf ty hint_lri ?_)
  generalize ei : ("list_reverseiterator.__length_hint__" : String) = hint
  wp_delta
  have sp : splitId hint = some ("list_reverseiterator", "__length_hint__") := by subst ei; decide +kernel
  rw [sp]
  subst ei
  have sub : isSubtype (.type "list_reverseiterator") (.type "list_reverseiterator") = pure true := by rw [isSubtype_type]; kernel_rfl
  refine wpAny_bind (wpAny_isInstance (b := true) ty sub (wpAny_pure ?_))
  rw [if_neg (by decide)]
  have e0 : ((its.size : Nat) : Int) - 1 - ((0 : Nat) : Int) = (its.size : Int) - 1 := by omega
  have start : 0 ≤ its.size ∧ h1.IsRevIter it l ((its.size : Int) - 1 - ((0 : Nat) : Int)) ∧ h1.IsList l its := ⟨Nat.zero_le _, by rw [e0]; exact i1, l1⟩
  refine wpAny_pure ⟨plainId_quiet F.plain_extend_loop _, ?_⟩
  refine codeAny_extend_loopS walk small B nf _ its.size 0 _ _ _ rfl (Nat.zero_le _) start g1 (ItemsOf.nil _) ?_
  intro s' out c moved g2 items
  rw [Moved.eq_with moved] at g2 ⊢
  refine ⟨rfl, done s'.heap s'.toks out c (fun b o nb z => ?_) items g2⟩
  refine moved.heap b o (fun mem => ?_) (k1 b o z)
  rcases List.mem_cons.mp mem with y | y
  · exact absurd (Heap.lt_size z) (by rw [y, ← eb]; exact Nat.lt_irrefl _)
  · exact nb (List.mem_singleton.mp y)
end
end PySem
namespace Wl
open PySem PySem.Spec PyProof.Rows L2
section
variable {X : Cx} {L : Lk}
/-- list(reversed(x)), x a list -/
def tLstRev (K : PySem.W.Frag) (te : TE) : TE := fun σ H Q => te σ H fun v H1 => ∃ (a : Addr) (xs : List V), v = .ref a ∧ SqL K H1 a xs ∧ ∀ q, H1 q = none → Q (.ref q) (upd H1 q (.lst xs.reverse))
theorem pe_lstRev {e : Expr} {te : TE} {p p2 pos pos2 : Pos} (hc : X.calm = true) (hg : Gl X "list") (hm : X.mg "list" = none) (hg2 : Gl X "reversed") (hm2 : X.mg "reversed" = none) (he : PE X e te)
    (hs : starEach [e] X.env = (false, eval e X.env) :: starEach [] X.env)
    (hs2 : starEach [.Call (.Name "reversed" p2) [e] [] pos2] X.env = (false, eval (.Call (.Name "reversed" p2) [e] [] pos2) X.env) :: starEach [] X.env) :
    PE X (.Call (.Name "list" p) [.Call (.Name "reversed" p2) [e] [] pos2] [] pos) (tLstRev X.K te) := ⟨fun pins s σ H Q I h => by
  have inner := he.run pins s σ H _ I h
  refine Call_ (ld_blt I hg hm (show bootBuiltins "list" = some (.type "list") by decide +kernel) (callWith_type1 (args_cons (Call_ (ld_blt I hg2 hm2 boot_reversed (callWith_type1 (args_cons (thn inner ?_) hs) hs rfl))) hs2) hs2 rfl))
  rintro u s1 ⟨v, H1, J, rv, a, xs, rfl, sq, q⟩
  obtain rfl : u = Value.ref a := rv
  obtain ⟨its, vals, isL, small⟩ := J.list sq
  refine args_nil (call_reversed_list isL.isList (args_nil ?_))
  obtain ⟨oL, gL, _⟩ := id isL.isList
  have apart : a ≠ s1.heap.objs.size := Nat.ne_of_lt (Heap.lt_size gL)
  refine listOfRev (s := { s1 with heap := s1.heap.push (revObj a ((its.toArray.size : Int) - 1)) }) (J.ok.hd hc) ⟨_, Heap.get?_push_size _ rfl, rfl, rfl⟩ (isL.isList.push _) apart (by rw [List.size_toArray, ← vals.length]; exact small) ?_
  intro h' tk out c kept items new
  have keep : ∀ b o, s1.heap.get? b = some o → h'.get? b = some o := fun b o z => kept b o (fun y => absurd (Heap.lt_size z) (by rw [y]; exact Nat.lt_irrefl _)) (Heap.get?_push_of_some _ z)
  have size : s1.heap.objs.size ≤ (s1.heap.push (revObj a ((its.toArray.size : Int) - 1))).objs.size := by rw [Heap.size_push]; exact Nat.le_succ _
  have isNew : ObjOk X.prog X.w (upd H1 (s1.heap.push (revObj a ((its.toArray.size : Int) - 1))).objs.size (.lst xs.reverse)) h' (s1.heap.push (revObj a ((its.toArray.size : Int) - 1))).objs.size (.lst xs.reverse) :=
    ⟨by rw [List.length_reverse]; exact small, out.toList, c, RT.vals_rev vals items, by rw [Array.toArray_toList]; exact new⟩
  exact ⟨.ref _, _, J.laid (t' := tk) keep size isNew, rfl, q _ (J.hok.fresh size)⟩⟩
def revK (x : W) (h : HW) (P : List W → Prop) : Prop := match x with
  | .lst ws => P ws
  | .scr ws => P ws
  | .ref p => (match h p with | some (.lst ws) => P ws | _ => False)
  | _ => False
def oLstRev (te : TEW) : TEW := fun ρ h R => te ρ h fun x h1 => revK x h1 fun ws => R (.lst ws.reverse) h1
theorem w_lstRev {e : Expr} {te : TEW} {p p2 pos pos2 : Pos} (hc : X.calm = true) (hg : Gl X "list") (hm : X.mg "list" = none) (hg2 : Gl X "reversed") (hm2 : X.mg "reversed" = none) (he : WE X L e te)
    (hs : starEach [e] X.env = (false, eval e X.env) :: starEach [] X.env := by rfl)
    (hs2 : starEach [.Call (.Name "reversed" p2) [e] [] pos2] X.env = (false, eval (.Call (.Name "reversed" p2) [e] [] pos2) X.env) :: starEach [] X.env := by rfl) :
    WE X L (.Call (.Name "list" p) [.Call (.Name "reversed" p2) [e] [] pos2] [] pos) (oLstRev te) := (pe_lstRev hc hg hm hg2 hm2 he hs hs2).imp fun σ H Q ⟨ρ, h, R, S, t, k⟩ =>
  ⟨ρ, h, _, S, t, fun w1 h1 v1 H1 t1 s1 r1 q1 => by
    have k1 := k.mono s1
    unfold revK at t1
    split at t1
    · cases q1 with | lst f q => exact ⟨_, _, rfl, f.sq, fun q e => KV.lst k1 r1 (RWs.reverse (by assumption)) t1 e⟩
    · cases q1 with | scr f q => exact ⟨_, _, rfl, f.sq, fun q e => KV.lst k1 r1 (RWs.reverse (by assumption)) t1 e⟩
    · split at t1
      · rename_i p _ ws hp
        cases q1
        obtain ⟨vs, a, rs⟩ := r1 _ _ hp
        exact ⟨_, _, rfl, SqL.of a, fun q e => KV.lst k1 r1 rs.reverse t1 e⟩
      · exact t1.elim
    · exact t1.elim⟩
theorem go_lstRev {ρ : SlW} {h : HW} {R : KW} {te : TEW} (k : te ρ h fun x h1 => revK x h1 fun ws => R (.lst ws.reverse) h1) : oLstRev te ρ h R := k
theorem go_revLO {p : Addr} {h : HW} {ws : List W} {P : List W → Prop} (e : h p = some (.lst ws)) (k : P ws) : revK (.ref p) h P := by unfold revK; dsimp only; rw [e]; exact k
end
/-! ## texts that are compared -/
section
variable {K : PySem.W.Frag} {h : HW} {R : KW}
def leSW : RW2 := fun x y h R => match x, y with
  | .str a, .str b => R (.bl (!decide (b < a))) h
  | _, _ => False
theorem lf_leS : Lf2 K (fun x y H Q => ∃ i j, x = .str i ∧ y = .str j ∧ Q (.bl (!decide (j.cps.toList < i.cps.toList))) H) leSW := fun x y H Q w1 w2 h R r1 r2 hr t k => by
  unfold leSW at t
  split at t
  · cases r1; cases r2
    exact ⟨_, _, rfl, rfl, by simp only [mkS]; exact k.go hr t (.bl _)⟩
  · exact t.elim
theorem go_leS1 {c d : Nat} (k : R (.bl (decide (c ≤ d))) h) : leSW (.str [c]) (.str [d]) h R := by
  show R (.bl (!decide ([d] < [c]))) h
  have e : (!decide ([d] < [c])) = decide (c ≤ d) := by
    rw [Bool.eq_iff_iff]
    simp [List.cons_lt_cons_iff]
  rw [e]; exact k
end
end Wl

set_option Elab.async false
set_option linter.all false
set_option maxRecDepth 100000
namespace Wl
open PySem PySem.Spec PyProof.Rows L2
/-! ## is None -/
section
variable {K : PySem.W.Frag} {h : HW} {R : KW} {x : W}
def isNon : W → Bool
  | .non => true
  | _ => false
def isNW : RW2 := fun x y h R => match y with | .non => R (.bl (isNon x)) h | _ => False
def notNW : RW2 := fun x y h R => match y with | .non => R (.bl (!isNon x)) h | _ => False
theorem isNon_of {H : Hp} {v : V} (r : RW K H h v x) : decide (v = V.non) = isNon x := by cases r <;> rfl
theorem lf_isN : Lf2 K (fun x y H Q => y = .non ∧ Q (.bl (decide (x = .non))) H) isNW := fun x y H Q w1 w2 h R r1 r2 hr t k => by
  unfold isNW at t
  split at t
  · cases r2; exact ⟨rfl, by rw [isNon_of r1]; exact k.go hr t (.bl _)⟩
  · exact t.elim
theorem lf_notN : Lf2 K (fun x y H Q => y = .non ∧ Q (.bl (!decide (x = .non))) H) notNW := fun x y H Q w1 w2 h R r1 r2 hr t k => by
  unfold notNW at t
  split at t
  · cases r2; exact ⟨rfl, by rw [isNon_of r1]; exact k.go hr t (.bl _)⟩
  · exact t.elim
theorem go_isN {b : Bool} (e : isNon x = b) (k : R (.bl b) h) : isNW x .non h R := by unfold isNW; dsimp only; rw [e]; exact k
theorem go_notN {b : Bool} (e : isNon x = b) (k : R (.bl (!b)) h) : notNW x .non h R := by unfold notNW; dsimp only; rw [e]; exact k
theorem go_isNN (k : R (.bl true) h) : isNW .non .non h R := k
theorem go_isNT {ws : List W} (k : R (.bl false) h) : isNW (.tup ws) .non h R := k
theorem go_notNN (k : R (.bl false) h) : notNW .non .non h R := k
theorem go_notNT {ws : List W} (k : R (.bl true) h) : notNW (.tup ws) .non h R := k
end
/-! ## == of deep data -/
section
variable {X : Cx} {K : PySem.W.Frag} {h : HW} {R : KW} {n : Nat}
def rEqL (K : PySem.W.Frag) (n : Nat) : R2 := fun x y H Q => ∃ d e, (Dp K H x d ∧ d.canLay0 = true ∧ d.depth ≤ n) ∧ (Dp K H y e ∧ e.canLay0 = true) ∧ Q (.bl (PyData.eqv d e)) H
theorem ow_eqL (hu : X.A.units + n < cLine) : OpR X (compareOp .Eq) (rEqL X.K n) := by
  refine fun pins s σ H x y v u Q J r1 r2 ⟨d, e, ⟨hd, ld, dd⟩, ⟨he, le⟩, q⟩ => ?_
  obtain ⟨as, a1⟩ := Dp.reads J d x v hd r1
  obtain ⟨bs, b1⟩ := Dp.reads J e y u he r2
  exact SeqAt.compareEq_reads a1 b1 ld le (by omega) ⟨.bl _, H, J, rfl, q⟩
def eqLW (n : Nat) : RW2 := fun x y h R => (dataW (rsv x h) = true ∧ depW (rsv x h) ≤ n) ∧ dataW (rsv y h) = true ∧ R (.bl (eqD (rsv x h) (rsv y h))) h
theorem lf_eqL : Lf2 K (rEqL K n) (eqLW n) := fun x y H Q w1 w2 h R r1 r2 hr ⟨⟨a, b⟩, c, t⟩ k =>
  ⟨_, _, ⟨dpr_of hr r1 a, lay_of _ a, Nat.le_trans (dep_of _) b⟩, ⟨dpr_of hr r2 c, lay_of _ c⟩, k.go hr t (.bl _)⟩
theorem go_eqL {x y : W} (a : dataW x = true) (b : dataW y = true) (c : depW x ≤ n) (k : R (.bl (eqD x y)) h) : eqLW n x y h R := by
  unfold eqLW
  rw [rsv_of a, rsv_of b]
  exact ⟨⟨a, c⟩, b, k⟩
theorem room_far {k : Nat} {A : Around} (r : Room k A) (h : 213 ≤ k) : A.units + 3600 < cLine := by have := r.un; omega
end
/-! ## tuple(x) -/
section
variable {K : PySem.W.Frag} {h : HW} {R : KW} {xs : List W}
def tupleW : List W → HW → KW → Prop := fun ws h R => match ws with
  | [.tup xs] => R (.tup xs) h
  | [.lst xs] => R (.tup xs) h
  | [.ref p] => (match h p with | some (.lst xs) => R (.tup xs) h | _ => False)
  | _ => False
theorem lf_tuple : LfC K (fun xs H Q => ∃ p ys, xs = [.ref p] ∧ ((SqL K H p ys ∧ ∀ l, H l = none → Q (.ref l) (upd H l (.tup ys))) ∨ (SqT K H p ys ∧ Q (.ref p) H))) tupleW := fun xs H Q ws h R r hr t k => by
  unfold tupleW at t
  split at t
  · obtain ⟨x, rfl, q⟩ := r.one
    cases q with
    | tup f q => exact ⟨_, _, rfl, .inr ⟨f.sq, k.go hr t (.tup f q)⟩⟩
  · obtain ⟨x, rfl, q⟩ := r.one
    cases q with
    | lst f q => exact ⟨_, _, rfl, .inl ⟨f.sq, fun p hp => k.tup hr q t hp⟩⟩
  · split at t
    · rename_i hp
      obtain ⟨x, rfl, q⟩ := r.one
      cases q
      obtain ⟨vs, hv, q⟩ := hr _ _ hp
      exact ⟨_, _, rfl, .inl ⟨SqL.of hv, fun p hp => k.tup hr q t hp⟩⟩
    · exact t.elim
  · exact t.elim
theorem go_tupleT (k : R (.tup xs) h) : tupleW [.tup xs] h R := k
theorem go_tupleL (k : R (.tup xs) h) : tupleW [.lst xs] h R := k
theorem go_tupleO {p : Addr} (hp : h p = some (.lst xs)) (k : R (.tup xs) h) : tupleW [.ref p] h R := by unfold tupleW; dsimp only; rw [hp]; exact k
end
/-! ## where ways meet -/
section
variable {D : EndsW} {ρ : SlW} {h : HW} {s u A B : TSW}
theorem go_seqM (M : SlW → HW → Prop) (fin : ∀ ρ' h', M ρ' h' → u D ρ' h') (main : ∀ N : SlW → HW → Prop, (∀ ρ' h', M ρ' h' → N ρ' h') → s (D.wn N) ρ h) : sSeq s u D ρ h := main (u D) fin
theorem go_meet {N : SlW → HW → Prop} {b : Bool} (M : SlW → HW → Prop) (fin : ∀ ρ' h', M ρ' h' → N ρ' h') (main : ∀ N' : SlW → HW → Prop, (∀ ρ' h', M ρ' h' → N' ρ' h') → if b = true then A (D.wn N') ρ h else B (D.wn N') ρ h) :
    if b = true then A (D.wn N) ρ h else B (D.wn N) ρ h := main N fin
/-- a test of several parts, whatever its way -/
theorem go_ifB {tA : TTW} {b0 : Bool} (test : ∀ RB : Bool → HW → Prop, RB b0 h → tA ρ h RB) (kt : b0 = true → A D ρ h) (kf : b0 = false → B D ρ h) : sIf tA A B D ρ h := test _ (by
  cases b0 with
  | true => exact iteT (kt rfl)
  | false => exact iteF (kf rfl))
end
end Wl

set_option Elab.async false
set_option linter.all false
set_option maxRecDepth 100000
set_option maxHeartbeats 1000000
namespace Wl
open PySem PySem.Spec PyProof.Rows L2
/-! ## an own exception whose __init__ is: super().__init__(name); self.name = name -/
def supBody (p0 p1 p2 p3 p4 p5 q1 q2 q3 q4 : Pos) : List Stmt :=
  [.Expr (.Call (.Attribute (.Call (.Name "super" p0) [] [] p1) "__init__" p2) [.Name "name" p3] [] p4) p5, .Assign [.Attribute (.Name "self" q1) "name" q2] (.Name "name" q3) q4]
def supScope : Scope := { kind := .function, names := [(Str.ofString "self", .local), (Str.ofString "name", .local), (Str.ofString "__class__", .free), (Str.ofString "super", .globalImplicit)], isGenerator := false, isCoroutine := false, more := [] }
def supArgs (r1 r2 : Pos) : Arguments := { posonlyargs := [], args := [{ arg := "self", annotation := none, pos := r1 }, { arg := "name", annotation := none, pos := r2 }], vararg := none, kwonlyargs := [], kw_defaults := [], kwarg := none, defaults := [] }
/-- what the written part says of such a class, at C, and of its __init__, at f -/
structure SupC (P : Program) (K : PySem.W.Frag) (C f : Addr) : Prop where
  fn : ∃ (oc od osl : _) (qual : Str) (r1 r2 p0 p1 p2 p3 p4 p5 q1 q2 q3 q4 : Pos) (kV doc pm ct : Value) (an : Option Addr) (cda cc : Addr),
    K.lookup f = some ⟨oc, od, .func (PySem.W.ksFn "__init__" qual (supArgs r1 r2) (supBody p0 p1 p2 p3 p4 p5 q1 q2 q3 q4) supScope .none kV doc pm an (.ref cda) ct cc), osl⟩ ∧ PySem.W.codeIn K (.ref cda) qual = true ∧ (p2.endLine == p4.line) = true ∧
    (∃ ccl cdd vs ccs file tf, K.lookup cda = some ⟨ccl, cdd, .fields vs, ccs⟩ ∧ vs[2]? = some (.str file tf) ∧ ((P.main.file : Str) == file) = true) ∧ ∃ cl cld csl, K.lookup cc = some ⟨cl, cld, .cell (some (.ref C)), csl⟩
  top : (P.main.scope.names.lookup ("super" : Str)).isSome = false
  glob : PySem.W.nsIn K mainGlobals "super" = some none
  oex : OexC K C
  init : PySem.W.findIn K (.ref C) "__init__" = some (some (.ref f))
  tyf : PySem.W.typeIn K (.ref f) = some (.type "function")
  sup : PySem.W.ks_superIn K C C "__init__" = some (some (.builtin "ValueError.__init__"))
  sub : PySem.W.subIn K (.ref C) (.type "ValueError") = some true
  mro : PySem.W.mroIn K C (.ref C) = some true
  stat : PySem.W.nsIn K PySem.cStatics "thirdparty.any" = some none
  no : PySem.W.findIn K (.ref C) "name" = some none
def spXI (C : Addr) : Sp := fun vs H Q E => ∃ (a : Addr) (s : List Nat), vs = [.ref a, .str (mkS s)] ∧ H a = some (exo a C none) ∧ ∀ d, H d = none → d ≠ a → Q .non (upd (upd H d (exd d [(Str.ofString "name", .str (mkS s))])) a (exo a C (some d)))
/-- the words of the call, where both its parts stand on one row -/
theorem sup_words {o : Expr} {m x : Str} {p p2 p4 : Pos} {env : Env} (hl : (p2.endLine == p4.line) = true) : eval (.Call (.Attribute o m p2) [.Name x p] [] p4) env = (do
    let ov ← attributeBase o m env (eval o env)
    standAt p2.atName
    let (f, first) ← holding [ov] (getMethod ov m (do return (← importBound o env).getD true))
    callWith p4 f first (backTo p4 (starEach [.Name x p] env)) []) := by
  have e : methodCallPos true o env p2 p4 = pure p4 := by unfold methodCallPos; rw [hl]; rfl
  rw [arm_eval_Call]
  congr 1
  funext ov
  congr 1
  funext _
  unfold methodCall
  rw [show methodCallForm ([Expr.Name x p].length + ([] : List Keyword).length) (backTo p4 (starEach [.Name x p] env)) (backToKw p4 (keywordEach [] env)) = true from rfl, e]
  rfl
theorem sup_scope : NdefX.NScope [Str.ofString "self", "name", "__class__"] [Str.ofString "self", "name"] [Str.ofString "__class__"] supScope := NdefX.nscope_by (by decide +kernel)
section
variable {M : Model} {A : Around} {E : Value → Shared → Prop} {h : Heap} {g : Array GenState} {d : Drawn} {t : Nat} {os : OsState}
/-- ValueError.__init__ bound to an exception, called -/
theorem call_mw {prog : Program} {w : World} {u x C t0 : Addr} {rest : List Value} {Q : Value → Shared → Prop} {nm q : Str} {N : Addr} {bs bm : List Value} {hdct : Bool} {sn : List Str} {sub : List Value} {ab : Bool} {col : Option Bool} {dd : Option Addr} {k0 k1 k2 k3 k5 : Option Value}
    (hC : h.get? C = some (excClassObj nm q C N bs bm hdct sn sub ab col dd k0 k1 k2 k3 k5 "ValueError.__new__")) (hx : h.get? x = some (PySem.HandSPX.excO C t0)) (hu : h.get? u = some (PySem.W.kxs_mw "ValueError.__init__" x)) (hz : rest.length ≤ sizeLine)
    (k : ∀ h' t1, (∀ b o, b ≠ x → h.get? b = some o → h'.get? b = some o) → h'.get? x = some (PySem.HandSPX.excO C t1) → Q .none ⟨h', g, d, t, os⟩) :
    wpAny (model prog w) A (call (.ref u) rest) Q E ⟨h, g, d, t, os⟩ := by
  refine wpAny_call (codeAny_of_tree ?_)
  show wpAny _ A.in1 (callAny (.ref u) ⟨rest, []⟩) _ _ _
  simp only [callAny]
  refine wpAny_bind (wpAny_load hu ?_)
  simp only [PySem.W.kxs_mw, show (Value.type "method-wrapper" == Value.type "method" || Value.type "method-wrapper" == Value.type "builtin_function_or_method" || Value.type "method-wrapper" == Value.type "method-wrapper") = true by decide, if_true]
  refine PySem.W.KFB.if_so (by decide) (wpAny_bind (PySem.W.check_bound_init F.excBase_ValueError.toExcCallFacts hC hx rfl (wpAny_bind (wpAny_pure (wpAny_pure ?_)))))
  refine ⟨plainId_quiet F.excBase_ValueError.init.plain _, codeAny_builtin F.excBase_ValueError.initEntry ?_⟩
  exact PySem.W.exc_init_tree (cls := .ref C) (t0 := t0) (dv := none) (c2 := .none) (c3 := .none) (b4 := .bool false) hx hz fun h' a b _ => k h' _ a b
end
section
variable {P : Program} {w : World} {K : PySem.W.Frag} {mg : Str → Option Value} {base : Heap} {C f : Addr}
theorem sup_ok (S : SupC P K C f) (hmg : mg "super" = none) : ∃ fd : FuncData, Binds K fd [Str.ofString "self", "name"] [] ∧ FnOk P w K mg base CX0 3 f fd [Str.ofString "self", "name"] (fun vs H Q E => spXI C vs H Q E) := by
  obtain ⟨oc, od, osl, qual, r1, r2, p0, p1, p2, p3, p4, p5, q1, q2, q3, q4, kV, doc, pm, ct, an, cda, cc, look, code, hline, ⟨ccl, cdd, cvs, ccs, file, tf, lcode, hfile, hP⟩, cl, cld, csl, lcell⟩ := S.fn
  refine ⟨PySem.W.ksFn "__init__" qual (supArgs r1 r2) (supBody p0 p1 p2 p3 p4 p5 q1 q2 q3 q4) supScope .none kV doc pm an (.ref cda) ct cc, .all fun us hl => ?_, ⟨fun vs H Q E ⟨a, s, e, _⟩ => by rw [e]; rfl, fun A outer s H args us vs Q E room e0 bind vals ⟨a, sx, ev, ha, k⟩ => ?_⟩⟩
  · match us, hl with
    | [x, y], _ => rfl
  subst ev
  obtain ⟨nm, q, N, bs, bm, sn, sub, ab, col, dd, k0, k1, k2, k3, k5, hC, hbm⟩ := S.oex.cls
  have hcl : PySem.W.clsIn K C = some { name := nm, bases := bs, mro := .ref C :: bm, ns := N, qualname := q, hasDict := true, slotNames := sn, subclasses := sub, abstract := ab, collection := col, hasDel := false } := by unfold PySem.W.clsIn; rw [hC] <;> rfl
  have inK : K.In s.heap := e0.mod.kin.keeps fun b o z => (e0.bs b o z).1
  have noLim : s.heap.NoLimit := e0.mod.nolimit.keeps fun b o z => (e0.bs b o z).1
  cases vals with
  | @cons _ u0 _ ur ra rw1 =>
  obtain rfl : u0 = Value.ref a := ra
  cases rw1 with
  | @cons _ u1 _ ur2 ra1 rw2 =>
  cases rw2
  obtain ⟨tk1, rfl⟩ := ra1
  let FN : NdefX.NF := ⟨"__init__", qual, supArgs r1 r2, supBody p0 p1 p2 p3 p4 p5 q1 q2 q3 q4, supScope, [(Str.ofString "__class__", cc)], cda⟩
  refine ks_codeAny_call_defAt (body := supBody p0 p1 p2 p3 p4 p5 q1 q2 q3 q4) room.depth (inK _ _ look) rfl noLim (PySem.W.codeRec_of inK code) rfl bind (by show ∀ x ∈ supScope.names, x.2 ≠ .cell; decide) (fun x hx => ?_) (fun h₀ hns kp => ?_)
  · rcases List.mem_cons.mp hx with rfl | hx
    · rfl
    rcases List.mem_cons.mp hx with rfl | hx
    · rfl
    · exact absurd hx (by simp)
  have cellB := e0.bs _ _ (e0.mod.kin _ _ lcell)
  have lk : ∀ y c, FN.cl.lookup y = some c → y = Str.ofString "__class__" ∧ c = cc := fun y c z => by
    have z : List.lookup y [(Str.ofString "__class__", cc)] = some c := z
    rw [List.lookup_cons] at z
    split at z
    · rename_i q; exact ⟨by simpa using q, (Option.some.inj z).symm⟩
    · cases z
  have cells : NdefX.CellsAt FN.cl [Str.ofString "__class__"] [some (.ref C)] s.heap H :=
    { len := rfl
      all := fun y c z => by
        obtain ⟨_, rfl⟩ := lk y c z
        exact ⟨cellB.2, _, _, cellB.1, rfl⟩
      inj := fun x y c z1 z2 => by rw [(lk x c z1).1, (lk y c z2).1]
      has := fun i y z => by
        match i, z with
        | 0, z =>
          cases z
          exact ⟨cc, by show List.lookup _ [(Str.ofString "__class__", cc)] = _; rw [List.lookup_cons, beq_self_eq_true], fun v e => by cases e; exact ⟨.ref C, rfl, _, cellB.1, rfl⟩⟩
        | i + 1, z => simp at z }
  have vals2 : Vals [V.ref a, .str (mkS sx)] [.ref a, .str (mkS sx) tk1] := .cons rfl (.cons ⟨tk1, rfl⟩ .nil)
  have I := NdefX.inv_startN (CX := CX0) (E := E) (f := f) (N := [Str.ofString "self", "name", "__class__"]) (F := FN) (tk := s.toks + 2) sup_scope room.hd e0 rfl vals2 cells hns kp
  have hns2 := hns
  obtain ⟨hp, g, d, t, os⟩ := s
  show PySem.wpAt (model P w) (A.deeper (NdefX.envF FN f hp.objs.size)) (.func FN.body (NdefX.envF FN f hp.objs.size)) (execs (supBody p0 p1 p2 p3 p4 p5 q1 q2 q3 q4) (NdefX.envF FN f hp.objs.size)) _ _ _
  refine ks_wpAt_execs_cons (ks_wpAt_Expr_any (ks_wpAt_MethodCall ?_ (sup_words hline)))
  have kin := I.kIn
  refine ks_wpAt_super_base (env := NdefX.envF FN f hp.objs.size) rfl rfl rfl rfl (kin _ _ look) rfl rfl rfl (kin _ _ lcode) rfl hfile hP S.top ?_
  obtain ⟨mb, b1, b2⟩ := I.mod.blt
  refine PySem.W.ks_loadName_global rfl rfl (Calls.loadGlobal_builtin (I.mod.glob.keeps I.bk) hmg (b1.keeps I.bk) ((b2 _ (by decide)).trans (show bootBuiltins "super" = some (.type "super") by decide +kernel)) ⟨rfl, ?_⟩)
  refine wpAny_loadName_free rfl rfl rfl ⟨_, kin _ _ lcell, rfl⟩ ?_
  refine wpAny_loadName_local rfl rfl hns2 rfl ?_
  obtain ⟨t0, hx⟩ := exo_at I.hok ha
  refine ks_wpAny_isType_cls (kin _ _ hC) rfl ⟨rfl, ?_⟩
  refine ks_wpAny_call_super (kin _ _ hC) rfl hx rfl (fun c e => nomatch e) (PySem.W.looks_mroIn kin S.mro) (fun h2 hso k2 => ?_)
  have I2 := I.kept (t' := t + 2) k2
  have kin2 := I2.kIn
  have hx2 := k2 _ _ hx
  have ia : PySem.W.InstAt h2 a { cls := .ref C, dict := none, data := .fields #[.ref t0, .none, .none, .none, .bool false, .none] } C none := ⟨hx2, rfl, rfl, trivial⟩
  refine PySem.W.kxs_getMethod PySem.W.kxs_ValueError hso (PySem.W.looks_opaque kin2 S.stat) (l₀ := .ref C :: bm) (fun A Q E s k q => wpAny_bind ((PySem.W.looks_clsIn kin2 hcl) A _ E s k (wpAny_pure q))) rfl kin2 (by
    have := S.sup
    unfold PySem.W.ks_superIn at this
    rw [hcl] at this
    exact this) (ia.type.andThen (PySem.W.looks_subIn kin2 S.sub)) (PySem.W.ks_ne kin2 ia hcl) rfl ?_
  have e1 : (h2.push (PySem.W.kxs_mw "ValueError.__init__" a)).get? h2.objs.size = some (PySem.W.kxs_mw "ValueError.__init__" a) := Heap.get?_push_size _ rfl
  have I3 := I2.kept (t' := t + 2 + 1) (h' := h2.push (PySem.W.kxs_mw "ValueError.__init__" a)) fun b o z => Heap.get?_push_of_some _ z
  have nu : H h2.objs.size = none := I2.hok.fresh (Nat.le_refl _)
  have I4 := I3.pins_of (pins' := [(h2.objs.size, PySem.W.kxs_mw "ValueError.__init__" a)]) fun p hp => by
    rw [List.mem_singleton] at hp
    subst hp
    exact ⟨e1, nu, Nat.ne_of_gt I2.lt, I2.nofs (Nat.le_refl _), fun v e => nomatch e⟩
  refine PySem.W.kxs_callWith (i := "ValueError.__init__") (x := a) rfl (Calls.evalArgs_plain ?_)
  have va : Vis supScope "name" := .inl rfl
  have vs : Vis supScope "self" := .inl rfl
  have pn : PE (NdefX.ncx CX0 P w K mg base [Str.ofString "self", "name", "__class__"] FN f A outer ⟨hp, g, d, t, os⟩ H E) (.Name "name" p3) (tVar 1) := pe_var rfl va
  have pa := pa_cons pn pa_nil
  refine thn (pa.run p4 _ _ _ H (fun vs H' => vs = [.str (mkS sx)] ∧ H' = H) I4 ⟨_, rfl, rfl, rfl⟩) fun us s5 ⟨vs, H5, I5, r5, ev5, eH⟩ => ?_
  subst ev5
  rw [eH] at I5
  obtain ⟨g1, _⟩ := I5.pin _ (List.mem_append_right _ List.mem_cons_self)
  refine ⟨g1, ?_⟩
  obtain ⟨t5, hx5⟩ := exo_at I5.hok ha
  have kin5 := I5.kIn
  have l5 : us.length ≤ sizeLine := by rw [← Paired.length r5, sizeLine_eq]; exact (by decide : 1 ≤ 16777216)
  obtain ⟨h5, g5, d5, tk5, os5⟩ := s5
  refine call_mw (kin5 _ _ hC) hx5 g1 l5 fun h6 t6 k6 hx6 => ?_
  have I6 := (I5.pins_of (pins' := []) (fun p hp => nomatch hp)).write (t' := tk5) (x := a) (e := a) (o := exo a C none) (by rw [ha]; exact True.intro) (.inl rfl) k6 ⟨_, hx6⟩ (exo_ok hx6)
  have eu : upd H a (exo a C none) = H := by
    funext b
    by_cases hb : b = a
    · rw [hb, upd_same, ha]
    · rw [upd_ne hb]
  rw [eu] at I6
  refine wpAt_of_wpAny ?_
  have pst := pss_one (ps_ost (f := "name") (p' := q2) (pos := q4) (pe_var (X := NdefX.ncx CX0 P w K mg base [Str.ofString "self", "name", "__class__"] FN f A outer ⟨hp, g, d, t, os⟩ H E) (i := 0) (pos := q1) rfl vs) (pe_var (i := 1) (pos := q3) rfl va))
  refine wpAny_mono (pst.run [] _ _ H { nx := fun _ H' => Q .non H', rt := Q } I6 ⟨_, rfl, _, rfl, a, C, rfl, S.oex, S.no, .inl ⟨ha, fun dx n ne => k dx n ne⟩⟩) (fun fl s' hs => ?_) fun e s' hs => hs
  cases fl with
  | ret u =>
    obtain ⟨v, σ', H', J, rv, q⟩ := hs
    exact ⟨v, H', J.os, J.bare, J.base, J.hok, rv, q⟩
  | next =>
    obtain ⟨σ', H', J, q⟩ := hs
    exact ⟨V.non, H', J.os, J.bare, J.base, J.hok, rfl, q⟩
  | brk =>
    obtain ⟨_, _, _, q⟩ := hs
    exact False.elim q
  | cont =>
    obtain ⟨_, _, _, q⟩ := hs
    exact False.elim q
end
theorem sup_mk {P : Program} {K : PySem.W.Frag} {C f : Addr} {st : Stmt} {qual : Str} {oc : Value} {od : Option Addr} {osl : Array (Option Value)} {kV doc pm ct : Value} {an : Option Addr} {cda cc : Addr} {ccl : Value} {cdd : Option Addr} {vs : Array Value} {ccs : Array (Option Value)} {file : Str} {tf : Tok} {cl : Value} {cld : Option Addr} {csl : Array (Option Value)}
    (sh : ∃ r1 r2 p0 p1 p2 p3 p4 p5 q1 q2 q3 q4 : Pos, defArgs st = supArgs r1 r2 ∧ defBody st = supBody p0 p1 p2 p3 p4 p5 q1 q2 q3 q4 ∧ defScope st = supScope ∧ (p2.endLine == p4.line) = true)
    (xlf : K.lookup f = some ⟨oc, od, .func (PySem.W.ksFn "__init__" qual (defArgs st) (defBody st) (defScope st) .none kV doc pm an (.ref cda) ct cc), osl⟩) (xco : PySem.W.codeIn K (.ref cda) qual = true) (xlk : K.lookup cda = some ⟨ccl, cdd, .fields vs, ccs⟩) (xvf : vs[2]? = some (.str file tf)) (xpf : ((P.main.file : Str) == file) = true)
    (xll : K.lookup cc = some ⟨cl, cld, .cell (some (.ref C)), csl⟩) (xtp : (P.main.scope.names.lookup ("super" : Str)).isSome = false) (xgl : PySem.W.nsIn K mainGlobals "super" = some none) (ox : OexC K C) (xin : PySem.W.findIn K (.ref C) "__init__" = some (some (.ref f))) (xty : PySem.W.typeIn K (.ref f) = some (.type "function"))
    (xsu : PySem.W.ks_superIn K C C "__init__" = some (some (.builtin "ValueError.__init__"))) (xsb : PySem.W.subIn K (.ref C) (.type "ValueError") = some true) (xmr : PySem.W.mroIn K C (.ref C) = some true) (xst : PySem.W.nsIn K PySem.cStatics "thirdparty.any" = some none) (xno : PySem.W.findIn K (.ref C) "name" = some none) : SupC P K C f := by
  obtain ⟨r1, r2, p0, p1, p2, p3, p4, p5, q1, q2, q3, q4, e1, e2, e3, e4⟩ := sh
  rw [e1, e2, e3] at xlf
  exact ⟨⟨_, _, _, _, r1, r2, p0, p1, p2, p3, p4, p5, q1, q2, q3, q4, _, _, _, _, _, _, _, xlf, xco, e4, ⟨_, _, _, _, _, _, xlk, xvf, xpf⟩, _, _, _, xll⟩, xtp, xgl, ox, xin, xty, xsu, xsb, xmr, xst, xno⟩
/-! ## raise C(name) -/
section
variable {X : Cx} {C f : Addr} {x : Str} {p pos pos2 : Pos} {e : Expr} {te : TEW} {E : XK} {ex : XW → HW → Prop}
/-- what such an exception brings -/
def nameX (C : Addr) (s : List Nat) : XW := ⟨C, some [(Str.ofString "name", .str s)]⟩
def raiseNK (C : Addr) (ex : XW → HW → Prop) (w : W) (h1 : HW) : Prop := match w with | .str s => ex (nameX C s) h1 | _ => False
def sRaiseN (C : Addr) (ex : XW → HW → Prop) (te : TEW) : TSW := fun D ρ h => te ρ h fun w h1 => raiseNK C ex w h1
theorem go_raiseN {C : Addr} {ex : XW → HW → Prop} {te : TEW} {D : EndsW} {ρ : SlW} {h : HW} (k : te ρ h fun w h1 => raiseNK C ex w h1) : sRaiseN C ex te D ρ h := k
theorem go_raiseNK {C : Addr} {ex : XW → HW → Prop} {s : List Nat} {h : HW} (k : ex (nameX C s) h) : raiseNK C ex (.str s) h := k
theorem ws_raiseN (hc : X.calm = true) (tk : Takes X (fun cls d _ H => E cls d H)) (S : SupC X.prog X.K C f) (hsu : X.mg "super" = none) (hr : Room 4 X.A) (hg : Gl X x) (gC : X.mg x = some (.ref C)) (he : WE X (Lk.of X.K E ex) e te)
    (hs : starEach [e] X.env = (false, eval e X.env) :: starEach [] X.env := by rfl) (hdb : (x == ("__debug__" : Str)) = false := by decide) : WS X (Lk.of X.K E ex) (.Raise (some (.Call (.Name x p) [e] [] pos)) none pos2) (sRaiseN C ex te) := by
  obtain ⟨fd, hb, F⟩ := sup_ok (P := X.prog) (w := X.w) (base := X.base) S hsu
  refine (ps_raise hc tk (pmk_oex (ds := []) (dvs := []) (CX := CX0) S.oex S.init S.tyf F hr hb .nil pass0 hg gC (wa_cons he wa_nil hs) hdb hs rfl)).imp fun D σ H ⟨ρ, h, DW, S1, t, k⟩ => ?_
  refine ⟨ρ, h, fun ws h1 => ∃ s, ws = [.str s] ∧ ex (nameX C s) h1, S1, ?_, fun ws h1 vs H1 ⟨s, ew, t1⟩ s1 r1 q1 => ?_⟩
  · show te ρ h fun w1 h1 => _
    have t : te ρ h fun w h1 => match w with | .str s => ex (nameX C s) h1 | _ => False := t
    have e : (fun (w : W) (h1 : HW) => match w with | .str s => ex (nameX C s) h1 | _ => False) = fun w h1 => ∃ s, [w] = [.str s] ∧ ex (nameX C s) h1 := by
      funext w h1
      apply propext
      constructor
      · intro z
        split at z
        · exact ⟨_, rfl, z⟩
        · exact z.elim
      · rintro ⟨s, e, z⟩
        cases e
        exact z
    rw [e] at t
    exact t
  · subst ew
    obtain ⟨v, rfl, q⟩ := q1.one
    cases q
    refine ⟨Nat.le_of_ble_eq_true rfl, fun a na => ⟨a, s, rfl, upd_same, fun d nd dne => ⟨rfl, d, _, upd_same, by rw [upd_ne dne, upd_same], by rw [upd_ne dne] at nd; exact nd, ?_⟩⟩⟩
    rw [upd_ne dne] at nd
    have hd1 : h1 d = none := r1.fresh nd
    have same : ∀ b u, H1 b = some u → upd (del (upd (upd (upd H1 a (exo a C none)) d (exd d [(Str.ofString "name", .str (mkS s))])) a (exo a C (some d))) a) d (.xd [(Str.ofString "name", .str (mkS s))]) b = some u := fun b u z => by
      have b1 : b ≠ a := ne_of_none z na
      have b2 : b ≠ d := ne_of_none z nd
      rw [upd_ne b2, del_ne b1, upd_ne b1, upd_ne b2, upd_ne b1]; exact z
    have st : ST H1 h1 (upd (del (upd (upd (upd H1 a (exo a C none)) d (exd d [(Str.ofString "name", .str (mkS s))])) a (exo a C (some d))) a) d (.xd [(Str.ofString "name", .str (mkS s))])) h1 := fun b u z n => ⟨same b u z, n⟩
    have hr2 : HR X.K (upd (del (upd (upd (upd H1 a (exo a C none)) d (exd d [(Str.ofString "name", .str (mkS s))])) a (exo a C (some d))) a) d (.xd [(Str.ofString "name", .str (mkS s))])) h1 := fun b o z => HR.move st (r1 b o z) fun u y => same b u y
    exact S1.el (nameX C s) h1 (some d) _ t1 (s1.trans st) hr2 ⟨d, _, rfl, upd_same, hd1, .cons (.str s) .nil⟩
end
/-! ## except suites that ask what the exception brings -/
section
variable {X : Cx} {K : PySem.W.Frag}
def rIsX (K : PySem.W.Frag) (D a : Addr) (d : Option Addr) : List V → Hp → VK → Prop := fun xs H Q => (∀ dd, d = some dd → ∃ gs, H dd = some (.xd gs)) ∧ ∃ (c : V) (cv : Value) (b : Bool), xs = [.ref a, c] ∧ (∀ u, L2.RelV c u → u = cv) ∧ PySem.W.kitOne K (.ref D) cv = some b ∧ Q (.bl b) H
theorem call_isX {a D : Addr} {d : Option Addr} {oe : Obj} {pn : List (Addr × Obj)} (T : ExcC X.K D) (hz : Zc (.ref D) d oe) (hf : ∃ vs, oe.data = .fields vs) : CallR (X.suite a ((a, oe) :: pn)) (.builtin "isinstance") (rIsX X.K D a d) := by
  refine fun pins s σ H xs us Q I r ⟨hd, c, cv, b, e0, hcv, e, q⟩ => ?_
  subst e0
  cases r with
  | cons rx rr =>
  cases rr with
  | cons rt rr =>
  cases rr
  cases rx
  obtain rfl := hcv _ rt
  obtain ⟨hget, _⟩ := I.pin (a, oe) (List.mem_append.mpr (.inl List.mem_cons_self))
  obtain ⟨vs, hv⟩ := hf
  obtain ⟨od, J⟩ : ∃ od, PySem.W.InstAt s.heap a oe D od := by
    obtain ⟨oc, odc, oda, osl⟩ := oe
    obtain ⟨h1, h2⟩ := hz
    dsimp only at h1 h2 hv
    subst h1 h2 hv
    cases odc with
    | none => exact ⟨none, hget, rfl, rfl, trivial⟩
    | some dd =>
      obtain ⟨gs, hx⟩ := hd dd rfl
      obtain ⟨mA, ⟨o, es, ep, ho, _⟩, _⟩ := I.hok dd _ hx
      exact ⟨some o, hget, rfl, rfl, ho⟩
  have hcl : (PySem.W.clsIn X.K D).isSome = true := by
    have := T.hd
    unfold PySem.W.hasDictIn at this
    cases z : PySem.W.clsIn X.K D with
    | none => rw [z] at this; cases this
    | some cd => rfl
  exact PySem.W.kia_one (PySem.W.kitx_exc (od := od) hcl T.hg T.hk T.hs T.ha T.hn T.ht T.hm) I.kIn J e (fun z => nomatch z) fun tk => ⟨.bl b, H, I.kept (t' := tk) fun _ _ z => z, rfl, q⟩
theorem w_isX {x : XW} {od : Option Addr} {a : Addr} {oe : Obj} {pn : List (Addr × Obj)} {fx : Str} {p pos : Pos} {e : Expr} {es : List Expr} {t : TAW} (T : ExcC X.K x.C) (hz : Zc (.ref x.C) od oe) (hf : ∃ vs, oe.data = .fields vs)
    (hg : Gl (X.suite a ((a, oe) :: pn)) fx) (hm : (X.suite a ((a, oe) :: pn)).mg fx = none) (hv : bootBuiltins fx = some (.builtin "isinstance")) (ha : WA (X.suite a ((a, oe) :: pn)) (Lk.x X.K x od) (e :: es) t)
    (hn : fx ≠ "__name__" := by decide) (hdb : (fx == ("__debug__" : Str)) = false := by decide)
    (he : starEach (e :: es) (X.suite a ((a, oe) :: pn)).env = (false, eval e (X.suite a ((a, oe) :: pn)).env) :: starEach es (X.suite a ((a, oe) :: pn)).env := by rfl) (hpl : (backTo pos (starEach es (X.suite a ((a, oe) :: pn)).env)).any (·.1) = false := by rfl) :
    WE (X.suite a ((a, oe) :: pn)) (Lk.x X.K x od) (.Call (.Name fx p) (e :: es) [] pos) (oCB (isEW X.K x.C a) t) :=
  (pe_callB (call_isX T hz hf) hg hm hv ha hn hdb he hpl).imp fun σ H Q ⟨ρ, h, R, S, t, k⟩ => ⟨ρ, h, _, S, t, fun ws h1 vs H1 ⟨C, b, e0, e2, t1⟩ s1 r1 q1 => by
    subst e0
    obtain ⟨y1, y2, rfl, r3, r4⟩ := q1.two
    cases r3; cases r4
    have xr : XR X.K H1 h1 x od := XR.mono S.el s1
    refine ⟨fun dd ed => ?_, .ref C, .ref C, b, rfl, fun u z => z, e2, k _ h1 _ H1 t1 s1 r1 (.bl b)⟩
    unfold XR at xr
    split at xr
    · rw [xr] at ed; cases ed
    · obtain ⟨d, gs, e5, e6, _⟩ := xr
      rw [e5] at ed; cases ed
      exact ⟨gs, e6⟩⟩
/-- e.f -/
def oXf (K : PySem.W.Frag) (x : XW) (a : Addr) (f : Str) (te : TEW) : TEW := fun ρ h R => PySem.W.findIn K (.ref x.C) f = some none ∧ te ρ h fun y h1 => y = .ref a ∧ ∃ fs w, x.fs = some fs ∧ fs.lookup f = some w ∧ R w h1
theorem RFs.find {H : Hp} {h : HW} {f : Str} {w : W} : ∀ {gs : List (Str × V)} {fs : List (Str × W)}, RFs K H h gs fs → fs.lookup f = some w → ∃ v, gs.lookup f = some v ∧ RW K H h v w
  | _, _, .nil, e => by cases e
  | _, _, @RFs.cons _ _ _ g v u gs fs r t, e => by
    rw [List.lookup_cons] at e ⊢
    split at e
    · cases e; exact ⟨v, rfl, r⟩
    · exact RFs.find t e
theorem w_xf {x : XW} {od : Option Addr} {a : Addr} {oe : Obj} {pn : List (Addr × Obj)} {e : Expr} {te : TEW} {pos : Pos} {n : Str} (T : ExcC X.K x.C) (hz : Zc (.ref x.C) od oe) (hf : ∃ vs, oe.data = .fields vs)
    (he : WE (X.suite a ((a, oe) :: pn)) (Lk.x X.K x od) e te) (hb : attributeBase e n X.env (eval e X.env) = eval e X.env := by rfl) : WE (X.suite a ((a, oe) :: pn)) (Lk.x X.K x od) (.Attribute e n pos) (oXf X.K x a n te) :=
  ⟨fun pins s σ H Q I ⟨ρ, h, R, S, ⟨hno, t⟩, k⟩ => (pe_xf ⟨T.hg, T.hk, T.hs, T.hd⟩ hno hz hf he hb).run pins s σ H Q I ⟨ρ, h, _, S, t, fun w1 h1 v1 H1 ⟨e1, fs, w, e3, e4, t1⟩ s1 r1 q1 => by
    subst e1
    cases q1
    have xr : XR X.K H1 h1 x od := XR.mono S.el s1
    unfold XR at xr
    rw [e3] at xr
    obtain ⟨d, gs, e5, e6, e7, q⟩ := xr
    obtain ⟨v, e8, r⟩ := RFs.find q e4
    exact ⟨rfl, rfl, d, gs, v, e5, e6, e8, k _ h1 _ H1 t1 s1 r1 r⟩⟩⟩
theorem go_xf {x : XW} {a : Addr} {f : Str} {te : TEW} {ρ : SlW} {h : HW} {R : KW} (no : PySem.W.findIn K (.ref x.C) f = some none) (k : te ρ h fun y h1 => y = .ref a ∧ ∃ fs w, x.fs = some fs ∧ fs.lookup f = some w ∧ R w h1) : oXf K x a f te ρ h R := ⟨no, k⟩
/-- try: x = f(..) / f(..) except S as n: suite, the suite knowing what the exception brings -/
def sTryX (K : PySem.W.Frag) (S : Addr) (sp : SpW) (t : TAW) (j : Option Nat) (i : Nat) (tsu : XW → Addr → TSW) : TSW := fun D ρ h => t ρ h fun ws h1 => sp ws h1 (fun w h2 => D.nx (match j with | some j => ρ.set j (some w) | none => ρ) h2)
  fun x h2 => ExcC K x.C ∧ PySem.W.exmOne K (.ref x.C) (.ref S) = some true ∧ ∀ a, tsu x a (D.sx i) (ρ.set i (some (.ref a))) h2
variable {x n fx : Str} {S f : Addr} {i k : Nat} {b₀ : Stmt} {suite : List Stmt} {np pos pos' epos p cpos : Pos} {fd : FuncData} {ps : List Str} {sp : SpW} {e : Expr} {es : List Expr} {t : TAW} {tsu : XW → Addr → TSW}
theorem tryX_el {σ : L2.St} {H : Hp} {D : Ends} {ρ : SlW} {h : HW} {DW : EndsW} (S1 : Sta K Lk.no σ H ρ h) (kd : KD K H h DW D) {h1 : HW} {H1 : Hp} (s1 : ST H h H1 h1) :
    (Lk.of K (L2.WE (wAs K (.ref S) i (fun a cls d => fun D σ H => ∃ x : XW, cls = .ref x.C ∧ ExcC K x.C ∧ lS K (Lk.x K x d) (tsu x a) D σ H) (fun _ _ _ _ => False) D) σ)
      fun x h2 => ExcC K x.C ∧ PySem.W.exmOne K (.ref x.C) (.ref S) = some true ∧ ∀ a, tsu x a (DW.sx i) (ρ.set i (some (.ref a))) h2).el H1 h1 := by
  intro x h2 od H2 ⟨ec, e1, e2⟩ s2 r2 xr
  refine ⟨true, e1, fun _ a ha => ⟨x, rfl, ec, ρ.set i (some (.ref a)), h2, DW.sx i, ⟨(S1.sr.mono (s1.trans s2)).set (.ref a) i, r2, xr⟩, e2 a, ?_⟩, fun z => nomatch z⟩
  have st := s1.trans s2
  exact ⟨fun ρ' h' σ' H' q s r sr => kd.nx _ h' _ H' q (st.trans s) r (sr.setN i), kd.rt.mono st, fun ρ' h' σ' H' q s r sr => kd.bk _ h' _ H' q (st.trans s) r (sr.setN i), fun ρ' h' σ' H' q s r sr => kd.ct _ h' _ H' q (st.trans s) r (sr.setN i)⟩
theorem ws_tryDX (hs : X.stack = X.env :: X.outer) (hf : X.env.frame = some X.env.locals) (hN : X.N.Nodup) (hi : X.N[i]? = some n) (hln : X.env.kindOf n = some .local) (hc : Names X x (.ref S))
    (F : FnOk X.prog X.w X.K X.mg X.base (L2.CX X.prog X.w) k f fd ps (lSp X.K sp)) (hr : Room k X.A) (hg : Gl X fx) (hm : X.mg fx = some (.ref f)) (hk : PySem.W.keepIn X.K (.ref f) = true) (hb : Binds X.K fd ps [])
    (ha : ∀ pn xe, WA (X.tr pn xe) Lk.no (e :: es) t)
    (hsu : ∀ (x : XW) (od : Option Addr) (a : Addr) (oe : Obj) (pn : List (Addr × Obj)), ExcC X.K x.C → Zc (.ref x.C) od oe → (∃ vs, oe.data = .fields vs) → WSs (X.suite a ((a, oe) :: pn)) (Lk.x X.K x od) (b₀ :: suite) (tsu x a))
    (hdb : (fx == ("__debug__" : Str)) = false := by decide) (he : starEach (e :: es) X.env = (false, eval e X.env) :: starEach es X.env := by rfl) (hpl : (backTo cpos (starEach es X.env)).any (·.1) = false := by rfl)
    (hsw : swapsWith (.Call (.Name fx p) (e :: es) [] cpos) none epos.line X.env = pure false := by rfl) :
    WS X Lk.no (.Try [.Expr (.Call (.Name fx p) (e :: es) [] cpos) epos] [.ExceptHandler (some (.Name x np)) (some n) (b₀ :: suite) pos'] [] [] pos) (sTryX X.K S sp t none i tsu) :=
  (ps_try_as (tb := fun W => tDrop (tCallS (lSp X.K sp) (L2.WE W) (lA X.K Lk.no t))) (ts := fun a cls d => fun D σ H => ∃ x : XW, cls = .ref x.C ∧ ExcC X.K x.C ∧ lS X.K (Lk.x X.K x d) (tsu x a) D σ H) (Wout := fun _ _ _ _ => False) hs hf hN hi hln hc
    (fun _ _ z => by obtain ⟨_, _, _, _, _, _, _, _, _, _, _, _, _, _, _, _, z⟩ := z; exact z.elim)
    (fun W pn xe tk _ => pss_one (ps_expr (pe_callS (X := X.tr pn xe) F hr hg hm hk hb (fun σ => passAt tk σ) (ha pn xe) hdb he hpl) hsw))
    (fun a oe cls d pn hz hf => ⟨fun pins s σ H D I ⟨x, ec, ex, q⟩ => by subst ec; exact (hsu x d a oe pn ex hz hf).run pins s σ H D I q⟩)).imp fun D σ H ⟨ρ, h, DW, S1, t1, kd⟩ =>
    ⟨ρ, h, _, S1, t1, fun ws h1 vs H1 q s1 r1 rws => ⟨ws, h1, _, _, rws, r1, q, fun w h2 v H2 r st hr rw => kd.nx _ h2 _ H2 r (s1.trans st) hr (S1.sr.mono (s1.trans st)), tryX_el S1 kd s1⟩⟩
theorem ws_tryAX {j : Nat} {y : Str} {yp : Pos} (hs : X.stack = X.env :: X.outer) (hf : X.env.frame = some X.env.locals) (hN : X.N.Nodup) (hi : X.N[i]? = some n) (hln : X.env.kindOf n = some .local) (hc : Names X x (.ref S))
    (hj : X.N[j]? = some y) (hy : X.env.scope.names.lookup y = some .local)
    (F : FnOk X.prog X.w X.K X.mg X.base (L2.CX X.prog X.w) k f fd ps (lSp X.K sp)) (hr : Room k X.A) (hg : Gl X fx) (hm : X.mg fx = some (.ref f)) (hk : PySem.W.keepIn X.K (.ref f) = true) (hb : Binds X.K fd ps [])
    (ha : ∀ pn xe, WA (X.tr pn xe) Lk.no (e :: es) t)
    (hsu : ∀ (x : XW) (od : Option Addr) (a : Addr) (oe : Obj) (pn : List (Addr × Obj)), ExcC X.K x.C → Zc (.ref x.C) od oe → (∃ vs, oe.data = .fields vs) → WSs (X.suite a ((a, oe) :: pn)) (Lk.x X.K x od) (b₀ :: suite) (tsu x a))
    (hdb : (fx == ("__debug__" : Str)) = false := by decide) (he : starEach (e :: es) X.env = (false, eval e X.env) :: starEach es X.env := by rfl) (hpl : (backTo cpos (starEach es X.env)).any (·.1) = false := by rfl)
    (hsw : swapsWith (.Call (.Name fx p) (e :: es) [] cpos) (some (.Name y yp)) epos.line X.env = pure false := by rfl) :
    WS X Lk.no (.Try [.Assign [.Name y yp] (.Call (.Name fx p) (e :: es) [] cpos) epos] [.ExceptHandler (some (.Name x np)) (some n) (b₀ :: suite) pos'] [] [] pos) (sTryX X.K S sp t (some j) i tsu) :=
  (ps_try_as (tb := fun W => tAsg (tCallS (lSp X.K sp) (L2.WE W) (lA X.K Lk.no t)) (gName j)) (ts := fun a cls d => fun D σ H => ∃ x : XW, cls = .ref x.C ∧ ExcC X.K x.C ∧ lS X.K (Lk.x X.K x d) (tsu x a) D σ H) (Wout := fun _ _ _ _ => False) hs hf hN hi hln hc
    (fun _ _ z => by obtain ⟨_, _, _, _, _, _, _, _, _, _, _, _, _, _, _, _, z⟩ := z; exact z.elim)
    (fun W pn xe tk _ => pss_one (ps_set (X := X.tr pn xe) hN hj (.inl hy) (pe_callS (X := X.tr pn xe) F hr hg hm hk hb (fun σ => passAt tk σ) (ha pn xe) hdb he hpl) hsw (.inr hy)))
    (fun a oe cls d pn hz hf => ⟨fun pins s σ H D I ⟨x, ec, ex, q⟩ => by subst ec; exact (hsu x d a oe pn ex hz hf).run pins s σ H D I q⟩)).imp fun D σ H ⟨ρ, h, DW, S1, t1, kd⟩ =>
    ⟨ρ, h, _, S1, t1, fun ws h1 vs H1 q s1 r1 rws => ⟨ws, h1, _, _, rws, r1, q, fun w h2 v H2 r st hr rw => kd.nx _ h2 _ H2 r (s1.trans st) hr ((S1.sr.mono (s1.trans st)).set rw j), tryX_el S1 kd s1⟩⟩
theorem go_tryX0 {D : EndsW} {ρ : SlW} {h : HW} (k : t ρ h fun ws h1 => sp ws h1 (fun w h2 => D.nx ρ h2) fun x h2 => ExcC K x.C ∧ PySem.W.exmOne K (.ref x.C) (.ref S) = some true ∧ ∀ a, tsu x a (D.sx i) (ρ.set i (some (.ref a))) h2) : sTryX K S sp t none i tsu D ρ h := k
theorem go_tryX1 {D : EndsW} {ρ : SlW} {h : HW} {j : Nat} (k : t ρ h fun ws h1 => sp ws h1 (fun w h2 => D.nx (ρ.set j (some w)) h2) fun x h2 => ExcC K x.C ∧ PySem.W.exmOne K (.ref x.C) (.ref S) = some true ∧ ∀ a, tsu x a (D.sx i) (ρ.set i (some (.ref a))) h2) : sTryX K S sp t (some j) i tsu D ρ h := k
end
end Wl

set_option Elab.async false
set_option linter.all false
set_option maxRecDepth 100000
namespace Wl
open PySem PySem.Spec PyProof.Rows L2
/-! ## xs[i] = v -/
section
variable {X : Cx} {L : Lk} {o i : Expr} {to ti : TEW} {pos : Pos}
def lixK (w : W) (o i : W) (h : HW) (P : HW → Prop) : Prop := match o, i with
  | .ref p, .int k => (match h p with
    | some (.lst ws) => (match ixN ws.length k with | some j => P (updW h p (.lst (ws.set j w))) | none => False)
    | _ => False)
  | _, _ => False
def gLix (to ti : TEW) : TGW := fun w ρ h P => to ρ h fun o h1 => ti ρ h1 fun i h2 => lixK w o i h2 (P ρ)
theorem wg_lix (ho : WE X L o to) (hi : WE X L i ti) (ha : ∀ v, assign (.Subscript o i pos) X.env v = (do
      let ov ← holding [v] (eval o X.env)
      let iv ← holding [v, ov] (eval i X.env)
      standAt pos
      holding [v, ov, iv] (setItem ov iv v)
      release [v, ov, iv] []) := by intro _; rfl) : WG X L (.Subscript o i pos) (gLix to ti) := (pg_sub ho hi set_list ha).imp fun v σ H Q ⟨w, ρ, h, P, r, S, t, k⟩ =>
  ⟨ρ, h, _, S, t, fun w1 h1 v1 H1 t1 s1 r1 q1 => ⟨ρ, h1, _, S.to s1 r1, t1, fun w2 h2 v2 H2 t2 s2 r2 q2 => by
    unfold lixK at t2
    split at t2
    · rename_i p kk
      split at t2
      · rename_i ws hp
        split at t2
        · rename_i jj ej
          cases q1; cases q2
          obtain ⟨vs, hv, q⟩ := r2 _ _ hp
          have st : ST H2 h2 (upd H2 p (.lst (vs.set jj v))) (updW h2 p (.lst (ws.set jj w))) := .mut hp _ _
          have tot := (s1.trans s2).trans st
          refine ⟨_, vs, _, _, rfl, rfl, hv, by rw [q.length]; exact ej, k _ _ _ _ t2 tot (r2.mut hp ⟨_, upd_same, ?_⟩) (S.sr.mono tot)⟩
          exact RWs.set (r.mono tot) _ (q.mono st)
        · exact t2.elim
      · exact t2.elim
    · exact t2.elim⟩⟩
theorem go_lix {w : W} {ρ : SlW} {h : HW} {P : SlW → HW → Prop} (k : to ρ h fun o h1 => ti ρ h1 fun i h2 => lixK w o i h2 (P ρ)) : gLix to ti w ρ h P := k
theorem go_lixK {w : W} {p : Addr} {k : Int} {h : HW} {P : HW → Prop} {ws : List W} {j : Nat} (e : h p = some (.lst ws)) (ej : ixN ws.length k = some j) (q : P (updW h p (.lst (ws.set j w)))) : lixK w (.ref p) (.int k) h P := by
  unfold lixK; dsimp only; rw [e]; dsimp only; rw [ej]; exact q
end
/-! ## text.index(part), the part being there -/
section
variable {K : PySem.W.Frag} {h : HW} {R : KW} {a b : List Nat}
theorem subAt_mk (a b : List Nat) (i : Nat) : Builtin.Str.subAt (mkS a) (mkS b) i = true ↔ b <+: a.drop i := by
  unfold Builtin.Str.subAt
  rw [beq_iff_eq, mkS_length]
  have e : (mkS a).cps.extract i (i + b.length) = ((a.drop i).take b.length).toArray := by
    apply Array.toList_inj.mp
    simp [mkS]
  rw [e]
  constructor
  · intro z
    have z : (a.drop i).take b.length = b := by
      have := congrArg Array.toList z
      simpa [mkS] using this
    have y := List.take_append_drop b.length (a.drop i)
    rw [z] at y
    exact ⟨_, y⟩
  · rintro ⟨u, hu⟩
    rw [← hu, List.take_left]; rfl
def indexW : W → List W → HW → KW → Prop := fun x ws h R => match x, ws with
  | .str a, [.str b] => ∃ pre post, a = pre ++ (b ++ post) ∧ (∀ k, k < pre.length → ¬ b <+: a.drop k) ∧ R (.int (pre.length : Nat)) h
  | _, _ => False
theorem lf_index : LfM K (fun x xs H Q => ∃ a b i rest, x = .str a ∧ xs = [.str b] ∧ Builtin.Str.occurrences a b 0 a.length 1 = i :: rest ∧ Q (.int (i : Nat)) H) indexW := fun x xs H Q w ws h R r rs hr t k => by
  unfold indexW at t
  split at t
  · rename_i a b
    obtain ⟨pre, post, e, no, t⟩ := t
    cases r
    obtain ⟨y, rfl, ry⟩ := rs.one
    cases ry
    have at0 : PySem.StrLaws.At (mkS a) (mkS b) (mkS a).length pre.length := by
      refine ⟨by rw [mkS_length, mkS_length, e]; simp, (subAt_mk _ _ _).mpr ?_⟩
      rw [e, List.drop_left]
      exact ⟨post, rfl⟩
    rcases PySem.StrLaws.occ_head (mkS a) (mkS b) 1 (Nat.le_refl _) with ⟨_, n⟩ | ⟨i, rest, e1, e2, e3⟩
    · exact absurd at0 (n _)
    · have ei : i = pre.length := by
        rcases Nat.lt_trichotomy i pre.length with z | z | z
        · exact absurd ((subAt_mk _ _ _).mp e2.2) (no i z)
        · exact z
        · exact absurd at0 (e3 _ z)
      subst ei
      exact ⟨_, _, _, rest, rfl, rfl, e1, k.go hr t (.int _)⟩
  · exact t.elim
theorem go_index (pre post : List Nat) (e : a = pre ++ (b ++ post)) (no : ∀ k, k < pre.length → ¬ b <+: a.drop k) (k : R (.int (pre.length : Nat)) h) : indexW (.str a) [.str b] h R := ⟨pre, post, e, no, k⟩
/-- of a sign that does not occur ahead -/
theorem go_index1 {c : Nat} (pre post : List Nat) (e : a = pre ++ c :: post) (no : c ∉ pre) (k : R (.int (pre.length : Nat)) h) : indexW (.str a) [.str [c]] h R := by
  refine ⟨pre, post, e, fun i hi z => ?_, k⟩
  obtain ⟨u, hu⟩ := z
  have e0 : pre.drop i = pre[i] :: pre.drop (i + 1) := List.drop_eq_getElem_cons hi
  rw [e, List.drop_append_of_le_length (by omega), e0] at hu
  have : c = pre[i] := (List.cons.inj hu).1
  exact no (by rw [this]; exact List.getElem_mem hi)
theorem go_eqR {p : Addr} {x : W} {ys : List W} (hp : h p = some (.lst ys)) (e1 : dataW x = true) (e2 : dataW (.lst ys) = true) (c : depW x ≤ 64) (d : depW (.lst ys) ≤ 64) (k : R (.bl (eqD x (.lst ys))) h) : eqW x (.ref p) h R := by
  have ey : rsv (.ref p) h = .lst ys := by unfold rsv; dsimp only; rw [hp]
  unfold eqW
  split
  · rename_i u v; cases v
  · rename_i u v; cases v
  · rw [ey, rsv_of e1]; exact ⟨e1, e2, c, d, k⟩
end
end Wl

set_option Elab.async false
set_option linter.all false
set_option maxRecDepth 100000
set_option maxHeartbeats 4000000
namespace Lw
open PySem PySem.Spec PyProof.Rows L2 Wl
abbrev digitsS : List Nat := [48, 49, 50, 51, 52, 53, 54, 55, 56, 57]
abbrev lettersS : List Nat := [97, 98, 99, 100, 101, 102, 103, 104, 105, 106, 107, 108, 109, 110, 111, 112, 113, 114, 115, 116, 117, 118, 119, 120, 121, 122]
abbrev signsS : List Nat := [92, 58, 46, 61, 43, 45, 42, 33, 40, 41, 59, 44]
abbrev upperS : List Nat := [65, 66, 67, 68, 69, 70, 71, 72, 73, 74, 75, 76, 77, 78, 79, 80, 81, 82, 83, 84, 85, 86, 87, 88, 89, 90]
abbrev wDef : List Nat := [100, 101, 102]
abbrev wIn : List Nat := [105, 110]
abbrev wInt : List Nat := [73, 110, 116]
abbrev wLet : List Nat := [108, 101, 116]
abbrev z_ : List Nat := []
abbrev z_0 : List Nat := [48]
abbrev z_abcde : List Nat := [97, 98, 99, 100, 101]
abbrev z_app : List Nat := [97, 112, 112]
abbrev z_bang : List Nat := [98, 97, 110, 103]
abbrev z_bothx20partsx20ofx20ax20pairx20wouldx20bex20calledx20 : List Nat := [98, 111, 116, 104, 32, 112, 97, 114, 116, 115, 32, 111, 102, 32, 97, 32, 112, 97, 105, 114, 32, 119, 111, 117, 108, 100, 32, 98, 101, 32, 99, 97, 108, 108, 101, 100, 32]
abbrev z_box : List Nat := [98, 111, 120]
abbrev z_defx20 : List Nat := [100, 101, 102, 32]
abbrev z_fun : List Nat := [102, 117, 110]
abbrev z_int : List Nat := [105, 110, 116]
abbrev z_lam : List Nat := [108, 97, 109]
abbrev z_letx20 : List Nat := [108, 101, 116, 32]
abbrev z_letx20x28 : List Nat := [108, 101, 116, 32, 40]
abbrev z_morex20thanx20 : List Nat := [109, 111, 114, 101, 32, 116, 104, 97, 110, 32]
abbrev z_name2 : List Nat := [110, 97, 109, 101, 50]
abbrev z_num : List Nat := [110, 117, 109]
abbrev z_op : List Nat := [111, 112]
abbrev z_pair : List Nat := [112, 97, 105, 114]
abbrev z_split : List Nat := [115, 112, 108, 105, 116]
abbrev z_therex20isx20nox20tokenx20behindx20 : List Nat := [116, 104, 101, 114, 101, 32, 105, 115, 32, 110, 111, 32, 116, 111, 107, 101, 110, 32, 98, 101, 104, 105, 110, 100, 32]
abbrev z_tokenx20 : List Nat := [116, 111, 107, 101, 110, 32]
abbrev z_var : List Nat := [118, 97, 114]
abbrev z_vwxyz : List Nat := [118, 119, 120, 121, 122]
abbrev z_x : List Nat := [120]
abbrev z_x20 : List Nat := [32]
abbrev z_x20andx20shouldx20bex20 : List Nat := [32, 97, 110, 100, 32, 115, 104, 111, 117, 108, 100, 32, 98, 101, 32]
abbrev z_x20andx20shouldx20bex20ax20name : List Nat := [32, 97, 110, 100, 32, 115, 104, 111, 117, 108, 100, 32, 98, 101, 32, 97, 32, 110, 97, 109, 101]
abbrev z_x20inx20 : List Nat := [32, 105, 110, 32]
abbrev z_x20isx20 : List Nat := [32, 105, 115, 32]
abbrev z_x20parenthesesx20andx20letx20arex20begunx20andx20notx20ended : List Nat := [32, 112, 97, 114, 101, 110, 116, 104, 101, 115, 101, 115, 32, 97, 110, 100, 32, 108, 101, 116, 32, 97, 114, 101, 32, 98, 101, 103, 117, 110, 32, 97, 110, 100, 32, 110, 111, 116, 32, 101, 110, 100, 101, 100]
abbrev z_x20tokens : List Nat := [32, 116, 111, 107, 101, 110, 115]
abbrev z_x20x0a : List Nat := [32, 10]
abbrev z_x20x2dx3ex20 : List Nat := [32, 45, 62, 32]
abbrev z_x20x3ax20 : List Nat := [32, 58, 32]
abbrev z_x20x3dx20 : List Nat := [32, 61, 32]
abbrev z_x21 : List Nat := [33]
abbrev z_x28 : List Nat := [40]
abbrev z_x29 : List Nat := [41]
abbrev z_x29x20x3dx20 : List Nat := [41, 32, 61, 32]
abbrev z_x2a : List Nat := [42]
abbrev z_x2b : List Nat := [43]
abbrev z_x2bx2dx2a : List Nat := [43, 45, 42]
abbrev z_x2c : List Nat := [44]
abbrev z_x2cx20 : List Nat := [44, 32]
abbrev z_x2d : List Nat := [45]
abbrev z_x2dx3e : List Nat := [45, 62]
abbrev z_x2e : List Nat := [46]
abbrev z_x2ex20 : List Nat := [46, 32]
abbrev z_x3a : List Nat := [58]
abbrev z_x3b : List Nat := [59]
abbrev z_x3bx0a : List Nat := [59, 10]
abbrev z_x3d : List Nat := [61]
abbrev z_x5c : List Nat := [92]
abbrev tb__LINE_OF_SIGN : List (List Nat × W) := [(z_x2b, .int 1), (z_x2d, .int 1), (z_x2a, .int 2)]
abbrev no__LINE_OF_SIGN : List (List Nat) := []
abbrev tb__LINE_OF_FORM : List (List Nat × W) := [(z_lam, .int 0), (wLet, .int 0), (z_split, .int 0), (z_app, .int 3), (z_box, .int 4), (z_var, .int 5), (z_num, .int 5), (z_pair, .int 5)]
abbrev no__LINE_OF_FORM : List (List Nat) := []
def topS (i : Nat) : Stmt := PySem.Challenge.pw_sharenet_k08_program_texts.main.body.getD i (.Pass ⟨0, 0, 0, 0⟩)
abbrev s_DuplicateName___init__ : Stmt := inClass (topS 5) 0
theorem shape_DuplicateName : ∃ r1 r2 p0 p1 p2 p3 p4 p5 q1 q2 q3 q4 : Pos, defArgs s_DuplicateName___init__ = supArgs r1 r2 ∧ defBody s_DuplicateName___init__ = supBody p0 p1 p2 p3 p4 p5 q1 q2 q3 q4 ∧ defScope s_DuplicateName___init__ = supScope ∧ (p2.endLine == p4.line) = true := ⟨_, _, _, _, _, _, _, _, _, _, _, _, rfl, rfl, rfl, rfl⟩
abbrev s_is_name : Stmt := topS 11
abbrev N_is_name : List Str := ["text", "sign"]
theorem sc_is_name : FnScope N_is_name ["text"] (defScope s_is_name) := ⟨rfl, rfl, rfl, by decide +kernel, rfl, by decide +kernel, by decide +kernel⟩
abbrev s_divided_tokens : Stmt := topS 17
abbrev N_divided_tokens : List Str := ["text", "tokens", "at", "token"]
theorem sc_divided_tokens : FnScope N_divided_tokens ["text"] (defScope s_divided_tokens) := ⟨rfl, rfl, rfl, by decide +kernel, rfl, by decide +kernel, by decide +kernel⟩
abbrev s_is_number : Stmt := topS 18
abbrev N_is_number : List Str := ["token", "sign"]
theorem sc_is_number : FnScope N_is_number ["token"] (defScope s_is_number) := ⟨rfl, rfl, rfl, by decide +kernel, rfl, by decide +kernel, by decide +kernel⟩
abbrev s__token_at : Stmt := topS 19
abbrev N__token_at : List Str := ["text", "at", "word"]
theorem sc__token_at : FnScope N__token_at ["text", "at"] (defScope s__token_at) := ⟨rfl, rfl, rfl, by decide +kernel, rfl, by decide +kernel, by decide +kernel⟩
abbrev s__word_at : Stmt := topS 20
abbrev N__word_at : List Str := ["text", "at", "end"]
theorem sc__word_at : FnScope N__word_at ["text", "at"] (defScope s__word_at) := ⟨rfl, rfl, rfl, by decide +kernel, rfl, by decide +kernel, by decide +kernel⟩
abbrev s__is_letter_or_digit : Stmt := topS 21
abbrev N__is_letter_or_digit : List Str := ["sign"]
theorem sc__is_letter_or_digit : FnScope N__is_letter_or_digit ["sign"] (defScope s__is_letter_or_digit) := ⟨rfl, rfl, rfl, by decide +kernel, rfl, by decide +kernel, by decide +kernel⟩
abbrev s__is_word : Stmt := topS 22
abbrev N__is_word : List Str := ["word"]
theorem sc__is_word : FnScope N__is_word ["word"] (defScope s__is_word) := ⟨rfl, rfl, rfl, by decide +kernel, rfl, by decide +kernel, by decide +kernel⟩
abbrev s_Cursor___init__ : Stmt := inClass (topS 25) 0
abbrev N_Cursor___init__ : List Str := ["self", "text", "tokens", "divided"]
theorem sc_Cursor___init__ : FnScope N_Cursor___init__ ["self", "text"] (defScope s_Cursor___init__) := ⟨rfl, rfl, rfl, by decide +kernel, rfl, by decide +kernel, by decide +kernel⟩
abbrev s_Cursor_ahead : Stmt := inClass (topS 25) 1
abbrev N_Cursor_ahead : List Str := ["self"]
theorem sc_Cursor_ahead : FnScope N_Cursor_ahead ["self"] (defScope s_Cursor_ahead) := ⟨rfl, rfl, rfl, by decide +kernel, rfl, by decide +kernel, by decide +kernel⟩
abbrev s_Cursor_taken : Stmt := inClass (topS 25) 2
abbrev N_Cursor_taken : List Str := ["self", "token"]
theorem sc_Cursor_taken : FnScope N_Cursor_taken ["self"] (defScope s_Cursor_taken) := ⟨rfl, rfl, rfl, by decide +kernel, rfl, by decide +kernel, by decide +kernel⟩
abbrev s_Cursor_need : Stmt := inClass (topS 25) 3
abbrev N_Cursor_need : List Str := ["self", "token", "found"]
theorem sc_Cursor_need : FnScope N_Cursor_need ["self", "token"] (defScope s_Cursor_need) := ⟨rfl, rfl, rfl, by decide +kernel, rfl, by decide +kernel, by decide +kernel⟩
abbrev s_Cursor_needed_name : Stmt := inClass (topS 25) 4
abbrev N_Cursor_needed_name : List Str := ["self", "found"]
theorem sc_Cursor_needed_name : FnScope N_Cursor_needed_name ["self"] (defScope s_Cursor_needed_name) := ⟨rfl, rfl, rfl, by decide +kernel, rfl, by decide +kernel, by decide +kernel⟩
abbrev s__refuse_deep : Stmt := topS 26
abbrev N__refuse_deep : List Str := ["tokens", "balance", "token"]
theorem sc__refuse_deep : FnScope N__refuse_deep ["tokens"] (defScope s__refuse_deep) := ⟨rfl, rfl, rfl, by decide +kernel, rfl, by decide +kernel, by decide +kernel⟩
abbrev s_written : Stmt := topS 30
abbrev N_written : List Str := ["item", "pieces_of", "texts", "waiting", "piece"]
theorem sc_written : FnScope N_written ["item", "pieces_of"] (defScope s_written) := ⟨rfl, rfl, rfl, by decide +kernel, rfl, by decide +kernel, by decide +kernel⟩
abbrev s_decimal : Stmt := topS 31
abbrev N_decimal : List Str := ["number", "rest", "chunks", "chunk"]
theorem sc_decimal : FnScope N_decimal ["number"] (defScope s_decimal) := ⟨rfl, rfl, rfl, by decide +kernel, rfl, by decide +kernel, by decide +kernel⟩
abbrev s_fun_kind : Stmt := topS 34
abbrev N_fun_kind : List Str := ["a", "b"]
theorem sc_fun_kind : FnScope N_fun_kind ["a", "b"] (defScope s_fun_kind) := ⟨rfl, rfl, rfl, by decide +kernel, rfl, by decide +kernel, by decide +kernel⟩
abbrev s_bang_kind : Stmt := topS 35
abbrev N_bang_kind : List Str := ["a"]
theorem sc_bang_kind : FnScope N_bang_kind ["a"] (defScope s_bang_kind) := ⟨rfl, rfl, rfl, by decide +kernel, rfl, by decide +kernel, by decide +kernel⟩
abbrev s_pair_kind : Stmt := topS 36
abbrev N_pair_kind : List Str := ["a", "b"]
theorem sc_pair_kind : FnScope N_pair_kind ["a", "b"] (defScope s_pair_kind) := ⟨rfl, rfl, rfl, by decide +kernel, rfl, by decide +kernel, by decide +kernel⟩
abbrev s_kind_text : Stmt := topS 37
abbrev N_kind_text : List Str := ["kind"]
theorem sc_kind_text : FnScope N_kind_text ["kind"] (defScope s_kind_text) := ⟨rfl, rfl, rfl, by decide +kernel, rfl, by decide +kernel, by decide +kernel⟩
abbrev s__pieces_kinds : Stmt := topS 38
abbrev N__pieces_kinds : List Str := ["item", "arrow", "kind", "tight"]
theorem sc__pieces_kinds : FnScope N__pieces_kinds ["item"] (defScope s__pieces_kinds) := ⟨rfl, rfl, rfl, by decide +kernel, rfl, by decide +kernel, by decide +kernel⟩
abbrev s_read_program : Stmt := topS 41
abbrev N_read_program : List Str := ["text", "cursor", "program"]
theorem sc_read_program : FnScope N_read_program ["text"] (defScope s_read_program) := ⟨rfl, rfl, rfl, by decide +kernel, rfl, by decide +kernel, by decide +kernel⟩
abbrev s__definition_at : Stmt := topS 42
abbrev N__definition_at : List Str := ["cursor", "name", "kind", "term"]
theorem sc__definition_at : FnScope N__definition_at ["cursor"] (defScope s__definition_at) := ⟨rfl, rfl, rfl, by decide +kernel, rfl, by decide +kernel, by decide +kernel⟩
abbrev s__refuse_duplicates : Stmt := topS 43
abbrev N__refuse_duplicates : List Str := ["program", "earlier", "name", "_"]
theorem sc__refuse_duplicates : FnScope N__refuse_duplicates ["program"] (defScope s__refuse_duplicates) := ⟨rfl, rfl, rfl, by decide +kernel, rfl, by decide +kernel, by decide +kernel⟩
abbrev s__kind_at : Stmt := topS 44
abbrev N__kind_at : List Str := ["cursor", "kinds", "kind"]
theorem sc__kind_at : FnScope N__kind_at ["cursor"] (defScope s__kind_at) := ⟨rfl, rfl, rfl, by decide +kernel, rfl, by decide +kernel, by decide +kernel⟩
abbrev s__tight_kind_at : Stmt := topS 45
abbrev N__tight_kind_at : List Str := ["cursor", "boxes", "kind", "_"]
theorem sc__tight_kind_at : FnScope N__tight_kind_at ["cursor"] (defScope s__tight_kind_at) := ⟨rfl, rfl, rfl, by decide +kernel, rfl, by decide +kernel, by decide +kernel⟩
abbrev s__innermost_kind_at : Stmt := topS 46
abbrev N__innermost_kind_at : List Str := ["cursor", "kind"]
theorem sc__innermost_kind_at : FnScope N__innermost_kind_at ["cursor"] (defScope s__innermost_kind_at) := ⟨rfl, rfl, rfl, by decide +kernel, rfl, by decide +kernel, by decide +kernel⟩
abbrev s__exclamations_at : Stmt := topS 47
abbrev N__exclamations_at : List Str := ["cursor", "many"]
theorem sc__exclamations_at : FnScope N__exclamations_at ["cursor"] (defScope s__exclamations_at) := ⟨rfl, rfl, rfl, by decide +kernel, rfl, by decide +kernel, by decide +kernel⟩
abbrev s__term_at : Stmt := topS 48
abbrev N__term_at : List Str := ["cursor", "heads", "term", "head"]
theorem sc__term_at : FnScope N__term_at ["cursor"] (defScope s__term_at) := ⟨rfl, rfl, rfl, by decide +kernel, rfl, by decide +kernel, by decide +kernel⟩
abbrev s__head_at : Stmt := topS 49
abbrev N__head_at : List Str := ["cursor", "names", "part", "form", "name", "kind"]
theorem sc__head_at : FnScope N__head_at ["cursor"] (defScope s__head_at) := ⟨rfl, rfl, rfl, by decide +kernel, rfl, by decide +kernel, by decide +kernel⟩
abbrev s__let_names_at : Stmt := topS 50
abbrev N__let_names_at : List Str := ["cursor", "first", "second"]
theorem sc__let_names_at : FnScope N__let_names_at ["cursor"] (defScope s__let_names_at) := ⟨rfl, rfl, rfl, by decide +kernel, rfl, by decide +kernel, by decide +kernel⟩
abbrev s__sum_at : Stmt := topS 51
abbrev N__sum_at : List Str := ["cursor", "term", "sign"]
theorem sc__sum_at : FnScope N__sum_at ["cursor"] (defScope s__sum_at) := ⟨rfl, rfl, rfl, by decide +kernel, rfl, by decide +kernel, by decide +kernel⟩
abbrev s__product_at : Stmt := topS 52
abbrev N__product_at : List Str := ["cursor", "term", "sign"]
theorem sc__product_at : FnScope N__product_at ["cursor"] (defScope s__product_at) := ⟨rfl, rfl, rfl, by decide +kernel, rfl, by decide +kernel, by decide +kernel⟩
abbrev s__application_at : Stmt := topS 53
abbrev N__application_at : List Str := ["cursor", "term"]
theorem sc__application_at : FnScope N__application_at ["cursor"] (defScope s__application_at) := ⟨rfl, rfl, rfl, by decide +kernel, rfl, by decide +kernel, by decide +kernel⟩
abbrev s__begins_box : Stmt := topS 54
abbrev N__begins_box : List Str := ["token"]
theorem sc__begins_box : FnScope N__begins_box ["token"] (defScope s__begins_box) := ⟨rfl, rfl, rfl, by decide +kernel, rfl, by decide +kernel, by decide +kernel⟩
abbrev s__box_at : Stmt := topS 55
abbrev N__box_at : List Str := ["cursor", "boxes", "term", "_"]
theorem sc__box_at : FnScope N__box_at ["cursor"] (defScope s__box_at) := ⟨rfl, rfl, rfl, by decide +kernel, rfl, by decide +kernel, by decide +kernel⟩
abbrev s__innermost_term_at : Stmt := topS 56
abbrev N__innermost_term_at : List Str := ["cursor", "term"]
theorem sc__innermost_term_at : FnScope N__innermost_term_at ["cursor"] (defScope s__innermost_term_at) := ⟨rfl, rfl, rfl, by decide +kernel, rfl, by decide +kernel, by decide +kernel⟩
abbrev s_write_term : Stmt := topS 60
abbrev N_write_term : List Str := ["term"]
theorem sc_write_term : FnScope N_write_term ["term"] (defScope s_write_term) := ⟨rfl, rfl, rfl, by decide +kernel, rfl, by decide +kernel, by decide +kernel⟩
abbrev s_write_program : Stmt := topS 61
abbrev N_write_program : List Str := ["program", "name", "kind", "term"]
theorem sc_write_program : FnScope N_write_program ["program"] (defScope s_write_program) := ⟨rfl, rfl, rfl, by decide +kernel, rfl, by decide +kernel, by decide +kernel⟩
abbrev s__definition_line : Stmt := topS 62
abbrev N__definition_line : List Str := ["name", "kind", "term"]
theorem sc__definition_line : FnScope N__definition_line ["name", "kind", "term"] (defScope s__definition_line) := ⟨rfl, rfl, rfl, by decide +kernel, rfl, by decide +kernel, by decide +kernel⟩
abbrev s__line_of : Stmt := topS 63
abbrev N__line_of : List Str := ["term"]
theorem sc__line_of : FnScope N__line_of ["term"] (defScope s__line_of) := ⟨rfl, rfl, rfl, by decide +kernel, rfl, by decide +kernel, by decide +kernel⟩
abbrev s__pieces_writer : Stmt := topS 64
abbrev N__pieces_writer : List Str := ["item", "pieces", "term", "loosest"]
theorem sc__pieces_writer : FnScope N__pieces_writer ["item"] (defScope s__pieces_writer) := ⟨rfl, rfl, rfl, by decide +kernel, rfl, by decide +kernel, by decide +kernel⟩
abbrev s__binder_pieces : Stmt := topS 66
abbrev N__binder_pieces : List Str := ["term"]
theorem sc__binder_pieces : FnScope N__binder_pieces ["term"] (defScope s__binder_pieces) := ⟨rfl, rfl, rfl, by decide +kernel, rfl, by decide +kernel, by decide +kernel⟩
abbrev s__plain_pieces : Stmt := topS 67
abbrev N__plain_pieces : List Str := ["term", "form", "line"]
theorem sc__plain_pieces : FnScope N__plain_pieces ["term"] (defScope s__plain_pieces) := ⟨rfl, rfl, rfl, by decide +kernel, rfl, by decide +kernel, by decide +kernel⟩
abbrev s__law_cell : Stmt := topS 70
abbrev N__law_cell : List Str := ["script", "k"]
theorem sc__law_cell : FnScope N__law_cell ["script", "k"] (defScope s__law_cell) := ⟨rfl, rfl, rfl, by decide +kernel, rfl, by decide +kernel, by decide +kernel⟩
abbrev s__law_numbers : Stmt := topS 71
abbrev N__law_numbers : List Str := ["script", "first", "most", "found", "at", "cell", "k", "mixed"]
theorem sc__law_numbers : FnScope N__law_numbers ["script", "first", "most"] (defScope s__law_numbers) := ⟨rfl, rfl, rfl, by decide +kernel, rfl, by decide +kernel, by decide +kernel⟩
abbrev s__law_name : Stmt := topS 72
abbrev N__law_name : List Str := ["number", "letters", "more", "name", "k"]
theorem sc__law_name : FnScope N__law_name ["number"] (defScope s__law_name) := ⟨rfl, rfl, rfl, by decide +kernel, rfl, by decide +kernel, by decide +kernel⟩
abbrev s__law_any_kind : Stmt := topS 73
abbrev N__law_any_kind : List Str := ["number", "deep", "pick", "first", "second"]
theorem sc__law_any_kind : FnScope N__law_any_kind ["number", "deep"] (defScope s__law_any_kind) := ⟨rfl, rfl, rfl, by decide +kernel, rfl, by decide +kernel, by decide +kernel⟩
abbrev s__law_pop : Stmt := topS 74
abbrev N__law_pop : List Str := ["stack", "other"]
theorem sc__law_pop : FnScope N__law_pop ["stack", "other"] (defScope s__law_pop) := ⟨rfl, rfl, rfl, by decide +kernel, rfl, by decide +kernel, by decide +kernel⟩
abbrev s__law_any_term : Stmt := topS 75
abbrev N__law_any_term : List Str := ["numbers", "names", "stack", "number", "pick", "rest", "name", "second", "leaf", "right", "left"]
theorem sc__law_any_term : FnScope N__law_any_term ["numbers", "names"] (defScope s__law_any_term) := ⟨rfl, rfl, rfl, by decide +kernel, rfl, by decide +kernel, by decide +kernel⟩
abbrev s_law : Stmt := topS 77
abbrev N_law : List Str := ["script", "numbers", "digit", "program", "k", "way", "first", "second", "text", "names", "double", "e", "name", "term", "mark", "spot", "found", "definition"]
theorem sc_law : FnScope N_law ["script"] (defScope s_law) := ⟨rfl, rfl, rfl, by decide +kernel, rfl, by decide +kernel, by decide +kernel⟩
structure Tx (P : Program) (w : World) (K : PySem.W.Frag) (mg : Str → Option Value) where
  aC_Cursor : Addr
  a_is_name : Addr
  fd_is_name : FuncData
  F_is_name : Fun K "is_name" "is_name" s_is_name a_is_name fd_is_name
  b_is_name : L2.Binds K fd_is_name ["text"] []
  g_is_name : mg "is_name" = some (.ref a_is_name)
  a_divided_tokens : Addr
  fd_divided_tokens : FuncData
  F_divided_tokens : Fun K "divided_tokens" "divided_tokens" s_divided_tokens a_divided_tokens fd_divided_tokens
  b_divided_tokens : L2.Binds K fd_divided_tokens ["text"] []
  g_divided_tokens : mg "divided_tokens" = some (.ref a_divided_tokens)
  a_is_number : Addr
  fd_is_number : FuncData
  F_is_number : Fun K "is_number" "is_number" s_is_number a_is_number fd_is_number
  b_is_number : L2.Binds K fd_is_number ["token"] []
  g_is_number : mg "is_number" = some (.ref a_is_number)
  a__token_at : Addr
  fd__token_at : FuncData
  F__token_at : Fun K "_token_at" "_token_at" s__token_at a__token_at fd__token_at
  b__token_at : L2.Binds K fd__token_at ["text", "at"] []
  g__token_at : mg "_token_at" = some (.ref a__token_at)
  a__word_at : Addr
  fd__word_at : FuncData
  F__word_at : Fun K "_word_at" "_word_at" s__word_at a__word_at fd__word_at
  b__word_at : L2.Binds K fd__word_at ["text", "at"] []
  g__word_at : mg "_word_at" = some (.ref a__word_at)
  a__is_letter_or_digit : Addr
  fd__is_letter_or_digit : FuncData
  F__is_letter_or_digit : Fun K "_is_letter_or_digit" "_is_letter_or_digit" s__is_letter_or_digit a__is_letter_or_digit fd__is_letter_or_digit
  b__is_letter_or_digit : L2.Binds K fd__is_letter_or_digit ["sign"] []
  g__is_letter_or_digit : mg "_is_letter_or_digit" = some (.ref a__is_letter_or_digit)
  a__is_word : Addr
  fd__is_word : FuncData
  F__is_word : Fun K "_is_word" "_is_word" s__is_word a__is_word fd__is_word
  b__is_word : L2.Binds K fd__is_word ["word"] []
  g__is_word : mg "_is_word" = some (.ref a__is_word)
  a_Cursor___init__ : Addr
  fd_Cursor___init__ : FuncData
  F_Cursor___init__ : Fun K "__init__" "Cursor.__init__" s_Cursor___init__ a_Cursor___init__ fd_Cursor___init__
  b_Cursor___init__ : L2.Binds K fd_Cursor___init__ ["self", "text"] []
  a_Cursor_ahead : Addr
  fd_Cursor_ahead : FuncData
  F_Cursor_ahead : Fun K "ahead" "Cursor.ahead" s_Cursor_ahead a_Cursor_ahead fd_Cursor_ahead
  b_Cursor_ahead : L2.Binds K fd_Cursor_ahead ["self"] []
  a_Cursor_taken : Addr
  fd_Cursor_taken : FuncData
  F_Cursor_taken : Fun K "taken" "Cursor.taken" s_Cursor_taken a_Cursor_taken fd_Cursor_taken
  b_Cursor_taken : L2.Binds K fd_Cursor_taken ["self"] []
  a_Cursor_need : Addr
  fd_Cursor_need : FuncData
  F_Cursor_need : Fun K "need" "Cursor.need" s_Cursor_need a_Cursor_need fd_Cursor_need
  b_Cursor_need : L2.Binds K fd_Cursor_need ["self", "token"] []
  a_Cursor_needed_name : Addr
  fd_Cursor_needed_name : FuncData
  F_Cursor_needed_name : Fun K "needed_name" "Cursor.needed_name" s_Cursor_needed_name a_Cursor_needed_name fd_Cursor_needed_name
  b_Cursor_needed_name : L2.Binds K fd_Cursor_needed_name ["self"] []
  a__refuse_deep : Addr
  fd__refuse_deep : FuncData
  F__refuse_deep : Fun K "_refuse_deep" "_refuse_deep" s__refuse_deep a__refuse_deep fd__refuse_deep
  b__refuse_deep : L2.Binds K fd__refuse_deep ["tokens"] []
  g__refuse_deep : mg "_refuse_deep" = some (.ref a__refuse_deep)
  a_written : Addr
  fd_written : FuncData
  F_written : Fun K "written" "written" s_written a_written fd_written
  b_written : L2.Binds K fd_written ["item", "pieces_of"] []
  g_written : mg "written" = some (.ref a_written)
  a_decimal : Addr
  fd_decimal : FuncData
  F_decimal : Fun K "decimal" "decimal" s_decimal a_decimal fd_decimal
  b_decimal : L2.Binds K fd_decimal ["number"] []
  g_decimal : mg "decimal" = some (.ref a_decimal)
  a_fun_kind : Addr
  fd_fun_kind : FuncData
  F_fun_kind : Fun K "fun_kind" "fun_kind" s_fun_kind a_fun_kind fd_fun_kind
  b_fun_kind : L2.Binds K fd_fun_kind ["a", "b"] []
  g_fun_kind : mg "fun_kind" = some (.ref a_fun_kind)
  a_bang_kind : Addr
  fd_bang_kind : FuncData
  F_bang_kind : Fun K "bang_kind" "bang_kind" s_bang_kind a_bang_kind fd_bang_kind
  b_bang_kind : L2.Binds K fd_bang_kind ["a"] []
  g_bang_kind : mg "bang_kind" = some (.ref a_bang_kind)
  a_pair_kind : Addr
  fd_pair_kind : FuncData
  F_pair_kind : Fun K "pair_kind" "pair_kind" s_pair_kind a_pair_kind fd_pair_kind
  b_pair_kind : L2.Binds K fd_pair_kind ["a", "b"] []
  g_pair_kind : mg "pair_kind" = some (.ref a_pair_kind)
  a_kind_text : Addr
  fd_kind_text : FuncData
  F_kind_text : Fun K "kind_text" "kind_text" s_kind_text a_kind_text fd_kind_text
  b_kind_text : L2.Binds K fd_kind_text ["kind"] []
  g_kind_text : mg "kind_text" = some (.ref a_kind_text)
  a__pieces_kinds : Addr
  fd__pieces_kinds : FuncData
  F__pieces_kinds : Fun K "_pieces" "_pieces" s__pieces_kinds a__pieces_kinds fd__pieces_kinds
  b__pieces_kinds : L2.Binds K fd__pieces_kinds ["item"] []
  g_pieces_kinds : mg "pieces_kinds" = some (.ref a__pieces_kinds)
  a_read_program : Addr
  fd_read_program : FuncData
  F_read_program : Fun K "read_program" "read_program" s_read_program a_read_program fd_read_program
  b_read_program : L2.Binds K fd_read_program ["text"] []
  g_read_program : mg "read_program" = some (.ref a_read_program)
  a__definition_at : Addr
  fd__definition_at : FuncData
  F__definition_at : Fun K "_definition_at" "_definition_at" s__definition_at a__definition_at fd__definition_at
  b__definition_at : L2.Binds K fd__definition_at ["cursor"] []
  g__definition_at : mg "_definition_at" = some (.ref a__definition_at)
  a__refuse_duplicates : Addr
  fd__refuse_duplicates : FuncData
  F__refuse_duplicates : Fun K "_refuse_duplicates" "_refuse_duplicates" s__refuse_duplicates a__refuse_duplicates fd__refuse_duplicates
  b__refuse_duplicates : L2.Binds K fd__refuse_duplicates ["program"] []
  g__refuse_duplicates : mg "_refuse_duplicates" = some (.ref a__refuse_duplicates)
  a__kind_at : Addr
  fd__kind_at : FuncData
  F__kind_at : Fun K "_kind_at" "_kind_at" s__kind_at a__kind_at fd__kind_at
  b__kind_at : L2.Binds K fd__kind_at ["cursor"] []
  g__kind_at : mg "_kind_at" = some (.ref a__kind_at)
  a__tight_kind_at : Addr
  fd__tight_kind_at : FuncData
  F__tight_kind_at : Fun K "_tight_kind_at" "_tight_kind_at" s__tight_kind_at a__tight_kind_at fd__tight_kind_at
  b__tight_kind_at : L2.Binds K fd__tight_kind_at ["cursor"] []
  g__tight_kind_at : mg "_tight_kind_at" = some (.ref a__tight_kind_at)
  a__innermost_kind_at : Addr
  fd__innermost_kind_at : FuncData
  F__innermost_kind_at : Fun K "_innermost_kind_at" "_innermost_kind_at" s__innermost_kind_at a__innermost_kind_at fd__innermost_kind_at
  b__innermost_kind_at : L2.Binds K fd__innermost_kind_at ["cursor"] []
  g__innermost_kind_at : mg "_innermost_kind_at" = some (.ref a__innermost_kind_at)
  a__exclamations_at : Addr
  fd__exclamations_at : FuncData
  F__exclamations_at : Fun K "_exclamations_at" "_exclamations_at" s__exclamations_at a__exclamations_at fd__exclamations_at
  b__exclamations_at : L2.Binds K fd__exclamations_at ["cursor"] []
  g__exclamations_at : mg "_exclamations_at" = some (.ref a__exclamations_at)
  a__term_at : Addr
  fd__term_at : FuncData
  F__term_at : Fun K "_term_at" "_term_at" s__term_at a__term_at fd__term_at
  b__term_at : L2.Binds K fd__term_at ["cursor"] []
  g__term_at : mg "_term_at" = some (.ref a__term_at)
  a__head_at : Addr
  fd__head_at : FuncData
  F__head_at : Fun K "_head_at" "_head_at" s__head_at a__head_at fd__head_at
  b__head_at : L2.Binds K fd__head_at ["cursor"] []
  g__head_at : mg "_head_at" = some (.ref a__head_at)
  a__let_names_at : Addr
  fd__let_names_at : FuncData
  F__let_names_at : Fun K "_let_names_at" "_let_names_at" s__let_names_at a__let_names_at fd__let_names_at
  b__let_names_at : L2.Binds K fd__let_names_at ["cursor"] []
  g__let_names_at : mg "_let_names_at" = some (.ref a__let_names_at)
  a__sum_at : Addr
  fd__sum_at : FuncData
  F__sum_at : Fun K "_sum_at" "_sum_at" s__sum_at a__sum_at fd__sum_at
  b__sum_at : L2.Binds K fd__sum_at ["cursor"] []
  g__sum_at : mg "_sum_at" = some (.ref a__sum_at)
  a__product_at : Addr
  fd__product_at : FuncData
  F__product_at : Fun K "_product_at" "_product_at" s__product_at a__product_at fd__product_at
  b__product_at : L2.Binds K fd__product_at ["cursor"] []
  g__product_at : mg "_product_at" = some (.ref a__product_at)
  a__application_at : Addr
  fd__application_at : FuncData
  F__application_at : Fun K "_application_at" "_application_at" s__application_at a__application_at fd__application_at
  b__application_at : L2.Binds K fd__application_at ["cursor"] []
  g__application_at : mg "_application_at" = some (.ref a__application_at)
  a__begins_box : Addr
  fd__begins_box : FuncData
  F__begins_box : Fun K "_begins_box" "_begins_box" s__begins_box a__begins_box fd__begins_box
  b__begins_box : L2.Binds K fd__begins_box ["token"] []
  g__begins_box : mg "_begins_box" = some (.ref a__begins_box)
  a__box_at : Addr
  fd__box_at : FuncData
  F__box_at : Fun K "_box_at" "_box_at" s__box_at a__box_at fd__box_at
  b__box_at : L2.Binds K fd__box_at ["cursor"] []
  g__box_at : mg "_box_at" = some (.ref a__box_at)
  a__innermost_term_at : Addr
  fd__innermost_term_at : FuncData
  F__innermost_term_at : Fun K "_innermost_term_at" "_innermost_term_at" s__innermost_term_at a__innermost_term_at fd__innermost_term_at
  b__innermost_term_at : L2.Binds K fd__innermost_term_at ["cursor"] []
  g__innermost_term_at : mg "_innermost_term_at" = some (.ref a__innermost_term_at)
  a_write_term : Addr
  fd_write_term : FuncData
  F_write_term : Fun K "write_term" "write_term" s_write_term a_write_term fd_write_term
  b_write_term : L2.Binds K fd_write_term ["term"] []
  g_write_term : mg "write_term" = some (.ref a_write_term)
  a_write_program : Addr
  fd_write_program : FuncData
  F_write_program : Fun K "write_program" "write_program" s_write_program a_write_program fd_write_program
  b_write_program : L2.Binds K fd_write_program ["program"] []
  g_write_program : mg "write_program" = some (.ref a_write_program)
  a__definition_line : Addr
  fd__definition_line : FuncData
  F__definition_line : Fun K "_definition_line" "_definition_line" s__definition_line a__definition_line fd__definition_line
  b__definition_line : L2.Binds K fd__definition_line ["name", "kind", "term"] []
  g__definition_line : mg "_definition_line" = some (.ref a__definition_line)
  a__line_of : Addr
  fd__line_of : FuncData
  F__line_of : Fun K "_line_of" "_line_of" s__line_of a__line_of fd__line_of
  b__line_of : L2.Binds K fd__line_of ["term"] []
  g__line_of : mg "_line_of" = some (.ref a__line_of)
  a__pieces_writer : Addr
  fd__pieces_writer : FuncData
  F__pieces_writer : Fun K "_pieces" "_pieces" s__pieces_writer a__pieces_writer fd__pieces_writer
  b__pieces_writer : L2.Binds K fd__pieces_writer ["item"] []
  g_pieces_writer : mg "pieces_writer" = some (.ref a__pieces_writer)
  a__binder_pieces : Addr
  fd__binder_pieces : FuncData
  F__binder_pieces : Fun K "_binder_pieces" "_binder_pieces" s__binder_pieces a__binder_pieces fd__binder_pieces
  b__binder_pieces : L2.Binds K fd__binder_pieces ["term"] []
  g__binder_pieces : mg "_binder_pieces" = some (.ref a__binder_pieces)
  a__plain_pieces : Addr
  fd__plain_pieces : FuncData
  F__plain_pieces : Fun K "_plain_pieces" "_plain_pieces" s__plain_pieces a__plain_pieces fd__plain_pieces
  b__plain_pieces : L2.Binds K fd__plain_pieces ["term"] []
  g__plain_pieces : mg "_plain_pieces" = some (.ref a__plain_pieces)
  a__law_cell : Addr
  fd__law_cell : FuncData
  F__law_cell : Fun K "_law_cell" "_law_cell" s__law_cell a__law_cell fd__law_cell
  b__law_cell : L2.Binds K fd__law_cell ["script", "k"] []
  g__law_cell : mg "_law_cell" = some (.ref a__law_cell)
  a__law_numbers : Addr
  fd__law_numbers : FuncData
  F__law_numbers : Fun K "_law_numbers" "_law_numbers" s__law_numbers a__law_numbers fd__law_numbers
  b__law_numbers : L2.Binds K fd__law_numbers ["script", "first", "most"] []
  g__law_numbers : mg "_law_numbers" = some (.ref a__law_numbers)
  a__law_name : Addr
  fd__law_name : FuncData
  F__law_name : Fun K "_law_name" "_law_name" s__law_name a__law_name fd__law_name
  b__law_name : L2.Binds K fd__law_name ["number"] []
  g__law_name : mg "_law_name" = some (.ref a__law_name)
  a__law_any_kind : Addr
  fd__law_any_kind : FuncData
  F__law_any_kind : Fun K "_law_any_kind" "_law_any_kind" s__law_any_kind a__law_any_kind fd__law_any_kind
  b__law_any_kind : L2.Binds K fd__law_any_kind ["number", "deep"] []
  g__law_any_kind : mg "_law_any_kind" = some (.ref a__law_any_kind)
  a__law_pop : Addr
  fd__law_pop : FuncData
  F__law_pop : Fun K "_law_pop" "_law_pop" s__law_pop a__law_pop fd__law_pop
  b__law_pop : L2.Binds K fd__law_pop ["stack", "other"] []
  g__law_pop : mg "_law_pop" = some (.ref a__law_pop)
  a__law_any_term : Addr
  fd__law_any_term : FuncData
  F__law_any_term : Fun K "_law_any_term" "_law_any_term" s__law_any_term a__law_any_term fd__law_any_term
  b__law_any_term : L2.Binds K fd__law_any_term ["numbers", "names"] []
  g__law_any_term : mg "_law_any_term" = some (.ref a__law_any_term)
  a_law : Addr
  fd_law : FuncData
  F_law : Fun K "law" "law" s_law a_law fd_law
  b_law : L2.Binds K fd_law ["script"] []
  g_law : mg "law" = some (.ref a_law)
  cls_Cursor : Cls K aC_Cursor
  gC_Cursor : mg "Cursor" = some (.ref aC_Cursor)
  mk_Cursor : Mk K aC_Cursor a_Cursor___init__
  na_Cursor_at : NoAttr K aC_Cursor "at"
  na_Cursor_tokens : NoAttr K aC_Cursor "tokens"
  m_Cursor_ahead : Meth K aC_Cursor "ahead" a_Cursor_ahead
  m_Cursor_need : Meth K aC_Cursor "need" a_Cursor_need
  m_Cursor_needed_name : Meth K aC_Cursor "needed_name" a_Cursor_needed_name
  m_Cursor_taken : Meth K aC_Cursor "taken" a_Cursor_taken
  aC_DuplicateName : Addr
  gC_DuplicateName : mg "DuplicateName" = some (.ref aC_DuplicateName)
  ai_DuplicateName : Addr
  sp_DuplicateName : SupC P K aC_DuplicateName ai_DuplicateName
  aC_InvalidText : Addr
  gC_InvalidText : mg "InvalidText" = some (.ref aC_InvalidText)
  x_InvalidText : PySem.W.excIn K aC_InvalidText [.type "ValueError", .type "Exception", .type "BaseException", .type "object"] "ValueError.__new__" = true
  k_InvalidText : PySem.W.keepIn K (.ref aC_InvalidText) = true
  b_InvalidText : PySem.W.subIn K (.ref aC_InvalidText) (.type "BaseException") = some true
  t_InvalidText : PySem.W.typeIn K (.ref aC_InvalidText) = some (.type "type")
  aC_SharenetError : Addr
  gC_SharenetError : mg "SharenetError" = some (.ref aC_SharenetError)
  aC_TooLarge : Addr
  gC_TooLarge : mg "TooLarge" = some (.ref aC_TooLarge)
  x_TooLarge : PySem.W.excIn K aC_TooLarge [.type "ValueError", .type "Exception", .type "BaseException", .type "object"] "ValueError.__new__" = true
  k_TooLarge : PySem.W.keepIn K (.ref aC_TooLarge) = true
  b_TooLarge : PySem.W.subIn K (.ref aC_TooLarge) (.type "BaseException") = some true
  t_TooLarge : PySem.W.typeIn K (.ref aC_TooLarge) = some (.type "type")
  ec_DuplicateName : ExcC K aC_DuplicateName
  xm_DuplicateName_SharenetError : PySem.W.exmOne K (.ref aC_DuplicateName) (.ref aC_SharenetError) = some true
  is_DuplicateName_DuplicateName : PySem.W.kitOne K (.ref aC_DuplicateName) (.ref aC_DuplicateName) = some true
  is_DuplicateName_InvalidText : PySem.W.kitOne K (.ref aC_DuplicateName) (.ref aC_InvalidText) = some false
  ec_InvalidText : ExcC K aC_InvalidText
  xm_InvalidText_SharenetError : PySem.W.exmOne K (.ref aC_InvalidText) (.ref aC_SharenetError) = some true
  is_InvalidText_DuplicateName : PySem.W.kitOne K (.ref aC_InvalidText) (.ref aC_DuplicateName) = some false
  is_InvalidText_InvalidText : PySem.W.kitOne K (.ref aC_InvalidText) (.ref aC_InvalidText) = some true
  ec_TooLarge : ExcC K aC_TooLarge
  xm_TooLarge_SharenetError : PySem.W.exmOne K (.ref aC_TooLarge) (.ref aC_SharenetError) = some true
  is_TooLarge_DuplicateName : PySem.W.kitOne K (.ref aC_TooLarge) (.ref aC_DuplicateName) = some false
  is_TooLarge_InvalidText : PySem.W.kitOne K (.ref aC_TooLarge) (.ref aC_InvalidText) = some false
  c_DIGITS : ∃ t, mg "DIGITS" = some (.str (mkS digitsS) t)
  u_INT : Value
  c_INT : mg "INT" = some u_INT
  s_INT : Sk K u_INT (.tup [.str z_int])
  c_LOWER_LETTERS : ∃ t, mg "LOWER_LETTERS" = some (.str (mkS lettersS) t)
  u_RESERVED_WORDS : Value
  c_RESERVED_WORDS : mg "RESERVED_WORDS" = some u_RESERVED_WORDS
  s_RESERVED_WORDS : Sk K u_RESERVED_WORDS (.tup [.str wLet, .str wIn, .str wDef])
  c__BLANKS : ∃ t, mg "_BLANKS" = some (.str (mkS z_x20x0a) t)
  c__CHUNK : ∃ t, mg "_CHUNK" = some (.int 10000000000000000000000000000000000000000000000000000000000000000 t)
  p__LINE_OF_FORM : Addr
  gk__LINE_OF_FORM : mg "_LINE_OF_FORM" = some (.ref p__LINE_OF_FORM)
  t__LINE_OF_FORM : KTab w K p__LINE_OF_FORM tb__LINE_OF_FORM no__LINE_OF_FORM
  p__LINE_OF_SIGN : Addr
  gk__LINE_OF_SIGN : mg "_LINE_OF_SIGN" = some (.ref p__LINE_OF_SIGN)
  t__LINE_OF_SIGN : KTab w K p__LINE_OF_SIGN tb__LINE_OF_SIGN no__LINE_OF_SIGN
  c__LONGEST_NAME : ∃ t, mg "_LONGEST_NAME" = some (.int 8 t)
  c__LONGEST_NUMBER : ∃ t, mg "_LONGEST_NUMBER" = some (.int 9 t)
  c__MOST_BEGUN : ∃ t, mg "_MOST_BEGUN" = some (.int 60 t)
  c__SIGNS : ∃ t, mg "_SIGNS" = some (.str (mkS signsS) t)
  c__UPPER_LETTERS : ∃ t, mg "_UPPER_LETTERS" = some (.str (mkS upperS) t)
  m_abs : mg "abs" = none
  m_all : mg "all" = none
  m_int : mg "int" = none
  m_isinstance : mg "isinstance" = none
  m_len : mg "len" = none
  m_range : mg "range" = none
  m_reversed : mg "reversed" = none
  m_set : mg "set" = none
  m_str : mg "str" = none
  m_super : mg "super" = none

local macro_rules | `(tactic| walk_at "rm") => `(tactic| first | decide | omega)
local macro_rules | `(tactic| walk_at "sz") => `(tactic| first | exact Nat.le_of_ble_eq_true rfl | omega | (simp only [List.length_append, List.length_map, List.length_cons, List.length_nil, List.length_range]; omega) | (simp; omega))
local macro_rules | `(tactic| walk_at "st1") => `(tactic| first
  | with_reducible refine go_seq ?_ | with_reducible refine go_next ?_ | with_reducible refine go_ret ?_ | with_reducible refine go_asg ?_ | with_reducible refine go_if ?_ | with_reducible refine go_drop ?_
  | ((with_reducible show oVar _ _ _ _); refine go_var rfl ?_) | with_reducible refine go_c ?_ | with_reducible refine go_op ?_ | with_reducible refine go_un ?_ | with_reducible refine go_test ?_ | with_reducible refine go_chain ?_
  | with_reducible refine go_and ?_ | with_reducible refine go_or ?_ | with_reducible refine go_not ?_ | with_reducible refine go_andV ?_ | with_reducible refine go_orV ?_ | with_reducible refine go_notV ?_ | with_reducible refine go_ifE ?_
  | with_reducible refine go_nil ?_ | with_reducible refine go_cons ?_ | with_reducible refine go_tup ?_ | with_reducible refine go_lst ?_ | with_reducible refine go_lstO ?_
  | ((with_reducible refine go_tupK ?e ?k); (case e => exact Nat.le_of_ble_eq_true rfl)) | ((with_reducible refine go_lstK ?e ?k); (case e => exact Nat.le_of_ble_eq_true rfl)) | ((with_reducible refine go_lstOK ?e ?k); (case e => exact Nat.le_of_ble_eq_true rfl))
  | with_reducible refine go_gN ?_ | with_reducible refine go_cb ?_ | with_reducible refine go_call ?_ | with_reducible refine go_bm ?_ | with_reducible refine go_bm0 ?_
  | with_reducible refine go_addI ?_ | ((with_reducible refine go_addS ?e ?k); (case e => walk_at "sz")) | ((with_reducible refine go_addT ?n ?e ?k); (case n => exact List.cons_ne_nil _ _); (case e => walk_at "sz")) | ((with_reducible refine go_addL ?e ?k); (case e => walk_at "sz"))
  | with_reducible refine go_sub ?_ | ((with_reducible refine go_mul ?e ?k); (case e => first | exact Wl.CMul.r ⟨by omega, by omega⟩ | exact Wl.CMul.l ⟨by omega, by omega⟩)) | ((with_reducible refine go_mod ?e ?k); (case e => first | decide | omega)) | ((with_reducible refine go_fdiv ?e ?k); (case e => exact cdiv_ok (by omega) (by omega))) | with_reducible refine go_neg ?_
  | with_reducible refine go_int0 ?_ | with_reducible refine go_lt ?_ | with_reducible refine go_le ?_ | with_reducible refine go_gt ?_ | with_reducible refine go_ge ?_ | with_reducible refine go_eqI ?_ | with_reducible refine go_eqS ?_ | with_reducible refine go_neI ?_ | with_reducible refine go_neS ?_
  | ((with_reducible refine go_inT ?f ?g ?k); (case f => rfl); (case g => rfl)) | with_reducible refine go_inS ?_ | ((with_reducible refine go_notInT ?f ?g ?k); (case f => rfl); (case g => rfl)) | with_reducible refine go_notInS ?_
  | ((with_reducible show ixW (.tup _) (.int _) _ _); refine go_ixT (by first | exact rfl | assumption) ?_) | ((with_reducible show ixW (.lst _) (.int _) _ _); refine go_ixL (by first | assumption | exact rfl) ?_) | ((with_reducible show ixW (.scr _) (.int _) _ _); refine go_ixC (by assumption) ?_) | ((with_reducible show ixW (.str _) (.int _) _ _); refine go_ixS (by first | assumption | exact rfl) ?e ?_; (case e => walk_at "sz"))
  | ((with_reducible show ixW (.ref _) (.int _) _ _); refine go_ixO (by first | exact updW_same | assumption) (by first | assumption | exact rfl) ?_)
  | with_reducible refine go_sl ?_ | with_reducible refine go_noPart ?_ | with_reducible refine go_part ?_ | ((with_reducible refine go_slT ?e ?k); (case e => exact of_decide_eq_true rfl)) | with_reducible refine go_slL ?_ | with_reducible refine go_slC ?_ | ((with_reducible refine go_slS ?e ?k); (case e => walk_at "sz")) | with_reducible refine go_revL ?_
  | with_reducible refine go_lenT ?_ | with_reducible refine go_lenL ?_ | with_reducible refine go_lenC ?_ | ((with_reducible refine go_lenS ?e ?k); (case e => walk_at "sz")) | ((with_reducible show lenW [.ref _] _ _); refine go_lenO (by first | exact updW_same | assumption) ?_)
  | with_reducible refine go_abs ?_ | with_reducible refine go_toInt ?_ | with_reducible refine go_toIntB ?_ | with_reducible refine go_listT ?_ | with_reducible refine go_listL ?_ | with_reducible refine go_listC ?_
  | ((with_reducible show isW [.int _, .ty _] _ _); refine go_isI rfl ?_) | ((with_reducible show isW [.bl _, .ty _] _ _); refine go_isB rfl ?_) | ((with_reducible show isW [.str _, .ty _] _ _); refine go_isS rfl ?_) | ((with_reducible show isW [.tup _, .ty _] _ _); refine go_isT rfl ?_)
  | with_reducible refine go_tyS ?_ | ((with_reducible show tyL (.ref _) _ ∧ _); refine go_tyL (by first | exact updW_same | assumption) ?_)
  | ((with_reducible show appendW (.ref _) [_] _ _); refine go_append (by first | exact updW_same | assumption) ?l ?_; (case l => walk_at "sz")) | with_reducible refine go_isalnum ?_
  | with_reducible refine go_join0 ?_ | with_reducible refine go_js1 ?_ | with_reducible refine go_js0 ?_ | ((with_reducible refine ⟨?e, go_js1 ?k⟩); (case e => walk_at "sz")) | ((with_reducible refine ⟨?e, go_js0 ?k⟩); (case e => walk_at "sz")) | ((with_reducible refine go_fmtS ?e ?k); (case e => walk_at "sz"))
  | ((with_reducible refine go_gT ?e ?k); (case e => rfl)) | with_reducible refine go_gNil ?_ | with_reducible refine go_gCons ?_ | ((with_reducible show sAug _ _ _ _ _ _); refine go_aug rfl ?_) | with_reducible refine go_raise ?_ | with_reducible refine go_cont ?_ | with_reducible refine go_break ?_ | with_reducible refine go_retN ?_
  | with_reducible refine go_d0 ?_ | with_reducible refine go_d0O ?_ | with_reducible refine go_truth ?_ | with_reducible refine go_truL ?_ | with_reducible refine go_truT ?_ | with_reducible refine go_truI ?_ | with_reducible refine go_truB ?_ | with_reducible refine go_star ?_ | with_reducible refine go_starL ?_ | with_reducible refine go_starT ?_ | ((with_reducible show truK (truW (.ref _) _) _ _); refine go_truO (by first | exact updW_same | assumption) ?_)
  | ((with_reducible show kgetW _ _ _ _ _ _); refine go_kget rfl ?_) | with_reducible refine go_kget2 ?_ | ((with_reducible show kget2K _ _ (.str _) _ _ _); first | refine go_kget2Y rfl ?_ | refine go_kget2N rfl (by decide) ?_) | with_reducible refine go_eqq ?_
  | with_reducible refine go_dput ?_ | ((with_reducible show dputK (.ref _) _ _ _ _); refine go_dputK (by first | exact updW_same | assumption) ?l ?_; (case l => walk_at "sz")) | ((with_reducible show dictW [.dic _] _ _); refine go_dict rfl ?_) | ((with_reducible show dictOW [.dic _] _ _); refine go_dictO rfl ?_)
  | with_reducible refine go_fld ?_ | ((with_reducible show fldK _ _ (.ref _) _ _); refine go_fldK (by first | exact updW_same | assumption) (by first | exact rfl | assumption) ?_) | with_reducible refine go_sfld ?_ | with_reducible refine go_sfldaug ?_ | ((with_reducible show putK _ _ (.ref _) _ _ _); refine go_putK (by first | exact updW_same | assumption) (by exact Nat.le_of_ble_eq_true rfl) ?_)
  | with_reducible refine go_meth ?_ | ((with_reducible show methK _ _ (.ref _) _ _); refine go_methK (by first | exact updW_same | assumption) (by first | exact rfl | assumption) ?_) | with_reducible refine go_make ?_
  | with_reducible refine go_tt ?_ | with_reducible refine go_ff ?_ | with_reducible refine go_nff ?_ | with_reducible refine go_itL ?_ | with_reducible refine go_max2 ?_ | with_reducible refine go_set0 ?_ | with_reducible refine go_sadd ?_ | with_reducible refine go_lstRev ?_ | ((with_reducible show leSW (.str [_]) (.str [_]) _ _); refine go_leS1 ?_) | ((with_reducible show sFrz _ _ _ _ _); refine go_frz rfl (by first | exact updW_same | assumption) ?_) | ((with_reducible show inSW _ _ _ (.str _) (.ref _) _ _); first | refine go_inSetF (by first | exact updW_same | assumption) ?_ | refine go_inSetT (by first | exact updW_same | assumption) ?_) | with_reducible refine go_min2 ?_ | with_reducible refine go_ntt ?_ | with_reducible refine go_nntt ?_ | with_reducible refine go_nnff ?_ | with_reducible refine go_yes ?_ | with_reducible refine go_isNN ?_ | with_reducible refine go_isNT ?_ | with_reducible refine go_notNN ?_ | with_reducible refine go_tupleT ?_ | with_reducible refine go_raiseN ?_ | with_reducible refine go_raiseNK ?_ | with_reducible refine go_lix ?_ | ((with_reducible show lixK _ (.ref _) (.int _) _ _); refine go_lixK (by first | exact updW_same | assumption) (by first | assumption | exact rfl) ?_) | with_reducible refine go_tupleL ?_ | ((with_reducible show tupleW [.ref _] _ _); refine go_tupleO (by first | exact updW_same | assumption) ?_) | with_reducible refine go_notNT ?_)
local macro_rules | `(tactic| walk_at "st") => `(tactic| repeat (walk_at "st1"))
local macro_rules | `(tactic| walk_at "stc") => `(tactic| repeat (first | walk_at "st1" | refine go_isT' (by exact rfl) ?_ | refine go_isF' (by exact rfl) ?_))

/-! ## what the law's own helpers promise -/
section
variable {P : Program} {w : World} {K : PySem.W.Frag} {mg : Str → Option Value} {base : Heap}
theorem atI_nat' {α : Type} {xs : List α} {k : Nat} {x : α} (e : xs[k]? = some x) : atI xs (k : Int) = some x := atI_nat e
/-- script[k], or 0 -/
def spCell : SpW := fun ws h R _ => ∃ (ns : List Int) (k : Nat), ws = [.scr (ns.map W.int), .int (k : Nat)] ∧ R (.int (ns.getD k 0)) h
theorem ok__law_cell (T : Tx P w K mg) : FnOk P w K mg base CX0 1 T.a__law_cell T.fd__law_cell ["script", "k"] (lSp K spCell) := by
  refine fnW T.F__law_cell sc__law_cell (fun ws h R ex ⟨_, _, e, _⟩ => by rw [e]; rfl) fun cdv A outer s H E hr => ⟨_, (wss_cons (ws_if (wt_cmp (rw := ltW) op_lt lf_cmp (w_var 1) (w_callB call_len lf_len (by rfl) T.m_len (by decide +kernel) (wa_cons (w_var 0) wa_nil)) (nomark _)) (wss_one (ws_ret (w_ix (w_var 0) (w_var 1)))) wss_nil)
    (wss_one (ws_ret w_int))), fun ws h R ex ⟨ns, k, e, q⟩ => ?_⟩
  subst e
  walk_at "st"
  refine go_dec (fun hk => ?_) (fun hk => ?_)
  · have hk' : k < ns.length := by simp at hk; omega
    have e : atI (ns.map W.int) (k : Int) = some (.int ns[k]) := atI_nat (by rw [List.getElem?_map, List.getElem?_eq_getElem hk']; rfl)
    walk_at "st"
    rw [List.getD_eq_getElem?_getD, List.getElem?_eq_getElem hk'] at q
    exact .of q
  · have hk' : ns.length ≤ k := by simp at hk; omega
    walk_at "st"
    rw [List.getD_eq_getElem?_getD, List.getElem?_eq_none hk'] at q
    exact .of q
/-- some numbers below 4096, at most so many -/
def spNumbers : SpW := fun ws h R _ => ∃ (ns : List Int) (i m : Nat), ws = [.scr (ns.map W.int), .int (i : Nat), .int (m : Nat)] ∧ ns.length ≤ 63 ∧ i ≤ 10 ∧ m ≤ 1000 ∧
  ∀ ms : List Nat, (∀ x ∈ ms, x < 4096) → ms.length ≤ m → R (.lst (ms.map fun x => .int (x : Nat))) h
abbrev natsW (ms : List Nat) : List W := ms.map fun x => .int (x : Nat)
def strsW (ts : List (List Nat)) : List W := ts.map W.str
theorem natsW_snoc (ms : List Nat) (x : Nat) : natsW ms ++ [.int (x : Nat)] = natsW (ms ++ [x]) := by simp [natsW]
theorem snocI {h : HW} {p : Addr} (ms : List Nat) (i : Int) (P : HW → Prop) (k : ∀ x : Nat, x < 4096 → P (updW h p (.lst (natsW (ms ++ [x]))))) : P (updW (updW h p (.lst (natsW ms))) p (.lst (natsW ms ++ [.int (i % 4096)]))) := by
  have q := k (i % 4096).toNat (by omega)
  rw [updW_upd]
  have e : (((i % 4096).toNat : Nat) : Int) = i % 4096 := by omega
  rw [← natsW_snoc, e] at q
  exact q
theorem ok__law_numbers (T : Tx P w K mg) : FnOk P w K mg base CX0 1 T.a__law_numbers T.fd__law_numbers ["script", "first", "most"] (lSp K spNumbers) := by
  refine fnW T.F__law_numbers sc__law_numbers (fun ws h R ex ⟨_, _, _, e, _⟩ => by rw [e]; rfl) fun cdv A outer s H E hr => ⟨_, (wss_cons (ws_set (i := 3) sc__law_numbers.nd (w_lstO wa_nil))
    (wss_cons (ws_for PassesOwn.never rfl (wi_range2 (by rfl) T.m_range (wa_cons (w_var 1) (wa_cons (w_callB call_len lf_len (by rfl) T.m_len (by decide +kernel) (wa_cons (w_var 0) wa_nil)) wa_nil))) (wg_name (i := 4) sc__law_numbers.nd) (wss_cons (ws_set (i := 5) sc__law_numbers.nd (w_callB call_abs lf_abs (by rfl) T.m_abs (by decide +kernel) (wa_cons (w_ix (w_var 0) (w_var 4)) wa_nil)))
    (wss_one (ws_if (wt_cmp (rw := geW) op_ge lf_cmp (w_var 5) w_int (nomark _)) (wss_one (ws_for PassesOwn.never rfl (wi_range1 (by rfl) T.m_range (wa_cons w_int wa_nil)) (wg_name (i := 6) sc__law_numbers.nd) (wss_one (ws_if (wt_bool (ww_and (wt_cmp (rw := gtW) op_gt lf_cmp (w_var 5) w_int (nomark _)) (ww_and1 (wt_cmp (rw := ltW) op_lt lf_cmp (w_callB call_len lf_len (by rfl) T.m_len (by decide +kernel) (wa_cons (w_var 3) wa_nil)) (w_var 2) (nomark _))))) (wss_cons (ws_expr (w_bm PySem.F.plainAttrs_list PySem.F.slot_list_append PySem.F.type_list_append mt_append tyL_ok lf_append (w_var 3) (wa_cons (w_op (rw := modW) op_mod lf_int (w_callTy call_int1 lf_toInt (by rfl) T.m_int (by decide +kernel) (wa_cons (w_var 5) wa_nil)) w_int) wa_nil)))
    (wss_one (ws_set (i := 5) sc__law_numbers.nd (w_op (rw := fdivW) op_fdiv lf_int (w_var 5) w_int)))) wss_nil)))) (wss_one (ws_if (wt_cmp (rw := ltW) op_lt lf_cmp (w_callB call_len lf_len (by rfl) T.m_len (by decide +kernel) (wa_cons (w_var 3) wa_nil)) (w_var 2) (nomark _)) (wss_cons (ws_set (i := 7) sc__law_numbers.nd (w_op (rw := modW) op_mod lf_int (w_callTy call_int1 lf_toInt (by rfl) T.m_int (by decide +kernel) (wa_cons (w_op ow_add lf_add (w_op ow_add lf_add (w_op (rw := mulW) op_mul lf_int (w_var 5) w_int) (w_op (rw := mulW) op_mul lf_int (w_var 4) w_int)) w_int) wa_nil)) w_int))
    (wss_cons (ws_set (i := 7) sc__law_numbers.nd (w_op (rw := modW) op_mod lf_int (w_callTy call_int1 lf_toInt (by rfl) T.m_int (by decide +kernel) (wa_cons (w_op ow_add lf_add (w_op (rw := mulW) op_mul lf_int (w_var 7) w_int) (w_op (rw := fdivW) op_fdiv lf_int (w_var 7) w_int)) wa_nil)) w_int))
    (wss_one (ws_expr (w_bm PySem.F.plainAttrs_list PySem.F.slot_list_append PySem.F.type_list_append mt_append tyL_ok lf_append (w_var 3) (wa_cons (w_op (rw := modW) op_mod lf_int (w_callTy call_int1 lf_toInt (by rfl) T.m_int (by decide +kernel) (wa_cons (w_var 7) wa_nil)) w_int) wa_nil)))))) wss_nil))))))
    (wss_one (ws_ret (w_var 3))))), fun ws h R ex ⟨ns, i, m, e, hl, hi, hm, q⟩ => ?_⟩
  subst e
  walk_at "st"
  intro p hp
  walk_at "st"
  refine go_forR2 (i : Nat) ns.length (fun RA q => by walk_at "st"; rw [List.length_map]; exact q) (by omega)
    (fun _ ρ' h' => ∃ ms : List Nat, (∀ x ∈ ms, x < 4096) ∧ ms.length ≤ m ∧ ρ' = [some (.scr (ns.map W.int)), some (.int i), some (.int m), some (.ref p), none, none, none, none] ∧ h' = updW h p (.lst (natsW ms)))
    (.of ⟨[], by simp, by simp, rfl, rfl⟩) ?_ ?_
  · rintro j ρ' h' hj ⟨ms, gm, lm, rfl, rfl⟩
    have hk' : i + j < ns.length := by omega
    have e : atI (ns.map W.int) ((i : Int) + (j : Nat)) = some (.int ns[i + j]) := by
      rw [show ((i : Int) + (j : Nat)) = ((i + j : Nat) : Int) by omega]
      exact atI_nat (by rw [List.getElem?_map, List.getElem?_eq_getElem hk']; rfl)
    walk_at "st"
    generalize (ns[i + j]).natAbs = cell
    have fin : ∀ ρ'' h'' (ms : List Nat), (∀ x ∈ ms, x < 4096) → ms.length ≤ m → SubS [some (.scr (ns.map W.int)), some (.int i), some (.int m), some (.ref p), none, none, none, none] ρ'' → h'' = updW h p (.lst (natsW ms)) → CN (fun ρ' h' => ∃ ms : List Nat, (∀ x ∈ ms, x < 4096) ∧ ms.length ≤ m ∧ ρ' = [some (.scr (ns.map W.int)), some (.int i), some (.int m), some (.ref p), none, none, none, none] ∧ h' = updW h p (.lst (natsW ms))) ρ'' h'' := fun ρ'' h'' ms a b s e => ⟨_, _, ⟨ms, a, b, rfl, e⟩, s, .refl _⟩
    refine go_dec (fun hc => ?_) (fun hc => ?_)
    · refine go_forR1 60 (fun RA q => by walk_at "st"; exact q) (by decide)
        (fun _ ρ' h' => ∃ (ms : List Nat) (c : Nat), (∀ x ∈ ms, x < 4096) ∧ ms.length ≤ m ∧ ρ' = [some (.scr (ns.map W.int)), some (.int i), some (.int m), some (.ref p), none, some (.int (c : Nat)), none, none] ∧ h' = updW h p (.lst (natsW ms)))
        ⟨_, _, ⟨ms, cell, gm, lm, rfl, rfl⟩, .same (.same (.same (.same (.no (.same (.no (.no .nil))))))), .refl _⟩ ?_ ?_
      · rintro k ρ' h' hk ⟨ms, c, gm, lm, rfl, rfl⟩
        walk_at "st"
        refine go_dec (fun h1 => ?_) (fun h1 => ?_)
        · walk_at "st"
          rw [List.length_map]
          refine go_dec (fun h2 => ?_) (fun h2 => ?_)
          · walk_at "st"
            refine ⟨_, _, ⟨ms ++ [c % 4096], c / 4096, ?_, ?_, rfl, rfl⟩, ?_, ?_⟩
            · intro x hx
              rcases List.mem_append.mp hx with hx | hx
              · exact gm x hx
              · simp at hx; omega
            · simp; omega
            · exact .same (.same (.same (.same (.no (.cons (fun _ e => by cases e; simp) (.no (.no .nil)))))))
            · rw [updW_upd, ← natsW_snoc]
              exact .refl _
          · walk_at "st"
            exact ⟨_, _, ⟨ms, c, gm, lm, rfl, rfl⟩, .same (.same (.same (.same (.no (.same (.no (.no .nil))))))), .refl _⟩
        · walk_at "st"
          exact ⟨_, _, ⟨ms, c, gm, lm, rfl, rfl⟩, .same (.same (.same (.same (.no (.same (.no (.no .nil))))))), .refl _⟩
      · rintro ρ' h' ⟨ms, c, gm, lm, rfl, rfl⟩
        exact fin _ _ ms gm lm (.same (.same (.same (.same (.no (.no (.no (.no .nil)))))))) rfl
    · walk_at "st"
      rw [List.length_map]
      refine go_dec (fun h2 => ?_) (fun h2 => ?_)
      · walk_at "st"
        show CN _ _ _
        refine snocI ms _ (CN _ _) fun x hx => ?_
        refine fin _ _ (ms ++ [x]) ?_ ?_ (.same (.same (.same (.same (.no (.no (.no (.no .nil)))))))) rfl
        · intro y hy
          rcases List.mem_append.mp hy with hy | hy
          · exact gm y hy
          · simp at hy; omega
        · simp; omega
      · walk_at "st"
        exact fin _ _ ms gm lm (.same (.same (.same (.same (.no (.no (.no (.no .nil)))))))) rfl
  · rintro ρ' h' ⟨ms, gm, lm, rfl, rfl⟩
    walk_at "st"
    exact .frL updW_same (q ms gm lm) hp (.new hp)
/-! ### names -/
abbrev lowC (c : Nat) : Prop := 97 ≤ c ∧ c ≤ 122
abbrev digC (c : Nat) : Prop := 48 ≤ c ∧ c ≤ 57
/-- letters and digits, a letter first, at most so many -/
structure NmL (s : List Nat) (n : Nat) : Prop where
  len : s.length ≤ n
  hd : ∃ c r, s = c :: r ∧ lowC c
  all : ∀ c ∈ s, lowC c ∨ digC c
structure IsNm (s : List Nat) : Prop where
  nm : NmL s 8
  nl : s ≠ wLet
  ni : s ≠ wIn
  nd : s ≠ wDef
theorem NmL.snoc {s : List Nat} {n c : Nat} (x : NmL s n) (hc : lowC c ∨ digC c) : NmL (s ++ [c]) (n + 1) := by
  obtain ⟨a, ⟨d, r, e, l⟩, b⟩ := x
  refine ⟨by simp; omega, ⟨d, r ++ [c], by rw [e]; rfl, l⟩, fun y hy => ?_⟩
  rcases List.mem_append.mp hy with hy | hy
  · exact b y hy
  · simp at hy; subst hy; exact hc
theorem cut_nat {α : Type} (s : List α) (a b : Nat) : cut s (some (a : Int)) (some (b : Int)) = (s.drop a).take (b - a) := by
  unfold cut HT.sIx
  have ha : ¬ ((a : Int) < 0) := by omega
  have hb : ¬ ((b : Int) < 0) := by omega
  simp only [ha, hb, if_false, Int.toNat_natCast]
  by_cases h : a ≤ s.length
  · rw [Nat.min_eq_left h]
    by_cases h2 : b ≤ s.length
    · rw [Nat.min_eq_left h2]
    · rw [Nat.min_eq_right (by omega), List.take_of_length_le (by simp), List.take_of_length_le (by simp; omega)]
  · have e1 : min a s.length = s.length := by omega
    rw [e1, List.drop_of_length_le (Nat.le_refl s.length), List.drop_of_length_le (by omega : s.length ≤ a)]
    simp
theorem cut_to {α : Type} (s : List α) (b : Nat) : cut s none (some (b : Int)) = s.take b := by
  unfold cut HT.sIx
  have hb : ¬ ((b : Int) < 0) := by omega
  simp only [hb, if_false, Int.toNat_natCast, List.drop_zero, Nat.sub_zero]
  by_cases h : b ≤ s.length
  · rw [Nat.min_eq_left h]
  · rw [Nat.min_eq_right (by omega), List.take_of_length_le (Nat.le_refl _), List.take_of_length_le (by omega)]
theorem cut_from {α : Type} (s : List α) (a : Nat) : cut s (some (a : Int)) none = s.drop a := by
  unfold cut HT.sIx
  have ha : ¬ ((a : Int) < 0) := by omega
  simp only [ha, if_false, Int.toNat_natCast]
  by_cases h : a ≤ s.length
  · rw [Nat.min_eq_left h, List.take_of_length_le (by simp)]
  · rw [Nat.min_eq_right (by omega), List.drop_of_length_le (Nat.le_refl s.length), List.drop_of_length_le (by omega : s.length ≤ a)]; simp
theorem atW {P : W → Prop} {l : List W} (hp : ∀ w ∈ l, P w) (i : Int) (h0 : 0 ≤ i) (h1 : i < l.length) : ∃ w, atI l i = some w ∧ P w := by
  obtain ⟨k, rfl⟩ := Int.eq_ofNat_of_zero_le h0
  have h3 : k < l.length := by omega
  exact ⟨l[k], atI_nat (List.getElem?_eq_getElem h3), hp _ (List.getElem_mem h3)⟩
theorem at_lt {l : List Nat} {P : Nat → Prop} (n : Nat) (hl : l.length = n) (h0 : 0 < n) (hp : ∀ c ∈ l, P c) (i : Int) : ∃ c, atI l (i % (n : Int)) = some c ∧ P c := by
  have h1 : 0 ≤ i % (n : Int) := Int.emod_nonneg _ (by omega)
  have h2 : i % (n : Int) < n := Int.emod_lt_of_pos _ (by omega)
  obtain ⟨k, hk⟩ := Int.eq_ofNat_of_zero_le h1
  rw [hk]
  have h3 : k < l.length := by omega
  exact ⟨l[k], atI_nat (List.getElem?_eq_getElem h3), hp _ (List.getElem_mem h3)⟩
/-- the law's name of a number -/
abbrev moreS : List Nat := lettersS ++ digitsS
def lnmC (m k : Nat) : Nat := moreS.getD ((m / 8 ^ (k + 1) * 31 + k * 7) % 36) 0
def lnm0 (n : Nat) : List Nat := lettersS.getD (n % 26) 0 :: (List.range (n / 26 % 8)).map (lnmC (n / 26))
def lnm (n : Nat) : List Nat := if lnm0 n = wLet ∨ lnm0 n = wIn ∨ lnm0 n = wDef then lnm0 n ++ [120] else lnm0 n
theorem lettersS_low : ∀ i < 26, lowC (lettersS.getD i 0) := by decide
theorem moreS_ok : ∀ i < 36, lowC (moreS.getD i 0) ∨ digC (moreS.getD i 0) := by decide
theorem lnm0_nm (n : Nat) : NmL (lnm0 n) 8 := by
  refine ⟨by simp only [lnm0, List.length_cons, List.length_map, List.length_range]; omega, ⟨_, _, rfl, lettersS_low _ (by omega)⟩, fun c hc => ?_⟩
  rcases List.mem_cons.mp hc with rfl | hc
  · exact .inl (lettersS_low _ (by omega))
  · obtain ⟨k, _, rfl⟩ := List.mem_map.mp hc
    exact moreS_ok _ (Nat.mod_lt _ (by decide))
theorem lnm_nm (n : Nat) : IsNm (lnm n) := by
  have hs := lnm0_nm n
  unfold lnm
  generalize lnm0 n = s at hs ⊢
  split
  · rename_i c3
    have l4 : (s ++ [120]).length ≤ 8 := by rcases c3 with e | e | e <;> subst e <;> decide
    refine ⟨⟨l4, ?_, ?_⟩, ?_, ?_, ?_⟩
    · obtain ⟨d, r, e, l⟩ := hs.hd
      exact ⟨d, r ++ [120], by rw [e]; rfl, l⟩
    · intro y hy
      rcases List.mem_append.mp hy with hy | hy
      · exact hs.all y hy
      · simp at hy; subst hy; decide
    all_goals rcases c3 with e | e | e <;> subst e <;> decide
  · rename_i c3
    simp only [not_or] at c3
    exact ⟨hs, c3.1, c3.2.1, c3.2.2⟩
def spNameX : SpW := fun ws h R _ => ∃ n : Nat, ws = [.int (n : Nat)] ∧ R (.str (lnm n)) h
/-- some name -/
def spName : SpW := fun ws h R _ => ∃ n : Nat, ws = [.int (n : Nat)] ∧ ∀ s, IsNm s → R (.str s) h
theorem ok__law_name2 (T : Tx P w K mg) : FnOk P w K mg base CX0 1 T.a__law_name T.fd__law_name ["number"] (lSp K spNameX) := by
  refine fnW T.F__law_name sc__law_name (fun ws h R ex ⟨_, e, _⟩ => by rw [e]; rfl) fun cdv A outer s H E hr => ⟨_, (wss_cons (ws_set (i := 1) sc__law_name.nd (w_str lettersS))
    (wss_cons (ws_set (i := 2) sc__law_name.nd (w_op ow_add lf_add (w_var 1) (w_str digitsS)))
    (wss_cons (ws_set (i := 3) sc__law_name.nd (w_ix (w_var 1) (w_op (rw := modW) op_mod lf_int (w_callTy call_int1 lf_toInt (by rfl) T.m_int (by decide +kernel) (wa_cons (w_var 0) wa_nil)) w_int)))
    (wss_cons (ws_set (i := 0) sc__law_name.nd (w_op (rw := fdivW) op_fdiv lf_int (w_callTy call_int1 lf_toInt (by rfl) T.m_int (by decide +kernel) (wa_cons (w_var 0) wa_nil)) w_int))
    (wss_cons (ws_for PassesOwn.never rfl (wi_range1 (by rfl) T.m_range (wa_cons (w_op (rw := modW) op_mod lf_int (w_callTy call_int1 lf_toInt (by rfl) T.m_int (by decide +kernel) (wa_cons (w_var 0) wa_nil)) w_int) wa_nil)) (wg_name (i := 4) sc__law_name.nd) (wss_cons (ws_set (i := 0) sc__law_name.nd (w_op (rw := fdivW) op_fdiv lf_int (w_var 0) w_int))
    (wss_one (ws_set (i := 3) sc__law_name.nd (w_op ow_add lf_add (w_var 3) (w_ix (w_var 2) (w_op (rw := modW) op_mod lf_int (w_callTy call_int1 lf_toInt (by rfl) T.m_int (by decide +kernel) (wa_cons (w_op ow_add lf_add (w_op (rw := mulW) op_mul lf_int (w_var 0) w_int) (w_op (rw := mulW) op_mul lf_int (w_var 4) w_int)) wa_nil)) w_int)))))))
    (wss_cons (ws_if (wt_cmp ow_in lf_in (w_var 3) (w_tup (wa_cons (w_str wLet) (wa_cons (w_str wIn) (wa_cons (w_str wDef) wa_nil)))) (by rfl)) (wss_one (ws_ret (w_op ow_add lf_add (w_var 3) (w_str z_x)))) wss_nil)
    (wss_one (ws_ret (w_var 3))))))))), fun ws h R ex ⟨n, e, q⟩ => ?_⟩
  subst e
  have hc : atI lettersS ((n : Int) % 26) = some (lettersS.getD (n % 26) 0) := by
    rw [show (n : Int) % 26 = ((n % 26 : Nat) : Int) by omega]
    have hl : n % 26 < lettersS.length := Nat.mod_lt _ (by decide)
    exact atI_nat (by rw [List.getD_eq_getElem?_getD, List.getElem?_eq_getElem hl]; rfl)
  walk_at "st"
  refine go_forR1 ((n : Int) / 26 % 8) (fun RA q => by walk_at "st"; exact q) (by omega)
    (fun k ρ' h' => ρ' = [some (.int ((n / 26 / 8 ^ k : Nat) : Int)), some (.str lettersS), some (.str (lettersS ++ digitsS)), some (.str (lettersS.getD (n % 26) 0 :: (List.range k).map (lnmC (n / 26)))), none] ∧ h' = h)
    (.of ⟨by rw [Nat.pow_zero, Nat.div_one, Int.natCast_ediv]; rfl, rfl⟩) ?_ ?_
  · rintro k ρ' h' hk ⟨rfl, rfl⟩
    have hd : atI (lettersS ++ digitsS) ((((n / 26 / 8 ^ k : Nat) : Int) / 8 * 31 + (k : Int) * 7) % 36) = some (lnmC (n / 26) k) := by
      have e8 : ((n / 26 / 8 ^ k : Nat) : Int) / 8 = ((n / 26 / 8 ^ (k + 1) : Nat) : Int) := by
        rw [Nat.pow_succ, ← Nat.div_div_eq_div_mul]; omega
      rw [e8]
      have e9 : (((n / 26 / 8 ^ (k + 1) : Nat) : Int) * 31 + (k : Int) * 7) % 36 = (((n / 26 / 8 ^ (k + 1) * 31 + k * 7) % 36 : Nat) : Int) := by omega
      rw [e9]
      have hl : (n / 26 / 8 ^ (k + 1) * 31 + k * 7) % 36 < moreS.length := Nat.mod_lt _ (by decide)
      exact atI_nat (by unfold lnmC; rw [List.getD_eq_getElem?_getD, List.getElem?_eq_getElem hl]; rfl)
    have : (List.range k).length ≤ 8 := by simp; omega
    walk_at "st"
    refine ⟨_, _, ⟨rfl, rfl⟩, ?_, .refl _⟩
    have e8 : ((n / 26 / 8 ^ k / 8 : Nat) : Int) = ((n / 26 / 8 ^ k : Nat) : Int) / 8 := by omega
    rw [List.range_succ, List.map_append, Nat.pow_succ, ← Nat.div_div_eq_div_mul, e8]
    exact .same (.same (.same (.same (.no .nil))))
  · rintro ρ' h' ⟨rfl, rfl⟩
    have hk : ((n : Int) / 26 % 8).toNat = n / 26 % 8 := by omega
    rw [hk]
    have q : R (.str (lnm n)) h' := q
    have hs := lnm0_nm n
    have l8 := hs.len
    have e0 : lettersS.getD (n % 26) 0 :: (List.range (n / 26 % 8)).map (lnmC (n / 26)) = lnm0 n := rfl
    rw [e0]
    unfold lnm at q
    generalize lnm0 n = s at *
    walk_at "st"
    by_cases c3 : s = wLet ∨ s = wIn ∨ s = wDef
    · have e : ([W.str wLet, .str wIn, .str wDef].any fun w => eqF w (.str s)) = true := by
        rcases c3 with e | e | e <;> subst e <;> decide
      rw [if_pos c3] at q
      refine go_isT' e ?_
      walk_at "st"
      exact .of q
    · have e : ([W.str wLet, .str wIn, .str wDef].any fun w => eqF w (.str s)) = false := by
        simp only [not_or] at c3
        simp [eqF, Ne.symm c3.1, Ne.symm c3.2.1, Ne.symm c3.2.2]
      rw [if_neg c3] at q
      refine go_isF' e ?_
      walk_at "st"
      exact .of q
theorem ok__law_name (T : Tx P w K mg) : FnOk P w K mg base CX0 1 T.a__law_name T.fd__law_name ["number"] (lSp K spName) :=
  (ok__law_name2 T).imp fun _ _ _ _ ⟨ws, h, R, ex, a, b, ⟨n, e, q⟩, c⟩ => ⟨ws, h, R, ex, a, b, ⟨n, e, q _ (lnm_nm n)⟩, c⟩
end

/-! ## tokens -/
abbrev upC (c : Nat) : Prop := 65 ≤ c ∧ c ≤ 90
abbrev anB (c : Nat) : Bool := decide (c ∈ lettersS) || decide (c ∈ digitsS) || decide (c ∈ upperS)
theorem mem_letters {c : Nat} : c ∈ lettersS ↔ lowC c := by simp only [lettersS, List.mem_cons, List.not_mem_nil, or_false, lowC]; omega
theorem mem_digits {c : Nat} : c ∈ digitsS ↔ digC c := by simp only [digitsS, List.mem_cons, List.not_mem_nil, or_false, digC]; omega
theorem mem_upper {c : Nat} : c ∈ upperS ↔ upC c := by simp only [upperS, List.mem_cons, List.not_mem_nil, or_false, upC]; omega
/-- is_name -/
def nmB (s : List Nat) : Bool := !decide (s = wLet ∨ s = wIn ∨ s = wDef) && (decide (1 ≤ s.length ∧ s.length ≤ 8) && (decide (s.headD 0 ∈ lettersS) && s.all fun c => decide (c ∈ lettersS) || decide (c ∈ digitsS)))
theorem nmB_iff {s : List Nat} : nmB s = true ↔ IsNm s := by
  constructor
  · intro h
    simp only [nmB, Bool.and_eq_true, Bool.not_eq_true', decide_eq_false_iff_not, decide_eq_true_eq, List.all_eq_true, Bool.or_eq_true, not_or, mem_letters, mem_digits] at h
    obtain ⟨⟨h1, h2, h3⟩, ⟨h4, h5⟩, h6, h7⟩ := h
    cases s with
    | nil => simp at h4
    | cons c r => exact ⟨⟨h5, ⟨c, r, rfl, h6⟩, h7⟩, h1, h2, h3⟩
  · rintro ⟨⟨h5, ⟨c, r, rfl, h6⟩, h7⟩, h1, h2, h3⟩
    simp only [nmB, Bool.and_eq_true, Bool.not_eq_true', decide_eq_false_iff_not, decide_eq_true_eq, List.all_eq_true, Bool.or_eq_true, not_or, mem_letters, mem_digits]
    exact ⟨⟨h1, h2, h3⟩, ⟨by simp, h5⟩, h6, h7⟩
theorem any_words (s : List Nat) : ([W.str wLet, .str wIn, .str wDef].any fun w => eqF w (.str s)) = decide (s = wLet ∨ s = wIn ∨ s = wDef) := by
  show (decide (wLet = s) || (decide (wIn = s) || (decide (wDef = s) || false))) = _
  rw [Bool.eq_iff_iff]
  simp only [Bool.or_eq_true, decide_eq_true_eq, Bool.or_false]
  exact ⟨fun h => h.elim (fun e => .inl e.symm) fun h => .inr (h.elim (fun e => .inl e.symm) fun e => .inr e.symm), fun h => h.elim (fun e => .inl e.symm) fun h => .inr (h.elim (fun e => .inl e.symm) fun e => .inr e.symm)⟩
def spIsName : SpW := fun ws h R _ => ∃ s, ws = [.str s] ∧ s.length ≤ 1000000 ∧ R (.bl (nmB s)) h
section
variable {P : Program} {w : World} {K : PySem.W.Frag} {mg : Str → Option Value} {base : Heap}
theorem ok_is_name (T : Tx P w K mg) : FnOk P w K mg base CX0 1 T.a_is_name T.fd_is_name ["text"] (lSp K spIsName) := by
  refine fnW T.F_is_name sc_is_name (fun ws h R ex ⟨_, e, _⟩ => by rw [e]; rfl) fun cdv A outer s H E hr => ⟨_, (wss_cons (ws_if (wt_bool (ww_or (wt_cmp ow_in lf_in (w_var 0) (w_globW rfl T.c_RESERVED_WORDS T.s_RESERVED_WORDS) (by rfl)) (ww_or1 (wt_not (wt_chain (rw := leW) (rw' := leW) op_le lf_cmp op_le lf_cmp w_int (w_callB call_len lf_len (by rfl) T.m_len (by decide +kernel) (wa_cons (w_var 0) wa_nil)) (w_globI rfl T.c__LONGEST_NAME)))))) (wss_one (ws_ret w_bl)) wss_nil)
    (wss_cons (ws_if (wt_cmp ow_notIn lf_notIn (w_ix (w_var 0) w_int) (w_globS lettersS rfl T.c_LOWER_LETTERS) (by rfl)) (wss_one (ws_ret w_bl)) wss_nil)
    (wss_one (ws_ret (w_callB (cr_all rfl) lf_all (by rfl) T.m_all (by decide +kernel) (wa_cons (w_lc (x := "sign") (j := 1) rfl sc_is_name.nd (wi_str (w_var 0)) (blkOk_by (N := N_is_name) (sc := defScope s_is_name) (by decide +kernel)) (fun _ _ _ _ _ => pg_name (i := 1) sc_is_name.nd rfl (Or.inl rfl)) (fun _ _ _ _ _ => wts_nil) (fun _ _ _ _ _ => (w_or (w_cmp ow_in lf_in (w_var 1) (w_globS lettersS rfl T.c_LOWER_LETTERS) (by rfl)) (w_one (w_cmp ow_in lf_in (w_var 1) (w_globS digitsS rfl T.c_DIGITS) (by rfl)))))) wa_nil)))))), fun ws h R ex ⟨s, e, l, q⟩ => ?_⟩
  subst e
  have no : nmB s = false → Wl.Cl R (.bl false) h := fun e => by rw [e] at q; exact .of q
  walk_at "st"
  rw [any_words]
  refine go_dec (fun c1 => ?_) (fun c1 => ?_)
  · walk_at "st"
    exact no (by simp only [nmB]; rw [decide_eq_true c1]; rfl)
  · walk_at "st"
    refine go_dec (fun c2 => ?_) (fun c2 => ?_)
    · walk_at "st"
      refine go_ndec (fun c3 => ?_) (fun c3 => ?_)
      · walk_at "st"
        exact no (by simp only [nmB]; rw [decide_eq_false (show ¬ (1 ≤ s.length ∧ s.length ≤ 8) by omega), Bool.false_and, Bool.and_false])
      · walk_at "st"
        cases s with
        | nil => simp at c2
        | cons c r =>
        have e0 : atI (c :: r) 0 = some c := atI_nat (j := 0) rfl
        walk_at "st"
        refine go_ndec (fun c4 => ?_) (fun c4 => ?_)
        · walk_at "st"
          exact no (by simp [nmB, c4])
        · walk_at "st"
          refine go_lc ((c :: r).map fun c => .str [c]) (fun P q => by walk_at "st"; exact q) (by simp at l ⊢; omega) (fun w => match w with | .str [c] => .bl (decide (c ∈ lettersS) || decide (c ∈ digitsS)) | w => w) ?_ ?_
          · intro w' h' R' hw hr'
            obtain ⟨d, hd, rfl⟩ := List.mem_map.mp hw
            walk_at "st"
            refine go_dec (fun c5 => ?_) (fun c5 => ?_)
            · have hr' : R' (.bl (decide (d ∈ lettersS) || decide (d ∈ digitsS))) h' := hr'
              rw [decide_eq_true c5] at hr'
              exact hr'
            · have hr' : R' (.bl (decide (d ∈ lettersS) || decide (d ∈ digitsS))) h' := hr'
              rw [decide_eq_false c5] at hr'
              walk_at "st"
              exact hr'
          · walk_at "st"
            refine go_all (bs := (c :: r).map fun c => decide (c ∈ lettersS) || decide (c ∈ digitsS)) ?_ ?_
            · rw [List.map_map, ← blsOf_map, List.map_map]
              rfl
            · walk_at "st"
              have e : nmB (c :: r) = ((c :: r).map fun c => decide (c ∈ lettersS) || decide (c ∈ digitsS)).all id := by
                simp only [nmB]
                rw [decide_eq_false c1, decide_eq_true (show 1 ≤ (c :: r).length ∧ (c :: r).length ≤ 8 by omega)]
                rw [show decide ((c :: r).headD 0 ∈ lettersS) = true from decide_eq_true c4]
                rw [List.all_map]
                rfl
              rw [e] at q
              exact .of q
    · walk_at "st"
      exact no (by simp only [nmB]; rw [decide_eq_false (show ¬ (1 ≤ s.length ∧ s.length ≤ 8) by omega), Bool.false_and, Bool.and_false])
end

def numB (s : List Nat) : Bool := decide (1 ≤ s.length ∧ s.length ≤ 9) && (!(decide (s.headD 0 = 48) && decide (1 < s.length)) && s.all fun c => decide (c ∈ digitsS))
def wordB (s : List Nat) : Bool := decide (s = wInt) || (decide (s = wLet ∨ s = wIn ∨ s = wDef) || (nmB s || numB s))
def spIsNumber : SpW := fun ws h R _ => ∃ s, ws = [.str s] ∧ s.length ≤ 1000000 ∧ R (.bl (numB s)) h
def spAn : SpW := fun ws h R _ => ∃ c, ws = [.str [c]] ∧ R (.bl (anB c)) h
def spIsWord : SpW := fun ws h R _ => ∃ s, ws = [.str s] ∧ s.length ≤ 1000000 ∧ R (.bl (wordB s)) h
def spWordAt : SpW := fun ws h R _ => ∃ (s : List Nat) (a : Nat), ws = [.str s, .int (a : Nat)] ∧ s.length ≤ 1000000 ∧ a ≤ s.length ∧ R (.str ((s.drop a).takeWhile anB)) h
section
variable {P : Program} {w : World} {K : PySem.W.Frag} {mg : Str → Option Value} {base : Heap}
theorem ok_is_number (T : Tx P w K mg) : FnOk P w K mg base CX0 1 T.a_is_number T.fd_is_number ["token"] (lSp K spIsNumber) := by
  refine fnW T.F_is_number sc_is_number (fun ws h R ex ⟨_, e, _⟩ => by rw [e]; rfl) fun cdv A outer s H E hr => ⟨_, (wss_cons (ws_if (wt_not (wt_chain (rw := leW) (rw' := leW) op_le lf_cmp op_le lf_cmp w_int (w_callB call_len lf_len (by rfl) T.m_len (by decide +kernel) (wa_cons (w_var 0) wa_nil)) (w_globI rfl T.c__LONGEST_NUMBER))) (wss_one (ws_ret w_bl)) wss_nil)
    (wss_cons (ws_if (wt_bool (ww_and (wt_cmp (ow_eq hr.units) lf_eq (w_ix (w_var 0) w_int) (w_str z_0) (nomark _)) (ww_and1 (wt_cmp (rw := gtW) op_gt lf_cmp (w_callB call_len lf_len (by rfl) T.m_len (by decide +kernel) (wa_cons (w_var 0) wa_nil)) w_int (nomark _))))) (wss_one (ws_ret w_bl)) wss_nil)
    (wss_one (ws_ret (w_callB (cr_all rfl) lf_all (by rfl) T.m_all (by decide +kernel) (wa_cons (w_lc (x := "sign") (j := 1) rfl sc_is_number.nd (wi_str (w_var 0)) (blkOk_by (N := N_is_number) (sc := defScope s_is_number) (by decide +kernel)) (fun _ _ _ _ _ => pg_name (i := 1) sc_is_number.nd rfl (Or.inl rfl)) (fun _ _ _ _ _ => wts_nil) (fun _ _ _ _ _ => (w_cmp ow_in lf_in (w_var 1) (w_globS digitsS rfl T.c_DIGITS) (by rfl)))) wa_nil)))))), fun ws h R ex ⟨s, e, l, q⟩ => ?_⟩
  subst e
  have no : numB s = false → Wl.Cl R (.bl false) h := fun e => by rw [e] at q; exact .of q
  walk_at "st"
  refine go_dec (fun c2 => ?_) (fun c2 => ?_)
  · walk_at "st"
    refine go_ndec (fun c3 => ?_) (fun c3 => ?_)
    · walk_at "st"
      exact no (by simp only [numB]; rw [decide_eq_false (show ¬ (1 ≤ s.length ∧ s.length ≤ 9) by omega), Bool.false_and])
    · cases s with
      | nil => simp at c2
      | cons c r =>
      have e0 : atI (c :: r) 0 = some c := atI_nat (j := 0) rfl
      have n1 : numB (c :: r) = (!(decide (c = 48) && decide (1 < (c :: r).length)) && (c :: r).all fun c => decide (c ∈ digitsS)) := by
        simp only [numB]
        rw [decide_eq_true (show 1 ≤ (c :: r).length ∧ (c :: r).length ≤ 9 by omega)]
        rfl
      have all : Wl.Cl R (.bl ((c :: r).all fun c => decide (c ∈ digitsS))) h → oCB allW (oCons (oLc (oItS (oVar 0)) 1 oYes (oOp inW (oVar 1) (oC (.str digitsS)))) oNil) (startW N_is_number.length [.str (c :: r)]) h (Wl.Cl R) := fun q => by
        walk_at "st"
        refine go_lc ((c :: r).map fun c => .str [c]) (fun P q => by walk_at "st"; exact q) (by simp at l ⊢; omega) (fun w => match w with | .str [c] => .bl (decide (c ∈ digitsS)) | w => w) ?_ ?_
        · intro w' h' R' hw hr'
          obtain ⟨d, hd, rfl⟩ := List.mem_map.mp hw
          walk_at "st"
          exact hr'
        · walk_at "st"
          refine go_all (bs := (c :: r).map fun c => decide (c ∈ digitsS)) ?_ ?_
          · rw [List.map_map, ← blsOf_map, List.map_map]
            rfl
          · rw [List.all_map]
            exact q
      walk_at "st"
      refine go_dec (fun c4 => ?_) (fun c4 => ?_)
      · walk_at "st"
        refine go_dec (fun c5 => ?_) (fun c5 => ?_)
        · walk_at "st"
          refine no ?_
          rw [n1, decide_eq_true (show c = 48 by simpa using c4), decide_eq_true (show 1 < (c :: r).length by omega)]
          rfl
        · walk_at "st"
          refine all ?_
          rw [n1, decide_eq_false (show ¬ 1 < (c :: r).length by omega), Bool.and_false] at q
          exact .of q
      · walk_at "st"
        refine all ?_
        rw [n1, decide_eq_false (show ¬ c = 48 by simpa using c4), Bool.false_and] at q
        exact .of q
  · walk_at "st"
    exact no (by simp only [numB]; rw [decide_eq_false (show ¬ (1 ≤ s.length ∧ s.length ≤ 9) by omega), Bool.false_and])
theorem ok__is_letter_or_digit (T : Tx P w K mg) : FnOk P w K mg base CX0 1 T.a__is_letter_or_digit T.fd__is_letter_or_digit ["sign"] (lSp K spAn) := by
  refine fnW T.F__is_letter_or_digit sc__is_letter_or_digit (fun ws h R ex ⟨_, e, _⟩ => by rw [e]; rfl) fun cdv A outer s H E hr => ⟨_, (wss_one (ws_ret (w_or (w_cmp ow_in lf_in (w_var 0) (w_globS lettersS rfl T.c_LOWER_LETTERS) (by rfl)) (w_or (w_cmp ow_in lf_in (w_var 0) (w_globS digitsS rfl T.c_DIGITS) (by rfl)) (w_one (w_cmp ow_in lf_in (w_var 0) (w_globS upperS rfl T.c__UPPER_LETTERS) (by rfl))))))), fun ws h R ex ⟨s, e, q⟩ => ?_⟩
  subst e
  walk_at "st"
  simp only [anB] at q
  refine go_dec (fun c => ?_) (fun c => ?_)
  · rw [decide_eq_true c] at q; exact .of q
  · rw [decide_eq_false c] at q
    walk_at "st"
    refine go_dec (fun c => ?_) (fun c => ?_)
    · rw [decide_eq_true c] at q; exact .of q
    · rw [decide_eq_false c] at q
      walk_at "st"
      exact .of q
theorem ok__is_word (T : Tx P w K mg) : FnOk P w K mg base CX0 2 T.a__is_word T.fd__is_word ["word"] (lSp K spIsWord) := by
  refine fnW T.F__is_word sc__is_word (fun ws h R ex ⟨_, e, _⟩ => by rw [e]; rfl) fun cdv A outer s H E hr => ⟨_, (wss_one (ws_ret (w_or (w_cmp (ow_eq hr.units) lf_eq (w_var 0) (w_str wInt) (nomark _)) (w_or (w_cmp ow_in lf_in (w_var 0) (w_globW rfl T.c_RESERVED_WORDS T.s_RESERVED_WORDS) (by rfl)) (w_or (w_call (ok_is_name T) (hr.mono (by walk_at "rm")) (by rfl) T.g_is_name T.F_is_name.kp T.b_is_name (wa_cons (w_var 0) wa_nil)) (w_one (w_call (ok_is_number T) (hr.mono (by walk_at "rm")) (by rfl) T.g_is_number T.F_is_number.kp T.b_is_number (wa_cons (w_var 0) wa_nil)))))))), fun ws h R ex ⟨s, e, l, q⟩ => ?_⟩
  subst e
  simp only [wordB] at q
  walk_at "st"
  refine go_dec (fun c => ?_) (fun c => ?_)
  · rw [decide_eq_true c] at q; exact .of q
  · rw [decide_eq_false c] at q
    walk_at "st"
    rw [any_words]
    refine go_dec (fun c => ?_) (fun c => ?_)
    · rw [decide_eq_true c] at q; exact .of q
    · rw [decide_eq_false c] at q
      walk_at "st"
      refine ⟨s, rfl, l, ?_⟩
      cases e : nmB s with
      | true => rw [e] at q; walk_at "st"; exact .of q
      | false =>
        rw [e] at q; walk_at "st"
        refine ⟨s, rfl, l, ?_⟩
        exact .of q
theorem ok__word_at (T : Tx P w K mg) : FnOk P w K mg base CX0 2 T.a__word_at T.fd__word_at ["text", "at"] (lSp K spWordAt) := by
  refine fnW T.F__word_at sc__word_at (fun ws h R ex ⟨_, _, e, _⟩ => by rw [e]; rfl) fun cdv A outer s H E hr => ⟨_, (wss_cons (ws_set (i := 2) sc__word_at.nd (w_var 1))
    (wss_cons (ws_while PassesOwn.never (wt_bool (ww_and (wt_cmp (rw := ltW) op_lt lf_cmp (w_var 2) (w_callB call_len lf_len (by rfl) T.m_len (by decide +kernel) (wa_cons (w_var 0) wa_nil)) (nomark _)) (ww_and1 (wt_val (w_call (ok__is_letter_or_digit T) (hr.mono (by walk_at "rm")) (by rfl) T.g__is_letter_or_digit T.F__is_letter_or_digit.kp T.b__is_letter_or_digit (wa_cons (w_ix (w_var 0) (w_var 2)) wa_nil)))))) (wss_one (ws_aug (i := 2) (rw := intW0 fun i j => i + j) sc__word_at.nd w_int iop_add lf_int0)))
    (wss_one (ws_ret (w_slice (w_var 0) (wo_some (w_var 1)) (wo_some (w_var 2))))))), fun ws h R ex ⟨s, a, e, l, la, q⟩ => ?_⟩
  subst e
  walk_at "st"
  refine go_while (fun m ρ' h' => ∃ e, m = s.length - e ∧ a ≤ e ∧ e ≤ s.length ∧ (s.drop a).takeWhile anB = (s.drop a).take (e - a) ++ (s.drop e).takeWhile anB ∧ ρ' = [some (.str s), some (.int (a : Nat)), some (.int (e : Nat))] ∧ h' = h)
    ⟨_, .of ⟨a, rfl, Nat.le_refl _, la, by simp, rfl, rfl⟩⟩ ?_
  rintro m ρ' h' ⟨e, rfl, h1, h2, h3, rfl, rfl⟩
  have fin : (s.drop e).takeWhile anB = [] → Wl.Cl R (.str (cut s (some (a : Int)) (some (e : Int)))) h' := fun hn => by
    rw [hn, List.append_nil] at h3
    rw [cut_nat, ← h3]
    exact .of q
  walk_at "st"
  refine go_dec (fun c => ?_) (fun c => ?_)
  · have he : e < s.length := by omega
    have e0 : atI s (e : Int) = some s[e] := atI_nat (List.getElem?_eq_getElem he)
    have ed : s.drop e = s[e] :: s.drop (e + 1) := List.drop_eq_getElem_cons he
    walk_at "st"
    refine ⟨_, rfl, ?_⟩
    cases ea : anB s[e] with
    | true =>
      walk_at "st"
      refine .of ⟨s.length - (e + 1), by omega, e + 1, rfl, by omega, he, ?_, rfl, rfl⟩
      rw [h3, ed, List.takeWhile_cons, if_pos ea, show e + 1 - a = (e - a) + 1 by omega, List.take_add_one]
      rw [List.getElem?_drop, show a + (e - a) = e by omega, List.getElem?_eq_getElem he]
      simp
    | false =>
      walk_at "st"
      refine fin ?_
      rw [ed, List.takeWhile_cons, ea]; rfl
  · walk_at "st"
    refine fin ?_
    rw [List.drop_of_length_le (by omega)]; rfl
end
def tokAt (r : List Nat) : List Nat :=
  if r.takeWhile anB ≠ [] then (if wordB (r.takeWhile anB) = true then r.takeWhile anB else []) else
    if r.take 2 = z_x2dx3e then z_x2dx3e else if r.headD 0 ∈ signsS then [r.headD 0] else []
abbrev blankC (c : Nat) : Prop := c = 32 ∨ c = 10
/-- the tokens up to the first place that is none -/
def lex (s : List Nat) : List (List Nat) × Bool :=
  match s with
  | [] => ([], true)
  | c :: r => if blankC c then lex r else if tokAt (c :: r) = [] then ([], false) else
      let t := tokAt (c :: r)
      let x := lex (r.drop (t.length - 1))
      (t :: x.1, x.2)
termination_by s.length
decreasing_by all_goals simp; try omega
theorem lex_nil : lex [] = ([], true) := by rw [lex]
theorem lex_blank {c : Nat} {r : List Nat} (h : blankC c) : lex (c :: r) = lex r := by rw [lex, if_pos h]
theorem lex_bad {c : Nat} {r : List Nat} (h : ¬ blankC c) (e : tokAt (c :: r) = []) : lex (c :: r) = ([], false) := by rw [lex, if_neg h, if_pos e]
theorem lex_tok {s : List Nat} {c : Nat} {r : List Nat} (es : s = c :: r) (h : ¬ blankC c) (e : tokAt s ≠ []) : lex s = (tokAt s :: (lex (s.drop (tokAt s).length)).1, (lex (s.drop (tokAt s).length)).2) := by
  subst es
  conv => lhs; rw [lex]
  rw [if_neg h, if_neg e]
  have l : (tokAt (c :: r)).length ≠ 0 := fun z => e (List.length_eq_zero_iff.mp z)
  have d : (c :: r).drop (tokAt (c :: r)).length = r.drop ((tokAt (c :: r)).length - 1) := by
    obtain ⟨n, hn⟩ := Nat.exists_eq_succ_of_ne_zero l
    rw [hn]; rfl
  rw [d]
theorem tokAt_len (s : List Nat) : (tokAt s).length ≤ s.length := by
  unfold tokAt
  split
  · split
    · exact (List.takeWhile_sublist _).length_le
    · simp
  · split
    · rename_i h
      have := congrArg List.length h
      rw [List.length_take] at this
      have e : z_x2dx3e.length = 2 := rfl
      omega
    · split
      · rename_i h
        cases s with
        | nil => simp [signsS] at h
        | cons => simp
      · simp
def spTokAt : SpW := fun ws h R _ => ∃ (s : List Nat) (a : Nat), ws = [.str s, .int (a : Nat)] ∧ s.length ≤ 1000000 ∧ a < s.length ∧ R (.str (tokAt (s.drop a))) h
def spDivided : SpW := fun ws h R _ => ∃ s : List Nat, ws = [.str s] ∧ s.length ≤ 1000000 ∧ R (.tup [.lst (strsW (lex s).1), .bl (lex s).2]) h
section
variable {P : Program} {w : World} {K : PySem.W.Frag} {mg : Str → Option Value} {base : Heap}
theorem ok__token_at (T : Tx P w K mg) : FnOk P w K mg base CX0 3 T.a__token_at T.fd__token_at ["text", "at"] (lSp K spTokAt) := by
  refine fnW T.F__token_at sc__token_at (fun ws h R ex ⟨_, _, e, _⟩ => by rw [e]; rfl) fun cdv A outer s H E hr => ⟨_, (wss_cons (ws_set (i := 2) sc__token_at.nd (w_call (ok__word_at T) (hr.mono (by walk_at "rm")) (by rfl) T.g__word_at T.F__word_at.kp T.b__word_at (wa_cons (w_var 0) (wa_cons (w_var 1) wa_nil))))
    (wss_cons (ws_if (wt_cmp (ow_ne hr.units) lf_ne (w_var 2) (w_str z_) (nomark _)) (wss_one (ws_ret (w_ifExp (wt_val (w_call (ok__is_word T) (hr.mono (by walk_at "rm")) (by rfl) T.g__is_word T.F__is_word.kp T.b__is_word (wa_cons (w_var 2) wa_nil))) (w_var 2) (w_str z_)))) wss_nil)
    (wss_cons (ws_if (wt_cmp (ow_eq hr.units) lf_eq (w_slice (w_var 0) (wo_some (w_var 1)) (wo_some (w_op ow_add lf_add (w_var 1) w_int))) (w_str z_x2dx3e) (nomark _)) (wss_one (ws_ret (w_str z_x2dx3e))) wss_nil)
    (wss_one (ws_ret (w_ifExp (wt_cmp ow_in lf_in (w_ix (w_var 0) (w_var 1)) (w_globS signsS rfl T.c__SIGNS) (by rfl)) (w_ix (w_var 0) (w_var 1)) (w_str z_))))))), fun ws h R ex ⟨s, a, e, l, la, q⟩ => ?_⟩
  subst e
  have e0 : atI s (a : Int) = some s[a] := atI_nat (List.getElem?_eq_getElem la)
  have ed : s.drop a = s[a] :: s.drop (a + 1) := List.drop_eq_getElem_cons la
  have lw : ((s.drop a).takeWhile anB).length ≤ s.length := Nat.le_trans (List.takeWhile_sublist _).length_le (by simp)
  unfold tokAt at q
  walk_at "st"
  refine ⟨s, a, rfl, l, Nat.le_of_lt la, ?_⟩
  walk_at "st"
  refine go_ndec (fun c => ?_) (fun c => ?_)
  · rw [if_pos c] at q
    walk_at "st"
    refine ⟨_, rfl, by omega, ?_⟩
    cases e : wordB ((s.drop a).takeWhile anB) with
    | true => rw [e, if_pos rfl] at q; walk_at "st"; exact .of q
    | false => rw [e, if_neg Bool.false_ne_true] at q; walk_at "st"; exact .of q
  · rw [if_neg (by intro z; exact z c)] at q
    walk_at "st"
    have c2 : cut s (some (a : Int)) (some ((a : Int) + 2)) = (s.drop a).take 2 := by
      rw [show ((a : Int) + 2) = ((a + 2 : Nat) : Int) by omega, cut_nat, show a + 2 - a = 2 by omega]
    rw [c2]
    refine go_dec (fun d => ?_) (fun d => ?_)
    · rw [if_pos d] at q
      walk_at "st"
      exact .of q
    · rw [if_neg d] at q
      have hh : (s.drop a).headD 0 = s[a] := by rw [ed]; rfl
      rw [hh] at q
      walk_at "st"
      refine go_dec (fun d => ?_) (fun d => ?_)
      · rw [if_pos d] at q
        walk_at "st"
        exact .of q
      · rw [if_neg d] at q
        walk_at "st"
        exact .of q
theorem ok_divided_tokens (T : Tx P w K mg) : FnOk P w K mg base CX0 4 T.a_divided_tokens T.fd_divided_tokens ["text"] (lSp K spDivided) := by
  refine fnW T.F_divided_tokens sc_divided_tokens (fun ws h R ex ⟨_, e, _⟩ => by rw [e]; rfl) fun cdv A outer s H E hr => ⟨_, (wss_cons (ws_set (i := 1) sc_divided_tokens.nd (w_lstO wa_nil))
    (wss_cons (ws_set (i := 2) sc_divided_tokens.nd w_int)
    (wss_cons (ws_while PassesOwn.never (wt_cmp (rw := ltW) op_lt lf_cmp (w_var 2) (w_callB call_len lf_len (by rfl) T.m_len (by decide +kernel) (wa_cons (w_var 0) wa_nil)) (nomark _)) (wss_cons (ws_if (wt_cmp ow_in lf_in (w_ix (w_var 0) (w_var 2)) (w_globS z_x20x0a rfl T.c__BLANKS) (by rfl)) (wss_cons (ws_aug (i := 2) (rw := intW0 fun i j => i + j) sc_divided_tokens.nd w_int iop_add lf_int0)
    (wss_one ws_continue)) wss_nil)
    (wss_cons (ws_set (i := 3) sc_divided_tokens.nd (w_call (ok__token_at T) (hr.mono (by walk_at "rm")) (by rfl) T.g__token_at T.F__token_at.kp T.b__token_at (wa_cons (w_var 0) (wa_cons (w_var 2) wa_nil))))
    (wss_cons (ws_if (wt_cmp (ow_eq hr.units) lf_eq (w_var 3) (w_str z_) (nomark _)) (wss_one (ws_ret (w_tup (wa_cons (w_var 1) (wa_cons w_bl wa_nil))))) wss_nil)
    (wss_cons (ws_expr (w_bm PySem.F.plainAttrs_list PySem.F.slot_list_append PySem.F.type_list_append mt_append tyL_ok lf_append (w_var 1) (wa_cons (w_var 3) wa_nil)))
    (wss_one (ws_aug (i := 2) (rw := intW0 fun i j => i + j) sc_divided_tokens.nd (w_callB call_len lf_len (by rfl) T.m_len (by decide +kernel) (wa_cons (w_var 3) wa_nil)) iop_add lf_int0)))))))
    (wss_one (ws_ret (w_tup (wa_cons (w_var 1) (wa_cons w_bl wa_nil)))))))), fun ws h R ex ⟨s, e, l, q⟩ => ?_⟩
  subst e
  walk_at "st"
  intro p hp
  walk_at "st"
  refine go_while (fun m ρ' h' => ∃ (a : Nat) (ts : List (List Nat)), m = s.length - a ∧ a ≤ s.length ∧ ts.length ≤ a ∧ lex s = (ts ++ (lex (s.drop a)).1, (lex (s.drop a)).2) ∧ ρ' = [some (.str s), some (.ref p), some (.int (a : Nat)), none] ∧ h' = updW h p (.lst (strsW ts)))
    ⟨_, .of ⟨0, [], rfl, by simp, by simp, by simp, rfl, rfl⟩⟩ ?_
  rintro m ρ' h' ⟨a, ts, rfl, h1, h2, h3, rfl, rfl⟩
  have ls : (strsW ts).length = ts.length := by simp [strsW]
  walk_at "st"
  refine go_dec (fun c => ?_) (fun c => ?_)
  · have la : a < s.length := by omega
    have e0 : atI s (a : Int) = some s[a] := atI_nat (List.getElem?_eq_getElem la)
    have ed : s.drop a = s[a] :: s.drop (a + 1) := List.drop_eq_getElem_cons la
    have lt := tokAt_len (s.drop a)
    rw [List.length_drop] at lt
    walk_at "st"
    refine go_dec (fun d => ?_) (fun d => ?_)
    · walk_at "st"
      have d' : blankC s[a] := by simpa [z_x20x0a] using d
      refine ⟨_, _, ⟨s.length - (a + 1), by omega, a + 1, ts, rfl, la, by omega, ?_, rfl, rfl⟩, .same (.same (.same (.no .nil))), .refl _⟩
      rw [h3, ed, lex_blank d']
    · have d' : ¬ blankC s[a] := by simpa [z_x20x0a] using d
      walk_at "st"
      refine ⟨s, a, rfl, l, la, ?_⟩
      walk_at "st"
      refine go_dec (fun t0 => ?_) (fun t0 => ?_)
      · walk_at "st"
        have e2 : lex (s.drop a) = ([], false) := by rw [ed]; exact lex_bad d' (by rw [← ed]; exact t0)
        rw [h3, e2, List.append_nil] at q
        exact .mk q (.tup (.cons (.lst updW_same hp (.same _)) (.cons (.same _) .nil))) (.new hp)
      · walk_at "st"
        have e2 := lex_tok ed d' t0
        have l1 : (tokAt (s.drop a)).length ≠ 0 := fun z => t0 (List.length_eq_zero_iff.mp z)
        refine ⟨_, _, ⟨s.length - (a + (tokAt (s.drop a)).length), by omega, a + (tokAt (s.drop a)).length, ts ++ [tokAt (s.drop a)], rfl, by omega, by simp; omega, ?_, rfl, rfl⟩, .same (.same (.cons (fun _ e => ?_) (.no .nil))), ?_⟩
        · rw [h3, e2, List.drop_drop, List.append_assoc]; rfl
        · cases e; simp
        · rw [updW_upd]
          have e : strsW ts ++ [.str (tokAt (s.drop a))] = strsW (ts ++ [tokAt (s.drop a)]) := by simp [strsW]
          rw [e]; exact .refl _
  · walk_at "st"
    have e2 : s.drop a = [] := List.drop_of_length_le (by omega)
    rw [h3, e2, lex_nil, List.append_nil] at q
    exact .mk q (.tup (.cons (.lst updW_same hp (.same _)) (.cons (.same _) .nil))) (.new hp)
end

/-! ## what a text of tokens is read as -/
def tkB (s : List Nat) : Bool := (s.all anB && wordB s && decide (s.length ≤ 9)) || (decide (s = z_x2dx3e) || match s with | [c] => decide (c ∈ signsS) | _ => false)
abbrev IsTk (s : List Nat) : Prop := tkB s = true
def lastAn (s : List Nat) : Bool := match s.getLast? with | some c => anB c | none => false
/-- r may stand behind s -/
structure SepO (s r : List Nat) : Prop where
  an : lastAn s = true → anB (r.headD 32) = false
  gt : s = [45] → r.headD 32 ≠ 62
theorem an_eq (c : Nat) : anB c = true ↔ lowC c ∨ digC c ∨ upC c := by
  simp only [anB, Bool.or_eq_true, decide_eq_true_eq, mem_letters, mem_digits, mem_upper, or_assoc]
theorem an_blank {c : Nat} (h : blankC c) : anB c = false := by rcases h with rfl | rfl <;> rfl
theorem sign_an {c : Nat} (h : c ∈ signsS) : anB c = false := by
  simp only [signsS, List.mem_cons, List.not_mem_nil, or_false] at h
  rcases h with rfl | rfl | rfl | rfl | rfl | rfl | rfl | rfl | rfl | rfl | rfl | rfl <;> rfl
theorem sign_blank {c : Nat} (h : c ∈ signsS) : ¬ blankC c := by
  rintro (rfl | rfl) <;> exact absurd h (by decide)
theorem word_ne {s : List Nat} (h : wordB s = true) : s ≠ [] := by rintro rfl; exact absurd h (by decide)
theorem takeWhile_an {s r : List Nat} (h : ∀ c ∈ s, anB c = true) (hr : anB (r.headD 32) = false) : (s ++ r).takeWhile anB = s := by
  rw [List.takeWhile_append_of_pos h]
  cases r with
  | nil => simp
  | cons c r => rw [List.takeWhile_cons, if_neg (by rw [show anB c = false from hr]; exact Bool.false_ne_true), List.append_nil]
theorem last_an {s : List Nat} (n : s ≠ []) (h : ∀ c ∈ s, anB c = true) : lastAn s = true := by
  unfold lastAn
  rw [List.getLast?_eq_some_getLast n]
  exact h _ (List.getLast_mem n)
theorem take_no {c : Nat} {r : List Nat} (h : c = 45 → r.headD 32 ≠ 62) : ¬ (c :: r).take 2 = z_x2dx3e := by
  intro e
  cases r with
  | nil => exact absurd e (by simp [z_x2dx3e])
  | cons d r =>
    have e : [c, d] = [45, 62] := e
    cases e; exact h rfl rfl
theorem tk_cases {s : List Nat} (h : IsTk s) : ((∀ c ∈ s, anB c = true) ∧ wordB s = true ∧ s.length ≤ 9) ∨ s = z_x2dx3e ∨ ∃ c, s = [c] ∧ c ∈ signsS := by
  unfold IsTk tkB at h
  rw [Bool.or_eq_true, Bool.or_eq_true, Bool.and_eq_true, Bool.and_eq_true, List.all_eq_true, decide_eq_true_eq, decide_eq_true_eq] at h
  rcases h with ⟨⟨a, b⟩, c⟩ | h | h
  · exact .inl ⟨a, b, c⟩
  · exact .inr (.inl h)
  · refine .inr (.inr ?_)
    split at h
    · exact ⟨_, rfl, by simpa using h⟩
    · cases h
theorem tk_at {s r : List Nat} (h : IsTk s) (q : SepO s r) : tokAt (s ++ r) = s := by
  unfold tokAt
  rcases tk_cases h with ⟨a, b, _⟩ | rfl | ⟨c, rfl, hc⟩
  · have n := word_ne b
    rw [takeWhile_an a (q.an (last_an n a)), if_pos n, if_pos b]
  · rfl
  · have e : ([c] ++ r).takeWhile anB = [] := by rw [List.singleton_append, List.takeWhile_cons, if_neg (by rw [sign_an hc]; exact Bool.false_ne_true)]
    rw [e, if_neg (fun z => z rfl), List.singleton_append, if_neg (take_no fun z => q.gt (by rw [z])), if_pos (show (c :: r).headD 0 ∈ signsS from hc)]
    rfl
theorem tk_ne {s : List Nat} (h : IsTk s) : s ≠ [] := by
  rcases tk_cases h with ⟨_, b, _⟩ | rfl | ⟨c, rfl, hc⟩
  · exact word_ne b
  · decide
  · exact List.cons_ne_nil _ _
theorem tk_len {s : List Nat} (h : IsTk s) : s.length ≤ 9 := by
  rcases tk_cases h with ⟨_, _, c⟩ | rfl | ⟨c, rfl, hc⟩
  · exact c
  · decide
  · simp
theorem tk_hd {s : List Nat} (h : IsTk s) : ∃ c r, s = c :: r ∧ ¬ blankC c ∧ c ≠ 62 := by
  rcases tk_cases h with ⟨a, b, _⟩ | rfl | ⟨c, rfl, hc⟩
  · cases s with
    | nil => exact absurd rfl (word_ne b)
    | cons c r =>
      have ha := a c List.mem_cons_self
      refine ⟨c, r, rfl, fun z => ?_, fun z => ?_⟩
      · rw [an_blank z] at ha; cases ha
      · subst z; exact absurd ha (by decide)
  · exact ⟨_, _, rfl, by decide, by decide⟩
  · exact ⟨c, [], rfl, sign_blank hc, by rintro rfl; exact absurd hc (by decide)⟩
theorem lex_app {s r : List Nat} (h : IsTk s) (q : SepO s r) : lex (s ++ r) = (s :: (lex r).1, (lex r).2) := by
  obtain ⟨c, t, e, nb, _⟩ := tk_hd h
  have et := tk_at h q
  rw [lex_tok (c := c) (r := t ++ r) (by rw [e]; rfl) nb (by rw [et]; exact tk_ne h), et, List.drop_left]
theorem lex_blanks {g r : List Nat} (h : ∀ c ∈ g, blankC c) : lex (g ++ r) = lex r := by
  induction g with
  | nil => rfl
  | cons c g ih => rw [List.cons_append, lex_blank (h c List.mem_cons_self), ih fun d hd => h d (List.mem_cons_of_mem _ hd)]
theorem lex_len : ∀ (n : Nat) (s : List Nat), s.length ≤ n → (lex s).1.length ≤ s.length
  | _, [], _ => by rw [lex_nil]; simp
  | 0, c :: r, h => by simp at h
  | n + 1, c :: r, h => by
    simp only [List.length_cons] at h
    by_cases b : blankC c
    · rw [lex_blank b]; have := lex_len n r (by omega); simp; omega
    · by_cases e : tokAt (c :: r) = []
      · rw [lex_bad b e]; simp
      · rw [lex_tok rfl b e]
        have l1 : (tokAt (c :: r)).length ≠ 0 := fun z => e (List.length_eq_zero_iff.mp z)
        have l2 := tokAt_len (c :: r)
        have := lex_len n ((c :: r).drop (tokAt (c :: r)).length) (by simp; omega)
        simp only [List.length_cons, List.length_drop] at this l2 ⊢
        omega
/-- x is a text of the tokens ts, with blanks where they are needed -/
def Gd (x : List Nat) (ts : List (List Nat)) : Prop := ∀ r, SepO (ts.getLastD []) r → lex (x ++ r) = (ts ++ (lex r).1, (lex r).2)
theorem SepO.nil (r : List Nat) : SepO [] r := ⟨fun z => (nomatch z), fun z => nomatch z⟩
theorem SepO.blank {s r : List Nat} {c : Nat} (h : blankC c) : SepO s (c :: r) := ⟨fun _ => an_blank h, fun _ => (show c ≠ 62 by rcases h with rfl | rfl <;> decide)⟩
theorem SepO.end' (s : List Nat) : SepO s [] := ⟨fun _ => rfl, fun _ => by decide⟩
theorem Gd.start {g : List Nat} (h : ∀ c ∈ g, blankC c) : Gd g [] := fun r _ => by rw [lex_blanks h]; simp
theorem Gd_lex {x : List Nat} {ts : List (List Nat)} (h : Gd x ts) : lex x = (ts, true) := by
  have := h [] (.end' _)
  rw [List.append_nil, lex_nil, List.append_nil] at this
  exact this
theorem Gd.snoc {x g t : List Nat} {ts : List (List Nat)} (h : Gd x ts) (hg : ∀ c ∈ g, blankC c) (ht : IsTk t) (hs : g = [] → ∀ r, SepO (ts.getLastD []) (t ++ r)) : Gd (x ++ g ++ t) (ts ++ [t]) := fun r q => by
  rw [List.getLastD_concat] at q
  have s1 : SepO (ts.getLastD []) (g ++ (t ++ r)) := by
    cases g with
    | nil => exact hs rfl r
    | cons c g => exact .blank (hg c List.mem_cons_self)
  rw [List.append_assoc, List.append_assoc, List.append_assoc, h _ s1, lex_blanks hg, lex_app ht q]
  simp
theorem sep_of {s t r : List Nat} (ht : IsTk t) (h : ¬ (lastAn s = true ∧ anB (t.headD 0) = true)) : SepO s (t ++ r) := by
  obtain ⟨c, u, e, _, n⟩ := tk_hd ht
  subst e
  refine ⟨fun a => ?_, fun _ => n⟩
  cases e : anB c with
  | false => exact e
  | true => exact absurd ⟨a, e⟩ h
/-! ### pieces that are none -/
theorem bad_word {w r : List Nat} (n : w ≠ []) (a : ∀ c ∈ w, anB c = true) (b : wordB w = false) (hr : anB (r.headD 32) = false) : (lex (w ++ r)).2 = false := by
  cases w with
  | nil => exact absurd rfl n
  | cons c w =>
    have nb : ¬ blankC c := fun z => by have := a c List.mem_cons_self; rw [an_blank z] at this; cases this
    have e : tokAt (c :: (w ++ r)) = [] := by
      unfold tokAt
      rw [show c :: (w ++ r) = (c :: w) ++ r from rfl, takeWhile_an a hr, if_pos n, if_neg (by rw [b]; exact Bool.false_ne_true)]
    rw [List.cons_append, lex_bad nb e]
theorem bad_sign {c : Nat} {r : List Nat} (a : anB c = false) (n : c ∉ signsS) (nb : ¬ blankC c) : (lex (c :: r)).2 = false := by
  have e : tokAt (c :: r) = [] := by
    have e0 : (c :: r).takeWhile anB = [] := by rw [List.takeWhile_cons, if_neg (by rw [a]; exact Bool.false_ne_true)]
    unfold tokAt
    rw [e0, if_neg (fun z => z rfl), if_neg (take_no fun (z : c = 45) => absurd (by rw [z]; decide) n), if_neg (show ¬ (c :: r).headD 0 ∈ signsS from n)]
  rw [lex_bad nb e]
theorem bad_tok {s r : List Nat} (h : IsTk s) (q : SepO s r) (e : (lex r).2 = false) : (lex (s ++ r)).2 = false := by rw [lex_app h q]; exact e
theorem Gd.bad {x r : List Nat} {ts : List (List Nat)} (h : Gd x ts) (e : (lex r).2 = false) : (lex (x ++ 32 :: r)).2 = false := by
  rw [h _ (.blank (.inl rfl)), lex_blank (.inl rfl)]; exact e

/-! ## the cursor -/
theorem tokAt_tk (s : List Nat) (h : tokAt s ≠ []) : IsTk (tokAt s) := by
  unfold tokAt at h ⊢
  split
  · rename_i e
    rw [if_pos e] at h
    split
    · rename_i w
      have a : ∀ c ∈ s.takeWhile anB, anB c = true := fun c hc => by
        have : ∀ l : List Nat, c ∈ l.takeWhile anB → anB c = true := fun l => by
          induction l with
          | nil => intro z; cases z
          | cons x l ih =>
            intro z
            rw [List.takeWhile_cons] at z
            split at z
            · rcases List.mem_cons.mp z with rfl | z
              · assumption
              · exact ih z
            · cases z
        exact this s hc
      have l9 : (s.takeWhile anB).length ≤ 9 := by
        simp only [wordB, Bool.or_eq_true, decide_eq_true_eq] at w
        rcases w with w | w | w | w
        · rw [w]; decide
        · rcases w with w | w | w <;> rw [w] <;> decide
        · exact Nat.le_succ_of_le (nmB_iff.mp w).nm.len
        · simp only [numB, Bool.and_eq_true, decide_eq_true_eq] at w; exact w.1.2
      unfold IsTk tkB
      rw [List.all_eq_true.mpr a, w, decide_eq_true l9]; rfl
    · rename_i w; rw [if_neg w] at h; exact absurd rfl h
  · rename_i e
    rw [if_neg e] at h
    split
    · decide
    · rename_i e2
      rw [if_neg e2] at h
      split
      · rename_i m
        unfold IsTk tkB
        simp only [Bool.or_eq_true]
        right; right
        exact decide_eq_true m
      · rename_i m; rw [if_neg m] at h; exact absurd rfl h
theorem lex_tk : ∀ (n : Nat) (s : List Nat), s.length ≤ n → ∀ t ∈ (lex s).1, IsTk t
  | 0, s, h => by
    have : s = [] := List.length_eq_zero_iff.mp (Nat.le_zero.mp h)
    subst this; rw [lex_nil]; intro t ht; cases ht
  | n + 1, [], h => by rw [lex_nil]; intro t ht; cases ht
  | n + 1, c :: r, h => by
    intro t ht
    have hr : r.length ≤ n := by simpa using h
    by_cases b : blankC c
    · rw [lex_blank b] at ht; exact lex_tk n r hr t ht
    · by_cases e : tokAt (c :: r) = []
      · rw [lex_bad b e] at ht; cases ht
      · rw [lex_tok rfl b e] at ht
        rcases List.mem_cons.mp ht with rfl | ht
        · exact tokAt_tk _ e
        · refine lex_tk n _ ?_ t ht
          have : (tokAt (c :: r)).length ≠ 0 := fun z => e (List.length_eq_zero_iff.mp z)
          simp only [List.length_drop, List.length_cons]; omega
theorem tkc_asc {s : List Nat} (h : IsTk s) : ∀ c ∈ s, c < 128 := by
  intro c hc
  rcases tk_cases h with ⟨a, _, _⟩ | rfl | ⟨d, rfl, hd⟩
  · rcases (an_eq c).mp (a c hc) with z | z | z <;> omega
  · simp only [z_x2dx3e, List.mem_cons, List.not_mem_nil, or_false] at hc; omega
  · simp only [List.mem_singleton] at hc; subst hc
    simp only [signsS, List.mem_cons, List.not_mem_nil, or_false] at hd; omega
/-- the change of what is open -/
def opn (t : List Nat) : Int := if t = z_x28 ∨ t = wLet then 1 else if t = z_x29 ∨ t = wIn then -1 else 0
theorem opn_le (t : List Nat) : (opn t).natAbs ≤ 1 := by
  unfold opn
  split
  · decide
  · split <;> decide
theorem any2 (a b t : List Nat) : ([W.str a, .str b].any fun w => eqF w (.str t)) = decide (t = a ∨ t = b) := by
  show (decide (a = t) || (decide (b = t) || false)) = _
  rw [Bool.eq_iff_iff]
  simp only [Bool.or_eq_true, decide_eq_true_eq, Bool.or_false]
  exact ⟨fun h => h.elim (fun e => .inl e.symm) fun e => .inr e.symm, fun h => h.elim (fun e => .inl e.symm) fun e => .inr e.symm⟩
/-- never more than 60 are open -/
def deepB : Int → List (List Nat) → Bool
  | _, [] => true
  | b, t :: r => decide (b + opn t ≤ 60) && deepB (b + opn t) r
def TsOk (ts : List (List Nat)) : Prop := (∀ t ∈ ts, IsTk t) ∧ ts.length ≤ 1000000
theorem tsOk_lex {s : List Nat} (h : s.length ≤ 1000000) : TsOk (lex s).1 := ⟨lex_tk _ s (Nat.le_refl _), Nat.le_trans (lex_len _ s (Nat.le_refl _)) h⟩
theorem TsOk.at {ts : List (List Nat)} (h : TsOk ts) (i : Nat) : (∀ c ∈ ts.getD i [], c < 128) ∧ (ts.getD i []).length ≤ 9 := by
  rw [List.getD_eq_getElem?_getD]
  cases e : ts[i]? with
  | none => exact ⟨fun _ z => (nomatch z), Nat.zero_le _⟩
  | some t => have := h.1 t (List.mem_of_getElem? e); exact ⟨tkc_asc this, tk_len this⟩
abbrev curO (ts : List (List Nat)) (i : Nat) : List (Str × W) := [("tokens", .lst (strsW ts)), ("at", .int (i : Nat))]
abbrev cur (aC : Addr) (ts : List (List Nat)) (i : Nat) : OW := .ins aC (curO ts i)
theorem cur_put (ts : List (List Nat)) (i : Nat) : putFW "at" (.int ((i : Int) + 1)) (curO ts i) = curO ts (i + 1) := rfl
def spRefuse (aL : Addr) : SpW := fun ws h R ex => ∃ ts, ws = [.lst (strsW ts)] ∧ ts.length ≤ 1000000 ∧ if deepB 0 ts = true then R .non h else ∀ h', Sub h h' → ex ⟨aL, none⟩ h'
def spInit (aC aI aL : Addr) : SpW := fun ws h R ex => ∃ (c : Addr) (s : List Nat), ws = [.ref c, .str s] ∧ s.length ≤ 1000000 ∧ h c = some (.ins aC []) ∧
  if deepB 0 (lex s).1 = true then (if (lex s).2 = true then R .non (updW h c (cur aC (lex s).1 0)) else ex ⟨aI, none⟩ h) else ∀ h', Sub h h' → ex ⟨aL, none⟩ h'
def spAhead (aC : Addr) : SpW := fun ws h R _ => ∃ (c : Addr) (ts : List (List Nat)) (i : Nat), ws = [.ref c] ∧ h c = some (cur aC ts i) ∧ R (.str (ts.getD i [])) h
def spTaken (aC : Addr) : SpW := fun ws h R _ => ∃ (c : Addr) (ts : List (List Nat)) (i : Nat), ws = [.ref c] ∧ h c = some (cur aC ts i) ∧ R (.str (ts.getD i [])) (updW h c (cur aC ts (i + 1)))
def needK (aC aI c : Addr) (ts : List (List Nat)) (i : Nat) (t : List Nat) (h : HW) (R : KW) (ex : XW → HW → Prop) : Prop :=
  if ts.getD i [] = t then R .non (updW h c (cur aC ts (i + 1))) else ex ⟨aI, none⟩ (updW h c (cur aC ts (i + 1)))
def spNeed (aC aI : Addr) : SpW := fun ws h R ex => ∃ (c : Addr) (ts : List (List Nat)) (i : Nat) (t : List Nat), ws = [.ref c, .str t] ∧ h c = some (cur aC ts i) ∧ TsOk ts ∧ i ≤ 1000000 ∧ IsTk t ∧ needK aC aI c ts i t h R ex
def spNeedEnd (aC aI : Addr) : SpW := fun ws h R ex => ∃ (c : Addr) (ts : List (List Nat)) (i : Nat), ws = [.ref c] ∧ h c = some (cur aC ts i) ∧ i ≤ 1000000 ∧ if i < ts.length then ex ⟨aI, none⟩ h else R .non h
section
variable {P : Program} {w : World} {K : PySem.W.Frag} {mg : Str → Option Value} {base : Heap}
theorem ok_Cursor_ahead (T : Tx P w K mg) : FnOk P w K mg base CX0 1 T.a_Cursor_ahead T.fd_Cursor_ahead ["self"] (lSp K (spAhead T.aC_Cursor)) := by
  refine fnW T.F_Cursor_ahead sc_Cursor_ahead (fun ws h R ex ⟨_, _, _, e, _⟩ => by rw [e]; rfl) fun cdv A outer s H E hr => ⟨_, (wss_one (ws_ret (w_ifExp (wt_cmp (rw := ltW) op_lt lf_cmp (w_fld T.cls_Cursor T.na_Cursor_at (w_var 0)) (w_callB call_len lf_len (by rfl) T.m_len (by decide +kernel) (wa_cons (w_fld T.cls_Cursor T.na_Cursor_tokens (w_var 0)) wa_nil)) (nomark _)) (w_ix (w_fld T.cls_Cursor T.na_Cursor_tokens (w_var 0)) (w_fld T.cls_Cursor T.na_Cursor_at (w_var 0))) (w_str z_)))), fun ws h R ex ⟨c, ts, i, e, hc, q⟩ => ?_⟩
  subst e
  have ls : (strsW ts).length = ts.length := by simp [strsW]
  walk_at "st"
  refine go_dec (fun c1 => ?_) (fun c1 => ?_)
  · have hi : i < ts.length := by rw [ls] at c1; omega
    have e0 : atI (strsW ts) (i : Int) = some (.str ts[i]) := atI_nat (by rw [strsW, List.getElem?_map, List.getElem?_eq_getElem hi]; rfl)
    rw [List.getD_eq_getElem?_getD, List.getElem?_eq_getElem hi] at q
    walk_at "st"
    exact .of q
  · have hi : ts.length ≤ i := by rw [ls] at c1; omega
    rw [List.getD_eq_getElem?_getD, List.getElem?_eq_none hi] at q
    walk_at "st"
    exact .of q
theorem ok_Cursor_taken (T : Tx P w K mg) : FnOk P w K mg base CX0 2 T.a_Cursor_taken T.fd_Cursor_taken ["self"] (lSp K (spTaken T.aC_Cursor)) := by
  refine fnW T.F_Cursor_taken sc_Cursor_taken (fun ws h R ex ⟨_, _, _, e, _⟩ => by rw [e]; rfl) fun cdv A outer s H E hr => ⟨_, (wss_cons (ws_set (i := 1) sc_Cursor_taken.nd (w_meth0G T.cls_Cursor T.m_Cursor_ahead (ok_Cursor_ahead T) (hr.mono (by walk_at "rm")) T.b_Cursor_ahead pass0 (fun _ _ _ => el_no) (w_var 0)))
    (wss_cons (ws_fldaug (rw := intW0 fun i j => i + j) T.cls_Cursor T.na_Cursor_at (w_var 0) w_int iop_add lf_int0)
    (wss_one (ws_ret (w_var 1))))), fun ws h R ex ⟨c, ts, i, e, hc, q⟩ => ?_⟩
  subst e
  walk_at "st"
  refine ⟨c, ts, i, rfl, hc, ?_⟩
  walk_at "st"
  rw [cur_put]
  walk_at "st"
  exact .of q
theorem ok_Cursor_need (T : Tx P w K mg) : FnOk P w K mg base (L2.CX P w) 3 T.a_Cursor_need T.fd_Cursor_need ["self", "token"] (lSp K (spNeed T.aC_Cursor T.aC_InvalidText)) := by
  refine fnWX T.F_Cursor_need sc_Cursor_need (fun ws h R ex ⟨_, _, _, _, e, _⟩ => by rw [e]; rfl) fun cdv A outer s H E ex hr => ⟨_, (wss_cons (ws_set (i := 2) sc_Cursor_need.nd (w_meth0G T.cls_Cursor T.m_Cursor_taken (ok_Cursor_taken T) (hr.mono (by walk_at "rm")) T.b_Cursor_taken pass0 (fun _ _ _ => el_no) (w_var 0)))
    (wss_one (ws_if (wt_cmp (ow_ne hr.units) lf_ne (w_var 2) (w_var 1) (nomark _)) (wss_one (ws_raise rfl (takes_of rfl rfl rfl rfl) T.x_InvalidText T.gC_InvalidText T.k_InvalidText T.b_InvalidText T.t_InvalidText (by rfl) (w_joined (.cons (w_str z_tokenx20) (.cons (w_fmt (w_fld T.cls_Cursor T.na_Cursor_at (w_var 0))) (.cons (w_str z_x20isx20) (.cons (w_fmtR (w_var 2)) (.cons (w_str z_x20andx20shouldx20bex20) (.cons (w_fmtR (w_var 1)) .nil))))))))) wss_nil))), fun ws h R ⟨c, ts, i, t, e, hc, ok, hi, tk, q⟩ => ?_⟩
  subst e
  obtain ⟨a1, a2⟩ := ok.at i
  unfold needK at q
  walk_at "st"
  refine ⟨c, ts, i, rfl, hc, ?_⟩
  walk_at "st"
  refine go_ndec (fun c1 => ?_) (fun c1 => ?_)
  · rw [if_neg c1] at q
    walk_at "st"
    refine go_fmtI (l2 (by omega)) ?_
    have l3 := decS_len' (i := ((i + 1 : Nat) : Int)) (by omega)
    have l4 := tk_len tk
    walk_at "st"
    refine go_fmtR (fun x hx => Nat.lt_trans (a1 x hx) (by decide)) (by omega) fun r lr => ?_
    walk_at "st"
    refine go_fmtR (fun x hx => Nat.lt_trans (tkc_asc tk x hx) (by decide)) (by omega) fun r2 lr2 => ?_
    walk_at "st"
    exact q
  · rw [if_pos c1] at q
    walk_at "st"
    exact .of q
theorem ok__refuse_deep (T : Tx P w K mg) : FnOk P w K mg base (L2.CX P w) 1 T.a__refuse_deep T.fd__refuse_deep ["tokens"] (lSp K (spRefuse T.aC_TooLarge)) := by
  refine fnWX T.F__refuse_deep sc__refuse_deep (fun ws h R ex ⟨_, e, _⟩ => by rw [e]; rfl) fun cdv A outer s H E ex hr => ⟨_, (wss_cons (ws_set (i := 1) sc__refuse_deep.nd w_int)
    (wss_one (ws_for (passes_of rfl) rfl (wi_list (w_var 0)) (wg_name (i := 2) sc__refuse_deep.nd) (wss_cons (ws_if (wt_cmp ow_in lf_in (w_var 2) (w_tup (wa_cons (w_str z_x28) (wa_cons (w_str wLet) wa_nil))) (by rfl)) (wss_one (ws_aug (i := 1) (rw := intW0 fun i j => i + j) sc__refuse_deep.nd w_int iop_add lf_int0)) (wss_one (ws_if (wt_cmp ow_in lf_in (w_var 2) (w_tup (wa_cons (w_str z_x29) (wa_cons (w_str wIn) wa_nil))) (by rfl)) (wss_one (ws_aug (i := 1) (rw := subW) sc__refuse_deep.nd w_int iop_sub lf_int0)) wss_nil)))
    (wss_one (ws_if (wt_cmp (rw := gtW) op_gt lf_cmp (w_var 1) (w_globI rfl T.c__MOST_BEGUN) (nomark _)) (wss_one (ws_raise rfl (takes_of rfl rfl rfl rfl) T.x_TooLarge T.gC_TooLarge T.k_TooLarge T.b_TooLarge T.t_TooLarge (by rfl) (w_joined (.cons (w_str z_morex20thanx20) (.cons (w_fmt (w_globI rfl T.c__MOST_BEGUN)) (.cons (w_str z_x20parenthesesx20andx20letx20arex20begunx20andx20notx20ended) .nil)))))) wss_nil)))))), fun ws h R ⟨ts, e, l, q⟩ => ?_⟩
  subst e
  walk_at "st"
  dsimp only [EndsW.wn]
  refine go_forL (strsW ts) (fun R q => by walk_at "st"; exact q)
    (fun i ρ' h' => ∃ b : Int, b.natAbs ≤ i ∧ deepB 0 ts = deepB b (ts.drop i) ∧ ρ' = [some (.lst (strsW ts)), some (.int b), none] ∧ h' = h)
    (.of ⟨0, by simp, by simp, rfl, rfl⟩) ?_ ?_
  · rintro i v ρ' h' hv ⟨b, hb, hd, rfl, rfl⟩
    have hi : i < ts.length := by have := (List.getElem?_eq_some_iff.mp hv).1; simpa [strsW] using this
    have ev : v = .str ts[i] := by rw [strsW, List.getElem?_map, List.getElem?_eq_getElem hi] at hv; exact (Option.some.inj hv).symm
    subst ev
    rw [List.drop_eq_getElem_cons hi] at hd
    generalize ts[i] = t at hd
    have fin : ∀ b' : Int, b' = b + opn t → CN (fun ρ2 h2 => ∃ b : Int, b.natAbs ≤ i + 1 ∧ deepB 0 ts = deepB b (ts.drop (i + 1)) ∧ ρ2 = [some (.lst (strsW ts)), some (.int b), none] ∧ h2 = h') [some (.lst (strsW ts)), some (.int b'), some (.str t)] h' ∨ ¬ b' ≤ 60 := fun b' eb => by
      by_cases z : b' ≤ 60
      · left
        refine ⟨_, _, ⟨b', ?_, ?_, rfl, rfl⟩, .same (.same (.no .nil)), .refl _⟩
        · have : (opn t).natAbs ≤ 1 := opn_le t
          omega
        · rw [hd, deepB, ← eb, decide_eq_true z, Bool.true_and]
      · exact .inr z
    have tail : ∀ b' : Int, b' = b + opn t → b'.natAbs ≤ 2000000 → (sIf (oTest (oOp gtW (oVar 1) (oC (.int 60)))) (sRaise T.aC_TooLarge ex (oJoin [oC (.str z_morex20thanx20), oUn fmtW (oC (.int 60)), oC (.str z_x20parenthesesx20andx20letx20arex20begunx20andx20notx20ended)])) sNext) ((({ nx := fun x h' => Wl.Cl R W.non h', rt := Wl.Cl R } : EndsW)).lp (CN fun ρ2 h2 => ∃ b : Int, b.natAbs ≤ i + 1 ∧ deepB 0 ts = deepB b (ts.drop (i + 1)) ∧ ρ2 = [some (.lst (strsW ts)), some (.int b), none] ∧ h2 = h') (fun x h' => Wl.Cl R W.non h')) [some (.lst (strsW ts)), some (.int b'), some (.str t)] h' := fun b' eb lb => by
      walk_at "st"
      refine go_dec (fun c1 => ?_) (fun c1 => ?_)
      · walk_at "st"
        refine go_fmtI (l2 (by decide)) ?_
        have l3 := decS_len' (i := 60) (by decide)
        walk_at "st"
        have : deepB 0 ts = false := by rw [hd, deepB, ← eb, decide_eq_false (by omega), Bool.false_and]
        rw [this, if_neg Bool.false_ne_true] at q
        exact q h' (.refl _)
      · walk_at "st"
        exact (fin b' eb).resolve_right (by omega)
    walk_at "st"
    rw [any2]
    refine go_dec (fun c1 => ?_) (fun c1 => ?_)
    · walk_at "st"
      exact tail _ (by unfold opn; rw [if_pos c1]) (by omega)
    · walk_at "st"
      rw [any2]
      refine go_dec (fun c2 => ?_) (fun c2 => ?_)
      · walk_at "st"
        exact tail _ (by unfold opn; rw [if_neg c1, if_pos c2]; omega) (by omega)
      · walk_at "st"
        exact tail _ (by unfold opn; rw [if_neg c1, if_neg c2]; omega) (by omega)
  · rintro ρ' h' ⟨b, hb, hd, rfl, rfl⟩
    rw [show (strsW ts).length = ts.length by simp [strsW], List.drop_length] at hd
    rw [hd, show deepB b [] = true from rfl, if_pos rfl] at q
    exact .of q
theorem ok_Cursor___init__ (T : Tx P w K mg) : FnOk P w K mg base (L2.CX P w) 5 T.a_Cursor___init__ T.fd_Cursor___init__ ["self", "text"] (lSp K (spInit T.aC_Cursor T.aC_InvalidText T.aC_TooLarge)) := by
  refine fnWX T.F_Cursor___init__ sc_Cursor___init__ (fun ws h R ex ⟨_, _, e, _⟩ => by rw [e]; rfl) fun cdv A outer s H E ex hr => ⟨_, (wss_cons (ws_asg (w_call (ok_divided_tokens T) (hr.mono (by walk_at "rm")) (by rfl) T.g_divided_tokens T.F_divided_tokens.kp T.b_divided_tokens (wa_cons (w_var 1) wa_nil)) (wg_tup rfl (wgs_cons (wg_name (i := 2) sc_Cursor___init__.nd) (wgs_cons (wg_name (i := 3) sc_Cursor___init__.nd) wgs_nil))))
    (wss_cons (ws_expr (w_callX (ok__refuse_deep T) (hr.mono (by walk_at "rm")) (by rfl) T.g__refuse_deep T.F__refuse_deep.kp T.b__refuse_deep (takes_of rfl rfl rfl rfl) (wa_cons (w_var 2) wa_nil)))
    (wss_cons (ws_if (wt_not (wt_val (w_var 3))) (wss_one (ws_raise rfl (takes_of rfl rfl rfl rfl) T.x_InvalidText T.gC_InvalidText T.k_InvalidText T.b_InvalidText T.t_InvalidText (by rfl) (w_joined (.cons (w_str z_therex20isx20nox20tokenx20behindx20) (.cons (w_fmt (w_callB call_len lf_len (by rfl) T.m_len (by decide +kernel) (wa_cons (w_var 2) wa_nil))) (.cons (w_str z_x20tokens) .nil)))))) wss_nil)
    (wss_cons (ws_fld T.cls_Cursor T.na_Cursor_tokens (w_var 0) (w_var 2))
    (wss_one (ws_fld T.cls_Cursor T.na_Cursor_at (w_var 0) w_int)))))), fun ws h R ⟨c, x, e, l, hc, q⟩ => ?_⟩
  subst e
  have ll := lex_len _ x (Nat.le_refl _)
  have lw : (strsW (lex x).1).length = (lex x).1.length := by simp [strsW]
  walk_at "st"
  refine ⟨x, rfl, l, ?_⟩
  walk_at "st"
  refine ⟨(lex x).1, rfl, by omega, ?_⟩
  cases e1 : deepB 0 (lex x).1 with
  | false => rw [e1, if_neg Bool.false_ne_true] at q; rw [if_neg Bool.false_ne_true]; exact q
  | true =>
    rw [e1, if_pos rfl] at q
    rw [if_pos rfl]
    cases e2 : (lex x).2 with
    | false =>
      rw [e2, if_neg Bool.false_ne_true] at q
      walk_at "st"
      refine go_fmtI (l2 (by omega)) ?_
      have l3 := decS_len' (i := ((strsW (lex x).1).length : Int)) (by omega)
      walk_at "st"
      exact q
    | true =>
      rw [e2, if_pos rfl] at q
      walk_at "st"
      rw [updW_upd]
      exact .of q
end

/-! ## kinds and terms -/
inductive Kd where
  | int | bang (a : Kd) | fn (a b : Kd) | pr (a b : Kd)
def Kd.w : Kd → W
  | .int => .tup [.str z_int]
  | .bang a => .tup [.str z_bang, a.w]
  | .fn a b => .tup [.str z_fun, a.w, b.w]
  | .pr a b => .tup [.str z_pair, a.w, b.w]
def Kd.dep : Kd → Nat
  | .int => 1
  | .bang a => a.dep + 1
  | .fn a b => max a.dep b.dep + 1
  | .pr a b => max a.dep b.dep + 1
inductive Tm where
  | var (x : List Nat) | num (n : Int) | op (s : Nat) (a b : Tm) | lam (x : List Nat) (k : Kd) (b : Tm) | app (a b : Tm) | box (a : Tm)
  | lt (x : List Nat) (a b : Tm) | pr (a b : Tm) | sp (x y : List Nat) (a b : Tm)
def Tm.w : Tm → W
  | .var x => .tup [.str z_var, .str x]
  | .num n => .tup [.str z_num, .int n]
  | .op s a b => .tup [.str z_op, .str [s], a.w, b.w]
  | .lam x k b => .tup [.str z_lam, .str x, k.w, b.w]
  | .app a b => .tup [.str z_app, a.w, b.w]
  | .box a => .tup [.str z_box, a.w]
  | .lt x a b => .tup [.str wLet, .str x, a.w, b.w]
  | .pr a b => .tup [.str z_pair, a.w, b.w]
  | .sp x y a b => .tup [.str z_split, .str x, .str y, a.w, b.w]
def Tm.parts : Tm → List Tm
  | .var _ => [] | .num _ => []
  | .op _ a b => [a, b] | .lam _ _ b => [b] | .app a b => [a, b] | .box a => [a]
  | .lt _ a b => [a, b] | .pr a b => [a, b] | .sp _ _ a b => [a, b]
def Tm.size : Tm → Nat
  | .var _ => 1 | .num _ => 1
  | .op _ a b => a.size + b.size + 1 | .lam _ _ b => b.size + 1 | .app a b => a.size + b.size + 1 | .box a => a.size + 1
  | .lt _ a b => a.size + b.size + 1 | .pr a b => a.size + b.size + 1 | .sp _ _ a b => a.size + b.size + 1
def Tm.dep : Tm → Nat
  | .var _ => 1 | .num _ => 1
  | .op _ a b => max a.dep b.dep + 1 | .lam _ _ b => b.dep + 1 | .app a b => max a.dep b.dep + 1 | .box a => a.dep + 1
  | .lt _ a b => max a.dep b.dep + 1 | .pr a b => max a.dep b.dep + 1 | .sp _ _ a b => max a.dep b.dep + 1
/-- what is said of each node -/
def Tm.Ok (N : List Nat → Prop) (I : Int → Prop) (Kp : Kd → Prop) : Tm → Prop
  | .var x => N x | .num n => I n
  | .op s a b => s ∈ [43, 45, 42] ∧ a.Ok N I Kp ∧ b.Ok N I Kp | .lam x k b => N x ∧ Kp k ∧ b.Ok N I Kp | .app a b => a.Ok N I Kp ∧ b.Ok N I Kp | .box a => a.Ok N I Kp
  | .lt x a b => N x ∧ a.Ok N I Kp ∧ b.Ok N I Kp | .pr a b => a.Ok N I Kp ∧ b.Ok N I Kp | .sp x y a b => N x ∧ N y ∧ a.Ok N I Kp ∧ b.Ok N I Kp
theorem fn_false {P : Program} {w : World} {K : PySem.W.Frag} {mg : Str → Option Value} {base : Heap} {CX : CXT} {k : Nat} {f : Addr} {fd : FuncData} {ps : List Str} {sp : SpW} (no : ∀ ws h R ex, ¬ sp ws h R ex) : FnOk P w K mg base CX k f fd ps (lSp K sp) :=
  ⟨fun _ _ _ _ ⟨_, _, _, _, _, _, q, _⟩ => (no _ _ _ _ q).elim, fun _ _ _ _ _ _ _ _ _ _ _ _ _ ⟨_, _, _, _, _, _, q, _⟩ => (no _ _ _ _ q).elim⟩
/-! ### a drawn kind -/
/-- some kind of at most this depth; n bounds the depth of calls -/
def spKind (n : Nat) : SpW := fun ws h R _ => ∃ (i : Nat) (d : Nat), ws = [.int (i : Nat), .int (d : Nat)] ∧ d < n ∧ ∀ k : Kd, k.dep ≤ d + 1 → R k.w h
section
variable {P : Program} {w : World} {K : PySem.W.Frag} {mg : Str → Option Value} {base : Heap}
theorem ok__law_any_kind (T : Tx P w K mg) : ∀ n, FnOk P w K mg base CX0 n T.a__law_any_kind T.fd__law_any_kind ["number", "deep"] (lSp K (spKind n))
  | 0 => fn_false fun ws h R ex ⟨_, _, _, z, _⟩ => absurd z (Nat.not_lt_zero _)
  | n + 1 => by
    have ih := ok__law_any_kind T n
    refine fnW T.F__law_any_kind sc__law_any_kind (fun ws h R ex ⟨_, _, e, _⟩ => by rw [e]; rfl) fun cdv A outer s H E hr => ⟨_, (wss_cons (ws_set (i := 2) sc__law_any_kind.nd (w_op (rw := modW) op_mod lf_int (w_callTy call_int1 lf_toInt (by rfl) T.m_int (by decide +kernel) (wa_cons (w_var 0) wa_nil)) w_int))
    (wss_cons (ws_if (wt_bool (ww_or (wt_cmp (ow_eq hr.units) lf_eq (w_var 1) w_int (nomark _)) (ww_or1 (wt_cmp (rw := ltW) op_lt lf_cmp (w_var 2) w_int (nomark _))))) (wss_one (ws_ret (w_tup (wa_cons (w_str z_int) wa_nil)))) wss_nil)
    (wss_cons (ws_if (wt_cmp (ow_eq hr.units) lf_eq (w_var 2) w_int (nomark _)) (wss_one (ws_ret (w_tup (wa_cons (w_str z_bang) (wa_cons (w_call ih (hr.mono (by walk_at "rm")) (by rfl) T.g__law_any_kind T.F__law_any_kind.kp T.b__law_any_kind (wa_cons (w_op (rw := fdivW) op_fdiv lf_int (w_var 0) w_int) (wa_cons (w_op (rw := subW) op_sub lf_int0 (w_var 1) w_int) wa_nil))) wa_nil))))) wss_nil)
    (wss_cons (ws_set (i := 3) sc__law_any_kind.nd (w_call ih (hr.mono (by walk_at "rm")) (by rfl) T.g__law_any_kind T.F__law_any_kind.kp T.b__law_any_kind (wa_cons (w_op (rw := fdivW) op_fdiv lf_int (w_var 0) w_int) (wa_cons (w_op (rw := subW) op_sub lf_int0 (w_var 1) w_int) wa_nil))))
    (wss_cons (ws_set (i := 4) sc__law_any_kind.nd (w_call ih (hr.mono (by walk_at "rm")) (by rfl) T.g__law_any_kind T.F__law_any_kind.kp T.b__law_any_kind (wa_cons (w_op (rw := fdivW) op_fdiv lf_int (w_var 0) w_int) (wa_cons (w_op (rw := subW) op_sub lf_int0 (w_var 1) w_int) wa_nil))))
    (wss_one (ws_ret (w_tup (wa_cons (w_ix (w_lst (wa_cons (w_str z_fun) (wa_cons (w_str z_fun) (wa_cons (w_str z_pair) wa_nil)))) (w_op (rw := subW) op_sub lf_int0 (w_var 2) w_int)) (wa_cons (w_var 3) (wa_cons (w_var 4) wa_nil))))))))))), fun ws h R ex ⟨i, d, e, hd, q⟩ => ?_⟩
    subst e
    have out : ∀ k : Kd, k.dep ≤ d + 1 → Wl.Cl R k.w h := fun k hk => .of (q k hk)
    walk_at "st"
    refine go_dec (fun c0 => ?_) (fun c0 => ?_)
    · walk_at "st"
      exact out .int (by simp [Kd.dep])
    walk_at "st"
    refine go_dec (fun c1 => ?_) (fun c1 => ?_)
    · walk_at "st"
      exact out .int (by simp [Kd.dep])
    have e6 : (i : Int) / 6 = ((i / 6 : Nat) : Int) := by omega
    have e216 : (i : Int) / 216 = ((i / 216 : Nat) : Int) := by omega
    have ed : (d : Int) - 1 = ((d - 1 : Nat) : Int) := by omega
    walk_at "st"
    refine go_dec (fun c2 => ?_) (fun c2 => ?_)
    · walk_at "st"
      refine ⟨i / 6, d - 1, by rw [e6, ed], by omega, fun k hk => ?_⟩
      walk_at "st"
      exact out (.bang k) (by simp only [Kd.dep]; omega)
    · walk_at "st"
      refine ⟨i / 6, d - 1, by rw [e6, ed], by omega, fun a ha => ?_⟩
      walk_at "st"
      refine ⟨i / 216, d - 1, by rw [e216, ed], by omega, fun b hb => ?_⟩
      walk_at "st"
      rcases (by omega : (i : Int) % 6 - 3 = ((0 : Nat) : Int) ∨ (i : Int) % 6 - 3 = ((1 : Nat) : Int) ∨ (i : Int) % 6 - 3 = ((2 : Nat) : Int)) with e | e | e
      · have e3 : atI [W.str z_fun, .str z_fun, .str z_pair] ((i : Int) % 6 - 3) = some (.str z_fun) := by rw [e]; exact atI_nat rfl
        walk_at "st"
        exact out (.fn a b) (by simp only [Kd.dep]; omega)
      · have e3 : atI [W.str z_fun, .str z_fun, .str z_pair] ((i : Int) % 6 - 3) = some (.str z_fun) := by rw [e]; exact atI_nat rfl
        walk_at "st"
        exact out (.fn a b) (by simp only [Kd.dep]; omega)
      · have e3 : atI [W.str z_fun, .str z_fun, .str z_pair] ((i : Int) % 6 - 3) = some (.str z_pair) := by rw [e]; exact atI_nat rfl
        walk_at "st"
        exact out (.pr a b) (by simp only [Kd.dep]; omega)
end
theorem sk (s : List Nat) : PyData.strOk (mkS s) = s.all fun c => decide (c < 0x110000) := by
  unfold PyData.strOk
  rw [← Array.all_toList]
  rfl
theorem sAll {s : List Nat} (h : ∀ c ∈ s, c < 128) : (s.all fun c => decide (c < 0x110000)) = true := by
  rw [List.all_eq_true]
  intro c hc
  have := h c hc
  simp; omega
theorem strOk_of {s : List Nat} (h : ∀ c ∈ s, c < 128) : PyData.strOk (mkS s) = true := by rw [sk]; exact sAll h
theorem Kd.data (k : Kd) : dataW k.w = true ∧ depW k.w ≤ k.dep := by
  induction k with
  | int => exact ⟨by simp only [Kd.w, dataW, datasW, sk]; decide, by decide⟩
  | bang a ih => exact ⟨by simp only [Kd.w, dataW, datasW, sk, ih.1]; decide, by simp only [Kd.w, depW, depsW, Kd.dep]; omega⟩
  | fn a b iha ihb => exact ⟨by simp only [Kd.w, dataW, datasW, sk, iha.1, ihb.1]; decide, by simp only [Kd.w, depW, depsW, Kd.dep]; omega⟩
  | pr a b iha ihb => exact ⟨by simp only [Kd.w, dataW, datasW, sk, iha.1, ihb.1]; decide, by simp only [Kd.w, depW, depsW, Kd.dep]; omega⟩
theorem IsNm.asc {s : List Nat} (h : IsNm s) : ∀ c ∈ s, c < 128 := fun c hc => by
  rcases h.nm.all c hc with z | z <;> omega
/-- a term of the law's making -/
abbrev TmOk (t : Tm) : Prop := t.Ok IsNm (fun n => 0 ≤ n ∧ n ≤ 1000000) (fun k => k.dep ≤ 4)
theorem Tm.data : ∀ t : Tm, TmOk t → dataW t.w = true ∧ depW t.w ≤ t.dep + 4
  | .var x, h => ⟨by simp only [Tm.w, dataW, datasW, sk, sAll (IsNm.asc h)]; decide, by simp only [Tm.w, depW, depsW, Tm.dep]; omega⟩
  | .num n, h => ⟨by simp only [Tm.w, dataW, datasW, sk]; decide, by simp only [Tm.w, depW, depsW, Tm.dep]; omega⟩
  | .op s a b, h => by
    obtain ⟨hs, ha, hb⟩ := h
    have ia := Tm.data a ha; have ib := Tm.data b hb
    refine ⟨?_, by simp only [Tm.w, depW, depsW, Tm.dep]; omega⟩
    simp only [Tm.w, dataW, datasW, sk, ia.1, ib.1, sAll (s := [s]) (by intro c hc; simp at hc hs; omega)]; decide
  | .lam x k b, h => by
    obtain ⟨hx, hk, hb⟩ := h
    have ib := Tm.data b hb; have ik := Kd.data k
    exact ⟨by simp only [Tm.w, dataW, datasW, sk, ib.1, ik.1, sAll hx.asc]; decide, by simp only [Tm.w, depW, depsW, Tm.dep]; omega⟩
  | .app a b, h => by
    have ia := Tm.data a h.1; have ib := Tm.data b h.2
    exact ⟨by simp only [Tm.w, dataW, datasW, sk, ia.1, ib.1]; decide, by simp only [Tm.w, depW, depsW, Tm.dep]; omega⟩
  | .box a, h => by
    have ia := Tm.data a h
    exact ⟨by simp only [Tm.w, dataW, datasW, sk, ia.1]; decide, by simp only [Tm.w, depW, depsW, Tm.dep]; omega⟩
  | .lt x a b, h => by
    have ia := Tm.data a h.2.1; have ib := Tm.data b h.2.2
    exact ⟨by simp only [Tm.w, dataW, datasW, sk, ia.1, ib.1, sAll h.1.asc]; decide, by simp only [Tm.w, depW, depsW, Tm.dep]; omega⟩
  | .pr a b, h => by
    have ia := Tm.data a h.1; have ib := Tm.data b h.2
    exact ⟨by simp only [Tm.w, dataW, datasW, sk, ia.1, ib.1]; decide, by simp only [Tm.w, depW, depsW, Tm.dep]; omega⟩
  | .sp x y a b, h => by
    have ia := Tm.data a h.2.2.1; have ib := Tm.data b h.2.2.2
    exact ⟨by simp only [Tm.w, dataW, datasW, sk, ia.1, ib.1, sAll h.1.asc, sAll h.2.1.asc]; decide, by simp only [Tm.w, depW, depsW, Tm.dep]; omega⟩
theorem Tms.data : ∀ (ts : List Tm) (n : Nat), (∀ t ∈ ts, TmOk t ∧ t.dep ≤ n) → datasW (ts.map Tm.w) = true ∧ depsW (ts.map Tm.w) ≤ n + 4
  | [], n, _ => ⟨rfl, Nat.zero_le _⟩
  | t :: ts, n, h => by
    obtain ⟨a, b⟩ := Tms.data ts n fun u hu => h u (List.mem_cons_of_mem _ hu)
    obtain ⟨ho, hd⟩ := h t List.mem_cons_self
    have it := Tm.data t ho
    exact ⟨by simp only [List.map_cons, datasW, it.1, a]; rfl, by simp only [List.map_cons, depsW]; omega⟩
abbrev tmsW (ts : List Tm) : List W := ts.map Tm.w
/-- pop, or the other one -/
def spPop : SpW := fun ws h R _ => ∃ (p : Addr) (ts : List Tm) (o : Tm), ws = [.ref p, o.w] ∧ h p = some (.lst (tmsW ts)) ∧ (∀ t ∈ ts, TmOk t ∧ t.dep ≤ 50) ∧
  (ts = [] → R o.w h) ∧ ∀ i l, ts = i ++ [l] → R l.w (updW h p (.lst (tmsW i)))
section
variable {P : Program} {w : World} {K : PySem.W.Frag} {mg : Str → Option Value} {base : Heap}
theorem ok__law_pop (T : Tx P w K mg) : FnOk P w K mg base CX0 1 T.a__law_pop T.fd__law_pop ["stack", "other"] (lSp K spPop) := by
  refine fnW T.F__law_pop sc__law_pop (fun ws h R ex ⟨_, _, _, e, _⟩ => by rw [e]; rfl) fun cdv A outer s H E hr => ⟨_, (wss_cons (ws_if (wt_cmp (ow_eq hr.units) lf_eq (w_var 0) (w_lst wa_nil) (nomark _)) (wss_one (ws_ret (w_var 1))) wss_nil)
    (wss_one (ws_ret (w_bm0 PySem.F.plainAttrs_list PySem.F.slot_list_pop PySem.F.type_list_pop mt_pop tyL_ok lf_pop (w_var 0))))), fun ws h R ex ⟨p, ts, o, e, hp, ho, q0, q1⟩ => ?_⟩
  subst e
  obtain ⟨d1, d2⟩ := Tms.data ts 50 ho
  walk_at "st"
  refine go_eqO hp d1 rfl (by show depsW (ts.map Tm.w) + 1 ≤ 64; omega) (by decide) ?_
  rw [eqD_nil]
  rcases List.eq_nil_or_concat ts with rfl | ⟨i, l, rfl⟩
  · walk_at "st"
    exact .of (q0 rfl)
  · have e : (tmsW (i.concat l)).isEmpty = false := by simp [tmsW]
    rw [e]
    walk_at "st"
    refine go_pop (xs := tmsW i) (w := l.w) (by rw [hp]; simp [tmsW]) ?_
    exact .of (q1 i l (by simp))
end
/-! ### a drawn term -/
def Tm.sizes : List Tm → Nat
  | [] => 0
  | t :: ts => t.size + Tm.sizes ts
theorem Tm.sizes_snoc (ts : List Tm) (t : Tm) : Tm.sizes (ts ++ [t]) = Tm.sizes ts + t.size := by
  induction ts with
  | nil => simp [Tm.sizes]
  | cons u ts ih => simp only [List.cons_append, Tm.sizes, ih]; omega
theorem Tm.size_pos (t : Tm) : 0 < t.size := by cases t <;> simp [Tm.size]
theorem Tm.dep_le : ∀ t : Tm, t.dep ≤ t.size
  | .var _ => by simp [Tm.dep, Tm.size] | .num _ => by simp [Tm.dep, Tm.size]
  | .op _ a b => by have := Tm.dep_le a; have := Tm.dep_le b; simp only [Tm.dep, Tm.size]; omega
  | .lam _ _ b => by have := Tm.dep_le b; simp only [Tm.dep, Tm.size]; omega
  | .app a b => by have := Tm.dep_le a; have := Tm.dep_le b; simp only [Tm.dep, Tm.size]; omega
  | .box a => by have := Tm.dep_le a; simp only [Tm.dep, Tm.size]; omega
  | .lt _ a b => by have := Tm.dep_le a; have := Tm.dep_le b; simp only [Tm.dep, Tm.size]; omega
  | .pr a b => by have := Tm.dep_le a; have := Tm.dep_le b; simp only [Tm.dep, Tm.size]; omega
  | .sp _ _ a b => by have := Tm.dep_le a; have := Tm.dep_le b; simp only [Tm.dep, Tm.size]; omega
/-- the names of a split are different ones -/
def Tm.Dis : Tm → Prop
  | .var _ => True | .num _ => True
  | .op _ a b => a.Dis ∧ b.Dis | .lam _ _ b => b.Dis | .app a b => a.Dis ∧ b.Dis | .box a => a.Dis
  | .lt _ a b => a.Dis ∧ b.Dis | .pr a b => a.Dis ∧ b.Dis | .sp x y a b => x ≠ y ∧ a.Dis ∧ b.Dis
/-- the stack after i numbers -/
structure StOk (D : Prop) (ts : List Tm) (i : Nat) : Prop where
  ds : D → ∀ t ∈ ts, t.Dis
  ok : ∀ t ∈ ts, TmOk t ∧ t.dep ≤ i + 1
  sz : Tm.sizes ts ≤ 3 * i
  ln : ts.length ≤ i
structure Pops (D : Prop) (ts : List Tm) (i : Nat) (t : Tm) (us : List Tm) : Prop where
  dt : D → t.Dis
  du : D → ∀ u ∈ us, u.Dis
  ok : TmOk t ∧ t.dep ≤ i + 1
  rest : ∀ u ∈ us, TmOk u ∧ u.dep ≤ i + 1
  sz : t.size + Tm.sizes us ≤ Tm.sizes ts + 1
  ln : us.length ≤ ts.length
theorem pop_use {D : Prop} {h0 : HW} {p : Addr} {ts : List Tm} {i : Nat} {x : List Nat} {R : KW} {ex : XW → HW → Prop} (ds : D → ∀ t ∈ ts, t.Dis) (ok : ∀ t ∈ ts, TmOk t ∧ t.dep ≤ i + 1) (hi : i ≤ 49) (hx : IsNm x) (k : ∀ t us, Pops D ts i t us → R t.w (updW h0 p (.lst (tmsW us)))) :
    spPop [.ref p, .tup [.str z_var, .str x]] (updW h0 p (.lst (tmsW ts))) R ex := by
  refine ⟨p, ts, .var x, rfl, updW_same, fun t ht => ⟨(ok t ht).1, by have := (ok t ht).2; omega⟩, fun e => ?_, fun init l e => ?_⟩
  · subst e
    exact k (.var x) [] ⟨fun _ => trivial, by simp, ⟨hx, by simp [Tm.dep]⟩, by simp, by simp [Tm.size, Tm.sizes], Nat.le_refl _⟩
  · subst e
    rw [updW_upd]
    refine k l init ⟨fun d => ds d l (by simp), fun d u hu => ds d u (List.mem_append_left _ hu), ok l (by simp), fun u hu => ok u (List.mem_append_left _ hu), ?_, by simp⟩
    rw [Tm.sizes_snoc]; omega
theorem tmsW_snoc (ts : List Tm) (t : Tm) (w : W) (e : t.w = w) : tmsW ts ++ [w] = tmsW (ts ++ [t]) := by subst e; simp [tmsW]
/-- one more node on the stack -/
theorem StOk.push {D : Prop} {ts us : List Tm} {i : Nat} {t : Tm} (h : StOk D ts i) (hds : D → ∀ u ∈ us, u.Dis) (hdt : D → t.Dis) (hu : ∀ u ∈ us, TmOk u ∧ u.dep ≤ i + 1) (ht : TmOk t) (hd : t.dep ≤ i + 2) (hs : t.size + Tm.sizes us ≤ Tm.sizes ts + 3) (hl : us.length ≤ ts.length) : StOk D (us ++ [t]) (i + 1) := by
  refine ⟨fun d u hu' => ?_, fun u hu' => ?_, ?_, ?_⟩
  · rcases List.mem_append.mp hu' with z | z
    · exact hds d u z
    · simp at z; subst z; exact hdt d
  · rcases List.mem_append.mp hu' with z | z
    · have := hu u z; exact ⟨this.1, by omega⟩
    · simp at z; subst z; exact ⟨ht, hd⟩
  · rw [Tm.sizes_snoc]; have := h.sz; omega
  · have := h.ln; simp; omega
def spTerm : SpW := fun ws h R _ => ∃ (ms : List Nat) (ns : List (List Nat)), ws = [.lst (natsW ms), .lst (strsW ns)] ∧ (∀ x ∈ ms, x < 4096) ∧ ms.length ≤ 40 ∧ 0 < ns.length ∧ (∀ s ∈ ns, IsNm s) ∧
  ∀ t : Tm, TmOk t → t.dep ≤ ms.length + 1 → t.size ≤ 3 * ms.length + 1 → (ns.Nodup ∧ 2 ≤ ns.length → t.Dis) → R t.w h
section
variable {P : Program} {w : World} {K : PySem.W.Frag} {mg : Str → Option Value} {base : Heap}
theorem ok__law_any_term (T : Tx P w K mg) : FnOk P w K mg base CX0 6 T.a__law_any_term T.fd__law_any_term ["numbers", "names"] (lSp K spTerm) := by
  refine fnW T.F__law_any_term sc__law_any_term (fun ws h R ex ⟨_, _, e, _⟩ => by rw [e]; rfl) fun cdv A outer s H E hr => ⟨_, (wss_cons (ws_set (i := 2) sc__law_any_term.nd (w_lstO wa_nil))
    (wss_cons (ws_for PassesOwn.never rfl (wi_list (w_var 0)) (wg_name (i := 3) sc__law_any_term.nd) (wss_cons (ws_set (i := 4) sc__law_any_term.nd (w_op (rw := modW) op_mod lf_int (w_callTy call_int1 lf_toInt (by rfl) T.m_int (by decide +kernel) (wa_cons (w_var 3) wa_nil)) w_int))
    (wss_cons (ws_set (i := 5) sc__law_any_term.nd (w_op (rw := fdivW) op_fdiv lf_int (w_callTy call_int1 lf_toInt (by rfl) T.m_int (by decide +kernel) (wa_cons (w_var 3) wa_nil)) w_int))
    (wss_cons (ws_set (i := 6) sc__law_any_term.nd (w_ix (w_var 1) (w_op (rw := modW) op_mod lf_int (w_var 5) (w_callB call_len lf_len (by rfl) T.m_len (by decide +kernel) (wa_cons (w_var 1) wa_nil)))))
    (wss_cons (ws_set (i := 7) sc__law_any_term.nd (w_ix (w_var 1) (w_op (rw := modW) op_mod lf_int (w_op ow_add lf_add (w_op (rw := modW) op_mod lf_int (w_var 5) (w_callB call_len lf_len (by rfl) T.m_len (by decide +kernel) (wa_cons (w_var 1) wa_nil))) w_int) (w_callB call_len lf_len (by rfl) T.m_len (by decide +kernel) (wa_cons (w_var 1) wa_nil)))))
    (wss_cons (ws_set (i := 8) sc__law_any_term.nd (w_tup (wa_cons (w_str z_var) (wa_cons (w_var 6) wa_nil))))
    (wss_one (ws_if (wt_cmp (rw := ltW) op_lt lf_cmp (w_var 4) w_int (nomark _)) (wss_one (ws_expr (w_bm PySem.F.plainAttrs_list PySem.F.slot_list_append PySem.F.type_list_append mt_append tyL_ok lf_append (w_var 2) (wa_cons (w_var 8) wa_nil)))) (wss_one (ws_if (wt_cmp (ow_eq hr.units) lf_eq (w_var 4) w_int (nomark _)) (wss_one (ws_expr (w_bm PySem.F.plainAttrs_list PySem.F.slot_list_append PySem.F.type_list_append mt_append tyL_ok lf_append (w_var 2) (wa_cons (w_tup (wa_cons (w_str z_num) (wa_cons (w_op (rw := mulW) op_mul lf_int (w_op (rw := mulW) op_mul lf_int (w_var 5) (w_var 5)) (w_op ow_add lf_add w_int (w_op (rw := modW) op_mod lf_int (w_var 5) w_int))) wa_nil))) wa_nil)))) (wss_one (ws_if (wt_cmp (ow_eq hr.units) lf_eq (w_var 4) w_int (nomark _)) (wss_one (ws_expr (w_bm PySem.F.plainAttrs_list PySem.F.slot_list_append PySem.F.type_list_append mt_append tyL_ok lf_append (w_var 2) (wa_cons (w_tup (wa_cons (w_str z_lam) (wa_cons (w_var 6) (wa_cons (w_call (ok__law_any_kind T 4) (hr.mono (by walk_at "rm")) (by rfl) T.g__law_any_kind T.F__law_any_kind.kp T.b__law_any_kind (wa_cons (w_var 5) (wa_cons w_int wa_nil))) (wa_cons (w_call (ok__law_pop T) (hr.mono (by walk_at "rm")) (by rfl) T.g__law_pop T.F__law_pop.kp T.b__law_pop (wa_cons (w_var 2) (wa_cons (w_var 8) wa_nil))) wa_nil))))) wa_nil)))) (wss_one (ws_if (wt_cmp (ow_eq hr.units) lf_eq (w_var 4) w_int (nomark _)) (wss_one (ws_expr (w_bm PySem.F.plainAttrs_list PySem.F.slot_list_append PySem.F.type_list_append mt_append tyL_ok lf_append (w_var 2) (wa_cons (w_tup (wa_cons (w_str z_box) (wa_cons (w_call (ok__law_pop T) (hr.mono (by walk_at "rm")) (by rfl) T.g__law_pop T.F__law_pop.kp T.b__law_pop (wa_cons (w_var 2) (wa_cons (w_var 8) wa_nil))) wa_nil))) wa_nil)))) (wss_cons (ws_set (i := 9) sc__law_any_term.nd (w_call (ok__law_pop T) (hr.mono (by walk_at "rm")) (by rfl) T.g__law_pop T.F__law_pop.kp T.b__law_pop (wa_cons (w_var 2) (wa_cons (w_var 8) wa_nil))))
    (wss_cons (ws_set (i := 10) sc__law_any_term.nd (w_call (ok__law_pop T) (hr.mono (by walk_at "rm")) (by rfl) T.g__law_pop T.F__law_pop.kp T.b__law_pop (wa_cons (w_var 2) (wa_cons (w_var 8) wa_nil))))
    (wss_one (ws_if (wt_cmp (ow_eq hr.units) lf_eq (w_var 4) w_int (nomark _)) (wss_one (ws_expr (w_bm PySem.F.plainAttrs_list PySem.F.slot_list_append PySem.F.type_list_append mt_append tyL_ok lf_append (w_var 2) (wa_cons (w_tup (wa_cons (w_str z_op) (wa_cons (w_ix (w_str z_x2bx2dx2a) (w_op (rw := modW) op_mod lf_int (w_var 5) w_int)) (wa_cons (w_var 10) (wa_cons (w_var 9) wa_nil))))) wa_nil)))) (wss_one (ws_if (wt_cmp (ow_eq hr.units) lf_eq (w_var 4) w_int (nomark _)) (wss_one (ws_expr (w_bm PySem.F.plainAttrs_list PySem.F.slot_list_append PySem.F.type_list_append mt_append tyL_ok lf_append (w_var 2) (wa_cons (w_tup (wa_cons (w_str z_app) (wa_cons (w_var 10) (wa_cons (w_var 9) wa_nil)))) wa_nil)))) (wss_one (ws_if (wt_cmp (ow_eq hr.units) lf_eq (w_var 4) w_int (nomark _)) (wss_one (ws_expr (w_bm PySem.F.plainAttrs_list PySem.F.slot_list_append PySem.F.type_list_append mt_append tyL_ok lf_append (w_var 2) (wa_cons (w_tup (wa_cons (w_str wLet) (wa_cons (w_var 6) (wa_cons (w_var 10) (wa_cons (w_var 9) wa_nil))))) wa_nil)))) (wss_one (ws_if (wt_cmp (ow_eq hr.units) lf_eq (w_var 4) w_int (nomark _)) (wss_one (ws_expr (w_bm PySem.F.plainAttrs_list PySem.F.slot_list_append PySem.F.type_list_append mt_append tyL_ok lf_append (w_var 2) (wa_cons (w_tup (wa_cons (w_str z_pair) (wa_cons (w_var 10) (wa_cons (w_var 9) wa_nil)))) wa_nil)))) (wss_one (ws_expr (w_bm PySem.F.plainAttrs_list PySem.F.slot_list_append PySem.F.type_list_append mt_append tyL_ok lf_append (w_var 2) (wa_cons (w_tup (wa_cons (w_str z_split) (wa_cons (w_var 6) (wa_cons (w_var 7) (wa_cons (w_var 10) (wa_cons (w_var 9) wa_nil)))))) wa_nil))))))))))))))))))))))))))))
    (wss_cons (ws_if (wt_cmp (ow_eq hr.units) lf_eq (w_var 2) (w_lst wa_nil) (nomark _)) (wss_one (ws_ret (w_tup (wa_cons (w_str z_num) (wa_cons w_int wa_nil))))) wss_nil)
    (wss_one (ws_ret (w_bm0 PySem.F.plainAttrs_list PySem.F.slot_list_pop PySem.F.type_list_pop mt_pop tyL_ok lf_pop (w_var 2))))))), fun ws h R ex ⟨ms, ns, e, hm, lm, ln, hn, q⟩ => ?_⟩
  subst e
  obtain ⟨D, eD⟩ : ∃ D : Prop, D = (ns.Nodup ∧ 2 ≤ ns.length) := ⟨_, rfl⟩
  rw [← eD] at q
  walk_at "st"
  intro p hp
  walk_at "st"
  have ls : (strsW ns).length = ns.length := by simp [strsW]
  refine go_forL (natsW ms) (fun R q => by walk_at "st"; exact q)
    (fun i ρ' h' => ∃ ts : List Tm, StOk D ts i ∧ ρ' = [some (.lst (natsW ms)), some (.lst (strsW ns)), some (.ref p), none, none, none, none, none, none, none, none] ∧ h' = updW h p (.lst (tmsW ts)))
    (.of ⟨[], ⟨by simp, by simp, by simp [Tm.sizes], by simp⟩, rfl, rfl⟩) ?_ ?_
  · rintro i w ρ' h' hw ⟨ts, st, rfl, rfl⟩
    have hi : i < ms.length := by have := (List.getElem?_eq_some_iff.mp hw).1; simpa using this
    have ew : w = .int (ms[i] : Nat) := by rw [List.getElem?_map, List.getElem?_eq_getElem hi] at hw; exact (Option.some.inj hw).symm
    subst ew
    have m4 := hm _ (List.getElem_mem hi)
    generalize ms[i] = m at m4
    have sw : ∀ (j : Nat) (hj : j < ns.length), atI (strsW ns) (j : Int) = some (.str ns[j]) := fun j hj => atI_nat (by rw [strsW, List.getElem?_map, List.getElem?_eq_getElem hj]; rfl)
    have j1 : m / 10 % ns.length < ns.length := Nat.mod_lt _ ln
    have j2 : (m / 10 % ns.length + 1) % ns.length < ns.length := Nat.mod_lt _ ln
    have e1 := sw _ j1
    have e2 := sw _ j2
    have hx := hn _ (List.getElem_mem j1)
    have hy := hn _ (List.getElem_mem j2)
    have hxy : D → ns[m / 10 % ns.length] ≠ ns[(m / 10 % ns.length + 1) % ns.length] := fun d z => by
      rw [eD] at d
      have := (List.getElem_inj d.1).mp z
      have d2 := d.2
      by_cases c : m / 10 % ns.length + 1 < ns.length
      · rw [Nat.mod_eq_of_lt c] at this; omega
      · rw [show m / 10 % ns.length + 1 = ns.length by omega, Nat.mod_self] at this; omega
    rw [show ((m / 10 % ns.length : Nat) : Int) = (m : Int) / 10 % ((strsW ns).length : Int) by rw [ls, Int.natCast_emod, Int.natCast_ediv]; rfl] at e1
    rw [show (((m / 10 % ns.length + 1) % ns.length : Nat) : Int) = ((m : Int) / 10 % ((strsW ns).length : Int) + 1) % ((strsW ns).length : Int) by rw [ls, Int.natCast_emod, Int.natCast_add, Int.natCast_emod, Int.natCast_ediv]; rfl] at e2
    generalize ns[m / 10 % ns.length] = x at e1 hx hxy
    generalize ns[(m / 10 % ns.length + 1) % ns.length] = y at e2 hy hxy
    have lts := st.ln
    have lt2 : (tmsW ts).length = ts.length := by simp [tmsW]
    have fin : ∀ ρ2 h2 (us : List Tm) (t : Tm), SubS [some (.lst (natsW ms)), some (.lst (strsW ns)), some (.ref p), none, none, none, none, none, none, none, none] ρ2 → (D → ∀ u ∈ us, u.Dis) → (D → t.Dis) → (∀ u ∈ us, TmOk u ∧ u.dep ≤ i + 1) → TmOk t → t.dep ≤ i + 2 → t.size + Tm.sizes us ≤ Tm.sizes ts + 3 → us.length ≤ ts.length →
        h2 = updW h p (.lst (tmsW us ++ [t.w])) → CN (fun ρ' h' => ∃ ts : List Tm, StOk D ts (i + 1) ∧ ρ' = [some (.lst (natsW ms)), some (.lst (strsW ns)), some (.ref p), none, none, none, none, none, none, none, none] ∧ h' = updW h p (.lst (tmsW ts))) ρ2 h2 :=
      fun ρ2 h2 us t sub d1 d2 a b c d e f => ⟨_, _, ⟨us ++ [t], st.push d1 d2 a b c d e, rfl, rfl⟩, sub, by rw [f, tmsW_snoc us t _ rfl]; exact .refl _⟩
    have sub : ∀ a b c d e f g hh : Option W, SubS [some (.lst (natsW ms)), some (.lst (strsW ns)), some (.ref p), none, none, none, none, none, none, none, none] [some (.lst (natsW ms)), some (.lst (strsW ns)), some (.ref p), a, b, c, d, e, f, g, hh] := fun _ _ _ _ _ _ _ _ => .same (.same (.same (.no (.no (.no (.no (.no (.no (.no (.no .nil))))))))))
    have hi50 : i ≤ 49 := by omega
    have q10 : (m : Int) / 10 = ((m / 10 : Nat) : Int) := by omega
    walk_at "st"
    refine go_dec (fun c1 => ?_) (fun c1 => ?_)
    · walk_at "st"
      exact fin _ _ ts (.var x) (sub ..) st.ds (fun _ => trivial) st.ok hx (by simp [Tm.dep]) (by simp only [Tm.size]; omega) (Nat.le_refl _) (by rw [updW_upd]; rfl)
    walk_at "st"
    refine go_dec (fun c2 => ?_) (fun c2 => ?_)
    · walk_at "st"
      refine fin _ _ ts (.num ((m : Int) / 10 * ((m : Int) / 10) * (1 + (m : Int) / 10 % 5))) (sub ..) st.ds (fun _ => trivial) st.ok ?_ (by simp [Tm.dep]) (by simp only [Tm.size]; omega) (Nat.le_refl _) (by rw [updW_upd]; rfl)
      rw [q10]
      have hr : m / 10 ≤ 409 := by omega
      generalize m / 10 = r at hr
      have e5 : (1 + (r : Int) % 5) = ((1 + r % 5 : Nat) : Int) := by omega
      rw [e5, ← Int.natCast_mul, ← Int.natCast_mul]
      have h1 := Nat.mul_le_mul hr hr
      have h2 := Nat.mul_le_mul h1 (show 1 + r % 5 ≤ 5 by omega)
      exact ⟨Int.natCast_nonneg _, by omega⟩
    walk_at "st"
    refine go_dec (fun c5 => ?_) (fun c5 => ?_)
    · walk_at "st"
      refine ⟨m / 10, 3, by rw [q10]; rfl, by decide, fun k hk => ?_⟩
      walk_at "st"
      refine pop_use st.ds st.ok hi50 hx fun t us ps => ?_
      have lus : (tmsW us).length = us.length := by simp [tmsW]
      have := ps.ln
      walk_at "st"
      exact fin _ _ us (.lam x k t) (sub ..) ps.du ps.dt ps.rest ⟨hx, hk, ps.ok.1⟩ (by have := ps.ok.2; simp only [Tm.dep]; omega) (by have := ps.sz; simp only [Tm.size]; omega) ps.ln (by rw [updW_upd]; rfl)
    walk_at "st"
    refine go_dec (fun c6 => ?_) (fun c6 => ?_)
    · walk_at "st"
      refine pop_use st.ds st.ok hi50 hx fun t us ps => ?_
      have lus : (tmsW us).length = us.length := by simp [tmsW]
      have := ps.ln
      walk_at "st"
      exact fin _ _ us (.box t) (sub ..) ps.du ps.dt ps.rest ps.ok.1 (by have := ps.ok.2; simp only [Tm.dep]; omega) (by have := ps.sz; simp only [Tm.size]; omega) ps.ln (by rw [updW_upd]; rfl)
    walk_at "st"
    refine pop_use st.ds st.ok hi50 hx fun b us1 ps1 => ?_
    walk_at "st"
    refine pop_use ps1.du ps1.rest hi50 hx fun a us ps => ?_
    have lus : (tmsW us).length = us.length := by simp [tmsW]
    have := ps.ln
    have := ps1.ln
    have nd : max a.dep b.dep + 1 ≤ i + 2 := by have := ps.ok.2; have := ps1.ok.2; omega
    have nz : a.size + b.size + 1 + Tm.sizes us ≤ Tm.sizes ts + 3 := by have := ps.sz; have := ps1.sz; omega
    have nl : us.length ≤ ts.length := by omega
    walk_at "st"
    refine go_dec (fun c3 => ?_) (fun c3 => ?_)
    · obtain ⟨c, ec, hc⟩ := at_lt (P := fun c => c ∈ [43, 45, 42]) (l := z_x2bx2dx2a) 3 rfl (by decide) (by decide) ((m : Int) / 10)
      walk_at "st"
      exact fin _ _ us (.op c a b) (sub ..) ps.du (fun d => ⟨ps.dt d, ps1.dt d⟩) ps.rest ⟨hc, ps.ok.1, ps1.ok.1⟩ nd nz nl (by rw [updW_upd]; rfl)
    walk_at "st"
    refine go_dec (fun c4 => ?_) (fun c4 => ?_)
    · walk_at "st"
      exact fin _ _ us (.app a b) (sub ..) ps.du (fun d => ⟨ps.dt d, ps1.dt d⟩) ps.rest ⟨ps.ok.1, ps1.ok.1⟩ nd nz nl (by rw [updW_upd]; rfl)
    walk_at "st"
    refine go_dec (fun c7 => ?_) (fun c7 => ?_)
    · walk_at "st"
      exact fin _ _ us (.lt x a b) (sub ..) ps.du (fun d => ⟨ps.dt d, ps1.dt d⟩) ps.rest ⟨hx, ps.ok.1, ps1.ok.1⟩ nd nz nl (by rw [updW_upd]; rfl)
    walk_at "st"
    refine go_dec (fun c8 => ?_) (fun c8 => ?_)
    · walk_at "st"
      exact fin _ _ us (.pr a b) (sub ..) ps.du (fun d => ⟨ps.dt d, ps1.dt d⟩) ps.rest ⟨ps.ok.1, ps1.ok.1⟩ nd nz nl (by rw [updW_upd]; rfl)
    · walk_at "st"
      exact fin _ _ us (.sp x y a b) (sub ..) ps.du (fun d => ⟨hxy d, ps.dt d, ps1.dt d⟩) ps.rest ⟨hx, hy, ps.ok.1, ps1.ok.1⟩ nd nz nl (by rw [updW_upd]; rfl)
  · rintro ρ' h' ⟨ts, st, rfl, rfl⟩
    obtain ⟨d1, d2⟩ := Tms.data ts 50 fun t ht => ⟨(st.ok t ht).1, by have := (st.ok t ht).2; simp at this; omega⟩
    walk_at "st"
    refine go_eqO updW_same d1 rfl (by show depsW (ts.map Tm.w) + 1 ≤ 64; omega) (by decide) ?_
    rw [eqD_nil]
    have hz := st.sz
    rw [List.length_map] at hz
    have ok1 := st.ok
    rcases List.eq_nil_or_concat ts with rfl | ⟨init, l, rfl⟩
    · rw [show (tmsW []).isEmpty = true from rfl]
      walk_at "st"
      exact .base (q (.num 0) ⟨by decide, by decide⟩ (by simp [Tm.dep]) (by simp [Tm.size]) fun _ => trivial) (.new hp)
    · rw [List.concat_eq_append] at *
      have e : (tmsW (init ++ [l])).isEmpty = false := by simp [tmsW]
      rw [e]
      walk_at "st"
      refine go_pop (xs := tmsW init) (w := l.w) (by rw [updW_same]; simp [tmsW]) ?_
      rw [updW_upd]
      obtain ⟨o1, o2⟩ := ok1 l (by simp)
      rw [Tm.sizes_snoc] at hz
      rw [List.length_map] at o2
      exact .base (q l o1 (by omega) (by omega) (fun d => st.ds d l (by simp))) (.new hp)
end
def spNames : SpW := fun ws h R _ => ∃ (ns : List Int) (i : Nat), ws = [.scr (ns.map W.int), .int (i : Nat)] ∧ ∀ xs : List (List Nat), (∀ s ∈ xs, IsNm s) → 2 ≤ xs.length → xs.length ≤ 3 → xs.Nodup → R (.lst (strsW xs)) h
theorem strsW_snoc (ts : List (List Nat)) (t : List Nat) : strsW ts ++ [.str t] = strsW (ts ++ [t]) := by simp [strsW]
theorem flat_strs : ∀ ts : List (List Nat), (strsW ts).all flatW = true
  | [] => rfl
  | _ :: ts => flat_strs ts
theorem any_strs (x : List Nat) : ∀ ts : List (List Nat), ((strsW ts).any fun w => eqF w (.str x)) = decide (x ∈ ts)
  | [] => by simp [strsW]
  | t :: ts => by
    show (decide (t = x) || (strsW ts).any fun w => eqF w (.str x)) = _
    rw [any_strs x ts, Bool.eq_iff_iff, Bool.or_eq_true, decide_eq_true_eq, decide_eq_true_eq, decide_eq_true_eq, List.mem_cons]
    exact ⟨fun h => h.elim (fun e => .inl e.symm) .inr, fun h => h.elim (fun e => .inl e.symm) .inr⟩
theorem nm_q {s : List Nat} (h : IsNm s) : IsNm (s.take 3 ++ [113]) := by
  obtain ⟨⟨l, ⟨c, r, rfl, hc⟩, al⟩, _, _, _⟩ := h
  have mem : ∀ d ∈ (c :: r).take 3, d ∈ (c :: r) := fun d hd => List.mem_of_mem_take hd
  refine ⟨⟨by simp; omega, ⟨c, r.take 2 ++ [113], rfl, hc⟩, fun d hd => ?_⟩, ?_, ?_, ?_⟩
  · rcases List.mem_append.mp hd with z | z
    · exact al d (mem d z)
    · simp at z; subst z; decide
  all_goals
    intro e
    have h2 : ((c :: r).take 3 ++ [113]).getLast? = some 113 := List.getLast?_concat ..
    rw [e] at h2
    exact absurd h2 (by decide)
/-- three numbers do not all give one name that the fourth would be again -/
theorem lett_inj : ∀ i < 26, ∀ j < 26, lettersS.getD i 0 = lettersS.getD j 0 → i = j := by decide
theorem more_inj : ∀ i < 36, ∀ j < 36, moreS.getD i 0 = moreS.getD j 0 → i = j := by decide +kernel
theorem lnm_four {n a b c d : Nat} (e : lnm n = [a, b, c, d]) (hd : d = 113) : n / 26 % 8 = 3 ∧ lettersS.getD (n % 26) 0 = a ∧ moreS.getD (n / 26 / 8 * 31 % 36) 0 = b ∧ moreS.getD ((n / 26 / 64 * 31 + 7) % 36) 0 = c ∧ (n / 26 / 512 * 31 + 14) % 36 = 16 := by
  have e0 : lnm0 n = [a, b, c, d] := by
    unfold lnm at e
    split at e
    · rename_i h
      have := congrArg List.getLast? e
      rw [List.getLast?_concat] at this
      have : 120 = d := Option.some.inj this
      omega
    · exact e
  unfold lnm0 at e0
  have l := congrArg List.length e0
  simp only [List.length_cons, List.length_map, List.length_range, List.length_nil] at l
  have h3 : n / 26 % 8 = 3 := by omega
  rw [h3] at e0
  have e0 : [lettersS.getD (n % 26) 0, lnmC (n / 26) 0, lnmC (n / 26) 1, lnmC (n / 26) 2] = [a, b, c, d] := e0
  simp only [List.cons.injEq, and_true] at e0
  obtain ⟨e1, e2, e3, e4⟩ := e0
  refine ⟨h3, e1, e2, e3, ?_⟩
  rw [hd] at e4
  exact more_inj _ (Nat.mod_lt _ (by decide)) 16 (by decide) e4
theorem lnm_form {p : Nat} (h1 : p / 26 % 8 = 3) (h5 : (p / 26 / 512 * 31 + 14) % 36 = 16) : ∃ i s t, s < 8 ∧ t < 8 ∧ p / 26 / 64 = 8 * (36 * i + 14) + t ∧ p / 26 / 8 = 8 * (p / 26 / 64) + s ∧ p = 26 * (8 * (p / 26 / 8) + 3) + p % 26 := by
  have a3 : p / 26 / 512 % 36 = 14 := by
    generalize p / 26 / 512 = z at h5
    clear h1
    omega
  have e1 := Nat.div_add_mod p 26
  have e2 := Nat.div_add_mod (p / 26) 8
  have e3 := Nat.div_add_mod (p / 26 / 8) 8
  have e4 := Nat.div_add_mod (p / 26 / 64) 8
  have e5 := Nat.div_add_mod (p / 26 / 512) 36
  have f3 : p / 26 / 8 / 8 = p / 26 / 64 := by rw [Nat.div_div_eq_div_mul]
  have f4 : p / 26 / 64 / 8 = p / 26 / 512 := by rw [Nat.div_div_eq_div_mul]
  rw [f3] at e3
  rw [f4] at e4
  rw [a3] at e5
  rw [h1] at e2
  refine ⟨p / 26 / 512 / 36, p / 26 / 8 % 8, p / 26 / 64 % 8, Nat.mod_lt _ (by decide), Nat.mod_lt _ (by decide), ?_, ?_, ?_⟩
  · rw [e5, e4]
  · rw [e3]
  · rw [e2, e1]
theorem lnm_et {i j t t' c2 : Nat} (lt : t < 8) (lt' : t' < 8) (h4 : ((8 * (36 * i + 14) + t) * 31 + 7) % 36 = c2) (g4 : ((8 * (36 * j + 14) + t') * 31 + 7) % 36 = c2) : t = t' := by
  have e1 : ((8 * (36 * i + 14) + t) * 31 + 7) = 36 * (248 * i) + (3479 + t * 31) := by omega
  have e2 : ((8 * (36 * j + 14) + t') * 31 + 7) = 36 * (248 * j) + (3479 + t' * 31) := by omega
  rw [e1, Nat.mul_add_mod] at h4
  rw [e2, Nat.mul_add_mod] at g4
  omega
theorem lnm_es {a t b s s' c1 : Nat} (ls : s < 8) (ls' : s' < 8) (h3 : (8 * (8 * (36 * a + 14) + b) + s) * 31 % 36 = c1) (g3 : (8 * (8 * (36 * t + 14) + b) + s') * 31 % 36 = c1) : s = s' := by
  have e1 : (8 * (8 * (36 * a + 14) + b) + s) * 31 = 36 * (64 * 31 * a) + (27776 + 248 * b + s * 31) := by omega
  have e2 : (8 * (8 * (36 * t + 14) + b) + s') * 31 = 36 * (64 * 31 * t) + (27776 + 248 * b + s' * 31) := by omega
  rw [e1, Nat.mul_add_mod] at h3
  rw [e2, Nat.mul_add_mod] at g3
  generalize 27776 + 248 * b = z at *
  omega
theorem lnm_key {p q c0 c1 c2 : Nat} (h1 : p / 26 % 8 = 3) (h2 : p % 26 = c0) (h3 : p / 26 / 8 * 31 % 36 = c1) (h4 : (p / 26 / 64 * 31 + 7) % 36 = c2) (h5 : (p / 26 / 512 * 31 + 14) % 36 = 16)
    (g1 : q / 26 % 8 = 3) (g2 : q % 26 = c0) (g3 : q / 26 / 8 * 31 % 36 = c1) (g4 : (q / 26 / 64 * 31 + 7) % 36 = c2) (g5 : (q / 26 / 512 * 31 + 14) % 36 = 16) : p % 479232 = q % 479232 := by
  obtain ⟨i, s, t, ls, lt, a2, a1, a0⟩ := lnm_form h1 h5
  obtain ⟨j, s', t', ls', lt', b2, b1, b0⟩ := lnm_form g1 g5
  generalize p / 26 / 64 = P2 at *
  generalize q / 26 / 64 = Q2 at *
  generalize p / 26 / 8 = P1 at *
  generalize q / 26 / 8 = Q1 at *
  generalize p % 26 = P0 at *
  generalize q % 26 = Q0 at *
  clear h1 h5 g1 g5
  subst a2 b2 a1 b1
  obtain rfl := lnm_et lt lt' h4 g4
  obtain rfl := lnm_es ls ls' h3 g3
  obtain rfl : P0 = Q0 := h2.trans g2.symm
  clear h3 h4 g3 g4
  have e1 : p = 479232 * i + (26 * (8 * (8 * (8 * 14 + t) + s) + 3) + P0) := by omega
  have e2 : q = 479232 * j + (26 * (8 * (8 * (8 * 14 + t) + s) + 3) + P0) := by omega
  rw [e1, e2, Nat.mul_add_mod, Nat.mul_add_mod]
theorem lnm_num {v : Nat} (k1 : v % 479232 = (v / 8 + 1) % 479232) (k2 : v % 479232 = (v / 15 + 2) % 479232) : v % 479232 = 273848 := by
  have hr := Nat.mod_lt v (show 0 < 479232 by decide)
  have ex := Nat.div_add_mod v 479232
  have ey := Nat.div_add_mod (v / 8 + 1) 479232
  have ez := Nat.div_add_mod (v / 15 + 2) 479232
  have e8 := Nat.div_add_mod v 8
  have e15 := Nat.div_add_mod v 15
  have l8 := Nat.mod_lt v (show 0 < 8 by decide)
  have l15 := Nat.mod_lt v (show 0 < 15 by decide)
  rw [← k1] at ey
  rw [← k2] at ez
  generalize v / 479232 = x at *
  generalize (v / 8 + 1) / 479232 = y at *
  generalize (v / 15 + 2) / 479232 = z at *
  generalize v / 8 = q at *
  generalize v / 15 = s at *
  generalize v % 479232 = r at *
  generalize v % 8 = u at *
  generalize v % 15 = w at *
  clear k1 k2
  have b1 : 479232 * ((x : Int) - 8 * y) = 7 * r - 8 + u := by omega
  have b2 : 479232 * ((x : Int) - 15 * z) = 14 * r - 30 + w := by omega
  generalize (x : Int) - 8 * y = A at *
  generalize (x : Int) - 15 * z = B at *
  clear ex ey ez e8 e15
  have b3 : 479232 * (2 * A - B) = 14 + 2 * (u : Int) - w := by omega
  have hC : 2 * A - B = 0 := by
    generalize 2 * A - B = C at b3
    clear b1 b2
    omega
  have hA : 479232 * A = 7 * (r : Int) - 8 := by omega
  clear b1 b2 b3 hC
  have a1 : 0 ≤ A := by omega
  have a2 : A ≤ 6 := by omega
  have : A = 0 ∨ A = 1 ∨ A = 2 ∨ A = 3 ∨ A = 4 ∨ A = 5 ∨ A = 6 := by clear hA; omega
  rcases this with e | e | e | e | e | e | e <;> rw [e] at hA <;> omega
theorem lnm_dup {v : Nat} {x : List Nat} (h0 : lnm v = x) (h1 : lnm (v / 8 + 1) = x) (h2 : lnm (v / 15 + 2) = x) : x.take 3 ++ [113] ≠ x := by
  intro e
  have l := congrArg List.length e
  simp only [List.length_append, List.length_take, List.length_cons, List.length_nil] at l
  obtain ⟨a, b, c, d, rfl⟩ : ∃ a b c d, x = [a, b, c, d] := by
    match x, l with
    | [], l => simp at l
    | [_], l => simp at l
    | [_, _], l => simp at l
    | [_, _, _], l => simp at l
    | [a, b, c, d], _ => exact ⟨a, b, c, d, rfl⟩
    | _ :: _ :: _ :: _ :: _ :: _, l => simp at l
  have hd : d = 113 := by
    have e : [a, b, c, 113] = [a, b, c, d] := e
    simp at e; exact e.symm
  obtain ⟨p1, p2, p3, p4, p5⟩ := lnm_four h0 hd
  obtain ⟨q1, q2, q3, q4, q5⟩ := lnm_four h1 hd
  obtain ⟨r1, r2, r3, r4, r5⟩ := lnm_four h2 hd
  have m26 : ∀ z : Nat, z % 26 < 26 := fun z => Nat.mod_lt _ (by decide)
  have m36 : ∀ z : Nat, z % 36 < 36 := fun z => Nat.mod_lt _ (by decide)
  have k1 := lnm_key p1 rfl rfl rfl p5 q1 (lett_inj _ (m26 _) _ (m26 _) (q2.trans p2.symm)) (more_inj _ (m36 _) _ (m36 _) (q3.trans p3.symm)) (more_inj _ (m36 _) _ (m36 _) (q4.trans p4.symm)) q5
  have k2 := lnm_key p1 rfl rfl rfl p5 r1 (lett_inj _ (m26 _) _ (m26 _) (r2.trans p2.symm)) (more_inj _ (m36 _) _ (m36 _) (r3.trans p3.symm)) (more_inj _ (m36 _) _ (m36 _) (r4.trans p4.symm)) r5
  clear p2 p3 p4 p5 q1 q2 q3 q4 q5 r1 r2 r3 r4 r5 h0 h1 h2 e l
  have k3 := lnm_num k1 k2
  omega
section
variable {P : Program} {w : World} {K : PySem.W.Frag} {mg : Str → Option Value} {base : Heap}
end

/-! ## texts that are put together from pieces -/
structure Wr (I : Type) where
  w : I → List W
  pcs : I → List (List Nat ⊕ I)
  txt : I → List Nat
  ms : I → Nat
  ok : I → Prop
  txt_eq : ∀ i, ok i → txt i = ((pcs i).map (Sum.elim id txt)).flatten
  ms_ge : ∀ i, ok i → ((pcs i).map (Sum.elim (fun _ => 1) ms)).sum + 1 ≤ ms i
  ok_sub : ∀ i, ok i → ∀ j, .inr j ∈ pcs i → ok j
def Wr.pw {I : Type} (S : Wr I) : List Nat ⊕ I → W
  | .inl s => .str s
  | .inr i => .tup (S.w i)
def Wr.tL {I : Type} (S : Wr I) (l : List (List Nat ⊕ I)) : List Nat := (l.map (Sum.elim id S.txt)).flatten
def Wr.mL {I : Type} (S : Wr I) (l : List (List Nat ⊕ I)) : Nat := (l.map (Sum.elim (fun _ => 1) S.ms)).sum
section
variable {I : Type} (S : Wr I)
theorem Wr.tL_app (a b : List (List Nat ⊕ I)) : S.tL (a ++ b) = S.tL a ++ S.tL b := by simp [Wr.tL]
theorem Wr.mL_app (a b : List (List Nat ⊕ I)) : S.mL (a ++ b) = S.mL a + S.mL b := by simp [Wr.mL]
theorem Wr.mL_rev (a : List (List Nat ⊕ I)) : S.mL a.reverse = S.mL a := by
  induction a with
  | nil => rfl
  | cons x a ih => rw [List.reverse_cons, S.mL_app, ih]; simp [Wr.mL]; omega
theorem Wr.mL_len (a : List (List Nat ⊕ I)) (h : ∀ j, .inr j ∈ a → S.ok j) : a.length ≤ S.mL a := by
  induction a with
  | nil => exact Nat.le_refl _
  | cons x a ih =>
    have := ih fun j hj => h j (List.mem_cons_of_mem _ hj)
    cases x with
    | inl s => simp only [Wr.mL, List.map_cons, List.sum_cons, Sum.elim_inl, List.length_cons] at *; omega
    | inr j =>
      have := S.ms_ge j (h j List.mem_cons_self)
      simp only [Wr.mL, List.map_cons, List.sum_cons, Sum.elim_inr, List.length_cons] at *; omega
end
def spPcs {I : Type} (S : Wr I) : SpW := fun ws h R _ => ∃ i, ws = [.tup (S.w i)] ∧ S.ok i ∧ R (.lst ((S.pcs i).map S.pw)) h
def spWritten {I : Type} (S : Wr I) (f : Addr) : SpW := fun ws h R _ => ∃ i, ws = [.tup (S.w i), .ref f] ∧ S.ok i ∧ S.ms i ≤ 1000000 ∧ (S.txt i).length ≤ 1000000 ∧ R (.str (S.txt i)) h
section
variable {P : Program} {w : World} {K : PySem.W.Frag} {mg : Str → Option Value} {base : Heap} {I : Type}
theorem ok_written (T : Tx P w K mg) (S : Wr I) {k : Nat} {f : Addr} {fd : FuncData} (F_pieces_of : FnOk P w K mg base CX0 k f fd ["item"] (lSp K (spPcs S))) (kp_pieces_of : PySem.W.keepIn K (.ref f) = true) (b_pieces_of : L2.Binds K fd ["item"] []) :
    FnOk P w K mg base CX0 (k + 1) T.a_written T.fd_written ["item", "pieces_of"] (lSp K (spWritten S f)) := by
  refine fnW T.F_written sc_written (fun ws h R ex ⟨_, e, _⟩ => by rw [e]; rfl) fun cdv A outer s H E hr => ⟨_, (wss_cons (ws_set (i := 2) sc_written.nd (w_lstO wa_nil))
    (wss_cons (ws_set (i := 3) sc_written.nd (w_lstO (wa_cons (w_var 0) wa_nil)))
    (wss_cons (ws_while PassesOwn.never (wt_truth (w_var 3)) (wss_cons (ws_set (i := 4) sc_written.nd (w_bm0 PySem.F.plainAttrs_list PySem.F.slot_list_pop PySem.F.type_list_pop mt_pop tyL_ok lf_pop (w_var 3)))
    (wss_one (ws_if (wt_val (w_callB call_isi lf_is (by rfl) T.m_isinstance (by decide +kernel) (wa_cons (w_var 4) (wa_cons (w_bltn (n := "str") rfl T.m_str (by decide +kernel)) wa_nil)))) (wss_one (ws_expr (w_bm PySem.F.plainAttrs_list PySem.F.slot_list_append PySem.F.type_list_append mt_append tyL_ok lf_append (w_var 2) (wa_cons (w_var 4) wa_nil)))) (wss_one (ws_expr (w_bm PySem.F.plainAttrs_list PySem.F.slot_list_extend PySem.F.type_list_extend mt_extend tyL_ok lf_extend (w_var 3) (wa_cons (w_rev (w_callF (i := 1) F_pieces_of (hr.mono (by walk_at "rm")) kp_pieces_of b_pieces_of (wa_cons (w_var 4) wa_nil))) wa_nil))))))))
    (wss_one (ws_ret (w_bm PySem.F.plainAttrs_str PySem.F.slot_str_join PySem.F.type_str_join mt_join tyS_ok lf_join2 (w_str z_) (wa_cons (w_var 2) wa_nil))))))), fun ws h R ex ⟨i, e, ok, l1, l2, q⟩ => ?_⟩
  subst e
  walk_at "st"
  intro p1 hp1
  walk_at "st"
  intro p2 hp2
  have np : p1 ≠ p2 := fun z => by rw [z, updW_same] at hp2; cases hp2
  walk_at "st"
  refine go_while (fun m ρ' h' => ∃ (ts : List (List Nat)) (st : List (List Nat ⊕ I)), m = S.mL st ∧ ts.length + S.mL st ≤ S.ms i ∧ ts.flatten ++ S.tL st.reverse = S.txt i ∧ (∀ j, .inr j ∈ st → S.ok j) ∧
      ρ' = [some (.tup (S.w i)), some (.ref f), some (.ref p1), some (.ref p2), none] ∧ h' = updW (updW h p1 (.lst (strsW ts))) p2 (.lst (st.map S.pw)))
    ⟨_, .of ⟨[], [.inr i], rfl, by simp [Wr.mL], by simp [Wr.tL], by intro j hj; simp at hj; subst hj; exact ok, rfl, rfl⟩⟩ ?_
  rintro m ρ' h' ⟨ts, st, rfl, h1, h2, h3, rfl, rfl⟩
  have lt : (strsW ts).length = ts.length := by simp [strsW]
  rcases List.eq_nil_or_concat st with rfl | ⟨st', pc, rfl⟩
  · walk_at "st"
    refine go_ff ?_
    walk_at "st"
    have h2 : ts.flatten = S.txt i := by simpa [Wr.tL] using h2
    have l3 : (ts.map List.length).sum = (S.txt i).length := by rw [← h2, List.length_flatten]
    refine go_join2 (items_ref (by rw [updW_ne np]; exact updW_same)) (strsOf_map ts) (by simp; omega) ?_
    rw [joinS_nil, h2]
    exact .base q ((Sub.new hp1).trans (.new (by rw [updW_ne np.symm] at hp2 ⊢; exact hp2)))
  · rw [List.concat_eq_append] at *
    have ht : (!(List.map S.pw (st' ++ [pc])).isEmpty) = true := by simp
    walk_at "st"
    refine go_isT' ht ?_
    walk_at "st"
    rw [S.mL_app] at h1 ⊢
    have h3' : ∀ j, .inr j ∈ st' → S.ok j := fun j hj => h3 j (List.mem_append_left _ hj)
    have ll := S.mL_len st' h3'
    cases pc with
    | inl s =>
      have h2 : ts.flatten ++ (s ++ S.tL st'.reverse) = S.txt i := by rw [← h2, List.reverse_append]; simp [Wr.tL]
      have e1 : S.mL [.inl s] = 1 := rfl
      refine go_pop (xs := st'.map S.pw) (w := .str s) (by rw [updW_same, List.map_append]; rfl) ?_
      rw [updW_upd]
      walk_at "st"
      refine go_tyL (by rw [updW_ne np]; exact updW_same) ?_
      walk_at "st"
      refine go_append (by rw [updW_ne np]; exact updW_same) (by omega) ?_
      walk_at "st"
      rw [updW_mid np]
      refine ⟨_, _, ⟨S.mL st', by omega, ts ++ [s], st', rfl, by simp; omega, by rw [← h2]; simp, h3', rfl, rfl⟩, .same (.same (.same (.same (.no .nil)))), ?_⟩
      rw [← strsW_snoc]; exact .refl _
    | inr j =>
      have okj := h3 j (by simp)
      have e1 : S.mL [.inr j] = S.ms j := by simp [Wr.mL]
      have g1 := S.ms_ge j okj
      have g2 : S.mL (S.pcs j) + 1 ≤ S.ms j := g1
      have lp := S.mL_len (S.pcs j) (S.ok_sub j okj)
      have h2 : ts.flatten ++ (S.tL (S.pcs j) ++ S.tL st'.reverse) = S.txt i := by rw [← h2, List.reverse_append, S.tL_app]; simp [Wr.tL, S.txt_eq j okj]
      refine go_pop (xs := st'.map S.pw) (w := .tup (S.w j)) (by rw [updW_same, List.map_append]; rfl) ?_
      rw [updW_upd]
      walk_at "st"
      refine go_ff ?_
      walk_at "st"
      refine ⟨rfl, ?_⟩
      walk_at "st"
      refine ⟨j, rfl, okj, ?_⟩
      walk_at "st"
      refine go_extend updW_same (by simp; omega) ?_
      walk_at "st"
      rw [updW_upd]
      refine ⟨_, _, ⟨S.mL (st' ++ (S.pcs j).reverse), ?_, ts, st' ++ (S.pcs j).reverse, rfl, ?_, ?_, ?_, rfl, rfl⟩, .same (.same (.same (.same (.no .nil)))), ?_⟩
      · rw [S.mL_app, S.mL_rev]; omega
      · rw [S.mL_app, S.mL_rev]; omega
      · rw [← h2, List.reverse_append, List.reverse_reverse, S.tL_app]
      · intro x hx
        rcases List.mem_append.mp hx with z | z
        · exact h3' x z
        · exact S.ok_sub j okj x (List.mem_reverse.mp z)
      · rw [List.map_append, List.map_reverse]; exact .refl _
end

/-! ## the text of a kind -/
def Kd.isFn : Kd → Bool
  | .fn _ _ => true | _ => false
def wrapT (b : Bool) (s : List Nat) : List Nat := if b = true then z_x28 ++ s ++ z_x29 else s
def Kd.txt : Kd → List Nat
  | .int => wInt
  | .bang a => z_x21 ++ wrapT a.isFn a.txt
  | .fn a b => wrapT a.isFn a.txt ++ z_x20x2dx3ex20 ++ b.txt
  | .pr a b => z_x28 ++ a.txt ++ z_x2cx20 ++ b.txt ++ z_x29
def Kd.nodes : Kd → Nat
  | .int => 1 | .bang a => a.nodes + 1 | .fn a b => a.nodes + b.nodes + 1 | .pr a b => a.nodes + b.nodes + 1
theorem wrapT_len (b : Bool) (s : List Nat) : (wrapT b s).length ≤ s.length + 2 := by
  unfold wrapT
  split
  · rw [List.length_append, List.length_append]; show 1 + s.length + 1 ≤ _; omega
  · omega
theorem Kd.txt_len (k : Kd) : k.txt.length ≤ 8 * k.nodes := by
  have e1 : wInt.length = 3 := rfl
  have e2 : z_x21.length = 1 := rfl
  have e3 : z_x20x2dx3ex20.length = 4 := rfl
  have e4 : z_x28.length = 1 := rfl
  have e5 : z_x29.length = 1 := rfl
  have e6 : z_x2cx20.length = 2 := rfl
  induction k with
  | int => simp only [Kd.txt, Kd.nodes]; omega
  | bang a ih => have := wrapT_len a.isFn a.txt; simp only [Kd.txt, Kd.nodes, List.length_append]; omega
  | fn a b iha ihb => have := wrapT_len a.isFn a.txt; simp only [Kd.txt, Kd.nodes, List.length_append]; omega
  | pr a b iha ihb => simp only [Kd.txt, Kd.nodes, List.length_append]; omega
theorem Kd.nodes_dep (k : Kd) : k.nodes + 1 ≤ 2 ^ k.dep := by
  induction k with
  | int => simp [Kd.nodes, Kd.dep]
  | bang a ih => simp only [Kd.nodes, Kd.dep, Nat.pow_succ]; have := Nat.one_le_two_pow (n := a.dep); omega
  | fn a b iha ihb =>
    simp only [Kd.nodes, Kd.dep, Nat.pow_succ]
    have h1 : 2 ^ a.dep ≤ 2 ^ max a.dep b.dep := Nat.pow_le_pow_right (by decide) (Nat.le_max_left _ _)
    have h2 : 2 ^ b.dep ≤ 2 ^ max a.dep b.dep := Nat.pow_le_pow_right (by decide) (Nat.le_max_right _ _)
    omega
  | pr a b iha ihb =>
    simp only [Kd.nodes, Kd.dep, Nat.pow_succ]
    have h1 : 2 ^ a.dep ≤ 2 ^ max a.dep b.dep := Nat.pow_le_pow_right (by decide) (Nat.le_max_left _ _)
    have h2 : 2 ^ b.dep ≤ 2 ^ max a.dep b.dep := Nat.pow_le_pow_right (by decide) (Nat.le_max_right _ _)
    omega
theorem Kd.nodes_le {k : Kd} {d : Nat} (h : k.dep ≤ d) : k.nodes ≤ 2 ^ d := by
  have := k.nodes_dep
  have : 2 ^ k.dep ≤ 2 ^ d := Nat.pow_le_pow_right (by decide) h
  omega
def kdPcs : Kd × Bool → List (List Nat ⊕ (Kd × Bool))
  | (.int, _) => [.inl wInt]
  | (.bang a, _) => [.inl z_x21, .inr (a, true)]
  | (.pr a b, _) => [.inl z_x28, .inr (a, false), .inl z_x2cx20, .inr (b, false), .inl z_x29]
  | (.fn a b, true) => [.inl z_x28, .inr (a, true), .inl z_x20x2dx3ex20, .inr (b, false), .inl z_x29]
  | (.fn a b, false) => [.inr (a, true), .inl z_x20x2dx3ex20, .inr (b, false)]
def kdWr : Wr (Kd × Bool) where
  w p := [p.1.w, .bl p.2]
  pcs := kdPcs
  txt p := wrapT (p.2 && p.1.isFn) p.1.txt
  ms p := 8 * p.1.nodes
  ok p := p.1.dep ≤ 14
  txt_eq := fun ⟨k, b⟩ _ => by cases k <;> cases b <;> simp [kdPcs, Kd.txt, Kd.isFn, wrapT] <;> rfl
  ms_ge := fun ⟨k, b⟩ _ => by cases k <;> cases b <;> simp [kdPcs, Kd.nodes] <;> omega
  ok_sub := fun ⟨k, b⟩ h j hj => by
    cases k <;> cases b <;> simp [kdPcs] at hj <;> simp only [Kd.dep] at h <;> first | (subst hj; simp only; omega) | (rcases hj with rfl | rfl <;> simp only <;> omega)
def spKPieces : SpW := spPcs kdWr
def spKText : SpW := fun ws h R _ => ∃ k : Kd, ws = [k.w] ∧ k.dep ≤ 14 ∧ R (.str k.txt) h
def spKLaw (n : Nat) : SpW := fun ws h R _ => ∃ k : Kd, ws = [k.w] ∧ k.dep ≤ n ∧ n ≤ 15 ∧ R (.str k.txt) h
section
variable {P : Program} {w : World} {K : PySem.W.Frag} {mg : Str → Option Value} {base : Heap}
theorem ok__pieces_kinds (T : Tx P w K mg) : FnOk P w K mg base CX0 1 T.a__pieces_kinds T.fd__pieces_kinds ["item"] (lSp K (spPcs kdWr)) := by
  refine fnW T.F__pieces_kinds sc__pieces_kinds (fun ws h R ex ⟨_, e, _⟩ => by rw [e]; rfl) fun cdv A outer s H E hr => ⟨_, (wss_cons (ws_asg (w_var 0) (wg_tup rfl (wgs_cons (wg_name (i := 2) sc__pieces_kinds.nd) (wgs_cons (wg_name (i := 3) sc__pieces_kinds.nd) wgs_nil))))
    (wss_cons (ws_if (wt_cmp (ow_eq hr.units) lf_eq (w_ix (w_var 2) w_int) (w_str z_int) (nomark _)) (wss_one (ws_ret (w_lst (wa_cons (w_str wInt) wa_nil)))) wss_nil)
    (wss_cons (ws_if (wt_cmp (ow_eq hr.units) lf_eq (w_ix (w_var 2) w_int) (w_str z_bang) (nomark _)) (wss_one (ws_ret (w_lst (wa_cons (w_str z_x21) (wa_cons (w_tup (wa_cons (w_ix (w_var 2) w_int) (wa_cons w_bl wa_nil))) wa_nil))))) wss_nil)
    (wss_cons (ws_if (wt_cmp (ow_eq hr.units) lf_eq (w_ix (w_var 2) w_int) (w_str z_pair) (nomark _)) (wss_one (ws_ret (w_lst (wa_cons (w_str z_x28) (wa_cons (w_tup (wa_cons (w_ix (w_var 2) w_int) (wa_cons w_bl wa_nil))) (wa_cons (w_str z_x2cx20) (wa_cons (w_tup (wa_cons (w_ix (w_var 2) w_int) (wa_cons w_bl wa_nil))) (wa_cons (w_str z_x29) wa_nil)))))))) wss_nil)
    (wss_cons (ws_set (i := 1) sc__pieces_kinds.nd (w_lst (wa_cons (w_tup (wa_cons (w_ix (w_var 2) w_int) (wa_cons w_bl wa_nil))) (wa_cons (w_str z_x20x2dx3ex20) (wa_cons (w_tup (wa_cons (w_ix (w_var 2) w_int) (wa_cons w_bl wa_nil))) wa_nil)))))
    (wss_one (ws_ret (w_ifExp (wt_truth (w_var 3)) (w_lst (wa_cons (w_str z_x28) (wa_star (w_var 1) (wa_cons (w_str z_x29) wa_nil)))) (w_var 1))))))))), fun ws h R ex ⟨⟨k, b⟩, e, _, q⟩ => ?_⟩
  subst e
  simp only [kdWr] at q ⊢
  cases k with
  | int => simp only [Kd.w]; walk_at "stc"; exact .of q
  | bang a => simp only [Kd.w]; walk_at "stc"; exact .of q
  | pr a c => simp only [Kd.w]; walk_at "stc"; exact .of q
  | fn a c =>
    simp only [Kd.w]
    walk_at "stc"
    cases b with
    | true => walk_at "stc"; exact .of q
    | false => walk_at "stc"; exact .of q
theorem ok_kind_text (T : Tx P w K mg) : FnOk P w K mg base CX0 3 T.a_kind_text T.fd_kind_text ["kind"] (lSp K spKText) := by
  have hw := ok_written (P := P) (base := base) T kdWr (ok__pieces_kinds T) T.F__pieces_kinds.kp T.b__pieces_kinds
  refine fnW T.F_kind_text sc_kind_text (fun ws h R ex ⟨_, e, _⟩ => by rw [e]; rfl) fun cdv A outer s H E hr => ⟨_, (wss_one (ws_ret (w_call hw (hr.mono (by walk_at "rm")) (by rfl) T.g_written T.F_written.kp T.b_written (wa_cons (w_tup (wa_cons (w_var 0) (wa_cons w_bl wa_nil))) (wa_cons (w_glob rfl T.g_pieces_kinds) wa_nil))))), fun ws h R ex ⟨k, e, l, q⟩ => ?_⟩
  subst e
  walk_at "st"
  have l1 := Kd.nodes_le l
  have l2 := k.txt_len
  have q : R (.str (kdWr.txt (k, false))) h := q
  refine ⟨(k, false), rfl, l, by show 8 * k.nodes ≤ _; omega, by show (wrapT (false && k.isFn) k.txt).length ≤ _; have := wrapT_len (false && k.isFn) k.txt; omega, .of q⟩
end

/-! ## reading kinds -/
abbrev Tkn := List Nat
inductive Rs (α : Type) where
  | out | bad | ok (a : α) (r : List Tkn)
def Rs.bind {α β : Type} (x : Rs α) (f : α → List Tkn → Rs β) : Rs β := match x with
  | .ok a r => f a r
  | .bad => .bad
  | .out => .out
def bangs : List Tkn → Nat
  | [] => 0
  | t :: r => if t = z_x21 then bangs r + 1 else 0
def bangN : Nat → Kd → Kd
  | 0, k => k
  | n + 1, k => .bang (bangN n k)
def kdL (tg : List Tkn → Rs Kd) : Nat → List Kd → Kd → List Tkn → Rs Kd
  | 0, _, _, _ => .out
  | k + 1, init, last, r => if r.headD [] = z_x2dx3e then (tg r.tail).bind fun a r2 => kdL tg k (init ++ [last]) a r2 else .ok (init.foldr Kd.fn last) r
mutual
def kdF : Nat → List Tkn → Rs Kd
  | 0, _ => .out
  | n + 1, us => (tgF n us).bind fun a r => kdL (tgF n) (r.length + 1) [] a r
def tgF : Nat → List Tkn → Rs Kd
  | 0, _ => .out
  | n + 1, us => (inF n (us.drop (bangs us))).bind fun k r => .ok (bangN (bangs us) k) r
def inF : Nat → List Tkn → Rs Kd
  | 0, _ => .out
  | n + 1, us => if us.headD [] = wInt then .ok .int us.tail else if us.headD [] = z_x28 then (match kdF n us.tail with
      | .ok k r => if r.headD [] = z_x2c then (match kdF n r.tail with | .ok k2 r2 => if r2.headD [] = z_x29 then .ok (.pr k k2) r2.tail else .bad | .bad => .bad | .out => .out) else if r.headD [] = z_x29 then .ok k r.tail else .bad
      | .bad => .bad
      | .out => .out) else .bad
end
theorem bangs_le : ∀ us : List Tkn, bangs us ≤ us.length
  | [] => Nat.le_refl _
  | t :: r => by unfold bangs; split; · have := bangs_le r; simp; omega
                 · exact Nat.zero_le _
def kRes (aC aI : Addr) (c : Addr) (ts : List Tkn) (h : HW) (R : KW) (ex : XW → HW → Prop) : Rs Kd → Prop
  | .ok k r => ∀ j, j ≤ ts.length → ts.drop j = r → R k.w (updW h c (cur aC ts j))
  | .bad => ∀ j h', Sub (updW h c (cur aC ts j)) h' → ex ⟨aI, none⟩ h'
  | .out => False
def spRd (aC aI : Addr) (f : Nat → List Tkn → Rs Kd) (n : Nat) : SpW := fun ws h R ex => ∃ (c : Addr) (ts : List Tkn) (i m : Nat), ws = [.ref c] ∧ h c = some (cur aC ts i) ∧ TsOk ts ∧ i ≤ ts.length ∧ (m ≤ n ∧ m ≤ 1000000) ∧ kRes aC aI c ts h R ex (f m (ts.drop i))
def spExcl (aC : Addr) : SpW := fun ws h R _ => ∃ (c : Addr) (ts : List Tkn) (i : Nat), ws = [.ref c] ∧ h c = some (cur aC ts i) ∧ TsOk ts ∧ i ≤ ts.length ∧ R (.int (bangs (ts.drop i) : Nat)) (updW h c (cur aC ts (i + bangs (ts.drop i))))
def spFun1 : SpW := fun ws h R _ => ∃ x y : W, ws = [x, y] ∧ R (.tup [.str z_fun, x, y]) h
def spPair1 : SpW := fun ws h R _ => ∃ x y : W, ws = [x, y] ∧ R (.tup [.str z_pair, x, y]) h
def spBang1 : SpW := fun ws h R _ => ∃ x : W, ws = [x] ∧ R (.tup [.str z_bang, x]) h
theorem getD_drop (ts : List Tkn) (i : Nat) : ts.getD i [] = (ts.drop i).headD [] := by
  rw [List.getD_eq_getElem?_getD, ← List.head?_drop, List.headD_eq_head?_getD]
theorem drop_tail {ts r : List Tkn} {j : Nat} (e : ts.drop j = r) : ts.drop (j + 1) = r.tail := by rw [← e, List.tail_drop]
theorem drop_lt {ts : List Tkn} {j : Nat} (e : (ts.drop j).headD [] ≠ []) : j < ts.length := by
  rcases Nat.lt_or_ge j ts.length with z | z
  · exact z
  · rw [List.drop_of_length_le z] at e; exact absurd rfl e
theorem sub_cur {h : HW} {c p : Addr} {a b : OW} {o : OW} (np : p ≠ c) (hp : h p = none) : Sub (updW h c b) (updW (updW (updW h c a) p o) c b) := by
  rw [updW_mid (fun z => np z.symm)]
  exact .new (by rw [updW_ne np]; exact hp)
theorem updW_self {h : HW} {c : Addr} {o : OW} (e : h c = some o) : updW h c o = h := by
  funext b
  unfold updW
  split
  · rename_i z; rw [z, e]
  · rfl
theorem tk1 : IsTk z_x2dx3e := by decide
theorem tk2 : IsTk z_x21 := by decide
theorem tk3 : IsTk wInt := by decide
theorem tk4 : IsTk z_x28 := by decide
theorem tk5 : IsTk z_x29 := by decide
theorem tk6 : IsTk z_x2c := by decide
abbrev kdsW (ks : List Kd) : List W := ks.map Kd.w
section
variable {P : Program} {w : World} {K : PySem.W.Frag} {mg : Str → Option Value} {base : Heap}
theorem ok_fun_kind (T : Tx P w K mg) : FnOk P w K mg base CX0 1 T.a_fun_kind T.fd_fun_kind ["a", "b"] (lSp K spFun1) := by
  refine fnW T.F_fun_kind sc_fun_kind (fun ws h R ex ⟨_, _, e, _⟩ => by rw [e]; rfl) fun cdv A outer s H E hr => ⟨_, (wss_one (ws_ret (w_tup (wa_cons (w_str z_fun) (wa_cons (w_var 0) (wa_cons (w_var 1) wa_nil)))))), fun ws h R ex ⟨x, y, e, q⟩ => ?_⟩
  subst e
  walk_at "st"
  exact .of q
theorem ok_pair_kind (T : Tx P w K mg) : FnOk P w K mg base CX0 1 T.a_pair_kind T.fd_pair_kind ["a", "b"] (lSp K spPair1) := by
  refine fnW T.F_pair_kind sc_pair_kind (fun ws h R ex ⟨_, _, e, _⟩ => by rw [e]; rfl) fun cdv A outer s H E hr => ⟨_, (wss_one (ws_ret (w_tup (wa_cons (w_str z_pair) (wa_cons (w_var 0) (wa_cons (w_var 1) wa_nil)))))), fun ws h R ex ⟨x, y, e, q⟩ => ?_⟩
  subst e
  walk_at "st"
  exact .of q
theorem ok_bang_kind (T : Tx P w K mg) : FnOk P w K mg base CX0 1 T.a_bang_kind T.fd_bang_kind ["a"] (lSp K spBang1) := by
  refine fnW T.F_bang_kind sc_bang_kind (fun ws h R ex ⟨_, e, _⟩ => by rw [e]; rfl) fun cdv A outer s H E hr => ⟨_, (wss_one (ws_ret (w_tup (wa_cons (w_str z_bang) (wa_cons (w_var 0) wa_nil))))), fun ws h R ex ⟨x, e, q⟩ => ?_⟩
  subst e
  walk_at "st"
  exact .of q
theorem ok__exclamations_at (T : Tx P w K mg) : FnOk P w K mg base CX0 4 T.a__exclamations_at T.fd__exclamations_at ["cursor"] (lSp K (spExcl T.aC_Cursor)) := by
  refine fnW T.F__exclamations_at sc__exclamations_at (fun ws h R ex ⟨_, _, _, e, _⟩ => by rw [e]; rfl) fun cdv A outer s H E hr => ⟨_, (wss_cons (ws_set (i := 1) sc__exclamations_at.nd w_int)
    (wss_cons (ws_while PassesOwn.never (wt_cmp (ow_eq hr.units) lf_eq (w_meth0G T.cls_Cursor T.m_Cursor_ahead (ok_Cursor_ahead T) (hr.mono (by walk_at "rm")) T.b_Cursor_ahead pass0 (fun _ _ _ => el_no) (w_var 0)) (w_str z_x21) (nomark _)) (wss_cons (ws_expr (w_methG T.cls_Cursor T.m_Cursor_need (ok_Cursor_need T) (hr.mono (by walk_at "rm")) T.b_Cursor_need passL (fun _ _ _ => el_no) (w_var 0) (wa_cons (w_str z_x21) wa_nil)))
    (wss_one (ws_aug (i := 1) (rw := intW0 fun i j => i + j) sc__exclamations_at.nd w_int iop_add lf_int0))))
    (wss_one (ws_ret (w_var 1))))), fun ws h R ex ⟨c, ts, i, e, hc, ok, hi, q⟩ => ?_⟩
  subst e
  walk_at "st"
  refine go_while (fun m ρ' h' => ∃ k : Nat, m = bangs (ts.drop i) - k ∧ k ≤ bangs (ts.drop i) ∧ bangs (ts.drop i) = k + bangs (ts.drop (i + k)) ∧ ρ' = [some (.ref c), some (.int (k : Nat))] ∧ h' = updW h c (cur T.aC_Cursor ts (i + k)))
    ⟨_, .of ⟨0, rfl, Nat.zero_le _, by simp, rfl, (updW_self hc).symm⟩⟩ ?_
  rintro m ρ' h' ⟨k, rfl, lk, ek, rfl, rfl⟩
  have lb := bangs_le (ts.drop i)
  have ld : (ts.drop i).length = ts.length - i := by simp
  have lt := ok.2
  walk_at "st"
  refine ⟨c, ts, i + k, rfl, updW_same, ?_⟩
  walk_at "st"
  rw [getD_drop]
  refine go_dec (fun c1 => ?_) (fun c1 => ?_)
  · have hl := drop_lt (ts := ts) (j := i + k) (by rw [c1]; decide)
    have eb : bangs (ts.drop (i + k)) = bangs (ts.drop (i + (k + 1))) + 1 := by
      rw [List.drop_eq_getElem_cons hl] at c1 ⊢
      have c1 : ts[i + k] = z_x21 := c1
      rw [bangs, if_pos c1]; rfl
    walk_at "st"
    refine ⟨c, ts, i + k, _, rfl, updW_same, ok, by omega, tk2, ?_⟩
    unfold needK
    rw [getD_drop, if_pos c1]
    walk_at "st"
    rw [updW_upd]
    exact .of ⟨_, by omega, k + 1, rfl, by omega, by omega, rfl, rfl⟩
  · walk_at "st"
    have eb : bangs (ts.drop (i + k)) = 0 := by
      cases e : ts.drop (i + k) with
      | nil => rfl
      | cons t r => rw [e] at c1; rw [bangs]; exact if_neg c1
    rw [eb] at ek
    have ek : bangs (ts.drop i) = k := by omega
    rw [ek] at q
    exact .of q
theorem ok_kinds (T : Tx P w K mg) : ∀ n, FnD P w K mg base (L2.CX P w) (n + 24) T.a__kind_at T.fd__kind_at ["cursor"] (lSp K (spRd T.aC_Cursor T.aC_InvalidText kdF n)) ∧ FnD P w K mg base (L2.CX P w) (n + 24) T.a__tight_kind_at T.fd__tight_kind_at ["cursor"] (lSp K (spRd T.aC_Cursor T.aC_InvalidText tgF n)) ∧
    FnD P w K mg base (L2.CX P w) (n + 24) T.a__innermost_kind_at T.fd__innermost_kind_at ["cursor"] (lSp K (spRd T.aC_Cursor T.aC_InvalidText inF n))
  | 0 => by
    refine ⟨.none fun ws h R ex ⟨c, ts, i, m, _, _, _, _, ⟨z, _⟩, q⟩ => ?_, .none fun ws h R ex ⟨c, ts, i, m, _, _, _, _, ⟨z, _⟩, q⟩ => ?_, .none fun ws h R ex ⟨c, ts, i, m, _, _, _, _, ⟨z, _⟩, q⟩ => ?_⟩
    · rw [Nat.le_zero.mp z, kdF] at q; exact q
    · rw [Nat.le_zero.mp z, tgF] at q; exact q
    · rw [Nat.le_zero.mp z, inF] at q; exact q
  | n + 1 => by
    have ih := ok_kinds T n
    refine ⟨?_, ?_, ?_⟩
    · refine fnD T.F__kind_at sc__kind_at (fun ws h R ex ⟨_, _, _, _, e, _⟩ => by rw [e]; rfl) fun cdv A outer s H E ex hr => ⟨_, (wss_cons (ws_set (i := 1) sc__kind_at.nd (w_lstO (wa_cons (w_callD ih.2.1 (hr.less (by walk_at "rm")) (by rfl) T.g__tight_kind_at T.F__tight_kind_at.kp T.b__tight_kind_at (takes_of rfl rfl rfl rfl) (wa_cons (w_var 0) wa_nil)) wa_nil)))
    (wss_cons (ws_while (passes_of rfl) (wt_cmp (ow_eq hr.units) lf_eq (w_meth0G T.cls_Cursor T.m_Cursor_ahead (ok_Cursor_ahead T) (hr.room (by walk_at "rm")) T.b_Cursor_ahead pass0 (fun _ _ _ => el_no) (w_var 0)) (w_str z_x2dx3e) (nomark _)) (wss_cons (ws_expr (w_methG T.cls_Cursor T.m_Cursor_need (ok_Cursor_need T) (hr.room (by walk_at "rm")) T.b_Cursor_need (passes_call (takes_of rfl rfl rfl rfl) fun _ _ _ _ z => z) (fun _ _ z => z) (w_var 0) (wa_cons (w_str z_x2dx3e) wa_nil)))
    (wss_one (ws_expr (w_bm PySem.F.plainAttrs_list PySem.F.slot_list_append PySem.F.type_list_append mt_append tyL_ok lf_append (w_var 1) (wa_cons (w_callD ih.2.1 (hr.less (by walk_at "rm")) (by rfl) T.g__tight_kind_at T.F__tight_kind_at.kp T.b__tight_kind_at (takes_of rfl rfl rfl rfl) (wa_cons (w_var 0) wa_nil)) wa_nil))))))
    (wss_cons (ws_set (i := 2) sc__kind_at.nd (w_bm0 PySem.F.plainAttrs_list PySem.F.slot_list_pop PySem.F.type_list_pop mt_pop tyL_ok lf_pop (w_var 1)))
    (wss_cons (ws_while (passes_of rfl) (wt_truth (w_var 1)) (wss_one (ws_set (i := 2) sc__kind_at.nd (w_call (ok_fun_kind T) (hr.room (by walk_at "rm")) (by rfl) T.g_fun_kind T.F_fun_kind.kp T.b_fun_kind (wa_cons (w_bm0 PySem.F.plainAttrs_list PySem.F.slot_list_pop PySem.F.type_list_pop mt_pop tyL_ok lf_pop (w_var 1)) (wa_cons (w_var 2) wa_nil))))))
    (wss_one (ws_ret (w_var 2))))))), fun ws h R ⟨c, ts, i, m, e, hc, ok, hi, hm, q⟩ => ?_⟩
      subst e
      cases m with
      | zero => rw [kdF] at q; exact q.elim
      | succ m =>
      rw [kdF] at q
      walk_at "st"
      refine ⟨c, ts, i, m, rfl, hc, ok, hi, by omega, ?_⟩
      cases et : tgF m (ts.drop i) with
      | out => rw [et] at q; exact q.elim
      | bad => rw [et] at q; exact fun j h' sb => q j h' sb
      | ok a r =>
      rw [et] at q
      have q : kRes T.aC_Cursor T.aC_InvalidText c ts h R ex (kdL (tgF m) (r.length + 1) [] a r) := q
      intro j hj ej
      have lr : r.length ≤ ts.length := by rw [← ej]; simp
      walk_at "st"
      intro p hp
      have np : p ≠ c := fun z => by rw [z, updW_same] at hp; cases hp
      have hp0 : h p = none := by rw [updW_ne np] at hp; exact hp
      walk_at "st"
      refine go_while (fun m' ρ' h' => ∃ (init : List Kd) (last : Kd) (j : Nat), j ≤ ts.length ∧ init.length + m' ≤ ts.length + 1 ∧ kRes T.aC_Cursor T.aC_InvalidText c ts h R ex (kdL (tgF m) m' init last (ts.drop j)) ∧ ρ' = [some (.ref c), some (.ref p), none] ∧ h' = updW (updW h c (cur T.aC_Cursor ts j)) p (.lst (kdsW (init ++ [last]))))
        ⟨r.length + 1, .of ⟨[], a, j, hj, by simp; omega, by rw [ej]; exact q, rfl, rfl⟩⟩ ?_
      rintro m' ρ' h' ⟨init, last, j, hj, hl, q, rfl, rfl⟩
      have lt := ok.2
      have ec : updW (updW h c (cur T.aC_Cursor ts j)) p (.lst (kdsW (init ++ [last]))) c = some (cur T.aC_Cursor ts j) := by rw [updW_ne np.symm]; exact updW_same
      walk_at "st"
      refine ⟨c, ts, j, rfl, ec, ?_⟩
      walk_at "st"
      rw [getD_drop]
      refine go_dec (fun c1 => ?_) (fun c1 => ?_)
      · have hl2 := drop_lt (ts := ts) (j := j) (by rw [c1]; decide)
        walk_at "st"
        refine ⟨c, ts, j, _, rfl, ec, ok, by have := ok.2; omega, tk1, ?_⟩
        unfold needK
        rw [getD_drop, if_pos c1]
        rw [updW_mid np.symm]
        walk_at "st"
        cases m' with
        | zero => rw [kdL] at q; exact q.elim
        | succ m' =>
        rw [kdL, if_pos c1] at q
        refine ⟨c, ts, j + 1, m, rfl, by rw [updW_ne np.symm]; exact updW_same, ok, hl2, by omega, ?_⟩
        rw [drop_tail rfl]
        cases et : tgF m (ts.drop j).tail with
        | out => rw [et] at q; exact q.elim
        | bad =>
          rw [et] at q
          exact fun j' h' sb => q j' h' (Sub.trans (by rw [updW_mid np.symm]; exact .new (by rw [updW_ne np]; exact hp0)) sb)
        | ok a r =>
        rw [et] at q
        intro j2 hj2 ej2
        rw [updW_mid np.symm]
        walk_at "st"
        rw [updW_upd]
        refine .of ⟨m', by omega, init ++ [last], a, j2, hj2, by simp; omega, by rw [ej2]; exact q, rfl, ?_⟩
        simp
      · obtain ⟨m', rfl⟩ : ∃ x, m' = x + 1 := by
          cases m' with
          | zero => rw [kdL] at q; exact q.elim
          | succ x => exact ⟨x, rfl⟩
        rw [kdL, if_neg c1] at q
        walk_at "st"
        refine go_pop (xs := kdsW init) (w := last.w) (by rw [updW_same]; simp) ?_
        rw [updW_upd]
        walk_at "st"
        refine go_while (fun m2 ρ' h' => ∃ (ks : List Kd) (k : Kd), m2 = ks.length ∧ ks.foldr Kd.fn k = init.foldr Kd.fn last ∧ ρ' = [some (.ref c), some (.ref p), some k.w] ∧ h' = updW (updW h c (cur T.aC_Cursor ts j)) p (.lst (kdsW ks)))
          ⟨_, .of ⟨init, last, rfl, rfl, rfl, rfl⟩⟩ ?_
        rintro m2 ρ' h' ⟨ks, k, rfl, ek, rfl, rfl⟩
        rcases List.eq_nil_or_concat ks with rfl | ⟨ks', kl, rfl⟩
        · walk_at "st"
          refine go_ff ?_
          walk_at "st"
          have q := q j hj rfl
          rw [← ek] at q
          exact .base q (.new (by rw [updW_ne np]; exact hp0))
        · rw [List.concat_eq_append] at *
          walk_at "st"
          refine go_isT' (by simp) ?_
          walk_at "st"
          refine go_pop (xs := kdsW ks') (w := kl.w) (by rw [updW_same]; simp) ?_
          rw [updW_upd]
          walk_at "st"
          refine ⟨_, _, rfl, ?_⟩
          walk_at "st"
          refine .of ⟨ks'.length, by simp, ks', .fn kl k, rfl, by rw [← ek]; simp, rfl, rfl⟩
    · refine fnD T.F__tight_kind_at sc__tight_kind_at (fun ws h R ex ⟨_, _, _, _, e, _⟩ => by rw [e]; rfl) fun cdv A outer s H E ex hr => ⟨_, (wss_cons (ws_set (i := 1) sc__tight_kind_at.nd (w_call (ok__exclamations_at T) (hr.room (by walk_at "rm")) (by rfl) T.g__exclamations_at T.F__exclamations_at.kp T.b__exclamations_at (wa_cons (w_var 0) wa_nil)))
    (wss_cons (ws_set (i := 2) sc__tight_kind_at.nd (w_callD ih.2.2 (hr.less (by walk_at "rm")) (by rfl) T.g__innermost_kind_at T.F__innermost_kind_at.kp T.b__innermost_kind_at (takes_of rfl rfl rfl rfl) (wa_cons (w_var 0) wa_nil)))
    (wss_cons (ws_for (passes_of rfl) rfl (wi_range1 (by rfl) T.m_range (wa_cons (w_var 1) wa_nil)) (wg_name (i := 3) sc__tight_kind_at.nd) (wss_one (ws_set (i := 2) sc__tight_kind_at.nd (w_call (ok_bang_kind T) (hr.room (by walk_at "rm")) (by rfl) T.g_bang_kind T.F_bang_kind.kp T.b_bang_kind (wa_cons (w_var 2) wa_nil)))))
    (wss_one (ws_ret (w_var 2)))))), fun ws h R ⟨c, ts, i, m, e, hc, ok, hi, hm, q⟩ => ?_⟩
      subst e
      cases m with
      | zero => rw [tgF] at q; exact q.elim
      | succ m =>
      rw [tgF] at q
      have lb := bangs_le (ts.drop i)
      have ld : (ts.drop i).length = ts.length - i := by simp
      generalize ek : bangs (ts.drop i) = k at *
      walk_at "st"
      refine ⟨c, ts, i, rfl, hc, ok, hi, ?_⟩
      rw [ek]
      walk_at "st"
      have hk : i + k ≤ ts.length := by omega
      refine ⟨c, ts, i + k, m, rfl, updW_same, ok, hk, by omega, ?_⟩
      have ed : ts.drop (i + k) = (ts.drop i).drop k := by rw [List.drop_drop]
      rw [ed]
      cases e1 : inF m ((ts.drop i).drop k) with
      | out => rw [e1] at q; exact q.elim
      | bad => rw [e1] at q; exact fun j h' sb => q j h' (by rw [updW_upd] at sb; exact sb)
      | ok a r =>
      rw [e1] at q
      intro j hj ej
      have q := q j hj ej
      rw [updW_upd]
      have lt := ok.2
      walk_at "st"
      refine go_forR1 (k : Nat) (fun RA q => by walk_at "st"; exact q) (by omega)
        (fun x ρ' h' => ρ' = [some (.ref c), some (.int (k : Nat)), some (bangN x a).w, none] ∧ h' = updW h c (cur T.aC_Cursor ts j)) (.of ⟨rfl, rfl⟩) ?_ ?_
      · rintro x ρ' h' hx ⟨rfl, rfl⟩
        walk_at "st"
        refine ⟨_, rfl, ?_⟩
        walk_at "st"
        exact .sl ⟨rfl, rfl⟩ (.same (.same (.same (.no .nil))))
      · rintro ρ' h' ⟨rfl, rfl⟩
        walk_at "st"
        rw [Int.toNat_natCast]
        exact .of q
    · refine fnD T.F__innermost_kind_at sc__innermost_kind_at (fun ws h R ex ⟨_, _, _, _, e, _⟩ => by rw [e]; rfl) fun cdv A outer s H E ex hr => ⟨_, (wss_cons (ws_if (wt_cmp (ow_eq hr.units) lf_eq (w_meth0G T.cls_Cursor T.m_Cursor_ahead (ok_Cursor_ahead T) (hr.room (by walk_at "rm")) T.b_Cursor_ahead pass0 (fun _ _ _ => el_no) (w_var 0)) (w_str wInt) (nomark _)) (wss_cons (ws_expr (w_methG T.cls_Cursor T.m_Cursor_need (ok_Cursor_need T) (hr.room (by walk_at "rm")) T.b_Cursor_need (passes_call (takes_of rfl rfl rfl rfl) fun _ _ _ _ z => z) (fun _ _ z => z) (w_var 0) (wa_cons (w_str wInt) wa_nil)))
    (wss_one (ws_ret (w_globW rfl T.c_INT T.s_INT)))) wss_nil)
    (wss_cons (ws_expr (w_methG T.cls_Cursor T.m_Cursor_need (ok_Cursor_need T) (hr.room (by walk_at "rm")) T.b_Cursor_need (passes_call (takes_of rfl rfl rfl rfl) fun _ _ _ _ z => z) (fun _ _ z => z) (w_var 0) (wa_cons (w_str z_x28) wa_nil)))
    (wss_cons (ws_set (i := 1) sc__innermost_kind_at.nd (w_callD ih.1 (hr.less (by walk_at "rm")) (by rfl) T.g__kind_at T.F__kind_at.kp T.b__kind_at (takes_of rfl rfl rfl rfl) (wa_cons (w_var 0) wa_nil)))
    (wss_cons (ws_if (wt_cmp (ow_eq hr.units) lf_eq (w_meth0G T.cls_Cursor T.m_Cursor_ahead (ok_Cursor_ahead T) (hr.room (by walk_at "rm")) T.b_Cursor_ahead pass0 (fun _ _ _ => el_no) (w_var 0)) (w_str z_x2c) (nomark _)) (wss_cons (ws_expr (w_methG T.cls_Cursor T.m_Cursor_need (ok_Cursor_need T) (hr.room (by walk_at "rm")) T.b_Cursor_need (passes_call (takes_of rfl rfl rfl rfl) fun _ _ _ _ z => z) (fun _ _ z => z) (w_var 0) (wa_cons (w_str z_x2c) wa_nil)))
    (wss_one (ws_set (i := 1) sc__innermost_kind_at.nd (w_call (ok_pair_kind T) (hr.room (by walk_at "rm")) (by rfl) T.g_pair_kind T.F_pair_kind.kp T.b_pair_kind (wa_cons (w_var 1) (wa_cons (w_callD ih.1 (hr.less (by walk_at "rm")) (by rfl) T.g__kind_at T.F__kind_at.kp T.b__kind_at (takes_of rfl rfl rfl rfl) (wa_cons (w_var 0) wa_nil)) wa_nil)))))) wss_nil)
    (wss_cons (ws_expr (w_methG T.cls_Cursor T.m_Cursor_need (ok_Cursor_need T) (hr.room (by walk_at "rm")) T.b_Cursor_need (passes_call (takes_of rfl rfl rfl rfl) fun _ _ _ _ z => z) (fun _ _ z => z) (w_var 0) (wa_cons (w_str z_x29) wa_nil)))
    (wss_one (ws_ret (w_var 1)))))))), fun ws h R ⟨c, ts, i, m, e, hc, ok, hi, hm, q⟩ => ?_⟩
      subst e
      cases m with
      | zero => rw [inF] at q; exact q.elim
      | succ m =>
      rw [inF] at q
      walk_at "st"
      refine ⟨c, ts, i, rfl, hc, ?_⟩
      walk_at "st"
      rw [getD_drop]
      refine go_dec (fun c1 => ?_) (fun c1 => ?_)
      · rw [if_pos c1] at q
        have hl := drop_lt (ts := ts) (j := i) (by rw [c1]; decide)
        walk_at "st"
        refine ⟨c, ts, i, _, rfl, hc, ok, by have := ok.2; omega, tk3, ?_⟩
        unfold needK
        rw [getD_drop, if_pos c1]
        walk_at "st"
        exact .of (q (i + 1) hl (drop_tail rfl))
      · rw [if_neg c1] at q
        walk_at "st"
        refine ⟨c, ts, i, _, rfl, hc, ok, by have := ok.2; omega, tk4, ?_⟩
        unfold needK
        rw [getD_drop]
        by_cases c2 : (ts.drop i).headD [] = z_x28
        · rw [if_pos c2] at q ⊢
          have hl := drop_lt (ts := ts) (j := i) (by rw [c2]; decide)
          walk_at "st"
          refine ⟨c, ts, i + 1, m, rfl, updW_same, ok, hl, by omega, ?_⟩
          rw [drop_tail rfl]
          cases e1 : kdF m (ts.drop i).tail with
          | out => rw [e1] at q; exact q.elim
          | bad => rw [e1] at q; exact fun j h' sb => q j h' (by rw [updW_upd] at sb; exact sb)
          | ok k r =>
          rw [e1] at q
          dsimp only at q
          intro j hj ej
          rw [updW_upd]
          subst ej
          walk_at "st"
          refine ⟨c, ts, j, rfl, updW_same, ?_⟩
          walk_at "st"
          rw [getD_drop]
          refine go_dec (fun c3 => ?_) (fun c3 => ?_)
          · have hl := drop_lt (ts := ts) (j := j) (by rw [c3]; decide)
            rw [if_pos c3] at q
            walk_at "st"
            refine ⟨c, ts, j, _, rfl, updW_same, ok, by have := ok.2; omega, tk6, ?_⟩
            unfold needK
            rw [getD_drop, if_pos c3, updW_upd]
            walk_at "st"
            refine ⟨c, ts, j + 1, m, rfl, updW_same, ok, hl, by omega, ?_⟩
            rw [drop_tail rfl]
            cases e2 : kdF m (ts.drop j).tail with
            | out => rw [e2] at q; exact q.elim
            | bad => rw [e2] at q; exact fun j h' sb => q j h' (by rw [updW_upd] at sb; exact sb)
            | ok k2 r =>
            rw [e2] at q
            dsimp only at q
            intro j2 hj2 ej2
            rw [updW_upd]
            subst ej2
            walk_at "st"
            refine ⟨_, _, rfl, ?_⟩
            walk_at "st"
            refine ⟨c, ts, j2, _, rfl, updW_same, ok, by have := ok.2; omega, tk5, ?_⟩
            unfold needK
            rw [getD_drop, updW_upd]
            by_cases c4 : (ts.drop j2).headD [] = z_x29
            · rw [if_pos c4] at q ⊢
              have hl := drop_lt (ts := ts) (j := j2) (by rw [c4]; decide)
              walk_at "st"
              exact .of (q (j2 + 1) hl (drop_tail rfl))
            · rw [if_neg c4] at q ⊢
              exact q _ _ (.refl _)
          · rw [if_neg c3] at q
            walk_at "st"
            refine ⟨c, ts, j, _, rfl, updW_same, ok, by have := ok.2; omega, tk5, ?_⟩
            unfold needK
            rw [getD_drop, updW_upd]
            by_cases c4 : (ts.drop j).headD [] = z_x29
            · rw [if_pos c4] at q ⊢
              have hl := drop_lt (ts := ts) (j := j) (by rw [c4]; decide)
              walk_at "st"
              exact .of (q (j + 1) hl (drop_tail rfl))
            · rw [if_neg c4] at q ⊢
              exact q _ _ (.refl _)
        · rw [if_neg c2] at q ⊢
          exact q _ _ (.refl _)
end

/-! ## the tokens of a kind's text -/
def wrapK (b : Bool) (ts : List Tkn) : List Tkn := if b = true then z_x28 :: (ts ++ [z_x29]) else ts
def Kd.tks : Kd → List Tkn
  | .int => [wInt]
  | .bang a => z_x21 :: wrapK a.isFn a.tks
  | .pr a b => z_x28 :: (a.tks ++ z_x2c :: (b.tks ++ [z_x29]))
  | .fn a b => wrapK a.isFn a.tks ++ z_x2dx3e :: b.tks
theorem bangs_ne {t : Tkn} {us : List Tkn} (h : t ≠ z_x21) : bangs (t :: us) = 0 := by rw [bangs]; exact if_neg h
theorem tgF_bang {n : Nat} {us rest : List Tkn} {a : Kd} (e : tgF n us = .ok a rest) : tgF n (z_x21 :: us) = .ok (.bang a) rest := by
  cases n with
  | zero => rw [tgF] at e; cases e
  | succ n =>
    rw [tgF] at e ⊢
    rw [show bangs (z_x21 :: us) = bangs us + 1 by rw [bangs]; exact if_pos rfl, List.drop_succ_cons]
    cases x : inF n (us.drop (bangs us)) with
    | ok k r =>
      rw [x] at e
      have e : Rs.ok (bangN (bangs us) k) r = .ok a rest := e
      cases e; rfl
    | bad => rw [x] at e; cases e
    | out => rw [x] at e; cases e
theorem tgF_in {n : Nat} {t : Tkn} {us rest : List Tkn} {a : Kd} (h : t ≠ z_x21) (e : inF n (t :: us) = .ok a rest) : tgF (n + 1) (t :: us) = .ok a rest := by
  rw [tgF, bangs_ne h, List.drop_zero, e]; rfl
theorem kdL_end {tg : List Tkn → Rs Kd} {K : Nat} {init : List Kd} {a : Kd} {rest : List Tkn} (hK : rest.length < K) (h : rest.headD [] ≠ z_x2dx3e) : kdL tg K init a rest = .ok (init.foldr Kd.fn a) rest := by
  obtain ⟨K, rfl⟩ : ∃ x, K = x + 1 := ⟨K - 1, by omega⟩
  rw [kdL, if_neg h]
theorem kdF_end {n : Nat} {us rest : List Tkn} {a : Kd} (e : tgF n us = .ok a rest) (h : rest.headD [] ≠ z_x2dx3e) : kdF (n + 1) us = .ok a rest := by
  rw [kdF, e]; exact kdL_end (Nat.lt_succ_self _) h
theorem inF_int {n : Nat} {us : List Tkn} : inF (n + 1) (wInt :: us) = .ok .int us := by
  rw [inF]; exact if_pos rfl
theorem inF_par {n : Nat} {us : List Tkn} : inF (n + 1) (z_x28 :: us) = (match kdF n us with
      | .ok k r => if r.headD [] = z_x2c then (match kdF n r.tail with | .ok k2 r2 => if r2.headD [] = z_x29 then .ok (.pr k k2) r2.tail else .bad | .bad => .bad | .out => .out) else if r.headD [] = z_x29 then .ok k r.tail else .bad
      | .bad => .bad
      | .out => .out) := by
  rw [inF]; exact (if_neg (show ¬ z_x28 = wInt by decide)).trans (if_pos rfl)
theorem inF_1 {n : Nat} {us rest : List Tkn} {k : Kd} (e : kdF n us = .ok k (z_x29 :: rest)) : inF (n + 1) (z_x28 :: us) = .ok k rest := by
  rw [inF_par, e]; exact (if_neg (show ¬ z_x29 = z_x2c by decide)).trans (if_pos rfl)
theorem inF_2 {n : Nat} {us vs rest : List Tkn} {k k2 : Kd} (e : kdF n us = .ok k (z_x2c :: vs)) (e2 : kdF n vs = .ok k2 (z_x29 :: rest)) : inF (n + 1) (z_x28 :: us) = .ok (.pr k k2) rest := by
  rw [inF_par, e]
  refine (if_pos rfl).trans ?_
  rw [List.tail_cons, e2]; exact if_pos rfl
theorem Kd.dep_pos (k : Kd) : 0 < k.dep := by cases k <;> simp [Kd.dep]
/-- a kind with its arrows, as the loop of its depth reads it -/
def KdR (k : Kd) (n : Nat) (rest : List Tkn) : Prop := ∃ a r, tgF n (k.tks ++ rest) = .ok a r ∧ r.length < (k.tks ++ rest).length ∧ ∀ init K, r.length < K → kdL (tgF n) K init a r = .ok (init.foldr Kd.fn k) rest
theorem KdR.one {k : Kd} {n : Nat} {rest : List Tkn} (e : tgF n (k.tks ++ rest) = .ok k rest) (l : 0 < k.tks.length) (hr : rest.headD [] ≠ z_x2dx3e) : KdR k n rest :=
  ⟨k, rest, e, by rw [List.length_append]; omega, fun _ _ h => kdL_end h hr⟩
theorem KdR.kd {k : Kd} {n : Nat} {rest : List Tkn} (h : KdR k n rest) : kdF (n + 1) (k.tks ++ rest) = .ok k rest := by
  obtain ⟨a, r, e, _, g⟩ := h
  rw [kdF, e]; exact g [] _ (Nat.lt_succ_self _)
theorem Kd.tks_pos (k : Kd) : 0 < k.tks.length := by cases k <;> simp [Kd.tks] <;> omega
theorem kd_read2 (k : Kd) : (∀ n rest, 4 * k.dep ≤ n + 1 → rest.headD [] ≠ z_x2dx3e → KdR k n rest) ∧ (∀ n rest, 4 * k.dep + 2 ≤ n → tgF n (wrapK k.isFn k.tks ++ rest) = .ok k rest) := by
  induction k with
  | int =>
    have t : ∀ n rest, 2 ≤ n → tgF n (Kd.int.tks ++ rest) = .ok .int rest := fun n rest h => by
      obtain ⟨m, rfl⟩ := Nat.exists_eq_add_of_le h
      rw [show 2 + m = m + 1 + 1 by omega, Kd.tks, List.singleton_append]
      exact tgF_in (by decide) inF_int
    exact ⟨fun n rest h hr => .one (t n rest (by simp only [Kd.dep] at h; omega)) (Kd.tks_pos _) hr, fun n rest h => t n rest (by omega)⟩
  | bang a ih =>
    have t : ∀ n rest, 4 * a.dep + 2 ≤ n → tgF n ((Kd.bang a).tks ++ rest) = .ok (.bang a) rest := fun n rest h => by
      rw [Kd.tks, List.cons_append]; exact tgF_bang (ih.2 _ rest h)
    exact ⟨fun n rest h hr => .one (t n rest (by simp only [Kd.dep] at h; omega)) (Kd.tks_pos _) hr, fun n rest h => t n rest (by simp only [Kd.dep] at h; omega)⟩
  | pr a b iha ihb =>
    have t : ∀ n rest, 4 * max a.dep b.dep + 2 ≤ n → tgF n ((Kd.pr a b).tks ++ rest) = .ok (.pr a b) rest := fun n rest h => by
      obtain ⟨m, rfl⟩ : ∃ m, n = m + 3 := ⟨n - 3, by have := a.dep_pos; omega⟩
      rw [show (Kd.pr a b).tks ++ rest = z_x28 :: (a.tks ++ (z_x2c :: (b.tks ++ (z_x29 :: rest)))) by simp [Kd.tks]]
      exact tgF_in (by decide) (inF_2 (iha.1 m _ (by omega) (show (z_x2c :: _).headD [] ≠ z_x2dx3e from (show ¬ z_x2c = z_x2dx3e by decide))).kd (ihb.1 m _ (by omega) (show (z_x29 :: _).headD [] ≠ z_x2dx3e from (show ¬ z_x29 = z_x2dx3e by decide))).kd)
    exact ⟨fun n rest h hr => .one (t n rest (by simp only [Kd.dep] at h; omega)) (Kd.tks_pos _) hr, fun n rest h => t n rest (by simp only [Kd.dep] at h; omega)⟩
  | fn a b iha ihb =>
    have t : ∀ n rest, 4 * max a.dep b.dep + 3 ≤ n → rest.headD [] ≠ z_x2dx3e → KdR (.fn a b) n rest := fun n rest h hr => by
      obtain ⟨a2, r2, e2, l2, g2⟩ := ihb.1 n rest (by omega) hr
      have e : (Kd.fn a b).tks ++ rest = wrapK a.isFn a.tks ++ (z_x2dx3e :: (b.tks ++ rest)) := by simp [Kd.tks]
      refine ⟨a, z_x2dx3e :: (b.tks ++ rest), by rw [e]; exact iha.2 n _ (by omega), ?_, fun init K hK => ?_⟩
      · rw [e]
        have : 0 < (wrapK a.isFn a.tks).length := by
          unfold wrapK
          split
          · simp
          · exact a.tks_pos
        rw [List.length_append]; omega
      · obtain ⟨K, rfl⟩ : ∃ x, K = x + 1 := ⟨K - 1, by omega⟩
        rw [kdL]
        refine (if_pos rfl).trans ?_
        rw [List.tail_cons, e2]
        have := g2 (init ++ [a]) K (by simp only [List.length_cons] at hK; omega)
        rw [List.foldr_append] at this
        exact this
    refine ⟨fun n rest h hr => t n rest (by simp only [Kd.dep] at h; omega) hr, fun n rest h => ?_⟩
    simp only [Kd.dep] at h
    obtain ⟨m, rfl⟩ : ∃ m, n = m + 3 := ⟨n - 3, by omega⟩
    have i := (t m (z_x29 :: rest) (by omega) (show ¬ z_x29 = z_x2dx3e by decide)).kd
    show tgF (m + 3) (z_x28 :: ((Kd.fn a b).tks ++ [z_x29]) ++ rest) = _
    rw [show z_x28 :: ((Kd.fn a b).tks ++ [z_x29]) ++ rest = z_x28 :: ((Kd.fn a b).tks ++ (z_x29 :: rest)) by simp]
    exact tgF_in (by decide) (inF_1 i)
theorem kd_read (k : Kd) : (∀ n rest, 4 * k.dep ≤ n → rest.headD [] ≠ z_x2dx3e → kdF n (k.tks ++ rest) = .ok k rest) ∧ (∀ n rest, 4 * k.dep + 2 ≤ n → tgF n (wrapK k.isFn k.tks ++ rest) = .ok k rest) :=
  ⟨fun n rest h hr => by
    obtain ⟨m, rfl⟩ : ∃ m, n = m + 1 := ⟨n - 1, by have := k.dep_pos; omega⟩
    exact ((kd_read2 k).1 m rest (by omega) hr).kd, (kd_read2 k).2⟩
theorem opn1 : opn z_x28 = 1 := by decide
theorem opn2 : opn z_x29 = -1 := by decide
theorem opn3 : opn z_x2c = 0 := by decide
theorem opn4 : opn z_x21 = 0 := by decide
theorem opn5 : opn wInt = 0 := by decide
theorem opn6 : opn z_x2dx3e = 0 := by decide
theorem deep_step {b : Int} {t : Tkn} {r : List Tkn} (o : Int) (e : opn t = o) (h : b + o ≤ 60) : deepB b (t :: r) = deepB (b + o) r := by
  rw [deepB, e, decide_eq_true h, Bool.true_and]
theorem deep_kd (k : Kd) : ∀ (b : Int) (rest : List Tkn), b + k.dep ≤ 60 → deepB b (k.tks ++ rest) = deepB b rest := by
  have wr : ∀ (k : Kd), (∀ (b : Int) (rest : List Tkn), b + k.dep ≤ 60 → deepB b (k.tks ++ rest) = deepB b rest) → ∀ (b : Int) (rest : List Tkn), b + k.dep + 1 ≤ 60 → deepB b (wrapK k.isFn k.tks ++ rest) = deepB b rest := fun k ih b rest h => by
    unfold wrapK
    split
    · rw [List.cons_append, deep_step 1 opn1 (by omega), List.append_assoc, ih _ _ (by omega), List.singleton_append, deep_step (-1) opn2 (by omega)]
      congr 1; omega
    · exact ih b rest (by omega)
  induction k with
  | int => intro b rest h; simp only [Kd.dep] at h; rw [Kd.tks, List.singleton_append, deep_step 0 opn5 (by omega), Int.add_zero]
  | bang a ih =>
    intro b rest h; simp only [Kd.dep] at h
    rw [Kd.tks, List.cons_append, deep_step 0 opn4 (by omega), Int.add_zero, wr a ih _ _ (by omega)]
  | pr a b iha ihb =>
    intro b' rest h; simp only [Kd.dep] at h
    rw [Kd.tks, List.cons_append, deep_step 1 opn1 (by omega), List.append_assoc, iha _ _ (by omega), List.cons_append, deep_step 0 opn3 (by omega), Int.add_zero, List.append_assoc, ihb _ _ (by omega), List.singleton_append, deep_step (-1) opn2 (by omega)]
    congr 1; omega
  | fn a b iha ihb =>
    intro b' rest h; simp only [Kd.dep] at h
    rw [Kd.tks, List.append_assoc, wr a iha _ _ (by omega), List.cons_append, deep_step 0 opn6 (by omega), Int.add_zero, ihb _ _ (by omega)]
theorem sepS {c : Nat} {r : List Nat} (h : c ∈ signsS) (n : c ≠ 45) : SepO [c] r := by
  refine ⟨fun z => ?_, fun z => ?_⟩
  · have : lastAn [c] = anB c := rfl
    rw [this, sign_an h] at z; cases z
  · exact absurd (List.cons.inj z).1 n
theorem lex_sign {c : Nat} {r : List Nat} (h : c ∈ signsS) (n : c ≠ 45) : lex (c :: r) = ([c] :: (lex r).1, (lex r).2) := by
  refine lex_app (s := [c]) ?_ (sepS h n)
  unfold IsTk tkB
  simp only [Bool.or_eq_true]
  right; right
  exact decide_eq_true h
theorem lex_kd (k : Kd) : ∀ r : List Nat, anB (r.headD 32) = false → lex (k.txt ++ r) = (k.tks ++ (lex r).1, (lex r).2) := by
  have wr : ∀ (k : Kd), (∀ r : List Nat, anB (r.headD 32) = false → lex (k.txt ++ r) = (k.tks ++ (lex r).1, (lex r).2)) → ∀ r : List Nat, anB (r.headD 32) = false → lex (wrapT k.isFn k.txt ++ r) = (wrapK k.isFn k.tks ++ (lex r).1, (lex r).2) := fun k ih r h => by
    unfold wrapT wrapK
    split
    · rw [show z_x28 ++ k.txt ++ z_x29 ++ r = 40 :: (k.txt ++ (41 :: r)) by simp [z_x28, z_x29], lex_sign (by decide) (by decide), ih (41 :: r) (show anB 41 = false by decide), lex_sign (by decide) (by decide)]
      simp [z_x28, z_x29]
    · exact ih r h
  induction k with
  | int =>
    intro r h
    exact lex_app tk3 ⟨fun _ => h, fun z => absurd z (by decide)⟩
  | bang a ih =>
    intro r h
    rw [show (Kd.bang a).txt ++ r = 33 :: (wrapT a.isFn a.txt ++ r) from rfl, lex_sign (by decide) (by decide), wr a ih r h]; rfl
  | pr a b iha ihb =>
    intro r h
    rw [show (Kd.pr a b).txt ++ r = 40 :: (a.txt ++ (44 :: 32 :: (b.txt ++ (41 :: r)))) by simp [Kd.txt, z_x28, z_x2cx20, z_x29], lex_sign (by decide) (by decide), iha (44 :: 32 :: (b.txt ++ (41 :: r))) (show anB 44 = false by decide), lex_sign (by decide) (by decide), lex_blank (Or.inl rfl), ihb (41 :: r) (show anB 41 = false by decide), lex_sign (by decide) (by decide)]
    simp [Kd.tks, z_x28, z_x2c, z_x29]
  | fn a b iha ihb =>
    intro r h
    rw [show (Kd.fn a b).txt ++ r = wrapT a.isFn a.txt ++ (32 :: (z_x2dx3e ++ (32 :: (b.txt ++ r)))) by simp [Kd.txt, z_x20x2dx3ex20, z_x2dx3e], wr a iha (32 :: (z_x2dx3e ++ (32 :: (b.txt ++ r)))) (show anB 32 = false by decide), lex_blank (Or.inl rfl), lex_app tk1 (.blank (Or.inl rfl)), lex_blank (Or.inl rfl), ihb r h]
    simp [Kd.tks]
def rkRes (aI aL : Addr) (s : List Nat) (m : Nat) (h : HW) (R : KW) (ex : XW → HW → Prop) : Prop :=
  if deepB 0 (lex s).1 = true then (if (lex s).2 = true then (match kdF m (lex s).1 with
    | .ok k r => if r = [] then R k.w h else ∀ h', Sub h h' → ex ⟨aI, none⟩ h'
    | .bad => ∀ h', Sub h h' → ex ⟨aI, none⟩ h'
    | .out => False) else ∀ h', Sub h h' → ex ⟨aI, none⟩ h') else ∀ h', Sub h h' → ex ⟨aL, none⟩ h'
def spReadKind (aI aL : Addr) (n : Nat) : SpW := fun ws h R ex => ∃ (s : List Nat) (m : Nat), ws = [.str s] ∧ s.length ≤ 1000000 ∧ (m ≤ n ∧ m ≤ 1000000) ∧ rkRes aI aL s m h R ex
section
variable {P : Program} {w : World} {K : PySem.W.Frag} {mg : Str → Option Value} {base : Heap}
end

/-! ## the text of a term -/
def Tm.line : Tm → Nat
  | .lam _ _ _ => 0 | .lt _ _ _ => 0 | .sp _ _ _ _ => 0
  | .op s _ _ => if s = 42 then 2 else 1
  | .app _ _ => 3 | .box _ => 4 | _ => 5
def Tm.txt : Tm → List Nat
  | .var x => x
  | .num n => decS n
  | .lam x k b => z_x5c ++ x ++ z_x3a ++ k.txt ++ z_x2ex20 ++ b.txt
  | .lt x a b => z_letx20 ++ x ++ z_x20x3dx20 ++ a.txt ++ z_x20inx20 ++ b.txt
  | .sp x y a b => z_letx20x28 ++ x ++ z_x2cx20 ++ y ++ z_x29x20x3dx20 ++ a.txt ++ z_x20inx20 ++ b.txt
  | .pr a b => z_x28 ++ a.txt ++ z_x2cx20 ++ b.txt ++ z_x29
  | .app a b => wrapT (decide (a.line < 3)) a.txt ++ z_x20 ++ wrapT (decide (b.line < 4)) b.txt
  | .box a => z_x21 ++ wrapT (decide (a.line < 4)) a.txt
  | .op s a b => wrapT (decide (a.line < (if s = 42 then 2 else 1))) a.txt ++ z_x20 ++ [s] ++ z_x20 ++ wrapT (decide (b.line < (if s = 42 then 2 else 1) + 1)) b.txt
theorem Tm.txt_len : ∀ t : Tm, TmOk t → t.txt.length ≤ 2200 * t.size
  | .var x, h => by have := h.nm.len; simp only [Tm.txt, Tm.size]; omega
  | .num n, h => by have := decS_len' (i := n) (by have := h.1; have := h.2; omega); simp only [Tm.txt, Tm.size]; omega
  | .lam x k b, h => by
    have := h.1.nm.len; have := Tm.txt_len b h.2.2; have := k.txt_len; have := Kd.nodes_le h.2.1
    have e1 : z_x5c.length = 1 := rfl
    have e2 : z_x3a.length = 1 := rfl
    have e3 : z_x2ex20.length = 2 := rfl
    simp only [Tm.txt, Tm.size, List.length_append]; omega
  | .lt x a b, h => by
    have := h.1.nm.len; have := Tm.txt_len a h.2.1; have := Tm.txt_len b h.2.2
    have e1 : z_letx20.length = 4 := rfl
    have e2 : z_x20x3dx20.length = 3 := rfl
    have e3 : z_x20inx20.length = 4 := rfl
    simp only [Tm.txt, Tm.size, List.length_append]; omega
  | .sp x y a b, h => by
    have := h.1.nm.len; have := h.2.1.nm.len; have := Tm.txt_len a h.2.2.1; have := Tm.txt_len b h.2.2.2
    have e1 : z_letx20x28.length = 5 := rfl
    have e2 : z_x29x20x3dx20.length = 4 := rfl
    have e3 : z_x20inx20.length = 4 := rfl
    have e4 : z_x2cx20.length = 2 := rfl
    simp only [Tm.txt, Tm.size, List.length_append]; omega
  | .pr a b, h => by
    have := Tm.txt_len a h.1; have := Tm.txt_len b h.2
    have e1 : z_x28.length = 1 := rfl
    have e2 : z_x2cx20.length = 2 := rfl
    have e3 : z_x29.length = 1 := rfl
    simp only [Tm.txt, Tm.size, List.length_append]; omega
  | .app a b, h => by
    have := Tm.txt_len a h.1; have := Tm.txt_len b h.2
    have := wrapT_len (decide (a.line < 3)) a.txt; have := wrapT_len (decide (b.line < 4)) b.txt
    have e1 : z_x20.length = 1 := rfl
    simp only [Tm.txt, Tm.size, List.length_append]; omega
  | .box a, h => by
    have := Tm.txt_len a h
    have := wrapT_len (decide (a.line < 4)) a.txt
    have e1 : z_x21.length = 1 := rfl
    simp only [Tm.txt, Tm.size, List.length_append]; omega
  | .op s a b, h => by
    have := Tm.txt_len a h.2.1; have := Tm.txt_len b h.2.2
    have := wrapT_len (decide (a.line < (if s = 42 then 2 else 1))) a.txt; have := wrapT_len (decide (b.line < (if s = 42 then 2 else 1) + 1)) b.txt
    have e1 : z_x20.length = 1 := rfl
    simp only [Tm.txt, Tm.size, List.length_append, List.length_cons, List.length_nil]; omega
def tmBody : Tm → List (List Nat ⊕ (Tm × Nat))
  | .var x => [.inl x]
  | .num n => [.inl (decS n)]
  | .lam x k b => [.inl z_x5c, .inl x, .inl z_x3a, .inl k.txt, .inl z_x2ex20, .inr (b, 0)]
  | .lt x a b => [.inl z_letx20, .inl x, .inl z_x20x3dx20, .inr (a, 0), .inl z_x20inx20, .inr (b, 0)]
  | .sp x y a b => [.inl z_letx20x28, .inl x, .inl z_x2cx20, .inl y, .inl z_x29x20x3dx20, .inr (a, 0), .inl z_x20inx20, .inr (b, 0)]
  | .pr a b => [.inl z_x28, .inr (a, 0), .inl z_x2cx20, .inr (b, 0), .inl z_x29]
  | .app a b => [.inr (a, 3), .inl z_x20, .inr (b, 4)]
  | .box a => [.inl z_x21, .inr (a, 4)]
  | .op s a b => [.inr (a, if s = 42 then 2 else 1), .inl (z_x20 ++ [s] ++ z_x20), .inr (b, (if s = 42 then 2 else 1) + 1)]
def tmPcs (p : Tm × Nat) : List (List Nat ⊕ (Tm × Nat)) := if p.1.line ≥ p.2 then tmBody p.1 else .inl z_x28 :: (tmBody p.1 ++ [.inl z_x29])
def tmT (p : Tm × Nat) : List Nat := wrapT (decide (p.1.line < p.2)) p.1.txt
theorem wrapT_0 {n : Nat} {s : List Nat} : wrapT (decide (n < 0)) s = s := by unfold wrapT; rw [decide_eq_false (Nat.not_lt_zero _), if_neg Bool.false_ne_true]
theorem tmBody_txt (t : Tm) : t.txt = ((tmBody t).map (Sum.elim id tmT)).flatten := by
  cases t <;> simp only [Tm.txt, tmBody, tmT, List.map_cons, List.map_nil, Sum.elim_inl, Sum.elim_inr, id, wrapT_0, List.flatten_cons, List.flatten_nil, List.append_nil, List.append_assoc]
theorem tmBody_ms (t : Tm) : ((tmBody t).map (Sum.elim (fun _ => 1) fun p : Tm × Nat => 12 * p.1.size)).sum + 3 ≤ 12 * t.size := by
  cases t <;> simp only [tmBody, Tm.size, List.map_cons, List.map_nil, Sum.elim_inl, Sum.elim_inr, List.sum_cons, List.sum_nil] <;> omega
theorem tmBody_ok (t : Tm) (h : TmOk t) (hz : t.size ≤ 400) (j : Tm × Nat) (hj : .inr j ∈ tmBody t) : TmOk j.1 ∧ j.1.size ≤ 400 ∧ j.2 ≤ 4 := by
  cases t <;> simp only [tmBody, List.mem_cons, List.not_mem_nil, or_false, reduceCtorEq, false_or, Sum.inr.injEq] at hj
  case lam x k b => subst hj; simp only [Tm.size] at hz; exact ⟨h.2.2, by simp only; omega, Nat.le_of_ble_eq_true rfl⟩
  case lt x a b => simp only [Tm.size] at hz; rcases hj with rfl | rfl; exact ⟨h.2.1, by simp only; omega, Nat.le_of_ble_eq_true rfl⟩; exact ⟨h.2.2, by simp only; omega, Nat.le_of_ble_eq_true rfl⟩
  case sp x y a b => simp only [Tm.size] at hz; rcases hj with rfl | rfl; exact ⟨h.2.2.1, by simp only; omega, Nat.le_of_ble_eq_true rfl⟩; exact ⟨h.2.2.2, by simp only; omega, Nat.le_of_ble_eq_true rfl⟩
  case pr a b => simp only [Tm.size] at hz; rcases hj with rfl | rfl; exact ⟨h.1, by simp only; omega, Nat.le_of_ble_eq_true rfl⟩; exact ⟨h.2, by simp only; omega, Nat.le_of_ble_eq_true rfl⟩
  case app a b => simp only [Tm.size] at hz; rcases hj with rfl | rfl; exact ⟨h.1, by simp only; omega, Nat.le_of_ble_eq_true rfl⟩; exact ⟨h.2, by simp only; omega, Nat.le_of_ble_eq_true rfl⟩
  case box a => subst hj; simp only [Tm.size] at hz; exact ⟨h, by simp only; omega, Nat.le_of_ble_eq_true rfl⟩
  case op s a b => simp only [Tm.size] at hz; rcases hj with rfl | rfl; exact ⟨h.2.1, by simp only; omega, by simp only; split <;> omega⟩; exact ⟨h.2.2, by simp only; omega, by simp only; split <;> omega⟩
theorem tmBody_len (t : Tm) : (tmBody t).length ≤ 8 := by cases t <;> simp [tmBody]
def tmWr : Wr (Tm × Nat) where
  w p := [p.1.w, .int (p.2 : Nat)]
  pcs := tmPcs
  txt := tmT
  ms p := 12 * p.1.size
  ok p := TmOk p.1 ∧ p.1.size ≤ 400 ∧ p.2 ≤ 4
  txt_eq := fun ⟨t, l⟩ _ => by
    unfold tmPcs
    dsimp only
    split
    · rw [← tmBody_txt]; simp only [tmT]; unfold wrapT; rw [decide_eq_false (by omega), if_neg Bool.false_ne_true]
    · rw [List.map_cons, List.map_append, List.flatten_cons, List.flatten_append, ← tmBody_txt]; simp only [tmT]; unfold wrapT; rw [decide_eq_true (by omega), if_pos rfl]; simp
  ms_ge := fun ⟨t, l⟩ _ => by
    have := tmBody_ms t
    unfold tmPcs
    dsimp only
    split
    · omega
    · simp only [List.map_cons, List.map_append, List.sum_cons, List.sum_append, Sum.elim_inl, List.map_nil, List.sum_nil]; omega
  ok_sub := fun ⟨t, l⟩ h j hj => by
    refine tmBody_ok t h.1 h.2.1 j ?_
    unfold tmPcs at hj
    dsimp only at hj
    split at hj
    · exact hj
    · simpa using hj
def spLineOf : SpW := fun ws h R _ => ∃ t : Tm, ws = [t.w] ∧ TmOk t ∧ R (.int (t.line : Nat)) h
def spBinder : SpW := fun ws h R _ => ∃ t : Tm, ws = [t.w] ∧ TmOk t ∧ t.line = 0 ∧ R (.lst ((tmBody t).map tmWr.pw)) h
def spPlain : SpW := fun ws h R _ => ∃ t : Tm, ws = [t.w] ∧ TmOk t ∧ t.line ≠ 0 ∧ R (.lst ((tmBody t).map tmWr.pw)) h
def spDecimal : SpW := fun ws h R _ => ∃ n : Int, ws = [.int n] ∧ 0 ≤ n ∧ n ≤ 1000000 ∧ R (.str (decS n)) h
def spWriteTerm : SpW := fun ws h R _ => ∃ t : Tm, ws = [t.w] ∧ TmOk t ∧ t.size ≤ 400 ∧ R (.str t.txt) h
section
variable {P : Program} {w : World} {K : PySem.W.Frag} {mg : Str → Option Value} {base : Heap}
theorem ok_decimal (T : Tx P w K mg) : FnOk P w K mg base CX0 1 T.a_decimal T.fd_decimal ["number"] (lSp K spDecimal) := by
  refine fnW T.F_decimal sc_decimal (fun ws h R ex ⟨_, e, _⟩ => by rw [e]; rfl) fun cdv A outer s H E hr => ⟨_, (wss_cons (ws_set (i := 1) sc_decimal.nd (w_callB call_abs lf_abs (by rfl) T.m_abs (by decide +kernel) (wa_cons (w_var 0) wa_nil)))
    (wss_cons (ws_set (i := 2) sc_decimal.nd (w_lstO wa_nil))
    (wss_cons (ws_while PassesOwn.never (wt_cmp (rw := geW) op_ge lf_cmp (w_var 1) (w_globI rfl T.c__CHUNK) (nomark _)) wss_never)
    (wss_cons (ws_expr (w_bm PySem.F.plainAttrs_list PySem.F.slot_list_append PySem.F.type_list_append mt_append tyL_ok lf_append (w_var 2) (wa_cons (w_callTy call_str_int lf_str (by rfl) T.m_str (by decide +kernel) (wa_cons (w_var 1) wa_nil)) wa_nil)))
    (wss_cons (ws_if (wt_cmp (rw := ltW) op_lt lf_cmp (w_var 0) w_int (nomark _)) (wss_one (ws_expr (w_bm PySem.F.plainAttrs_list PySem.F.slot_list_append PySem.F.type_list_append mt_append tyL_ok lf_append (w_var 2) (wa_cons (w_str z_x2d) wa_nil)))) wss_nil)
    (wss_one (ws_ret (w_bm PySem.F.plainAttrs_str PySem.F.slot_str_join PySem.F.type_str_join mt_join tyS_ok lf_join (w_str z_) (wa_cons (w_rev (w_var 2)) wa_nil))))))))), fun ws h R ex ⟨n, e, l0, l1, q⟩ => ?_⟩
  subst e
  have en : ((n.natAbs : Nat) : Int) = n := by omega
  walk_at "st"
  rw [en]
  intro p hp
  walk_at "st"
  refine go_while (fun m ρ' h' => ρ' = [some (.int n), some (.int n), some (.ref p), none] ∧ h' = updW h p (.lst [])) ⟨0, .of ⟨rfl, rfl⟩⟩ ?_
  rintro m ρ' h' ⟨rfl, rfl⟩
  walk_at "st"
  refine go_dec (fun c => absurd c (by omega)) (fun _ => ?_)
  walk_at "st"
  refine go_str (l2 (by omega)) ?_
  walk_at "st"
  rw [updW_upd]
  refine go_dec (fun c => absurd c (by omega)) (fun _ => ?_)
  walk_at "st"
  refine go_revO updW_same ?_
  walk_at "st"
  have := decS_len' (i := n) (by omega)
  refine go_join (ss := [decS n]) rfl (by simp; omega) ?_
  exact .base q (.new hp)
theorem ok__line_of (T : Tx P w K mg) : FnOk P w K mg base CX0 1 T.a__line_of T.fd__line_of ["term"] (lSp K spLineOf) := by
  refine fnW T.F__line_of sc__line_of (fun ws h R ex ⟨_, e, _⟩ => by rw [e]; rfl) fun cdv A outer s H E hr => ⟨_, (wss_one (ws_ret (w_ifExp (wt_cmp (ow_eq hr.units) lf_eq (w_ix (w_var 0) w_int) (w_str z_op) (nomark _)) (w_kget (T.t__LINE_OF_SIGN) (w_glob rfl T.gk__LINE_OF_SIGN) (w_ix (w_var 0) w_int)) (w_kget (T.t__LINE_OF_FORM) (w_glob rfl T.gk__LINE_OF_FORM) (w_ix (w_var 0) w_int))))), fun ws h R ex ⟨t, e, ok, q⟩ => ?_⟩
  subst e
  cases t
  case op s a b =>
    have hs := ok.1
    simp only [List.mem_cons, List.not_mem_nil, or_false] at hs
    simp only [Tm.w]
    rcases hs with rfl | rfl | rfl <;> walk_at "stc" <;> exact .of q
  all_goals simp only [Tm.w]; walk_at "stc"; exact .of q
theorem ok__binder_pieces (T : Tx P w K mg) : FnOk P w K mg base CX0 4 T.a__binder_pieces T.fd__binder_pieces ["term"] (lSp K spBinder) := by
  refine fnW T.F__binder_pieces sc__binder_pieces (fun ws h R ex ⟨_, e, _⟩ => by rw [e]; rfl) fun cdv A outer s H E hr => ⟨_, (wss_cons (ws_if (wt_cmp (ow_eq hr.units) lf_eq (w_ix (w_var 0) w_int) (w_str z_lam) (nomark _)) (wss_one (ws_ret (w_lst (wa_cons (w_str z_x5c) (wa_cons (w_ix (w_var 0) w_int) (wa_cons (w_str z_x3a) (wa_cons (w_call (ok_kind_text T) (hr.mono (by walk_at "rm")) (by rfl) T.g_kind_text T.F_kind_text.kp T.b_kind_text (wa_cons (w_ix (w_var 0) w_int) wa_nil)) (wa_cons (w_str z_x2ex20) (wa_cons (w_tup (wa_cons (w_ix (w_var 0) w_int) (wa_cons w_int wa_nil))) wa_nil))))))))) wss_nil)
    (wss_cons (ws_if (wt_cmp (ow_eq hr.units) lf_eq (w_ix (w_var 0) w_int) (w_str wLet) (nomark _)) (wss_one (ws_ret (w_lst (wa_cons (w_str z_letx20) (wa_cons (w_ix (w_var 0) w_int) (wa_cons (w_str z_x20x3dx20) (wa_cons (w_tup (wa_cons (w_ix (w_var 0) w_int) (wa_cons w_int wa_nil))) (wa_cons (w_str z_x20inx20) (wa_cons (w_tup (wa_cons (w_ix (w_var 0) w_int) (wa_cons w_int wa_nil))) wa_nil))))))))) wss_nil)
    (wss_one (ws_ret (w_lst (wa_cons (w_str z_letx20x28) (wa_cons (w_ix (w_var 0) w_int) (wa_cons (w_str z_x2cx20) (wa_cons (w_ix (w_var 0) w_int) (wa_cons (w_str z_x29x20x3dx20) (wa_cons (w_tup (wa_cons (w_ix (w_var 0) w_int) (wa_cons w_int wa_nil))) (wa_cons (w_str z_x20inx20) (wa_cons (w_tup (wa_cons (w_ix (w_var 0) w_int) (wa_cons w_int wa_nil))) wa_nil))))))))))))), fun ws h R ex ⟨t, e, ok, l0, q⟩ => ?_⟩
  subst e
  cases t with
  | lam x k b => simp only [Tm.w]; walk_at "stc"; exact ⟨k, rfl, Nat.le_trans ok.2.1 (by decide), by walk_at "stc"; exact .of q⟩
  | lt x a b => simp only [Tm.w]; walk_at "stc"; exact .of q
  | sp x y a b => simp only [Tm.w]; walk_at "stc"; exact .of q
  | op s a b => exact absurd l0 (by simp only [Tm.line]; split <;> decide)
  | _ => exact absurd l0 (by simp only [Tm.line]; decide)
theorem ok__plain_pieces (T : Tx P w K mg) : FnOk P w K mg base CX0 4 T.a__plain_pieces T.fd__plain_pieces ["term"] (lSp K spPlain) := by
  refine fnW T.F__plain_pieces sc__plain_pieces (fun ws h R ex ⟨_, e, _⟩ => by rw [e]; rfl) fun cdv A outer s H E hr => ⟨_, (wss_cons (ws_set (i := 1) sc__plain_pieces.nd (w_ix (w_var 0) w_int))
    (wss_cons (ws_set (i := 2) sc__plain_pieces.nd (w_call (ok__line_of T) (hr.mono (by walk_at "rm")) (by rfl) T.g__line_of T.F__line_of.kp T.b__line_of (wa_cons (w_var 0) wa_nil)))
    (wss_cons (ws_if (wt_cmp (ow_eq hr.units) lf_eq (w_var 1) (w_str z_var) (nomark _)) (wss_one (ws_ret (w_lst (wa_cons (w_ix (w_var 0) w_int) wa_nil)))) wss_nil)
    (wss_cons (ws_if (wt_cmp (ow_eq hr.units) lf_eq (w_var 1) (w_str z_num) (nomark _)) (wss_one (ws_ret (w_lst (wa_cons (w_call (ok_decimal T) (hr.mono (by walk_at "rm")) (by rfl) T.g_decimal T.F_decimal.kp T.b_decimal (wa_cons (w_ix (w_var 0) w_int) wa_nil)) wa_nil)))) wss_nil)
    (wss_cons (ws_if (wt_cmp (ow_eq hr.units) lf_eq (w_var 1) (w_str z_op) (nomark _)) (wss_one (ws_ret (w_lst (wa_cons (w_tup (wa_cons (w_ix (w_var 0) w_int) (wa_cons (w_var 2) wa_nil))) (wa_cons (w_joined (.cons (w_str z_x20) (.cons (w_fmt (w_ix (w_var 0) w_int)) (.cons (w_str z_x20) .nil)))) (wa_cons (w_tup (wa_cons (w_ix (w_var 0) w_int) (wa_cons (w_op ow_add lf_add (w_var 2) w_int) wa_nil))) wa_nil)))))) wss_nil)
    (wss_cons (ws_if (wt_cmp (ow_eq hr.units) lf_eq (w_var 1) (w_str z_app) (nomark _)) (wss_one (ws_ret (w_lst (wa_cons (w_tup (wa_cons (w_ix (w_var 0) w_int) (wa_cons (w_var 2) wa_nil))) (wa_cons (w_str z_x20) (wa_cons (w_tup (wa_cons (w_ix (w_var 0) w_int) (wa_cons (w_op ow_add lf_add (w_var 2) w_int) wa_nil))) wa_nil)))))) wss_nil)
    (wss_cons (ws_if (wt_cmp (ow_eq hr.units) lf_eq (w_var 1) (w_str z_box) (nomark _)) (wss_one (ws_ret (w_lst (wa_cons (w_str z_x21) (wa_cons (w_tup (wa_cons (w_ix (w_var 0) w_int) (wa_cons (w_var 2) wa_nil))) wa_nil))))) wss_nil)
    (wss_one (ws_ret (w_lst (wa_cons (w_str z_x28) (wa_cons (w_tup (wa_cons (w_ix (w_var 0) w_int) (wa_cons w_int wa_nil))) (wa_cons (w_str z_x2cx20) (wa_cons (w_tup (wa_cons (w_ix (w_var 0) w_int) (wa_cons w_int wa_nil))) (wa_cons (w_str z_x29) wa_nil))))))))))))))), fun ws h R ex ⟨t, e, ok, l0, q⟩ => ?_⟩
  subst e
  cases t with
  | lam x k b => exact absurd rfl l0
  | lt x a b => exact absurd rfl l0
  | sp x y a b => exact absurd rfl l0
  | op s a b =>
    have hs := ok.1
    simp only [List.mem_cons, List.not_mem_nil, or_false] at hs
    have ew : (Tm.op s a b).w = .tup [.str z_op, .str [s], a.w, b.w] := rfl
    rw [ew]
    walk_at "stc"
    refine ⟨.op s a b, rfl, ok, ?_⟩
    walk_at "stc"
    rcases hs with rfl | rfl | rfl <;> exact .of q
  | var x =>
    simp only [Tm.w]
    walk_at "stc"
    refine ⟨.var x, rfl, ok, ?_⟩
    walk_at "stc"
    exact .of q
  | num n =>
    simp only [Tm.w]
    walk_at "stc"
    refine ⟨.num n, rfl, ok, ?_⟩
    walk_at "stc"
    refine ⟨n, rfl, ok.1, ok.2, ?_⟩
    walk_at "stc"
    exact .of q
  | app a b =>
    simp only [Tm.w]
    walk_at "stc"
    refine ⟨.app a b, rfl, ok, ?_⟩
    walk_at "stc"
    exact .of q
  | box a =>
    simp only [Tm.w]
    walk_at "stc"
    refine ⟨.box a, rfl, ok, ?_⟩
    walk_at "stc"
    exact .of q
  | pr a b =>
    simp only [Tm.w]
    walk_at "stc"
    refine ⟨.pr a b, rfl, ok, ?_⟩
    walk_at "stc"
    exact .of q
theorem ok__pieces_writer (T : Tx P w K mg) : FnOk P w K mg base CX0 5 T.a__pieces_writer T.fd__pieces_writer ["item"] (lSp K (spPcs tmWr)) := by
  refine fnW T.F__pieces_writer sc__pieces_writer (fun ws h R ex ⟨_, e, _⟩ => by rw [e]; rfl) fun cdv A outer s H E hr => ⟨_, (wss_cons (ws_asg (w_var 0) (wg_tup rfl (wgs_cons (wg_name (i := 2) sc__pieces_writer.nd) (wgs_cons (wg_name (i := 3) sc__pieces_writer.nd) wgs_nil))))
    (wss_cons (ws_set (i := 1) sc__pieces_writer.nd (w_ifExp (wt_cmp (ow_eq hr.units) lf_eq (w_call (ok__line_of T) (hr.mono (by walk_at "rm")) (by rfl) T.g__line_of T.F__line_of.kp T.b__line_of (wa_cons (w_var 2) wa_nil)) w_int (nomark _)) (w_call (ok__binder_pieces T) (hr.mono (by walk_at "rm")) (by rfl) T.g__binder_pieces T.F__binder_pieces.kp T.b__binder_pieces (wa_cons (w_var 2) wa_nil)) (w_call (ok__plain_pieces T) (hr.mono (by walk_at "rm")) (by rfl) T.g__plain_pieces T.F__plain_pieces.kp T.b__plain_pieces (wa_cons (w_var 2) wa_nil))))
    (wss_one (ws_ret (w_ifExp (wt_cmp (rw := geW) op_ge lf_cmp (w_call (ok__line_of T) (hr.mono (by walk_at "rm")) (by rfl) T.g__line_of T.F__line_of.kp T.b__line_of (wa_cons (w_var 2) wa_nil)) (w_var 3) (nomark _)) (w_var 1) (w_lst (wa_cons (w_str z_x28) (wa_star (w_var 1) (wa_cons (w_str z_x29) wa_nil))))))))), fun ws h R ex ⟨⟨t, l⟩, e, ok, q⟩ => ?_⟩
  subst e
  have q : R (.lst ((tmPcs (t, l)).map tmWr.pw)) h := q
  show _
  simp only [tmWr]
  walk_at "st"
  refine ⟨t, rfl, ok.1, ?_⟩
  walk_at "st"
  have rest : Wl.Cl R (.lst ((tmPcs (t, l)).map tmWr.pw)) h := .of q
  unfold tmPcs at rest
  dsimp only at rest
  refine go_dec (fun c0 => ?_) (fun c0 => ?_)
  · walk_at "st"
    refine ⟨t, rfl, ok.1, by omega, ?_⟩
    walk_at "st"
    refine ⟨t, rfl, ok.1, ?_⟩
    walk_at "st"
    refine go_dec (fun c1 => ?_) (fun c1 => ?_)
    · rw [if_pos (by omega)] at rest; walk_at "st"; exact rest
    · rw [if_neg (by omega), List.map_cons, List.map_append] at rest; walk_at "st"; have := tmBody_len t; refine go_lstK (by simp; omega) ?_; exact rest
  · walk_at "st"
    refine ⟨t, rfl, ok.1, by omega, ?_⟩
    walk_at "st"
    refine ⟨t, rfl, ok.1, ?_⟩
    walk_at "st"
    refine go_dec (fun c1 => ?_) (fun c1 => ?_)
    · rw [if_pos (by omega)] at rest; walk_at "st"; exact rest
    · rw [if_neg (by omega), List.map_cons, List.map_append] at rest; walk_at "st"; have := tmBody_len t; refine go_lstK (by simp; omega) ?_; exact rest
theorem ok_write_term (T : Tx P w K mg) : FnOk P w K mg base CX0 7 T.a_write_term T.fd_write_term ["term"] (lSp K spWriteTerm) := by
  have hw := ok_written (P := P) (base := base) T tmWr (ok__pieces_writer T) T.F__pieces_writer.kp T.b__pieces_writer
  refine fnW T.F_write_term sc_write_term (fun ws h R ex ⟨_, e, _⟩ => by rw [e]; rfl) fun cdv A outer s H E hr => ⟨_, (wss_one (ws_ret (w_call hw (hr.mono (by walk_at "rm")) (by rfl) T.g_written T.F_written.kp T.b_written (wa_cons (w_tup (wa_cons (w_var 0) (wa_cons w_int wa_nil))) (wa_cons (w_glob rfl T.g_pieces_writer) wa_nil))))), fun ws h R ex ⟨t, e, ok, l, q⟩ => ?_⟩
  subst e
  walk_at "st"
  have l2 := t.txt_len ok
  have e0 : tmT (t, 0) = t.txt := wrapT_0
  have q : R (.str (tmT (t, 0))) h := by rw [e0]; exact q
  exact ⟨(t, 0), rfl, ⟨ok, l, Nat.le_of_ble_eq_true rfl⟩, by show 12 * t.size ≤ _; omega, by show (tmT (t, 0)).length ≤ _; rw [e0]; omega, .of q⟩
end

/-! ## the law's own texts -/
def spPlace : SpW := fun ws h R _ => ∃ t : Tm, ws = [t.w] ∧ TmOk t ∧ ∀ p : Nat, (∀ l ≤ 4, (p < l ↔ t.line < l)) → (t.line < 3 → p = t.line) → R (.int (p : Nat)) h
def spText (n : Nat) : SpW := fun ws h R _ => ∃ t : Tm, ws = [t.w] ∧ TmOk t ∧ t.size ≤ 400 ∧ 2 * t.dep ≤ n ∧ R (.str t.txt) h
def spPart (n : Nat) : SpW := fun ws h R _ => ∃ (t : Tm) (l : Nat), ws = [t.w, .int (l : Nat)] ∧ TmOk t ∧ t.size ≤ 400 ∧ l ≤ 4 ∧ 2 * t.dep + 1 ≤ n ∧ R (.str (tmT (t, l))) h
theorem Tm.dep_pos (t : Tm) : 0 < t.dep := by cases t <;> simp [Tm.dep]
section
variable {P : Program} {w : World} {K : PySem.W.Frag} {mg : Str → Option Value} {base : Heap}
end

/-! ## reading terms -/
def needF (t : Tkn) (us : List Tkn) : Rs Unit := if us.headD [] = t then .ok () us.tail else .bad
def nameF (us : List Tkn) : Rs Tkn := if nmB (us.headD []) = true then .ok (us.headD []) us.tail else .bad
inductive Hd where
  | lam (x : Tkn) (k : Kd) | lt (x : Tkn) (a : Tm) | sp (x y : Tkn) (a : Tm)
def Hd.w : Hd → W
  | .lam x k => .tup [.str z_lam, .str x, k.w]
  | .lt x a => .tup [.str wLet, .str x, a.w]
  | .sp x y a => .tup [.str z_split, .str x, .str y, a.w]
def Hd.ap : Hd → Tm → Tm
  | .lam x k, t => .lam x k t
  | .lt x a, t => .lt x a t
  | .sp x y a, t => .sp x y a t
def lnF (us : List Tkn) : Rs (List Tkn) :=
  if us.headD [] = z_x28 then (nameF us.tail).bind fun x r => (needF z_x2c r).bind fun _ r => (nameF r).bind fun y r => (needF z_x29 r).bind fun _ r => if x = y then .bad else .ok [x, y] r
  else (nameF us).bind fun x r => .ok [x] r
def Hd.of (xs : List Tkn) (a : Tm) : Hd := match xs with
  | [x] => .lt x a
  | x :: y :: _ => .sp x y a
  | [] => .lt [] a
def bgB (t : Tkn) : Bool := decide (t = z_x21 ∨ t = z_x28) || (nmB t || numB t)
def numV (t : Tkn) : Int := ((PySem.NumText.digitsVal t : Nat) : Int)
/-- a loop over what goes on at a line; the number bounds its turns -/
def loopF (go : List Tkn → Bool) (nx : Tm → List Tkn → Rs Tm) : Nat → Tm → List Tkn → Rs Tm
  | 0, _, _ => .out
  | k + 1, t, us => if go us = true then (nx t us).bind (loopF go nx k) else .ok t us
def hdL (hd : List Tkn → Rs Hd) (fin : List Tkn → Rs Tm) : Nat → List Tkn → Rs Tm
  | 0, _ => .out
  | k + 1, us => if us.headD [] = z_x5c ∨ us.headD [] = wLet then (hd us).bind fun h r => (hdL hd fin k r).bind fun t r2 => .ok (h.ap t) r2 else fin us
def goS (us : List Tkn) : Bool := decide (us.headD [] = z_x2b ∨ us.headD [] = z_x2d)
def goP (us : List Tkn) : Bool := decide (us.headD [] = z_x2a)
def goA (us : List Tkn) : Bool := bgB (us.headD [])
def nxS (pr : List Tkn → Rs Tm) (t : Tm) (us : List Tkn) : Rs Tm := (pr us.tail).bind fun u r => .ok (.op ((us.headD []).headD 0) t u) r
def nxP (ap : List Tkn → Rs Tm) (t : Tm) (us : List Tkn) : Rs Tm := (ap us.tail).bind fun u r => .ok (.op 42 t u) r
def nxA (bx : List Tkn → Rs Tm) (t : Tm) (us : List Tkn) : Rs Tm := (bx us).bind fun u r => .ok (.app t u) r
def boxN : Nat → Tm → Tm
  | 0, t => t
  | n + 1, t => .box (boxN n t)
mutual
def tmF : Nat → List Tkn → Rs Tm
  | 0, _ => .out
  | n + 1, us => hdL (hdF n) (smF n) (us.length + 1) us
def hdF : Nat → List Tkn → Rs Hd
  | 0, _ => .out
  | n + 1, us => if us.headD [] = z_x5c then (nameF us.tail).bind fun x r => (needF z_x3a r).bind fun _ r => (kdF n r).bind fun k r => (needF z_x2e r).bind fun _ r => .ok (.lam x k) r
    else (lnF us.tail).bind fun xs r => (needF z_x3d r).bind fun _ r => (tmF n r).bind fun a r => (needF wIn r).bind fun _ r => .ok (Hd.of xs a) r
def smF : Nat → List Tkn → Rs Tm
  | 0, _ => .out
  | n + 1, us => (prF n us).bind fun t r => loopF goS (nxS (prF n)) (r.length + 1) t r
def prF : Nat → List Tkn → Rs Tm
  | 0, _ => .out
  | n + 1, us => (apF n us).bind fun t r => loopF goP (nxP (apF n)) (r.length + 1) t r
def apF : Nat → List Tkn → Rs Tm
  | 0, _ => .out
  | n + 1, us => (bxF n us).bind fun t r => loopF goA (nxA (bxF n)) (r.length + 1) t r
def bxF : Nat → List Tkn → Rs Tm
  | 0, _ => .out
  | n + 1, us => (ixF n (us.drop (bangs us))).bind fun t r => .ok (boxN (bangs us) t) r
def ixF : Nat → List Tkn → Rs Tm
  | 0, _ => .out
  | n + 1, us => if numB (us.headD []) = true then .ok (.num (numV (us.headD []))) us.tail else if us.headD [] = z_x28 then (tmF n us.tail).bind fun t r => if r.headD [] = z_x2c then (tmF n r.tail).bind fun u r => (needF z_x29 r).bind fun _ r => .ok (.pr t u) r else (needF z_x29 r).bind fun _ r => .ok t r else (nameF us).bind fun x r => .ok (.var x) r
end
theorem Rs.bind_assoc {α β γ : Type} (x : Rs α) (f : α → List Tkn → Rs β) (g : β → List Tkn → Rs γ) : (x.bind f).bind g = x.bind fun a r => (f a r).bind g := by cases x <;> rfl
theorem Rs.bind_ok {α : Type} (x : Rs α) : (x.bind fun a r => .ok a r) = x := by cases x <;> rfl
def rRes {α : Type} (tw : α → W) (aC aI : Addr) (c : Addr) (ts : List Tkn) (h : HW) (R : KW) (ex : XW → HW → Prop) : Rs α → Prop
  | .ok k r => ∀ j, j ≤ ts.length → ts.drop j = r → R (tw k) (updW h c (cur aC ts j))
  | .bad => ∀ j h', Sub (updW h c (cur aC ts j)) h' → ex ⟨aI, none⟩ h'
  | .out => False
def spR {α : Type} (tw : α → W) (aC aI : Addr) (f : Nat → List Tkn → Rs α) (n : Nat) : SpW := fun ws h R ex => ∃ (c : Addr) (ts : List Tkn) (i m : Nat), ws = [.ref c] ∧ h c = some (cur aC ts i) ∧ TsOk ts ∧ i ≤ ts.length ∧ (m ≤ n ∧ m ≤ 1000000) ∧ rRes tw aC aI c ts h R ex (f m (ts.drop i))
section
variable {aC aI c : Addr} {ts : List Tkn} {h h1 : HW} {R R1 : KW} {ex : XW → HW → Prop} {α β : Type} {ta : α → W} {tb : β → W}
theorem rRes_call {x : Rs α} {k : α → List Tkn → Rs β} (q : rRes tb aC aI c ts h R ex (x.bind k)) (hs : ∀ j, Sub (updW h c (cur aC ts j)) (updW h1 c (cur aC ts j))) (go : ∀ a j, j ≤ ts.length → rRes tb aC aI c ts h R ex (k a (ts.drop j)) → R1 (ta a) (updW h1 c (cur aC ts j))) : rRes ta aC aI c ts h1 R1 ex x := by
  cases x with
  | ok a r => exact fun j hj ej => go a j hj (by rw [ej]; exact q)
  | bad => exact fun j h' sb => q j h' ((hs j).trans sb)
  | out => exact q
theorem rRes_callE {x : Rs α} {k : α → List Tkn → Rs β} (q : rRes tb aC aI c ts h R ex (x.bind k)) (hs : ∀ j, Sub (updW h c (cur aC ts j)) (updW h1 c (cur aC ts j))) (go : ∀ a j, j ≤ ts.length → x = .ok a (ts.drop j) → rRes tb aC aI c ts h R ex (k a (ts.drop j)) → R1 (ta a) (updW h1 c (cur aC ts j))) : rRes ta aC aI c ts h1 R1 ex x := by
  cases x with
  | ok a r => exact fun j hj ej => go a j hj (by rw [ej]) (by rw [ej]; exact q)
  | bad => exact fun j h' sb => q j h' ((hs j).trans sb)
  | out => exact q
theorem kRes_call {x : Rs Kd} {k : Kd → List Tkn → Rs β} (q : rRes tb aC aI c ts h R ex (x.bind k)) (hs : ∀ j, Sub (updW h c (cur aC ts j)) (updW h1 c (cur aC ts j))) (go : ∀ a j, j ≤ ts.length → rRes tb aC aI c ts h R ex (k a (ts.drop j)) → R1 (Kd.w a) (updW h1 c (cur aC ts j))) : kRes aC aI c ts h1 R1 ex x := by
  cases x with
  | ok a r => exact fun j hj ej => go a j hj (by rw [ej]; exact q)
  | bad => exact fun j h' sb => q j h' ((hs j).trans sb)
  | out => exact q
theorem need_call {i : Nat} {t : Tkn} {k : Unit → List Tkn → Rs β} (ht : t ≠ []) (q : rRes tb aC aI c ts h R ex ((needF t (ts.drop i)).bind k)) (hs : ∀ j, Sub (updW h c (cur aC ts j)) (updW h1 c (cur aC ts j)))
    (go : i + 1 ≤ ts.length → rRes tb aC aI c ts h R ex (k () (ts.drop (i + 1))) → R1 .non (updW h1 c (cur aC ts (i + 1)))) :
    needK aC aI c ts i t h1 R1 ex := by
  unfold needK
  unfold needF at q
  rw [getD_drop]
  by_cases e : (ts.drop i).headD [] = t
  · rw [if_pos e] at q ⊢
    have l := drop_lt (ts := ts) (j := i) (by rw [e]; exact ht)
    exact go l (by rw [drop_tail rfl]; exact q)
  · rw [if_neg e] at q ⊢
    exact q _ _ (hs _)
def nameK (aC aI c : Addr) (ts : List Tkn) (i : Nat) (h : HW) (R : KW) (ex : XW → HW → Prop) : Prop :=
  if nmB (ts.getD i []) = true then R (.str (ts.getD i [])) (updW h c (cur aC ts (i + 1))) else ex ⟨aI, none⟩ (updW h c (cur aC ts (i + 1)))
theorem name_call {i : Nat} {k : Tkn → List Tkn → Rs β} (q : rRes tb aC aI c ts h R ex ((nameF (ts.drop i)).bind k)) (hs : ∀ j, Sub (updW h c (cur aC ts j)) (updW h1 c (cur aC ts j)))
    (go : ∀ x : Tkn, i + 1 ≤ ts.length → nmB x = true → rRes tb aC aI c ts h R ex (k x (ts.drop (i + 1))) → R1 (.str x) (updW h1 c (cur aC ts (i + 1)))) :
    nameK aC aI c ts i h1 R1 ex := by
  unfold nameK
  unfold nameF at q
  rw [getD_drop]
  by_cases e : nmB ((ts.drop i).headD []) = true
  · rw [if_pos e] at q ⊢
    have l := drop_lt (ts := ts) (j := i) (fun z => by rw [z] at e; exact absurd e (by decide))
    exact go _ l e (by rw [drop_tail rfl]; exact q)
  · rw [if_neg e] at q ⊢
    exact q _ _ (hs _)
theorem hs0 {j0 : Nat} : ∀ j, Sub (updW h c (cur aC ts j)) (updW (updW h c (cur aC ts j0)) c (cur aC ts j)) := fun j => by rw [updW_upd]; exact .refl _
theorem hsP {j0 : Nat} {p : Addr} {o : OW} (np : p ≠ c) (hp : h p = none) : ∀ j, Sub (updW h c (cur aC ts j)) (updW (updW (updW h c (cur aC ts j0)) p o) c (cur aC ts j)) := fun j => by
  rw [updW_mid (fun z => np z.symm)]; exact .new (by rw [updW_ne np]; exact hp)
theorem del_upd {p : Addr} {o : OW} (hp : h p = none) : delW (updW h p o) p = h := by
  funext b
  unfold delW updW
  split
  · rename_i e; rw [e, hp]
  · rfl
end
def spHd (aC aI : Addr) (n : Nat) : SpW := fun ws h R ex => ∃ (c : Addr) (ts : List Tkn) (i m : Nat), ws = [.ref c] ∧ h c = some (cur aC ts i) ∧ TsOk ts ∧ i + 1 ≤ ts.length ∧ (m ≤ n ∧ m ≤ 1000000) ∧ rRes Hd.w aC aI c ts h R ex (hdF m (ts.drop i))
theorem lnF_shape {us r : List Tkn} {xs : List Tkn} (e : lnF us = .ok xs r) : (∃ x, xs = [x]) ∨ ∃ x y, xs = [x, y] := by
  unfold lnF at e
  split at e
  · cases h1 : nameF us.tail with
    | ok x r1 =>
      rw [h1] at e
      cases h2 : needF z_x2c r1 with
      | ok u r2 =>
        simp only [Rs.bind, h2] at e
        cases h3 : nameF r2 with
        | ok y r3 =>
          simp only [h3] at e
          cases h4 : needF z_x29 r3 with
          | ok u r4 =>
            simp only [h4] at e
            split at e
            · cases e
            · cases e; exact .inr ⟨x, y, rfl⟩
          | bad => simp only [h4] at e; cases e
          | out => simp only [h4] at e; cases e
        | bad => simp only [h3] at e; cases e
        | out => simp only [h3] at e; cases e
      | bad => simp only [Rs.bind, h2] at e; cases e
      | out => simp only [Rs.bind, h2] at e; cases e
    | bad => rw [h1] at e; cases e
    | out => rw [h1] at e; cases e
  · cases h1 : nameF us with
    | ok x r1 => rw [h1] at e; cases e; exact .inl ⟨x, rfl⟩
    | bad => rw [h1] at e; cases e
    | out => rw [h1] at e; cases e
theorem num_digits {s : Tkn} (h : numB s = true) : PySem.NumText.AllDigits s ∧ s ≠ [] ∧ s.length ≤ 9 := by
  simp only [numB, Bool.and_eq_true, decide_eq_true_eq, List.all_eq_true] at h
  obtain ⟨⟨h1, h2⟩, h3, h4⟩ := h
  exact ⟨fun c hc => mem_digits.mp (h4 c hc), fun z => by rw [z] at h1; simp at h1, h2⟩
theorem num_int {s : Tkn} (h : numB s = true) : PySem.intText? (mkS s) = some (numV s) := by
  obtain ⟨a, b, c⟩ := num_digits h
  have e : (mkS s).cps.toList = s := by simp [mkS]
  have := PySem.intText_digits (x := mkS s) (by rw [e]; exact a) (by rw [e]; exact b) (by rw [mkS_length]; omega)
  rw [e] at this
  exact this
theorem tk7 : IsTk z_x3a := by decide
theorem tk8 : IsTk z_x2e := by decide
theorem tk9 : IsTk z_x3d := by decide
theorem tk10 : IsTk wIn := by decide
def spNeededName (aC aI : Addr) : SpW := fun ws h R ex => ∃ (c : Addr) (ts : List Tkn) (i : Nat), ws = [.ref c] ∧ h c = some (cur aC ts i) ∧ TsOk ts ∧ i ≤ 1000000 ∧ nameK aC aI c ts i h R ex
def spBegins : SpW := fun ws h R _ => ∃ t : Tkn, ws = [.str t] ∧ t.length ≤ 9 ∧ R (.bl (bgB t)) h
def spLn (aC aI : Addr) : SpW := fun ws h R ex => ∃ (c : Addr) (ts : List Tkn) (i : Nat), ws = [.ref c] ∧ h c = some (cur aC ts i) ∧ TsOk ts ∧ i ≤ ts.length ∧ rRes (fun xs => .lst (strsW xs)) aC aI c ts h R ex (lnF (ts.drop i))
section
variable {P : Program} {w : World} {K : PySem.W.Frag} {mg : Str → Option Value} {base : Heap}
theorem ok_Cursor_needed_name (T : Tx P w K mg) : FnOk P w K mg base (L2.CX P w) 3 T.a_Cursor_needed_name T.fd_Cursor_needed_name ["self"] (lSp K (spNeededName T.aC_Cursor T.aC_InvalidText)) := by
  refine fnWX T.F_Cursor_needed_name sc_Cursor_needed_name (fun ws h R ex ⟨_, _, _, e, _⟩ => by rw [e]; rfl) fun cdv A outer s H E ex hr => ⟨_, (wss_cons (ws_set (i := 1) sc_Cursor_needed_name.nd (w_meth0G T.cls_Cursor T.m_Cursor_taken (ok_Cursor_taken T) (hr.mono (by walk_at "rm")) T.b_Cursor_taken pass0 (fun _ _ _ => el_no) (w_var 0)))
    (wss_cons (ws_if (wt_not (wt_val (w_call (ok_is_name T) (hr.mono (by walk_at "rm")) (by rfl) T.g_is_name T.F_is_name.kp T.b_is_name (wa_cons (w_var 1) wa_nil)))) (wss_one (ws_raise rfl (takes_of rfl rfl rfl rfl) T.x_InvalidText T.gC_InvalidText T.k_InvalidText T.b_InvalidText T.t_InvalidText (by rfl) (w_joined (.cons (w_str z_tokenx20) (.cons (w_fmt (w_fld T.cls_Cursor T.na_Cursor_at (w_var 0))) (.cons (w_str z_x20isx20) (.cons (w_fmtR (w_var 1)) (.cons (w_str z_x20andx20shouldx20bex20ax20name) .nil)))))))) wss_nil)
    (wss_one (ws_ret (w_var 1))))), fun ws h R ⟨c, ts, i, e, hc, ok, hi, q⟩ => ?_⟩
  subst e
  obtain ⟨a1, a2⟩ := ok.at i
  unfold nameK at q
  walk_at "st"
  refine ⟨c, ts, i, rfl, hc, ?_⟩
  walk_at "st"
  refine ⟨_, rfl, by omega, ?_⟩
  cases e : nmB (ts.getD i []) with
  | false =>
    rw [e, if_neg Bool.false_ne_true] at q
    walk_at "st"
    refine go_fmtI (l2 (by omega)) ?_
    have l3 := decS_len' (i := ((i + 1 : Nat) : Int)) (by omega)
    walk_at "st"
    refine go_fmtR (fun x hx => Nat.lt_trans (a1 x hx) (by decide)) (by omega) fun r lr => ?_
    walk_at "st"
    exact q
  | true =>
    rw [e, if_pos rfl] at q
    walk_at "st"
    exact .of q
theorem ok__begins_box (T : Tx P w K mg) : FnOk P w K mg base CX0 2 T.a__begins_box T.fd__begins_box ["token"] (lSp K spBegins) := by
  refine fnW T.F__begins_box sc__begins_box (fun ws h R ex ⟨_, e, _⟩ => by rw [e]; rfl) fun cdv A outer s H E hr => ⟨_, (wss_one (ws_ret (w_or (w_cmp ow_in lf_in (w_var 0) (w_tup (wa_cons (w_str z_x21) (wa_cons (w_str z_x28) wa_nil))) (by rfl)) (w_or (w_call (ok_is_name T) (hr.mono (by walk_at "rm")) (by rfl) T.g_is_name T.F_is_name.kp T.b_is_name (wa_cons (w_var 0) wa_nil)) (w_one (w_call (ok_is_number T) (hr.mono (by walk_at "rm")) (by rfl) T.g_is_number T.F_is_number.kp T.b_is_number (wa_cons (w_var 0) wa_nil))))))), fun ws h R ex ⟨t, e, l, q⟩ => ?_⟩
  subst e
  unfold bgB at q
  walk_at "st"
  rw [any2]
  refine go_dec (fun c => ?_) (fun c => ?_)
  · rw [decide_eq_true c] at q; exact .of q
  · rw [decide_eq_false c, Bool.false_or] at q
    walk_at "st"
    refine ⟨t, rfl, by omega, ?_⟩
    cases e : nmB t with
    | true => rw [e] at q; walk_at "st"; exact .of q
    | false =>
      rw [e, Bool.false_or] at q; walk_at "st"
      refine ⟨t, rfl, by omega, ?_⟩
      exact .of q
theorem ok__let_names_at (T : Tx P w K mg) : FnOk P w K mg base (L2.CX P w) 4 T.a__let_names_at T.fd__let_names_at ["cursor"] (lSp K (spLn T.aC_Cursor T.aC_InvalidText)) := by
  refine fnWX T.F__let_names_at sc__let_names_at (fun ws h R ex ⟨_, _, _, e, _⟩ => by rw [e]; rfl) fun cdv A outer s H E ex hr => ⟨_, (wss_cons (ws_if (wt_cmp (ow_ne hr.units) lf_ne (w_meth0G T.cls_Cursor T.m_Cursor_ahead (ok_Cursor_ahead T) (hr.mono (by walk_at "rm")) T.b_Cursor_ahead pass0 (fun _ _ _ => el_no) (w_var 0)) (w_str z_x28) (nomark _)) (wss_one (ws_ret (w_lst (wa_cons (w_meth0G T.cls_Cursor T.m_Cursor_needed_name (ok_Cursor_needed_name T) (hr.mono (by walk_at "rm")) T.b_Cursor_needed_name (passes_call (takes_of rfl rfl rfl rfl) fun _ _ _ _ z => z) (fun _ _ z => z) (w_var 0)) wa_nil)))) wss_nil)
    (wss_cons (ws_expr (w_methG T.cls_Cursor T.m_Cursor_need (ok_Cursor_need T) (hr.mono (by walk_at "rm")) T.b_Cursor_need (passes_call (takes_of rfl rfl rfl rfl) fun _ _ _ _ z => z) (fun _ _ z => z) (w_var 0) (wa_cons (w_str z_x28) wa_nil)))
    (wss_cons (ws_set (i := 1) sc__let_names_at.nd (w_meth0G T.cls_Cursor T.m_Cursor_needed_name (ok_Cursor_needed_name T) (hr.mono (by walk_at "rm")) T.b_Cursor_needed_name (passes_call (takes_of rfl rfl rfl rfl) fun _ _ _ _ z => z) (fun _ _ z => z) (w_var 0)))
    (wss_cons (ws_expr (w_methG T.cls_Cursor T.m_Cursor_need (ok_Cursor_need T) (hr.mono (by walk_at "rm")) T.b_Cursor_need (passes_call (takes_of rfl rfl rfl rfl) fun _ _ _ _ z => z) (fun _ _ z => z) (w_var 0) (wa_cons (w_str z_x2c) wa_nil)))
    (wss_cons (ws_set (i := 2) sc__let_names_at.nd (w_meth0G T.cls_Cursor T.m_Cursor_needed_name (ok_Cursor_needed_name T) (hr.mono (by walk_at "rm")) T.b_Cursor_needed_name (passes_call (takes_of rfl rfl rfl rfl) fun _ _ _ _ z => z) (fun _ _ z => z) (w_var 0)))
    (wss_cons (ws_expr (w_methG T.cls_Cursor T.m_Cursor_need (ok_Cursor_need T) (hr.mono (by walk_at "rm")) T.b_Cursor_need (passes_call (takes_of rfl rfl rfl rfl) fun _ _ _ _ z => z) (fun _ _ z => z) (w_var 0) (wa_cons (w_str z_x29) wa_nil)))
    (wss_cons (ws_if (wt_cmp (ow_eq hr.units) lf_eq (w_var 1) (w_var 2) (nomark _)) (wss_one (ws_raise rfl (takes_of rfl rfl rfl rfl) T.x_InvalidText T.gC_InvalidText T.k_InvalidText T.b_InvalidText T.t_InvalidText (by rfl) (w_joined (.cons (w_str z_bothx20partsx20ofx20ax20pairx20wouldx20bex20calledx20) (.cons (w_fmt (w_var 1)) .nil))))) wss_nil)
    (wss_one (ws_ret (w_lst (wa_cons (w_var 1) (wa_cons (w_var 2) wa_nil)))))))))))), fun ws h R ⟨c, ts, i, e, hc, ok, hi, q⟩ => ?_⟩
  subst e
  have lt := ok.2
  unfold lnF at q
  walk_at "st"
  refine ⟨c, ts, i, rfl, hc, ?_⟩
  walk_at "st"
  rw [getD_drop]
  rw [← updW_self hc]
  refine go_ndec (fun c1 => ?_) (fun c1 => ?_)
  · rw [if_neg c1] at q
    walk_at "st"
    refine ⟨c, ts, i, rfl, updW_same, ok, by omega, name_call q hs0 fun x hi2 hx q => ?_⟩
    rw [updW_upd]
    walk_at "st"
    exact .of (q _ hi2 rfl)
  · rw [if_pos c1] at q

    walk_at "st"
    refine ⟨c, ts, i, _, rfl, updW_same, ok, by omega, tk4, need_call (t := z_x28) (k := fun _ r => (nameF r).bind fun x r => (needF z_x2c r).bind fun _ r => (nameF r).bind fun y r => (needF z_x29 r).bind fun _ r => if x = y then .bad else .ok [x, y] r) (by decide) (by unfold needF; rw [if_pos c1]; exact q) hs0 fun hi2 q => ?_⟩
    rw [updW_upd]
    walk_at "st"
    refine ⟨c, ts, _, rfl, updW_same, ok, by omega, name_call q hs0 fun x hi2 hx q => ?_⟩
    rw [updW_upd]
    walk_at "st"
    refine ⟨c, ts, _, _, rfl, updW_same, ok, by omega, tk6, need_call (t := z_x2c) (by decide) q hs0 fun hi2 q => ?_⟩
    rw [updW_upd]
    walk_at "st"
    refine ⟨c, ts, _, rfl, updW_same, ok, by omega, name_call q hs0 fun y hi2 hy q => ?_⟩
    rw [updW_upd]
    walk_at "st"
    refine ⟨c, ts, _, _, rfl, updW_same, ok, by omega, tk5, need_call (t := z_x29) (by decide) q hs0 fun hi2 q => ?_⟩
    rw [updW_upd]
    walk_at "st"
    have lx := (nmB_iff.mp hx).nm.len
    refine go_dec (fun c2 => ?_) (fun c2 => ?_)
    · rw [if_pos c2] at q
      walk_at "st"
      exact q _ _ (.refl _)
    · rw [if_neg c2] at q
      walk_at "st"
      exact .of (q _ hi2 rfl)
theorem ok_terms (T : Tx P w K mg) : ∀ n, FnD P w K mg base (L2.CX P w) (n + 40) T.a__term_at T.fd__term_at ["cursor"] (lSp K (spR Tm.w T.aC_Cursor T.aC_InvalidText tmF n)) ∧ FnD P w K mg base (L2.CX P w) (n + 40) T.a__head_at T.fd__head_at ["cursor"] (lSp K (spHd T.aC_Cursor T.aC_InvalidText n)) ∧
    FnD P w K mg base (L2.CX P w) (n + 40) T.a__sum_at T.fd__sum_at ["cursor"] (lSp K (spR Tm.w T.aC_Cursor T.aC_InvalidText smF n)) ∧ FnD P w K mg base (L2.CX P w) (n + 40) T.a__product_at T.fd__product_at ["cursor"] (lSp K (spR Tm.w T.aC_Cursor T.aC_InvalidText prF n)) ∧
    FnD P w K mg base (L2.CX P w) (n + 40) T.a__application_at T.fd__application_at ["cursor"] (lSp K (spR Tm.w T.aC_Cursor T.aC_InvalidText apF n)) ∧ FnD P w K mg base (L2.CX P w) (n + 40) T.a__box_at T.fd__box_at ["cursor"] (lSp K (spR Tm.w T.aC_Cursor T.aC_InvalidText bxF n)) ∧
    FnD P w K mg base (L2.CX P w) (n + 40) T.a__innermost_term_at T.fd__innermost_term_at ["cursor"] (lSp K (spR Tm.w T.aC_Cursor T.aC_InvalidText ixF n))
  | 0 => by
    refine ⟨?_, ?_, ?_, ?_, ?_, ?_, ?_⟩ <;> refine .none fun ws h R ex ⟨c, ts, i, m, _, _, _, _, ⟨z, _⟩, q⟩ => ?_ <;> rw [Nat.le_zero.mp z] at q
    · rw [tmF] at q; exact q
    · rw [hdF] at q; exact q
    · rw [smF] at q; exact q
    · rw [prF] at q; exact q
    · rw [apF] at q; exact q
    · rw [bxF] at q; exact q
    · rw [ixF] at q; exact q
  | n + 1 => by
    have ih := ok_terms T n
    refine ⟨?_, ?_, ?_, ?_, ?_, ?_, ?_⟩
    · refine fnD T.F__term_at sc__term_at (fun ws h R ex ⟨_, _, _, _, e, _⟩ => by rw [e]; rfl) fun cdv A outer s H E ex hr => ⟨_, (wss_cons (ws_set (i := 1) sc__term_at.nd (w_lstO wa_nil))
    (wss_cons (ws_while (passes_of rfl) (wt_cmp ow_in lf_in (w_meth0G T.cls_Cursor T.m_Cursor_ahead (ok_Cursor_ahead T) (hr.room (by walk_at "rm")) T.b_Cursor_ahead pass0 (fun _ _ _ => el_no) (w_var 0)) (w_tup (wa_cons (w_str z_x5c) (wa_cons (w_str wLet) wa_nil))) (by rfl)) (wss_one (ws_expr (w_bm PySem.F.plainAttrs_list PySem.F.slot_list_append PySem.F.type_list_append mt_append tyL_ok lf_append (w_var 1) (wa_cons (w_callD ih.2.1 (hr.less (by walk_at "rm")) (by rfl) T.g__head_at T.F__head_at.kp T.b__head_at (takes_of rfl rfl rfl rfl) (wa_cons (w_var 0) wa_nil)) wa_nil)))))
    (wss_cons (ws_set (i := 2) sc__term_at.nd (w_callD ih.2.2.1 (hr.less (by walk_at "rm")) (by rfl) T.g__sum_at T.F__sum_at.kp T.b__sum_at (takes_of rfl rfl rfl rfl) (wa_cons (w_var 0) wa_nil)))
    (wss_cons (ws_for (passes_of rfl) rfl (wi_rev (by rfl) T.m_reversed (w_var 1)) (wg_name (i := 3) sc__term_at.nd) (wss_one (ws_set (i := 2) sc__term_at.nd (w_op ow_add lf_add (w_var 3) (w_tup (wa_cons (w_var 2) wa_nil))))))
    (wss_one (ws_ret (w_var 2))))))), fun ws h R ⟨c, ts, i, m, e, hc, ok, hi, hm, q⟩ => ?_⟩
      subst e
      have lt := ok.2
      cases m with
      | zero => rw [tmF] at q; exact q.elim
      | succ m =>
      rw [tmF] at q
      have lr : (ts.drop i).length + 1 ≤ ts.length + 1 := by simp
      generalize (ts.drop i).length + 1 = fu at q lr
      walk_at "st"
      intro p hp
      have np : p ≠ c := fun z => by rw [z, hc] at hp; cases hp
      walk_at "st"
      have eh : updW h p (.lst []) = updW (updW h c (cur T.aC_Cursor ts i)) p (.lst ([].map Hd.w)) := by rw [updW_self hc]; rfl
      refine go_while (fun m' ρ' h' => ∃ (hs : List Hd) (j : Nat), j ≤ ts.length ∧ hs.length + m' ≤ ts.length + 1 ∧ rRes Tm.w T.aC_Cursor T.aC_InvalidText c ts h R ex ((hdL (hdF m) (smF m) m' (ts.drop j)).bind fun t r => .ok (hs.foldr Hd.ap t) r) ∧ ρ' = [some (.ref c), some (.ref p), none, none] ∧ h' = updW (updW h c (cur T.aC_Cursor ts j)) p (.lst (hs.map Hd.w)))
        ⟨fu, .of ⟨[], i, hi, by simp; omega, by rw [show (fun t r => Rs.ok ([].foldr Hd.ap t) r) = (fun (t : Tm) r => Rs.ok t r) from rfl, Rs.bind_ok]; exact q, rfl, eh⟩⟩ ?_
      rintro m' ρ' h' ⟨hs, j, hj, hl, q, rfl, rfl⟩
      have ec : updW (updW h c (cur T.aC_Cursor ts j)) p (.lst (hs.map Hd.w)) c = some (cur T.aC_Cursor ts j) := by rw [updW_ne np.symm]; exact updW_same
      walk_at "st"
      refine ⟨c, ts, j, rfl, ec, ?_⟩
      walk_at "st"
      rw [getD_drop, any2]
      cases m' with
      | zero => rw [hdL] at q; exact q.elim
      | succ m' =>
      rw [hdL] at q
      refine go_dec (fun c1 => ?_) (fun c1 => ?_)
      · rw [if_pos c1, Rs.bind_assoc] at q
        have hl2 := drop_lt (ts := ts) (j := j) (by rcases c1 with c1 | c1 <;> rw [c1] <;> decide)
        walk_at "st"
        refine ⟨c, ts, j, m, rfl, ec, ok, hl2, by omega, rRes_call q (hsP np hp) fun hd j2 hj2 q => ?_⟩
        rw [Rs.bind_assoc] at q
        rw [updW_mid np.symm]
        walk_at "st"
        rw [updW_upd]
        refine .of ⟨m', by omega, hs ++ [hd], j2, hj2, by simp; omega, ?_, rfl, by simp⟩
        rw [show (fun t r => Rs.ok ((hs ++ [hd]).foldr Hd.ap t) r) = (fun (t : Tm) r => (Rs.ok (hd.ap t) r).bind fun t r => Rs.ok (hs.foldr Hd.ap t) r) from by funext t r; simp [Rs.bind]]
        exact q
      · rw [if_neg c1] at q
        walk_at "st"
        refine ⟨c, ts, j, m, rfl, ec, ok, hj, by omega, rRes_call q (hsP np hp) fun t j2 hj2 q => ?_⟩
        rw [updW_mid np.symm]
        have q := q _ hj2 rfl
        walk_at "st"
        refine go_forRv (hs.map Hd.w) (fun R q => by walk_at "st"; exact q) updW_same
          (fun x ρ' h' => ∃ v, ρ' = [some (.ref c), some (.ref p), some ((hs.drop (hs.length - x)).foldr Hd.ap t).w, v] ∧ h' = updW h c (cur T.aC_Cursor ts j2)) (.of ⟨none, by simp, del_upd (by rw [updW_ne np]; exact hp)⟩) ?_ ?_
        · rintro x v ρ' h' hv ⟨_, rfl, rfl⟩
          have hx : x < hs.length := by have := (List.getElem?_eq_some_iff.mp hv).1; simpa using this
          have ev : v = (hs[hs.length - 1 - x]'(by omega)).w := by
            rw [List.getElem?_reverse (by simpa using hx), List.getElem?_map, List.length_map, List.getElem?_eq_getElem (by omega)] at hv
            exact (Option.some.inj hv).symm
          have ed : hs.drop (hs.length - (x + 1)) = hs[hs.length - 1 - x]'(by omega) :: hs.drop (hs.length - x) := by
            rw [show hs.length - (x + 1) = hs.length - 1 - x by omega, List.drop_eq_getElem_cons (by omega), show hs.length - 1 - x + 1 = hs.length - x by omega]
          rw [ed, List.foldr_cons]
          subst ev
          generalize hs[hs.length - 1 - x]'(by omega) = hd
          generalize (hs.drop (hs.length - x)).foldr Hd.ap t = u
          cases hd <;> simp only [Hd.w] <;> walk_at "st" <;> exact .of ⟨_, rfl, rfl⟩
        · rintro ρ' h' ⟨_, rfl, rfl⟩
          rw [List.length_map, Nat.sub_self, List.drop_zero]
          walk_at "st"
          exact .of q
    · refine fnD T.F__head_at sc__head_at (fun ws h R ex ⟨_, _, _, _, e, _⟩ => by rw [e]; rfl) fun cdv A outer s H E ex hr => ⟨_, (wss_cons (ws_if (wt_cmp (ow_eq hr.units) lf_eq (w_meth0G T.cls_Cursor T.m_Cursor_taken (ok_Cursor_taken T) (hr.room (by walk_at "rm")) T.b_Cursor_taken pass0 (fun _ _ _ => el_no) (w_var 0)) (w_str z_x5c) (nomark _)) (wss_cons (ws_set (i := 4) sc__head_at.nd (w_meth0G T.cls_Cursor T.m_Cursor_needed_name (ok_Cursor_needed_name T) (hr.room (by walk_at "rm")) T.b_Cursor_needed_name (passes_call (takes_of rfl rfl rfl rfl) fun _ _ _ _ z => z) (fun _ _ z => z) (w_var 0)))
    (wss_cons (ws_expr (w_methG T.cls_Cursor T.m_Cursor_need (ok_Cursor_need T) (hr.room (by walk_at "rm")) T.b_Cursor_need (passes_call (takes_of rfl rfl rfl rfl) fun _ _ _ _ z => z) (fun _ _ z => z) (w_var 0) (wa_cons (w_str z_x3a) wa_nil)))
    (wss_cons (ws_set (i := 5) sc__head_at.nd (w_callD (ok_kinds T n).1 (hr.less (by walk_at "rm")) (by rfl) T.g__kind_at T.F__kind_at.kp T.b__kind_at (takes_of rfl rfl rfl rfl) (wa_cons (w_var 0) wa_nil)))
    (wss_cons (ws_expr (w_methG T.cls_Cursor T.m_Cursor_need (ok_Cursor_need T) (hr.room (by walk_at "rm")) T.b_Cursor_need (passes_call (takes_of rfl rfl rfl rfl) fun _ _ _ _ z => z) (fun _ _ z => z) (w_var 0) (wa_cons (w_str z_x2e) wa_nil)))
    (wss_one (ws_ret (w_tup (wa_cons (w_str z_lam) (wa_cons (w_var 4) (wa_cons (w_var 5) wa_nil)))))))))) wss_nil)
    (wss_cons (ws_set (i := 1) sc__head_at.nd (w_callX (ok__let_names_at T) (hr.room (by walk_at "rm")) (by rfl) T.g__let_names_at T.F__let_names_at.kp T.b__let_names_at (takes_of rfl rfl rfl rfl) (wa_cons (w_var 0) wa_nil)))
    (wss_cons (ws_expr (w_methG T.cls_Cursor T.m_Cursor_need (ok_Cursor_need T) (hr.room (by walk_at "rm")) T.b_Cursor_need (passes_call (takes_of rfl rfl rfl rfl) fun _ _ _ _ z => z) (fun _ _ z => z) (w_var 0) (wa_cons (w_str z_x3d) wa_nil)))
    (wss_cons (ws_set (i := 2) sc__head_at.nd (w_callD ih.1 (hr.less (by walk_at "rm")) (by rfl) T.g__term_at T.F__term_at.kp T.b__term_at (takes_of rfl rfl rfl rfl) (wa_cons (w_var 0) wa_nil)))
    (wss_cons (ws_expr (w_methG T.cls_Cursor T.m_Cursor_need (ok_Cursor_need T) (hr.room (by walk_at "rm")) T.b_Cursor_need (passes_call (takes_of rfl rfl rfl rfl) fun _ _ _ _ z => z) (fun _ _ z => z) (w_var 0) (wa_cons (w_str wIn) wa_nil)))
    (wss_cons (ws_set (i := 3) sc__head_at.nd (w_ifExp (wt_cmp (ow_eq hr.units) lf_eq (w_callB call_len lf_len (by rfl) T.m_len (by decide +kernel) (wa_cons (w_var 1) wa_nil)) w_int (nomark _)) (w_str wLet) (w_str z_split)))
    (wss_one (ws_ret (w_tup (wa_cons (w_var 3) (wa_star (w_var 1) (wa_cons (w_var 2) wa_nil)))))))))))), fun ws h R ⟨c, ts, i, m, e, hc, ok, hi, hm, q⟩ => ?_⟩
      subst e
      have lt := ok.2
      cases m with
      | zero => rw [hdF] at q; exact q.elim
      | succ m =>
      rw [hdF] at q
      walk_at "st"
      refine ⟨c, ts, i, rfl, hc, ?_⟩
      rw [getD_drop]
      walk_at "st"
      refine go_dec (fun c1 => ?_) (fun c1 => ?_)
      · rw [if_pos c1, ← drop_tail rfl] at q
        walk_at "st"
        refine ⟨c, ts, _, rfl, updW_same, ok, by omega, name_call q hs0 fun x hi2 hx q => ?_⟩
        rw [updW_upd]
        walk_at "st"
        refine ⟨c, ts, _, _, rfl, updW_same, ok, by omega, tk7, need_call (t := z_x3a) (by decide) q hs0 fun hi2 q => ?_⟩
        rw [updW_upd]
        walk_at "st"
        refine ⟨c, ts, _, m, rfl, updW_same, ok, hi2, by omega, kRes_call q hs0 fun k j hj q => ?_⟩
        rw [updW_upd]
        walk_at "st"
        refine ⟨c, ts, j, _, rfl, updW_same, ok, by omega, tk8, need_call (t := z_x2e) (by decide) q hs0 fun hi2 q => ?_⟩
        rw [updW_upd]
        walk_at "st"
        exact .of (q _ hi2 rfl)
      · rw [if_neg c1, ← drop_tail rfl] at q
        walk_at "st"
        refine ⟨c, ts, i + 1, rfl, updW_same, ok, hi, rRes_callE q hs0 fun xs j hj ex q => ?_⟩
        rw [updW_upd]
        walk_at "st"
        refine ⟨c, ts, j, _, rfl, updW_same, ok, by omega, tk9, need_call (t := z_x3d) (by decide) q hs0 fun hi2 q => ?_⟩
        rw [updW_upd]
        walk_at "st"
        refine ⟨c, ts, _, m, rfl, updW_same, ok, hi2, by omega, rRes_call q hs0 fun a j2 hj2 q => ?_⟩
        rw [updW_upd]
        walk_at "st"
        refine ⟨c, ts, j2, _, rfl, updW_same, ok, by omega, tk10, need_call (t := wIn) (by decide) q hs0 fun hi2 q => ?_⟩
        rw [updW_upd]
        have q := q _ hi2 rfl
        rcases lnF_shape ex with ⟨x, rfl⟩ | ⟨x, y, rfl⟩
        · walk_at "stc"
          exact .of q
        · walk_at "stc"
          exact .of q
    · refine fnD T.F__sum_at sc__sum_at (fun ws h R ex ⟨_, _, _, _, e, _⟩ => by rw [e]; rfl) fun cdv A outer s H E ex hr => ⟨_, (wss_cons (ws_set (i := 1) sc__sum_at.nd (w_callD ih.2.2.2.1 (hr.less (by walk_at "rm")) (by rfl) T.g__product_at T.F__product_at.kp T.b__product_at (takes_of rfl rfl rfl rfl) (wa_cons (w_var 0) wa_nil)))
    (wss_cons (ws_while (passes_of rfl) (wt_cmp ow_in lf_in (w_meth0G T.cls_Cursor T.m_Cursor_ahead (ok_Cursor_ahead T) (hr.room (by walk_at "rm")) T.b_Cursor_ahead pass0 (fun _ _ _ => el_no) (w_var 0)) (w_tup (wa_cons (w_str z_x2b) (wa_cons (w_str z_x2d) wa_nil))) (by rfl)) (wss_cons (ws_set (i := 2) sc__sum_at.nd (w_meth0G T.cls_Cursor T.m_Cursor_taken (ok_Cursor_taken T) (hr.room (by walk_at "rm")) T.b_Cursor_taken pass0 (fun _ _ _ => el_no) (w_var 0)))
    (wss_one (ws_set (i := 1) sc__sum_at.nd (w_tup (wa_cons (w_str z_op) (wa_cons (w_var 2) (wa_cons (w_var 1) (wa_cons (w_callD ih.2.2.2.1 (hr.less (by walk_at "rm")) (by rfl) T.g__product_at T.F__product_at.kp T.b__product_at (takes_of rfl rfl rfl rfl) (wa_cons (w_var 0) wa_nil)) wa_nil)))))))))
    (wss_one (ws_ret (w_var 1))))), fun ws h R ⟨c, ts, i, m, e, hc, ok, hi, hm, q⟩ => ?_⟩
      subst e
      have lt := ok.2
      cases m with
      | zero => rw [smF] at q; exact q.elim
      | succ m =>
      rw [smF] at q
      walk_at "st"
      rw [← updW_self hc]
      refine ⟨c, ts, i, m, rfl, updW_same, ok, hi, by omega, rRes_call q hs0 fun t j hj q => ?_⟩
      rw [updW_upd]
      walk_at "st"
      refine go_while (fun m' ρ' h' => ∃ (t : Tm) (j : Nat), j ≤ ts.length ∧ rRes Tm.w T.aC_Cursor T.aC_InvalidText c ts h R ex (loopF goS (nxS (prF m)) m' t (ts.drop j)) ∧ ρ' = [some (.ref c), some t.w, none] ∧ h' = updW h c (cur T.aC_Cursor ts j))
        ⟨_, .of ⟨t, j, hj, q, rfl, rfl⟩⟩ ?_
      rintro m' ρ' h' ⟨t, j, hj, q, rfl, rfl⟩
      cases m' with
      | zero => rw [loopF] at q; exact q.elim
      | succ m' =>
      rw [loopF, goS] at q
      walk_at "st"
      refine ⟨c, ts, j, rfl, updW_same, ?_⟩
      walk_at "st"
      rw [getD_drop, any2]
      refine go_dec (fun c1 => ?_) (fun c1 => ?_)
      · rw [decide_eq_true c1, if_pos rfl, nxS, Rs.bind_assoc] at q
        have hl := drop_lt (ts := ts) (j := j) (by rcases c1 with c1 | c1 <;> rw [c1] <;> decide)
        walk_at "st"
        refine ⟨c, ts, j, rfl, updW_same, ?_⟩
        rw [updW_upd, getD_drop]
        rw [← drop_tail rfl] at q
        walk_at "st"
        refine ⟨c, ts, j + 1, m, rfl, updW_same, ok, hl, by omega, rRes_call q hs0 fun u j2 hj2 q => ?_⟩
        rw [updW_upd]
        walk_at "st"
        refine ⟨_, _, ⟨m', by omega, .op (((ts.drop j).headD []).headD 0) t u, j2, hj2, q, rfl, rfl⟩, .same (.cons (fun _ e => ?_) (.no .nil)), .refl _⟩
        cases e
        rcases c1 with c1 | c1 <;> rw [c1] <;> rfl
      · rw [decide_eq_false c1, if_neg Bool.false_ne_true] at q
        walk_at "st"
        exact .of (q _ hj rfl)
    · refine fnD T.F__product_at sc__product_at (fun ws h R ex ⟨_, _, _, _, e, _⟩ => by rw [e]; rfl) fun cdv A outer s H E ex hr => ⟨_, (wss_cons (ws_set (i := 1) sc__product_at.nd (w_callD ih.2.2.2.2.1 (hr.less (by walk_at "rm")) (by rfl) T.g__application_at T.F__application_at.kp T.b__application_at (takes_of rfl rfl rfl rfl) (wa_cons (w_var 0) wa_nil)))
    (wss_cons (ws_while (passes_of rfl) (wt_cmp (ow_eq hr.units) lf_eq (w_meth0G T.cls_Cursor T.m_Cursor_ahead (ok_Cursor_ahead T) (hr.room (by walk_at "rm")) T.b_Cursor_ahead pass0 (fun _ _ _ => el_no) (w_var 0)) (w_str z_x2a) (nomark _)) (wss_cons (ws_set (i := 2) sc__product_at.nd (w_meth0G T.cls_Cursor T.m_Cursor_taken (ok_Cursor_taken T) (hr.room (by walk_at "rm")) T.b_Cursor_taken pass0 (fun _ _ _ => el_no) (w_var 0)))
    (wss_one (ws_set (i := 1) sc__product_at.nd (w_tup (wa_cons (w_str z_op) (wa_cons (w_var 2) (wa_cons (w_var 1) (wa_cons (w_callD ih.2.2.2.2.1 (hr.less (by walk_at "rm")) (by rfl) T.g__application_at T.F__application_at.kp T.b__application_at (takes_of rfl rfl rfl rfl) (wa_cons (w_var 0) wa_nil)) wa_nil)))))))))
    (wss_one (ws_ret (w_var 1))))), fun ws h R ⟨c, ts, i, m, e, hc, ok, hi, hm, q⟩ => ?_⟩
      subst e
      have lt := ok.2
      cases m with
      | zero => rw [prF] at q; exact q.elim
      | succ m =>
      rw [prF] at q
      walk_at "st"
      rw [← updW_self hc]
      refine ⟨c, ts, i, m, rfl, updW_same, ok, hi, by omega, rRes_call q hs0 fun t j hj q => ?_⟩
      rw [updW_upd]
      walk_at "st"
      refine go_while (fun m' ρ' h' => ∃ (t : Tm) (j : Nat), j ≤ ts.length ∧ rRes Tm.w T.aC_Cursor T.aC_InvalidText c ts h R ex (loopF goP (nxP (apF m)) m' t (ts.drop j)) ∧ ρ' = [some (.ref c), some t.w, none] ∧ h' = updW h c (cur T.aC_Cursor ts j))
        ⟨_, .of ⟨t, j, hj, q, rfl, rfl⟩⟩ ?_
      rintro m' ρ' h' ⟨t, j, hj, q, rfl, rfl⟩
      cases m' with
      | zero => rw [loopF] at q; exact q.elim
      | succ m' =>
      rw [loopF, goP] at q
      walk_at "st"
      refine ⟨c, ts, j, rfl, updW_same, ?_⟩
      walk_at "st"
      rw [getD_drop]
      refine go_dec (fun c1 => ?_) (fun c1 => ?_)
      · rw [decide_eq_true c1, if_pos rfl, nxP, Rs.bind_assoc] at q
        have hl := drop_lt (ts := ts) (j := j) (by rw [c1]; decide)
        walk_at "st"
        refine ⟨c, ts, j, rfl, updW_same, ?_⟩
        rw [updW_upd, getD_drop]
        rw [← drop_tail rfl] at q
        walk_at "st"
        refine ⟨c, ts, j + 1, m, rfl, updW_same, ok, hl, by omega, rRes_call q hs0 fun u j2 hj2 q => ?_⟩
        rw [updW_upd]
        walk_at "st"
        refine ⟨_, _, ⟨m', by omega, .op 42 t u, j2, hj2, q, rfl, rfl⟩, .same (.cons (fun _ e => ?_) (.no .nil)), .refl _⟩
        cases e
        rw [c1]; rfl
      · rw [decide_eq_false c1, if_neg Bool.false_ne_true] at q
        walk_at "st"
        exact .of (q _ hj rfl)
    · refine fnD T.F__application_at sc__application_at (fun ws h R ex ⟨_, _, _, _, e, _⟩ => by rw [e]; rfl) fun cdv A outer s H E ex hr => ⟨_, (wss_cons (ws_set (i := 1) sc__application_at.nd (w_callD ih.2.2.2.2.2.1 (hr.less (by walk_at "rm")) (by rfl) T.g__box_at T.F__box_at.kp T.b__box_at (takes_of rfl rfl rfl rfl) (wa_cons (w_var 0) wa_nil)))
    (wss_cons (ws_while (passes_of rfl) (wt_val (w_call (ok__begins_box T) (hr.room (by walk_at "rm")) (by rfl) T.g__begins_box T.F__begins_box.kp T.b__begins_box (wa_cons (w_meth0G T.cls_Cursor T.m_Cursor_ahead (ok_Cursor_ahead T) (hr.room (by walk_at "rm")) T.b_Cursor_ahead pass0 (fun _ _ _ => el_no) (w_var 0)) wa_nil))) (wss_one (ws_set (i := 1) sc__application_at.nd (w_tup (wa_cons (w_str z_app) (wa_cons (w_var 1) (wa_cons (w_callD ih.2.2.2.2.2.1 (hr.less (by walk_at "rm")) (by rfl) T.g__box_at T.F__box_at.kp T.b__box_at (takes_of rfl rfl rfl rfl) (wa_cons (w_var 0) wa_nil)) wa_nil)))))))
    (wss_one (ws_ret (w_var 1))))), fun ws h R ⟨c, ts, i, m, e, hc, ok, hi, hm, q⟩ => ?_⟩
      subst e
      have lt := ok.2
      cases m with
      | zero => rw [apF] at q; exact q.elim
      | succ m =>
      rw [apF] at q
      walk_at "st"
      rw [← updW_self hc]
      refine ⟨c, ts, i, m, rfl, updW_same, ok, hi, by omega, rRes_call q hs0 fun t j hj q => ?_⟩
      rw [updW_upd]
      walk_at "st"
      refine go_while (fun m' ρ' h' => ∃ (t : Tm) (j : Nat), j ≤ ts.length ∧ rRes Tm.w T.aC_Cursor T.aC_InvalidText c ts h R ex (loopF goA (nxA (bxF m)) m' t (ts.drop j)) ∧ ρ' = [some (.ref c), some t.w] ∧ h' = updW h c (cur T.aC_Cursor ts j))
        ⟨_, .of ⟨t, j, hj, q, rfl, rfl⟩⟩ ?_
      rintro m' ρ' h' ⟨t, j, hj, q, rfl, rfl⟩
      cases m' with
      | zero => rw [loopF] at q; exact q.elim
      | succ m' =>
      rw [loopF, goA] at q
      walk_at "st"
      refine ⟨c, ts, j, rfl, updW_same, ?_⟩
      walk_at "st"
      refine ⟨_, rfl, (ok.at j).2, ?_⟩
      rw [getD_drop]
      cases c1 : bgB ((ts.drop j).headD []) with
      | true =>
        rw [c1, if_pos rfl, nxA, Rs.bind_assoc] at q
        walk_at "st"
        refine ⟨c, ts, j, m, rfl, updW_same, ok, hj, by omega, rRes_call q hs0 fun u j2 hj2 q => ?_⟩
        rw [updW_upd]
        walk_at "st"
        exact .of ⟨m', by omega, .app t u, j2, hj2, q, rfl, rfl⟩
      | false =>
        rw [c1, if_neg Bool.false_ne_true] at q
        walk_at "st"
        exact .of (q _ hj rfl)
    · refine fnD T.F__box_at sc__box_at (fun ws h R ex ⟨_, _, _, _, e, _⟩ => by rw [e]; rfl) fun cdv A outer s H E ex hr => ⟨_, (wss_cons (ws_set (i := 1) sc__box_at.nd (w_call (ok__exclamations_at T) (hr.room (by walk_at "rm")) (by rfl) T.g__exclamations_at T.F__exclamations_at.kp T.b__exclamations_at (wa_cons (w_var 0) wa_nil)))
    (wss_cons (ws_set (i := 2) sc__box_at.nd (w_callD ih.2.2.2.2.2.2 (hr.less (by walk_at "rm")) (by rfl) T.g__innermost_term_at T.F__innermost_term_at.kp T.b__innermost_term_at (takes_of rfl rfl rfl rfl) (wa_cons (w_var 0) wa_nil)))
    (wss_cons (ws_for (passes_of rfl) rfl (wi_range1 (by rfl) T.m_range (wa_cons (w_var 1) wa_nil)) (wg_name (i := 3) sc__box_at.nd) (wss_one (ws_set (i := 2) sc__box_at.nd (w_tup (wa_cons (w_str z_box) (wa_cons (w_var 2) wa_nil))))))
    (wss_one (ws_ret (w_var 2)))))), fun ws h R ⟨c, ts, i, m, e, hc, ok, hi, hm, q⟩ => ?_⟩
      subst e
      have lt := ok.2
      cases m with
      | zero => rw [bxF] at q; exact q.elim
      | succ m =>
      rw [bxF] at q
      have lb := bangs_le (ts.drop i)
      have ld : (ts.drop i).length = ts.length - i := by simp
      generalize ek : bangs (ts.drop i) = k at *
      walk_at "st"
      refine ⟨c, ts, i, rfl, hc, ok, hi, ?_⟩
      rw [ek]
      walk_at "st"
      have hk : i + k ≤ ts.length := by omega
      have ed : (ts.drop i).drop k = ts.drop (i + k) := by rw [List.drop_drop]
      rw [ed] at q
      refine ⟨c, ts, i + k, m, rfl, updW_same, ok, hk, by omega, rRes_call q hs0 fun t j hj q => ?_⟩
      rw [updW_upd]
      have q := q _ hj rfl
      walk_at "st"
      refine go_forR1 (k : Nat) (fun RA q => by walk_at "st"; exact q) (by omega)
        (fun x ρ' h' => ρ' = [some (.ref c), some (.int (k : Nat)), some (boxN x t).w, none] ∧ h' = updW h c (cur T.aC_Cursor ts j)) (.of ⟨rfl, rfl⟩) ?_ ?_
      · rintro x ρ' h' hx ⟨rfl, rfl⟩
        walk_at "st"
        exact .sl ⟨rfl, rfl⟩ (.same (.same (.same (.no .nil))))
      · rintro ρ' h' ⟨rfl, rfl⟩
        walk_at "st"
        rw [Int.toNat_natCast]
        exact .of q
    · refine fnD T.F__innermost_term_at sc__innermost_term_at (fun ws h R ex ⟨_, _, _, _, e, _⟩ => by rw [e]; rfl) fun cdv A outer s H E ex hr => ⟨_, (wss_cons (ws_if (wt_val (w_call (ok_is_number T) (hr.room (by walk_at "rm")) (by rfl) T.g_is_number T.F_is_number.kp T.b_is_number (wa_cons (w_meth0G T.cls_Cursor T.m_Cursor_ahead (ok_Cursor_ahead T) (hr.room (by walk_at "rm")) T.b_Cursor_ahead pass0 (fun _ _ _ => el_no) (w_var 0)) wa_nil))) (wss_one (ws_ret (w_tup (wa_cons (w_str z_num) (wa_cons (w_callTy call_int_str lf_intStr (by rfl) T.m_int (by decide +kernel) (wa_cons (w_meth0G T.cls_Cursor T.m_Cursor_taken (ok_Cursor_taken T) (hr.room (by walk_at "rm")) T.b_Cursor_taken pass0 (fun _ _ _ => el_no) (w_var 0)) wa_nil)) wa_nil))))) wss_nil)
    (wss_cons (ws_if (wt_cmp (ow_ne hr.units) lf_ne (w_meth0G T.cls_Cursor T.m_Cursor_ahead (ok_Cursor_ahead T) (hr.room (by walk_at "rm")) T.b_Cursor_ahead pass0 (fun _ _ _ => el_no) (w_var 0)) (w_str z_x28) (nomark _)) (wss_one (ws_ret (w_tup (wa_cons (w_str z_var) (wa_cons (w_meth0G T.cls_Cursor T.m_Cursor_needed_name (ok_Cursor_needed_name T) (hr.room (by walk_at "rm")) T.b_Cursor_needed_name (passes_call (takes_of rfl rfl rfl rfl) fun _ _ _ _ z => z) (fun _ _ z => z) (w_var 0)) wa_nil))))) wss_nil)
    (wss_cons (ws_expr (w_methG T.cls_Cursor T.m_Cursor_need (ok_Cursor_need T) (hr.room (by walk_at "rm")) T.b_Cursor_need (passes_call (takes_of rfl rfl rfl rfl) fun _ _ _ _ z => z) (fun _ _ z => z) (w_var 0) (wa_cons (w_str z_x28) wa_nil)))
    (wss_cons (ws_set (i := 1) sc__innermost_term_at.nd (w_callD ih.1 (hr.less (by walk_at "rm")) (by rfl) T.g__term_at T.F__term_at.kp T.b__term_at (takes_of rfl rfl rfl rfl) (wa_cons (w_var 0) wa_nil)))
    (wss_cons (ws_if (wt_cmp (ow_eq hr.units) lf_eq (w_meth0G T.cls_Cursor T.m_Cursor_ahead (ok_Cursor_ahead T) (hr.room (by walk_at "rm")) T.b_Cursor_ahead pass0 (fun _ _ _ => el_no) (w_var 0)) (w_str z_x2c) (nomark _)) (wss_cons (ws_expr (w_methG T.cls_Cursor T.m_Cursor_need (ok_Cursor_need T) (hr.room (by walk_at "rm")) T.b_Cursor_need (passes_call (takes_of rfl rfl rfl rfl) fun _ _ _ _ z => z) (fun _ _ z => z) (w_var 0) (wa_cons (w_str z_x2c) wa_nil)))
    (wss_one (ws_set (i := 1) sc__innermost_term_at.nd (w_tup (wa_cons (w_str z_pair) (wa_cons (w_var 1) (wa_cons (w_callD ih.1 (hr.less (by walk_at "rm")) (by rfl) T.g__term_at T.F__term_at.kp T.b__term_at (takes_of rfl rfl rfl rfl) (wa_cons (w_var 0) wa_nil)) wa_nil))))))) wss_nil)
    (wss_cons (ws_expr (w_methG T.cls_Cursor T.m_Cursor_need (ok_Cursor_need T) (hr.room (by walk_at "rm")) T.b_Cursor_need (passes_call (takes_of rfl rfl rfl rfl) fun _ _ _ _ z => z) (fun _ _ z => z) (w_var 0) (wa_cons (w_str z_x29) wa_nil)))
    (wss_one (ws_ret (w_var 1))))))))), fun ws h R ⟨c, ts, i, m, e, hc, ok, hi, hm, q⟩ => ?_⟩
      subst e
      have lt := ok.2
      cases m with
      | zero => rw [ixF] at q; exact q.elim
      | succ m =>
      rw [ixF] at q
      walk_at "st"
      refine ⟨c, ts, i, rfl, hc, ?_⟩
      walk_at "st"
      refine ⟨_, rfl, by have := (ok.at i).2; omega, ?_⟩
      rw [getD_drop]
      cases c1 : numB ((ts.drop i).headD []) with
      | true =>
        rw [c1, if_pos rfl] at q
        obtain ⟨_, n0, n1⟩ := num_digits c1
        have hl := drop_lt (ts := ts) (j := i) n0
        walk_at "st"
        refine ⟨c, ts, i, rfl, hc, ?_⟩
        rw [getD_drop]
        walk_at "st"
        refine go_intStr (num_int c1) (by omega) ?_
        walk_at "st"
        exact .of (q _ hl (drop_tail rfl))
      | false =>
        rw [c1, if_neg Bool.false_ne_true] at q
        walk_at "st"
        refine ⟨c, ts, i, rfl, hc, ?_⟩
        walk_at "st"
        rw [getD_drop]
        rw [← updW_self hc]
        refine go_ndec (fun c2 => ?_) (fun c2 => ?_)
        · rw [if_neg c2] at q
          walk_at "st"
          refine ⟨c, ts, i, rfl, updW_same, ok, by omega, name_call q hs0 fun x hi2 hx q => ?_⟩
          rw [updW_upd]
          walk_at "st"
          exact .of (q _ hi2 rfl)
        · rw [if_pos c2] at q
          walk_at "st"
          refine ⟨c, ts, i, _, rfl, updW_same, ok, by omega, tk4, need_call (t := z_x28) (k := fun _ r => (tmF m r).bind fun t r => if r.headD [] = z_x2c then (tmF m r.tail).bind fun u r => (needF z_x29 r).bind fun _ r => .ok (.pr t u) r else (needF z_x29 r).bind fun _ r => .ok t r) (by decide) (by unfold needF; rw [if_pos c2]; exact q) hs0 fun hi2 q => ?_⟩
          rw [updW_upd]
          walk_at "st"
          refine ⟨c, ts, i + 1, m, rfl, updW_same, ok, hi2, by omega, rRes_call q hs0 fun t j hj q => ?_⟩
          rw [updW_upd]
          walk_at "st"
          refine ⟨c, ts, j, rfl, updW_same, ?_⟩
          walk_at "st"
          rw [getD_drop]
          refine go_dec (fun c3 => ?_) (fun c3 => ?_)
          · rw [if_pos c3] at q
            walk_at "st"
            refine ⟨c, ts, j, _, rfl, updW_same, ok, by omega, tk6, need_call (t := z_x2c) (k := fun _ r => (tmF m r).bind fun u r => (needF z_x29 r).bind fun _ r => .ok (Tm.pr t u) r) (by decide) (by unfold needF; rw [if_pos c3]; exact q) hs0 fun hi2 q => ?_⟩
            rw [updW_upd]
            walk_at "st"
            refine ⟨c, ts, _, m, rfl, updW_same, ok, hi2, by omega, rRes_call q hs0 fun u j2 hj2 q => ?_⟩
            rw [updW_upd]
            walk_at "st"
            refine ⟨c, ts, _, _, rfl, updW_same, ok, by omega, tk5, need_call (t := z_x29) (by decide) q hs0 fun hi2 q => ?_⟩
            rw [updW_upd]
            walk_at "st"
            exact .of (q _ hi2 rfl)
          · rw [if_neg c3] at q
            walk_at "st"
            refine ⟨c, ts, _, _, rfl, updW_same, ok, by omega, tk5, need_call (t := z_x29) (by decide) q hs0 fun hi2 q => ?_⟩
            rw [updW_upd]
            walk_at "st"
            exact .of (q _ hi2 rfl)
end

/-! ## the grammar of terms -/
/-- what may follow at a level: nothing that goes on there -/
structure Stp (l : Nat) (t : Tkn) : Prop where
  s1 : l ≤ 1 → ¬ (t = z_x2b ∨ t = z_x2d)
  s2 : l ≤ 2 → ¬ t = z_x2a
  s3 : l ≤ 3 → bgB t = false
theorem Stp.mono {l k : Nat} {t : Tkn} (h : Stp l t) (hk : l ≤ k) : Stp k t := ⟨fun z => h.s1 (by omega), fun z => h.s2 (by omega), fun z => h.s3 (by omega)⟩
theorem stp_29 {l : Nat} : Stp l z_x29 := ⟨fun _ => by decide, fun _ => by decide, fun _ => by decide⟩
theorem stp_2c {l : Nat} : Stp l z_x2c := ⟨fun _ => by decide, fun _ => by decide, fun _ => by decide⟩
theorem stp_in {l : Nat} : Stp l wIn := ⟨fun _ => by decide, fun _ => by decide, fun _ => by decide⟩
theorem stp_3b {l : Nat} : Stp l [59] := ⟨fun _ => by decide, fun _ => by decide, fun _ => by decide⟩
theorem stp_nil {l : Nat} : Stp l [] := ⟨fun _ => by decide, fun _ => by decide, fun _ => by decide⟩
theorem stp_2a : Stp 3 z_x2a := ⟨fun z => absurd z (by decide), fun z => absurd z (by decide), fun _ => by decide⟩
theorem stp_sg {s : Nat} (h : s = 43 ∨ s = 45) : Stp 2 [s] := ⟨fun z => absurd z (by decide), fun _ => by rcases h with rfl | rfl <;> decide, fun _ => by rcases h with rfl | rfl <;> decide⟩
theorem stp_4 {t : Tkn} : Stp 4 t := ⟨fun z => absurd z (by decide), fun z => absurd z (by decide), fun z => absurd z (by decide)⟩
/-- tokens of a term; d is how deep its reader calls -/
inductive Gr : Nat → List Tkn → Tm → Nat → Prop
  | up {l d : Nat} {ts : List Tkn} {t : Tm} (h : Gr (l + 1) ts t d) (hl : l < 5) : Gr l ts t (d + 1)
  | lam {x : Tkn} {k : Kd} {us : List Tkn} {b : Tm} {d : Nat} (hx : nmB x = true) (hk : k.dep ≤ 6) (h : Gr 0 us b d) : Gr 0 (z_x5c :: x :: z_x3a :: (k.tks ++ z_x2e :: us)) (.lam x k b) (max (4 * k.dep + 2) d)
  | lt {x : Tkn} {as us : List Tkn} {a b : Tm} {d e : Nat} (hx : nmB x = true) (ha : Gr 0 as a d) (h : Gr 0 us b e) : Gr 0 (wLet :: x :: z_x3d :: (as ++ wIn :: us)) (.lt x a b) (max (d + 2) e)
  | sp {x y : Tkn} {as us : List Tkn} {a b : Tm} {d e : Nat} (hx : nmB x = true) (hy : nmB y = true) (ne : x ≠ y) (ha : Gr 0 as a d) (h : Gr 0 us b e) : Gr 0 (wLet :: z_x28 :: x :: z_x2c :: y :: z_x29 :: z_x3d :: (as ++ wIn :: us)) (.sp x y a b) (max (d + 2) e)
  | sum {s : Nat} {as bs : List Tkn} {a b : Tm} {d e : Nat} (hs : s = 43 ∨ s = 45) (ha : Gr 1 as a d) (hb : Gr 2 bs b e) : Gr 1 (as ++ [s] :: bs) (.op s a b) (max d (e + 1))
  | prod {as bs : List Tkn} {a b : Tm} {d e : Nat} (ha : Gr 2 as a d) (hb : Gr 3 bs b e) : Gr 2 (as ++ z_x2a :: bs) (.op 42 a b) (max d (e + 1))
  | app {as bs : List Tkn} {a b : Tm} {d e : Nat} (ha : Gr 3 as a d) (hb : Gr 4 bs b e) : Gr 3 (as ++ bs) (.app a b) (max d (e + 1))
  | box {as : List Tkn} {a : Tm} {d : Nat} (ha : Gr 4 as a d) : Gr 4 (z_x21 :: as) (.box a) d
  | var {x : Tkn} (hx : nmB x = true) : Gr 5 [x] (.var x) 1
  | num {x : Tkn} (hx : numB x = true) : Gr 5 [x] (.num (numV x)) 1
  | par {as : List Tkn} {a : Tm} {d : Nat} (ha : Gr 0 as a d) : Gr 5 (z_x28 :: (as ++ [z_x29])) a (d + 1)
  | pair {as bs : List Tkn} {a b : Tm} {d e : Nat} (ha : Gr 0 as a d) (hb : Gr 0 bs b e) : Gr 5 (z_x28 :: (as ++ z_x2c :: (bs ++ [z_x29]))) (.pr a b) (max d e + 1)
theorem nm_bg {x : Tkn} (h : nmB x = true) : bgB x = true := by unfold bgB; rw [h]; simp
theorem numB_bg {x : Tkn} (h : numB x = true) : bgB x = true := by unfold bgB; rw [h]; simp
theorem num_ne {x : Tkn} (h : numB x = true) : nmB x = false := by
  cases e : nmB x with
  | false => rfl
  | true =>
    obtain ⟨a, b, _⟩ := num_digits h
    obtain ⟨c, r, rfl, hc⟩ := (nmB_iff.mp e).nm.hd
    have := a c List.mem_cons_self
    omega
theorem nm_num {x : Tkn} (h : nmB x = true) : numB x = false := by
  cases e : numB x with
  | false => rfl
  | true => rw [num_ne e] at h; cases h
theorem bg_ne {x y : Tkn} (h : bgB x = true) (hy : bgB y = false) : x ≠ y := fun z => by rw [z, hy] at h; cases h
theorem hd_app {as r : List Tkn} (h : bgB (as.headD []) = true) : (as ++ r).headD [] = as.headD [] := by
  cases as with
  | nil => exact absurd h (by decide)
  | cons => rfl
theorem Gr.hd {l : Nat} {ts : List Tkn} {t : Tm} {d : Nat} (h : Gr l ts t d) : 1 ≤ l → bgB (ts.headD []) = true ∧ (l = 5 → ts.headD [] ≠ z_x21) := by
  induction h with
  | up h hl ih => intro z; exact ⟨(ih (by omega)).1, fun e => by omega⟩
  | lam => intro z; omega
  | lt => intro z; omega
  | sp => intro z; omega
  | sum hs ha hb ia ib => intro z; have := (ia z).1; exact ⟨by rw [hd_app this]; exact this, fun e => by omega⟩
  | prod ha hb ia ib => intro z; have := (ia (by omega)).1; exact ⟨by rw [hd_app this]; exact this, fun e => by omega⟩
  | app ha hb ia ib => intro z; have := (ia (by omega)).1; exact ⟨by rw [hd_app this]; exact this, fun e => by omega⟩
  | box => intro z; exact ⟨by show bgB z_x21 = true; decide, fun e => by omega⟩
  | @var x hx => intro z; exact ⟨nm_bg hx, fun _ => fun (e : x = z_x21) => by rw [e] at hx; exact absurd hx (by decide)⟩
  | @num x hx => intro z; exact ⟨numB_bg hx, fun _ => fun (e : x = z_x21) => by rw [e] at hx; exact absurd hx (by decide)⟩
  | par => intro z; exact ⟨by show bgB z_x28 = true; decide, fun _ => by show z_x28 ≠ z_x21; decide⟩
  | pair => intro z; exact ⟨by show bgB z_x28 = true; decide, fun _ => by show z_x28 ≠ z_x21; decide⟩
/-- what the reader of a level does with them -/
def Rds (l : Nat) (ts : List Tkn) (t : Tm) (d : Nat) : Prop := 1 ≤ d ∧ ∀ (n : Nat) (rest : List Tkn), d ≤ n + 1 → Stp (l + 1) (rest.headD []) → match l with
  | 0 => ∀ K, (ts ++ rest).length < K → hdL (hdF n) (smF n) K (ts ++ rest) = .ok t rest
  | 1 => ∃ K, rest.length < K ∧ smF (n + 1) (ts ++ rest) = loopF goS (nxS (prF n)) K t rest
  | 2 => ∃ K, rest.length < K ∧ prF (n + 1) (ts ++ rest) = loopF goP (nxP (apF n)) K t rest
  | 3 => ∃ K, rest.length < K ∧ apF (n + 1) (ts ++ rest) = loopF goA (nxA (bxF n)) K t rest
  | 4 => bxF (n + 1) (ts ++ rest) = .ok t rest
  | _ => ixF (n + 1) (ts ++ rest) = .ok t rest
theorem loop_end {go : List Tkn → Bool} {nx : Tm → List Tkn → Rs Tm} {K : Nat} {t : Tm} {rest : List Tkn} (hn : rest.length < K) (h : go rest = false) : loopF go nx K t rest = .ok t rest := by
  obtain ⟨m, rfl⟩ : ∃ m, K = m + 1 := ⟨K - 1, by omega⟩
  rw [loopF, h]; exact if_neg Bool.false_ne_true
theorem loop_go {go : List Tkn → Bool} {nx : Tm → List Tkn → Rs Tm} {K : Nat} {t u : Tm} {us rest : List Tkn} (h : go us = true) (e : nx t us = .ok u rest) : loopF go nx (K + 1) t us = loopF go nx K u rest := by
  rw [loopF, if_pos h, e]; rfl
theorem Stp.goS {l : Nat} {us : List Tkn} (h : Stp l (us.headD [])) (hl : l ≤ 1) : Lw.goS us = false := decide_eq_false (h.s1 hl)
theorem Stp.goP {l : Nat} {us : List Tkn} (h : Stp l (us.headD [])) (hl : l ≤ 2) : Lw.goP us = false := decide_eq_false (h.s2 hl)
theorem Stp.goA {l : Nat} {us : List Tkn} (h : Stp l (us.headD [])) (hl : l ≤ 3) : Lw.goA us = false := h.s3 hl
theorem needF_ok {t : Tkn} {us : List Tkn} : needF t (t :: us) = .ok () us := if_pos rfl
theorem nameF_ok {x : Tkn} {us : List Tkn} (h : nmB x = true) : nameF (x :: us) = .ok x us := if_pos h
theorem Rs.ok_bind {α β : Type} {a : α} {r : List Tkn} {f : α → List Tkn → Rs β} : (Rs.ok a r).bind f = f a r := rfl
theorem Rs.bind_1 {α β : Type} {x : Rs α} {a : α} {r : List Tkn} {f : α → List Tkn → Rs β} (e : x = .ok a r) : x.bind f = f a r := by rw [e]; rfl
theorem tmF_of {l : Nat} {ts rest : List Tkn} {t : Tm} {d n : Nat} (h : Rds 0 ts t d) (hd : d ≤ n + 1) (hs : Stp 1 (rest.headD [])) : tmF (n + 1) (ts ++ rest) = .ok t rest := by
  rw [tmF]; exact h.2 n rest hd hs _ (Nat.lt_succ_self _)
theorem bangs_0 {us : List Tkn} (h : us.headD [] ≠ z_x21) : bangs us = 0 := by
  cases us with
  | nil => rfl
  | cons t r => rw [bangs]; exact if_neg h
theorem bind_box {x : Rs Tm} {a : Tm} {rest : List Tkn} {b : Nat} (h : (x.bind fun t r => .ok (boxN b t) r) = .ok a rest) : (x.bind fun t r => .ok (boxN (b + 1) t) r) = .ok (.box a) rest := by
  cases x with
  | ok t r =>
    have h : Rs.ok (boxN b t) r = .ok a rest := h
    cases h; rfl
  | bad => cases h
  | out => cases h
theorem Gr.sound {l : Nat} {ts : List Tkn} {t : Tm} {d : Nat} (h : Gr l ts t d) : Rds l ts t d := by
  induction h with
  | @up l d ts t h hl ih =>
    obtain ⟨h1, h2⟩ := h.hd (by omega)
    obtain ⟨d1, ih⟩ := ih
    refine ⟨by omega, fun n rest hn hs => ?_⟩
    have hh : (ts ++ rest).headD [] = ts.headD [] := hd_app h1
    have hl : l = 0 ∨ l = 1 ∨ l = 2 ∨ l = 3 ∨ l = 4 := by omega
    obtain ⟨n, rfl⟩ : ∃ m, n = m + 1 := ⟨n - 1, by omega⟩
    have e := ih n rest (by omega) (hs.mono (by omega))
    rcases hl with rfl | rfl | rfl | rfl | rfl
    · intro K hK
      obtain ⟨K, rfl⟩ : ∃ m, K = m + 1 := ⟨K - 1, by omega⟩
      rw [hdL, hh, if_neg (by rintro (z | z); exact bg_ne h1 (by decide) z; exact bg_ne h1 (by decide) z)]
      obtain ⟨K1, hK1, e⟩ := e
      rw [e]; exact loop_end hK1 (hs.goS (by omega))
    · refine ⟨_, Nat.lt_succ_self _, ?_⟩
      obtain ⟨K1, hK1, e⟩ := e
      rw [smF, Rs.bind_1 (e.trans (loop_end hK1 (hs.goP (by omega))))]
    · refine ⟨_, Nat.lt_succ_self _, ?_⟩
      obtain ⟨K1, hK1, e⟩ := e
      rw [prF, Rs.bind_1 (e.trans (loop_end hK1 (hs.goA (by omega))))]
    · refine ⟨_, Nat.lt_succ_self _, ?_⟩
      rw [apF, Rs.bind_1 e]
    · show bxF (n + 2) (ts ++ rest) = _
      rw [bxF, bangs_0 (by rw [hh]; exact h2 rfl), List.drop_zero, Rs.bind_1 e]; rfl
  | @lam x k us b d hx hk h ih =>
    obtain ⟨d1, ih⟩ := ih
    refine ⟨by omega, fun n rest hn hs K hK => ?_⟩
    obtain ⟨n, rfl⟩ : ∃ m, n = m + 1 := ⟨n - 1, by omega⟩
    obtain ⟨K, rfl⟩ : ∃ m, K = m + 1 := ⟨K - 1, by omega⟩
    rw [show z_x5c :: x :: z_x3a :: (k.tks ++ z_x2e :: us) ++ rest = z_x5c :: x :: z_x3a :: (k.tks ++ (z_x2e :: (us ++ rest))) by simp] at hK ⊢
    have e1 : hdF (n + 1) (z_x5c :: x :: z_x3a :: (k.tks ++ (z_x2e :: (us ++ rest)))) = .ok (.lam x k) (us ++ rest) := by
      rw [hdF]
      refine (if_pos rfl).trans ?_
      rw [List.tail_cons, nameF_ok hx, Rs.ok_bind, needF_ok, Rs.ok_bind, (kd_read k).1 n _ (by omega) (by show ¬ z_x2e = z_x2dx3e; decide), Rs.ok_bind, needF_ok, Rs.ok_bind]
    rw [hdL]
    refine (if_pos (.inl rfl)).trans ?_
    rw [Rs.bind_1 e1, Rs.bind_1 (ih (n + 1) rest (by omega) hs K (by simp only [List.length_cons, List.length_append] at hK ⊢; omega))]; rfl
  | @lt x as us a b d e hx ha h ia ih =>
    have ia0 := ia
    obtain ⟨d1, ih⟩ := ih
    obtain ⟨d2, ia⟩ := ia
    refine ⟨by omega, fun n rest hn hs K hK => ?_⟩
    obtain ⟨n, rfl⟩ : ∃ m, n = m + 2 := ⟨n - 2, by omega⟩
    obtain ⟨K, rfl⟩ : ∃ m, K = m + 1 := ⟨K - 1, by omega⟩
    rw [show wLet :: x :: z_x3d :: (as ++ wIn :: us) ++ rest = wLet :: x :: z_x3d :: (as ++ (wIn :: (us ++ rest))) by simp] at hK ⊢
    have hx28 : x ≠ z_x28 := fun z => by rw [z] at hx; exact absurd hx (by decide)
    have e1 : hdF (n + 2) (wLet :: x :: z_x3d :: (as ++ (wIn :: (us ++ rest)))) = .ok (.lt x a) (us ++ rest) := by
      rw [hdF]
      refine (if_neg (show ¬ wLet = z_x5c by decide)).trans ?_
      have e0 : lnF (x :: z_x3d :: (as ++ (wIn :: (us ++ rest)))) = .ok [x] (z_x3d :: (as ++ (wIn :: (us ++ rest)))) := by
        unfold lnF
        refine (if_neg hx28).trans ?_
        rw [nameF_ok hx]; rfl
      rw [List.tail_cons, Rs.bind_1 e0, needF_ok, Rs.ok_bind, Rs.bind_1 (tmF_of (l := 0) ia0 (by omega) stp_in), needF_ok]; rfl
    rw [hdL]
    refine (if_pos (.inr rfl)).trans ?_
    rw [Rs.bind_1 e1, Rs.bind_1 (ih (n + 2) rest (by omega) hs K (by simp only [List.length_cons, List.length_append] at hK ⊢; omega))]; rfl
  | @sp x y as us a b d e hx hy ne ha h ia ih =>
    have ia0 := ia
    obtain ⟨d1, ih⟩ := ih
    obtain ⟨d2, ia⟩ := ia
    refine ⟨by omega, fun n rest hn hs K hK => ?_⟩
    obtain ⟨n, rfl⟩ : ∃ m, n = m + 2 := ⟨n - 2, by omega⟩
    obtain ⟨K, rfl⟩ : ∃ m, K = m + 1 := ⟨K - 1, by omega⟩
    rw [show wLet :: z_x28 :: x :: z_x2c :: y :: z_x29 :: z_x3d :: (as ++ wIn :: us) ++ rest = wLet :: z_x28 :: x :: z_x2c :: y :: z_x29 :: z_x3d :: (as ++ (wIn :: (us ++ rest))) by simp] at hK ⊢
    have e1 : hdF (n + 2) (wLet :: z_x28 :: x :: z_x2c :: y :: z_x29 :: z_x3d :: (as ++ (wIn :: (us ++ rest)))) = .ok (.sp x y a) (us ++ rest) := by
      rw [hdF]
      refine (if_neg (show ¬ wLet = z_x5c by decide)).trans ?_
      have e0 : lnF (z_x28 :: x :: z_x2c :: y :: z_x29 :: z_x3d :: (as ++ (wIn :: (us ++ rest)))) = .ok [x, y] (z_x3d :: (as ++ (wIn :: (us ++ rest)))) := by
        unfold lnF
        refine (if_pos rfl).trans ?_
        rw [List.tail_cons, nameF_ok hx, Rs.ok_bind, needF_ok, Rs.ok_bind, nameF_ok hy, Rs.ok_bind, needF_ok, Rs.ok_bind]
        exact if_neg ne
      rw [List.tail_cons, Rs.bind_1 e0, needF_ok, Rs.ok_bind, Rs.bind_1 (tmF_of (l := 0) ia0 (by omega) stp_in), needF_ok]; rfl
    rw [hdL]
    refine (if_pos (.inr rfl)).trans ?_
    rw [Rs.bind_1 e1, Rs.bind_1 (ih (n + 2) rest (by omega) hs K (by simp only [List.length_cons, List.length_append] at hK ⊢; omega))]; rfl
  | @sum s as bs a b d e hs ha hb ia ib =>
    obtain ⟨d1, ia⟩ := ia
    obtain ⟨d2, ib⟩ := ib
    refine ⟨by omega, fun n rest hn st => ?_⟩
    obtain ⟨n, rfl⟩ : ∃ m, n = m + 1 := ⟨n - 1, by omega⟩
    obtain ⟨K, hK, e1⟩ := ia (n + 1) ([s] :: (bs ++ rest)) (by omega) (stp_sg hs)
    obtain ⟨K, rfl⟩ : ∃ m, K = m + 1 := ⟨K - 1, by omega⟩
    obtain ⟨K2, hK2, e2⟩ := ib n rest (by omega) (st.mono (by omega))
    refine ⟨K, by simp only [List.length_cons, List.length_append] at hK; omega, ?_⟩
    rw [List.append_assoc, List.cons_append, e1]
    refine loop_go (decide_eq_true (by rcases hs with rfl | rfl; exact .inl rfl; exact .inr rfl)) ?_
    rw [nxS, List.tail_cons, Rs.bind_1 (e2.trans (loop_end hK2 (st.goP (by omega))))]; rfl
  | @prod as bs a b d e ha hb ia ib =>
    obtain ⟨d1, ia⟩ := ia
    obtain ⟨d2, ib⟩ := ib
    refine ⟨by omega, fun n rest hn st => ?_⟩
    obtain ⟨n, rfl⟩ : ∃ m, n = m + 1 := ⟨n - 1, by omega⟩
    obtain ⟨K, hK, e1⟩ := ia (n + 1) (z_x2a :: (bs ++ rest)) (by omega) stp_2a
    obtain ⟨K, rfl⟩ : ∃ m, K = m + 1 := ⟨K - 1, by omega⟩
    obtain ⟨K2, hK2, e2⟩ := ib n rest (by omega) (st.mono (by omega))
    refine ⟨K, by simp only [List.length_cons, List.length_append] at hK; omega, ?_⟩
    rw [List.append_assoc, List.cons_append, e1]
    refine loop_go (decide_eq_true rfl) ?_
    rw [nxP, List.tail_cons, Rs.bind_1 (e2.trans (loop_end hK2 (st.goA (by omega))))]
  | @app as bs a b d e ha hb ia ib =>
    obtain ⟨d1, ia⟩ := ia
    obtain ⟨d2, ib⟩ := ib
    refine ⟨by omega, fun n rest hn st => ?_⟩
    obtain ⟨n, rfl⟩ : ∃ m, n = m + 1 := ⟨n - 1, by omega⟩
    obtain ⟨K, hK, e1⟩ := ia (n + 1) (bs ++ rest) (by omega) stp_4
    obtain ⟨K, rfl⟩ : ∃ m, K = m + 1 := ⟨K - 1, by omega⟩
    have e2 := ib n rest (by omega) (st.mono (by omega))
    have hb1 := (hb.hd (by omega)).1
    have lb : 1 ≤ bs.length := by
      cases bs with
      | nil => exact absurd hb1 (by decide)
      | cons => simp
    refine ⟨K, by simp only [List.length_append] at hK; omega, ?_⟩
    rw [List.append_assoc, e1]
    refine loop_go (by show bgB ((bs ++ rest).headD []) = true; rw [hd_app hb1]; exact hb1) ?_
    rw [nxA, Rs.bind_1 e2]
  | @box as a d ha ih =>
    obtain ⟨d1, ih⟩ := ih
    refine ⟨by omega, fun n rest hn st => ?_⟩
    have e := ih n rest (by omega) st
    have e : bxF (n + 1) (as ++ rest) = .ok a rest := e
    show bxF (n + 1) (z_x21 :: (as ++ rest)) = _
    rw [bxF] at e ⊢
    have eb : bangs (z_x21 :: (as ++ rest)) = bangs (as ++ rest) + 1 := by rw [bangs]; exact if_pos rfl
    rw [eb, List.drop_succ_cons]
    exact bind_box e
  | @var x hx =>
    refine ⟨by omega, fun n rest hn st => ?_⟩
    show ixF (n + 1) (x :: rest) = _
    rw [ixF]
    refine (if_neg (by show ¬ numB x = true; rw [nm_num hx]; exact Bool.false_ne_true)).trans ?_
    refine (if_neg (fun (z : x = z_x28) => by rw [z] at hx; exact absurd hx (by decide))).trans ?_
    rw [nameF_ok hx]; rfl
  | @num x hx =>
    refine ⟨by omega, fun n rest hn st => ?_⟩
    show ixF (n + 1) (x :: rest) = _
    rw [ixF]
    exact (if_pos hx).trans rfl
  | @par as a d ha ih =>
    have d1 := ih.1
    refine ⟨by omega, fun n rest hn st => ?_⟩
    obtain ⟨n, rfl⟩ : ∃ m, n = m + 1 := ⟨n - 1, by omega⟩
    show ixF (n + 2) (z_x28 :: (as ++ [z_x29]) ++ rest) = _
    rw [show z_x28 :: (as ++ [z_x29]) ++ rest = z_x28 :: (as ++ (z_x29 :: rest)) by simp, ixF]
    refine (if_neg (show ¬ numB z_x28 = true by decide)).trans ?_
    refine (if_pos rfl).trans ?_
    rw [List.tail_cons, Rs.bind_1 (tmF_of (l := 0) ih (by omega) (rest := z_x29 :: rest) stp_29)]
    refine (if_neg (show ¬ z_x29 = z_x2c by decide)).trans ?_
    rw [needF_ok]; rfl
  | @pair as bs a b d e ha hb ia ib =>
    have d1 := ia.1
    refine ⟨by omega, fun n rest hn st => ?_⟩
    obtain ⟨n, rfl⟩ : ∃ m, n = m + 1 := ⟨n - 1, by omega⟩
    show ixF (n + 2) (z_x28 :: (as ++ z_x2c :: (bs ++ [z_x29])) ++ rest) = _
    rw [show z_x28 :: (as ++ z_x2c :: (bs ++ [z_x29])) ++ rest = z_x28 :: (as ++ (z_x2c :: (bs ++ (z_x29 :: rest)))) by simp, ixF]
    refine (if_neg (show ¬ numB z_x28 = true by decide)).trans ?_
    refine (if_pos rfl).trans ?_
    rw [List.tail_cons, Rs.bind_1 (tmF_of (l := 0) ia (by omega) (rest := z_x2c :: (bs ++ (z_x29 :: rest))) stp_2c)]
    refine (if_pos rfl).trans ?_
    rw [List.tail_cons, Rs.bind_1 (tmF_of (l := 0) ib (by omega) (rest := z_x29 :: rest) stp_29), needF_ok]; rfl

/-! ## how many are open, by the signs of a text -/
def opW (w : List Nat) : Int := (if w = wLet then 1 else 0) + (if w = wIn then -1 else 0)
def opC (c : Nat) : Int := (if c = 40 then 1 else 0) + (if c = 41 then -1 else 0)
def scan : List Nat → Int → Int → List Nat → Int
  | [], m, _, _ => m
  | c :: r, m, b, w => if anB c = true then scan r m b (w ++ [c]) else scan r (max m (b + opW w + opC c)) (b + opW w + opC c) []
theorem scan_ge : ∀ (s : List Nat) (m b : Int) (w : List Nat), m ≤ scan s m b w
  | [], m, b, w => Int.le_refl _
  | c :: r, m, b, w => by
    rw [scan]
    split
    · exact scan_ge r m b _
    · exact Int.le_trans (Int.le_max_left _ _) (scan_ge r _ _ _)
theorem scan_word : ∀ (t r : List Nat) (m b : Int) (w : List Nat), (∀ c ∈ t, anB c = true) → scan (t ++ r) m b w = scan r m b (w ++ t)
  | [], r, m, b, w, _ => by simp
  | c :: t, r, m, b, w, h => by
    rw [List.cons_append, scan, if_pos (h c List.mem_cons_self), scan_word t r m b _ fun d hd => h d (List.mem_cons_of_mem _ hd), List.append_assoc]; rfl
theorem scan_sign {c : Nat} {r : List Nat} {m b : Int} {w : List Nat} (h : anB c = false) : scan (c :: r) m b w = scan r (max m (b + opW w + opC c)) (b + opW w + opC c) [] := by
  rw [scan, if_neg (by rw [h]; exact Bool.false_ne_true)]
theorem opW_nil : opW [] = 0 := by decide
theorem opW_tk (t : Tkn) (h : ∀ c ∈ t, anB c = true) : opW t = opn t := by
  unfold opW opn
  by_cases a : t = wLet
  · subst a; decide
  · by_cases b : t = wIn
    · subst b; decide
    · have c1 : ¬ t = z_x28 := fun z => by rw [z] at h; exact absurd (h 40 (by decide)) (by decide)
      have c2 : ¬ t = z_x29 := fun z => by rw [z] at h; exact absurd (h 41 (by decide)) (by decide)
      rw [if_neg a, if_neg b, if_neg (by simp [a, c1]), if_neg (by simp [b, c2])]; rfl
theorem opC_tk {c : Nat} (h : c ∈ signsS) : opC c = opn [c] := by
  simp only [signsS, List.mem_cons, List.not_mem_nil, or_false] at h
  rcases h with rfl | rfl | rfl | rfl | rfl | rfl | rfl | rfl | rfl | rfl | rfl | rfl <;> decide
/-- no let ahead of a closing parenthesis -/
def nolp : List Tkn → Bool
  | [] => true
  | t :: r => !(decide (t = wLet) && decide (r.headD [] = z_x29)) && nolp r
theorem nolp_ne {t : Tkn} {r : List Tkn} (h : t ≠ wLet) : nolp (t :: r) = nolp r := by rw [nolp, decide_eq_false h]; rfl
theorem nolp_let {r : List Tkn} (h : r.headD [] ≠ z_x29) : nolp (wLet :: r) = nolp r := by rw [nolp, decide_eq_false h, Bool.and_false]; rfl
theorem lex_hd41 {r : List Nat} (h : r.headD 32 = 41) : (lex r).1.headD [] = z_x29 := by
  cases r with
  | nil => exact absurd h (by decide)
  | cons c r =>
    have h : c = 41 := h
    subst h
    rw [lex_sign (by decide) (by decide)]; rfl
theorem tokAt_split (s : List Nat) : s = tokAt s ++ s.drop (tokAt s).length := by
  have p : tokAt s <+: s := by
    unfold tokAt
    split
    · split
      · exact List.takeWhile_prefix _
      · exact List.nil_prefix
    · split
      · rename_i h; rw [← h]; exact List.take_prefix _ _
      · split
        · rename_i h
          cases s with
          | nil => exact absurd h (by decide)
          | cons c r => exact ⟨r, rfl⟩
        · exact List.nil_prefix
  obtain ⟨u, hu⟩ := p
  conv => rhs; rw [← hu]
  have : tokAt (tokAt s ++ u) = tokAt s := by rw [hu]
  rw [this, List.drop_left, hu]
theorem lex_asc : ∀ (n : Nat) (s : List Nat), s.length ≤ n → (lex s).2 = true → ∀ c ∈ s, c < 128
  | _, [], _, _, c, hc => nomatch hc
  | 0, c :: r, hn, _, _, _ => by simp at hn
  | n + 1, c :: r, hn, hl, d, hd => by
    have hr : r.length ≤ n := by simpa using hn
    by_cases bl : blankC c
    · rw [lex_blank bl] at hl
      rcases List.mem_cons.mp hd with rfl | hd
      · rcases bl with rfl | rfl <;> decide
      · exact lex_asc n r hr hl d hd
    · by_cases e : tokAt (c :: r) = []
      · rw [lex_bad bl e] at hl; cases hl
      · rw [lex_tok (s := c :: r) rfl bl e] at hl
        have l1 : (tokAt (c :: r)).length ≠ 0 := fun z => e (List.length_eq_zero_iff.mp z)
        rw [tokAt_split (c :: r)] at hd
        rcases List.mem_append.mp hd with hd | hd
        · exact tkc_asc (tokAt_tk _ e) d hd
        · exact lex_asc n _ (by simp only [List.length_drop, List.length_cons]; omega) hl d hd
/-- where no sign finds more than 60 open, no token does -/
theorem scan_deep : ∀ (n : Nat) (s : List Nat) (m b : Int), s.length ≤ n → (lex s).2 = true → nolp (lex s).1 = true → b ≤ 60 → scan (s ++ [32]) m b [] ≤ 60 → deepB b (lex s).1 = true
  | 0, s, m, b, hn, _, _, _, _ => by
    have : s = [] := List.length_eq_zero_iff.mp (Nat.le_zero.mp hn)
    subst this; rw [lex_nil]; rfl
  | n + 1, [], m, b, _, _, _, _, _ => by rw [lex_nil]; rfl
  | n + 1, c :: r, m, b, hn, hl, hp, hb, hs => by
    have hr : r.length ≤ n := by simpa using hn
    by_cases bl : blankC c
    · rw [lex_blank bl] at hl hp ⊢
      rw [List.cons_append, scan_sign (an_blank bl), opW_nil] at hs
      have e : opC c = 0 := by rcases bl with rfl | rfl <;> decide
      rw [e, Int.add_zero, Int.add_zero] at hs
      exact scan_deep n r _ b hr hl hp hb hs
    · by_cases e : tokAt (c :: r) = []
      · rw [lex_bad bl e] at hl; cases hl
      · have tk := tokAt_tk _ e
        have ex := lex_tok (s := c :: r) rfl bl e
        have et := tokAt_split (c :: r)
        have tw : (∀ c' ∈ tokAt (c :: r), anB c' = true) → anB (((c :: r).drop (tokAt (c :: r)).length ++ [32]).headD 32) = false := fun ha => by
          have ne : (c :: r).takeWhile anB ≠ [] := fun z => by
            have := ha c (by cases h0 : tokAt (c :: r) with | nil => exact absurd h0 e | cons d u => rw [h0] at et; simp only [List.cons_append, List.cons.injEq] at et; rw [et.1]; exact List.mem_cons_self)
            rw [List.takeWhile_cons, if_pos this] at z; cases z
          have e2 : tokAt (c :: r) = (c :: r).takeWhile anB := by
            have h0 := e
            unfold tokAt at h0 ⊢
            rw [if_pos ne] at h0 ⊢
            split
            · rfl
            · rename_i h1; rw [if_neg h1] at h0; exact absurd rfl h0
          rw [e2]
          have : ∀ l : List Nat, anB ((l.drop (l.takeWhile anB).length ++ [32]).headD 32) = false := fun l => by
            induction l with
            | nil => decide
            | cons x l ih =>
              by_cases hx : anB x = true
              · rw [List.takeWhile_cons, if_pos hx, List.length_cons, List.drop_succ_cons]; exact ih
              · rw [List.takeWhile_cons, if_neg hx]; simpa using hx
          exact this _
        generalize tokAt (c :: r) = t at *
        generalize (c :: r).drop t.length = u at *
        have hu : u.length ≤ n := by
          have := congrArg List.length et
          have l1 : t.length ≠ 0 := fun z => e (List.length_eq_zero_iff.mp z)
          simp only [List.length_cons, List.length_append] at this; omega
        rw [et, List.append_assoc] at hs
        rw [ex] at hl hp ⊢
        dsimp only at hl hp ⊢
        have hp2 : nolp (lex u).1 = true := by
          rw [nolp, Bool.and_eq_true] at hp; exact hp.2
        have fin : ∀ m', scan (u ++ [32]) m' (b + opn t) [] ≤ 60 → b + opn t ≤ 60 → deepB b (t :: (lex u).1) = true := fun m' h1 h2 => by
          rw [deepB, decide_eq_true h2, Bool.true_and]
          exact scan_deep n u m' _ hu hl hp2 h2 h1
        rcases tk_cases tk with ⟨ha, _, _⟩ | rfl | ⟨d, rfl, hd⟩
        · have hh := tw ha
          rw [scan_word _ _ _ _ _ ha, List.nil_append] at hs
          obtain ⟨d, v, ev⟩ : ∃ d v, u ++ [32] = d :: v := by cases u with | nil => exact ⟨_, _, rfl⟩ | cons d v => exact ⟨d, v ++ [32], rfl⟩
          rw [ev] at hs hh
          have hd : anB d = false := hh
          rw [scan_sign hd, opW_tk t ha] at hs
          have ge := scan_ge v (max m (b + opn t + opC d)) (b + opn t + opC d) []
          refine fin m ?_ ?_
          · rw [ev, scan_sign hd, opW_nil, Int.add_zero]; exact hs
          · have o1 : opn t ≤ 0 ∨ (t = wLet ∧ opn t = 1) := by
              by_cases z : t = wLet
              · exact .inr ⟨z, by rw [z]; decide⟩
              · left; rw [← opW_tk t ha]; unfold opW; rw [if_neg z]; split <;> decide
            rcases o1 with o1 | ⟨z, o1⟩
            · omega
            · have nd : d ≠ 41 := fun z2 => by
                have h41 : u.headD 32 = 41 := by
                  cases u with
                  | nil => have := (List.cons.inj ev).1; omega
                  | cons x y => rw [← z2]; exact (List.cons.inj ev).1
                rw [nolp, decide_eq_true z, decide_eq_true (lex_hd41 h41)] at hp
                exact absurd hp (by simp)
              have : 0 ≤ opC d := by unfold opC; rw [if_neg nd]; split <;> decide
              omega
        · rw [show z_x2dx3e ++ (u ++ [32]) = 45 :: 62 :: (u ++ [32]) from rfl, scan_sign (by decide), scan_sign (by decide), opW_nil] at hs
          rw [show opC 45 = 0 by decide, show opC 62 = 0 by decide, Int.add_zero, Int.add_zero, Int.add_zero, Int.add_zero] at hs
          exact fin _ (by rw [opn6, Int.add_zero]; exact hs) (by rw [opn6]; omega)
        · rw [show [d] ++ (u ++ [32]) = d :: (u ++ [32]) from rfl, scan_sign (sign_an hd), opW_nil, Int.add_zero, opC_tk hd] at hs
          have ge := scan_ge (u ++ [32]) (max m (b + opn [d])) (b + opn [d]) []
          exact fin _ hs (by omega)
theorem nolp_kd (k : Kd) : ∀ rest : List Tkn, nolp (k.tks ++ rest) = nolp rest := by
  have wr : ∀ (k : Kd), (∀ rest : List Tkn, nolp (k.tks ++ rest) = nolp rest) → ∀ rest : List Tkn, nolp (wrapK k.isFn k.tks ++ rest) = nolp rest := fun k ih rest => by
    unfold wrapK
    split
    · rw [List.cons_append, nolp_ne (by decide), List.append_assoc, ih, List.singleton_append, nolp_ne (by decide)]
    · exact ih rest
  induction k with
  | int => intro rest; exact nolp_ne (by decide)
  | bang a ih => intro rest; rw [Kd.tks, List.cons_append, nolp_ne (by decide), wr a ih]
  | pr a b iha ihb =>
    intro rest
    rw [Kd.tks, List.cons_append, nolp_ne (by decide), List.append_assoc, iha, List.cons_append, nolp_ne (by decide), List.append_assoc, ihb, List.singleton_append, nolp_ne (by decide)]
  | fn a b iha ihb =>
    intro rest
    rw [Kd.tks, List.append_assoc, wr a iha, List.cons_append, nolp_ne (by decide), ihb]
theorem nm_let {x : Tkn} (h : nmB x = true) : x ≠ wLet := fun z => by rw [z] at h; exact absurd h (by decide)
theorem num_let {x : Tkn} (h : numB x = true) : x ≠ wLet := fun z => by rw [z] at h; exact absurd h (by decide)
theorem nm_29 {x : Tkn} (h : nmB x = true) : x ≠ z_x29 := fun z => by rw [z] at h; exact absurd h (by decide)
theorem Gr.nolp {l : Nat} {ts : List Tkn} {t : Tm} {d : Nat} (h : Gr l ts t d) : ∀ rest : List Tkn, Lw.nolp (ts ++ rest) = Lw.nolp rest := by
  induction h with
  | up h hl ih => exact ih
  | @lam x k us b d hx hk h ih =>
    intro rest
    rw [List.cons_append, nolp_ne (by decide), List.cons_append, nolp_ne (nm_let hx), List.cons_append, nolp_ne (by decide), List.append_assoc, nolp_kd, List.cons_append, nolp_ne (by decide), ih]
  | @lt x as us a b d e hx ha h ia ih =>
    intro rest
    simp only [List.cons_append, List.append_assoc]
    rw [nolp_let (r := x :: _) (nm_29 hx), nolp_ne (nm_let hx), nolp_ne (by decide), ia, nolp_ne (by decide), ih]
  | @sp x y as us a b d e hx hy ne ha h ia ih =>
    intro rest
    simp only [List.cons_append, List.append_assoc]
    rw [nolp_let (r := z_x28 :: _) (show z_x28 ≠ z_x29 by decide), nolp_ne (by decide), nolp_ne (nm_let hx), nolp_ne (by decide), nolp_ne (nm_let hy), nolp_ne (by decide), nolp_ne (by decide), ia, nolp_ne (by decide), ih]
  | @sum s as bs a b d e hs ha hb ia ib =>
    intro rest
    rw [List.append_assoc, ia, List.cons_append, nolp_ne (by rcases hs with rfl | rfl <;> decide), ib]
  | prod ha hb ia ib => intro rest; rw [List.append_assoc, ia, List.cons_append, nolp_ne (by decide), ib]
  | app ha hb ia ib => intro rest; rw [List.append_assoc, ia, ib]
  | box ha ih => intro rest; rw [List.cons_append, nolp_ne (by decide), ih]
  | var hx => intro rest; exact nolp_ne (nm_let hx)
  | num hx => intro rest; exact nolp_ne (num_let hx)
  | par ha ih => intro rest; rw [List.cons_append, nolp_ne (by decide), List.append_assoc, ih, List.singleton_append, nolp_ne (by decide)]
  | pair ha hb ia ib => intro rest; rw [List.cons_append, nolp_ne (by decide), List.append_assoc, ia, List.cons_append, nolp_ne (by decide), List.append_assoc, ib, List.singleton_append, nolp_ne (by decide)]
/-- how deep a reader calls, where never more than 60 are open -/
theorem deep_to {b : Int} {t : Tkn} {r : List Tkn} (o : Int) (e : opn t = o) (h : deepB b (t :: r) = true) : b + o ≤ 60 ∧ deepB (b + o) r = true := by
  rw [deepB, e, Bool.and_eq_true, decide_eq_true_eq] at h; exact h
theorem opn_nm {x : Tkn} (h : nmB x = true) : opn x = 0 := by
  have hn := nmB_iff.mp h
  have a : ∀ c ∈ x, anB c = true := fun c hc => (an_eq c).mpr (by rcases hn.nm.all c hc with z | z; exact .inl z; exact .inr (.inl z))
  rw [← opW_tk x a]
  unfold opW
  rw [if_neg hn.nl, if_neg hn.ni]; rfl
theorem opn_num {x : Tkn} (h : numB x = true) : opn x = 0 := by
  obtain ⟨d1, d2, d3⟩ := num_digits h
  have a : ∀ c ∈ x, anB c = true := fun c hc => (an_eq c).mpr (.inr (.inl (d1 c hc)))
  rw [← opW_tk x a]
  unfold opW
  rw [if_neg (num_let h), if_neg (fun z => by rw [z] at h; exact absurd h (by decide))]; rfl
theorem opn_let : opn wLet = 1 := by decide
theorem opn_in : opn wIn = -1 := by decide
theorem deep_kdT (k : Kd) : ∀ (b : Int) (rest : List Tkn), deepB b (k.tks ++ rest) = true → deepB b rest = true := by
  have wr : ∀ (k : Kd), (∀ (b : Int) (rest : List Tkn), deepB b (k.tks ++ rest) = true → deepB b rest = true) → ∀ (b : Int) (rest : List Tkn), deepB b (wrapK k.isFn k.tks ++ rest) = true → deepB b rest = true := fun k ih b rest h => by
    unfold wrapK at h
    split at h
    · rw [List.cons_append, List.append_assoc] at h
      have h := (deep_to (-1) opn2 (ih _ _ (deep_to 1 opn1 h).2)).2
      rw [show b + 1 + -1 = b by omega] at h; exact h
    · exact ih b rest h
  induction k with
  | int => intro b rest h; have h := (deep_to 0 opn5 h).2; rw [Int.add_zero] at h; exact h
  | bang a ih => intro b rest h; have h := (deep_to 0 opn4 h).2; rw [Int.add_zero] at h; exact wr a ih _ _ h
  | pr a b iha ihb =>
    intro b' rest h
    simp only [Kd.tks, List.cons_append, List.append_assoc] at h
    have h := (deep_to 0 opn3 (iha _ _ (deep_to 1 opn1 h).2)).2
    rw [Int.add_zero] at h
    have h := (deep_to (-1) opn2 (ihb _ _ h)).2
    rw [show b' + 1 + -1 = b' by omega] at h; exact h
  | fn a b iha ihb =>
    intro b' rest h
    rw [Kd.tks, List.append_assoc] at h
    have h := (deep_to 0 opn6 (wr a iha _ _ h)).2
    rw [Int.add_zero] at h
    exact ihb _ _ h
theorem Gr.deep {l : Nat} {ts : List Tkn} {t : Tm} {d : Nat} (h : Gr l ts t d) : ∀ (b : Int) (rest : List Tkn), b ≤ 60 → deepB b (ts ++ rest) = true → 6 * b + d ≤ 390 - l ∧ deepB b rest = true := by
  induction h with
  | up h hl ih => intro b rest hb h; obtain ⟨h1, h2⟩ := ih b rest hb h; exact ⟨by omega, h2⟩
  | @lam x k us b d hx hk h ih =>
    intro o rest hb h
    simp only [List.cons_append, List.append_assoc] at h
    have h := (deep_to 0 (by decide) (deep_to 0 (opn_nm hx) (deep_to 0 (by decide) h).2).2).2
    simp only [Int.add_zero] at h
    have h := (deep_to 0 (by decide) (deep_kdT k _ _ h)).2
    rw [Int.add_zero] at h
    obtain ⟨h1, h2⟩ := ih o rest hb h
    exact ⟨by omega, h2⟩
  | @lt x as us a b d e hx ha h ia ih =>
    intro o rest hb h
    simp only [List.cons_append, List.append_assoc] at h
    obtain ⟨g1, h⟩ := deep_to 1 opn_let h
    have h := (deep_to 0 (by decide) (deep_to 0 (opn_nm hx) h).2).2
    simp only [Int.add_zero] at h
    obtain ⟨h1, h⟩ := ia _ _ g1 h
    have h := (deep_to (-1) opn_in h).2
    rw [show o + 1 + -1 = o by omega] at h
    obtain ⟨h3, h4⟩ := ih o rest hb h
    exact ⟨by omega, h4⟩
  | @sp x y as us a b d e hx hy ne ha h ia ih =>
    intro o rest hb h
    simp only [List.cons_append, List.append_assoc] at h
    obtain ⟨g1, h⟩ := deep_to 1 opn_let h
    have h := (deep_to 0 (by decide) (deep_to (-1) opn2 (deep_to 0 (opn_nm hy) (deep_to 0 opn3 (deep_to 0 (opn_nm hx) (deep_to 1 opn1 h).2).2).2).2).2).2
    rw [show o + 1 + 1 + 0 + 0 + 0 + -1 + 0 = o + 1 by omega] at h
    obtain ⟨h1, h⟩ := ia _ _ g1 h
    have h := (deep_to (-1) opn_in h).2
    rw [show o + 1 + -1 = o by omega] at h
    obtain ⟨h3, h4⟩ := ih o rest hb h
    exact ⟨by omega, h4⟩
  | @sum s as bs a b d e hs ha hb ia ib =>
    intro o rest hb h
    rw [List.append_assoc, List.cons_append] at h
    obtain ⟨h1, h⟩ := ia o _ hb h
    have h := (deep_to 0 (by rcases hs with rfl | rfl <;> decide) h).2
    rw [Int.add_zero] at h
    obtain ⟨h3, h4⟩ := ib o rest hb h
    exact ⟨by omega, h4⟩
  | prod ha hb ia ib =>
    intro o rest hb h
    rw [List.append_assoc, List.cons_append] at h
    obtain ⟨h1, h⟩ := ia o _ hb h
    have h := (deep_to 0 (by decide) h).2
    rw [Int.add_zero] at h
    obtain ⟨h3, h4⟩ := ib o rest hb h
    exact ⟨by omega, h4⟩
  | app ha hb ia ib =>
    intro o rest hb h
    rw [List.append_assoc] at h
    obtain ⟨h1, h⟩ := ia o _ hb h
    obtain ⟨h3, h4⟩ := ib o rest hb h
    exact ⟨by omega, h4⟩
  | box ha ih =>
    intro o rest hb h
    have h := (deep_to 0 opn4 h).2
    rw [Int.add_zero] at h
    exact ih o rest hb h
  | var hx =>
    intro o rest hb h
    have h := (deep_to 0 (opn_nm hx) h).2
    rw [Int.add_zero] at h
    exact ⟨by omega, h⟩
  | num hx =>
    intro o rest hb h
    have h := (deep_to 0 (opn_num hx) h).2
    rw [Int.add_zero] at h
    exact ⟨by omega, h⟩
  | par ha ih =>
    intro o rest hb h
    rw [List.cons_append, List.append_assoc] at h
    obtain ⟨g1, h⟩ := deep_to 1 opn1 h
    obtain ⟨h1, h⟩ := ih _ _ g1 h
    have h := (deep_to (-1) opn2 h).2
    rw [show o + 1 + -1 = o by omega] at h
    exact ⟨by omega, h⟩
  | pair ha hb ia ib =>
    intro o rest hb h
    simp only [List.cons_append, List.append_assoc] at h
    obtain ⟨g1, h⟩ := deep_to 1 opn1 h
    obtain ⟨h1, h⟩ := ia _ _ g1 h
    have h := (deep_to 0 opn3 h).2
    rw [Int.add_zero] at h
    obtain ⟨h3, h⟩ := ib _ _ g1 h
    have h := (deep_to (-1) opn2 h).2
    rw [show o + 1 + -1 = o by omega] at h
    exact ⟨by omega, h⟩

/-! ## the tokens of a term's text -/
def opL (s : Nat) : Nat := if s = 42 then 2 else 1
def Tm.tks : Tm → List Tkn
  | .var x => [x]
  | .num n => [decS n]
  | .lam x k b => z_x5c :: x :: z_x3a :: (k.tks ++ z_x2e :: b.tks)
  | .lt x a b => wLet :: x :: z_x3d :: (a.tks ++ wIn :: b.tks)
  | .sp x y a b => wLet :: z_x28 :: x :: z_x2c :: y :: z_x29 :: z_x3d :: (a.tks ++ wIn :: b.tks)
  | .pr a b => z_x28 :: (a.tks ++ z_x2c :: (b.tks ++ [z_x29]))
  | .app a b => wrapK (decide (a.line < 3)) a.tks ++ wrapK (decide (b.line < 4)) b.tks
  | .box a => z_x21 :: wrapK (decide (a.line < 4)) a.tks
  | .op s a b => wrapK (decide (a.line < opL s)) a.tks ++ [s] :: wrapK (decide (b.line < opL s + 1)) b.tks
theorem Tm.line_le (t : Tm) : t.line ≤ 5 := by
  cases t <;> simp only [Tm.line] <;> first | decide | (split <;> decide)
theorem numB_dec {n : Int} (h : 0 ≤ n ∧ n ≤ 1000000) : numB (decS n) = true ∧ numV (decS n) = n := by
  obtain ⟨m, rfl⟩ := Int.eq_ofNat_of_zero_le h.1
  have hm : m ≤ 1000000 := by omega
  rw [decS_nat]
  refine ⟨?_, by unfold numV; rw [TL.numL_val]⟩
  have l7 := TL.numL_len (n := m) (k := 7) (by decide) (by omega)
  have ne := TL.numL_ne m
  have dg := TL.numL_digits m
  have hz : (TL.numL m).headD 0 = 48 → (TL.numL m).length ≤ 1 := by
    have : ∀ (k n : Nat), n < k → (TL.numL n).headD 0 = 48 → n = 0 := fun k => by
      induction k with
      | zero => intro n hn; omega
      | succ k ih =>
        intro n hn e
        by_cases c : n < 10
        · rw [TL.numL_lt c] at e
          have e : 48 + n = 48 := e
          omega
        · rw [TL.numL_step (by omega)] at e
          have h0 : (TL.numL (n / 10) ++ [48 + n % 10]).headD 0 = (TL.numL (n / 10)).headD 0 := by
            have := TL.numL_ne (n / 10)
            cases e1 : TL.numL (n / 10) with
            | nil => exact absurd e1 this
            | cons => rfl
          rw [h0] at e
          have := ih (n / 10) (by omega) e
          omega
    intro e
    have := this (m + 1) m (by omega) e
    subst this
    decide
  simp only [numB, Bool.and_eq_true, decide_eq_true_eq, List.all_eq_true, Bool.not_eq_true', Bool.and_eq_false_iff, decide_eq_false_iff_not]
  refine ⟨⟨?_, by omega⟩, ?_, fun c hc => mem_digits.mpr (dg c hc)⟩
  · rcases Nat.eq_zero_or_pos (TL.numL m).length with z | z
    · exact absurd (List.length_eq_zero_iff.mp z) ne
    · exact z
  · by_cases z : (TL.numL m).headD 0 = 48
    · right; have := hz z; omega
    · exact .inl z
theorem Gr.to {l m : Nat} {ts : List Tkn} {t : Tm} {d : Nat} (h : Gr m ts t d) (hl : l ≤ m) (hm : m ≤ 5) : ∃ d', Gr l ts t d' := by
  obtain ⟨k, rfl⟩ := Nat.exists_eq_add_of_le hl
  clear hl
  induction k generalizing d with
  | zero => exact ⟨d, h⟩
  | succ k ih => exact ih (Gr.up (l := l + k) h (by omega)) (by omega)
/-- at a level, with parentheses where they are needed -/
theorem Gr.wrap {l m : Nat} {ts : List Tkn} {t : Tm} {d : Nat} (h : Gr m ts t d) (hl : l ≤ 5) (hm : m ≤ 5) : ∃ d', Gr l (wrapK (decide (m < l)) ts) t d' := by
  unfold wrapK
  by_cases z : m < l
  · rw [decide_eq_true z, if_pos rfl]
    obtain ⟨d1, h1⟩ := h.to (Nat.zero_le m) hm
    exact (Gr.par h1).to hl (by omega)
  · rw [decide_eq_false z, if_neg Bool.false_ne_true]
    exact h.to (Nat.not_lt.mp z) hm
theorem Tm.gr : ∀ t : Tm, TmOk t → t.Dis → ∃ d, Gr t.line t.tks t d
  | .var x, h, _ => ⟨1, .var (nmB_iff.mpr h)⟩
  | .num n, h, _ => by
    obtain ⟨a, b⟩ := numB_dec h
    have g := Gr.num a
    rw [b] at g
    exact ⟨1, g⟩
  | .lam x k b, h, s => by
    obtain ⟨d, g⟩ := Tm.gr b h.2.2 s
    obtain ⟨d1, g1⟩ := g.to (Nat.zero_le _) b.line_le
    exact ⟨_, .lam (nmB_iff.mpr h.1) (Nat.le_trans h.2.1 (by decide)) g1⟩
  | .lt x a b, h, s => by
    obtain ⟨d, g⟩ := Tm.gr a h.2.1 s.1
    obtain ⟨d1, g1⟩ := g.to (Nat.zero_le _) a.line_le
    obtain ⟨d', g'⟩ := Tm.gr b h.2.2 s.2
    obtain ⟨d2, g2⟩ := g'.to (Nat.zero_le _) b.line_le
    exact ⟨_, .lt (nmB_iff.mpr h.1) g1 g2⟩
  | .sp x y a b, h, s => by
    obtain ⟨d, g⟩ := Tm.gr a h.2.2.1 s.2.1
    obtain ⟨d1, g1⟩ := g.to (Nat.zero_le _) a.line_le
    obtain ⟨d', g'⟩ := Tm.gr b h.2.2.2 s.2.2
    obtain ⟨d2, g2⟩ := g'.to (Nat.zero_le _) b.line_le
    exact ⟨_, .sp (nmB_iff.mpr h.1) (nmB_iff.mpr h.2.1) s.1 g1 g2⟩
  | .pr a b, h, s => by
    obtain ⟨d, g⟩ := Tm.gr a h.1 s.1
    obtain ⟨d1, g1⟩ := g.to (Nat.zero_le _) a.line_le
    obtain ⟨d', g'⟩ := Tm.gr b h.2 s.2
    obtain ⟨d2, g2⟩ := g'.to (Nat.zero_le _) b.line_le
    exact ⟨_, .pair g1 g2⟩
  | .app a b, h, s => by
    obtain ⟨d, g⟩ := Tm.gr a h.1 s.1
    obtain ⟨d1, g1⟩ := g.wrap (l := 3) (by decide) a.line_le
    obtain ⟨d', g'⟩ := Tm.gr b h.2 s.2
    obtain ⟨d2, g2⟩ := g'.wrap (l := 4) (by decide) b.line_le
    exact ⟨_, .app g1 g2⟩
  | .box a, h, s => by
    obtain ⟨d, g⟩ := Tm.gr a h s
    obtain ⟨d1, g1⟩ := g.wrap (l := 4) (by decide) a.line_le
    exact ⟨_, .box g1⟩
  | .op s a b, h, ss => by
    obtain ⟨d, g⟩ := Tm.gr a h.2.1 ss.1
    obtain ⟨d', g'⟩ := Tm.gr b h.2.2 ss.2
    have hs := h.1
    simp only [List.mem_cons, List.not_mem_nil, or_false] at hs
    by_cases z : s = 42
    · subst z
      obtain ⟨d1, g1⟩ := g.wrap (l := 2) (by decide) a.line_le
      obtain ⟨d2, g2⟩ := g'.wrap (l := 3) (by decide) b.line_le
      exact ⟨_, .prod g1 g2⟩
    · obtain ⟨d1, g1⟩ := g.wrap (l := 1) (by decide) a.line_le
      obtain ⟨d2, g2⟩ := g'.wrap (l := 2) (by decide) b.line_le
      have e1 : opL s = 1 := if_neg z
      have e2 : (Tm.op s a b).line = 1 := if_neg z
      have g3 := Gr.sum (s := s) (by omega) g1 g2
      exact ⟨_, by rw [e2, Tm.tks, e1]; exact g3⟩
/-- x is read as ts ahead of what is no letter or digit -/
def Lx (x : List Nat) (ts : List Tkn) : Prop := ∀ r : List Nat, anB (r.headD 32) = false → lex (x ++ r) = (ts ++ (lex r).1, (lex r).2)
theorem h32 {r : List Nat} : anB ((32 :: r).headD 32) = false := by show anB 32 = false; decide
theorem h41 {r : List Nat} : anB ((41 :: r).headD 32) = false := by show anB 41 = false; decide
theorem h44 {r : List Nat} : anB ((44 :: r).headD 32) = false := by show anB 44 = false; decide
theorem h46 {r : List Nat} : anB ((46 :: r).headD 32) = false := by show anB 46 = false; decide
theorem h58 {r : List Nat} : anB ((58 :: r).headD 32) = false := by show anB 58 = false; decide
theorem h61 {r : List Nat} : anB ((61 :: r).headD 32) = false := by show anB 61 = false; decide
theorem h40 {r : List Nat} : anB ((40 :: r).headD 32) = false := by show anB 40 = false; decide
theorem tk_nm {x : Tkn} (h : nmB x = true) : IsTk x := by
  have hn := nmB_iff.mp h
  unfold IsTk tkB wordB
  have a : x.all anB = true := List.all_eq_true.mpr fun c hc => (an_eq c).mpr (by rcases hn.nm.all c hc with z | z; exact .inl z; exact .inr (.inl z))
  rw [a, h, decide_eq_true (show x.length ≤ 9 from Nat.le_succ_of_le hn.nm.len)]; simp
theorem tk_numB {x : Tkn} (h : numB x = true) : IsTk x := by
  obtain ⟨d1, d2, d3⟩ := num_digits h
  unfold IsTk tkB wordB
  have a : x.all anB = true := List.all_eq_true.mpr fun c hc => (an_eq c).mpr (.inr (.inl (d1 c hc)))
  rw [a, h, decide_eq_true d3]; simp
theorem Lx.word {x : Tkn} (h : IsTk x) (n : x ≠ [45]) : Lx x [x] := fun r hr => lex_app h ⟨fun _ => hr, fun z => absurd z n⟩
theorem nm_45 {x : Tkn} (h : nmB x = true) : x ≠ [45] := fun z => by rw [z] at h; exact absurd h (by decide)
theorem numB_45 {x : Tkn} (h : numB x = true) : x ≠ [45] := fun z => by rw [z] at h; exact absurd h (by decide)
theorem Lx.wrap {x : List Nat} {ts : List Tkn} (h : Lx x ts) (b : Bool) : Lx (wrapT b x) (wrapK b ts) := fun r hr => by
  unfold wrapT wrapK
  split
  · rw [show z_x28 ++ x ++ z_x29 ++ r = 40 :: (x ++ (41 :: r)) by simp [z_x28, z_x29], lex_sign (by decide) (by decide), h (41 :: r) h41, lex_sign (by decide) (by decide)]
    simp [z_x28, z_x29]
  · exact h r hr
theorem lex_sp {r : List Nat} : lex (32 :: r) = lex r := lex_blank (Or.inl rfl)
theorem tk_wLet : IsTk wLet := by decide
theorem lex_word {x : Tkn} {r : List Nat} (h : IsTk x) (n : x ≠ [45]) (hr : anB (r.headD 32) = false) : lex (x ++ r) = (x :: (lex r).1, (lex r).2) := Lx.word h n r hr
theorem lex_op {s : Nat} {r : List Nat} (hs : s ∈ [43, 45, 42]) (hr : blankC (r.headD 32)) : lex (s :: r) = ([s] :: (lex r).1, (lex r).2) := by
  have tk : IsTk [s] := by
    simp only [List.mem_cons, List.not_mem_nil, or_false] at hs
    rcases hs with rfl | rfl | rfl <;> decide
  refine lex_app tk ⟨fun z => an_blank hr, fun _ z => ?_⟩
  rw [z] at hr; rcases hr with c | c <;> exact absurd c (by decide)
theorem Tm.lx : ∀ t : Tm, TmOk t → Lx t.txt t.tks
  | .var x, h => Lx.word (tk_nm (nmB_iff.mpr h)) (nm_45 (nmB_iff.mpr h))
  | .num n, h => Lx.word (tk_numB (numB_dec h).1) (numB_45 (numB_dec h).1)
  | .lam x k b, h => fun r hr => by
    have hx := nmB_iff.mpr h.1
    rw [show (Tm.lam x k b).txt ++ r = 92 :: (x ++ (58 :: (k.txt ++ (46 :: 32 :: (b.txt ++ r))))) by simp [Tm.txt, z_x5c, z_x3a, z_x2ex20], lex_sign (by decide) (by decide), lex_word (tk_nm hx) (nm_45 hx) h58,
      lex_sign (by decide) (by decide), lex_kd k _ h46, lex_sign (by decide) (by decide), lex_sp, Tm.lx b h.2.2 r hr]
    simp [Tm.tks, z_x5c, z_x3a, z_x2e]
  | .lt x a b, h => fun r hr => by
    have hx := nmB_iff.mpr h.1
    rw [show (Tm.lt x a b).txt ++ r = wLet ++ (32 :: (x ++ (32 :: 61 :: 32 :: (a.txt ++ (32 :: (wIn ++ (32 :: (b.txt ++ r)))))))) by simp [Tm.txt, z_letx20, z_x20x3dx20, z_x20inx20], lex_word tk_wLet (by decide) h32, lex_sp, lex_word (tk_nm hx) (nm_45 hx) h32, lex_sp,
      lex_sign (by decide) (by decide), lex_sp, Tm.lx a h.2.1 _ h32, lex_sp, lex_word tk10 (by decide) h32, lex_sp, Tm.lx b h.2.2 r hr]
    simp [Tm.tks, z_x3d]
  | .sp x y a b, h => fun r hr => by
    have hx := nmB_iff.mpr h.1
    have hy := nmB_iff.mpr h.2.1
    rw [show (Tm.sp x y a b).txt ++ r = wLet ++ (32 :: 40 :: (x ++ (44 :: 32 :: (y ++ (41 :: 32 :: 61 :: 32 :: (a.txt ++ (32 :: (wIn ++ (32 :: (b.txt ++ r)))))))))) by simp [Tm.txt, z_letx20x28, z_x2cx20, z_x29x20x3dx20, z_x20inx20],
      lex_word tk_wLet (by decide) h32, lex_sp, lex_sign (by decide) (by decide), lex_word (tk_nm hx) (nm_45 hx) h44, lex_sign (by decide) (by decide), lex_sp, lex_word (tk_nm hy) (nm_45 hy) h41, lex_sign (by decide) (by decide), lex_sp,
      lex_sign (by decide) (by decide), lex_sp, Tm.lx a h.2.2.1 _ h32, lex_sp, lex_word tk10 (by decide) h32, lex_sp, Tm.lx b h.2.2.2 r hr]
    simp [Tm.tks, z_x3d, z_x28, z_x2c, z_x29]
  | .pr a b, h => fun r hr => by
    rw [show (Tm.pr a b).txt ++ r = 40 :: (a.txt ++ (44 :: 32 :: (b.txt ++ (41 :: r)))) by simp [Tm.txt, z_x28, z_x2cx20, z_x29], lex_sign (by decide) (by decide), Tm.lx a h.1 _ h44, lex_sign (by decide) (by decide), lex_sp, Tm.lx b h.2 _ h41, lex_sign (by decide) (by decide)]
    simp [Tm.tks, z_x28, z_x2c, z_x29]
  | .app a b, h => fun r hr => by
    rw [show (Tm.app a b).txt ++ r = wrapT (decide (a.line < 3)) a.txt ++ (32 :: (wrapT (decide (b.line < 4)) b.txt ++ r)) by simp [Tm.txt, z_x20], (Tm.lx a h.1).wrap _ _ h32, lex_sp, (Tm.lx b h.2).wrap _ r hr]
    simp [Tm.tks]
  | .box a, h => fun r hr => by
    rw [show (Tm.box a).txt ++ r = 33 :: (wrapT (decide (a.line < 4)) a.txt ++ r) by simp [Tm.txt, z_x21], lex_sign (by decide) (by decide), (Tm.lx a h).wrap _ r hr]
    simp [Tm.tks, z_x21]
  | .op s a b, h => fun r hr => by
    rw [show (Tm.op s a b).txt ++ r = wrapT (decide (a.line < opL s)) a.txt ++ (32 :: s :: 32 :: (wrapT (decide (b.line < opL s + 1)) b.txt ++ r)) by simp [Tm.txt, z_x20, opL]; rfl, (Tm.lx a h.2.1).wrap _ _ h32, lex_sp, lex_op h.1 (Or.inl rfl), lex_sp, (Tm.lx b h.2.2).wrap _ r hr]
    simp [Tm.tks]
theorem Lx_lex {x : List Nat} {ts : List Tkn} (h : Lx x ts) : lex x = (ts, true) := by
  have := h [] rfl
  rw [List.append_nil, lex_nil, List.append_nil] at this
  exact this

/-! ## read_term -/
def rtRes (aI aL : Addr) (s : List Nat) (m : Nat) (h : HW) (R : KW) (ex : XW → HW → Prop) : Prop :=
  if deepB 0 (lex s).1 = true then (if (lex s).2 = true then (match tmF m (lex s).1 with
    | .ok k r => if r = [] then R k.w h else ∀ h', Sub h h' → ex ⟨aI, none⟩ h'
    | .bad => ∀ h', Sub h h' → ex ⟨aI, none⟩ h'
    | .out => False) else ∀ h', Sub h h' → ex ⟨aI, none⟩ h') else ∀ h', Sub h h' → ex ⟨aL, none⟩ h'
def spReadTerm (aI aL : Addr) (n : Nat) : SpW := fun ws h R ex => ∃ (s : List Nat) (m : Nat), ws = [.str s] ∧ s.length ≤ 1000000 ∧ (m ≤ n ∧ m ≤ 1000000) ∧ rtRes aI aL s m h R ex
theorem tm_back {aI aL : Addr} {h : HW} {R : KW} {ex : XW → HW → Prop} {t : Tm} {ts : List Tkn} {x : List Nat} {d n : Nat} (hx : lex x = (ts, true)) (g : Gr 0 ts t d) (hd : 390 ≤ n) (op : deepB 0 ts = true) (q : R t.w h) : rtRes aI aL x n h R ex := by
  unfold rtRes
  have dl := (g.deep 0 [] (by decide) (by rw [List.append_nil]; exact op)).1
  obtain ⟨n, rfl⟩ : ∃ m, n = m + 1 := ⟨n - 1, by omega⟩
  have r := tmF_of (l := 0) g.sound (n := n) (rest := []) (by omega) stp_nil
  rw [List.append_nil] at r
  rw [hx]
  dsimp only
  rw [op, if_pos rfl, if_pos rfl, r]
  exact q
section
variable {P : Program} {w : World} {K : PySem.W.Frag} {mg : Str → Option Value} {base : Heap}
end

/-! ## what reading takes: a part of the tokens that is balanced -/
structure Sf (r us : List Tkn) : Prop where
  lt : r.length < us.length
  pre : ∃ p, us = p ++ r
  bal : ∀ b : Int, b ≤ 60 → deepB b us = true → deepB b r = true
def Sfe (r us : List Tkn) : Prop := r = us ∨ Sf r us
theorem Sf.trans {r s us : List Tkn} (a : Sf r s) (b : Sf s us) : Sf r us := by
  obtain ⟨p, hp⟩ := a.pre
  obtain ⟨p2, hp2⟩ := b.pre
  exact ⟨Nat.lt_trans a.lt b.lt, ⟨p2 ++ p, by rw [hp2, hp, List.append_assoc]⟩, fun o ho h => a.bal o ho (b.bal o ho h)⟩
theorem Sfe.trans {r s us : List Tkn} (a : Sfe r s) (b : Sf s us) : Sf r us := by
  rcases a with rfl | a
  · exact b
  · exact a.trans b
theorem Sf.sfe {r s us : List Tkn} (a : Sf r s) (b : Sfe s us) : Sf r us := by
  rcases b with rfl | b
  · exact a
  · exact a.trans b
theorem Sfe.tr {r s us : List Tkn} (a : Sfe r s) (b : Sfe s us) : Sfe r us := by
  rcases b with rfl | b
  · exact a
  · exact .inr (a.trans b)
/-- a token that opens and closes nothing -/
theorem Sf.tok {t : Tkn} {r : List Tkn} (h : opn t = 0) : Sf r (t :: r) := ⟨Nat.lt_succ_self _, ⟨[t], rfl⟩, fun b hb q => by have := (deep_to 0 h q).2; rw [Int.add_zero] at this; exact this⟩
/-- opened, read, closed -/
theorem Sf.shut {t u : Tkn} {us r : List Tkn} (ht : opn t = 1) (hu : opn u = -1) (h : Sfe (u :: r) us) : Sf r (t :: us) := by
  have l : (u :: r).length ≤ us.length := by
    rcases h with e | h
    · rw [e]; exact Nat.le_refl _
    · exact Nat.le_of_lt h.lt
  have pre : ∃ p, us = p ++ u :: r := by
    rcases h with e | h
    · exact ⟨[], e.symm⟩
    · exact h.pre
  obtain ⟨p, hp⟩ := pre
  refine ⟨by simp only [List.length_cons] at l ⊢; omega, ⟨t :: (p ++ [u]), by rw [hp]; simp⟩, fun b hb q => ?_⟩
  obtain ⟨g1, q⟩ := deep_to 1 ht q
  have q : deepB (b + 1) (u :: r) = true := by
    rcases h with e | h
    · rw [e]; exact q
    · exact h.bal _ g1 q
  have q := (deep_to (-1) hu q).2
  rw [show b + 1 + -1 = b by omega] at q
  exact q
def Eds {α : Type} (x : Rs α) (us : List Tkn) : Prop := ∀ a r, x = .ok a r → Sf r us
theorem bind_inv {α β : Type} {x : Rs α} {f : α → List Tkn → Rs β} {b : β} {r : List Tkn} (h : x.bind f = .ok b r) : ∃ a s, x = .ok a s ∧ f a s = .ok b r := by
  cases x with
  | ok a s => exact ⟨a, s, rfl, h⟩
  | bad => cases h
  | out => cases h
theorem bind_out {α β : Type} {x : Rs α} {f : α → List Tkn → Rs β} (hx : x ≠ .out) (h : ∀ a r, x = .ok a r → f a r ≠ .out) : x.bind f ≠ .out := by
  cases x with
  | ok a s => exact h a s rfl
  | bad => exact fun z => nomatch z
  | out => exact absurd rfl hx
theorem needF_inv {t : Tkn} {us r : List Tkn} {u : Unit} (h : needF t us = .ok u r) (ht : t ≠ []) : us = t :: r := by
  unfold needF at h
  split at h
  · rename_i e
    cases us with
    | nil => exact absurd e.symm ht
    | cons x xs =>
      have e : x = t := e
      cases h; rw [e]; rfl
  · cases h
theorem needF_no {t : Tkn} {us : List Tkn} : needF t us ≠ .out := by unfold needF; split <;> exact fun z => nomatch z
theorem nameF_inv {x : Tkn} {us r : List Tkn} (h : nameF us = .ok x r) : us = x :: r ∧ nmB x = true := by
  unfold nameF at h
  split at h
  · rename_i e
    cases us with
    | nil => exact absurd e (by decide)
    | cons y xs => cases h; exact ⟨rfl, e⟩
  · cases h
theorem nameF_no {us : List Tkn} : nameF us ≠ .out := by unfold nameF; split <;> exact fun z => nomatch z
theorem bangs_sf : ∀ us : List Tkn, Sfe (us.drop (bangs us)) us
  | [] => .inl rfl
  | t :: r => by
    rw [bangs]
    split
    · rename_i e
      subst e
      rw [List.drop_succ_cons]
      exact .inr ((bangs_sf r).trans (.tok opn4))
    · exact .inl rfl
theorem hd_cons {us : List Tkn} {t : Tkn} (h : us.headD [] = t) (ht : t ≠ []) : us = t :: us.tail := by
  cases us with
  | nil => exact absurd h.symm ht
  | cons x xs => rw [show x = t from h]; rfl
theorem kdL_ends {tg : List Tkn → Rs Kd} (ht : ∀ us, Eds (tg us) us) : ∀ (K : Nat) (init : List Kd) (a : Kd) (us : List Tkn) (k : Kd) (r : List Tkn), kdL tg K init a us = .ok k r → Sfe r us
  | 0, _, _, _, _, _, h => nomatch h
  | K + 1, init, a, us, k, r, h => by
    rw [kdL] at h
    split at h
    · rename_i e
      obtain ⟨a2, s, e1, e2⟩ := bind_inv h
      have h1 := ht _ _ _ e1
      have h2 := kdL_ends ht K _ _ _ _ _ e2
      have e3 := hd_cons e (by decide)
      rw [e3]
      exact .inr ((h2.trans h1).trans (.tok opn6))
    · cases h; exact .inl rfl
theorem kd_ends : ∀ n : Nat, (∀ us, Eds (kdF n us) us) ∧ (∀ us, Eds (tgF n us) us) ∧ (∀ us, Eds (inF n us) us)
  | 0 => by refine ⟨fun us a r h => ?_, fun us a r h => ?_, fun us a r h => ?_⟩ <;> cases h
  | n + 1 => by
    obtain ⟨ik, it, ii⟩ := kd_ends n
    refine ⟨fun us a r h => ?_, fun us a r h => ?_, fun us a r h => ?_⟩
    · rw [kdF] at h
      obtain ⟨b, s, e1, e2⟩ := bind_inv h
      exact (kdL_ends it _ _ _ _ _ _ e2).trans (it _ _ _ e1)
    · rw [tgF] at h
      obtain ⟨b, s, e1, e2⟩ := bind_inv h
      cases e2
      exact (ii _ _ _ e1).sfe (bangs_sf us)
    · rw [inF] at h
      split at h
      · rename_i e
        have e3 := hd_cons e (by decide)
        cases h
        rw [e3]; exact .tok opn5
      · split at h
        · rename_i e
          have e3 := hd_cons e (by decide)
          cases e1 : kdF n us.tail with
          | ok k s =>
            rw [e1] at h
            dsimp only at h
            have s1 := ik _ _ _ e1
            split at h
            · rename_i c1
              have c3 := hd_cons c1 (by decide)
              cases e2 : kdF n s.tail with
              | ok k2 s2 =>
                rw [e2] at h
                dsimp only at h
                have s2' := ik _ _ _ e2
                split at h
                · rename_i c2
                  have c4 := hd_cons c2 (by decide)
                  cases h
                  rw [e3]
                  refine .shut opn1 opn2 ?_
                  rw [← c4]
                  refine .inr (s2'.trans ?_)
                  have : Sf s.tail s := by rw [c3]; exact .tok opn3
                  exact this.trans s1
                · cases h
              | bad => rw [e2] at h; cases h
              | out => rw [e2] at h; cases h
            · split at h
              · rename_i c2
                have c4 := hd_cons c2 (by decide)
                cases h
                rw [e3]
                refine .shut opn1 opn2 ?_
                rw [← c4]
                exact .inr s1
              · cases h
          | bad => rw [e1] at h; cases h
          | out => rw [e1] at h; cases h
        · cases h
theorem Sf.two {t u : Tkn} {r us : List Tkn} (ht : opn t = 0) (h : Sfe r us) : Sf r (t :: us) := h.trans (.tok ht)
theorem Sf.need {t : Tkn} {r us : List Tkn} {u : Unit} (h : needF t us = .ok u r) (ht : t ≠ []) (o : opn t = 0) : Sf r us := by rw [needF_inv h ht]; exact .tok o
theorem Sf.name {x : Tkn} {r us : List Tkn} (h : nameF us = .ok x r) : Sf r us := by
  obtain ⟨e, hx⟩ := nameF_inv h
  rw [e]; exact .tok (opn_nm hx)
theorem hdL_ends {hd : List Tkn → Rs Hd} {fin : List Tkn → Rs Tm} (h1 : ∀ us, us.headD [] = z_x5c ∨ us.headD [] = wLet → Eds (hd us) us) (h2 : ∀ us, Eds (fin us) us) : ∀ (K : Nat) (us : List Tkn), Eds (hdL hd fin K us) us
  | 0, _ => fun _ _ h => nomatch h
  | K + 1, us => fun t r h => by
    rw [hdL] at h
    split at h
    · rename_i e
      obtain ⟨hh, s, e1, e2⟩ := bind_inv h
      obtain ⟨t2, s2, e3, e4⟩ := bind_inv e2
      cases e4
      exact (hdL_ends h1 h2 K _ _ _ e3).trans (h1 _ e _ _ e1)
    · exact h2 _ _ _ h
theorem loop_ends {go : List Tkn → Bool} {nx : Tm → List Tkn → Rs Tm} (hn : ∀ t us, go us = true → Eds (nx t us) us) : ∀ (K : Nat) (t : Tm) (us : List Tkn) (u : Tm) (r : List Tkn), loopF go nx K t us = .ok u r → Sfe r us
  | 0, _, _, _, _, h => nomatch h
  | K + 1, t, us, u, r, h => by
    rw [loopF] at h
    split at h
    · rename_i e
      obtain ⟨a, s, e1, e2⟩ := bind_inv h
      exact .inr ((loop_ends hn K _ _ _ _ e2).trans (hn _ _ e _ _ e1))
    · cases h; exact .inl rfl
theorem lnF_ends {us r : List Tkn} {xs : List Tkn} (h : lnF us = .ok xs r) : Sf r us := by
  unfold lnF at h
  split at h
  · rename_i e
    have e0 := hd_cons e (by decide)
    obtain ⟨x, s1, e1, h⟩ := bind_inv h
    obtain ⟨_, s2, e2, h⟩ := bind_inv h
    obtain ⟨y, s3, e3, h⟩ := bind_inv h
    obtain ⟨_, s4, e4, h⟩ := bind_inv h
    split at h
    · cases h
    · cases h
      rw [e0]
      refine .shut opn1 opn2 ?_
      rw [← needF_inv e4 (by decide)]
      exact .inr ((Sf.name e3).trans ((Sf.need e2 (by decide) opn3).trans (Sf.name e1)))
  · obtain ⟨x, s1, e1, h⟩ := bind_inv h
    cases h; exact Sf.name e1
theorem goS_hd {us : List Tkn} (h : goS us = true) : ∃ t, us = t :: us.tail ∧ opn t = 0 := by
  have h := of_decide_eq_true h
  rcases h with e | e
  · exact ⟨_, hd_cons e (by decide), by decide⟩
  · exact ⟨_, hd_cons e (by decide), by decide⟩
theorem goP_hd {us : List Tkn} (h : goP us = true) : ∃ t, us = t :: us.tail ∧ opn t = 0 := ⟨_, hd_cons (of_decide_eq_true h) (by decide), by decide⟩
theorem tm_ends : ∀ n : Nat, (∀ us, Eds (tmF n us) us) ∧ (∀ us, us.headD [] = z_x5c ∨ us.headD [] = wLet → Eds (hdF n us) us) ∧ (∀ us, Eds (smF n us) us) ∧ (∀ us, Eds (prF n us) us) ∧ (∀ us, Eds (apF n us) us) ∧ (∀ us, Eds (bxF n us) us) ∧ (∀ us, Eds (ixF n us) us)
  | 0 => by refine ⟨fun us a r h => ?_, fun us _ a r h => ?_, fun us a r h => ?_, fun us a r h => ?_, fun us a r h => ?_, fun us a r h => ?_, fun us a r h => ?_⟩ <;> cases h
  | n + 1 => by
    obtain ⟨it, ih, is, ip, ia, ib, ii⟩ := tm_ends n
    have ik := (kd_ends n).1
    refine ⟨fun us a r h => ?_, fun us hh a r h => ?_, fun us a r h => ?_, fun us a r h => ?_, fun us a r h => ?_, fun us a r h => ?_, fun us a r h => ?_⟩
    · rw [tmF] at h
      exact hdL_ends ih is _ _ _ _ h
    · rw [hdF] at h
      split at h
      · rename_i e
        have e0 := hd_cons e (by decide)
        obtain ⟨x, s1, e1, h⟩ := bind_inv h
        obtain ⟨_, s2, e2, h⟩ := bind_inv h
        obtain ⟨k, s3, e3, h⟩ := bind_inv h
        obtain ⟨_, s4, e4, h⟩ := bind_inv h
        cases h
        rw [e0]
        exact ((Sf.need e4 (by decide) (by decide)).trans ((ik _ _ _ e3).trans ((Sf.need e2 (by decide) (by decide)).trans (Sf.name e1)))).trans (.tok (by decide))
      · rename_i ne
        have e0 := hd_cons (hh.resolve_left ne) (by decide)
        obtain ⟨xs, s1, e1, h⟩ := bind_inv h
        obtain ⟨_, s2, e2, h⟩ := bind_inv h
        obtain ⟨a2, s3, e3, h⟩ := bind_inv h
        obtain ⟨_, s4, e4, h⟩ := bind_inv h
        cases h
        rw [e0]
        refine .shut opn_let opn_in ?_
        rw [← needF_inv e4 (by decide)]
        exact .inr ((it _ _ _ e3).trans ((Sf.need e2 (by decide) (by decide)).trans (lnF_ends e1)))
    · rw [smF] at h
      obtain ⟨b, s, e1, e2⟩ := bind_inv h
      refine (loop_ends (fun t us g t2 r2 z => ?_) _ _ _ _ _ e2).trans (ip _ _ _ e1)
      obtain ⟨u, s2, e3, e4⟩ := bind_inv z
      cases e4
      obtain ⟨t0, e0, o0⟩ := goS_hd g
      rw [e0]; exact (ip _ _ _ e3).trans (.tok o0)
    · rw [prF] at h
      obtain ⟨b, s, e1, e2⟩ := bind_inv h
      refine (loop_ends (fun t us g t2 r2 z => ?_) _ _ _ _ _ e2).trans (ia _ _ _ e1)
      obtain ⟨u, s2, e3, e4⟩ := bind_inv z
      cases e4
      obtain ⟨t0, e0, o0⟩ := goP_hd g
      rw [e0]; exact (ia _ _ _ e3).trans (.tok o0)
    · rw [apF] at h
      obtain ⟨b, s, e1, e2⟩ := bind_inv h
      refine (loop_ends (fun t us g t2 r2 z => ?_) _ _ _ _ _ e2).trans (ib _ _ _ e1)
      obtain ⟨u, s2, e3, e4⟩ := bind_inv z
      cases e4
      exact ib _ _ _ e3
    · rw [bxF] at h
      obtain ⟨b, s, e1, e2⟩ := bind_inv h
      cases e2
      exact (ii _ _ _ e1).sfe (bangs_sf us)
    · rw [ixF] at h
      split at h
      · rename_i e
        have : us ≠ [] := fun z => by rw [z] at e; exact absurd e (by decide)
        obtain ⟨t, r0, rfl⟩ := List.exists_cons_of_ne_nil this
        cases h
        exact .tok (opn_num e)
      · split at h
        · rename_i e
          have e0 := hd_cons e (by decide)
          obtain ⟨t, s, e1, h⟩ := bind_inv h
          have s1 := it _ _ _ e1
          split at h
          · rename_i c
            have c0 := hd_cons c (by decide)
            obtain ⟨u, s2, e2, h⟩ := bind_inv h
            obtain ⟨_, s3, e3, h⟩ := bind_inv h
            cases h
            rw [e0]
            refine .shut opn1 opn2 ?_
            rw [← needF_inv e3 (by decide)]
            have : Sf s.tail s := by rw [c0]; exact .tok opn3
            exact .inr ((it _ _ _ e2).trans (this.trans s1))
          · obtain ⟨_, s3, e3, h⟩ := bind_inv h
            cases h
            rw [e0]
            refine .shut opn1 opn2 ?_
            rw [← needF_inv e3 (by decide)]
            exact .inr s1
        · obtain ⟨x, s, e1, h⟩ := bind_inv h
          cases h; exact Sf.name e1
/-! ## reading comes to an end -/
theorem Sfe.bal {r us : List Tkn} (h : Sfe r us) {b : Int} (hb : b ≤ 60) (q : deepB b us = true) : deepB b r = true := by
  rcases h with rfl | h
  · exact q
  · exact h.bal b hb q
theorem kdL_total {tg : List Tkn → Rs Kd} {b : Int} (hb : b ≤ 60) (he : ∀ us, Eds (tg us) us) (ht : ∀ us, deepB b us = true → tg us ≠ .out) : ∀ (K : Nat) (init : List Kd) (a : Kd) (us : List Tkn), us.length < K → deepB b us = true → kdL tg K init a us ≠ .out
  | 0, _, _, _, h, _ => absurd h (Nat.not_lt_zero _)
  | K + 1, init, a, us, h, q => by
    rw [kdL]
    split
    · rename_i e
      have e0 := hd_cons e (by decide)
      have s0 : Sf us.tail us := by rw [e0]; exact .tok opn6
      have q0 := s0.bal b hb q
      exact bind_out (ht _ q0) fun a2 s e1 => kdL_total hb he ht K _ _ _ (by have := s0.lt; have := (he _ _ _ e1).lt; omega) ((he _ _ _ e1).bal b hb q0)
    · exact fun z => nomatch z
theorem kd_total : ∀ (n : Nat) (us : List Tkn) (b : Int), b ≤ 60 → deepB b us = true → (3 * (60 - b) + 3 ≤ n → kdF n us ≠ .out) ∧ (3 * (60 - b) + 2 ≤ n → tgF n us ≠ .out) ∧ (3 * (60 - b) + 1 ≤ n → inF n us ≠ .out)
  | 0, us, b, hb, _ => ⟨fun h => by omega, fun h => by omega, fun h => by omega⟩
  | n + 1, us, b, hb, q => by
    have ih := kd_total n
    obtain ⟨ek, et, ei⟩ := kd_ends n
    refine ⟨fun h => ?_, fun h => ?_, fun h => ?_⟩
    · rw [kdF]
      refine bind_out ((ih us b hb q).2.1 (by omega)) fun a r e => ?_
      exact kdL_total hb et (fun us q => (ih us b hb q).2.1 (by omega)) _ _ _ _ (Nat.lt_succ_self _) ((et _ _ _ e).bal b hb q)
    · rw [tgF]
      exact bind_out ((ih _ b hb ((bangs_sf us).bal hb q)).2.2 (by omega)) fun a r e z => nomatch z
    · rw [inF]
      split
      · exact fun z => nomatch z
      · split
        · rename_i e
          have e0 := hd_cons e (by decide)
          have q1 : deepB b (z_x28 :: us.tail) = true := by rw [← e0]; exact q
          obtain ⟨b1, q1⟩ := deep_to 1 opn1 q1
          have k1 := (ih us.tail (b + 1) b1 q1).1 (by omega)
          cases e1 : kdF n us.tail with
          | ok k s =>
            dsimp only
            have q2 := (ek _ _ _ e1).bal _ b1 q1
            split
            · rename_i c
              have c0 := hd_cons c (by decide)
              have s0 : Sf s.tail s := by rw [c0]; exact .tok opn3
              have k2 := (ih s.tail (b + 1) b1 (s0.bal _ b1 q2)).1 (by omega)
              cases e2 : kdF n s.tail with
              | ok k2 s2 => dsimp only; split <;> exact fun z => nomatch z
              | bad => exact fun z => nomatch z
              | out => exact absurd e2 k2
            · split <;> exact fun z => nomatch z
          | bad => exact fun z => nomatch z
          | out => exact absurd e1 k1
        · exact fun z => nomatch z
theorem hdL_total {hd : List Tkn → Rs Hd} {fin : List Tkn → Rs Tm} {b : Int} (hb : b ≤ 60) (he : ∀ us, us.headD [] = z_x5c ∨ us.headD [] = wLet → Eds (hd us) us) (h1 : ∀ us, us.headD [] = z_x5c ∨ us.headD [] = wLet → deepB b us = true → hd us ≠ .out) (h2 : ∀ us, deepB b us = true → fin us ≠ .out) :
    ∀ (K : Nat) (us : List Tkn), us.length < K → deepB b us = true → hdL hd fin K us ≠ .out
  | 0, _, h, _ => absurd h (Nat.not_lt_zero _)
  | K + 1, us, h, q => by
    rw [hdL]
    split
    · rename_i e
      exact bind_out (h1 _ e q) fun a s e1 => bind_out (hdL_total hb he h1 h2 K s (by have := (he _ e _ _ e1).lt; omega) ((he _ e _ _ e1).bal b hb q)) fun t r _ z => nomatch z
    · exact h2 _ q
theorem loop_total {go : List Tkn → Bool} {nx : Tm → List Tkn → Rs Tm} {b : Int} (hb : b ≤ 60) (he : ∀ t us, go us = true → Eds (nx t us) us) (h1 : ∀ t us, go us = true → deepB b us = true → nx t us ≠ .out) : ∀ (K : Nat) (t : Tm) (us : List Tkn), us.length < K → deepB b us = true → loopF go nx K t us ≠ .out
  | 0, _, _, h, _ => absurd h (Nat.not_lt_zero _)
  | K + 1, t, us, h, q => by
    rw [loopF]
    split
    · rename_i e
      exact bind_out (h1 _ _ e q) fun a s e1 => loop_total hb he h1 K a s (by have := (he _ _ e _ _ e1).lt; omega) ((he _ _ e _ _ e1).bal b hb q)
    · exact fun z => nomatch z
theorem lnF_no {us : List Tkn} : lnF us ≠ .out := by
  unfold lnF
  split
  · exact bind_out nameF_no fun _ _ _ => bind_out needF_no fun _ _ _ => bind_out nameF_no fun _ _ _ => bind_out needF_no fun _ _ _ => by split <;> exact fun z => nomatch z
  · exact bind_out nameF_no fun _ _ _ z => nomatch z
theorem nxS_ends {n : Nat} {t : Tm} {us : List Tkn} (g : goS us = true) : Eds (nxS (prF n) t us) us := fun t2 r2 z => by
  obtain ⟨u, s2, e3, e4⟩ := bind_inv z
  cases e4
  obtain ⟨t0, e0, o0⟩ := goS_hd g
  rw [e0]; exact ((tm_ends n).2.2.2.1 _ _ _ e3).trans (.tok o0)
theorem nxP_ends {n : Nat} {t : Tm} {us : List Tkn} (g : goP us = true) : Eds (nxP (apF n) t us) us := fun t2 r2 z => by
  obtain ⟨u, s2, e3, e4⟩ := bind_inv z
  cases e4
  obtain ⟨t0, e0, o0⟩ := goP_hd g
  rw [e0]; exact ((tm_ends n).2.2.2.2.1 _ _ _ e3).trans (.tok o0)
theorem nxA_ends {n : Nat} {t : Tm} {us : List Tkn} (_ : goA us = true) : Eds (nxA (bxF n) t us) us := fun t2 r2 z => by
  obtain ⟨u, s2, e3, e4⟩ := bind_inv z
  cases e4
  exact (tm_ends n).2.2.2.2.2.1 _ _ _ e3
theorem tm_total : ∀ (n : Nat) (us : List Tkn) (b : Int), b ≤ 60 → deepB b us = true → (6 * (60 - b) + 6 ≤ n → tmF n us ≠ .out) ∧ (us.headD [] = z_x5c ∨ us.headD [] = wLet → 6 * (60 - b) + 5 ≤ n → hdF n us ≠ .out) ∧ (6 * (60 - b) + 5 ≤ n → smF n us ≠ .out) ∧
    (6 * (60 - b) + 4 ≤ n → prF n us ≠ .out) ∧ (6 * (60 - b) + 3 ≤ n → apF n us ≠ .out) ∧ (6 * (60 - b) + 2 ≤ n → bxF n us ≠ .out) ∧ (6 * (60 - b) + 1 ≤ n → ixF n us ≠ .out)
  | 0, us, b, hb, _ => ⟨fun h => by omega, fun _ h => by omega, fun h => by omega, fun h => by omega, fun h => by omega, fun h => by omega, fun h => by omega⟩
  | n + 1, us, b, hb, q => by
    have ih := tm_total n
    obtain ⟨et, eh, es, ep, ea, eb, ei⟩ := tm_ends n
    have ek := (kd_ends n).1
    refine ⟨fun h => ?_, fun hh h => ?_, fun h => ?_, fun h => ?_, fun h => ?_, fun h => ?_, fun h => ?_⟩
    · rw [tmF]
      exact hdL_total hb eh (fun us e q => (ih us b hb q).2.1 e (by omega)) (fun us q => (ih us b hb q).2.2.1 (by omega)) _ _ (Nat.lt_succ_self _) q
    · rw [hdF]
      split
      · rename_i e
        have e0 := hd_cons e (by decide)
        have q0 : deepB b us.tail = true := (show Sf us.tail us by rw [e0]; exact .tok (by decide)).bal b hb q
        refine bind_out nameF_no fun x s1 e1 => bind_out needF_no fun _ s2 e2 => ?_
        have q2 := (Sf.need e2 (by decide) (by decide)).bal b hb ((Sf.name e1).bal b hb q0)
        exact bind_out ((kd_total n s2 b hb q2).1 (by omega)) fun k s3 e3 => bind_out needF_no fun _ s4 e4 z => nomatch z
      · rename_i ne
        have e0 := hd_cons (hh.resolve_left ne) (by decide)
        have q0 : deepB b (wLet :: us.tail) = true := by rw [← e0]; exact q
        obtain ⟨b1, q0⟩ := deep_to 1 opn_let q0
        refine bind_out lnF_no fun xs s1 e1 => bind_out needF_no fun _ s2 e2 => ?_
        have q2 := (Sf.need e2 (by decide) (by decide)).bal _ b1 ((lnF_ends e1).bal _ b1 q0)
        exact bind_out ((ih s2 (b + 1) b1 q2).1 (by omega)) fun a s3 e3 => bind_out needF_no fun _ s4 e4 z => nomatch z
    · rw [smF]
      refine bind_out ((ih us b hb q).2.2.2.1 (by omega)) fun a r e => ?_
      refine loop_total hb (fun t us g => nxS_ends g) (fun t us g q => ?_) _ _ _ (Nat.lt_succ_self _) ((ep _ _ _ e).bal b hb q)
      obtain ⟨t0, e0, o0⟩ := goS_hd g
      have s0 : Sf us.tail us := by
        have : Sf us.tail (t0 :: us.tail) := .tok o0
        rw [← e0] at this; exact this
      exact bind_out ((ih us.tail b hb (s0.bal b hb q)).2.2.2.1 (by omega)) fun u s2 e3 z => nomatch z
    · rw [prF]
      refine bind_out ((ih us b hb q).2.2.2.2.1 (by omega)) fun a r e => ?_
      refine loop_total hb (fun t us g => nxP_ends g) (fun t us g q => ?_) _ _ _ (Nat.lt_succ_self _) ((ea _ _ _ e).bal b hb q)
      obtain ⟨t0, e0, o0⟩ := goP_hd g
      have s0 : Sf us.tail us := by
        have : Sf us.tail (t0 :: us.tail) := .tok o0
        rw [← e0] at this; exact this
      exact bind_out ((ih us.tail b hb (s0.bal b hb q)).2.2.2.2.1 (by omega)) fun u s2 e3 z => nomatch z
    · rw [apF]
      refine bind_out ((ih us b hb q).2.2.2.2.2.1 (by omega)) fun a r e => ?_
      exact loop_total hb (fun t us g => nxA_ends g) (fun t us g q => bind_out ((ih us b hb q).2.2.2.2.2.1 (by omega)) fun u s2 e3 z => nomatch z) _ _ _ (Nat.lt_succ_self _) ((eb _ _ _ e).bal b hb q)
    · rw [bxF]
      exact bind_out ((ih _ b hb ((bangs_sf us).bal hb q)).2.2.2.2.2.2 (by omega)) fun a r e z => nomatch z
    · rw [ixF]
      split
      · exact fun z => nomatch z
      · split
        · rename_i e
          have e0 := hd_cons e (by decide)
          have q1 : deepB b (z_x28 :: us.tail) = true := by rw [← e0]; exact q
          obtain ⟨b1, q1⟩ := deep_to 1 opn1 q1
          refine bind_out ((ih us.tail (b + 1) b1 q1).1 (by omega)) fun t s e1 => ?_
          have q2 := (et _ _ _ e1).bal _ b1 q1
          split
          · rename_i c
            have c0 := hd_cons c (by decide)
            have s0 : Sf s.tail s := by rw [c0]; exact .tok opn3
            exact bind_out ((ih s.tail (b + 1) b1 (s0.bal _ b1 q2)).1 (by omega)) fun u s2 e2 => bind_out needF_no fun _ _ _ z => nomatch z
          · exact bind_out needF_no fun _ _ _ z => nomatch z
        · exact bind_out nameF_no fun _ _ _ z => nomatch z

/-! ## what is open within a written term -/
def Opn (m : Nat) (ts : List Tkn) : Prop := ∀ (b : Int) (r : List Tkn), b + (m : Nat) ≤ 60 → deepB b r = true → deepB b (ts ++ r) = true
theorem Opn.le {m n : Nat} {ts : List Tkn} (h : Opn m ts) (l : m ≤ n) : Opn n ts := fun b r hb q => h b r (by omega) q
theorem Opn.nil : Opn 0 [] := fun _ _ _ q => q
theorem Opn.app {m : Nat} {ts us : List Tkn} (h : Opn m ts) (g : Opn m us) : Opn m (ts ++ us) := fun b r hb q => by rw [List.append_assoc]; exact h b _ hb (g b r hb q)
theorem Opn.tok {t : Tkn} (h : opn t = 0) : Opn 0 [t] := fun b r hb q => by
  rw [List.singleton_append, deepB, h, Int.add_zero, decide_eq_true (show b ≤ 60 by omega), Bool.true_and]; exact q
theorem Opn.cons {t : Tkn} {ts : List Tkn} {m : Nat} (h : opn t = 0) (g : Opn m ts) : Opn m (t :: ts) := Opn.app ((Opn.tok h).le (Nat.zero_le _)) g
theorem Opn.shut {t u : Tkn} {ts : List Tkn} {m : Nat} (ht : opn t = 1) (hu : opn u = -1) (h : Opn m ts) : Opn (m + 1) (t :: (ts ++ [u])) := fun b r hb q => by
  rw [List.cons_append, deepB, ht, decide_eq_true (show b + 1 ≤ 60 by omega), Bool.true_and, List.append_assoc]
  refine h _ _ (by omega) ?_
  rw [List.singleton_append, deepB, hu, decide_eq_true (show b + 1 + -1 ≤ 60 by omega), Bool.true_and, show b + 1 + -1 = b by omega]; exact q
theorem Opn.wrap {ts : List Tkn} {m : Nat} (h : Opn m ts) (b : Bool) : Opn (m + 1) (wrapK b ts) := by
  unfold wrapK
  split
  · exact .shut opn1 opn2 h
  · exact h.le (Nat.le_succ _)
theorem Kd.opn : ∀ k : Kd, Opn k.dep k.tks
  | .int => (Opn.tok opn5).le (Nat.zero_le _)
  | .bang a => by rw [Kd.tks]; exact .cons opn4 ((Kd.opn a).wrap _)
  | .fn a b => by
    rw [Kd.tks, Kd.dep]
    exact .app (((Kd.opn a).wrap _).le (by omega)) (.cons opn6 ((Kd.opn b).le (by omega)))
  | .pr a b => by
    rw [Kd.tks, Kd.dep, show a.tks ++ z_x2c :: (b.tks ++ [z_x29]) = (a.tks ++ z_x2c :: b.tks) ++ [z_x29] by simp]
    exact .shut opn1 opn2 (.app ((Kd.opn a).le (by omega)) (.cons opn3 ((Kd.opn b).le (by omega))))
theorem opn_dec {n : Int} (h : 0 ≤ n ∧ n ≤ 1000000) : opn (decS n) = 0 := opn_num (numB_dec h).1
theorem Tm.opn : ∀ t : Tm, TmOk t → Opn (2 * t.dep + 3) t.tks
  | .var x, h => (Opn.tok (opn_nm (nmB_iff.mpr h))).le (Nat.zero_le _)
  | .num n, h => (Opn.tok (opn_dec h)).le (Nat.zero_le _)
  | .lam x k b, h => by
    have hk : k.dep ≤ 4 := h.2.1
    rw [Tm.tks, Tm.dep]
    exact .cons (by decide) (.cons (opn_nm (nmB_iff.mpr h.1)) (.cons (by decide) (.app (k.opn.le (by have := b.dep_pos; omega)) (.cons (by decide) ((Tm.opn b h.2.2).le (by omega))))))
  | .lt x a b, h => by
    rw [Tm.tks, Tm.dep, show wLet :: x :: z_x3d :: (a.tks ++ wIn :: b.tks) = (wLet :: ((x :: z_x3d :: a.tks) ++ [wIn])) ++ b.tks by simp]
    exact .app ((Opn.shut opn_let opn_in (.cons (opn_nm (nmB_iff.mpr h.1)) (.cons (by decide) (Tm.opn a h.2.1)))).le (by omega)) ((Tm.opn b h.2.2).le (by omega))
  | .sp x y a b, h => by
    rw [Tm.tks, Tm.dep, show wLet :: z_x28 :: x :: z_x2c :: y :: z_x29 :: z_x3d :: (a.tks ++ wIn :: b.tks) = (wLet :: (((z_x28 :: ([x, z_x2c, y] ++ [z_x29])) ++ z_x3d :: a.tks) ++ [wIn])) ++ b.tks by simp]
    refine .app ((Opn.shut opn_let opn_in (m := 2 * a.dep + 3) (.app ((Opn.shut opn1 opn2 (m := 0) (.cons (opn_nm (nmB_iff.mpr h.1)) (.cons opn3 (.tok (opn_nm (nmB_iff.mpr h.2.1)))))).le (by omega)) (.cons (by decide) (Tm.opn a h.2.2.1)))).le (by omega)) ((Tm.opn b h.2.2.2).le (by omega))
  | .pr a b, h => by
    rw [Tm.tks, Tm.dep, show a.tks ++ z_x2c :: (b.tks ++ [z_x29]) = (a.tks ++ z_x2c :: b.tks) ++ [z_x29] by simp]
    exact (Opn.shut opn1 opn2 (m := 2 * max a.dep b.dep + 3) (.app ((Tm.opn a h.1).le (by omega)) (.cons opn3 ((Tm.opn b h.2).le (by omega))))).le (by omega)
  | .app a b, h => by
    rw [Tm.tks, Tm.dep]
    exact .app (((Tm.opn a h.1).wrap _).le (by omega)) (((Tm.opn b h.2).wrap _).le (by omega))
  | .box a, h => by
    rw [Tm.tks, Tm.dep]
    exact .cons opn4 (((Tm.opn a h).wrap _).le (by omega))
  | .op s a b, h => by
    have hs := h.1
    simp only [List.mem_cons, List.not_mem_nil, or_false] at hs
    rw [Tm.tks, Tm.dep]
    exact .app (((Tm.opn a h.2.1).wrap _).le (by omega)) (.cons (by rcases hs with rfl | rfl | rfl <;> decide) (((Tm.opn b h.2.2).wrap _).le (by omega)))

/-! ## programs -/
structure Df where
  x : List Nat
  k : Kd
  t : Tm
def Df.w (d : Df) : W := .tup [.str d.x, d.k.w, d.t.w]
def Df.ok (d : Df) : Prop := d.x.length ≤ 8 ∧ d.k.dep ≤ 6 ∧ TmOk d.t ∧ d.t.size ≤ 400 ∧ d.t.dep ≤ 45
def Df.line (d : Df) : List Nat := z_defx20 ++ d.x ++ z_x20x3ax20 ++ d.k.txt ++ z_x20x3dx20 ++ d.t.txt ++ z_x3bx0a
theorem Df.line_len {d : Df} (h : d.ok) : d.line.length ≤ 900000 := by
  obtain ⟨h1, h2, h3, h4, h5⟩ := h
  have := d.t.txt_len h3; have := d.k.txt_len; have := Kd.nodes_le h2
  have e1 : z_defx20.length = 4 := rfl
  have e2 : z_x20x3ax20.length = 3 := rfl
  have e3 : z_x20x3dx20.length = 3 := rfl
  have e4 : z_x3bx0a.length = 2 := rfl
  simp only [Df.line, List.length_append]; omega
def spDefLine : SpW := fun ws h R _ => ∃ d : Df, ws = [.str d.x, d.k.w, d.t.w] ∧ d.ok ∧ R (.str d.line) h
def spWriteProgram : SpW := fun ws h R _ => ∃ ds : List Df, ws = [.lst (ds.map Df.w)] ∧ (∀ d ∈ ds, d.ok) ∧ ds.length ≤ 6 ∧ R (.str (ds.map Df.line).flatten) h
theorem lines_len : ∀ ds : List Df, (∀ d ∈ ds, d.ok) → ((ds.map Df.line).map List.length).sum ≤ 900000 * ds.length
  | [], _ => by simp
  | d :: ds, h => by
    have := lines_len ds fun x hx => h x (List.mem_cons_of_mem _ hx)
    have := Df.line_len (h d List.mem_cons_self)
    simp only [List.map_cons, List.sum_cons, List.length_cons]; omega
section
variable {P : Program} {w : World} {K : PySem.W.Frag} {mg : Str → Option Value} {base : Heap}
theorem ok__definition_line (T : Tx P w K mg) : FnOk P w K mg base CX0 8 T.a__definition_line T.fd__definition_line ["name", "kind", "term"] (lSp K spDefLine) := by
  refine fnW T.F__definition_line sc__definition_line (fun ws h R ex ⟨_, e, _⟩ => by rw [e]; rfl) fun cdv A outer s H E hr => ⟨_, (wss_one (ws_ret (w_joined (.cons (w_str z_defx20) (.cons (w_fmt (w_var 0)) (.cons (w_str z_x20x3ax20) (.cons (w_fmt (w_call (ok_kind_text T) (hr.mono (by walk_at "rm")) (by rfl) T.g_kind_text T.F_kind_text.kp T.b_kind_text (wa_cons (w_var 1) wa_nil))) (.cons (w_str z_x20x3dx20) (.cons (w_fmt (w_call (ok_write_term T) (hr.mono (by walk_at "rm")) (by rfl) T.g_write_term T.F_write_term.kp T.b_write_term (wa_cons (w_var 2) wa_nil))) (.cons (w_str z_x3bx0a) .nil)))))))))), fun ws h R ex ⟨d, e, ok, q⟩ => ?_⟩
  subst e
  have ll := Df.line_len ok
  obtain ⟨h1, h2, h3, h4, h5⟩ := ok
  have := d.t.txt_len h3; have := d.k.txt_len; have := Kd.nodes_le h2
  walk_at "st"
  refine ⟨d.k, rfl, by omega, ?_⟩
  walk_at "st"
  refine ⟨d.t, rfl, h3, h4, ?_⟩
  walk_at "st"
  exact .of q
theorem ok_write_program (T : Tx P w K mg) : FnOk P w K mg base CX0 9 T.a_write_program T.fd_write_program ["program"] (lSp K spWriteProgram) := by
  refine fnW T.F_write_program sc_write_program (fun ws h R ex ⟨_, e, _⟩ => by rw [e]; rfl) fun cdv A outer s H E hr => ⟨_, (wss_one (ws_ret (w_bm PySem.F.plainAttrs_str PySem.F.slot_str_join PySem.F.type_str_join mt_join tyS_ok lf_join (w_str z_) (wa_cons (w_lcT (own := [("name", 1), ("kind", 2), ("term", 3)]) rfl sc_write_program.nd (tgT (n := 3) (tgCons (tgN (by decide)) (tgCons (tgN (by decide)) (tgCons (tgN (by decide)) tgNil)))) (wi_list (w_var 0)) (blkOk_by (N := N_write_program) (sc := defScope s_write_program) (by decide +kernel)) (fun _ _ _ _ _ => (pg_tup (n := 3) rfl (pgs_cons (pg_name (i := 1) sc_write_program.nd rfl (Or.inl rfl)) (pgs_cons (pg_name (i := 2) sc_write_program.nd rfl (Or.inl rfl)) (pgs_cons (pg_name (i := 3) sc_write_program.nd rfl (Or.inl rfl)) pgs_nil))))) (fun _ _ _ _ _ => wts_nil) (fun _ _ _ _ _ => (w_call (ok__definition_line T) (hr.mono (by walk_at "rm")) (by rfl) T.g__definition_line T.F__definition_line.kp T.b__definition_line (wa_cons (w_var 1) (wa_cons (w_var 2) (wa_cons (w_var 3) wa_nil)))))) wa_nil)))), fun ws h R ex ⟨ds, e, ok, l, q⟩ => ?_⟩
  subst e
  walk_at "st"
  refine go_lcTI (ds.map Df.w) (ds.map fun d => .str d.line) (fun P q => by walk_at "st"; exact q) (by simp) (by simp; omega) ?_ ?_
  · intro i v y h' R' e1 e2 hq
    rw [List.getElem?_map] at e1 e2
    obtain ⟨d, e3, e4⟩ := Option.map_eq_some_iff.mp e1
    rw [e3] at e2
    cases e2; subst e4
    refine ⟨_, rfl, ?_⟩
    walk_at "st"
    exact ⟨d, rfl, ok d (List.mem_of_getElem? e3), hq⟩
  · walk_at "st"
    have := lines_len ds ok
    refine go_join (ss := ds.map Df.line) (by rw [← strsOf_map, List.map_map]; rfl) (by simp at this ⊢; omega) ?_
    rw [joinS_nil]
    exact .of q
end

/-! ## reading programs -/
structure Dn where
  x : Tkn
  k : Kd
  t : Tm
def Dn.w (d : Dn) : W := .tup [.str d.x, d.k.w, d.t.w]
def dfF (n : Nat) (us : List Tkn) : Rs Dn := (needF wDef us).bind fun _ r => (nameF r).bind fun x r => (needF z_x3a r).bind fun _ r => (kdF n r).bind fun k r => (needF z_x3d r).bind fun _ r => (tmF n r).bind fun t r => (needF z_x3b r).bind fun _ r => .ok ⟨x, k, t⟩ r
def pgF (n : Nat) : Nat → List Tkn → Rs (List Dn)
  | 0, _ => .out
  | K + 1, us => if us.headD [] = [] then .ok [] us else (dfF n us).bind fun d r => (pgF n K r).bind fun ds r2 => .ok (d :: ds) r2
/-- the first name that an earlier one is -/
def dupF : List Tkn → List Tkn → Option Tkn
  | _, [] => none
  | e, x :: r => if x ∈ e then some x else dupF (e ++ [x]) r
def dupK (aD : Addr) (o : Option Tkn) (p : Prop) (h : HW) (ex : XW → HW → Prop) : Prop := match o with
  | none => p
  | some s => ∀ h', Sub h h' → ex (nameX aD s) h'
def prRes (aI aD : Addr) (h : HW) (R : KW) (ex : XW → HW → Prop) : Rs (List Dn) → Prop
  | .ok ds _ => ds.length ≤ 4000 ∧ (∀ d ∈ ds, d.x.length ≤ 9) ∧ dupK aD (dupF [] (ds.map Dn.x)) (R (.lst (ds.map Dn.w)) h) h ex
  | .bad => ∀ h', Sub h h' → ex ⟨aI, none⟩ h'
  | .out => False
def rpRes (aI aL aD : Addr) (s : List Nat) (n K : Nat) (h : HW) (R : KW) (ex : XW → HW → Prop) : Prop :=
  if deepB 0 (lex s).1 = true then (if (lex s).2 = true then prRes aI aD h R ex (pgF n K (lex s).1) else ∀ h', Sub h h' → ex ⟨aI, none⟩ h') else ∀ h', Sub h h' → ex ⟨aL, none⟩ h'
def spDf (aC aI : Addr) (n : Nat) : SpW := fun ws h R ex => ∃ (c : Addr) (ts : List Tkn) (i m : Nat), ws = [.ref c] ∧ h c = some (cur aC ts i) ∧ TsOk ts ∧ i ≤ ts.length ∧ (m ≤ n ∧ m ≤ 1000000) ∧ rRes Dn.w aC aI c ts h R ex (dfF m (ts.drop i))
def spReadProgram (aI aL aD : Addr) (n : Nat) : SpW := fun ws h R ex => ∃ (s : List Nat) (m K : Nat), ws = [.str s] ∧ s.length ≤ 1000000 ∧ (m ≤ n ∧ m ≤ 1000000) ∧ K ≤ 4001 ∧ rpRes aI aL aD s m K h R ex
def spDup (aD : Addr) : SpW := fun ws h R ex => ∃ ds : List Dn, ws = [.lst (ds.map Dn.w)] ∧ ds.length ≤ 4000 ∧ (∀ d ∈ ds, d.x.length ≤ 9) ∧ dupK aD (dupF [] (ds.map Dn.x)) (R .non h) h ex
theorem tkDef : IsTk wDef := by decide
theorem tk3b : IsTk z_x3b := by decide
section
variable {P : Program} {w : World} {K : PySem.W.Frag} {mg : Str → Option Value} {base : Heap}
theorem ok__definition_at (T : Tx P w K mg) (n : Nat) : FnOk P w K mg base (L2.CX P w) (n / 3 + 40) T.a__definition_at T.fd__definition_at ["cursor"] (lSp K (spDf T.aC_Cursor T.aC_InvalidText n)) := by
  refine fnWX T.F__definition_at sc__definition_at (fun ws h R ex ⟨_, _, _, _, e, _⟩ => by rw [e]; rfl) fun cdv A outer s H E ex hr => ⟨_, (wss_cons (ws_expr (w_methG T.cls_Cursor T.m_Cursor_need (ok_Cursor_need T) (hr.mono (by walk_at "rm")) T.b_Cursor_need (passes_call (takes_of rfl rfl rfl rfl) fun _ _ _ _ z => z) (fun _ _ z => z) (w_var 0) (wa_cons (w_str wDef) wa_nil)))
    (wss_cons (ws_set (i := 1) sc__definition_at.nd (w_meth0G T.cls_Cursor T.m_Cursor_needed_name (ok_Cursor_needed_name T) (hr.mono (by walk_at "rm")) T.b_Cursor_needed_name (passes_call (takes_of rfl rfl rfl rfl) fun _ _ _ _ z => z) (fun _ _ z => z) (w_var 0)))
    (wss_cons (ws_expr (w_methG T.cls_Cursor T.m_Cursor_need (ok_Cursor_need T) (hr.mono (by walk_at "rm")) T.b_Cursor_need (passes_call (takes_of rfl rfl rfl rfl) fun _ _ _ _ z => z) (fun _ _ z => z) (w_var 0) (wa_cons (w_str z_x3a) wa_nil)))
    (wss_cons (ws_set (i := 2) sc__definition_at.nd (w_callD (ok_kinds T n).1 ((roomD_of hr).less (by walk_at "rm")) (by rfl) T.g__kind_at T.F__kind_at.kp T.b__kind_at (takes_of rfl rfl rfl rfl) (wa_cons (w_var 0) wa_nil)))
    (wss_cons (ws_expr (w_methG T.cls_Cursor T.m_Cursor_need (ok_Cursor_need T) (hr.mono (by walk_at "rm")) T.b_Cursor_need (passes_call (takes_of rfl rfl rfl rfl) fun _ _ _ _ z => z) (fun _ _ z => z) (w_var 0) (wa_cons (w_str z_x3d) wa_nil)))
    (wss_cons (ws_set (i := 3) sc__definition_at.nd (w_callD (ok_terms T n).1 ((roomD_of hr).less (by walk_at "rm")) (by rfl) T.g__term_at T.F__term_at.kp T.b__term_at (takes_of rfl rfl rfl rfl) (wa_cons (w_var 0) wa_nil)))
    (wss_cons (ws_expr (w_methG T.cls_Cursor T.m_Cursor_need (ok_Cursor_need T) (hr.mono (by walk_at "rm")) T.b_Cursor_need (passes_call (takes_of rfl rfl rfl rfl) fun _ _ _ _ z => z) (fun _ _ z => z) (w_var 0) (wa_cons (w_str z_x3b) wa_nil)))
    (wss_one (ws_ret (w_tup (wa_cons (w_var 1) (wa_cons (w_var 2) (wa_cons (w_var 3) wa_nil))))))))))))), fun ws h R ⟨c, ts, i, m, e, hc, ok, hi, hm, q⟩ => ?_⟩
  subst e
  have lt := ok.2
  unfold dfF at q
  walk_at "st"
  rw [← updW_self hc]
  refine ⟨c, ts, i, _, rfl, updW_same, ok, by omega, tkDef, need_call (t := wDef) (by decide) q hs0 fun hi2 q => ?_⟩
  rw [updW_upd]
  walk_at "st"
  refine ⟨c, ts, _, rfl, updW_same, ok, by omega, name_call q hs0 fun x hi2 hx q => ?_⟩
  rw [updW_upd]
  walk_at "st"
  refine ⟨c, ts, _, _, rfl, updW_same, ok, by omega, tk7, need_call (t := z_x3a) (by decide) q hs0 fun hi2 q => ?_⟩
  rw [updW_upd]
  walk_at "st"
  refine ⟨c, ts, _, m, rfl, updW_same, ok, hi2, by omega, kRes_call q hs0 fun k j hj q => ?_⟩
  rw [updW_upd]
  walk_at "st"
  refine ⟨c, ts, j, _, rfl, updW_same, ok, by omega, tk9, need_call (t := z_x3d) (by decide) q hs0 fun hi2 q => ?_⟩
  rw [updW_upd]
  walk_at "st"
  refine ⟨c, ts, _, m, rfl, updW_same, ok, hi2, by omega, rRes_call q hs0 fun t j2 hj2 q => ?_⟩
  rw [updW_upd]
  walk_at "st"
  refine ⟨c, ts, j2, _, rfl, updW_same, ok, by omega, tk3b, need_call (t := z_x3b) (by decide) q hs0 fun hi2 q => ?_⟩
  rw [updW_upd]
  walk_at "st"
  exact .of (q _ hi2 rfl)
theorem ok__refuse_duplicates (T : Tx P w K mg) : FnOk P w K mg base (L2.CX P w) 8 T.a__refuse_duplicates T.fd__refuse_duplicates ["program"] (lSp K (spDup T.aC_DuplicateName)) := by
  refine fnWX T.F__refuse_duplicates sc__refuse_duplicates (fun ws h R ex ⟨_, e, _⟩ => by rw [e]; rfl) fun cdv A outer s H E ex hr => ⟨_, (wss_cons (ws_set (i := 1) sc__refuse_duplicates.nd (w_set0 (P := P) (w := w) rfl rfl (by rfl) T.m_set (by decide +kernel)))
    (wss_one (ws_for (passes_of rfl) rfl (wi_list (w_var 0)) (wg_tup rfl (wgs_cons (wg_name (i := 2) sc__refuse_duplicates.nd) (wgs_cons (wg_name (i := 3) sc__refuse_duplicates.nd) (wgs_cons (wg_name (i := 3) sc__refuse_duplicates.nd) wgs_nil)))) (wss_cons (ws_if (wt_cmp or_sinK (lf_inS2 (P := P) (w := w)) (w_var 2) (w_var 1) (by rfl)) (wss_one (ws_raiseN rfl (takes_of rfl rfl rfl rfl) T.sp_DuplicateName T.m_super (hr.mono (by walk_at "rm")) (by rfl) T.gC_DuplicateName (w_var 2))) wss_nil)
    (wss_one (ws_expr (w_sadd (P := P) (w := w) rfl rfl (w_var 1) (wa_cons (w_var 2) wa_nil)))))))), fun ws h R ⟨ds, e, l, lx, q⟩ => ?_⟩
  subst e
  walk_at "st"
  intro p hp
  walk_at "st"
  dsimp only [EndsW.wn]
  refine go_forL (ds.map Dn.w) (fun R q => by walk_at "st"; exact q)
    (fun i ρ' h' => dupF ((ds.take i).map Dn.x) ((ds.drop i).map Dn.x) = dupF [] (ds.map Dn.x) ∧ ρ' = [some (.lst (ds.map Dn.w)), some (.ref p), none, none] ∧ h' = updW h p (setO P w p ((ds.take i).map Dn.x)))
    (.of ⟨rfl, rfl, rfl⟩) ?_ ?_
  · rintro i v ρ' h' hv ⟨ed, rfl, rfl⟩
    have hi : i < ds.length := by have := (List.getElem?_eq_some_iff.mp hv).1; simpa using this
    have ev : v = ds[i].w := by rw [List.getElem?_map, List.getElem?_eq_getElem hi] at hv; exact (Option.some.inj hv).symm
    subst ev
    rw [List.drop_eq_getElem_cons hi, List.map_cons, dupF] at ed
    have lt : ((ds.take i).map Dn.x).length ≤ 4000 := by simp; omega
    have l9 := lx ds[i] (List.getElem_mem hi)
    show _
    unfold Dn.w
    walk_at "st"
    refine go_dec (fun c => ?_) (fun c => ?_)
    · rw [if_pos c] at ed
      rw [← ed] at q
      walk_at "st"
      exact q _ (.new hp)
    · rw [if_neg c] at ed
      have et : (ds.take (i + 1)).map Dn.x = (ds.take i).map Dn.x ++ [ds[i].x] := by rw [List.take_add_one, List.getElem?_eq_getElem hi, List.map_append]; rfl
      have ea : addS ((ds.take i).map Dn.x) ds[i].x = (ds.take i).map Dn.x ++ [ds[i].x] := if_neg c
      walk_at "st"
      refine ⟨⟨_, updW_same⟩, ?_⟩
      walk_at "st"
      refine ⟨_, updW_same, lt, ?_⟩
      walk_at "st"
      rw [updW_upd, ea, ← et]
      exact ⟨_, _, ⟨by rw [et]; exact ed, rfl, rfl⟩, .same (.same (.no (.no .nil))), .refl _⟩
  · rintro ρ' h' ⟨ed, rfl, rfl⟩
    rw [List.length_map, List.drop_length, List.map_nil, dupF] at ed
    rw [← ed] at q
    walk_at "st"
    exact .base q (.new hp)
theorem ok_read_program (T : Tx P w K mg) (n : Nat) : FnOk P w K mg base (L2.CX P w) (n / 3 + 42) T.a_read_program T.fd_read_program ["text"] (lSp K (spReadProgram T.aC_InvalidText T.aC_TooLarge T.aC_DuplicateName n)) := by
  refine fnWX T.F_read_program sc_read_program (fun ws h R ex ⟨_, _, _, e, _⟩ => by rw [e]; rfl) fun cdv A outer s H E ex hr => ⟨_, (wss_cons (ws_set (i := 1) sc_read_program.nd (w_makeG T.mk_Cursor (ok_Cursor___init__ T) (hr.mono (by walk_at "rm")) (by rfl) T.gC_Cursor T.b_Cursor___init__ (passes_call (takes_of rfl rfl rfl rfl) fun _ _ _ _ z => z) (fun _ _ z => z) (wa_cons (w_var 0) wa_nil)))
    (wss_cons (ws_set (i := 2) sc_read_program.nd (w_lstO wa_nil))
    (wss_cons (ws_while (passes_of rfl) (wt_cmp (ow_ne hr.units) lf_ne (w_meth0G T.cls_Cursor T.m_Cursor_ahead (ok_Cursor_ahead T) (hr.mono (by walk_at "rm")) T.b_Cursor_ahead pass0 (fun _ _ _ => el_no) (w_var 1)) (w_str z_) (nomark _)) (wss_one (ws_expr (w_bm PySem.F.plainAttrs_list PySem.F.slot_list_append PySem.F.type_list_append mt_append tyL_ok lf_append (w_var 2) (wa_cons (w_callX (ok__definition_at T n) (hr.mono (by walk_at "rm")) (by rfl) T.g__definition_at T.F__definition_at.kp T.b__definition_at (takes_of rfl rfl rfl rfl) (wa_cons (w_var 1) wa_nil)) wa_nil)))))
    (wss_cons (ws_frz (i := 2) (ws_expr (w_callX (ok__refuse_duplicates T) (hr.mono (by walk_at "rm")) (by rfl) T.g__refuse_duplicates T.F__refuse_duplicates.kp T.b__refuse_duplicates (takes_of rfl rfl rfl rfl) (wa_cons (w_var 2) wa_nil))))
    (wss_one (ws_ret (w_var 2))))))), fun ws h R ⟨x, m, fu, e, l, hm, hfu, q⟩ => ?_⟩
  subst e
  unfold rpRes at q
  have tok := tsOk_lex l
  walk_at "st"
  intro c hc
  have s0 : ∀ o, Sub h (updW h c o) := fun o => .new hc
  refine ⟨c, x, rfl, l, updW_same, ?_⟩
  cases e1 : deepB 0 (lex x).1 with
  | false => rw [e1, if_neg Bool.false_ne_true] at q; rw [if_neg Bool.false_ne_true]; exact fun h' sb => q h' ((s0 _).trans sb)
  | true =>
  rw [e1, if_pos rfl] at q
  rw [if_pos rfl]
  cases e2 : (lex x).2 with
  | false => rw [e2, if_neg Bool.false_ne_true] at q; rw [if_neg Bool.false_ne_true]; exact q _ (s0 _)
  | true =>
  rw [e2, if_pos rfl] at q
  rw [if_pos rfl]
  refine ⟨rfl, ?_⟩
  rw [updW_upd]
  generalize (lex x).1 = ts at *
  have lt := tok.2
  walk_at "st"
  intro p hp
  have np : p ≠ c := fun z => by rw [z, updW_same] at hp; cases hp
  have hp0 : h p = none := by rw [updW_ne np] at hp; exact hp
  walk_at "st"
  have sP : ∀ j o, Sub h (updW (updW h c (cur T.aC_Cursor ts j)) p o) := fun j o => (s0 _).trans (.new (by rw [updW_ne np]; exact hp0))
  refine go_while (fun m' ρ' h' => ∃ (ds : List Dn) (j : Nat), j ≤ ts.length ∧ ds.length + m' ≤ fu ∧ prRes T.aC_InvalidText T.aC_DuplicateName h R ex ((pgF m m' (ts.drop j)).bind fun ds2 r => .ok (ds ++ ds2) r) ∧
      ρ' = [some (.str x), some (.ref c), some (.ref p)] ∧ h' = updW (updW h c (cur T.aC_Cursor ts j)) p (.lst (ds.map Dn.w)))
    ⟨fu, .of ⟨[], 0, Nat.zero_le _, by simp, by rw [List.drop_zero]; exact (Rs.bind_ok (pgF m fu ts)).symm ▸ q, rfl, rfl⟩⟩ ?_
  rintro m' ρ' h' ⟨ds, j, hj, hl, q, rfl, rfl⟩
  have ec : updW (updW h c (cur T.aC_Cursor ts j)) p (.lst (ds.map Dn.w)) c = some (cur T.aC_Cursor ts j) := by rw [updW_ne np.symm]; exact updW_same
  cases m' with
  | zero => rw [pgF] at q; exact q.elim
  | succ m' =>
  rw [pgF] at q
  walk_at "st"
  refine ⟨c, ts, j, rfl, ec, ?_⟩
  walk_at "st"
  rw [getD_drop]
  refine go_ndec (fun c1 => ?_) (fun c1 => ?_)
  · rw [if_neg c1, Rs.bind_assoc] at q
    walk_at "st"
    refine ⟨c, ts, j, m, rfl, ec, tok, hj, by omega, ?_⟩
    cases ed : dfF m (ts.drop j) with
    | out => rw [ed] at q; exact q.elim
    | bad => rw [ed] at q; exact fun j' h' sb => q h' (Sub.trans (by rw [updW_mid np.symm]; exact sP _ _) sb)
    | ok d r =>
    rw [ed] at q
    intro j2 hj2 ej2
    subst ej2
    rw [updW_mid np.symm]
    walk_at "st"
    rw [updW_upd]
    refine .of ⟨m', by omega, ds ++ [d], j2, hj2, by simp; omega, ?_, rfl, by simp⟩
    have q : prRes T.aC_InvalidText T.aC_DuplicateName h R ex (((pgF m m' (ts.drop j2)).bind fun ds r2 => .ok (d :: ds) r2).bind fun ds2 r => .ok (ds ++ ds2) r) := q
    rw [Rs.bind_assoc] at q
    have e9 : (fun (ds2 : List Dn) (r : List Tkn) => Rs.ok (ds ++ [d] ++ ds2) r) = fun (a : List Dn) (r : List Tkn) => (Rs.ok (d :: a) r).bind fun ds2 r => Rs.ok (ds ++ ds2) r := by funext a r; simp [Rs.bind]
    rw [e9]; exact q
  · rw [if_pos c1] at q
    have q : (ds ++ []).length ≤ 4000 ∧ (∀ d ∈ ds ++ [], d.x.length ≤ 9) ∧ dupK T.aC_DuplicateName (dupF [] ((ds ++ []).map Dn.x)) (R (.lst ((ds ++ []).map Dn.w)) h) h ex := q
    rw [List.append_nil] at q
    obtain ⟨ll, lx, q⟩ := q
    have e8 : delW (updW (updW h c (cur T.aC_Cursor ts j)) p (.lst (ds.map Dn.w))) p = updW h c (cur T.aC_Cursor ts j) := del_upd (by rw [updW_ne np]; exact hp0)
    walk_at "st"
    refine ⟨ds, rfl, ll, lx, ?_⟩
    cases ed : dupF [] (ds.map Dn.x) with
    | none =>
      rw [ed] at q
      show dupK _ none _ _ _
      unfold dupK at q ⊢
      dsimp only at q ⊢
      walk_at "st"
      refine .base q ?_
      rw [e8]; exact s0 _
    | some sx =>
      rw [ed] at q
      exact fun h' sb => q h' (Sub.trans (by rw [e8]; exact s0 _) sb)
end

/-! ## program texts: their tokens, and what becomes of them with a mark taken out -/
structure DOk (d : Df) : Prop where
  nm : nmB d.x = true
  kd : d.k.dep ≤ 4
  tm : TmOk d.t
  ds : d.t.Dis
  dp : d.t.dep ≤ 9
  sz : d.t.size ≤ 25
theorem DOk.ok {d : Df} (h : DOk d) : d.ok := ⟨(nmB_iff.mp h.nm).nm.len, Nat.le_trans h.kd (by decide), h.tm, Nat.le_trans h.sz (by decide), Nat.le_trans h.dp (by decide)⟩
def Df.tks (d : Df) : List Tkn := wDef :: d.x :: z_x3a :: (d.k.tks ++ z_x3d :: (d.t.tks ++ [z_x3b]))
def Df.dn (d : Df) : Dn := ⟨d.x, d.k, d.t⟩
theorem h59 {r : List Nat} : anB ((59 :: r).headD 32) = false := by show anB 59 = false; decide
theorem h10 {r : List Nat} : anB ((10 :: r).headD 32) = false := by show anB 10 = false; decide
theorem tk_wDef : IsTk wDef := by decide
theorem lex_nl {r : List Nat} : lex (10 :: r) = lex r := lex_blank (Or.inr rfl)
theorem Df.lx {d : Df} (h : DOk d) (r : List Nat) : lex (d.line ++ r) = (d.tks ++ (lex r).1, (lex r).2) := by
  have hx := h.nm
  rw [show d.line ++ r = wDef ++ (32 :: (d.x ++ (32 :: 58 :: 32 :: (d.k.txt ++ (32 :: 61 :: 32 :: (d.t.txt ++ (59 :: 10 :: r))))))) by simp [Df.line, z_defx20, z_x20x3ax20, z_x20x3dx20, z_x3bx0a],
    lex_word tk_wDef (by decide) h32, lex_sp, lex_word (tk_nm hx) (nm_45 hx) h32, lex_sp, lex_sign (by decide) (by decide), lex_sp, lex_kd d.k _ h32, lex_sp, lex_sign (by decide) (by decide), lex_sp, d.t.lx h.tm _ h59, lex_sign (by decide) (by decide), lex_nl]
  simp [Df.tks, z_x3a, z_x3d, z_x3b]
theorem lines_lx : ∀ ds : List Df, (∀ d ∈ ds, DOk d) → lex (ds.map Df.line).flatten = ((ds.map Df.tks).flatten, true)
  | [], _ => lex_nil
  | d :: ds, h => by
    rw [List.map_cons, List.flatten_cons, Df.lx (h d List.mem_cons_self), lines_lx ds fun x hx => h x (List.mem_cons_of_mem _ hx)]; rfl
theorem Df.opn {d : Df} (h : DOk d) : Opn 21 d.tks := by
  have k1 := d.k.opn
  have t1 := d.t.opn h.tm
  have := h.kd; have := h.dp
  exact .cons (by decide) (.cons (opn_nm h.nm) (.cons (by decide) (.app (k1.le (by omega)) (.cons (by decide) (.app (t1.le (by omega)) ((Opn.tok (by decide)).le (Nat.zero_le _)))))))
theorem lines_opn : ∀ ds : List Df, (∀ d ∈ ds, DOk d) → Opn 21 (ds.map Df.tks).flatten
  | [], _ => Opn.nil.le (Nat.zero_le _)
  | d :: ds, h => (Df.opn (h d List.mem_cons_self)).app (lines_opn ds fun x hx => h x (List.mem_cons_of_mem _ hx))
theorem Opn.deep {m : Nat} {ts : List Tkn} (h : Opn m ts) (hm : m ≤ 60) : deepB 0 ts = true := by
  have := h 0 [] (by omega) rfl
  rw [List.append_nil] at this; exact this
theorem tm_ok {t : Tm} (h : TmOk t) (s : t.Dis) (dp : t.dep ≤ 9) (rest : List Tkn) (hr : Stp 1 (rest.headD [])) : tmF 390 (t.tks ++ rest) = .ok t rest := by
  obtain ⟨d, g⟩ := Tm.gr t h s
  obtain ⟨d0, g0⟩ := g.to (Nat.zero_le _) t.line_le
  have dl := (g0.deep 0 [] (by decide) (by rw [List.append_nil]; exact (t.opn h).deep (by omega))).1
  exact tmF_of (l := 0) g0.sound (n := 389) (by omega) hr
def HdOk (ts : List Tkn) : Prop := ∃ c r, ts = c :: r ∧ (bgB c = true ∨ c = z_x5c ∨ c = wLet)
theorem HdOk.wrap {ts : List Tkn} (h : HdOk ts) (b : Bool) : HdOk (wrapK b ts) := by
  unfold wrapK
  split
  · exact ⟨_, _, rfl, .inl (by decide)⟩
  · exact h
theorem HdOk.app {ts us : List Tkn} (h : HdOk ts) : HdOk (ts ++ us) := by
  obtain ⟨c, r, e, q⟩ := h
  exact ⟨c, r ++ us, by rw [e]; rfl, q⟩
theorem hd_tks : ∀ t : Tm, TmOk t → HdOk t.tks
  | .var x, h => ⟨_, _, rfl, .inl (nm_bg (nmB_iff.mpr h))⟩
  | .num n, h => ⟨_, _, rfl, .inl (numB_bg (numB_dec h).1)⟩
  | .lam x k b, _ => ⟨_, _, rfl, .inr (.inl rfl)⟩
  | .lt x a b, _ => ⟨_, _, rfl, .inr (.inr rfl)⟩
  | .sp x y a b, _ => ⟨_, _, rfl, .inr (.inr rfl)⟩
  | .pr a b, _ => ⟨_, _, rfl, .inl (by decide)⟩
  | .box a, _ => ⟨_, _, rfl, .inl (by decide)⟩
  | .app a b, h => ((hd_tks a h.1).wrap _).app
  | .op s a b, h => ((hd_tks a h.2.1).wrap _).app
theorem HdOk.ne {ts : List Tkn} (h : HdOk ts) {z : Tkn} (h1 : bgB z = false) (h2 : z ≠ z_x5c) (h3 : z ≠ wLet) : ts.headD [] ≠ z := by
  obtain ⟨c, r, e, q⟩ := h
  rw [e]
  show c ≠ z
  rintro rfl
  rcases q with q | q | q
  · rw [h1] at q; cases q
  · exact h2 q
  · exact h3 q
theorem dfF_ok {d : Df} (h : DOk d) (rest : List Tkn) : dfF 390 (d.tks ++ rest) = .ok d.dn rest := by
  unfold dfF
  have := h.kd
  simp only [Df.tks, List.cons_append, List.append_assoc, List.nil_append]
  rw [needF_ok, Rs.ok_bind, nameF_ok h.nm, Rs.ok_bind, needF_ok, Rs.ok_bind, (kd_read d.k).1 390 _ (by omega) (by show z_x3d ≠ z_x2dx3e; decide), Rs.ok_bind, needF_ok, Rs.ok_bind, tm_ok h.tm h.ds h.dp _ stp_3b, Rs.ok_bind, needF_ok, Rs.ok_bind]; rfl
theorem pgF_ok : ∀ (ds : List Df) (K : Nat), (∀ d ∈ ds, DOk d) → ds.length < K → pgF 390 K (ds.map Df.tks).flatten = .ok (ds.map Df.dn) []
  | [], 0, _, h => absurd h (Nat.not_lt_zero _)
  | [], K + 1, _, _ => by rw [pgF]; exact if_pos rfl
  | d :: ds, 0, _, h => absurd h (Nat.not_lt_zero _)
  | d :: ds, K + 1, h, l => by
    rw [List.map_cons, List.flatten_cons, pgF, if_neg (show ¬ (d.tks ++ (ds.map Df.tks).flatten).headD [] = [] from (by decide : ¬ wDef = [])), dfF_ok (h d List.mem_cons_self), Rs.ok_bind, pgF_ok ds K (fun x hx => h x (List.mem_cons_of_mem _ hx)) (by simpa using l)]; rfl
/-- a text that is none, though its tokens are -/
def Brk (s : List Nat) : Prop := s.length ≤ 1000000 ∧ ∃ ts, lex s = (ts, true) ∧ deepB 0 ts = true ∧ pgF 390 9 ts = .bad
theorem pg_no {us : List Tkn} (h : us.headD [] ≠ []) (e : dfF 390 us = .bad) : pgF 390 9 us = .bad := by
  rw [pgF, if_neg h, e]; rfl
theorem hd_rest (ds : List Df) : (ds.map Df.tks).flatten = [] ∨ ((ds.map Df.tks).flatten).headD [] = wDef := by
  cases ds with
  | nil => exact .inl rfl
  | cons d ds => exact .inr rfl
theorem stp_def {l : Nat} : Stp l wDef := ⟨fun _ => by decide, fun _ => by decide, fun _ => by decide⟩
section
variable {d : Df} (h : DOk d) (ds : List Df) (hs : ∀ x ∈ ds, DOk x)
include h hs
theorem brk_end : lex (z_defx20 ++ d.x ++ z_x20x3ax20 ++ d.k.txt ++ z_x20x3dx20 ++ d.t.txt ++ (10 :: (ds.map Df.line).flatten)) = (wDef :: d.x :: z_x3a :: (d.k.tks ++ z_x3d :: (d.t.tks ++ (ds.map Df.tks).flatten)), true) := by
  have hx := h.nm
  rw [show z_defx20 ++ d.x ++ z_x20x3ax20 ++ d.k.txt ++ z_x20x3dx20 ++ d.t.txt ++ (10 :: (ds.map Df.line).flatten) = wDef ++ (32 :: (d.x ++ (32 :: 58 :: 32 :: (d.k.txt ++ (32 :: 61 :: 32 :: (d.t.txt ++ (10 :: (ds.map Df.line).flatten))))))) by simp [z_defx20, z_x20x3ax20, z_x20x3dx20],
    lex_word tk_wDef (by decide) h32, lex_sp, lex_word (tk_nm hx) (nm_45 hx) h32, lex_sp, lex_sign (by decide) (by decide), lex_sp, lex_kd d.k _ h32, lex_sp, lex_sign (by decide) (by decide), lex_sp, d.t.lx h.tm _ h10, lex_nl, lines_lx ds hs]
theorem brk_eq : lex (z_defx20 ++ d.x ++ z_x20x3ax20 ++ d.k.txt ++ [32] ++ (32 :: (d.t.txt ++ z_x3bx0a ++ (ds.map Df.line).flatten))) = (wDef :: d.x :: z_x3a :: (d.k.tks ++ (d.t.tks ++ z_x3b :: (ds.map Df.tks).flatten)), true) := by
  have hx := h.nm
  rw [show z_defx20 ++ d.x ++ z_x20x3ax20 ++ d.k.txt ++ [32] ++ (32 :: (d.t.txt ++ z_x3bx0a ++ (ds.map Df.line).flatten)) = wDef ++ (32 :: (d.x ++ (32 :: 58 :: 32 :: (d.k.txt ++ (32 :: 32 :: (d.t.txt ++ (59 :: 10 :: (ds.map Df.line).flatten))))))) by simp [z_defx20, z_x20x3ax20, z_x3bx0a],
    lex_word tk_wDef (by decide) h32, lex_sp, lex_word (tk_nm hx) (nm_45 hx) h32, lex_sp, lex_sign (by decide) (by decide), lex_sp, lex_kd d.k _ h32, lex_sp, lex_sp, d.t.lx h.tm _ h59, lex_sign (by decide) (by decide), lex_nl, lines_lx ds hs]
theorem brk_colon : lex (z_defx20 ++ d.x ++ [32] ++ (32 :: (d.k.txt ++ z_x20x3dx20 ++ d.t.txt ++ z_x3bx0a ++ (ds.map Df.line).flatten))) = (wDef :: d.x :: (d.k.tks ++ z_x3d :: (d.t.tks ++ z_x3b :: (ds.map Df.tks).flatten)), true) := by
  have hx := h.nm
  rw [show z_defx20 ++ d.x ++ [32] ++ (32 :: (d.k.txt ++ z_x20x3dx20 ++ d.t.txt ++ z_x3bx0a ++ (ds.map Df.line).flatten)) = wDef ++ (32 :: (d.x ++ (32 :: 32 :: (d.k.txt ++ (32 :: 61 :: 32 :: (d.t.txt ++ (59 :: 10 :: (ds.map Df.line).flatten))))))) by simp [z_defx20, z_x20x3dx20, z_x3bx0a],
    lex_word tk_wDef (by decide) h32, lex_sp, lex_word (tk_nm hx) (nm_45 hx) h32, lex_sp, lex_sp, lex_kd d.k _ h32, lex_sp, lex_sign (by decide) (by decide), lex_sp, d.t.lx h.tm _ h59, lex_sign (by decide) (by decide), lex_nl, lines_lx ds hs]
theorem brk_def : lex (32 :: (d.x ++ z_x20x3ax20 ++ d.k.txt ++ z_x20x3dx20 ++ d.t.txt ++ z_x3bx0a ++ (ds.map Df.line).flatten)) = (d.x :: z_x3a :: (d.k.tks ++ z_x3d :: (d.t.tks ++ z_x3b :: (ds.map Df.tks).flatten)), true) := by
  have hx := h.nm
  rw [show 32 :: (d.x ++ z_x20x3ax20 ++ d.k.txt ++ z_x20x3dx20 ++ d.t.txt ++ z_x3bx0a ++ (ds.map Df.line).flatten) = 32 :: (d.x ++ (32 :: 58 :: 32 :: (d.k.txt ++ (32 :: 61 :: 32 :: (d.t.txt ++ (59 :: 10 :: (ds.map Df.line).flatten)))))) by simp [z_x20x3ax20, z_x20x3dx20, z_x3bx0a],
    lex_sp, lex_word (tk_nm hx) (nm_45 hx) h32, lex_sp, lex_sign (by decide) (by decide), lex_sp, lex_kd d.k _ h32, lex_sp, lex_sign (by decide) (by decide), lex_sp, d.t.lx h.tm _ h59, lex_sign (by decide) (by decide), lex_nl, lines_lx ds hs]
end
theorem brk1 {d : Df} (h : DOk d) (ds : List Df) (hs : ∀ x ∈ ds, DOk x) : deepB 0 (wDef :: d.x :: z_x3a :: (d.k.tks ++ z_x3d :: (d.t.tks ++ (ds.map Df.tks).flatten))) = true ∧ pgF 390 9 (wDef :: d.x :: z_x3a :: (d.k.tks ++ z_x3d :: (d.t.tks ++ (ds.map Df.tks).flatten))) = .bad := by
  have k1 := d.k.opn; have t1 := d.t.opn h.tm; have := h.kd; have := h.dp
  refine ⟨(show Opn 21 _ from .cons (by decide) (.cons (opn_nm h.nm) (.cons (by decide) (.app (k1.le (by omega)) (.cons (by decide) (.app (t1.le (by omega)) (lines_opn ds hs))))))).deep (by decide), pg_no (by show wDef ≠ []; decide) ?_⟩
  unfold dfF
  have hr : Stp 1 (((ds.map Df.tks).flatten).headD []) ∧ ((ds.map Df.tks).flatten).headD [] ≠ z_x3b := by
    rcases hd_rest ds with e | e <;> rw [e]
    · exact ⟨stp_nil, by decide⟩
    · exact ⟨stp_def, by decide⟩
  rw [needF_ok, Rs.ok_bind, nameF_ok h.nm, Rs.ok_bind, needF_ok, Rs.ok_bind, (kd_read d.k).1 390 _ (by omega) (by show z_x3d ≠ z_x2dx3e; decide), Rs.ok_bind, needF_ok, Rs.ok_bind, tm_ok h.tm h.ds h.dp _ hr.1, Rs.ok_bind]
  unfold needF
  rw [if_neg hr.2]; rfl
theorem brk2 {d : Df} (h : DOk d) (ds : List Df) (hs : ∀ x ∈ ds, DOk x) : deepB 0 (wDef :: d.x :: z_x3a :: (d.k.tks ++ (d.t.tks ++ z_x3b :: (ds.map Df.tks).flatten))) = true ∧ pgF 390 9 (wDef :: d.x :: z_x3a :: (d.k.tks ++ (d.t.tks ++ z_x3b :: (ds.map Df.tks).flatten))) = .bad := by
  have k1 := d.k.opn; have t1 := d.t.opn h.tm; have := h.kd; have := h.dp
  refine ⟨(show Opn 21 _ from .cons (by decide) (.cons (opn_nm h.nm) (.cons (by decide) (.app (k1.le (by omega)) (.app (t1.le (by omega)) (.cons (by decide) (lines_opn ds hs))))))).deep (by decide), pg_no (by show wDef ≠ []; decide) ?_⟩
  unfold dfF
  have hd : HdOk (d.t.tks ++ z_x3b :: (ds.map Df.tks).flatten) := (hd_tks d.t h.tm).app
  rw [needF_ok, Rs.ok_bind, nameF_ok h.nm, Rs.ok_bind, needF_ok, Rs.ok_bind, (kd_read d.k).1 390 _ (by omega) (hd.ne (by decide) (by decide) (by decide)), Rs.ok_bind]
  unfold needF
  rw [if_neg (hd.ne (by decide) (by decide) (by decide))]; rfl
theorem hd_kd : ∀ k : Kd, ∃ c r, k.tks = c :: r ∧ c ≠ z_x3a
  | .int => ⟨_, _, rfl, by decide⟩
  | .bang a => ⟨_, _, rfl, by decide⟩
  | .pr a b => ⟨_, _, rfl, by decide⟩
  | .fn a b => by
    obtain ⟨c, r, e, q⟩ := hd_kd a
    rw [Kd.tks]
    unfold wrapK
    split
    · exact ⟨_, _, rfl, by decide⟩
    · exact ⟨c, _, by rw [e]; rfl, q⟩
theorem brk3 {d : Df} (h : DOk d) (ds : List Df) (hs : ∀ x ∈ ds, DOk x) : deepB 0 (wDef :: d.x :: (d.k.tks ++ z_x3d :: (d.t.tks ++ z_x3b :: (ds.map Df.tks).flatten))) = true ∧ pgF 390 9 (wDef :: d.x :: (d.k.tks ++ z_x3d :: (d.t.tks ++ z_x3b :: (ds.map Df.tks).flatten))) = .bad := by
  have k1 := d.k.opn; have t1 := d.t.opn h.tm; have := h.kd; have := h.dp
  refine ⟨(show Opn 21 _ from .cons (by decide) (.cons (opn_nm h.nm) (.app (k1.le (by omega)) (.cons (by decide) (.app (t1.le (by omega)) (.cons (by decide) (lines_opn ds hs))))))).deep (by decide), pg_no (by show wDef ≠ []; decide) ?_⟩
  unfold dfF
  obtain ⟨c, r, e, q⟩ := hd_kd d.k
  rw [needF_ok, Rs.ok_bind, nameF_ok h.nm, Rs.ok_bind, e]
  unfold needF
  rw [if_neg (show ¬ ((c :: r) ++ z_x3d :: (d.t.tks ++ z_x3b :: (ds.map Df.tks).flatten)).headD [] = z_x3a from q)]; rfl
theorem brk4 {d : Df} (h : DOk d) (ds : List Df) (hs : ∀ x ∈ ds, DOk x) : deepB 0 (d.x :: z_x3a :: (d.k.tks ++ z_x3d :: (d.t.tks ++ z_x3b :: (ds.map Df.tks).flatten))) = true ∧ pgF 390 9 (d.x :: z_x3a :: (d.k.tks ++ z_x3d :: (d.t.tks ++ z_x3b :: (ds.map Df.tks).flatten))) = .bad := by
  have k1 := d.k.opn; have t1 := d.t.opn h.tm; have := h.kd; have := h.dp
  refine ⟨(show Opn 21 _ from .cons (opn_nm h.nm) (.cons (by decide) (.app (k1.le (by omega)) (.cons (by decide) (.app (t1.le (by omega)) (.cons (by decide) (lines_opn ds hs))))))).deep (by decide), pg_no (by show d.x ≠ []; exact fun z => by have := h.nm; rw [z] at this; exact absurd this (by decide)) ?_⟩
  unfold dfF
  have : d.x ≠ wDef := (nmB_iff.mp h.nm).nd
  unfold needF
  rw [if_neg (show ¬ (d.x :: z_x3a :: (d.k.tks ++ z_x3d :: (d.t.tks ++ z_x3b :: (ds.map Df.tks).flatten))).headD [] = wDef from this)]; rfl
/-! ### signs that do not stand in a text -/
theorem Kd.no (k : Kd) : 61 ∉ k.txt ∧ 59 ∉ k.txt := by
  have wr : ∀ (b : Bool) (s : List Nat), 61 ∉ s ∧ 59 ∉ s → 61 ∉ wrapT b s ∧ 59 ∉ wrapT b s := fun b s h => by
    unfold wrapT
    split
    · simp [z_x28, z_x29, h.1, h.2]
    · exact h
  induction k with
  | int => decide
  | bang a ih => have := wr a.isFn _ ih; simp [Kd.txt, z_x21, this.1, this.2]
  | fn a b iha ihb => have := wr a.isFn _ iha; simp [Kd.txt, z_x20x2dx3ex20, this.1, this.2, ihb.1, ihb.2]
  | pr a b iha ihb => simp [Kd.txt, z_x28, z_x29, z_x2cx20, iha.1, iha.2, ihb.1, ihb.2]
theorem nm_no {x : Tkn} (h : IsNm x) (c : Nat) (hc : c < 48 ∨ (57 < c ∧ c < 97)) : c ∉ x := fun z => by
  rcases h.nm.all c z with ⟨a, b⟩ | ⟨a, b⟩ <;> omega
theorem Tm.no59 : ∀ t : Tm, TmOk t → 59 ∉ t.txt := fun t => by
  have wr : ∀ (b : Bool) (s : List Nat), 59 ∉ s → 59 ∉ wrapT b s := fun b s h => by
    unfold wrapT
    split
    · simp [z_x28, z_x29, h]
    · exact h
  have n59 : ∀ {x : Tkn}, IsNm x → 59 ∉ x := fun h => nm_no h 59 (by decide)
  induction t with
  | var x => intro h; exact n59 h
  | num n =>
    intro h z
    obtain ⟨d1, _, _⟩ := num_digits (numB_dec h).1
    have := d1 59 z; omega
  | op s a b iha ihb =>
    intro h
    have hs := h.1
    simp only [List.mem_cons, List.not_mem_nil, or_false] at hs
    have e : s ≠ 59 := by omega
    have := wr (decide (a.line < opL s)) _ (iha h.2.1)
    have := wr (decide (b.line < opL s + 1)) _ (ihb h.2.2)
    rw [show (Tm.op s a b).txt = wrapT (decide (a.line < opL s)) a.txt ++ (32 :: s :: 32 :: wrapT (decide (b.line < opL s + 1)) b.txt) by simp [Tm.txt, z_x20, opL]; rfl]
    simp [*, Ne.symm e]
  | lam x k b ih => intro h; have := n59 h.1; have := k.no.2; have := ih h.2.2; simp [Tm.txt, z_x5c, z_x3a, z_x2ex20, *]
  | app a b iha ihb => intro h; have := wr (decide (a.line < 3)) _ (iha h.1); have := wr (decide (b.line < 4)) _ (ihb h.2); simp [Tm.txt, z_x20, *]
  | box a ih => intro h; have := wr (decide (a.line < 4)) _ (ih h); simp [Tm.txt, z_x21, *]
  | lt x a b iha ihb => intro h; have := n59 h.1; have := iha h.2.1; have := ihb h.2.2; simp [Tm.txt, z_letx20, z_x20x3dx20, z_x20inx20, *]
  | pr a b iha ihb => intro h; have := iha h.1; have := ihb h.2; simp [Tm.txt, z_x28, z_x29, z_x2cx20, *]
  | sp x y a b iha ihb => intro h; have := n59 h.1; have := n59 h.2.1; have := iha h.2.2.1; have := ihb h.2.2.2; simp [Tm.txt, z_letx20x28, z_x2cx20, z_x29x20x3dx20, z_x20inx20, *]
/-! ### the names that stand twice -/
def dupL (xs : List Tkn) (i : Nat) : List Tkn := ((List.range i).filter fun k => decide (xs.getD k [] ∈ xs.take k)).map fun k => xs.getD k []
theorem dupL_succ (xs : List Tkn) (i : Nat) : dupL xs (i + 1) = if xs.getD i [] ∈ xs.take i then dupL xs i ++ [xs.getD i []] else dupL xs i := by
  unfold dupL
  rw [List.range_succ, List.filter_append, List.map_append]
  split
  · rename_i h; rw [show [i].filter (fun k => decide (xs.getD k [] ∈ xs.take k)) = [i] from by rw [List.filter_cons, if_pos (decide_eq_true h)]; rfl]; rfl
  · rename_i h; rw [show [i].filter (fun k => decide (xs.getD k [] ∈ xs.take k)) = [] from by rw [List.filter_cons, if_neg (by rw [decide_eq_false h]; exact Bool.false_ne_true)]; rfl]; simp
theorem dup_head (xs : List Tkn) : ∀ (m i : Nat), i + m = xs.length → dupL xs i = [] → dupF (xs.take i) (xs.drop i) = (dupL xs xs.length).head?
  | 0, i, e, z => by
    rw [List.drop_of_length_le (by omega), dupF, show xs.length = i by omega, z]; rfl
  | m + 1, i, e, z => by
    have hi : i < xs.length := by omega
    have eg : xs.getD i [] = xs[i] := by rw [List.getD_eq_getElem?_getD, List.getElem?_eq_getElem hi]; rfl
    rw [List.drop_eq_getElem_cons hi, dupF]
    have ds := dupL_succ xs i
    rw [eg, z] at ds
    split
    · rename_i h
      rw [if_pos h] at ds
      have pre : ∀ k, i + 1 ≤ k → ∃ r, dupL xs k = dupL xs (i + 1) ++ r := fun k => by
        induction k with
        | zero => intro z; omega
        | succ k ih =>
          intro hk
          rcases Nat.lt_or_ge (i + 1) (k + 1) with q | q
          · obtain ⟨r, er⟩ := ih (by omega)
            rw [dupL_succ, er]
            split
            · exact ⟨r ++ [xs.getD k []], by simp⟩
            · exact ⟨r, rfl⟩
          · rw [show k + 1 = i + 1 by omega]; exact ⟨[], by simp⟩
      obtain ⟨r, er⟩ := pre xs.length (by omega)
      rw [er, ds]; rfl
    · rename_i h
      rw [if_neg h] at ds
      have := dup_head xs m (i + 1) (by omega) ds
      rw [List.take_add_one, List.getElem?_eq_getElem hi] at this
      exact this

local macro_rules | `(tactic| walk_at "sti") => `(tactic| repeat ((fail_if_success (with_reducible show sSeq (sIf _ _ _) _ _ _ _)); walk_at "st1"))
def spLaw : SpW := fun ws h R _ => ∃ ns : List Int, ws = [.scr (ns.map W.int)] ∧ ns.length ≤ 63 ∧ R (.bl true) h
abbrev lawK : Nat := 230
theorem law_sp (h : HW) (ns : List Int) (l : ns.length ≤ 63) : spLaw [.scr (ns.map W.int)] h (fun w _ => w = .bl true) noX := ⟨ns, rfl, l, rfl⟩
/-- a name made longer by a sign that ends none of the words -/
theorem nm_snoc {s : List Nat} {c : Nat} (h : NmL s 7) (hc : lowC c) (h1 : c ≠ 116 ∧ c ≠ 110 ∧ c ≠ 102) : IsNm (s ++ [c]) := by
  have lst : ∀ t : List Nat, s ++ [c] = t → t.getLast? = some c := fun t e => by rw [← e]; simp
  refine ⟨h.snoc (.inl hc), fun e => ?_, fun e => ?_, fun e => ?_⟩
  · have := lst _ e; simp [wLet] at this; omega
  · have := lst _ e; simp [wIn] at this; omega
  · have := lst _ e; simp [wDef] at this; omega
theorem nm_take {s : List Nat} (h : NmL s 8) : NmL (s.take 7) 7 := by
  obtain ⟨c, r, e, l⟩ := h.hd
  refine ⟨by simp; omega, ⟨c, r.take 6, by rw [e]; rfl, l⟩, fun x hx => h.all x (List.mem_of_mem_take hx)⟩
def lawNm (s : List Nat) (k : Nat) : List Nat := if 8 < s.length + 1 then s.take 7 ++ [118 + k] else s ++ [97 + k]
theorem lawNm_nm {s : List Nat} {k : Nat} (h : IsNm s) (hk : k < 5) : nmB (lawNm s k) = true := by
  apply nmB_iff.mpr
  unfold lawNm
  split
  · exact nm_snoc (nm_take h.nm) ⟨by omega, by omega⟩ (by omega)
  · rename_i c
    exact nm_snoc ⟨by omega, h.nm.hd, h.nm.all⟩ ⟨by omega, by omega⟩ (by omega)
theorem no_occ1 {c : Nat} {pre post : List Nat} (no : c ∉ pre) : ∀ k, k < pre.length → ¬ [c] <+: (pre ++ ([c] ++ post)).drop k := fun i hi z => by
  obtain ⟨u, hu⟩ := z
  have e0 : pre.drop i = pre[i] :: pre.drop (i + 1) := List.drop_eq_getElem_cons hi
  rw [List.drop_append_of_le_length (by omega), e0] at hu
  have : c = pre[i] := (List.cons.inj hu).1
  exact no (by rw [this]; exact List.getElem_mem hi)
/-- a mark taken out of a program's text -/
theorem brk_any {d : Df} (h : DOk d) (dr : List Df) (hs : ∀ x ∈ dr, DOk x) (lt : (d.line ++ (dr.map Df.line).flatten).length ≤ 1000000) (i : Int) (hi : i = 0 ∨ i = 1 ∨ i = 2 ∨ i = 3) : ∃ mk pre post, atI [W.str z_x3b, .str z_x3d, .str z_x3a, .str wDef] i = some (.str mk) ∧
    d.line ++ (dr.map Df.line).flatten = pre ++ (mk ++ post) ∧ (∀ k, k < pre.length → ¬ mk <+: (pre ++ (mk ++ post)).drop k) ∧ mk.length ≤ 3 ∧ Brk (pre ++ post) := by
  have hx := nmB_iff.mp h.nm
  have x1 := nm_no hx 59 (by decide); have x2 := nm_no hx 61 (by decide); have x3 := nm_no hx 58 (by decide)
  have k1 := d.k.no
  have t1 := d.t.no59 h.tm
  have br : ∀ (mk pre post : List Nat) (ts : List Tkn), d.line ++ (dr.map Df.line).flatten = pre ++ (mk ++ post) → lex (pre ++ post) = (ts, true) → deepB 0 ts = true ∧ pgF 390 9 ts = .bad → Brk (pre ++ post) := fun mk pre post ts e a b => by
    refine ⟨?_, ts, a, b.1, b.2⟩
    rw [e] at lt
    simp only [List.length_append] at lt ⊢
    omega
  rcases hi with rfl | rfl | rfl | rfl
  · have e : d.line ++ (dr.map Df.line).flatten = (z_defx20 ++ d.x ++ z_x20x3ax20 ++ d.k.txt ++ z_x20x3dx20 ++ d.t.txt) ++ (z_x3b ++ (10 :: (dr.map Df.line).flatten)) := by simp [Df.line, z_x3bx0a, z_x3b]
    refine ⟨_, _, _, rfl, e, no_occ1 ?_, by decide, br _ _ _ _ e (brk_end h dr hs) (brk1 h dr hs)⟩
    simp [z_defx20, z_x20x3ax20, z_x20x3dx20, x1, k1.2, t1]
  · have e : d.line ++ (dr.map Df.line).flatten = (z_defx20 ++ d.x ++ z_x20x3ax20 ++ d.k.txt ++ [32]) ++ (z_x3d ++ (32 :: (d.t.txt ++ z_x3bx0a ++ (dr.map Df.line).flatten))) := by simp [Df.line, z_x3d, z_x20x3dx20]
    refine ⟨_, _, _, rfl, e, no_occ1 ?_, by decide, br _ _ _ _ e (brk_eq h dr hs) (brk2 h dr hs)⟩
    simp [z_defx20, z_x20x3ax20, x2, k1.1]
  · have e : d.line ++ (dr.map Df.line).flatten = (z_defx20 ++ d.x ++ [32]) ++ (z_x3a ++ (32 :: (d.k.txt ++ z_x20x3dx20 ++ d.t.txt ++ z_x3bx0a ++ (dr.map Df.line).flatten))) := by simp [Df.line, z_x3a, z_x20x3ax20]
    refine ⟨_, _, _, rfl, e, no_occ1 ?_, by decide, br _ _ _ _ e (brk_colon h dr hs) (brk3 h dr hs)⟩
    simp [z_defx20, x3]
  · have e : d.line ++ (dr.map Df.line).flatten = [] ++ (wDef ++ (32 :: (d.x ++ z_x20x3ax20 ++ d.k.txt ++ z_x20x3dx20 ++ d.t.txt ++ z_x3bx0a ++ (dr.map Df.line).flatten))) := by simp [Df.line, z_defx20, wDef]
    exact ⟨_, [], _, rfl, e, fun k hk => absurd hk (Nat.not_lt_zero _), by decide, br _ [] _ _ e (brk_def h dr hs) (brk4 h dr hs)⟩
theorem str_nm8 {x : Tkn} (h : nmB x = true) : PyData.strOk (mkS x) = true := by
  rw [sk]
  refine List.all_eq_true.mpr fun c hc => decide_eq_true ?_
  rcases (nmB_iff.mp h).nm.all c hc with z | z
  · have := z.2; omega
  · have := z.2; omega
theorem DOk.len {d : Df} (h : DOk d) : d.line.length ≤ 60000 := by
  have := d.t.txt_len h.tm; have := d.k.txt_len; have := Kd.nodes_le h.kd; have := h.sz; have := (nmB_iff.mp h.nm).nm.len
  have e1 : z_defx20.length = 4 := rfl
  have e2 : z_x20x3ax20.length = 3 := rfl
  have e3 : z_x20x3dx20.length = 3 := rfl
  have e4 : z_x3bx0a.length = 2 := rfl
  simp only [Df.line, List.length_append]; omega
theorem DOk.lens : ∀ ds : List Df, (∀ d ∈ ds, DOk d) → ((ds.map Df.line).map List.length).sum ≤ 60000 * ds.length
  | [], _ => by simp
  | d :: ds, h => by
    have := DOk.lens ds fun x hx => h x (List.mem_cons_of_mem _ hx)
    have := (h d List.mem_cons_self).len
    simp only [List.map_cons, List.sum_cons, List.length_cons]; omega
theorem data_nm8 : ∀ {xs : List Tkn}, (∀ x ∈ xs, nmB x = true) → datasW (strsW xs) = true ∧ depsW (strsW xs) = 0
  | [], _ => ⟨rfl, rfl⟩
  | x :: xs, h => by
    obtain ⟨a, b⟩ := data_nm8 fun y hy => h y (List.mem_cons_of_mem _ hy)
    refine ⟨?_, ?_⟩
    · show (PyData.strOk (mkS x) && datasW (strsW xs)) = true
      rw [str_nm8 (h x List.mem_cons_self), a]; rfl
    · show max (depW (.str x)) (depsW (strsW xs)) = 0
      rw [b]; rfl
theorem dupL_mem {xs : List Tkn} {i : Nat} (hi : i ≤ xs.length) {x : Tkn} (h : x ∈ dupL xs i) : x ∈ xs := by
  unfold dupL at h
  obtain ⟨k, hk, rfl⟩ := List.mem_map.mp h
  have hk := List.mem_range.mp (List.mem_filter.mp hk).1
  rw [List.getD_eq_getElem?_getD, List.getElem?_eq_getElem (by omega)]
  exact List.getElem_mem _
theorem dfs_data : ∀ ds : List Df, (∀ d ∈ ds, DOk d) → datasW (ds.map Df.w) = true ∧ depsW (ds.map Df.w) ≤ 14
  | [], _ => ⟨rfl, by decide⟩
  | d :: ds, h => by
    obtain ⟨a, b⟩ := dfs_data ds fun x hx => h x (List.mem_cons_of_mem _ hx)
    have hd := h d List.mem_cons_self
    obtain ⟨k1, k2⟩ := d.k.data
    obtain ⟨t1, t2⟩ := d.t.data hd.tm
    have := hd.kd; have := hd.dp
    refine ⟨?_, ?_⟩
    · simp only [List.map_cons, datasW, Df.w, dataW, k1, t1, str_nm8 hd.nm, a]; rfl
    · simp only [List.map_cons, depsW, Df.w, depW]; omega
section
variable {P : Program} {w : World} {K : PySem.W.Frag} {mg : Str → Option Value} {base : Heap}
theorem ok_law (T : Tx P w K mg) : FnOk P w K mg base CX0 230 T.a_law T.fd_law ["script"] (lSp K spLaw) := by
  refine fnW T.F_law sc_law (fun ws h R ex ⟨_, e, _⟩ => by rw [e]; rfl) fun cdv A outer s H E hr => ⟨_, (wss_cons (ws_set (i := 1) sc_law.nd (w_call (ok__law_numbers T) (hr.mono (by walk_at "rm")) (by rfl) T.g__law_numbers T.F__law_numbers.kp T.b__law_numbers (wa_cons (w_var 0) (wa_cons w_int (wa_cons w_int wa_nil)))))
    (wss_cons (ws_set (i := 2) sc_law.nd (w_callB call_abs lf_abs (by rfl) T.m_abs (by decide +kernel) (wa_cons (w_call (ok__law_cell T) (hr.mono (by walk_at "rm")) (by rfl) T.g__law_cell T.F__law_cell.kp T.b__law_cell (wa_cons (w_var 0) (wa_cons w_int wa_nil))) wa_nil)))
    (wss_cons (ws_set (i := 3) sc_law.nd (w_lstO wa_nil))
    (wss_cons (ws_for PassesOwn.never rfl (wi_range1 (by rfl) T.m_range (wa_cons (w_op ow_add lf_add w_int (w_op (rw := modW) op_mod lf_int (w_var 2) w_int)) wa_nil)) (wg_name (i := 4) sc_law.nd) (wss_cons (ws_set (i := 12) sc_law.nd (w_op ow_add lf_add (w_call (ok__law_name T) (hr.mono (by walk_at "rm")) (by rfl) T.g__law_name T.F__law_name.kp T.b__law_name (wa_cons (w_op ow_add lf_add (w_op (rw := fdivW) op_fdiv lf_int (w_var 2) (w_op ow_add lf_add (w_var 4) w_int)) (w_op (rw := mulW) op_mul lf_int w_int (w_var 4))) wa_nil)) (w_ix (w_str z_abcde) (w_var 4))))
    (wss_cons (ws_if (wt_cmp (rw := gtW) op_gt lf_cmp (w_callB call_len lf_len (by rfl) T.m_len (by decide +kernel) (wa_cons (w_var 12) wa_nil)) w_int (nomark _)) (wss_one (ws_set (i := 12) sc_law.nd (w_op ow_add lf_add (w_slice (w_var 12) wo_none (wo_some w_int)) (w_ix (w_str z_vwxyz) (w_var 4))))) wss_nil)
    (wss_cons (ws_set (i := 13) sc_law.nd (w_call (ok__law_any_term T) (hr.mono (by walk_at "rm")) (by rfl) T.g__law_any_term T.F__law_any_term.kp T.b__law_any_term (wa_cons (w_slice (w_var 1) (wo_some (w_op (rw := mulW) op_mul lf_int w_int (w_var 4))) (wo_some (w_op ow_add lf_add (w_op (rw := mulW) op_mul lf_int w_int (w_var 4)) w_int))) (wa_cons (w_lst (wa_cons (w_str z_x) (wa_cons (w_str z_name2) wa_nil))) wa_nil))))
    (wss_one (ws_expr (w_bm PySem.F.plainAttrs_list PySem.F.slot_list_append PySem.F.type_list_append mt_append tyL_ok lf_append (w_var 3) (wa_cons (w_tup (wa_cons (w_var 12) (wa_cons (w_call (ok__law_any_kind T 5) (hr.mono (by walk_at "rm")) (by rfl) T.g__law_any_kind T.F__law_any_kind.kp T.b__law_any_kind (wa_cons (w_op (rw := fdivW) op_fdiv lf_int (w_callB call_abs lf_abs (by rfl) T.m_abs (by decide +kernel) (wa_cons (w_call (ok__law_cell T) (hr.mono (by walk_at "rm")) (by rfl) T.g__law_cell T.F__law_cell.kp T.b__law_cell (wa_cons (w_var 0) (wa_cons w_int wa_nil))) wa_nil)) (w_op ow_add lf_add (w_var 4) w_int)) (wa_cons w_int wa_nil))) (wa_cons (w_var 13) wa_nil)))) wa_nil))))))))
    (wss_cons (ws_set (i := 5) sc_law.nd (w_op (rw := modW) op_mod lf_int (w_op (rw := fdivW) op_fdiv lf_int (w_var 2) w_int) w_int))
    (wss_cons (ws_set (i := 6) sc_law.nd (w_op (rw := modW) op_mod lf_int (w_op (rw := fdivW) op_fdiv lf_int (w_var 2) w_int) (w_callB call_len lf_len (by rfl) T.m_len (by decide +kernel) (wa_cons (w_var 3) wa_nil))))
    (wss_cons (ws_set (i := 7) sc_law.nd (w_op (rw := modW) op_mod lf_int (w_op (rw := fdivW) op_fdiv lf_int (w_var 2) w_int) (w_callB call_len lf_len (by rfl) T.m_len (by decide +kernel) (wa_cons (w_var 3) wa_nil))))
    (wss_cons (ws_if (wt_bool (ww_and (wt_cmp (ow_eq hr.units) lf_eq (w_var 5) w_int (nomark _)) (ww_and1 (wt_cmp (ow_ne hr.units) lf_ne (w_var 6) (w_var 7) (nomark _))))) (wss_one (ws_asg (w_tup (wa_cons (w_ix (w_ix (w_var 3) (w_var 6)) w_int) (wa_cons (w_ix (w_ix (w_var 3) (w_var 7)) w_int) (wa_cons (w_ix (w_ix (w_var 3) (w_var 7)) w_int) wa_nil)))) (wg_lix (w_var 3) (w_var 7)))) wss_nil)
    (wss_cons (ws_frz (i := 3) (ws_set (i := 8) sc_law.nd (w_call (ok_write_program T) (hr.mono (by walk_at "rm")) (by rfl) T.g_write_program T.F_write_program.kp T.b_write_program (wa_cons (w_var 3) wa_nil))))
    (wss_cons (ws_if (wt_cmp (ow_eq hr.units) lf_eq (w_var 5) w_int (nomark _)) (wss_cons (ws_set (i := 14) sc_law.nd (w_ix (w_lst (wa_cons (w_str z_x3b) (wa_cons (w_str z_x3d) (wa_cons (w_str z_x3a) (wa_cons (w_str wDef) wa_nil))))) (w_op (rw := modW) op_mod lf_int (w_op (rw := fdivW) op_fdiv lf_int (w_var 2) w_int) w_int)))
    (wss_cons (ws_set (i := 15) sc_law.nd (w_bm PySem.F.plainAttrs_str PySem.F.slot_str_index PySem.F.type_str_index mt_sindex tyS_ok lf_index (w_var 8) (wa_cons (w_var 14) wa_nil)))
    (wss_one (ws_set (i := 8) sc_law.nd (w_op ow_add lf_add (w_slice (w_var 8) wo_none (wo_some (w_var 15))) (w_slice (w_var 8) (wo_some (w_op ow_add lf_add (w_var 15) (w_callB call_len lf_len (by rfl) T.m_len (by decide +kernel) (wa_cons (w_var 14) wa_nil)))) wo_none)))))) wss_nil)
    (wss_cons (ws_set (i := 9) sc_law.nd (w_lc (x := "definition") (j := 17) rfl sc_law.nd (wi_list (w_var 3)) (blkOk_by (N := N_law) (sc := defScope s_law) (by decide +kernel)) (fun _ _ _ _ _ => pg_name (i := 17) sc_law.nd rfl (Or.inl rfl)) (fun _ _ _ _ _ => wts_nil) (fun _ _ _ _ _ => (w_ix (w_var 17) w_int))))
    (wss_cons (ws_setLc (i := 10) (x := "k") (j := 4) rfl sc_law.nd rfl rfl (sw_true rfl rfl rfl (by decide +kernel)) (wi_range1 (by rfl) T.m_range (wa_cons (w_callB call_len lf_len (by rfl) T.m_len (by decide +kernel) (wa_cons (w_var 9) wa_nil)) wa_nil)) (blkOk_by (N := N_law) (sc := defScope s_law) (by decide +kernel)) (fun _ _ _ _ _ => pg_name (i := 4) sc_law.nd rfl (Or.inl rfl)) (fun _ _ _ _ _ => (wts_one (wt_cmp ow_in lf_in (w_ix (w_var 9) (w_var 4)) (w_slice (w_var 9) wo_none (wo_some (w_var 4))) (by rfl)))) (fun _ _ _ _ _ => (w_ix (w_var 9) (w_var 4))))
    (wss_cons (ws_tryAX (i := 11) (j := 16) rfl rfl sc_law.nd rfl rfl ⟨rfl, by decide, .inl T.gC_SharenetError⟩ rfl rfl (ok_read_program T 390) (hr.mono (by walk_at "rm")) (by rfl) T.g_read_program T.F_read_program.kp T.b_read_program (fun _ _ => (wa_cons (w_var 8) wa_nil)) (fun x od a oe pn ec hz hf => (wss_cons (ws_if (wt_val (w_isX ec hz hf (by rfl) T.m_isinstance (by decide +kernel) (wa_cons (w_var 11) (wa_cons (w_glob rfl T.gC_DuplicateName) wa_nil)))) (wss_one (ws_ret (w_and (w_cmp (ow_ne hr.units) lf_ne (w_var 5) w_int (nomark _)) (w_and (w_cmp (ow_ne hr.units) lf_ne (w_var 10) (w_lst wa_nil) (nomark _)) (w_one (w_cmp (ow_eq hr.units) lf_eq (w_xf ec hz hf (w_var 11)) (w_ix (w_var 10) w_int) (nomark _))))))) wss_nil)
    (wss_one (ws_ret (w_and (w_isX ec hz hf (by rfl) T.m_isinstance (by decide +kernel) (wa_cons (w_var 11) (wa_cons (w_glob rfl T.gC_InvalidText) wa_nil))) (w_one (w_cmp (ow_eq hr.units) lf_eq (w_var 5) w_int (nomark _)))))))))
    (wss_one (ws_ret (w_and (w_cmp (ow_ne hr.units) lf_ne (w_var 5) w_int (nomark _)) (w_and (w_cmp (ow_eq hr.units) lf_eq (w_var 10) (w_lst wa_nil) (nomark _)) (w_and (w_cmp (ow_eq hr.units) lf_eq (w_var 16) (w_var 3) (nomark _)) (w_one (w_cmp (ow_eq hr.units) lf_eq (w_callN (ok_read_program T 390) (hr.mono (by walk_at "rm")) (by rfl) T.g_read_program T.F_read_program.kp T.b_read_program (wa_cons (w_str z_) wa_nil)) (w_lst wa_nil) (nomark _))))))))))))))))))))), fun ws h R ex ⟨ns, e, l, q⟩ => ?_⟩
  subst e
  walk_at "st"
  refine ⟨ns, 2, 40, rfl, l, by decide, by decide, fun ms gm lm => ?_⟩
  walk_at "st"
  refine ⟨ns, 0, rfl, ?_⟩
  walk_at "st"
  intro p hp
  walk_at "st"
  generalize (ns.getD 0 0).natAbs = dg
  refine go_forR1 (1 + (dg : Int) % 5) (fun RA q => by walk_at "st"; exact q) (by omega)
    (fun i ρ' h' => ∃ ds : List Df, ds.length = i ∧ (∀ d ∈ ds, DOk d) ∧ ρ' = [some (.scr (ns.map W.int)), some (.lst (natsW ms)), some (.int (dg : Nat)), some (.ref p)] ++ List.replicate 14 none ∧ h' = updW h p (.lst (ds.map Df.w)))
    (.of ⟨[], rfl, by simp, rfl, rfl⟩) ?_ ?_
  · rintro i ρ' h' hi ⟨ds, li, ok, rfl, rfl⟩
    have hi5 : i < 5 := by omega
    have ea : atI z_abcde (i : Int) = some (97 + i) := by
      rcases (by omega : i = 0 ∨ i = 1 ∨ i = 2 ∨ i = 3 ∨ i = 4) with rfl | rfl | rfl | rfl | rfl <;> rfl
    have ev : atI z_vwxyz (i : Int) = some (118 + i) := by
      rcases (by omega : i = 0 ∨ i = 1 ∨ i = 2 ∨ i = 3 ∨ i = 4) with rfl | rfl | rfl | rfl | rfl <;> rfl
    walk_at "st"
    refine ⟨dg / (i + 1) + 1000 * i, rfl, fun s hs => ?_⟩
    have ls := hs.nm.len
    walk_at "st"
    refine go_meet (fun ρ' h' => h' = updW h p (.lst (ds.map Df.w)) ∧ ρ' = [some (.scr (ns.map W.int)), some (.lst (natsW ms)), some (.int (dg : Nat)), some (.ref p), some (.int (i : Nat))] ++ List.replicate 7 none ++ [some (.str (lawNm s i))] ++ List.replicate 5 none) ?_ ?_
    · rintro ρ' h' ⟨rfl, rfl⟩
      have nm := lawNm_nm hs hi5
      generalize lawNm s i = x at nm
      have e8 : (8 : Int) * (i : Int) = ((8 * i : Nat) : Int) := by omega
      have ec : cut (natsW ms) (some ((8 : Int) * (i : Int))) (some ((8 : Int) * (i : Int) + 8)) = natsW ((ms.drop (8 * i)).take 8) := by
        rw [show (8 : Int) * (i : Int) + 8 = ((8 * i + 8 : Nat) : Int) by omega, e8, cut_nat, show 8 * i + 8 - 8 * i = 8 by omega]
        simp [natsW]
      walk_at "st"
      rw [ec]
      have l8 : ((ms.drop (8 * i)).take 8).length ≤ 8 := by simp; omega
      refine ⟨(ms.drop (8 * i)).take 8, [z_x, z_name2], rfl, fun y hy => gm y (List.mem_of_mem_drop (List.mem_of_mem_take hy)), by omega, by decide, by
        intro y hy
        simp only [List.mem_cons, List.not_mem_nil, or_false] at hy
        rcases hy with rfl | rfl <;> exact nmB_iff.mp (by decide), fun t ht hd hz dis => ?_⟩
      have dis := dis (by decide)
      have lx := (nmB_iff.mp nm).nm.len
      walk_at "st"
      refine ⟨ns, 1, rfl, ?_⟩
      walk_at "st"
      refine ⟨(ns.getD 1 0).natAbs / (i + 1), 3, rfl, by decide, fun k hk => ?_⟩
      have lds : (ds.map Df.w).length = ds.length := by simp
      walk_at "st"
      refine ⟨_, _, ⟨ds ++ [⟨x, k, t⟩], by simp; omega, fun d hd' => ?_, rfl, rfl⟩, ?_, ?_⟩
      · rcases List.mem_append.mp hd' with z | z
        · exact ok d z
        · rw [List.mem_singleton] at z
          subst z
          exact ⟨nm, by omega, ht, dis, by show t.dep ≤ 9; omega, by show t.size ≤ 25; omega⟩
      · exact .same (.same (.same (.same (.no (.no (.no (.no (.no (.no (.no (.no (.no (.no (.no (.no (.no (.no .nil)))))))))))))))))
      · rw [updW_upd, List.map_append]; exact .refl _
    · intro N hN
      refine go_dec (fun c => ?_) (fun c => ?_)
      · have c : 8 < s.length + 1 := by simp at c; omega
        have e7 : cut (s ++ [97 + i]) none (some 7) = s.take 7 := by
          rw [show (7 : Int) = ((7 : Nat) : Int) from rfl, cut_to, List.take_append_of_le_length (by omega)]
        walk_at "st"
        rw [e7]
        walk_at "st"
        exact hN _ _ ⟨rfl, by unfold lawNm; rw [if_pos c]; rfl⟩
      · have c : ¬ 8 < s.length + 1 := by simp at c; omega
        walk_at "st"
        exact hN _ _ ⟨rfl, by unfold lawNm; rw [if_neg c]; rfl⟩
  · rintro ρ' h' ⟨ds, li, ok, rfl, rfl⟩
    have lds : (ds.map Df.w).length = ds.length := by simp
    have l5 : 1 ≤ ds.length ∧ ds.length ≤ 5 := by omega
    walk_at "sti"
    with_reducible show sSeq _ _ _ _ _
    have ix : ∀ (z : Int), ∃ (j : Nat) (hj : j < ds.length), z % (ds.length : Int) = (j : Nat) := fun z => by
      have h1 : 0 ≤ z % (ds.length : Int) := Int.emod_nonneg _ (by omega)
      have h2 : z % (ds.length : Int) < ds.length := Int.emod_lt_of_pos _ (by omega)
      exact ⟨(z % (ds.length : Int)).toNat, by omega, by omega⟩
    obtain ⟨j1, hj1, e1⟩ := ix ((dg : Int) / 15)
    obtain ⟨j2, hj2, e2⟩ := ix ((dg : Int) / 75)
    rw [lds, e1, e2]
    have at' : ∀ (j : Nat) (hj : j < ds.length), atI (ds.map Df.w) (j : Int) = some (.tup [.str ds[j].x, ds[j].k.w, ds[j].t.w]) := fun j hj => atI_nat (by rw [List.getElem?_map, List.getElem?_eq_getElem hj]; rfl)
    have a1 := at' j1 hj1
    have a2 := at' j2 hj2
    refine go_seqM (fun ρ' h' => ∃ (ds : List Df), (1 ≤ ds.length ∧ ds.length ≤ 5) ∧ (∀ d ∈ ds, DOk d) ∧ ρ' = [some (.scr (ns.map W.int)), some (.lst (natsW ms)), some (.int (dg : Nat)), some (.ref p), none, some (.int ((dg : Int) / 5 % 3)), some (.int (j1 : Nat)), some (.int (j2 : Nat))] ++ List.replicate 10 none ∧ h' = updW h p (.lst (ds.map Df.w))) ?_ ?_
    · clear ix at' a1 a2 e1 e2 hj1 hj2 lds l5 li ok ds
      rintro ρ' h' ⟨ds, l5, ok, rfl, rfl⟩
      have lds : (ds.map Df.w).length = ds.length := by simp
      walk_at "st"
      refine ⟨ds, rfl, fun d hd => (ok d hd).ok, by omega, ?_⟩
      rw [del_upd hp]
      have tl := DOk.lens ds ok
      have tl2 : ((ds.map Df.line).flatten).length ≤ 300000 := by rw [List.length_flatten]; omega
      walk_at "sti"
      with_reducible show sSeq _ _ _ _ _
      have fullL := lines_lx ds ok
      have fullO := (lines_opn ds ok).deep (by decide)
      have fullP := pgF_ok ds 9 ok (by omega)
      refine go_seqM (fun ρ' h' => h' = h ∧ ∃ (tx : List Nat) (v1 v2 : Option W), ρ' = [some (.scr (ns.map W.int)), some (.lst (natsW ms)), some (.int (dg : Nat)), some (.lst (ds.map Df.w)), none, some (.int ((dg : Int) / 5 % 3)), some (.int (j1 : Nat)), some (.int (j2 : Nat)), some (.str tx), none, none, none, none, none, v1, v2, none, none] ∧
        (((dg : Int) / 5 % 3 ≠ 2 ∧ tx = (ds.map Df.line).flatten) ∨ ((dg : Int) / 5 % 3 = 2 ∧ Brk tx))) ?_ ?_
      · rintro ρ' h' ⟨rfl, tx, v1, v2, rfl, ht⟩
        walk_at "st"
        refine go_lcI (ds.map Df.w) (ds.map fun d => .str d.x) (fun P q => by walk_at "st"; exact q) (by simp) (by simp; omega) ?_ ?_
        · intro i v y h1 R' e1 e2 hq
          rw [List.getElem?_map] at e1 e2
          obtain ⟨d, e3, e4⟩ := Option.map_eq_some_iff.mp e1
          rw [e3] at e2
          cases e2; subst e4
          show _
          unfold Df.w
          walk_at "st"
          exact hq
        obtain ⟨nms, enm⟩ : ∃ nms : List Tkn, nms = ds.map Df.x := ⟨_, rfl⟩
        have lnm : nms.length = ds.length := by rw [enm]; simp
        have snm : (strsW nms).length = nms.length := by simp [strsW]
        rw [show (ds.map fun d => W.str d.x) = strsW nms by rw [enm]; simp [strsW]]
        walk_at "st"
        refine go_lcS ?_
        unfold oRng1
        walk_at "st"
        rw [snm]
        refine ⟨by omega, by simp [rngW]; omega, fun p' hp' => ⟨fun i acc h1 => acc = strsW (dupL nms i) ∧ h1 = h', ⟨rfl, rfl⟩, ?_, ?_⟩⟩
        · rintro i w acc h1 hw hn hl ⟨rfl, rfl⟩
          have hi : i < nms.length := by have := (List.getElem?_eq_some_iff.mp hw).1; simp [rngW] at this; omega
          have ew : w = .int (i : Nat) := by
            unfold rngW at hw
            rw [List.getElem?_map, List.getElem?_range (by simpa using hi)] at hw
            have := Option.some.inj hw
            rw [← this]; simp
          subst ew
          have eg : nms.getD i [] = nms[i] := by rw [List.getD_eq_getElem?_getD, List.getElem?_eq_getElem hi]; rfl
          have ei : atI (strsW nms) (i : Int) = some (.str nms[i]) := atI_nat (by rw [strsW, List.getElem?_map, List.getElem?_eq_getElem hi]; rfl)
          have ec : cut (strsW nms) none (some (i : Int)) = strsW (nms.take i) := by rw [cut_to]; simp [strsW]
          have ds2 := dupL_succ nms i
          rw [eg] at ds2
          walk_at "st"
          rw [ec]
          refine go_inL rfl (flat_strs _) ?_
          rw [any_strs]
          refine go_dec (fun c => ?_) (fun c => ?_)
          · rw [if_pos c] at ds2
            walk_at "st"
            exact ⟨_, .refl _, hn, by rw [ds2]; simp [strsW], rfl⟩
          · rw [if_neg c] at ds2
            exact ⟨_, .refl _, hn, by rw [ds2], rfl⟩
        · rintro acc h1 hn ⟨rfl, rfl⟩
          rw [show (rngW 0 ((nms.length : Nat) : Int).toNat).length = nms.length by simp [rngW]]
          walk_at "st"
          refine go_tryX1 ?_
          walk_at "st"
          have dh := dup_head nms nms.length 0 (by omega) rfl
          rw [List.take_zero, List.drop_zero] at dh
          rcases ht with ⟨wn, rfl⟩ | ⟨wy, b1, ts, b2, b3, b4⟩
          · refine ⟨_, 390, 9, rfl, by omega, ⟨by decide, by decide⟩, by decide, ?_⟩
            unfold rpRes
            rw [fullL, fullO, if_pos rfl, if_pos rfl, fullP]
            have en : (ds.map Df.dn).map Dn.x = nms := by rw [enm, List.map_map]; rfl
            have ew : (ds.map Df.dn).map Dn.w = ds.map Df.w := by rw [List.map_map]; rfl
            refine ⟨by simp; omega, fun d hd => ?_, ?_⟩
            · obtain ⟨d0, h0, rfl⟩ := List.mem_map.mp hd
              have := (nmB_iff.mp (ok d0 h0).nm).nm.len
              show d0.x.length ≤ 9
              omega
            rw [en, ew, dh]
            cases e : dupL nms nms.length with
            | nil =>
              show dupK _ none _ _ _
              unfold dupK
              obtain ⟨d1, d2⟩ := dfs_data ds ok
              walk_at "st"
              refine go_ndec (fun _ => ?_) (fun c => absurd c wn)
              walk_at "st"
              refine go_eqD rfl rfl (by decide) (by decide) ?_
              rw [eqD_nil]
              walk_at "stc"
              refine go_eqD (x := .lst (ds.map Df.w)) (y := .lst (ds.map Df.w)) d1 d1 (by show depsW _ + 1 ≤ 64; omega) (by show depsW _ + 1 ≤ 64; omega) ?_
              rw [eqv_of (.lst (ds.map Df.w)) d1]
              walk_at "st"
              refine ⟨[], 390, 9, rfl, by decide, ⟨by decide, by decide⟩, by decide, ?_⟩
              unfold rpRes
              rw [lex_nil]
              refine ⟨by decide, by simp, ?_⟩
              show dupK _ none _ _ _
              unfold dupK
              walk_at "st"
              refine go_eqD rfl rfl (by decide) (by decide) ?_
              rw [eqD_nil]
              exact .of q
            | cons sx rx =>
              show ∀ h', Sub _ h' → _
              intro h2 sb
              refine ⟨T.ec_DuplicateName, T.xm_DuplicateName_SharenetError, fun a => ?_⟩
              walk_at "st"
              refine go_isE T.is_DuplicateName_DuplicateName ?_
              walk_at "st"
              refine go_ndec (fun _ => ?_) (fun c => absurd c wn)
              walk_at "st"
              have hm : ∀ x ∈ sx :: rx, nmB x = true := fun x hx => by
                rw [← e] at hx
                have hx := dupL_mem (Nat.le_refl _) hx
                rw [enm] at hx
                obtain ⟨d0, h0, rfl⟩ := List.mem_map.mp hx
                exact (ok d0 h0).nm
              obtain ⟨d1, d2⟩ := data_nm8 hm
              refine go_neD (by show datasW (strsW (sx :: rx)) = true; exact d1) rfl (by show depsW (strsW (sx :: rx)) + 1 ≤ 64; omega) (by decide) ?_
              rw [eqD_nil]
              walk_at "st"
              rw [show (strsW (sx :: rx)).isEmpty = false from rfl]
              walk_at "st"
              refine go_xf T.sp_DuplicateName.no ?_
              walk_at "st"
              refine ⟨_, _, rfl, rfl, ?_⟩
              have a0 : atI (strsW (sx :: rx)) 0 = some (.str sx) := atI_nat (j := 0) (show (strsW (sx :: rx))[0]? = some (.str sx) from rfl)
              walk_at "st"
              rw [decide_eq_true rfl]
              exact .base q sb
          · refine ⟨tx, 390, 9, rfl, b1, ⟨by decide, by decide⟩, by decide, ?_⟩
            unfold rpRes
            rw [b2, b3, if_pos rfl, if_pos rfl, b4]
            intro h2 sb
            refine ⟨T.ec_InvalidText, T.xm_InvalidText_SharenetError, fun a => ?_⟩
            walk_at "st"
            refine go_isE T.is_InvalidText_DuplicateName ?_
            walk_at "st"
            refine go_isE T.is_InvalidText_InvalidText ?_
            walk_at "st"
            rw [decide_eq_true wy]
            exact .base q sb
      · intro N hN
        obtain ⟨d, dr, rfl⟩ : ∃ d dr, ds = d :: dr := by
          cases ds with
          | nil => simp at l5
          | cons d dr => exact ⟨d, dr, rfl⟩
        have hd := ok d List.mem_cons_self
        have hr := fun x hx => ok x (List.mem_cons_of_mem d hx)
        rw [List.map_cons, List.flatten_cons] at tl2
        have lt : (d.line ++ (dr.map Df.line).flatten).length ≤ 1000000 := by omega
        have tx0 : ((d :: dr).map Df.line).flatten = d.line ++ (dr.map Df.line).flatten := by rw [List.map_cons, List.flatten_cons]
        refine go_dec (fun c => ?_) (fun c => ?_)
        · obtain ⟨mk, pre, post, em, et, no, lm3, bk⟩ := brk_any hd dr hr lt ((dg : Int) / 15 % 4) (by omega)
          rw [tx0, et]
          rw [et] at tl2
          have tl3 : pre.length + (mk.length + post.length) ≤ 300000 := by simpa using tl2
          walk_at "st"
          refine go_index pre post rfl no ?_
          have c1 : cut (pre ++ (mk ++ post)) none (some (pre.length : Int)) = pre := by rw [cut_to, List.take_left]
          have c2 : cut (pre ++ (mk ++ post)) (some ((pre.length : Int) + (mk.length : Int))) none = post := by
            rw [show ((pre.length : Int) + (mk.length : Int)) = ((pre.length + mk.length : Nat) : Int) by omega, cut_from, ← List.append_assoc, show pre.length + mk.length = (pre ++ mk).length by simp, List.drop_left]
          walk_at "st"
          rw [c1]
          walk_at "st"
          rw [c2]
          walk_at "st"
          exact hN _ _ ⟨rfl, _, _, _, rfl, .inr ⟨c, bk⟩⟩
        · walk_at "st"
          exact hN _ _ ⟨rfl, _, none, none, rfl, .inl ⟨c, rfl⟩⟩
    · intro N hN
      have stay : N ([some (.scr (ns.map W.int)), some (.lst (natsW ms)), some (.int (dg : Nat)), some (.ref p), none, some (.int ((dg : Int) / 5 % 3)), some (.int (j1 : Nat)), some (.int (j2 : Nat))] ++ List.replicate 10 none) (updW h p (.lst (ds.map Df.w))) := hN _ _ ⟨ds, l5, ok, rfl, rfl⟩
      walk_at "st"
      refine go_dec (fun c => ?_) (fun c => ?_)
      · walk_at "st"
        refine go_ndec (fun c2 => ?_) (fun c2 => ?_)
        · have i2 : ixN (ds.map Df.w).length (j2 : Int) = some j2 := by unfold ixN; rw [if_pos (by omega), if_pos (by rw [lds]; omega)]; simp
          walk_at "st"
          refine hN _ _ ⟨ds.set j2 ⟨ds[j1].x, ds[j2].k, ds[j2].t⟩, by simpa using l5, fun d hd => ?_, rfl, ?_⟩
          · rcases List.mem_or_eq_of_mem_set hd with z | z
            · exact ok d z
            · subst z
              have o1 := ok _ (List.getElem_mem hj1)
              have o2 := ok _ (List.getElem_mem hj2)
              exact ⟨o1.nm, o2.kd, o2.tm, o2.ds, o2.dp, o2.sz⟩
          · rw [updW_upd, List.map_set]; rfl
        · walk_at "st"
          exact stay
      · walk_at "st"
        exact stay
end

/-! ## what the top has written -/
theorem all_mk {P : Program} {w : World} {K : PySem.W.Frag} {h : Heap} {mg : Str → Option Value} (X : K.In h) (G : h.Ns mainGlobals mg)
    {I0 : Addr} (ia0 : PySem.W.nsIn K mainGlobals "Cursor" = some (some (.ref I0))) (ip0 : PySem.W.plainGet K I0 Str.empty = true) (ih0 : PySem.W.hasDictIn K I0 = true) (io0 : PySem.W.plainOver K I0 = true) (is0 : PySem.W.findIn K (.ref I0) "__setattr__" = some (some (.builtin "object.__setattr__")))
    (im0 : PySem.W.makesIn K I0 = true) (ik0 : PySem.W.keepIn K (.ref I0) = true)
    (in0_0 : PySem.W.findIn K (.ref I0) "at" = some none)
    (in0_1 : PySem.W.findIn K (.ref I0) "tokens" = some none)
    {f0 : Addr} {od0 an0 : Option Addr} {sl0 : Array (Option Value)} {oc0 kV0 dc0 pm0 cd0 ct0 : Value} (a0_0 : PySem.W.nsIn K mainGlobals "is_name" = some (some (.ref f0))) (l0 : K.lookup f0 = some ⟨oc0, od0, .func (PySem.W.fnOf "is_name" "is_name" (defArgs s_is_name) (defBody s_is_name) (defScope s_is_name) .none kV0 dc0 pm0 an0 cd0 ct0), sl0⟩) (c0 : PySem.W.codeIn K cd0 "is_name" = true) (k0 : PySem.W.keepIn K (.ref f0) = true)
    {f1 : Addr} {od1 an1 : Option Addr} {sl1 : Array (Option Value)} {oc1 kV1 dc1 pm1 cd1 ct1 : Value} (a1_0 : PySem.W.nsIn K mainGlobals "divided_tokens" = some (some (.ref f1))) (l1 : K.lookup f1 = some ⟨oc1, od1, .func (PySem.W.fnOf "divided_tokens" "divided_tokens" (defArgs s_divided_tokens) (defBody s_divided_tokens) (defScope s_divided_tokens) .none kV1 dc1 pm1 an1 cd1 ct1), sl1⟩) (c1 : PySem.W.codeIn K cd1 "divided_tokens" = true) (k1 : PySem.W.keepIn K (.ref f1) = true)
    {f2 : Addr} {od2 an2 : Option Addr} {sl2 : Array (Option Value)} {oc2 kV2 dc2 pm2 cd2 ct2 : Value} (a2_0 : PySem.W.nsIn K mainGlobals "is_number" = some (some (.ref f2))) (l2 : K.lookup f2 = some ⟨oc2, od2, .func (PySem.W.fnOf "is_number" "is_number" (defArgs s_is_number) (defBody s_is_number) (defScope s_is_number) .none kV2 dc2 pm2 an2 cd2 ct2), sl2⟩) (c2 : PySem.W.codeIn K cd2 "is_number" = true) (k2 : PySem.W.keepIn K (.ref f2) = true)
    {f3 : Addr} {od3 an3 : Option Addr} {sl3 : Array (Option Value)} {oc3 kV3 dc3 pm3 cd3 ct3 : Value} (a3_0 : PySem.W.nsIn K mainGlobals "_token_at" = some (some (.ref f3))) (l3 : K.lookup f3 = some ⟨oc3, od3, .func (PySem.W.fnOf "_token_at" "_token_at" (defArgs s__token_at) (defBody s__token_at) (defScope s__token_at) .none kV3 dc3 pm3 an3 cd3 ct3), sl3⟩) (c3 : PySem.W.codeIn K cd3 "_token_at" = true) (k3 : PySem.W.keepIn K (.ref f3) = true)
    {f4 : Addr} {od4 an4 : Option Addr} {sl4 : Array (Option Value)} {oc4 kV4 dc4 pm4 cd4 ct4 : Value} (a4_0 : PySem.W.nsIn K mainGlobals "_word_at" = some (some (.ref f4))) (l4 : K.lookup f4 = some ⟨oc4, od4, .func (PySem.W.fnOf "_word_at" "_word_at" (defArgs s__word_at) (defBody s__word_at) (defScope s__word_at) .none kV4 dc4 pm4 an4 cd4 ct4), sl4⟩) (c4 : PySem.W.codeIn K cd4 "_word_at" = true) (k4 : PySem.W.keepIn K (.ref f4) = true)
    {f5 : Addr} {od5 an5 : Option Addr} {sl5 : Array (Option Value)} {oc5 kV5 dc5 pm5 cd5 ct5 : Value} (a5_0 : PySem.W.nsIn K mainGlobals "_is_letter_or_digit" = some (some (.ref f5))) (l5 : K.lookup f5 = some ⟨oc5, od5, .func (PySem.W.fnOf "_is_letter_or_digit" "_is_letter_or_digit" (defArgs s__is_letter_or_digit) (defBody s__is_letter_or_digit) (defScope s__is_letter_or_digit) .none kV5 dc5 pm5 an5 cd5 ct5), sl5⟩) (c5 : PySem.W.codeIn K cd5 "_is_letter_or_digit" = true) (k5 : PySem.W.keepIn K (.ref f5) = true)
    {f6 : Addr} {od6 an6 : Option Addr} {sl6 : Array (Option Value)} {oc6 kV6 dc6 pm6 cd6 ct6 : Value} (a6_0 : PySem.W.nsIn K mainGlobals "_is_word" = some (some (.ref f6))) (l6 : K.lookup f6 = some ⟨oc6, od6, .func (PySem.W.fnOf "_is_word" "_is_word" (defArgs s__is_word) (defBody s__is_word) (defScope s__is_word) .none kV6 dc6 pm6 an6 cd6 ct6), sl6⟩) (c6 : PySem.W.codeIn K cd6 "_is_word" = true) (k6 : PySem.W.keepIn K (.ref f6) = true)
    {f7 : Addr} {od7 an7 : Option Addr} {sl7 : Array (Option Value)} {oc7 kV7 dc7 pm7 cd7 ct7 : Value} (a7 : PySem.W.findIn K (.ref I0) "__init__" = some (some (.ref f7))) (l7 : K.lookup f7 = some ⟨oc7, od7, .func (PySem.W.fnOf "__init__" "Cursor.__init__" (defArgs s_Cursor___init__) (defBody s_Cursor___init__) (defScope s_Cursor___init__) .none kV7 dc7 pm7 an7 cd7 ct7), sl7⟩) (c7 : PySem.W.codeIn K cd7 "Cursor.__init__" = true) (k7 : PySem.W.keepIn K (.ref f7) = true) (e7 : PySem.W.isFn K (.ref f7) = true)
    {f8 : Addr} {od8 an8 : Option Addr} {sl8 : Array (Option Value)} {oc8 kV8 dc8 pm8 cd8 ct8 : Value} (a8 : PySem.W.findIn K (.ref I0) "ahead" = some (some (.ref f8))) (l8 : K.lookup f8 = some ⟨oc8, od8, .func (PySem.W.fnOf "ahead" "Cursor.ahead" (defArgs s_Cursor_ahead) (defBody s_Cursor_ahead) (defScope s_Cursor_ahead) .none kV8 dc8 pm8 an8 cd8 ct8), sl8⟩) (c8 : PySem.W.codeIn K cd8 "Cursor.ahead" = true) (k8 : PySem.W.keepIn K (.ref f8) = true) (e8 : PySem.W.isFn K (.ref f8) = true)
    {f9 : Addr} {od9 an9 : Option Addr} {sl9 : Array (Option Value)} {oc9 kV9 dc9 pm9 cd9 ct9 : Value} (a9 : PySem.W.findIn K (.ref I0) "taken" = some (some (.ref f9))) (l9 : K.lookup f9 = some ⟨oc9, od9, .func (PySem.W.fnOf "taken" "Cursor.taken" (defArgs s_Cursor_taken) (defBody s_Cursor_taken) (defScope s_Cursor_taken) .none kV9 dc9 pm9 an9 cd9 ct9), sl9⟩) (c9 : PySem.W.codeIn K cd9 "Cursor.taken" = true) (k9 : PySem.W.keepIn K (.ref f9) = true) (e9 : PySem.W.isFn K (.ref f9) = true)
    {f10 : Addr} {od10 an10 : Option Addr} {sl10 : Array (Option Value)} {oc10 kV10 dc10 pm10 cd10 ct10 : Value} (a10 : PySem.W.findIn K (.ref I0) "need" = some (some (.ref f10))) (l10 : K.lookup f10 = some ⟨oc10, od10, .func (PySem.W.fnOf "need" "Cursor.need" (defArgs s_Cursor_need) (defBody s_Cursor_need) (defScope s_Cursor_need) .none kV10 dc10 pm10 an10 cd10 ct10), sl10⟩) (c10 : PySem.W.codeIn K cd10 "Cursor.need" = true) (k10 : PySem.W.keepIn K (.ref f10) = true) (e10 : PySem.W.isFn K (.ref f10) = true)
    {f11 : Addr} {od11 an11 : Option Addr} {sl11 : Array (Option Value)} {oc11 kV11 dc11 pm11 cd11 ct11 : Value} (a11 : PySem.W.findIn K (.ref I0) "needed_name" = some (some (.ref f11))) (l11 : K.lookup f11 = some ⟨oc11, od11, .func (PySem.W.fnOf "needed_name" "Cursor.needed_name" (defArgs s_Cursor_needed_name) (defBody s_Cursor_needed_name) (defScope s_Cursor_needed_name) .none kV11 dc11 pm11 an11 cd11 ct11), sl11⟩) (c11 : PySem.W.codeIn K cd11 "Cursor.needed_name" = true) (k11 : PySem.W.keepIn K (.ref f11) = true) (e11 : PySem.W.isFn K (.ref f11) = true)
    {f12 : Addr} {od12 an12 : Option Addr} {sl12 : Array (Option Value)} {oc12 kV12 dc12 pm12 cd12 ct12 : Value} (a12_0 : PySem.W.nsIn K mainGlobals "_refuse_deep" = some (some (.ref f12))) (l12 : K.lookup f12 = some ⟨oc12, od12, .func (PySem.W.fnOf "_refuse_deep" "_refuse_deep" (defArgs s__refuse_deep) (defBody s__refuse_deep) (defScope s__refuse_deep) .none kV12 dc12 pm12 an12 cd12 ct12), sl12⟩) (c12 : PySem.W.codeIn K cd12 "_refuse_deep" = true) (k12 : PySem.W.keepIn K (.ref f12) = true)
    {f13 : Addr} {od13 an13 : Option Addr} {sl13 : Array (Option Value)} {oc13 kV13 dc13 pm13 cd13 ct13 : Value} (a13_0 : PySem.W.nsIn K mainGlobals "written" = some (some (.ref f13))) (l13 : K.lookup f13 = some ⟨oc13, od13, .func (PySem.W.fnOf "written" "written" (defArgs s_written) (defBody s_written) (defScope s_written) .none kV13 dc13 pm13 an13 cd13 ct13), sl13⟩) (c13 : PySem.W.codeIn K cd13 "written" = true) (k13 : PySem.W.keepIn K (.ref f13) = true)
    {f14 : Addr} {od14 an14 : Option Addr} {sl14 : Array (Option Value)} {oc14 kV14 dc14 pm14 cd14 ct14 : Value} (a14_0 : PySem.W.nsIn K mainGlobals "decimal" = some (some (.ref f14))) (l14 : K.lookup f14 = some ⟨oc14, od14, .func (PySem.W.fnOf "decimal" "decimal" (defArgs s_decimal) (defBody s_decimal) (defScope s_decimal) .none kV14 dc14 pm14 an14 cd14 ct14), sl14⟩) (c14 : PySem.W.codeIn K cd14 "decimal" = true) (k14 : PySem.W.keepIn K (.ref f14) = true)
    {f15 : Addr} {od15 an15 : Option Addr} {sl15 : Array (Option Value)} {oc15 kV15 dc15 pm15 cd15 ct15 : Value} (a15_0 : PySem.W.nsIn K mainGlobals "fun_kind" = some (some (.ref f15))) (l15 : K.lookup f15 = some ⟨oc15, od15, .func (PySem.W.fnOf "fun_kind" "fun_kind" (defArgs s_fun_kind) (defBody s_fun_kind) (defScope s_fun_kind) .none kV15 dc15 pm15 an15 cd15 ct15), sl15⟩) (c15 : PySem.W.codeIn K cd15 "fun_kind" = true) (k15 : PySem.W.keepIn K (.ref f15) = true)
    {f16 : Addr} {od16 an16 : Option Addr} {sl16 : Array (Option Value)} {oc16 kV16 dc16 pm16 cd16 ct16 : Value} (a16_0 : PySem.W.nsIn K mainGlobals "bang_kind" = some (some (.ref f16))) (l16 : K.lookup f16 = some ⟨oc16, od16, .func (PySem.W.fnOf "bang_kind" "bang_kind" (defArgs s_bang_kind) (defBody s_bang_kind) (defScope s_bang_kind) .none kV16 dc16 pm16 an16 cd16 ct16), sl16⟩) (c16 : PySem.W.codeIn K cd16 "bang_kind" = true) (k16 : PySem.W.keepIn K (.ref f16) = true)
    {f17 : Addr} {od17 an17 : Option Addr} {sl17 : Array (Option Value)} {oc17 kV17 dc17 pm17 cd17 ct17 : Value} (a17_0 : PySem.W.nsIn K mainGlobals "pair_kind" = some (some (.ref f17))) (l17 : K.lookup f17 = some ⟨oc17, od17, .func (PySem.W.fnOf "pair_kind" "pair_kind" (defArgs s_pair_kind) (defBody s_pair_kind) (defScope s_pair_kind) .none kV17 dc17 pm17 an17 cd17 ct17), sl17⟩) (c17 : PySem.W.codeIn K cd17 "pair_kind" = true) (k17 : PySem.W.keepIn K (.ref f17) = true)
    {f18 : Addr} {od18 an18 : Option Addr} {sl18 : Array (Option Value)} {oc18 kV18 dc18 pm18 cd18 ct18 : Value} (a18_0 : PySem.W.nsIn K mainGlobals "kind_text" = some (some (.ref f18))) (l18 : K.lookup f18 = some ⟨oc18, od18, .func (PySem.W.fnOf "kind_text" "kind_text" (defArgs s_kind_text) (defBody s_kind_text) (defScope s_kind_text) .none kV18 dc18 pm18 an18 cd18 ct18), sl18⟩) (c18 : PySem.W.codeIn K cd18 "kind_text" = true) (k18 : PySem.W.keepIn K (.ref f18) = true)
    {f19 : Addr} {od19 an19 : Option Addr} {sl19 : Array (Option Value)} {oc19 kV19 dc19 pm19 cd19 ct19 : Value} (a19_0 : PySem.W.nsIn K mainGlobals "pieces_kinds" = some (some (.ref f19))) (l19 : K.lookup f19 = some ⟨oc19, od19, .func (PySem.W.fnOf "_pieces" "_pieces" (defArgs s__pieces_kinds) (defBody s__pieces_kinds) (defScope s__pieces_kinds) .none kV19 dc19 pm19 an19 cd19 ct19), sl19⟩) (c19 : PySem.W.codeIn K cd19 "_pieces" = true) (k19 : PySem.W.keepIn K (.ref f19) = true)
    {f20 : Addr} {od20 an20 : Option Addr} {sl20 : Array (Option Value)} {oc20 kV20 dc20 pm20 cd20 ct20 : Value} (a20_0 : PySem.W.nsIn K mainGlobals "read_program" = some (some (.ref f20))) (l20 : K.lookup f20 = some ⟨oc20, od20, .func (PySem.W.fnOf "read_program" "read_program" (defArgs s_read_program) (defBody s_read_program) (defScope s_read_program) .none kV20 dc20 pm20 an20 cd20 ct20), sl20⟩) (c20 : PySem.W.codeIn K cd20 "read_program" = true) (k20 : PySem.W.keepIn K (.ref f20) = true)
    {f21 : Addr} {od21 an21 : Option Addr} {sl21 : Array (Option Value)} {oc21 kV21 dc21 pm21 cd21 ct21 : Value} (a21_0 : PySem.W.nsIn K mainGlobals "_definition_at" = some (some (.ref f21))) (l21 : K.lookup f21 = some ⟨oc21, od21, .func (PySem.W.fnOf "_definition_at" "_definition_at" (defArgs s__definition_at) (defBody s__definition_at) (defScope s__definition_at) .none kV21 dc21 pm21 an21 cd21 ct21), sl21⟩) (c21 : PySem.W.codeIn K cd21 "_definition_at" = true) (k21 : PySem.W.keepIn K (.ref f21) = true)
    {f22 : Addr} {od22 an22 : Option Addr} {sl22 : Array (Option Value)} {oc22 kV22 dc22 pm22 cd22 ct22 : Value} (a22_0 : PySem.W.nsIn K mainGlobals "_refuse_duplicates" = some (some (.ref f22))) (l22 : K.lookup f22 = some ⟨oc22, od22, .func (PySem.W.fnOf "_refuse_duplicates" "_refuse_duplicates" (defArgs s__refuse_duplicates) (defBody s__refuse_duplicates) (defScope s__refuse_duplicates) .none kV22 dc22 pm22 an22 cd22 ct22), sl22⟩) (c22 : PySem.W.codeIn K cd22 "_refuse_duplicates" = true) (k22 : PySem.W.keepIn K (.ref f22) = true)
    {f23 : Addr} {od23 an23 : Option Addr} {sl23 : Array (Option Value)} {oc23 kV23 dc23 pm23 cd23 ct23 : Value} (a23_0 : PySem.W.nsIn K mainGlobals "_kind_at" = some (some (.ref f23))) (l23 : K.lookup f23 = some ⟨oc23, od23, .func (PySem.W.fnOf "_kind_at" "_kind_at" (defArgs s__kind_at) (defBody s__kind_at) (defScope s__kind_at) .none kV23 dc23 pm23 an23 cd23 ct23), sl23⟩) (c23 : PySem.W.codeIn K cd23 "_kind_at" = true) (k23 : PySem.W.keepIn K (.ref f23) = true)
    {f24 : Addr} {od24 an24 : Option Addr} {sl24 : Array (Option Value)} {oc24 kV24 dc24 pm24 cd24 ct24 : Value} (a24_0 : PySem.W.nsIn K mainGlobals "_tight_kind_at" = some (some (.ref f24))) (l24 : K.lookup f24 = some ⟨oc24, od24, .func (PySem.W.fnOf "_tight_kind_at" "_tight_kind_at" (defArgs s__tight_kind_at) (defBody s__tight_kind_at) (defScope s__tight_kind_at) .none kV24 dc24 pm24 an24 cd24 ct24), sl24⟩) (c24 : PySem.W.codeIn K cd24 "_tight_kind_at" = true) (k24 : PySem.W.keepIn K (.ref f24) = true)
    {f25 : Addr} {od25 an25 : Option Addr} {sl25 : Array (Option Value)} {oc25 kV25 dc25 pm25 cd25 ct25 : Value} (a25_0 : PySem.W.nsIn K mainGlobals "_innermost_kind_at" = some (some (.ref f25))) (l25 : K.lookup f25 = some ⟨oc25, od25, .func (PySem.W.fnOf "_innermost_kind_at" "_innermost_kind_at" (defArgs s__innermost_kind_at) (defBody s__innermost_kind_at) (defScope s__innermost_kind_at) .none kV25 dc25 pm25 an25 cd25 ct25), sl25⟩) (c25 : PySem.W.codeIn K cd25 "_innermost_kind_at" = true) (k25 : PySem.W.keepIn K (.ref f25) = true)
    {f26 : Addr} {od26 an26 : Option Addr} {sl26 : Array (Option Value)} {oc26 kV26 dc26 pm26 cd26 ct26 : Value} (a26_0 : PySem.W.nsIn K mainGlobals "_exclamations_at" = some (some (.ref f26))) (l26 : K.lookup f26 = some ⟨oc26, od26, .func (PySem.W.fnOf "_exclamations_at" "_exclamations_at" (defArgs s__exclamations_at) (defBody s__exclamations_at) (defScope s__exclamations_at) .none kV26 dc26 pm26 an26 cd26 ct26), sl26⟩) (c26 : PySem.W.codeIn K cd26 "_exclamations_at" = true) (k26 : PySem.W.keepIn K (.ref f26) = true)
    {f27 : Addr} {od27 an27 : Option Addr} {sl27 : Array (Option Value)} {oc27 kV27 dc27 pm27 cd27 ct27 : Value} (a27_0 : PySem.W.nsIn K mainGlobals "_term_at" = some (some (.ref f27))) (l27 : K.lookup f27 = some ⟨oc27, od27, .func (PySem.W.fnOf "_term_at" "_term_at" (defArgs s__term_at) (defBody s__term_at) (defScope s__term_at) .none kV27 dc27 pm27 an27 cd27 ct27), sl27⟩) (c27 : PySem.W.codeIn K cd27 "_term_at" = true) (k27 : PySem.W.keepIn K (.ref f27) = true)
    {f28 : Addr} {od28 an28 : Option Addr} {sl28 : Array (Option Value)} {oc28 kV28 dc28 pm28 cd28 ct28 : Value} (a28_0 : PySem.W.nsIn K mainGlobals "_head_at" = some (some (.ref f28))) (l28 : K.lookup f28 = some ⟨oc28, od28, .func (PySem.W.fnOf "_head_at" "_head_at" (defArgs s__head_at) (defBody s__head_at) (defScope s__head_at) .none kV28 dc28 pm28 an28 cd28 ct28), sl28⟩) (c28 : PySem.W.codeIn K cd28 "_head_at" = true) (k28 : PySem.W.keepIn K (.ref f28) = true)
    {f29 : Addr} {od29 an29 : Option Addr} {sl29 : Array (Option Value)} {oc29 kV29 dc29 pm29 cd29 ct29 : Value} (a29_0 : PySem.W.nsIn K mainGlobals "_let_names_at" = some (some (.ref f29))) (l29 : K.lookup f29 = some ⟨oc29, od29, .func (PySem.W.fnOf "_let_names_at" "_let_names_at" (defArgs s__let_names_at) (defBody s__let_names_at) (defScope s__let_names_at) .none kV29 dc29 pm29 an29 cd29 ct29), sl29⟩) (c29 : PySem.W.codeIn K cd29 "_let_names_at" = true) (k29 : PySem.W.keepIn K (.ref f29) = true)
    {f30 : Addr} {od30 an30 : Option Addr} {sl30 : Array (Option Value)} {oc30 kV30 dc30 pm30 cd30 ct30 : Value} (a30_0 : PySem.W.nsIn K mainGlobals "_sum_at" = some (some (.ref f30))) (l30 : K.lookup f30 = some ⟨oc30, od30, .func (PySem.W.fnOf "_sum_at" "_sum_at" (defArgs s__sum_at) (defBody s__sum_at) (defScope s__sum_at) .none kV30 dc30 pm30 an30 cd30 ct30), sl30⟩) (c30 : PySem.W.codeIn K cd30 "_sum_at" = true) (k30 : PySem.W.keepIn K (.ref f30) = true)
    {f31 : Addr} {od31 an31 : Option Addr} {sl31 : Array (Option Value)} {oc31 kV31 dc31 pm31 cd31 ct31 : Value} (a31_0 : PySem.W.nsIn K mainGlobals "_product_at" = some (some (.ref f31))) (l31 : K.lookup f31 = some ⟨oc31, od31, .func (PySem.W.fnOf "_product_at" "_product_at" (defArgs s__product_at) (defBody s__product_at) (defScope s__product_at) .none kV31 dc31 pm31 an31 cd31 ct31), sl31⟩) (c31 : PySem.W.codeIn K cd31 "_product_at" = true) (k31 : PySem.W.keepIn K (.ref f31) = true)
    {f32 : Addr} {od32 an32 : Option Addr} {sl32 : Array (Option Value)} {oc32 kV32 dc32 pm32 cd32 ct32 : Value} (a32_0 : PySem.W.nsIn K mainGlobals "_application_at" = some (some (.ref f32))) (l32 : K.lookup f32 = some ⟨oc32, od32, .func (PySem.W.fnOf "_application_at" "_application_at" (defArgs s__application_at) (defBody s__application_at) (defScope s__application_at) .none kV32 dc32 pm32 an32 cd32 ct32), sl32⟩) (c32 : PySem.W.codeIn K cd32 "_application_at" = true) (k32 : PySem.W.keepIn K (.ref f32) = true)
    {f33 : Addr} {od33 an33 : Option Addr} {sl33 : Array (Option Value)} {oc33 kV33 dc33 pm33 cd33 ct33 : Value} (a33_0 : PySem.W.nsIn K mainGlobals "_begins_box" = some (some (.ref f33))) (l33 : K.lookup f33 = some ⟨oc33, od33, .func (PySem.W.fnOf "_begins_box" "_begins_box" (defArgs s__begins_box) (defBody s__begins_box) (defScope s__begins_box) .none kV33 dc33 pm33 an33 cd33 ct33), sl33⟩) (c33 : PySem.W.codeIn K cd33 "_begins_box" = true) (k33 : PySem.W.keepIn K (.ref f33) = true)
    {f34 : Addr} {od34 an34 : Option Addr} {sl34 : Array (Option Value)} {oc34 kV34 dc34 pm34 cd34 ct34 : Value} (a34_0 : PySem.W.nsIn K mainGlobals "_box_at" = some (some (.ref f34))) (l34 : K.lookup f34 = some ⟨oc34, od34, .func (PySem.W.fnOf "_box_at" "_box_at" (defArgs s__box_at) (defBody s__box_at) (defScope s__box_at) .none kV34 dc34 pm34 an34 cd34 ct34), sl34⟩) (c34 : PySem.W.codeIn K cd34 "_box_at" = true) (k34 : PySem.W.keepIn K (.ref f34) = true)
    {f35 : Addr} {od35 an35 : Option Addr} {sl35 : Array (Option Value)} {oc35 kV35 dc35 pm35 cd35 ct35 : Value} (a35_0 : PySem.W.nsIn K mainGlobals "_innermost_term_at" = some (some (.ref f35))) (l35 : K.lookup f35 = some ⟨oc35, od35, .func (PySem.W.fnOf "_innermost_term_at" "_innermost_term_at" (defArgs s__innermost_term_at) (defBody s__innermost_term_at) (defScope s__innermost_term_at) .none kV35 dc35 pm35 an35 cd35 ct35), sl35⟩) (c35 : PySem.W.codeIn K cd35 "_innermost_term_at" = true) (k35 : PySem.W.keepIn K (.ref f35) = true)
    {f36 : Addr} {od36 an36 : Option Addr} {sl36 : Array (Option Value)} {oc36 kV36 dc36 pm36 cd36 ct36 : Value} (a36_0 : PySem.W.nsIn K mainGlobals "write_term" = some (some (.ref f36))) (l36 : K.lookup f36 = some ⟨oc36, od36, .func (PySem.W.fnOf "write_term" "write_term" (defArgs s_write_term) (defBody s_write_term) (defScope s_write_term) .none kV36 dc36 pm36 an36 cd36 ct36), sl36⟩) (c36 : PySem.W.codeIn K cd36 "write_term" = true) (k36 : PySem.W.keepIn K (.ref f36) = true)
    {f37 : Addr} {od37 an37 : Option Addr} {sl37 : Array (Option Value)} {oc37 kV37 dc37 pm37 cd37 ct37 : Value} (a37_0 : PySem.W.nsIn K mainGlobals "write_program" = some (some (.ref f37))) (l37 : K.lookup f37 = some ⟨oc37, od37, .func (PySem.W.fnOf "write_program" "write_program" (defArgs s_write_program) (defBody s_write_program) (defScope s_write_program) .none kV37 dc37 pm37 an37 cd37 ct37), sl37⟩) (c37 : PySem.W.codeIn K cd37 "write_program" = true) (k37 : PySem.W.keepIn K (.ref f37) = true)
    {f38 : Addr} {od38 an38 : Option Addr} {sl38 : Array (Option Value)} {oc38 kV38 dc38 pm38 cd38 ct38 : Value} (a38_0 : PySem.W.nsIn K mainGlobals "_definition_line" = some (some (.ref f38))) (l38 : K.lookup f38 = some ⟨oc38, od38, .func (PySem.W.fnOf "_definition_line" "_definition_line" (defArgs s__definition_line) (defBody s__definition_line) (defScope s__definition_line) .none kV38 dc38 pm38 an38 cd38 ct38), sl38⟩) (c38 : PySem.W.codeIn K cd38 "_definition_line" = true) (k38 : PySem.W.keepIn K (.ref f38) = true)
    {f39 : Addr} {od39 an39 : Option Addr} {sl39 : Array (Option Value)} {oc39 kV39 dc39 pm39 cd39 ct39 : Value} (a39_0 : PySem.W.nsIn K mainGlobals "_line_of" = some (some (.ref f39))) (l39 : K.lookup f39 = some ⟨oc39, od39, .func (PySem.W.fnOf "_line_of" "_line_of" (defArgs s__line_of) (defBody s__line_of) (defScope s__line_of) .none kV39 dc39 pm39 an39 cd39 ct39), sl39⟩) (c39 : PySem.W.codeIn K cd39 "_line_of" = true) (k39 : PySem.W.keepIn K (.ref f39) = true)
    {f40 : Addr} {od40 an40 : Option Addr} {sl40 : Array (Option Value)} {oc40 kV40 dc40 pm40 cd40 ct40 : Value} (a40_0 : PySem.W.nsIn K mainGlobals "pieces_writer" = some (some (.ref f40))) (l40 : K.lookup f40 = some ⟨oc40, od40, .func (PySem.W.fnOf "_pieces" "_pieces" (defArgs s__pieces_writer) (defBody s__pieces_writer) (defScope s__pieces_writer) .none kV40 dc40 pm40 an40 cd40 ct40), sl40⟩) (c40 : PySem.W.codeIn K cd40 "_pieces" = true) (k40 : PySem.W.keepIn K (.ref f40) = true)
    {f41 : Addr} {od41 an41 : Option Addr} {sl41 : Array (Option Value)} {oc41 kV41 dc41 pm41 cd41 ct41 : Value} (a41_0 : PySem.W.nsIn K mainGlobals "_binder_pieces" = some (some (.ref f41))) (l41 : K.lookup f41 = some ⟨oc41, od41, .func (PySem.W.fnOf "_binder_pieces" "_binder_pieces" (defArgs s__binder_pieces) (defBody s__binder_pieces) (defScope s__binder_pieces) .none kV41 dc41 pm41 an41 cd41 ct41), sl41⟩) (c41 : PySem.W.codeIn K cd41 "_binder_pieces" = true) (k41 : PySem.W.keepIn K (.ref f41) = true)
    {f42 : Addr} {od42 an42 : Option Addr} {sl42 : Array (Option Value)} {oc42 kV42 dc42 pm42 cd42 ct42 : Value} (a42_0 : PySem.W.nsIn K mainGlobals "_plain_pieces" = some (some (.ref f42))) (l42 : K.lookup f42 = some ⟨oc42, od42, .func (PySem.W.fnOf "_plain_pieces" "_plain_pieces" (defArgs s__plain_pieces) (defBody s__plain_pieces) (defScope s__plain_pieces) .none kV42 dc42 pm42 an42 cd42 ct42), sl42⟩) (c42 : PySem.W.codeIn K cd42 "_plain_pieces" = true) (k42 : PySem.W.keepIn K (.ref f42) = true)
    {f43 : Addr} {od43 an43 : Option Addr} {sl43 : Array (Option Value)} {oc43 kV43 dc43 pm43 cd43 ct43 : Value} (a43_0 : PySem.W.nsIn K mainGlobals "_law_cell" = some (some (.ref f43))) (l43 : K.lookup f43 = some ⟨oc43, od43, .func (PySem.W.fnOf "_law_cell" "_law_cell" (defArgs s__law_cell) (defBody s__law_cell) (defScope s__law_cell) .none kV43 dc43 pm43 an43 cd43 ct43), sl43⟩) (c43 : PySem.W.codeIn K cd43 "_law_cell" = true) (k43 : PySem.W.keepIn K (.ref f43) = true)
    {f44 : Addr} {od44 an44 : Option Addr} {sl44 : Array (Option Value)} {oc44 kV44 dc44 pm44 cd44 ct44 : Value} (a44_0 : PySem.W.nsIn K mainGlobals "_law_numbers" = some (some (.ref f44))) (l44 : K.lookup f44 = some ⟨oc44, od44, .func (PySem.W.fnOf "_law_numbers" "_law_numbers" (defArgs s__law_numbers) (defBody s__law_numbers) (defScope s__law_numbers) .none kV44 dc44 pm44 an44 cd44 ct44), sl44⟩) (c44 : PySem.W.codeIn K cd44 "_law_numbers" = true) (k44 : PySem.W.keepIn K (.ref f44) = true)
    {f45 : Addr} {od45 an45 : Option Addr} {sl45 : Array (Option Value)} {oc45 kV45 dc45 pm45 cd45 ct45 : Value} (a45_0 : PySem.W.nsIn K mainGlobals "_law_name" = some (some (.ref f45))) (l45 : K.lookup f45 = some ⟨oc45, od45, .func (PySem.W.fnOf "_law_name" "_law_name" (defArgs s__law_name) (defBody s__law_name) (defScope s__law_name) .none kV45 dc45 pm45 an45 cd45 ct45), sl45⟩) (c45 : PySem.W.codeIn K cd45 "_law_name" = true) (k45 : PySem.W.keepIn K (.ref f45) = true)
    {f46 : Addr} {od46 an46 : Option Addr} {sl46 : Array (Option Value)} {oc46 kV46 dc46 pm46 cd46 ct46 : Value} (a46_0 : PySem.W.nsIn K mainGlobals "_law_any_kind" = some (some (.ref f46))) (l46 : K.lookup f46 = some ⟨oc46, od46, .func (PySem.W.fnOf "_law_any_kind" "_law_any_kind" (defArgs s__law_any_kind) (defBody s__law_any_kind) (defScope s__law_any_kind) .none kV46 dc46 pm46 an46 cd46 ct46), sl46⟩) (c46 : PySem.W.codeIn K cd46 "_law_any_kind" = true) (k46 : PySem.W.keepIn K (.ref f46) = true)
    {f47 : Addr} {od47 an47 : Option Addr} {sl47 : Array (Option Value)} {oc47 kV47 dc47 pm47 cd47 ct47 : Value} (a47_0 : PySem.W.nsIn K mainGlobals "_law_pop" = some (some (.ref f47))) (l47 : K.lookup f47 = some ⟨oc47, od47, .func (PySem.W.fnOf "_law_pop" "_law_pop" (defArgs s__law_pop) (defBody s__law_pop) (defScope s__law_pop) .none kV47 dc47 pm47 an47 cd47 ct47), sl47⟩) (c47 : PySem.W.codeIn K cd47 "_law_pop" = true) (k47 : PySem.W.keepIn K (.ref f47) = true)
    {f48 : Addr} {od48 an48 : Option Addr} {sl48 : Array (Option Value)} {oc48 kV48 dc48 pm48 cd48 ct48 : Value} (a48_0 : PySem.W.nsIn K mainGlobals "_law_any_term" = some (some (.ref f48))) (l48 : K.lookup f48 = some ⟨oc48, od48, .func (PySem.W.fnOf "_law_any_term" "_law_any_term" (defArgs s__law_any_term) (defBody s__law_any_term) (defScope s__law_any_term) .none kV48 dc48 pm48 an48 cd48 ct48), sl48⟩) (c48 : PySem.W.codeIn K cd48 "_law_any_term" = true) (k48 : PySem.W.keepIn K (.ref f48) = true)
    {f49 : Addr} {od49 an49 : Option Addr} {sl49 : Array (Option Value)} {oc49 kV49 dc49 pm49 cd49 ct49 : Value} (a49_0 : PySem.W.nsIn K mainGlobals "law" = some (some (.ref f49))) (l49 : K.lookup f49 = some ⟨oc49, od49, .func (PySem.W.fnOf "law" "law" (defArgs s_law) (defBody s_law) (defScope s_law) .none kV49 dc49 pm49 an49 cd49 ct49), sl49⟩) (c49 : PySem.W.codeIn K cd49 "law" = true) (k49 : PySem.W.keepIn K (.ref f49) = true)
    {C0 : Addr} {cd0 : ClassData} (ga0 : PySem.W.nsIn K mainGlobals "DuplicateName" = some (some (.ref C0))) (gb0 : PySem.W.subIn K (.ref C0) (.type "BaseException") = some true) (gt0 : PySem.W.typeIn K (.ref C0) = some (.type "type")) (gc0 : PySem.W.clsIn K C0 = some cd0)
    {Xnm0 : Str} {Xq0 : Str} {XN0 : Addr} {Xbs0 : List Value} {Xbm0 : List Value} {Xsn0 : List Str} {Xsub0 : List Value} {Xab0 : Bool} {Xcol0 : Option Bool} {Xdd0 : Option Addr} {Xk00 : Option Value} {Xk10 : Option Value} {Xk20 : Option Value} {Xk30 : Option Value} {Xk50 : Option Value} {Xf0 : Addr} {Xoc0 : Value} {Xod0 : Option Addr} {Xosl0 : Array (Option Value)} {XkV0 : Value} {Xdoc0 : Value} {Xpm0 : Value} {Xct0 : Value} {Xan0 : Option Addr} {Xcda0 : Addr} {Xcc0 : Addr} {Xccl0 : Value} {Xcdd0 : Option Addr} {Xvs0 : Array Value} {Xccs0 : Array (Option Value)} {Xfile0 : Str} {Xtf0 : Tok} {Xcl0 : Value} {Xcld0 : Option Addr} {Xcsl0 : Array (Option Value)} (xlc0 : K.lookup C0 = some (excClassObj Xnm0 Xq0 C0 XN0 Xbs0 Xbm0 true Xsn0 Xsub0 Xab0 Xcol0 Xdd0 Xk00 Xk10 Xk20 Xk30 Xk50 "ValueError.__new__")) (xrv0 : PySem.HandSPX.refsVE Xbm0 = true) (xsa0 : PySem.W.findIn K (.ref C0) "__setattr__" = some (some (.builtin "object.__setattr__"))) (xkc0 : PySem.W.keepIn K (.ref C0) = true) (xin0 : PySem.W.findIn K (.ref C0) "__init__" = some (some (.ref Xf0))) (xty0 : PySem.W.typeIn K (.ref Xf0) = some (.type "function")) (xlf0 : K.lookup Xf0 = some ⟨Xoc0, Xod0, .func (PySem.W.ksFn "__init__" "DuplicateName.__init__" (defArgs s_DuplicateName___init__) (defBody s_DuplicateName___init__) (defScope s_DuplicateName___init__) .none XkV0 Xdoc0 Xpm0 Xan0 (.ref Xcda0) Xct0 Xcc0), Xosl0⟩) (xco0 : PySem.W.codeIn K (.ref Xcda0) "DuplicateName.__init__" = true) (xlk0 : K.lookup Xcda0 = some ⟨Xccl0, Xcdd0, .fields Xvs0, Xccs0⟩) (xvf0 : Xvs0[2]? = some (.str Xfile0 Xtf0)) (xpf0 : ((P.main.file : Str) == Xfile0) = true) (xll0 : K.lookup Xcc0 = some ⟨Xcl0, Xcld0, .cell (some (.ref C0)), Xcsl0⟩) (xtp0 : (P.main.scope.names.lookup ("super" : Str)).isSome = false) (xgl0 : PySem.W.nsIn K mainGlobals "super" = some none) (xsu0 : PySem.W.ks_superIn K C0 C0 "__init__" = some (some (.builtin "ValueError.__init__"))) (xsb0 : PySem.W.subIn K (.ref C0) (.type "ValueError") = some true) (xmr0 : PySem.W.mroIn K C0 (.ref C0) = some true) (xst0 : PySem.W.nsIn K PySem.cStatics "thirdparty.any" = some none) (xno0 : PySem.W.findIn K (.ref C0) "name" = some none)
    {C1 : Addr} {cd1 : ClassData} (ga1 : PySem.W.nsIn K mainGlobals "InvalidText" = some (some (.ref C1))) (gb1 : PySem.W.subIn K (.ref C1) (.type "BaseException") = some true) (gt1 : PySem.W.typeIn K (.ref C1) = some (.type "type")) (gc1 : PySem.W.clsIn K C1 = some cd1)
    (gx1 : PySem.W.excIn K C1 [.type "ValueError", .type "Exception", .type "BaseException", .type "object"] "ValueError.__new__" = true) (gk1 : PySem.W.keepIn K (.ref C1) = true)
    {C2 : Addr} {cd2 : ClassData} (ga2 : PySem.W.nsIn K mainGlobals "SharenetError" = some (some (.ref C2))) (gb2 : PySem.W.subIn K (.ref C2) (.type "BaseException") = some true) (gt2 : PySem.W.typeIn K (.ref C2) = some (.type "type")) (gc2 : PySem.W.clsIn K C2 = some cd2)
    {C3 : Addr} {cd3 : ClassData} (ga3 : PySem.W.nsIn K mainGlobals "TooLarge" = some (some (.ref C3))) (gb3 : PySem.W.subIn K (.ref C3) (.type "BaseException") = some true) (gt3 : PySem.W.typeIn K (.ref C3) = some (.type "type")) (gc3 : PySem.W.clsIn K C3 = some cd3)
    (gx3 : PySem.W.excIn K C3 [.type "ValueError", .type "Exception", .type "BaseException", .type "object"] "ValueError.__new__" = true) (gk3 : PySem.W.keepIn K (.ref C3) = true)
    (hg0 : PySem.W.findIn K (.ref C0) "__getattribute__" = some (some (.builtin "BaseException.__getattribute__"))) (hk0 : PySem.W.findIn K (.ref C0) "__getattr__" = some none) (hs0 : PySem.W.subIn K (.ref C0) (.type "BaseException") = some true) (hd0 : PySem.W.hasDictIn K C0 = true) (ha0 : PySem.W.findIn K (.ref C0) "__class__" = some (some (.builtin "object.__class__"))) (hn0 : PySem.W.specialIn K (.builtin "object.__class__") "__get__" = some (some (.builtin "getset_descriptor.__get__"))) (ht0 : PySem.W.takesIn K (.builtin "object.__class__") = some true) (hm0 : PySem.W.mroIn K C0 (.type "object") = some true)
    (su0_2 : PySem.W.subIn K (.ref C0) (.ref C2) = some true) (ne0_2 : (Value.ref C0 == Value.ref C2) = false)
    (su0_0 : PySem.W.subIn K (.ref C0) (.ref C0) = some true) (ne0_0 : (Value.ref C0 == Value.ref C0) = true)
    (su0_1 : PySem.W.subIn K (.ref C0) (.ref C1) = some false) (ne0_1 : (Value.ref C0 == Value.ref C1) = false)
    (hg1 : PySem.W.findIn K (.ref C1) "__getattribute__" = some (some (.builtin "BaseException.__getattribute__"))) (hk1 : PySem.W.findIn K (.ref C1) "__getattr__" = some none) (hs1 : PySem.W.subIn K (.ref C1) (.type "BaseException") = some true) (hd1 : PySem.W.hasDictIn K C1 = true) (ha1 : PySem.W.findIn K (.ref C1) "__class__" = some (some (.builtin "object.__class__"))) (hn1 : PySem.W.specialIn K (.builtin "object.__class__") "__get__" = some (some (.builtin "getset_descriptor.__get__"))) (ht1 : PySem.W.takesIn K (.builtin "object.__class__") = some true) (hm1 : PySem.W.mroIn K C1 (.type "object") = some true)
    (su1_2 : PySem.W.subIn K (.ref C1) (.ref C2) = some true) (ne1_2 : (Value.ref C1 == Value.ref C2) = false)
    (su1_0 : PySem.W.subIn K (.ref C1) (.ref C0) = some false) (ne1_0 : (Value.ref C1 == Value.ref C0) = false)
    (su1_1 : PySem.W.subIn K (.ref C1) (.ref C1) = some true) (ne1_1 : (Value.ref C1 == Value.ref C1) = true)
    (hg3 : PySem.W.findIn K (.ref C3) "__getattribute__" = some (some (.builtin "BaseException.__getattribute__"))) (hk3 : PySem.W.findIn K (.ref C3) "__getattr__" = some none) (hs3 : PySem.W.subIn K (.ref C3) (.type "BaseException") = some true) (hd3 : PySem.W.hasDictIn K C3 = true) (ha3 : PySem.W.findIn K (.ref C3) "__class__" = some (some (.builtin "object.__class__"))) (hn3 : PySem.W.specialIn K (.builtin "object.__class__") "__get__" = some (some (.builtin "getset_descriptor.__get__"))) (ht3 : PySem.W.takesIn K (.builtin "object.__class__") = some true) (hm3 : PySem.W.mroIn K C3 (.type "object") = some true)
    (su3_2 : PySem.W.subIn K (.ref C3) (.ref C2) = some true) (ne3_2 : (Value.ref C3 == Value.ref C2) = false)
    (su3_0 : PySem.W.subIn K (.ref C3) (.ref C0) = some false) (ne3_0 : (Value.ref C3 == Value.ref C0) = false)
    (su3_1 : PySem.W.subIn K (.ref C3) (.ref C1) = some false) (ne3_1 : (Value.ref C3 == Value.ref C1) = false)
    {tc0 : Tok} (co0 : PySem.W.nsIn K mainGlobals "DIGITS" = some (some (.str (mkS digitsS) tc0)))
    {tca1 : Addr} {dd1 : Option Addr} {nn1 : Nat} {ss1 : Array (Option Value)} {tk1_0 : Tok} (co1 : PySem.W.nsIn K mainGlobals "INT" = some (some (.ref tca1))) (cl1 : K.lookup tca1 = some ⟨.type "tuple", dd1, .seq #[.str (mkS z_int) tk1_0] nn1, ss1⟩)
    {tc2 : Tok} (co2 : PySem.W.nsIn K mainGlobals "LOWER_LETTERS" = some (some (.str (mkS lettersS) tc2)))
    {tca3 : Addr} {dd3 : Option Addr} {nn3 : Nat} {ss3 : Array (Option Value)} {tk3_0 tk3_1 tk3_2 : Tok} (co3 : PySem.W.nsIn K mainGlobals "RESERVED_WORDS" = some (some (.ref tca3))) (cl3 : K.lookup tca3 = some ⟨.type "tuple", dd3, .seq #[.str (mkS wLet) tk3_0, .str (mkS wIn) tk3_1, .str (mkS wDef) tk3_2] nn3, ss3⟩)
    {tc4 : Tok} (co4 : PySem.W.nsIn K mainGlobals "_BLANKS" = some (some (.str (mkS z_x20x0a) tc4)))
    {tc5 : Tok} (co5 : PySem.W.nsIn K mainGlobals "_CHUNK" = some (some (.int 10000000000000000000000000000000000000000000000000000000000000000 tc5)))
    {pd6 : Addr} {es6 : Array DictEntry} {nd6 : Nat} {td6_0 : Tok} {td6_1 : Tok} {td6_2 : Tok} {td6_3 : Tok} {td6_4 : Tok} {td6_5 : Tok} {td6_6 : Tok} {td6_7 : Tok} (co6 : PySem.W.nsIn K mainGlobals "_LINE_OF_FORM" = some (some (.ref pd6))) (cl6 : K.lookup pd6 = some ⟨.type "dict", none, .dict es6 nd6, #[]⟩) (ck6 : PySem.W.KeysLit w.params es6.toList) (cx6 : (pd6 == sysModules) = false) (cy6_0 : PySem.W.nsIn K pd6 "lam" = some (some (.int 0 td6_0))) (cy6_1 : PySem.W.nsIn K pd6 "let" = some (some (.int 0 td6_1))) (cy6_2 : PySem.W.nsIn K pd6 "split" = some (some (.int 0 td6_2))) (cy6_3 : PySem.W.nsIn K pd6 "app" = some (some (.int 3 td6_3))) (cy6_4 : PySem.W.nsIn K pd6 "box" = some (some (.int 4 td6_4))) (cy6_5 : PySem.W.nsIn K pd6 "var" = some (some (.int 5 td6_5))) (cy6_6 : PySem.W.nsIn K pd6 "num" = some (some (.int 5 td6_6))) (cy6_7 : PySem.W.nsIn K pd6 "pair" = some (some (.int 5 td6_7))) 
    {pd7 : Addr} {es7 : Array DictEntry} {nd7 : Nat} {td7_0 : Tok} {td7_1 : Tok} {td7_2 : Tok} (co7 : PySem.W.nsIn K mainGlobals "_LINE_OF_SIGN" = some (some (.ref pd7))) (cl7 : K.lookup pd7 = some ⟨.type "dict", none, .dict es7 nd7, #[]⟩) (ck7 : PySem.W.KeysLit w.params es7.toList) (cx7 : (pd7 == sysModules) = false) (cy7_0 : PySem.W.nsIn K pd7 "+" = some (some (.int 1 td7_0))) (cy7_1 : PySem.W.nsIn K pd7 "-" = some (some (.int 1 td7_1))) (cy7_2 : PySem.W.nsIn K pd7 "*" = some (some (.int 2 td7_2))) 
    {tc8 : Tok} (co8 : PySem.W.nsIn K mainGlobals "_LONGEST_NAME" = some (some (.int 8 tc8)))
    {tc9 : Tok} (co9 : PySem.W.nsIn K mainGlobals "_LONGEST_NUMBER" = some (some (.int 9 tc9)))
    {tc10 : Tok} (co10 : PySem.W.nsIn K mainGlobals "_MOST_BEGUN" = some (some (.int 60 tc10)))
    {tc11 : Tok} (co11 : PySem.W.nsIn K mainGlobals "_SIGNS" = some (some (.str (mkS signsS) tc11)))
    {tc12 : Tok} (co12 : PySem.W.nsIn K mainGlobals "_UPPER_LETTERS" = some (some (.str (mkS upperS) tc12)))
    (z0 : PySem.W.nsIn K mainGlobals "abs" = some none)
    (z1 : PySem.W.nsIn K mainGlobals "all" = some none)
    (z2 : PySem.W.nsIn K mainGlobals "int" = some none)
    (z3 : PySem.W.nsIn K mainGlobals "isinstance" = some none)
    (z4 : PySem.W.nsIn K mainGlobals "len" = some none)
    (z5 : PySem.W.nsIn K mainGlobals "range" = some none)
    (z6 : PySem.W.nsIn K mainGlobals "reversed" = some none)
    (z7 : PySem.W.nsIn K mainGlobals "set" = some none)
    (z8 : PySem.W.nsIn K mainGlobals "str" = some none)
    (z9 : PySem.W.nsIn K mainGlobals "super" = some none)
    : Nonempty (Tx P w K mg) :=
  ⟨{
    aC_Cursor := I0, cls_Cursor := ⟨ip0, ih0, io0, is0⟩
    na_Cursor_at := in0_0
    na_Cursor_tokens := in0_1
    a_is_name := f0, fd_is_name := _, F_is_name := fun_mk (st := s_is_name) l0 c0 k0, b_is_name := (fun_mk (st := s_is_name) l0 c0 k0).binds (ps := ["text"]) (fun _ _ _ _ _ _ us hl => match us, hl with | [_], _ => rfl), g_is_name := PySem.W.mg_of X G a0_0
    a_divided_tokens := f1, fd_divided_tokens := _, F_divided_tokens := fun_mk (st := s_divided_tokens) l1 c1 k1, b_divided_tokens := (fun_mk (st := s_divided_tokens) l1 c1 k1).binds (ps := ["text"]) (fun _ _ _ _ _ _ us hl => match us, hl with | [_], _ => rfl), g_divided_tokens := PySem.W.mg_of X G a1_0
    a_is_number := f2, fd_is_number := _, F_is_number := fun_mk (st := s_is_number) l2 c2 k2, b_is_number := (fun_mk (st := s_is_number) l2 c2 k2).binds (ps := ["token"]) (fun _ _ _ _ _ _ us hl => match us, hl with | [_], _ => rfl), g_is_number := PySem.W.mg_of X G a2_0
    a__token_at := f3, fd__token_at := _, F__token_at := fun_mk (st := s__token_at) l3 c3 k3, b__token_at := (fun_mk (st := s__token_at) l3 c3 k3).binds (ps := ["text", "at"]) (fun _ _ _ _ _ _ us hl => match us, hl with | [_, _], _ => rfl), g__token_at := PySem.W.mg_of X G a3_0
    a__word_at := f4, fd__word_at := _, F__word_at := fun_mk (st := s__word_at) l4 c4 k4, b__word_at := (fun_mk (st := s__word_at) l4 c4 k4).binds (ps := ["text", "at"]) (fun _ _ _ _ _ _ us hl => match us, hl with | [_, _], _ => rfl), g__word_at := PySem.W.mg_of X G a4_0
    a__is_letter_or_digit := f5, fd__is_letter_or_digit := _, F__is_letter_or_digit := fun_mk (st := s__is_letter_or_digit) l5 c5 k5, b__is_letter_or_digit := (fun_mk (st := s__is_letter_or_digit) l5 c5 k5).binds (ps := ["sign"]) (fun _ _ _ _ _ _ us hl => match us, hl with | [_], _ => rfl), g__is_letter_or_digit := PySem.W.mg_of X G a5_0
    a__is_word := f6, fd__is_word := _, F__is_word := fun_mk (st := s__is_word) l6 c6 k6, b__is_word := (fun_mk (st := s__is_word) l6 c6 k6).binds (ps := ["word"]) (fun _ _ _ _ _ _ us hl => match us, hl with | [_], _ => rfl), g__is_word := PySem.W.mg_of X G a6_0
    a_Cursor___init__ := f7, fd_Cursor___init__ := _, F_Cursor___init__ := fun_mk (st := s_Cursor___init__) l7 c7 k7, b_Cursor___init__ := (fun_mk (st := s_Cursor___init__) l7 c7 k7).binds (ps := ["self", "text"]) (fun _ _ _ _ _ _ us hl => match us, hl with | [_, _], _ => rfl)
    gC_Cursor := PySem.W.mg_of X G ia0, mk_Cursor := ⟨im0, a7, e7, ik0⟩
    a_Cursor_ahead := f8, fd_Cursor_ahead := _, F_Cursor_ahead := fun_mk (st := s_Cursor_ahead) l8 c8 k8, b_Cursor_ahead := (fun_mk (st := s_Cursor_ahead) l8 c8 k8).binds (ps := ["self"]) (fun _ _ _ _ _ _ us hl => match us, hl with | [_], _ => rfl)
    m_Cursor_ahead := ⟨a8, e8, k8⟩
    a_Cursor_taken := f9, fd_Cursor_taken := _, F_Cursor_taken := fun_mk (st := s_Cursor_taken) l9 c9 k9, b_Cursor_taken := (fun_mk (st := s_Cursor_taken) l9 c9 k9).binds (ps := ["self"]) (fun _ _ _ _ _ _ us hl => match us, hl with | [_], _ => rfl)
    m_Cursor_taken := ⟨a9, e9, k9⟩
    a_Cursor_need := f10, fd_Cursor_need := _, F_Cursor_need := fun_mk (st := s_Cursor_need) l10 c10 k10, b_Cursor_need := (fun_mk (st := s_Cursor_need) l10 c10 k10).binds (ps := ["self", "token"]) (fun _ _ _ _ _ _ us hl => match us, hl with | [_, _], _ => rfl)
    m_Cursor_need := ⟨a10, e10, k10⟩
    a_Cursor_needed_name := f11, fd_Cursor_needed_name := _, F_Cursor_needed_name := fun_mk (st := s_Cursor_needed_name) l11 c11 k11, b_Cursor_needed_name := (fun_mk (st := s_Cursor_needed_name) l11 c11 k11).binds (ps := ["self"]) (fun _ _ _ _ _ _ us hl => match us, hl with | [_], _ => rfl)
    m_Cursor_needed_name := ⟨a11, e11, k11⟩
    a__refuse_deep := f12, fd__refuse_deep := _, F__refuse_deep := fun_mk (st := s__refuse_deep) l12 c12 k12, b__refuse_deep := (fun_mk (st := s__refuse_deep) l12 c12 k12).binds (ps := ["tokens"]) (fun _ _ _ _ _ _ us hl => match us, hl with | [_], _ => rfl), g__refuse_deep := PySem.W.mg_of X G a12_0
    a_written := f13, fd_written := _, F_written := fun_mk (st := s_written) l13 c13 k13, b_written := (fun_mk (st := s_written) l13 c13 k13).binds (ps := ["item", "pieces_of"]) (fun _ _ _ _ _ _ us hl => match us, hl with | [_, _], _ => rfl), g_written := PySem.W.mg_of X G a13_0
    a_decimal := f14, fd_decimal := _, F_decimal := fun_mk (st := s_decimal) l14 c14 k14, b_decimal := (fun_mk (st := s_decimal) l14 c14 k14).binds (ps := ["number"]) (fun _ _ _ _ _ _ us hl => match us, hl with | [_], _ => rfl), g_decimal := PySem.W.mg_of X G a14_0
    a_fun_kind := f15, fd_fun_kind := _, F_fun_kind := fun_mk (st := s_fun_kind) l15 c15 k15, b_fun_kind := (fun_mk (st := s_fun_kind) l15 c15 k15).binds (ps := ["a", "b"]) (fun _ _ _ _ _ _ us hl => match us, hl with | [_, _], _ => rfl), g_fun_kind := PySem.W.mg_of X G a15_0
    a_bang_kind := f16, fd_bang_kind := _, F_bang_kind := fun_mk (st := s_bang_kind) l16 c16 k16, b_bang_kind := (fun_mk (st := s_bang_kind) l16 c16 k16).binds (ps := ["a"]) (fun _ _ _ _ _ _ us hl => match us, hl with | [_], _ => rfl), g_bang_kind := PySem.W.mg_of X G a16_0
    a_pair_kind := f17, fd_pair_kind := _, F_pair_kind := fun_mk (st := s_pair_kind) l17 c17 k17, b_pair_kind := (fun_mk (st := s_pair_kind) l17 c17 k17).binds (ps := ["a", "b"]) (fun _ _ _ _ _ _ us hl => match us, hl with | [_, _], _ => rfl), g_pair_kind := PySem.W.mg_of X G a17_0
    a_kind_text := f18, fd_kind_text := _, F_kind_text := fun_mk (st := s_kind_text) l18 c18 k18, b_kind_text := (fun_mk (st := s_kind_text) l18 c18 k18).binds (ps := ["kind"]) (fun _ _ _ _ _ _ us hl => match us, hl with | [_], _ => rfl), g_kind_text := PySem.W.mg_of X G a18_0
    a__pieces_kinds := f19, fd__pieces_kinds := _, F__pieces_kinds := fun_mk (st := s__pieces_kinds) l19 c19 k19, b__pieces_kinds := (fun_mk (st := s__pieces_kinds) l19 c19 k19).binds (ps := ["item"]) (fun _ _ _ _ _ _ us hl => match us, hl with | [_], _ => rfl), g_pieces_kinds := PySem.W.mg_of X G a19_0
    a_read_program := f20, fd_read_program := _, F_read_program := fun_mk (st := s_read_program) l20 c20 k20, b_read_program := (fun_mk (st := s_read_program) l20 c20 k20).binds (ps := ["text"]) (fun _ _ _ _ _ _ us hl => match us, hl with | [_], _ => rfl), g_read_program := PySem.W.mg_of X G a20_0
    a__definition_at := f21, fd__definition_at := _, F__definition_at := fun_mk (st := s__definition_at) l21 c21 k21, b__definition_at := (fun_mk (st := s__definition_at) l21 c21 k21).binds (ps := ["cursor"]) (fun _ _ _ _ _ _ us hl => match us, hl with | [_], _ => rfl), g__definition_at := PySem.W.mg_of X G a21_0
    a__refuse_duplicates := f22, fd__refuse_duplicates := _, F__refuse_duplicates := fun_mk (st := s__refuse_duplicates) l22 c22 k22, b__refuse_duplicates := (fun_mk (st := s__refuse_duplicates) l22 c22 k22).binds (ps := ["program"]) (fun _ _ _ _ _ _ us hl => match us, hl with | [_], _ => rfl), g__refuse_duplicates := PySem.W.mg_of X G a22_0
    a__kind_at := f23, fd__kind_at := _, F__kind_at := fun_mk (st := s__kind_at) l23 c23 k23, b__kind_at := (fun_mk (st := s__kind_at) l23 c23 k23).binds (ps := ["cursor"]) (fun _ _ _ _ _ _ us hl => match us, hl with | [_], _ => rfl), g__kind_at := PySem.W.mg_of X G a23_0
    a__tight_kind_at := f24, fd__tight_kind_at := _, F__tight_kind_at := fun_mk (st := s__tight_kind_at) l24 c24 k24, b__tight_kind_at := (fun_mk (st := s__tight_kind_at) l24 c24 k24).binds (ps := ["cursor"]) (fun _ _ _ _ _ _ us hl => match us, hl with | [_], _ => rfl), g__tight_kind_at := PySem.W.mg_of X G a24_0
    a__innermost_kind_at := f25, fd__innermost_kind_at := _, F__innermost_kind_at := fun_mk (st := s__innermost_kind_at) l25 c25 k25, b__innermost_kind_at := (fun_mk (st := s__innermost_kind_at) l25 c25 k25).binds (ps := ["cursor"]) (fun _ _ _ _ _ _ us hl => match us, hl with | [_], _ => rfl), g__innermost_kind_at := PySem.W.mg_of X G a25_0
    a__exclamations_at := f26, fd__exclamations_at := _, F__exclamations_at := fun_mk (st := s__exclamations_at) l26 c26 k26, b__exclamations_at := (fun_mk (st := s__exclamations_at) l26 c26 k26).binds (ps := ["cursor"]) (fun _ _ _ _ _ _ us hl => match us, hl with | [_], _ => rfl), g__exclamations_at := PySem.W.mg_of X G a26_0
    a__term_at := f27, fd__term_at := _, F__term_at := fun_mk (st := s__term_at) l27 c27 k27, b__term_at := (fun_mk (st := s__term_at) l27 c27 k27).binds (ps := ["cursor"]) (fun _ _ _ _ _ _ us hl => match us, hl with | [_], _ => rfl), g__term_at := PySem.W.mg_of X G a27_0
    a__head_at := f28, fd__head_at := _, F__head_at := fun_mk (st := s__head_at) l28 c28 k28, b__head_at := (fun_mk (st := s__head_at) l28 c28 k28).binds (ps := ["cursor"]) (fun _ _ _ _ _ _ us hl => match us, hl with | [_], _ => rfl), g__head_at := PySem.W.mg_of X G a28_0
    a__let_names_at := f29, fd__let_names_at := _, F__let_names_at := fun_mk (st := s__let_names_at) l29 c29 k29, b__let_names_at := (fun_mk (st := s__let_names_at) l29 c29 k29).binds (ps := ["cursor"]) (fun _ _ _ _ _ _ us hl => match us, hl with | [_], _ => rfl), g__let_names_at := PySem.W.mg_of X G a29_0
    a__sum_at := f30, fd__sum_at := _, F__sum_at := fun_mk (st := s__sum_at) l30 c30 k30, b__sum_at := (fun_mk (st := s__sum_at) l30 c30 k30).binds (ps := ["cursor"]) (fun _ _ _ _ _ _ us hl => match us, hl with | [_], _ => rfl), g__sum_at := PySem.W.mg_of X G a30_0
    a__product_at := f31, fd__product_at := _, F__product_at := fun_mk (st := s__product_at) l31 c31 k31, b__product_at := (fun_mk (st := s__product_at) l31 c31 k31).binds (ps := ["cursor"]) (fun _ _ _ _ _ _ us hl => match us, hl with | [_], _ => rfl), g__product_at := PySem.W.mg_of X G a31_0
    a__application_at := f32, fd__application_at := _, F__application_at := fun_mk (st := s__application_at) l32 c32 k32, b__application_at := (fun_mk (st := s__application_at) l32 c32 k32).binds (ps := ["cursor"]) (fun _ _ _ _ _ _ us hl => match us, hl with | [_], _ => rfl), g__application_at := PySem.W.mg_of X G a32_0
    a__begins_box := f33, fd__begins_box := _, F__begins_box := fun_mk (st := s__begins_box) l33 c33 k33, b__begins_box := (fun_mk (st := s__begins_box) l33 c33 k33).binds (ps := ["token"]) (fun _ _ _ _ _ _ us hl => match us, hl with | [_], _ => rfl), g__begins_box := PySem.W.mg_of X G a33_0
    a__box_at := f34, fd__box_at := _, F__box_at := fun_mk (st := s__box_at) l34 c34 k34, b__box_at := (fun_mk (st := s__box_at) l34 c34 k34).binds (ps := ["cursor"]) (fun _ _ _ _ _ _ us hl => match us, hl with | [_], _ => rfl), g__box_at := PySem.W.mg_of X G a34_0
    a__innermost_term_at := f35, fd__innermost_term_at := _, F__innermost_term_at := fun_mk (st := s__innermost_term_at) l35 c35 k35, b__innermost_term_at := (fun_mk (st := s__innermost_term_at) l35 c35 k35).binds (ps := ["cursor"]) (fun _ _ _ _ _ _ us hl => match us, hl with | [_], _ => rfl), g__innermost_term_at := PySem.W.mg_of X G a35_0
    a_write_term := f36, fd_write_term := _, F_write_term := fun_mk (st := s_write_term) l36 c36 k36, b_write_term := (fun_mk (st := s_write_term) l36 c36 k36).binds (ps := ["term"]) (fun _ _ _ _ _ _ us hl => match us, hl with | [_], _ => rfl), g_write_term := PySem.W.mg_of X G a36_0
    a_write_program := f37, fd_write_program := _, F_write_program := fun_mk (st := s_write_program) l37 c37 k37, b_write_program := (fun_mk (st := s_write_program) l37 c37 k37).binds (ps := ["program"]) (fun _ _ _ _ _ _ us hl => match us, hl with | [_], _ => rfl), g_write_program := PySem.W.mg_of X G a37_0
    a__definition_line := f38, fd__definition_line := _, F__definition_line := fun_mk (st := s__definition_line) l38 c38 k38, b__definition_line := (fun_mk (st := s__definition_line) l38 c38 k38).binds (ps := ["name", "kind", "term"]) (fun _ _ _ _ _ _ us hl => match us, hl with | [_, _, _], _ => rfl), g__definition_line := PySem.W.mg_of X G a38_0
    a__line_of := f39, fd__line_of := _, F__line_of := fun_mk (st := s__line_of) l39 c39 k39, b__line_of := (fun_mk (st := s__line_of) l39 c39 k39).binds (ps := ["term"]) (fun _ _ _ _ _ _ us hl => match us, hl with | [_], _ => rfl), g__line_of := PySem.W.mg_of X G a39_0
    a__pieces_writer := f40, fd__pieces_writer := _, F__pieces_writer := fun_mk (st := s__pieces_writer) l40 c40 k40, b__pieces_writer := (fun_mk (st := s__pieces_writer) l40 c40 k40).binds (ps := ["item"]) (fun _ _ _ _ _ _ us hl => match us, hl with | [_], _ => rfl), g_pieces_writer := PySem.W.mg_of X G a40_0
    a__binder_pieces := f41, fd__binder_pieces := _, F__binder_pieces := fun_mk (st := s__binder_pieces) l41 c41 k41, b__binder_pieces := (fun_mk (st := s__binder_pieces) l41 c41 k41).binds (ps := ["term"]) (fun _ _ _ _ _ _ us hl => match us, hl with | [_], _ => rfl), g__binder_pieces := PySem.W.mg_of X G a41_0
    a__plain_pieces := f42, fd__plain_pieces := _, F__plain_pieces := fun_mk (st := s__plain_pieces) l42 c42 k42, b__plain_pieces := (fun_mk (st := s__plain_pieces) l42 c42 k42).binds (ps := ["term"]) (fun _ _ _ _ _ _ us hl => match us, hl with | [_], _ => rfl), g__plain_pieces := PySem.W.mg_of X G a42_0
    a__law_cell := f43, fd__law_cell := _, F__law_cell := fun_mk (st := s__law_cell) l43 c43 k43, b__law_cell := (fun_mk (st := s__law_cell) l43 c43 k43).binds (ps := ["script", "k"]) (fun _ _ _ _ _ _ us hl => match us, hl with | [_, _], _ => rfl), g__law_cell := PySem.W.mg_of X G a43_0
    a__law_numbers := f44, fd__law_numbers := _, F__law_numbers := fun_mk (st := s__law_numbers) l44 c44 k44, b__law_numbers := (fun_mk (st := s__law_numbers) l44 c44 k44).binds (ps := ["script", "first", "most"]) (fun _ _ _ _ _ _ us hl => match us, hl with | [_, _, _], _ => rfl), g__law_numbers := PySem.W.mg_of X G a44_0
    a__law_name := f45, fd__law_name := _, F__law_name := fun_mk (st := s__law_name) l45 c45 k45, b__law_name := (fun_mk (st := s__law_name) l45 c45 k45).binds (ps := ["number"]) (fun _ _ _ _ _ _ us hl => match us, hl with | [_], _ => rfl), g__law_name := PySem.W.mg_of X G a45_0
    a__law_any_kind := f46, fd__law_any_kind := _, F__law_any_kind := fun_mk (st := s__law_any_kind) l46 c46 k46, b__law_any_kind := (fun_mk (st := s__law_any_kind) l46 c46 k46).binds (ps := ["number", "deep"]) (fun _ _ _ _ _ _ us hl => match us, hl with | [_, _], _ => rfl), g__law_any_kind := PySem.W.mg_of X G a46_0
    a__law_pop := f47, fd__law_pop := _, F__law_pop := fun_mk (st := s__law_pop) l47 c47 k47, b__law_pop := (fun_mk (st := s__law_pop) l47 c47 k47).binds (ps := ["stack", "other"]) (fun _ _ _ _ _ _ us hl => match us, hl with | [_, _], _ => rfl), g__law_pop := PySem.W.mg_of X G a47_0
    a__law_any_term := f48, fd__law_any_term := _, F__law_any_term := fun_mk (st := s__law_any_term) l48 c48 k48, b__law_any_term := (fun_mk (st := s__law_any_term) l48 c48 k48).binds (ps := ["numbers", "names"]) (fun _ _ _ _ _ _ us hl => match us, hl with | [_, _], _ => rfl), g__law_any_term := PySem.W.mg_of X G a48_0
    a_law := f49, fd_law := _, F_law := fun_mk (st := s_law) l49 c49 k49, b_law := (fun_mk (st := s_law) l49 c49 k49).binds (ps := ["script"]) (fun _ _ _ _ _ _ us hl => match us, hl with | [_], _ => rfl), g_law := PySem.W.mg_of X G a49_0
    aC_DuplicateName := C0, gC_DuplicateName := PySem.W.mg_of X G ga0
    ai_DuplicateName := Xf0, sp_DuplicateName := sup_mk shape_DuplicateName xlf0 xco0 xlk0 xvf0 xpf0 xll0 xtp0 xgl0 ⟨⟨_, _, _, _, _, _, _, _, _, _, _, _, _, _, _, xlc0, xrv0⟩, xsa0, gb0, gt0, xkc0⟩ xin0 xty0 xsu0 xsb0 xmr0 xst0 xno0
    aC_InvalidText := C1, gC_InvalidText := PySem.W.mg_of X G ga1
    x_InvalidText := gx1, k_InvalidText := gk1, b_InvalidText := gb1, t_InvalidText := gt1
    aC_SharenetError := C2, gC_SharenetError := PySem.W.mg_of X G ga2
    aC_TooLarge := C3, gC_TooLarge := PySem.W.mg_of X G ga3
    x_TooLarge := gx3, k_TooLarge := gk3, b_TooLarge := gb3, t_TooLarge := gt3
    ec_DuplicateName := ⟨hg0, hk0, hs0, hd0, ha0, hn0, ht0, hm0⟩
    xm_DuplicateName_SharenetError := exm_of gb2 gt2 (some_is gc2) su0_2
    is_DuplicateName_DuplicateName := kit_me
    is_DuplicateName_InvalidText := kit_of ne0_1 gt1 (some_is gc1) su0_1
    ec_InvalidText := ⟨hg1, hk1, hs1, hd1, ha1, hn1, ht1, hm1⟩
    xm_InvalidText_SharenetError := exm_of gb2 gt2 (some_is gc2) su1_2
    is_InvalidText_DuplicateName := kit_of ne1_0 gt0 (some_is gc0) su1_0
    is_InvalidText_InvalidText := kit_me
    ec_TooLarge := ⟨hg3, hk3, hs3, hd3, ha3, hn3, ht3, hm3⟩
    xm_TooLarge_SharenetError := exm_of gb2 gt2 (some_is gc2) su3_2
    is_TooLarge_DuplicateName := kit_of ne3_0 gt0 (some_is gc0) su3_0
    is_TooLarge_InvalidText := kit_of ne3_1 gt1 (some_is gc1) su3_1
    c_DIGITS := ⟨_, PySem.W.mg_of X G co0⟩
    u_INT := .ref tca1, c_INT := PySem.W.mg_of X G co1, s_INT := Sk.tup cl1 (Nat.le_of_ble_eq_true rfl) (.cons (.str z_int _) .nil)
    c_LOWER_LETTERS := ⟨_, PySem.W.mg_of X G co2⟩
    u_RESERVED_WORDS := .ref tca3, c_RESERVED_WORDS := PySem.W.mg_of X G co3, s_RESERVED_WORDS := Sk.tup cl3 (Nat.le_of_ble_eq_true rfl) (.cons (.str wLet _) (.cons (.str wIn _) (.cons (.str wDef _) .nil)))
    c__BLANKS := ⟨_, PySem.W.mg_of X G co4⟩
    c__CHUNK := ⟨_, PySem.W.mg_of X G co5⟩
    p__LINE_OF_FORM := pd6, gk__LINE_OF_FORM := PySem.W.mg_of X G co6, t__LINE_OF_FORM := ⟨⟨es6, nd6, cl6, ck6⟩, cx6, (.cons cy6_0 (Sk.int _ _) (.cons cy6_1 (Sk.int _ _) (.cons cy6_2 (Sk.int _ _) (.cons cy6_3 (Sk.int _ _) (.cons cy6_4 (Sk.int _ _) (.cons cy6_5 (Sk.int _ _) (.cons cy6_6 (Sk.int _ _) (.cons cy6_7 (Sk.int _ _) .nil)))))))), .nil⟩
    p__LINE_OF_SIGN := pd7, gk__LINE_OF_SIGN := PySem.W.mg_of X G co7, t__LINE_OF_SIGN := ⟨⟨es7, nd7, cl7, ck7⟩, cx7, (.cons cy7_0 (Sk.int _ _) (.cons cy7_1 (Sk.int _ _) (.cons cy7_2 (Sk.int _ _) .nil))), .nil⟩
    c__LONGEST_NAME := ⟨_, PySem.W.mg_of X G co8⟩
    c__LONGEST_NUMBER := ⟨_, PySem.W.mg_of X G co9⟩
    c__MOST_BEGUN := ⟨_, PySem.W.mg_of X G co10⟩
    c__SIGNS := ⟨_, PySem.W.mg_of X G co11⟩
    c__UPPER_LETTERS := ⟨_, PySem.W.mg_of X G co12⟩
    m_abs := PySem.W.mg_none_of X G z0
    m_all := PySem.W.mg_none_of X G z1
    m_int := PySem.W.mg_none_of X G z2
    m_isinstance := PySem.W.mg_none_of X G z3
    m_len := PySem.W.mg_none_of X G z4
    m_range := PySem.W.mg_none_of X G z5
    m_reversed := PySem.W.mg_none_of X G z6
    m_set := PySem.W.mg_none_of X G z7
    m_str := PySem.W.mg_none_of X G z8
    m_super := PySem.W.mg_none_of X G z9 }⟩
theorem fin_mk {P : Program} {w : World} {K : PySem.W.Frag} {mg : Str → Option Value} {fa : Addr} (hfa : mg "law" = some (.ref fa)) (T : Tx P w K mg) :
    ∃ fd : FuncData, (∀ (s : Shared) (v : Value), BindsTo s fd ⟨[v], []⟩ [("script", v)]) ∧ ∀ base : Heap, K.In base → base.Ns mainGlobals mg → FnOk P w K mg base CX0 lawK fa fd ["script"] (lSp K spLaw) := by
  have e := hfa.symm.trans T.g_law
  cases e
  refine ⟨T.fd_law, fun s v => ?_, fun base _ _ => ok_law T⟩
  obtain ⟨oc, od, kV, doc, pm, an, cdv, ct, osl, e, _, _⟩ := T.F_law.ex
  rw [e]
  exact .of_eq rfl
end Lw
open PySem PySem.W PyProof.Rows
set_option maxHeartbeats 0 in
theorem PySem.Challenge.cw_sharenet_k08_program_texts_holds : PySem.Challenge.rw_sharenet_k08_program_texts.Holds := by
  w_on; o_law; k_head; (case hw => w_witness2)
  k_fill
  refine L2.walk_of (l := PySem.Challenge.rw_sharenet_k08_program_texts) (n := 63) (k := Lw.lawK) (x := "script") (CX := fun _ => L2.CX0) (sp := fun w => Wl.lSp _ Lw.spLaw) rfl (by decide) rfl ⟨rfl, by decide, by decide⟩ (fun w h Y => PySem.W.kIn_of Y) ?F
    (fun w H a ns hl ho hS => Wl.hspW Lw.law_sp _ H a ns hl ho hS) (fun _ _ _ _ _ h => h)
  case F =>
    intro w mg fa h KX G hmg
    refine Nonempty.elim ?mk (Lw.fin_mk hmg)
    refine' Lw.all_mk KX G ?ia0 ?ip0 ?ih0 ?io0 ?is0 ?im0 ?ik0 ?in0_0 ?in0_1 ?a0_0 ?l0 ?c0 ?k0 ?a1_0 ?l1 ?c1 ?k1 ?a2_0 ?l2 ?c2 ?k2 ?a3_0 ?l3 ?c3 ?k3 ?a4_0 ?l4 ?c4 ?k4 ?a5_0 ?l5 ?c5 ?k5 ?a6_0 ?l6 ?c6 ?k6 ?a7 ?l7 ?c7 ?k7 ?e7 ?a8 ?l8 ?c8 ?k8 ?e8 ?a9 ?l9 ?c9 ?k9 ?e9 ?a10 ?l10 ?c10 ?k10 ?e10 ?a11 ?l11 ?c11 ?k11 ?e11 ?a12_0 ?l12 ?c12 ?k12 ?a13_0 ?l13 ?c13 ?k13 ?a14_0 ?l14 ?c14 ?k14 ?a15_0 ?l15 ?c15 ?k15 ?a16_0 ?l16 ?c16 ?k16 ?a17_0 ?l17 ?c17 ?k17 ?a18_0 ?l18 ?c18 ?k18 ?a19_0 ?l19 ?c19 ?k19 ?a20_0 ?l20 ?c20 ?k20 ?a21_0 ?l21 ?c21 ?k21 ?a22_0 ?l22 ?c22 ?k22 ?a23_0 ?l23 ?c23 ?k23 ?a24_0 ?l24 ?c24 ?k24 ?a25_0 ?l25 ?c25 ?k25 ?a26_0 ?l26 ?c26 ?k26 ?a27_0 ?l27 ?c27 ?k27 ?a28_0 ?l28 ?c28 ?k28 ?a29_0 ?l29 ?c29 ?k29 ?a30_0 ?l30 ?c30 ?k30 ?a31_0 ?l31 ?c31 ?k31 ?a32_0 ?l32 ?c32 ?k32 ?a33_0 ?l33 ?c33 ?k33 ?a34_0 ?l34 ?c34 ?k34 ?a35_0 ?l35 ?c35 ?k35 ?a36_0 ?l36 ?c36 ?k36 ?a37_0 ?l37 ?c37 ?k37 ?a38_0 ?l38 ?c38 ?k38 ?a39_0 ?l39 ?c39 ?k39 ?a40_0 ?l40 ?c40 ?k40 ?a41_0 ?l41 ?c41 ?k41 ?a42_0 ?l42 ?c42 ?k42 ?a43_0 ?l43 ?c43 ?k43 ?a44_0 ?l44 ?c44 ?k44 ?a45_0 ?l45 ?c45 ?k45 ?a46_0 ?l46 ?c46 ?k46 ?a47_0 ?l47 ?c47 ?k47 ?a48_0 ?l48 ?c48 ?k48 ?a49_0 ?l49 ?c49 ?k49 ?ga0 ?gb0 ?gt0 ?gc0 ?xlc0 ?xrv0 ?xsa0 ?xkc0 ?xin0 ?xty0 ?xlf0 ?xco0 ?xlk0 ?xvf0 ?xpf0 ?xll0 ?xtp0 ?xgl0 ?xsu0 ?xsb0 ?xmr0 ?xst0 ?xno0 ?ga1 ?gb1 ?gt1 ?gc1 ?gx1 ?gk1 ?ga2 ?gb2 ?gt2 ?gc2 ?ga3 ?gb3 ?gt3 ?gc3 ?gx3 ?gk3 ?hg0 ?hk0 ?hs0 ?hd0 ?ha0 ?hn0 ?ht0 ?hm0 ?su0_2 ?ne0_2 ?su0_0 ?ne0_0 ?su0_1 ?ne0_1 ?hg1 ?hk1 ?hs1 ?hd1 ?ha1 ?hn1 ?ht1 ?hm1 ?su1_2 ?ne1_2 ?su1_0 ?ne1_0 ?su1_1 ?ne1_1 ?hg3 ?hk3 ?hs3 ?hd3 ?ha3 ?hn3 ?ht3 ?hm3 ?su3_2 ?ne3_2 ?su3_0 ?ne3_0 ?su3_1 ?ne3_1 ?co0 ?co1 ?cl1 ?co2 ?co3 ?cl3 ?co4 ?co5 ?co6 ?cl6 ?ck6 ?cx6 ?cy6_0 ?cy6_1 ?cy6_2 ?cy6_3 ?cy6_4 ?cy6_5 ?cy6_6 ?cy6_7 ?co7 ?cl7 ?ck7 ?cx7 ?cy7_0 ?cy7_1 ?cy7_2 ?co8 ?co9 ?co10 ?co11 ?co12 ?z0 ?z1 ?z2 ?z3 ?z4 ?z5 ?z6 ?z7 ?z8 ?z9
    ((case ia0 => k_is); (case ip0 => k_is); (case ih0 => k_is); (case io0 => k_is); (case is0 => k_is); (case im0 => k_is); (case ik0 => k_is); (case in0_0 => k_is); (case in0_1 => k_is); (case a0_0 => k_is); (case l0 => k_is); (case c0 => k_is); (case k0 => k_is); (case a1_0 => k_is); (case l1 => k_is); (case c1 => k_is); (case k1 => k_is); (case a2_0 => k_is); (case l2 => k_is); (case c2 => k_is); (case k2 => k_is); (case a3_0 => k_is); (case l3 => k_is); (case c3 => k_is); (case k3 => k_is); (case a4_0 => k_is); (case l4 => k_is); (case c4 => k_is); (case k4 => k_is); (case a5_0 => k_is); (case l5 => k_is); (case c5 => k_is); (case k5 => k_is); (case a6_0 => k_is); (case l6 => k_is); (case c6 => k_is); (case k6 => k_is); (case a7 => k_is); (case l7 => k_is); (case c7 => k_is); (case k7 => k_is); (case e7 => k_is); (case a8 => k_is); (case l8 => k_is); (case c8 => k_is); (case k8 => k_is); (case e8 => k_is); (case a9 => k_is); (case l9 => k_is); (case c9 => k_is); (case k9 => k_is); (case e9 => k_is); (case a10 => k_is); (case l10 => k_is); (case c10 => k_is); (case k10 => k_is); (case e10 => k_is); (case a11 => k_is); (case l11 => k_is); (case c11 => k_is); (case k11 => k_is); (case e11 => k_is); (case a12_0 => k_is); (case l12 => k_is); (case c12 => k_is); (case k12 => k_is); (case a13_0 => k_is); (case l13 => k_is); (case c13 => k_is); (case k13 => k_is); (case a14_0 => k_is); (case l14 => k_is); (case c14 => k_is); (case k14 => k_is); (case a15_0 => k_is); (case l15 => k_is); (case c15 => k_is); (case k15 => k_is); (case a16_0 => k_is); (case l16 => k_is); (case c16 => k_is); (case k16 => k_is); (case a17_0 => k_is); (case l17 => k_is); (case c17 => k_is); (case k17 => k_is); (case a18_0 => k_is); (case l18 => k_is); (case c18 => k_is); (case k18 => k_is); (case a19_0 => k_is); (case l19 => k_is); (case c19 => k_is); (case k19 => k_is); (case a20_0 => k_is); (case l20 => k_is); (case c20 => k_is); (case k20 => k_is); (case a21_0 => k_is); (case l21 => k_is); (case c21 => k_is); (case k21 => k_is); (case a22_0 => k_is); (case l22 => k_is); (case c22 => k_is); (case k22 => k_is); (case a23_0 => k_is); (case l23 => k_is); (case c23 => k_is); (case k23 => k_is); (case a24_0 => k_is); (case l24 => k_is); (case c24 => k_is); (case k24 => k_is); (case a25_0 => k_is); (case l25 => k_is); (case c25 => k_is); (case k25 => k_is); (case a26_0 => k_is); (case l26 => k_is); (case c26 => k_is); (case k26 => k_is); (case a27_0 => k_is); (case l27 => k_is); (case c27 => k_is); (case k27 => k_is); (case a28_0 => k_is); (case l28 => k_is); (case c28 => k_is); (case k28 => k_is); (case a29_0 => k_is); (case l29 => k_is); (case c29 => k_is); (case k29 => k_is); (case a30_0 => k_is); (case l30 => k_is); (case c30 => k_is); (case k30 => k_is); (case a31_0 => k_is); (case l31 => k_is); (case c31 => k_is); (case k31 => k_is); (case a32_0 => k_is); (case l32 => k_is); (case c32 => k_is); (case k32 => k_is); (case a33_0 => k_is); (case l33 => k_is); (case c33 => k_is); (case k33 => k_is); (case a34_0 => k_is); (case l34 => k_is); (case c34 => k_is); (case k34 => k_is); (case a35_0 => k_is); (case l35 => k_is); (case c35 => k_is); (case k35 => k_is); (case a36_0 => k_is); (case l36 => k_is); (case c36 => k_is); (case k36 => k_is); (case a37_0 => k_is); (case l37 => k_is); (case c37 => k_is); (case k37 => k_is); (case a38_0 => k_is); (case l38 => k_is); (case c38 => k_is); (case k38 => k_is); (case a39_0 => k_is); (case l39 => k_is); (case c39 => k_is); (case k39 => k_is); (case a40_0 => k_is); (case l40 => k_is); (case c40 => k_is); (case k40 => k_is); (case a41_0 => k_is); (case l41 => k_is); (case c41 => k_is); (case k41 => k_is); (case a42_0 => k_is); (case l42 => k_is); (case c42 => k_is); (case k42 => k_is); (case a43_0 => k_is); (case l43 => k_is); (case c43 => k_is); (case k43 => k_is); (case a44_0 => k_is); (case l44 => k_is); (case c44 => k_is); (case k44 => k_is); (case a45_0 => k_is); (case l45 => k_is); (case c45 => k_is); (case k45 => k_is); (case a46_0 => k_is); (case l46 => k_is); (case c46 => k_is); (case k46 => k_is); (case a47_0 => k_is); (case l47 => k_is); (case c47 => k_is); (case k47 => k_is); (case a48_0 => k_is); (case l48 => k_is); (case c48 => k_is); (case k48 => k_is); (case a49_0 => k_is); (case l49 => k_is); (case c49 => k_is); (case k49 => k_is); (case ga0 => k_is); (case gb0 => k_is); (case gt0 => k_is); (case gc0 => k_is); (case xlc0 => k_is); (case xrv0 => rfl); (case xsa0 => k_is); (case xkc0 => k_is); (case xin0 => k_is); (case xty0 => k_is); (case xlf0 => k_is); (case xco0 => k_is); (case xlk0 => k_is); (case xvf0 => rfl); (case xpf0 => rfl); (case xll0 => k_is); (case xtp0 => rfl); (case xgl0 => k_is); (case xsu0 => (first | k_is | rfl)); (case xsb0 => (first | k_is | rfl)); (case xmr0 => (first | k_is | rfl)); (case xst0 => (first | k_is | rfl)); (case xno0 => k_is); (case ga1 => k_is); (case gb1 => k_is); (case gt1 => k_is); (case gc1 => k_is); (case gx1 => k_exc); (case gk1 => k_is); (case ga2 => k_is); (case gb2 => k_is); (case gt2 => k_is); (case gc2 => k_is); (case ga3 => k_is); (case gb3 => k_is); (case gt3 => k_is); (case gc3 => k_is); (case gx3 => k_exc); (case gk3 => k_is); (case hg0 => k_is); (case hk0 => k_is); (case hs0 => k_is); (case hd0 => k_is); (case ha0 => k_is); (case hn0 => k_is); (case ht0 => k_is); (case hm0 => k_is); (case su0_2 => k_is); (case ne0_2 => rfl); (case su0_0 => k_is); (case ne0_0 => rfl); (case su0_1 => k_is); (case ne0_1 => rfl); (case hg1 => k_is); (case hk1 => k_is); (case hs1 => k_is); (case hd1 => k_is); (case ha1 => k_is); (case hn1 => k_is); (case ht1 => k_is); (case hm1 => k_is); (case su1_2 => k_is); (case ne1_2 => rfl); (case su1_0 => k_is); (case ne1_0 => rfl); (case su1_1 => k_is); (case ne1_1 => rfl); (case hg3 => k_is); (case hk3 => k_is); (case hs3 => k_is); (case hd3 => k_is); (case ha3 => k_is); (case hn3 => k_is); (case ht3 => k_is); (case hm3 => k_is); (case su3_2 => k_is); (case ne3_2 => rfl); (case su3_0 => k_is); (case ne3_0 => rfl); (case su3_1 => k_is); (case ne3_1 => rfl); (case co0 => k_is); (case co1 => k_is); (case cl1 => k_is); (case co2 => k_is); (case co3 => k_is); (case cl3 => k_is); (case co4 => k_is); (case co5 => k_is); (case co6 => k_is); (case cl6 => k_is); (case ck6 => (repeat (first | exact trivial | refine ⟨⟨_, _, rfl, rfl⟩, ?_⟩))); (case cx6 => rfl); (case cy6_0 => k_is); (case cy6_1 => k_is); (case cy6_2 => k_is); (case cy6_3 => k_is); (case cy6_4 => k_is); (case cy6_5 => k_is); (case cy6_6 => k_is); (case cy6_7 => k_is); (case co7 => k_is); (case cl7 => k_is); (case ck7 => (repeat (first | exact trivial | refine ⟨⟨_, _, rfl, rfl⟩, ?_⟩))); (case cx7 => rfl); (case cy7_0 => k_is); (case cy7_1 => k_is); (case cy7_2 => k_is); (case co8 => k_is); (case co9 => k_is); (case co10 => k_is); (case co11 => k_is); (case co12 => k_is); (case z0 => k_is); (case z1 => k_is); (case z2 => k_is); (case z3 => k_is); (case z4 => k_is); (case z5 => k_is); (case z6 => k_is); (case z7 => k_is); (case z8 => k_is); (case z9 => k_is))
