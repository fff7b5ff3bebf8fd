import PyProof.Rows.All
import Wide.All
import OpenK.AllK
import Wide.FinOn
import HandS.ForMost
import HandS.Flow
import HandS.Style
import HandS.Rev
import HandS.FStr
import HandS.IsInst
import HandS.CallLocal
import HandS.AnyAll
import HandS.WrittenGet
import HandS.ListItems
import HandS.SetKeys
import HandS.Evl
import HandS.ForExc
import HandS.Small
import HandS.RaiseMore
import HandS.ExcIs
import HandS.Conv
import HandS.WordsDict
import HandS.Star
import HandS.StrMore
import HandS.WideBits
import HandS.Text
import KE.KIntText
import HandS.RevTup
import KE.KExcSuper
import KE.KExcIs
import HandS.ExcInit
import HandS.ExcField
import HandS.Nested
import HandS.Replace
import HandS.New
import HandS.TupAny
import HandS.Zip
import HandS.More
import HandS.Deep
import PyProof.Rows.InDataRows
import HandS.TupLe
import HandS.Sort
import HandS.DictComp
import KE.KDictPairs
import KE.KDictZip
import HandS.Comp
import PyProof.StrLawsChain
import PyProof.Rows.StrNews2
import PyProof.Rows.StrFirst2
import HandS.SortInts
import HandS.Ends
import PySem.Challenge.RW_sharenet_k17_canonical_texts
set_option Elab.async false
set_option linter.all false
set_option maxRecDepth 100000
namespace Wl
open PySem PySem.Spec PyProof.Rows L2
/-! ## values with tuples (and lists that nobody writes any more) as trees -/
inductive W where
  | non | bl (b : Bool) | int (i : Int) | str (s : List Nat) | tup (ws : List W) | lst (ws : List W) | scr (ws : List W)
  | dic (kws : List (L2.Key × W)) | ref (a : Addr) | ty (n : String)
def mkS (l : List Nat) : Str := ⟨l.toArray⟩
/-- what is owned: it may be written -/
inductive OW where
  | lst (ws : List W) | dic (kws : List (L2.Key × W)) | ins (C : Addr) (fs : List (Str × W)) | raw (u : HO) | fdic (o : Obj) (kvs : List (L2.Key × V)) (kws : List (L2.Key × W))
abbrev HW := Addr → Option OW
def updW (h : HW) (a : Addr) (o : OW) : HW := fun b => if b = a then some o else h b
theorem updW_same {h : HW} {a : Addr} {o : OW} : updW h a o a = some o := if_pos rfl
theorem updW_ne {h : HW} {a b : Addr} {o : OW} (e : b ≠ a) : updW h a o b = h b := if_neg e
theorem updW_upd {h : HW} {a : Addr} {o u : OW} : updW (updW h a o) a u = updW h a u := by
  funext b; unfold updW; split <;> rfl
def delW (h : HW) (a : Addr) : HW := fun b => if b = a then none else h b
theorem delW_same {h : HW} {a : Addr} : delW h a a = none := if_pos rfl
theorem delW_ne {h : HW} {a b : Addr} (e : b ≠ a) : delW h a b = h b := if_neg e
def Sub (h h' : HW) : Prop := ∀ a o, h a = some o → h' a = some o
theorem Sub.refl (h : HW) : Sub h h := fun _ _ e => e
theorem Sub.trans {h h1 h2 : HW} (a : Sub h h1) (b : Sub h1 h2) : Sub h h2 := fun x o e => b x o (a x o e)
theorem Sub.new {h : HW} {p : Addr} {o : OW} (e : h p = none) : Sub h (updW h p o) := fun a u q => by
  rw [updW_ne (fun z => by rw [z, e] at q; cases q)]; exact q
theorem Sub.none {h h' : HW} {a : Addr} (s : Sub h h') (e : h' a = none) : h a = none := by
  cases q : h a with
  | none => rfl
  | some o => rw [s a o q] at e; cases e
/-- an object that is not owned stays as it is -/
def ST (H : Hp) (h : HW) (H' : Hp) (h' : HW) : Prop := ∀ a o, H a = some o → h a = none → H' a = some o ∧ h' a = none
theorem ST.refl (H : Hp) (h : HW) : ST H h H h := fun _ _ a b => ⟨a, b⟩
theorem ST.trans {H H1 H2 : Hp} {h h1 h2 : HW} (a : ST H h H1 h1) (b : ST H1 h1 H2 h2) : ST H h H2 h2 := fun x o e n => b x o (a x o e n).1 (a x o e n).2
theorem ST.drop {H : Hp} {h h0 : HW} (s : Sub h0 h) : ST H h H h0 := fun x o e n => ⟨e, s.none n⟩
/-- a list, a tuple that stays -/
def FzL (H : Hp) (h : HW) (a : Addr) (vs : List V) : Prop := H a = some (.lst vs) ∧ h a = none
def FzS (K : PySem.W.Frag) (H : Hp) (h : HW) (a : Addr) (vs : List V) : Prop :=
  ((∃ o, H a = some (.frz o (.lst vs))) ∧ h a = none) ∨
    ∃ (o : Obj) (its : Array Value) (n : Nat), K.lookup a = some o ∧ o.cls = .type "list" ∧ o.dict = none ∧ o.data = .seq its n ∧ its.size ≤ sizeLine ∧ Vals vs its.toList
def FzT (K : PySem.W.Frag) (H : Hp) (h : HW) (a : Addr) (vs : List V) : Prop :=
  (Rd H a (.tup vs) ∧ h a = none) ∨
    ∃ (o : Obj) (its : Array Value) (n : Nat), K.lookup a = some o ∧ o.cls = .type "tuple" ∧ o.data = .seq its n ∧ its.size ≤ sizeLine ∧ Vals vs its.toList
def FzD (H : Hp) (h : HW) (a : Addr) (kvs : List (L2.Key × V)) : Prop := H a = some (.dK kvs) ∧ h a = none
section
variable {K : PySem.W.Frag} {H H' : Hp} {h h' : HW} {a : Addr} {vs : List V}
theorem FzL.mono (x : FzL H h a vs) (s : ST H h H' h') : FzL H' h' a vs := s a _ x.1 x.2
theorem FzD.mono {kvs : List (L2.Key × V)} (x : FzD H h a kvs) (s : ST H h H' h') : FzD H' h' a kvs := s a _ x.1 x.2
theorem FzS.mono (x : FzS K H h a vs) (s : ST H h H' h') : FzS K H' h' a vs := by
  rcases x with ⟨⟨o, e⟩, n⟩ | x
  · exact .inl ⟨⟨o, (s a _ e n).1⟩, (s a _ e n).2⟩
  · exact .inr x
theorem FzT.mono (x : FzT K H h a vs) (s : ST H h H' h') : FzT K H' h' a vs := by
  rcases x with ⟨e | ⟨o, e⟩, n⟩ | x
  · exact .inl ⟨.inl (s a _ e n).1, (s a _ e n).2⟩
  · exact .inl ⟨.inr ⟨o, (s a _ e n).1⟩, (s a _ e n).2⟩
  · exact .inr x
theorem FzL.sq (x : FzL H h a vs) : SqL K H a vs := .inl (.inl x.1)
theorem FzS.sq (x : FzS K H h a vs) : SqL K H a vs := by
  rcases x with ⟨⟨o, e⟩, _⟩ | x
  · exact .inl (.inr ⟨o, e⟩)
  · exact .inr x
theorem FzT.sq (x : FzT K H h a vs) : SqT K H a vs := by
  rcases x with ⟨e, _⟩ | x
  · exact .inl e
  · exact .inr x
end
/-! ## what a value stands for -/
mutual
inductive RW (K : PySem.W.Frag) (H : Hp) (h : HW) : V → W → Prop
  | non : RW K H h .non .non
  | bl (b : Bool) : RW K H h (.bl b) (.bl b)
  | int (i : Int) : RW K H h (.int i) (.int i)
  | str (s : List Nat) : RW K H h (.str (mkS s)) (.str s)
  | ty (n : String) : RW K H h (.ty n) (.ty n)
  | ref (a : Addr) : RW K H h (.ref a) (.ref a)
  | tup {a : Addr} {vs : List V} {ws : List W} (f : FzT K H h a vs) (r : RWs K H h vs ws) : RW K H h (.ref a) (.tup ws)
  | lst {a : Addr} {vs : List V} {ws : List W} (f : FzL H h a vs) (r : RWs K H h vs ws) : RW K H h (.ref a) (.lst ws)
  | scr {a : Addr} {vs : List V} {ws : List W} (f : FzS K H h a vs) (r : RWs K H h vs ws) : RW K H h (.ref a) (.scr ws)
  | dic {a : Addr} {kvs : List (L2.Key × V)} {kws : List (L2.Key × W)} (f : FzD H h a kvs) (r : RKs K H h kvs kws) : RW K H h (.ref a) (.dic kws)
inductive RWs (K : PySem.W.Frag) (H : Hp) (h : HW) : List V → List W → Prop
  | nil : RWs K H h [] []
  | cons {v : V} {w : W} {vs : List V} {ws : List W} (r : RW K H h v w) (t : RWs K H h vs ws) : RWs K H h (v :: vs) (w :: ws)
inductive RKs (K : PySem.W.Frag) (H : Hp) (h : HW) : List (L2.Key × V) → List (L2.Key × W) → Prop
  | nil : RKs K H h [] []
  | cons {k : L2.Key} {v : V} {w : W} {vs : List (L2.Key × V)} {ws : List (L2.Key × W)} (r : RW K H h v w) (t : RKs K H h vs ws) : RKs K H h ((k, v) :: vs) ((k, w) :: ws)
end
section
variable {K : PySem.W.Frag} {H H' : Hp} {h h' : HW}
mutual
theorem RW.mono (s : ST H h H' h') : ∀ {v : V} {w : W}, RW K H h v w → RW K H' h' v w
  | _, _, .non => .non
  | _, _, .bl b => .bl b
  | _, _, .int i => .int i
  | _, _, .str x => .str x
  | _, _, .ty n => .ty n
  | _, _, .ref a => .ref a
  | _, _, .tup f r => .tup (f.mono s) (RWs.mono s r)
  | _, _, .lst f r => .lst (f.mono s) (RWs.mono s r)
  | _, _, .scr f r => .scr (f.mono s) (RWs.mono s r)
  | _, _, .dic f r => .dic (f.mono s) (RKs.mono s r)
theorem RWs.mono (s : ST H h H' h') : ∀ {vs : List V} {ws : List W}, RWs K H h vs ws → RWs K H' h' vs ws
  | _, _, .nil => .nil
  | _, _, .cons r t => .cons (RW.mono s r) (RWs.mono s t)
theorem RKs.mono (s : ST H h H' h') : ∀ {vs : List (L2.Key × V)} {ws : List (L2.Key × W)}, RKs K H h vs ws → RKs K H' h' vs ws
  | _, _, .nil => .nil
  | _, _, .cons r t => .cons (RW.mono s r) (RKs.mono s t)
end
theorem RWs.length : ∀ {vs : List V} {ws : List W}, RWs K H h vs ws → vs.length = ws.length
  | _, _, .nil => rfl
  | _, _, .cons _ t => congrArg (· + 1) (RWs.length t)
theorem RWs.get : ∀ {vs : List V} {ws : List W} {i : Nat} {w : W}, RWs K H h vs ws → ws[i]? = some w → ∃ v, vs[i]? = some v ∧ RW K H h v w
  | _, _, _, _, .nil, e => by simp at e
  | _, _, 0, _, .cons r _, e => by simp at e; subst e; exact ⟨_, rfl, r⟩
  | _, _, i + 1, w, .cons _ t, e => by
    obtain ⟨v, h1, h2⟩ := RWs.get (i := i) (w := w) t (by simpa using e)
    exact ⟨v, by simpa using h1, h2⟩
theorem RWs.getv : ∀ {vs : List V} {ws : List W} {i : Nat} {v : V}, RWs K H h vs ws → vs[i]? = some v → ∃ w, ws[i]? = some w ∧ RW K H h v w
  | _, _, _, _, .nil, e => by simp at e
  | _, _, 0, _, .cons r _, e => by simp at e; subst e; exact ⟨_, rfl, r⟩
  | _, _, i + 1, w, .cons _ t, e => by
    obtain ⟨v, h1, h2⟩ := RWs.getv (i := i) (v := w) t (by simpa using e)
    exact ⟨v, by simpa using h1, h2⟩
theorem RWs.append : ∀ {vs us : List V} {ws xs : List W}, RWs K H h vs ws → RWs K H h us xs → RWs K H h (vs ++ us) (ws ++ xs)
  | _, _, _, _, .nil, s => s
  | _, _, _, _, .cons r t, s => .cons r (RWs.append t s)
theorem RWs.drop : ∀ {vs : List V} {ws : List W} (n : Nat), RWs K H h vs ws → RWs K H h (vs.drop n) (ws.drop n)
  | _, _, 0, r => r
  | _, _, _ + 1, .nil => .nil
  | _, _, n + 1, .cons _ t => RWs.drop n t
theorem RWs.take : ∀ {vs : List V} {ws : List W} (n : Nat), RWs K H h vs ws → RWs K H h (vs.take n) (ws.take n)
  | _, _, 0, _ => .nil
  | _, _, _ + 1, .nil => .nil
  | _, _, n + 1, .cons r t => .cons r (RWs.take n t)
theorem RWs.set {v : V} {w : W} (r : RW K H h v w) : ∀ {vs : List V} {ws : List W} (i : Nat), RWs K H h vs ws → RWs K H h (vs.set i v) (ws.set i w)
  | _, _, _, .nil => .nil
  | _, _, 0, .cons _ t => .cons r t
  | _, _, i + 1, .cons q t => .cons q (RWs.set r i t)
theorem RWs.reverse : ∀ {vs : List V} {ws : List W}, RWs K H h vs ws → RWs K H h vs.reverse ws.reverse
  | _, _, .nil => .nil
  | _, _, .cons r t => by rw [List.reverse_cons, List.reverse_cons]; exact (RWs.reverse t).append (.cons r .nil)
theorem RWs.dropLast {vs : List V} {ws : List W} (t : RWs K H h vs ws) : RWs K H h vs.dropLast ws.dropLast := by
  rw [List.dropLast_eq_take, List.dropLast_eq_take, t.length]; exact t.take _
end
/-! ## the owned objects -/
inductive RFs (K : PySem.W.Frag) (H : Hp) (h : HW) : List (Str × V) → List (Str × W) → Prop
  | nil : RFs K H h [] []
  | cons {f : Str} {v : V} {w : W} {vs : List (Str × V)} {ws : List (Str × W)} (r : RW K H h v w) (t : RFs K H h vs ws) : RFs K H h ((f, v) :: vs) ((f, w) :: ws)
theorem RFs.mono {K : PySem.W.Frag} {H H' : Hp} {h h' : HW} (s : ST H h H' h') : ∀ {vs : List (Str × V)} {ws : List (Str × W)}, RFs K H h vs ws → RFs K H' h' vs ws
  | _, _, .nil => .nil
  | _, _, .cons r t => .cons (r.mono s) (RFs.mono s t)
def OR (K : PySem.W.Frag) (H : Hp) (h : HW) (a : Addr) : OW → Prop
  | .lst ws => ∃ vs, H a = some (.lst vs) ∧ RWs K H h vs ws
  | .dic kws => ∃ kvs, H a = some (.dK kvs) ∧ RKs K H h kvs kws
  | .ins C fs => ∃ dx gs, H a = some (.ins C dx gs) ∧ RFs K H h gs fs
  | .raw u => H a = some u
  | .fdic o kvs kws => H a = some (.frz o (.dK kvs)) ∧ RKs K H h kvs kws
def HR (K : PySem.W.Frag) (H : Hp) (h : HW) : Prop := ∀ a o, h a = some o → OR K H h a o
section
variable {K : PySem.W.Frag} {H H' : Hp} {h h' : HW} {a p : Addr}
theorem HR.fresh (x : HR K H h) (e : H p = none) : h p = none := by
  cases q : h p with
  | none => rfl
  | some o =>
    have z := x p o q
    cases o with
    | lst ws => obtain ⟨_, z, _⟩ := z; rw [e] at z; cases z
    | dic ws => obtain ⟨_, z, _⟩ := z; rw [e] at z; cases z
    | ins C fs => obtain ⟨_, _, z, _⟩ := z; rw [e] at z; cases z
    | raw u => have z : H p = some u := z; rw [e] at z; cases z
    | fdic o kvs kws => obtain ⟨z, _⟩ := z; rw [e] at z; cases z
/-- another heap: what is owned is as it was -/
theorem HR.move {H' : Hp} {h' : HW} (st : ST H h H' h') {a : Addr} {o : OW} (z : OR K H h a o) (k : ∀ u, H a = some u → H' a = some u) : OR K H' h' a o := by
  cases o with
  | lst ws => obtain ⟨vs, z, r⟩ := z; exact ⟨vs, k _ z, r.mono st⟩
  | dic ws => obtain ⟨vs, z, r⟩ := z; exact ⟨vs, k _ z, r.mono st⟩
  | ins C fs => obtain ⟨dx, gs, z, r⟩ := z; exact ⟨dx, gs, k _ z, r.mono st⟩
  | raw u => exact k _ z
  | fdic o kvs kws => obtain ⟨z, r⟩ := z; exact ⟨k _ z, r.mono st⟩
theorem HR.drop {h0 : HW} (x : HR K H h) (s : Sub h0 h) : HR K H h0 := fun a o e => HR.move (.drop s) (x a o (s a o e)) fun _ q => q
/-- a new object that is not owned -/
theorem ST.newF (e : H p = none) (o : HO) : ST H h (upd H p o) h := fun b u q n => ⟨by rw [upd_ne (ne_of_none q e)]; exact q, n⟩
theorem HR.newF (x : HR K H h) (e : H p = none) (o : HO) : HR K (upd H p o) h := fun b u q => HR.move (.newF e o) (x b u q) fun w z => by rw [upd_ne (ne_of_none z e)]; exact z
/-- a new object that is owned -/
theorem ST.newO (e : H p = none) (o : HO) (u : OW) : ST H h (upd H p o) (updW h p u) := fun b v q n =>
  ⟨by rw [upd_ne (ne_of_none q e)]; exact q, by rw [updW_ne (ne_of_none q e)]; exact n⟩
theorem HR.newO (x : HR K H h) (e : H p = none) {o : HO} {u : OW} (new : OR K (upd H p o) (updW h p u) p u) : HR K (upd H p o) (updW h p u) := fun b v q => by
  by_cases hb : b = p
  · subst hb; rw [updW_same] at q; cases q; exact new
  · rw [updW_ne hb] at q
    exact HR.move (.newO e o u) (x b v q) fun w z => by rw [upd_ne hb]; exact z
/-- an owned object is written -/
theorem ST.mut {u0 : OW} (e : h a = some u0) (o : HO) (u : OW) : ST H h (upd H a o) (updW h a u) := fun b v q n => by
  have hb : b ≠ a := fun z => by rw [z, e] at n; cases n
  exact ⟨by rw [upd_ne hb]; exact q, by rw [updW_ne hb]; exact n⟩
theorem HR.mut (x : HR K H h) {u0 : OW} (e : h a = some u0) {o : HO} {u : OW} (new : OR K (upd H a o) (updW h a u) a u) : HR K (upd H a o) (updW h a u) := fun b v q => by
  by_cases hb : b = a
  · subst hb; rw [updW_same] at q; cases q; exact new
  · rw [updW_ne hb] at q
    exact HR.move (.mut e o u) (x b v q) fun w z => by rw [upd_ne hb]; exact z
theorem ST.newI {x dx C : Addr} {fs : List (Str × V)} (e : H x = none) (ed : H dx = none) (u : OW) : ST H h (upd (upd H dx (.own x)) x (.ins C dx fs)) (updW h x u) := fun b v q n =>
  ⟨by rw [upd_ne (ne_of_none q e), upd_ne (ne_of_none q ed)]; exact q, by rw [updW_ne (ne_of_none q e)]; exact n⟩
theorem HR.newI {C dx : Addr} {x : Addr} (r : HR K H h) (e : H x = none) (ed : H dx = none) : HR K (upd (upd H dx (.own x)) x (.ins C dx [])) (updW h x (.ins C [])) := fun b v q => by
  by_cases hb : b = x
  · subst hb; rw [updW_same] at q; cases q; exact ⟨dx, [], upd_same, .nil⟩
  · rw [updW_ne hb] at q
    exact HR.move (.newI e ed _) (r b v q) fun w z => by rw [upd_ne hb, upd_ne (ne_of_none z ed)]; exact z
end
/-! ## slots -/
abbrev SlW := List (Option W)
def sl : SlW → Nat → Option W
  | [], _ => none
  | o :: _, 0 => o
  | _ :: r, n + 1 => sl r n
inductive SR (K : PySem.W.Frag) (H : Hp) (h : HW) : L2.St → SlW → Prop
  | nil : SR K H h [] []
  | cons {o : Option V} {p : Option W} {σ : L2.St} {ρ : SlW} (r : ∀ w, p = some w → ∃ v, o = some v ∧ RW K H h v w) (t : SR K H h σ ρ) : SR K H h (o :: σ) (p :: ρ)
section
variable {K : PySem.W.Frag} {H H' : Hp} {h h' : HW}
theorem SR.mono (s : ST H h H' h') : ∀ {σ : L2.St} {ρ : SlW}, SR K H h σ ρ → SR K H' h' σ ρ
  | _, _, .nil => .nil
  | _, _, .cons r t => .cons (fun w e => let ⟨v, a, b⟩ := r w e; ⟨v, a, b.mono s⟩) (SR.mono s t)
theorem SR.get : ∀ {σ : L2.St} {ρ : SlW} {i : Nat} {w : W}, SR K H h σ ρ → sl ρ i = some w → ∃ v, σ[i]? = some (some v) ∧ RW K H h v w
  | _, _, _, _, .nil, e => by simp [sl] at e
  | _, _, 0, w, .cons r t, e => by
    obtain ⟨v, a, b⟩ := r w e
    exact ⟨v, by rw [a]; rfl, b⟩
  | _, _, i + 1, w, .cons r t, e => by
    obtain ⟨v, a, b⟩ := SR.get (i := i) (w := w) t e
    exact ⟨v, by simpa using a, b⟩
theorem SR.set {v : V} {w : W} (q : RW K H h v w) : ∀ {σ : L2.St} {ρ : SlW} (i : Nat), SR K H h σ ρ → SR K H h (σ.set i (some v)) (ρ.set i (some w))
  | _, _, _, .nil => .nil
  | _, _, 0, .cons _ t => .cons (fun w' e => by cases e; exact ⟨v, rfl, q⟩) t
  | _, _, i + 1, .cons r t => .cons r (SR.set q i t)
theorem SR.setN : ∀ {σ : L2.St} {ρ : SlW} (i : Nat), SR K H h σ ρ → SR K H h (σ.set i none) (ρ.set i none)
  | _, _, _, .nil => .nil
  | _, _, 0, .cons _ t => .cons (fun w' e => by cases e) t
  | _, _, i + 1, .cons r t => .cons r (SR.setN i t)
theorem SR.length : ∀ {σ : L2.St} {ρ : SlW}, SR K H h σ ρ → σ.length = ρ.length
  | _, _, .nil => rfl
  | _, _, .cons _ t => congrArg (· + 1) (SR.length t)
/-- forgetting slots -/
inductive SubS : SlW → SlW → Prop
  | nil : SubS [] []
  | cons {o p : Option W} {ρ ρ' : SlW} (r : ∀ w, o = some w → p = some w) (t : SubS ρ ρ') : SubS (o :: ρ) (p :: ρ')
theorem SubS.refl : ∀ ρ : SlW, SubS ρ ρ
  | [] => .nil
  | o :: ρ => .cons (fun _ e => e) (SubS.refl ρ)
theorem SubS.no {p : Option W} {ρ ρ' : SlW} (t : SubS ρ ρ') : SubS (none :: ρ) (p :: ρ') := .cons (fun _ e => by cases e) t
theorem SubS.same {p : Option W} {ρ ρ' : SlW} (t : SubS ρ ρ') : SubS (p :: ρ) (p :: ρ') := .cons (fun _ e => e) t
theorem SR.sub : ∀ {σ : L2.St} {ρ ρ' : SlW}, SubS ρ ρ' → SR K H h σ ρ' → SR K H h σ ρ
  | _, _, _, .nil, .nil => .nil
  | _, _, _, .cons r t, .cons q u => .cons (fun w e => q w (r w e)) (SR.sub t u)
end
/-- the names' values at the entry -/
def startW (n : Nat) (ws : List W) : SlW := ws.map some ++ List.replicate (n - ws.length) none
theorem SR.start {K : PySem.W.Frag} {H : Hp} {h : HW} {N : List Str} {vs : List V} {ws : List W} (r : RWs K H h vs ws) : SR K H h (start N vs) (startW N.length ws) := by
  unfold L2.start startW
  rw [r.length]
  generalize N.length - ws.length = n
  have e : ∀ n : Nat, SR K H h (List.replicate n (none : Option V)) (List.replicate n (none : Option W)) := fun n => by
    induction n with
    | zero => exact .nil
    | succ n ih => exact .cons (fun _ e => by cases e) ih
  have f : ∀ {vs : List V} {ws : List W}, RWs K H h vs ws → SR K H h (vs.map some ++ List.replicate n none) (ws.map some ++ List.replicate n none) := fun {vs ws} r => by
    induction vs generalizing ws with
    | nil => cases r; exact e n
    | cons v vs ih =>
      cases r with
      | cons r t => exact .cons (fun w e => by cases e; exact ⟨v, rfl, r⟩) (ih t)
  exact f r
end Wl

set_option Elab.async false
set_option linter.all false
set_option maxRecDepth 100000
namespace Wl
open PySem PySem.Spec PyProof.Rows L2
theorem _root_.L2.PE.imp {X : Cx} {e : Expr} {t t' : TE} (h : PE X e t) (i : ∀ σ H Q, t' σ H Q → t σ H Q) : PE X e t' := ⟨fun p s σ H Q I q => h.run p s σ H Q I (i _ _ _ q)⟩
theorem _root_.L2.PT.imp {X : Cx} {e : Expr} {t t' : TT} (h : PT X e t) (i : ∀ σ H Q, t' σ H Q → t σ H Q) : PT X e t' := ⟨fun p s σ H Q I q => h.run p s σ H Q I (i _ _ _ q)⟩
theorem _root_.L2.PW.imp {X : Cx} {e : Expr} {t t' : TT} (h : PW X e t) (i : ∀ σ H Q, t' σ H Q → t σ H Q) : PW X e t' := ⟨fun wh p s σ H Q I q => h.run wh p s σ H Q I (i _ _ _ q)⟩
theorem _root_.L2.PA.imp {X : Cx} {e : List Expr} {t t' : TA} (h : PA X e t) (i : ∀ σ H Q, t' σ H Q → t σ H Q) : PA X e t' := ⟨fun po p s σ H Q I q => h.run po p s σ H Q I (i _ _ _ q)⟩
theorem _root_.L2.PS.imp {X : Cx} {e : Stmt} {t t' : TS} (h : PS X e t) (i : ∀ D σ H, t' D σ H → t D σ H) : PS X e t' := ⟨fun p s σ H D I q => h.run p s σ H D I (i _ _ _ q)⟩
theorem _root_.L2.PSs.imp {X : Cx} {e : List Stmt} {t t' : TS} (h : PSs X e t) (i : ∀ D σ H, t' D σ H → t D σ H) : PSs X e t' := ⟨fun p s σ H D I q => h.run p s σ H D I (i _ _ _ q)⟩
/-! ## wishes -/
/-- what an exception brings: its class, the fields of its own dict -/
structure XW where
  C : Addr
  fs : Option (List (Str × W))
def XR (K : PySem.W.Frag) (H : Hp) (h : HW) (x : XW) (od : Option Addr) : Prop := match x.fs with
  | none => od = none
  | some fs => ∃ d gs, od = some d ∧ H d = some (.xd gs) ∧ h d = none ∧ RFs K H h gs fs
structure Lk where
  el : Hp → HW → Prop
  mono : ∀ {H h H' h'}, el H h → ST H h H' h' → el H' h'
def Lk.no : Lk := ⟨fun _ _ => True, fun _ _ => trivial⟩
/-- the wish ex stands for E -/
def Lk.of (K : PySem.W.Frag) (E : XK) (ex : XW → HW → Prop) : Lk := ⟨fun H h => ∀ x h' od H', ex x h' → ST H h H' h' → HR K H' h' → XR K H' h' x od → E (.ref x.C) od H',
  fun a s x h' od H' e st => a x h' od H' e (s.trans st)⟩
abbrev KW := W → HW → Prop
abbrev TEW := SlW → HW → KW → Prop
abbrev TTW := SlW → HW → (Bool → HW → Prop) → Prop
abbrev TAW := SlW → HW → (List W → HW → Prop) → Prop
structure EndsW where
  nx : SlW → HW → Prop
  rt : KW
  bk : SlW → HW → Prop := fun _ _ => False
  ct : SlW → HW → Prop := fun _ _ => False
@[reducible] def EndsW.wn (D : EndsW) (n : SlW → HW → Prop) : EndsW := ⟨n, D.rt, D.bk, D.ct⟩
/-- a loop's turn: what is wanted at its end, behind a break -/
@[reducible] def EndsW.lp (D : EndsW) (n b : SlW → HW → Prop) : EndsW := ⟨n, D.rt, b, n⟩
abbrev TSW := EndsW → SlW → HW → Prop
def KV (K : PySem.W.Frag) (H : Hp) (h : HW) (R : KW) (Q : VK) : Prop := ∀ w h' v H', R w h' → ST H h H' h' → HR K H' h' → RW K H' h' v w → Q v H'
def KB (K : PySem.W.Frag) (H : Hp) (h : HW) (R : Bool → HW → Prop) (Q : Bool → Hp → Prop) : Prop := ∀ b h' H', R b h' → ST H h H' h' → HR K H' h' → Q b H'
def KL (K : PySem.W.Frag) (H : Hp) (h : HW) (R : List W → HW → Prop) (Q : List V → Hp → Prop) : Prop := ∀ ws h' vs H', R ws h' → ST H h H' h' → HR K H' h' → RWs K H' h' vs ws → Q vs H'
def KN (K : PySem.W.Frag) (H : Hp) (h : HW) (R : SlW → HW → Prop) (Q : L2.St → Hp → Prop) : Prop := ∀ ρ h' σ H', R ρ h' → ST H h H' h' → HR K H' h' → SR K H' h' σ ρ → Q σ H'
section
variable {K : PySem.W.Frag} {H H' : Hp} {h h' : HW}
theorem KV.mono {R : KW} {Q : VK} (k : KV K H h R Q) (s : ST H h H' h') : KV K H' h' R Q := fun w h'' v H'' r st => k w h'' v H'' r (s.trans st)
theorem KB.mono {R : Bool → HW → Prop} {Q : Bool → Hp → Prop} (k : KB K H h R Q) (s : ST H h H' h') : KB K H' h' R Q := fun w h'' H'' r st => k w h'' H'' r (s.trans st)
theorem KL.mono {R : List W → HW → Prop} {Q : List V → Hp → Prop} (k : KL K H h R Q) (s : ST H h H' h') : KL K H' h' R Q := fun w h'' v H'' r st => k w h'' v H'' r (s.trans st)
theorem KN.mono {R : SlW → HW → Prop} {Q : L2.St → Hp → Prop} (k : KN K H h R Q) (s : ST H h H' h') : KN K H' h' R Q := fun w h'' v H'' r st => k w h'' v H'' r (s.trans st)
end
/-- where one stands -/
structure Sta (K : PySem.W.Frag) (L : Lk) (σ : L2.St) (H : Hp) (ρ : SlW) (h : HW) : Prop where
  sr : SR K H h σ ρ
  hr : HR K H h
  el : L.el H h
theorem Sta.to {K : PySem.W.Frag} {L : Lk} {σ : L2.St} {H H' : Hp} {ρ : SlW} {h h' : HW} (x : Sta K L σ H ρ h) (s : ST H h H' h') (r : HR K H' h') : Sta K L σ H' ρ h' := ⟨x.sr.mono s, r, L.mono x.el s⟩
def lE (K : PySem.W.Frag) (L : Lk) (t : TEW) : TE := fun σ H Q => ∃ ρ h R, Sta K L σ H ρ h ∧ t ρ h R ∧ KV K H h R Q
def lT (K : PySem.W.Frag) (L : Lk) (t : TTW) : TT := fun σ H Q => ∃ ρ h R, Sta K L σ H ρ h ∧ t ρ h R ∧ KB K H h R Q
def lA (K : PySem.W.Frag) (L : Lk) (t : TAW) : TA := fun σ H Q => ∃ ρ h R, Sta K L σ H ρ h ∧ t ρ h R ∧ KL K H h R Q
structure KD (K : PySem.W.Frag) (H : Hp) (h : HW) (DW : EndsW) (D : Ends) : Prop where
  nx : KN K H h DW.nx D.nx
  rt : KV K H h DW.rt D.rt
  bk : KN K H h DW.bk D.bk
  ct : KN K H h DW.ct D.ct
theorem KD.mono {K : PySem.W.Frag} {H H' : Hp} {h h' : HW} {DW : EndsW} {D : Ends} (k : KD K H h DW D) (s : ST H h H' h') : KD K H' h' DW D := ⟨k.nx.mono s, k.rt.mono s, k.bk.mono s, k.ct.mono s⟩
def lS (K : PySem.W.Frag) (L : Lk) (t : TSW) : TS := fun D σ H => ∃ ρ h DW, Sta K L σ H ρ h ∧ t DW ρ h ∧ KD K H h DW D

abbrev WE (X : Cx) (L : Lk) (e : Expr) (t : TEW) : Prop := PE X e (lE X.K L t)
abbrev WT (X : Cx) (L : Lk) (e : Expr) (t : TTW) : Prop := PT X e (lT X.K L t)
abbrev WA (X : Cx) (L : Lk) (es : List Expr) (t : TAW) : Prop := PA X es (lA X.K L t)
abbrev WS (X : Cx) (L : Lk) (s : Stmt) (t : TSW) : Prop := PS X s (lS X.K L t)
abbrev WSs (X : Cx) (L : Lk) (s : List Stmt) (t : TSW) : Prop := PSs X s (lS X.K L t)

/-! ## rules by values -/
abbrev RW2 := W → W → HW → KW → Prop
def Lf2 (K : PySem.W.Frag) (r : R2) (rw : RW2) : Prop := ∀ x y H Q w1 w2 h R, RW K H h x w1 → RW K H h y w2 → HR K H h → rw w1 w2 h R → KV K H h R Q → r x y H Q
def Lf1 (K : PySem.W.Frag) (r : V → Hp → VK → Prop) (rw : W → HW → KW → Prop) : Prop := ∀ x H Q w h R, RW K H h x w → HR K H h → rw w h R → KV K H h R Q → r x H Q
def LfC (K : PySem.W.Frag) (r : List V → Hp → VK → Prop) (rw : List W → HW → KW → Prop) : Prop := ∀ xs H Q ws h R, RWs K H h xs ws → HR K H h → rw ws h R → KV K H h R Q → r xs H Q
def LfM (K : PySem.W.Frag) (r : V → List V → Hp → VK → Prop) (rw : W → List W → HW → KW → Prop) : Prop := ∀ x xs H Q w ws h R, RW K H h x w → RWs K H h xs ws → HR K H h → rw w ws h R → KV K H h R Q → r x xs H Q
/-- a value and nothing else -/
theorem KV.go {K : PySem.W.Frag} {H : Hp} {h : HW} {R : KW} {Q : VK} (k : KV K H h R Q) (hr : HR K H h) {v : V} {w : W} (q : R w h) (r : RW K H h v w) : Q v H := k w h v H q (.refl _ _) hr r

/-! ## names, constants -/
section
variable {X : Cx} {L : Lk} {pos : Pos}
def oVar (i : Nat) : TEW := fun ρ h R => match sl ρ i with | some w => R w h | none => False
def oC (w : W) : TEW := fun _ h R => R w h
theorem w_var (i : Nat) {x : Str} (hN : X.N[i]? = some x := by rfl) (hv : Vis X.env.scope x := by first | exact Or.inl rfl | exact Or.inr (Or.inl rfl) | exact Or.inr (Or.inr rfl)) (hd : (x == ("__debug__" : Str)) = false := by decide)
    (hcd : (x == ("__classdict__" : Str)) = false := by decide) : WE X L (.Name x pos) (oVar i) := (pe_var hN hv hd hcd).imp fun σ H Q ⟨ρ, h, R, S, t, k⟩ => by
  unfold oVar at t
  split at t
  · rename_i w e
    obtain ⟨v, e1, r⟩ := S.sr.get e
    exact ⟨v, e1, k.go S.hr t r⟩
  · exact t.elim
theorem w_const {e : Expr} {v : V} {w : W} (p : PE X e (tC v)) (r : ∀ H h, HR X.K H h → RW X.K H h v w) : WE X L e (oC w) := p.imp fun σ H Q ⟨ρ, h, R, S, t, k⟩ => k.go S.hr t (r _ _ S.hr)
theorem w_int {i j pos} : WE X L (.Constant (.int i) j pos) (oC (.int i)) := w_const pe_int fun _ _ _ => .int i
theorem w_bl {b j pos} : WE X L (.Constant (.bool b) j pos) (oC (.bl b)) := w_const pe_bl fun _ _ _ => .bl b
theorem w_non {j pos} : WE X L (.Constant .none j pos) (oC .non) := w_const pe_non fun _ _ _ => .non
theorem w_str {x j pos} (l : List Nat) (e : x = mkS l := by rfl) : WE X L (.Constant (.str x) j pos) (oC (.str l)) := w_const pe_str fun _ _ _ => by rw [e]; exact .str l
/-- a def, a class, a method table ..: an address of the written part -/
theorem w_glob {x : Str} {a : Addr} (hg : Gl X x) (hm : X.mg x = some (.ref a)) (hd : (x == ("__debug__" : Str)) = false := by decide) : WE X L (.Name x pos) (oC (.ref a)) := w_const (pe_glob hg hm (v := .ref a) rfl hd) fun _ _ _ => .ref a
theorem w_globI {x : Str} {i : Int} (hg : Gl X x) (hm : ∃ t, X.mg x = some (.int i t)) (hd : (x == ("__debug__" : Str)) = false := by decide) : WE X L (.Name x pos) (oC (.int i)) :=
  let ⟨t, hm⟩ := hm; w_const (pe_glob hg hm (v := .int i) ⟨t, rfl⟩ hd) fun _ _ _ => .int i
theorem w_globS {x : Str} (l : List Nat) (hg : Gl X x) (hm : ∃ t, X.mg x = some (.str (mkS l) t)) (hd : (x == ("__debug__" : Str)) = false := by decide) : WE X L (.Name x pos) (oC (.str l)) :=
  let ⟨t, hm⟩ := hm; w_const (pe_glob hg hm (v := .str (mkS l)) ⟨t, rfl⟩ hd) fun _ _ _ => .str l
theorem w_bltn {x : Str} {n : String} (hg : Gl X x) (hm : X.mg x = none) (hv : bootBuiltins x = some (.type n)) (hn : x ≠ "__name__" := by decide) (hd : (x == ("__debug__" : Str)) = false := by decide) : WE X L (.Name x pos) (oC (.ty n)) := w_const (pe_bltn (v := .ty n) hg hm hv rfl hn hd) fun _ _ _ => .ty n
/-- a constant of the written part: any value that stands for w wherever -/
structure Sk (K : PySem.W.Frag) (u : Value) (w : W) : Prop where
  is : ∃ v, RelV v u ∧ ∀ H h, RW K H h v w
theorem w_globW {x : Str} {u : Value} {w : W} (hg : Gl X x) (hm : X.mg x = some u) (s : Sk X.K u w) (hd : (x == ("__debug__" : Str)) = false := by decide) : WE X L (.Name x pos) (oC w) :=
  let ⟨v, r, q⟩ := s.is; w_const (pe_glob hg hm r hd) fun H h _ => q H h

/-! ## operators -/
variable {a b c e : Expr} {es : List Expr} {ta tb tc te : TEW} {t : TAW}
def oOp (rw : RW2) (ta tb : TEW) : TEW := fun ρ h R => ta ρ h fun x h1 => tb ρ h1 fun y h2 => rw x y h2 R
def oUn (rw : W → HW → KW → Prop) (ta : TEW) : TEW := fun ρ h R => ta ρ h fun x h1 => rw x h1 R
theorem bin_imp {r : R2} {rw : RW2} (l : Lf2 X.K r rw) : ∀ σ H Q, lE X.K L (oOp rw ta tb) σ H Q → tOp r (lE X.K L ta) (lE X.K L tb) σ H Q := fun σ H Q ⟨ρ, h, R, S, t, k⟩ =>
  ⟨ρ, h, _, S, t, fun w1 h1 v1 H1 t1 s1 r1 q1 => ⟨ρ, h1, _, S.to s1 r1, t1, fun w2 h2 v2 H2 t2 s2 r2 q2 => l v1 v2 H2 Q w1 w2 h2 R (q1.mono s2) q2 r2 t2 (k.mono (s1.trans s2))⟩⟩
theorem w_op {op : Operator} {r : R2} {rw : RW2} (ho : OpR X (binaryOp op) r) (l : Lf2 X.K r rw) (ha : WE X L a ta) (hb : WE X L b tb) : WE X L (.BinOp a op b pos) (oOp rw ta tb) := (pe_op ho ha hb).imp (bin_imp l)
theorem w_un {op : UnaryOp} {r : V → Hp → VK → Prop} {rw : W → HW → KW → Prop} (ho : UnR X (unaryOp op) r) (l : Lf1 X.K r rw) (ha : WE X L a ta) : WE X L (.UnaryOp op a pos) (oUn rw ta) := (pe_un ho ha).imp fun σ H Q ⟨ρ, h, R, S, t, k⟩ =>
  ⟨ρ, h, _, S, t, fun w1 h1 v1 H1 t1 s1 r1 q1 => l v1 H1 Q w1 h1 R q1 r1 t1 (k.mono s1)⟩
theorem w_cmp {op : CmpOp} {r : R2} {rw : RW2} (ho : OpR X (compareOp op) r) (l : Lf2 X.K r rw) (ha : WE X L a ta) (hb : WE X L b tb) (hm : behindInMarks op b = false) : WE X L (.Compare a [op] [b] pos) (oOp rw ta tb) := (pe_cmpR ho ha hb hm).imp (bin_imp l)
/-- a value that is a bool, as a test -/
def oTest (te : TEW) : TTW := fun ρ h R => te ρ h fun x h1 => match x with | .bl k => R k h1 | _ => False
theorem test_imp {te : TE} {tw : TEW} (i : ∀ σ H Q, lE X.K L tw σ H Q → te σ H Q) : ∀ σ H Q, lT X.K L (oTest tw) σ H Q → (te σ H fun x H' => ∃ k, x = .bl k ∧ Q k H') := fun σ H Q ⟨ρ, h, R, S, t, k⟩ =>
  i σ H _ ⟨ρ, h, _, S, t, fun w1 h1 v1 H1 t1 s1 r1 q1 => by
    cases w1 with
    | bl b => cases q1; exact ⟨b, rfl, k b h1 H1 t1 s1 r1⟩
    | _ => exact t1.elim⟩
theorem wt_cmp {op : CmpOp} {r : R2} {rw : RW2} (ho : OpR X (compareOp op) r) (l : Lf2 X.K r rw) (ha : WE X L a ta) (hb : WE X L b tb) (hm : behindInMarks op b = false) : WT X L (.Compare a [op] [b] pos) (oTest (oOp rw ta tb)) := (pt_cmpR ho ha hb hm).imp (test_imp (bin_imp l))
theorem wt_val (ha : WE X L e te) (he : ∀ whole, isTrue e X.env whole = (do let v ← whole; standAt e.pos; holding [v] (truthy v)) := by intro _; rfl) : WT X L e (oTest te) := (pt_val ha he).imp (test_imp fun _ _ _ q => q)
/-- a op1 b op2 c -/
def oChain (r r' : RW2) (ta tb tc : TEW) : TEW := fun ρ h R => ta ρ h fun x h1 => tb ρ h1 fun y h2 => r x y h2 fun z h3 => match z with
  | .bl k => if k = true then tc ρ h3 fun w' h4 => r' y w' h4 R else R (.bl false) h3
  | _ => False
theorem chain_imp {r r' : R2} {rw rw' : RW2} (l : Lf2 X.K r rw) (l' : Lf2 X.K r' rw') : ∀ σ H Q, lE X.K L (oChain rw rw' ta tb tc) σ H Q → tChain r r' (lE X.K L ta) (lE X.K L tb) (lE X.K L tc) σ H Q := fun σ H Q ⟨ρ, h, R, S, t, k⟩ =>
  ⟨ρ, h, _, S, t, fun w1 h1 v1 H1 t1 s1 r1 q1 => ⟨ρ, h1, _, S.to s1 r1, t1, fun w2 h2 v2 H2 t2 s2 r2 q2 => l v1 v2 H2 _ w1 w2 h2 _ (q1.mono s2) q2 r2 t2 fun w3 h3 v3 H3 t3 s3 r3 q3 => by
    cases w3 with
    | bl b =>
      cases q3
      refine ⟨b, rfl, ?_⟩
      cases b with
      | true => exact ⟨ρ, h3, _, S.to (s1.trans (s2.trans s3)) r3, t3, fun w4 h4 v4 H4 t4 s4 r4 q4 => l' v2 v4 H4 Q w2 w4 h4 R (q2.mono (s3.trans s4)) q4 r4 t4 (k.mono (s1.trans (s2.trans (s3.trans s4))))⟩
      | false => exact k _ h3 _ H3 t3 (s1.trans (s2.trans s3)) r3 (.bl false)
    | _ => exact t3.elim⟩⟩
theorem w_chain {op op' : CmpOp} {r r' : R2} {rw rw' : RW2} (ho : OpR X (compareOp op) r) (l : Lf2 X.K r rw) (ho' : OpR X (compareOp op') r') (l' : Lf2 X.K r' rw') (ha : WE X L a ta) (hb : WE X L b tb) (hc : WE X L c tc)
    (hm : lastMarks [op, op'] [b, c] = false := by with_unfolding_all rfl) : WE X L (.Compare a [op, op'] [b, c] pos) (oChain rw rw' ta tb tc) := (pe_chain ho ho' ha hb hc hm).imp (chain_imp l l')
theorem wt_chain {op op' : CmpOp} {r r' : R2} {rw rw' : RW2} (ho : OpR X (compareOp op) r) (l : Lf2 X.K r rw) (ho' : OpR X (compareOp op') r') (l' : Lf2 X.K r' rw') (ha : WE X L a ta) (hb : WE X L b tb) (hc : WE X L c tc)
    (hm : lastMarks [op, op'] [b, c] = false := by with_unfolding_all rfl) : WT X L (.Compare a [op, op'] [b, c] pos) (oTest (oChain rw rw' ta tb tc)) := (pt_chain ho ho' ha hb hc hm).imp (test_imp (chain_imp l l'))
/-! ## tests -/
variable {tA tB' : TTW} {rest : List Expr}
def oAnd (t u : TTW) : TTW := fun ρ h R => t ρ h fun c h1 => if c = true then u ρ h1 R else R false h1
def oOr (t u : TTW) : TTW := fun ρ h R => t ρ h fun c h1 => if c = true then R true h1 else u ρ h1 R
def oNot (t : TTW) : TTW := fun ρ h R => t ρ h fun c h1 => R (!c) h1
abbrev WW (X : Cx) (L : Lk) (e : Expr) (t : TTW) : Prop := PW X e (lT X.K L t)
theorem ww_and1 (ha : WT X L a tA) : WW X L (.BoolOp .And [a] pos) tA := pw_and1 ha
theorem ww_or1 (ha : WT X L a tA) : WW X L (.BoolOp .Or [a] pos) tA := pw_or1 ha
theorem ww_and (ha : WT X L a tA) (hb : WW X L (.BoolOp .And (b :: rest) pos) tB') : WW X L (.BoolOp .And (a :: b :: rest) pos) (oAnd tA tB') := (pw_and ha hb).imp fun σ H Q ⟨ρ, h, R, S, t, k⟩ =>
  ⟨ρ, h, _, S, t, fun c h1 H1 t1 s1 r1 => by
    cases c with
    | true => exact ⟨ρ, h1, R, S.to s1 r1, t1, k.mono s1⟩
    | false => exact k _ h1 H1 t1 s1 r1⟩
theorem ww_or (ha : WT X L a tA) (hb : WW X L (.BoolOp .Or (b :: rest) pos) tB') : WW X L (.BoolOp .Or (a :: b :: rest) pos) (oOr tA tB') := (pw_or ha hb).imp fun σ H Q ⟨ρ, h, R, S, t, k⟩ =>
  ⟨ρ, h, _, S, t, fun c h1 H1 t1 s1 r1 => by
    cases c with
    | true => exact k _ h1 H1 t1 s1 r1
    | false => exact ⟨ρ, h1, R, S.to s1 r1, t1, k.mono s1⟩⟩
theorem wt_bool {t : TTW} (h : WW X L e t) : WT X L e t := h.pt
theorem wt_not (ha : WT X L a tA) : WT X L (.UnaryOp .Not a pos) (oNot tA) := (pt_not ha).imp fun σ H Q ⟨ρ, h, R, S, t, k⟩ => ⟨ρ, h, _, S, t, fun c h1 H1 t1 s1 r1 => k _ h1 H1 t1 s1 r1⟩
/-- and, or, not as values: all but the last are bools -/
def oAndV (ta tb : TEW) : TEW := fun ρ h R => ta ρ h fun x h1 => match x with | .bl c => if c = true then tb ρ h1 R else R (.bl false) h1 | _ => False
def oOrV (ta tb : TEW) : TEW := fun ρ h R => ta ρ h fun x h1 => match x with | .bl c => if c = true then R (.bl true) h1 else tb ρ h1 R | _ => False
def oNotV (ta : TEW) : TEW := fun ρ h R => ta ρ h fun x h1 => match x with | .bl c => R (.bl (!c)) h1 | _ => False
theorem w_one {op} (h : WE X L a ta) : WE X L (.BoolOp op [a] pos) ta := pe_one h
theorem w_and (ha : WE X L a ta) (hb : WE X L (.BoolOp .And (b :: rest) pos) tb) : WE X L (.BoolOp .And (a :: b :: rest) pos) (oAndV ta tb) := (pe_and ha hb).imp fun σ H Q ⟨ρ, h, R, S, t, k⟩ =>
  ⟨ρ, h, _, S, t, fun w1 h1 v1 H1 t1 s1 r1 q1 => by
    cases w1 with
    | bl c =>
      cases q1
      refine ⟨c, rfl, ?_⟩
      cases c with
      | true => exact ⟨ρ, h1, R, S.to s1 r1, t1, k.mono s1⟩
      | false => exact k _ h1 _ H1 t1 s1 r1 (.bl false)
    | _ => exact t1.elim⟩
theorem w_or (ha : WE X L a ta) (hb : WE X L (.BoolOp .Or (b :: rest) pos) tb) : WE X L (.BoolOp .Or (a :: b :: rest) pos) (oOrV ta tb) := (pe_or ha hb).imp fun σ H Q ⟨ρ, h, R, S, t, k⟩ =>
  ⟨ρ, h, _, S, t, fun w1 h1 v1 H1 t1 s1 r1 q1 => by
    cases w1 with
    | bl c =>
      cases q1
      refine ⟨c, rfl, ?_⟩
      cases c with
      | true => exact k _ h1 _ H1 t1 s1 r1 (.bl true)
      | false => exact ⟨ρ, h1, R, S.to s1 r1, t1, k.mono s1⟩
    | _ => exact t1.elim⟩
theorem w_not (ha : WE X L a ta) : WE X L (.UnaryOp .Not a pos) (oNotV ta) := (pe_not ha).imp fun σ H Q ⟨ρ, h, R, S, t, k⟩ =>
  ⟨ρ, h, _, S, t, fun w1 h1 v1 H1 t1 s1 r1 q1 => by
    cases w1 with
    | bl c => cases q1; exact ⟨c, rfl, k _ h1 _ H1 t1 s1 r1 (.bl _)⟩
    | _ => exact t1.elim⟩
def oIf (t : TTW) (ta tb : TEW) : TEW := fun ρ h R => t ρ h fun c h1 => if c = true then ta ρ h1 R else tb ρ h1 R
theorem w_ifExp (hc : WT X L c tA) (ha : WE X L a ta) (hb : WE X L b tb) : WE X L (.IfExp c a b pos) (oIf tA ta tb) := (pe_ifExp hc ha hb).imp fun σ H Q ⟨ρ, h, R, S, t, k⟩ =>
  ⟨ρ, h, _, S, t, fun c h1 H1 t1 s1 r1 => by
    cases c with
    | true => exact ⟨ρ, h1, R, S.to s1 r1, t1, k.mono s1⟩
    | false => exact ⟨ρ, h1, R, S.to s1 r1, t1, k.mono s1⟩⟩
/-! ## arguments, displays -/
def oNil : TAW := fun _ h R => R [] h
def oCons (ta : TEW) (tr : TAW) : TAW := fun ρ h R => ta ρ h fun x h1 => tr ρ h1 fun xs h2 => R (x :: xs) h2
theorem wa_nil : WA X L [] oNil := pa_nil.imp fun σ H Q ⟨ρ, h, R, S, t, k⟩ => k _ h _ H t (.refl _ _) S.hr .nil
theorem wa_cons (ha : WE X L e te) (hr : WA X L es t) (hs : starEach (e :: es) X.env = (false, eval e X.env) :: starEach es X.env := by rfl) : WA X L (e :: es) (oCons te t) := (pa_cons ha hr hs).imp fun σ H Q ⟨ρ, h, R, S, t, k⟩ =>
  ⟨ρ, h, _, S, t, fun w1 h1 v1 H1 t1 s1 r1 q1 => ⟨ρ, h1, _, S.to s1 r1, t1, fun ws h2 vs H2 t2 s2 r2 q2 => k _ h2 _ H2 t2 (s1.trans s2) r2 (.cons (q1.mono s2) q2)⟩⟩
theorem sz_small {n : Nat} (h : n ≤ 100000 := by decide) : n ≤ sizeLine := Nat.le_trans h (by decide)
theorem FzT.new {K : PySem.W.Frag} {H : Hp} {h : HW} {p : Addr} {vs : List V} (hr : HR K H h) (e : H p = none) : FzT K (upd H p (.tup vs)) h p vs := .inl ⟨.inl upd_same, hr.fresh e⟩
theorem FzL.new {K : PySem.W.Frag} {H : Hp} {h : HW} {p : Addr} {vs : List V} (hr : HR K H h) (e : H p = none) : FzL (upd H p (.lst vs)) h p vs := ⟨upd_same, hr.fresh e⟩
/-- a new tuple, a new list that stays, a new list that is owned -/
theorem KV.tup {K : PySem.W.Frag} {H : Hp} {h : HW} {R : KW} {Q : VK} (k : KV K H h R Q) (hr : HR K H h) {vs : List V} {ws : List W} (r : RWs K H h vs ws) (t : R (.tup ws) h) {p : Addr} (e : H p = none) : Q (.ref p) (upd H p (.tup vs)) :=
  k _ h _ _ t (.newF e _) (hr.newF e _) (.tup (.new hr e) (r.mono (.newF e _)))
theorem KV.lst {K : PySem.W.Frag} {H : Hp} {h : HW} {R : KW} {Q : VK} (k : KV K H h R Q) (hr : HR K H h) {vs : List V} {ws : List W} (r : RWs K H h vs ws) (t : R (.lst ws) h) {p : Addr} (e : H p = none) : Q (.ref p) (upd H p (.lst vs)) :=
  k _ h _ _ t (.newF e _) (hr.newF e _) (.lst (.new (K := K) hr e) (r.mono (.newF e _)))
theorem KV.lstO {K : PySem.W.Frag} {H : Hp} {h : HW} {R : KW} {Q : VK} (k : KV K H h R Q) (hr : HR K H h) {vs : List V} {ws : List W} (r : RWs K H h vs ws) (t : ∀ p, h p = none → R (.ref p) (updW h p (.lst ws))) {p : Addr} (e : H p = none) : Q (.ref p) (upd H p (.lst vs)) :=
  k _ _ _ _ (t p (hr.fresh e)) (.newO e _ _) (hr.newO e ⟨vs, upd_same, r.mono (.newO e _ _)⟩) (.ref p)
def oTup (t : TAW) : TEW := fun ρ h R => t ρ h fun ws h1 => ws.length ≤ 16000000 ∧ R (.tup ws) h1
def oLst (t : TAW) : TEW := fun ρ h R => t ρ h fun ws h1 => ws.length ≤ 16000000 ∧ R (.lst ws) h1
def oLstO (t : TAW) : TEW := fun ρ h R => t ρ h fun ws h1 => ws.length ≤ 16000000 ∧ ∀ p, h1 p = none → R (.ref p) (updW h1 p (.lst ws))
theorem sz_big {n : Nat} (h : n ≤ 16000000) : n ≤ sizeLine := Nat.le_trans h (by decide)
theorem w_tup {x1} (ha : WA X L es t) : WE X L (.Tuple es x1 pos) (oTup t) := (pe_tup ha).imp fun σ H Q ⟨ρ, h, R, S, t, k⟩ =>
  ⟨ρ, h, _, S, t, fun ws h1 vs H1 ⟨e, t1⟩ s1 r1 q1 => ⟨by rw [q1.length]; exact sz_big e, fun p hp => (k.mono s1).tup r1 q1 t1 hp⟩⟩
theorem w_lst (ha : WA X L es t) : WE X L (.List es pos) (oLst t) := (pe_lst ha).imp fun σ H Q ⟨ρ, h, R, S, t, k⟩ =>
  ⟨ρ, h, _, S, t, fun ws h1 vs H1 ⟨e, t1⟩ s1 r1 q1 => ⟨by rw [q1.length]; exact sz_big e, fun p hp => (k.mono s1).lst r1 q1 t1 hp⟩⟩
theorem w_lstO (ha : WA X L es t) : WE X L (.List es pos) (oLstO t) := (pe_lst ha).imp fun σ H Q ⟨ρ, h, R, S, t, k⟩ =>
  ⟨ρ, h, _, S, t, fun ws h1 vs H1 ⟨e, t1⟩ s1 r1 q1 => ⟨by rw [q1.length]; exact sz_big e, fun p hp => (k.mono s1).lstO r1 q1 t1 hp⟩⟩
end
end Wl

set_option Elab.async false
set_option linter.all false
set_option maxRecDepth 100000
namespace Wl
open PySem PySem.Spec PyProof.Rows L2
theorem mkS_append (a b : List Nat) : mkS a ++ mkS b = mkS (a ++ b) := by
  show Str.append _ _ = _
  simp [Str.append, mkS]
theorem mkS_length (a : List Nat) : (mkS a).length = a.length := by simp [mkS, Str.length]
theorem mkS_inj {a b : List Nat} : mkS a = mkS b ↔ a = b := by simp [mkS]
theorem mkS_list (z : Str) : z = mkS z.cps.toList := by cases z; rfl
theorem RW.eq_int {K : PySem.W.Frag} {H : Hp} {h : HW} {x : V} {i : Int} (r : RW K H h x (.int i)) : x = .int i := by cases r; rfl
theorem RW.eq_str {K : PySem.W.Frag} {H : Hp} {h : HW} {x : V} {i : List Nat} (r : RW K H h x (.str i)) : x = .str (mkS i) := by cases r; rfl
theorem RW.eq_bl {K : PySem.W.Frag} {H : Hp} {h : HW} {x : V} {i : Bool} (r : RW K H h x (.bl i)) : x = .bl i := by cases r; rfl
theorem RW.eq_ref {K : PySem.W.Frag} {H : Hp} {h : HW} {x : V} {a : Addr} (r : RW K H h x (.ref a)) : x = .ref a := by cases r; rfl
theorem RWs.one {K : PySem.W.Frag} {H : Hp} {h : HW} {xs : List V} {w : W} (r : RWs K H h xs [w]) : ∃ x, xs = [x] ∧ RW K H h x w := by
  cases r with
  | cons r t => cases t; exact ⟨_, rfl, r⟩
theorem RWs.two {K : PySem.W.Frag} {H : Hp} {h : HW} {xs : List V} {w u : W} (r : RWs K H h xs [w, u]) : ∃ x y, xs = [x, y] ∧ RW K H h x w ∧ RW K H h y u := by
  cases r with
  | cons r t => cases t with | cons q t => cases t; exact ⟨_, _, rfl, r, q⟩
theorem RWs.zero {K : PySem.W.Frag} {H : Hp} {h : HW} {xs : List V} (r : RWs K H h xs []) : xs = [] := by cases r; rfl
section
variable {X : Cx} {K : PySem.W.Frag}
/-! ## arithmetic -/
def addW : RW2 := fun x y h R => match x, y with
  | .int i, .int j => R (.int (i + j)) h
  | .str i, .str j => i.length + j.length ≤ 16000000 ∧ R (.str (i ++ j)) h
  | .tup xs, .tup ys => xs ≠ [] ∧ xs.length + ys.length ≤ 16000000 ∧ R (.tup (xs ++ ys)) h
  | .lst xs, .lst ys => xs.length + ys.length ≤ 16000000 ∧ R (.lst (xs ++ ys)) h
  | _, _ => False
theorem ow_add : OpR X (binaryOp .Add) (fun x y H Q => rI0 (fun i j => .int (i + j)) x y H Q ∨ (∃ i j, x = .str i ∧ y = .str j ∧ i.length + j.length ≤ sizeLine ∧ Q (.str (i ++ j)) H) ∨ rCatT X.K x y H Q ∨ rCat x y H Q) :=
  op_add.or (op_add_str.or (op_catT.or op_cat))
theorem lf_add : Lf2 K (fun x y H Q => rI0 (fun i j => .int (i + j)) x y H Q ∨ (∃ i j, x = .str i ∧ y = .str j ∧ i.length + j.length ≤ sizeLine ∧ Q (.str (i ++ j)) H) ∨ rCatT K x y H Q ∨ rCat x y H Q) addW := fun x y H Q w1 w2 h R r1 r2 hr t k => by
  unfold addW at t
  split at t
  · cases r1; cases r2; exact .inl ⟨_, _, rfl, rfl, k.go hr t (.int _)⟩
  · cases r1; cases r2
    refine .inr (.inl ⟨_, _, rfl, rfl, ?_, ?_⟩)
    · rw [mkS_length, mkS_length]; exact sz_big t.1
    · rw [mkS_append]; exact k.go hr t.2 (.str _)
  · rename_i xs ys
    cases r1 with
    | tup f1 q1 =>
      cases r2 with
      | tup f2 q2 =>
        obtain ⟨t1, t2, t3⟩ := t
        refine .inr (.inr (.inl ⟨_, _, _, _, rfl, rfl, f1.sq, f2.sq, ?_, ?_, ?_, ?_⟩))
        · intro e; subst e; cases q1; exact t1 rfl
        · rw [q1.length, q2.length]; exact sz_big t2
        · intro e; subst e; cases q2; rw [List.append_nil] at t3; exact k.go hr t3 (.tup f1 q1)
        · exact fun _ p hp => k.tup hr (q1.append q2) t3 hp
  · rename_i xs ys
    cases r1 with
    | lst f1 q1 =>
      cases r2 with
      | lst f2 q2 =>
        obtain ⟨t2, t3⟩ := t
        exact .inr (.inr (.inr ⟨_, _, _, _, rfl, rfl, f1.1, f2.1, by rw [q1.length, q2.length]; exact sz_big t2, fun p hp => k.lst hr (q1.append q2) t3 hp⟩))
  · exact t.elim
def intW (C : Int → Int → Prop) (g : Int → Int → Int) : RW2 := fun x y h R => match x, y with
  | .int i, .int j => C i j ∧ R (.int (g i j)) h
  | _, _ => False
def intW0 (g : Int → Int → Int) : RW2 := fun x y h R => match x, y with
  | .int i, .int j => R (.int (g i j)) h
  | _, _ => False
theorem lf_int {C : Int → Int → Prop} {g : Int → Int → Int} : Lf2 K (rI C fun i j => .int (g i j)) (intW C g) := fun x y H Q w1 w2 h R r1 r2 hr t k => by
  unfold intW at t
  split at t
  · cases r1; cases r2; exact ⟨_, _, rfl, rfl, t.1, k.go hr t.2 (.int _)⟩
  · exact t.elim
theorem lf_int0 {g : Int → Int → Int} : Lf2 K (rI0 fun i j => .int (g i j)) (intW0 g) := fun x y H Q w1 w2 h R r1 r2 hr t k => by
  unfold intW0 at t
  split at t
  · cases r1; cases r2; exact ⟨_, _, rfl, rfl, k.go hr t (.int _)⟩
  · exact t.elim
def cmpW (g : Int → Int → Bool) : RW2 := fun x y h R => match x, y with
  | .int i, .int j => R (.bl (g i j)) h
  | _, _ => False
theorem lf_cmp {g : Int → Int → Bool} : Lf2 K (rI0 fun i j => .bl (g i j)) (cmpW g) := fun x y H Q w1 w2 h R r1 r2 hr t k => by
  unfold cmpW at t
  split at t
  · cases r1; cases r2; exact ⟨_, _, rfl, rfl, k.go hr t (.bl _)⟩
  · exact t.elim
def subW : RW2 := intW0 fun i j => i - j
def mulW : RW2 := intW CMul fun i j => i * j
def modW : RW2 := intW (fun _ j => 0 < j) fun i j => i % j
def fdivW : RW2 := intW CDiv fun i j => i / j
def ltW : RW2 := cmpW fun i j => decide (i < j)
def leW : RW2 := cmpW fun i j => decide (i ≤ j)
def gtW : RW2 := cmpW fun i j => decide (j < i)
def geW : RW2 := cmpW fun i j => decide (j ≤ i)
theorem CMul.r {i j : Int} (h : -(2 ^ 64) < j ∧ j < 2 ^ 64) : CMul i j := .inr h
theorem CMul.l {i j : Int} (h : -(2 ^ 64) < i ∧ i < 2 ^ 64) : CMul i j := .inl h
/-- unary minus -/
def negW : W → HW → KW → Prop := fun x h R => match x with | .int i => R (.int (-i)) h | _ => False
theorem lf_neg : Lf1 K (rU fun i => .int (-i)) negW := fun x H Q w h R r hr t k => by
  unfold negW at t
  split at t
  · cases r; exact ⟨_, rfl, k.go hr t (.int _)⟩
  · exact t.elim
/-! ## == of data at any depth -/
mutual
def toD : W → PyData
  | .int i => .int i
  | .str s => .str (mkS s)
  | .bl b => .bool b
  | .tup ws => .tuple (toDs ws)
  | .lst ws => .list (toDs ws)
  | _ => .none
def toDs : List W → List PyData
  | [] => []
  | w :: ws => toD w :: toDs ws
end
mutual
/-- None, bools, ints, texts, tuples and lists of such -/
def dataW : W → Bool
  | .non => true
  | .bl _ => true
  | .int _ => true
  | .str s => PyData.strOk (mkS s)
  | .tup ws => datasW ws
  | .lst ws => datasW ws
  | _ => false
def datasW : List W → Bool
  | [] => true
  | w :: ws => dataW w && datasW ws
end
mutual
def depW : W → Nat
  | .tup ws => depsW ws + 1
  | .lst ws => depsW ws + 1
  | _ => 0
def depsW : List W → Nat
  | [] => 0
  | w :: ws => max (depW w) (depsW ws)
end
mutual
theorem dp_of {H : Hp} {h : HW} : ∀ {v : V} {w : W}, RW K H h v w → dataW w = true → Dp K H v (toD w)
  | _, _, .non, e => by rw [toD] <;> first | exact .non | exact (fun _ => nofun)
  | _, _, .bl b, e => by rw [toD]; exact .bl b
  | _, _, .int i, _ => by rw [toD]; exact .int i
  | _, _, .str x, _ => by rw [toD]; exact .str _
  | _, _, .ty n, e => by simp [dataW] at e
  | _, _, .ref a, e => by simp [dataW] at e
  | _, _, .tup f r, e => by rw [toD]; exact .tup f.sq (dps_of r (by simpa [dataW] using e))
  | _, _, .lst f r, e => by rw [toD]; exact .lst f.sq (dps_of r (by simpa [dataW] using e))
  | _, _, .scr f r, e => by simp [dataW] at e
  | _, _, .dic f r, e => by simp [dataW] at e
theorem dps_of {H : Hp} {h : HW} : ∀ {v : List V} {w : List W}, RWs K H h v w → datasW w = true → DpAll K H v (toDs w)
  | _, _, .nil, _ => by rw [toDs]; exact .nil
  | _, _, .cons r t, e => by
    rw [datasW, Bool.and_eq_true] at e
    rw [toDs]; exact .cons (dp_of r e.1) (dps_of t e.2)
end
mutual
theorem lay_of : ∀ w : W, dataW w = true → (toD w).canLay0 = true
  | .non, _ => by simp [toD, PyData.canLay0]
  | .bl b, _ => by simp [toD, PyData.canLay0]
  | .int i, _ => by simp [toD, PyData.canLay0]
  | .str s, e => by simpa [toD, PyData.canLay0, dataW] using e
  | .tup ws, e => by rw [toD, PyData.canLay0]; exact lays_of ws (by simpa [dataW] using e)
  | .lst ws, e => by rw [toD, PyData.canLay0]; exact lays_of ws (by simpa [dataW] using e)
  | .scr _, e => by simp [dataW] at e
  | .dic _, e => by simp [dataW] at e
  | .ref _, e => by simp [dataW] at e
  | .ty _, e => by simp [dataW] at e
theorem lays_of : ∀ ws : List W, datasW ws = true → PyData.canLayAll0 (toDs ws) = true
  | [], _ => by simp [toDs, PyData.canLayAll0]
  | w :: ws, e => by
    rw [datasW, Bool.and_eq_true] at e
    rw [toDs, PyData.canLayAll0, lay_of w e.1, lays_of ws e.2]; rfl
end
mutual
theorem dep_of : ∀ w : W, (toD w).depth ≤ depW w
  | .non => by simp [toD, PyData.depth]
  | .bl b => by simp [toD, PyData.depth]
  | .int i => by simp [toD, PyData.depth]
  | .str s => by simp [toD, PyData.depth]
  | .tup ws => by rw [toD, PyData.depth, depW]; exact Nat.succ_le_succ (deps_of ws)
  | .lst ws => by rw [toD, PyData.depth, depW]; exact Nat.succ_le_succ (deps_of ws)
  | .scr _ => by simp [toD, PyData.depth]
  | .dic _ => by simp [toD, PyData.depth]
  | .ref _ => by simp [toD, PyData.depth]
  | .ty _ => by simp [toD, PyData.depth]
theorem deps_of : ∀ ws : List W, PyData.depthAll (toDs ws) ≤ depsW ws
  | [] => by simp [toDs, PyData.depthAll]
  | w :: ws => by
    have h1 := dep_of w
    have h2 := deps_of ws
    rw [toDs, PyData.depthAll, depsW]
    omega
end
def eqD (x y : W) : Bool := PyData.eqv (toD x) (toD y)
mutual
theorem eqv_of : ∀ x : W, dataW x = true → eqD x x = true
  | .non, _ => by simp [eqD, toD, PyData.eqv]
  | .bl b, _ => by simp [eqD, toD, PyData.eqv]
  | .int i, _ => by simp [eqD, toD, PyData.eqv]
  | .str s, e => by simp [eqD, toD, PyData.eqv]
  | .tup ws, e => by unfold eqD; rw [toD, PyData.eqv]; exact eqvs_of ws (by simpa [dataW] using e)
  | .lst ws, e => by unfold eqD; rw [toD, PyData.eqv]; exact eqvs_of ws (by simpa [dataW] using e)
  | .scr _, e => by simp [dataW] at e
  | .dic _, e => by simp [dataW] at e
  | .ref _, e => by simp [dataW] at e
  | .ty _, e => by simp [dataW] at e
theorem eqvs_of : ∀ ws : List W, datasW ws = true → PyData.eqvAll (toDs ws) (toDs ws) = true
  | [], _ => by simp [toDs, PyData.eqvAll]
  | w :: ws, e => by
    rw [datasW, Bool.and_eq_true] at e
    have h1 := eqv_of w e.1
    unfold eqD at h1
    rw [toDs, PyData.eqvAll, h1, eqvs_of ws e.2]; rfl
end
/-- an owned list as it is now -/
def rsv (x : W) (h : HW) : W := match x with
  | .ref p => (match h p with | some (.lst ws) => .lst ws | _ => .ref p)
  | x => x
theorem rsv_of {x : W} {h : HW} (e : dataW x = true) : rsv x h = x := by cases x <;> first | rfl | exact absurd e (by simp [dataW])
theorem dpr_of {H : Hp} {h : HW} (hr : HR K H h) {v : V} {w : W} (r : RW K H h v w) (e : dataW (rsv w h) = true) : Dp K H v (toD (rsv w h)) := by
  cases w with
  | ref p =>
    unfold rsv at e ⊢
    dsimp only at e ⊢
    split at e
    · rename_i ws hp
      cases r
      obtain ⟨vs, a, q⟩ := hr _ _ hp
      rw [toD]; exact .lst (.inl (.inl a)) (dps_of q (by simpa [dataW] using e))
    · simp [dataW] at e
  | _ => exact dp_of r e
def eqW : RW2 := fun x y h R => match x, y with
  | .int i, .int j => R (.bl (decide (i = j))) h
  | .str s, .str t => R (.bl (decide (s = t))) h
  | x, y => dataW (rsv x h) = true ∧ dataW (rsv y h) = true ∧ depW (rsv x h) ≤ 64 ∧ depW (rsv y h) ≤ 64 ∧ R (.bl (eqD (rsv x h) (rsv y h))) h
def neW : RW2 := fun x y h R => match x, y with
  | .int i, .int j => R (.bl (!decide (i = j))) h
  | .str s, .str t => R (.bl (!decide (s = t))) h
  | x, y => dataW (rsv x h) = true ∧ dataW (rsv y h) = true ∧ depW (rsv x h) ≤ 64 ∧ depW (rsv y h) ≤ 64 ∧ R (.bl (!eqD (rsv x h) (rsv y h))) h
theorem shaped_of {x : W} (h : dataW x = true) (d : depW x ≤ 64) : SeqAt.shaped (toD x) = true := by
  unfold SeqAt.shaped
  rw [lay_of x h, Bool.true_and, decide_eq_true_eq]
  exact Nat.le_trans (dep_of x) d
theorem eqD_nil (ws : List W) : eqD (.lst ws) (.lst []) = ws.isEmpty := by cases ws <;> simp [eqD, toD, toDs, PyData.eqv, PyData.eqvAll]
theorem ow_eq (hu : X.A.units + 64 < cLine) : OpR X (compareOp .Eq) (fun x y H Q => rEq x y H Q ∨ rEqD X.K x y H Q) := op_eq.or (op_eqD hu)
theorem ow_ne (hu : X.A.units + 64 < cLine) : OpR X (compareOp .NotEq) (fun x y H Q => rNe x y H Q ∨ rNeD X.K x y H Q) := op_ne.or (op_neD hu)
theorem lf_eq : Lf2 K (fun x y H Q => rEq x y H Q ∨ rEqD K x y H Q) eqW := fun x y H Q w1 w2 h R r1 r2 hr t k => by
  unfold eqW at t
  split at t
  · cases r1; cases r2
    refine .inl ⟨rfl, ?_⟩
    have := k.go hr t (.bl _)
    simpa [V.int.injEq] using this
  · cases r1; cases r2
    refine .inl ⟨rfl, ?_⟩
    have := k.go hr t (.bl _)
    simpa [V.str.injEq, mkS_inj] using this
  · obtain ⟨a, b, c, d, t⟩ := t
    exact .inr ⟨_, _, dpr_of hr r1 a, dpr_of hr r2 b, shaped_of a c, shaped_of b d, k.go hr t (.bl _)⟩
theorem lf_ne : Lf2 K (fun x y H Q => rNe x y H Q ∨ rNeD K x y H Q) neW := fun x y H Q w1 w2 h R r1 r2 hr t k => by
  unfold neW at t
  split at t
  · cases r1; cases r2
    refine .inl ⟨rfl, ?_⟩
    have := k.go hr t (.bl _)
    simpa [V.int.injEq] using this
  · cases r1; cases r2
    refine .inl ⟨rfl, ?_⟩
    have := k.go hr t (.bl _)
    simpa [V.str.injEq, mkS_inj] using this
  · obtain ⟨a, b, c, d, t⟩ := t
    exact .inr ⟨_, _, dpr_of hr r1 a, dpr_of hr r2 b, shaped_of a c, shaped_of b d, k.go hr t (.bl _)⟩
end
end Wl

set_option Elab.async false
set_option linter.all false
set_option maxRecDepth 100000
namespace Wl
open PySem PySem.Spec PyProof.Rows L2
section
variable {X : Cx} {K : PySem.W.Frag} {H : Hp} {h : HW}
theorem RWs.ints : ∀ {vs : List V} {ns : List Int}, RWs K H h vs (ns.map W.int) → vs = ns.map V.int
  | _, [], .nil => rfl
  | _, n :: ns, .cons r t => by rw [List.map_cons, r.eq_int, RWs.ints t]
theorem RWs.strs : ∀ {vs : List V} {ns : List (List Nat)}, RWs K H h vs (ns.map W.str) → vs = (ns.map mkS).map V.str
  | _, [], .nil => rfl
  | _, n :: ns, .cons r t => by rw [List.map_cons, List.map_cons, r.eq_str, RWs.strs t]
theorem RWs.bls : ∀ {vs : List V} {ns : List Bool}, RWs K H h vs (ns.map W.bl) → vs = ns.map V.bl
  | _, [], .nil => rfl
  | _, n :: ns, .cons r t => by rw [List.map_cons, r.eq_bl, RWs.bls t]
theorem RWs.of_ints : ∀ {ns : List Int}, RWs K H h (ns.map V.int) (ns.map W.int)
  | [] => .nil
  | n :: ns => .cons (.int n) RWs.of_ints
theorem RWs.of_strs : ∀ {ns : List (List Nat)}, RWs K H h ((ns.map mkS).map V.str) (ns.map W.str)
  | [] => .nil
  | n :: ns => .cons (.str n) RWs.of_strs
/-! ## in -/
def flatW : W → Bool
  | .int _ => true
  | .str _ => true
  | _ => false
def eqF : W → W → Bool
  | .int i, .int j => decide (i = j)
  | .str i, .str j => decide (i = j)
  | _, _ => false
def keyW : W → Option L2.Key
  | .int i => some (.inl i)
  | .str s => some (.inr (mkS s))
  | _ => none
def inW : RW2 := fun x y h R => match y with
  | .tup ws => flatW x = true ∧ ws.all flatW = true ∧ R (.bl (ws.any fun w => eqF w x)) h
  | .lst ws => flatW x = true ∧ ws.all flatW = true ∧ R (.bl (ws.any fun w => eqF w x)) h
  | .str t => match x with
    | .str [c] => R (.bl (decide (c ∈ t))) h
    | _ => False
  | .ref p => match h p with
    | some (.lst ws) => flatW x = true ∧ ws.all flatW = true ∧ R (.bl (ws.any fun w => eqF w x)) h
    | _ => False
  | _ => False
def notInW : RW2 := fun x y h R => match y with
  | .tup ws => flatW x = true ∧ ws.all flatW = true ∧ R (.bl (!ws.any fun w => eqF w x)) h
  | .lst ws => flatW x = true ∧ ws.all flatW = true ∧ R (.bl (!ws.any fun w => eqF w x)) h
  | .str t => match x with
    | .str [c] => R (.bl (!decide (c ∈ t))) h
    | _ => False
  | .ref p => match h p with
    | some (.lst ws) => flatW x = true ∧ ws.all flatW = true ∧ R (.bl (!ws.any fun w => eqF w x)) h
    | _ => False
  | _ => False
theorem flat_of {v : V} {w : W} (r : RW K H h v w) (f : flatW w = true) : flatV v = true := by
  cases r <;> first | rfl | exact absurd f Bool.false_ne_true
theorem flats_of : ∀ {vs : List V} {ws : List W}, RWs K H h vs ws → ws.all flatW = true → vs.all flatV = true
  | _, _, .nil, _ => rfl
  | _, _, .cons r t, f => by
    rw [List.all_cons, Bool.and_eq_true] at f ⊢
    exact ⟨flat_of r f.1, flats_of t f.2⟩
theorem eqF_of {v u : V} {w x : W} (r : RW K H h v w) (q : RW K H h u x) (f : flatW w = true) (g : flatW x = true) : eqV v u = eqF w x := by
  cases r <;> first | exact absurd f Bool.false_ne_true | skip
  · cases q <;> first | exact absurd g Bool.false_ne_true | skip
    · show (_ == _) = decide _; exact Bool.beq_eq_decide_eq _ _
    · rfl
  · cases q <;> first | exact absurd g Bool.false_ne_true | skip
    · rfl
    · rename_i a b
      show (mkS a == mkS b) = decide (a = b)
      by_cases e : a = b
      · subst e; simp
      · simp [e, mkS_inj]
theorem inV_of {u : V} {x : W} (q : RW K H h u x) (g : flatW x = true) : ∀ {vs : List V} {ws : List W}, RWs K H h vs ws → ws.all flatW = true → inV u vs = ws.any fun w => eqF w x
  | _, _, .nil, _ => rfl
  | _, _, .cons r t, f => by
    rw [List.all_cons, Bool.and_eq_true] at f
    unfold inV
    rw [List.any_cons, List.any_cons, eqF_of r q f.1 g]
    congr 1
    exact inV_of q g t f.2
theorem dec_mem {c : Nat} {t : List Nat} : decide (c ∈ (mkS t).cps.toList) = decide (c ∈ t) := by
  rw [decide_eq_decide]; simp [mkS]
theorem ow_in : OpR X (compareOp .In) (fun x y H Q => rIn X.K false x y H Q ∨ (∃ (c : Nat) (z : Str), x = .str ⟨#[c]⟩ ∧ y = .str z ∧ Q (.bl (decide (c ∈ z.cps.toList))) H)) := op_in_seq.or op_in_sign
theorem ow_notIn : OpR X (compareOp .NotIn) (fun x y H Q => rIn X.K true x y H Q ∨ (∃ (c : Nat) (z : Str), x = .str ⟨#[c]⟩ ∧ y = .str z ∧ Q (.bl (!decide (c ∈ z.cps.toList))) H)) := op_notIn_seq.or op_notIn_sign
theorem lf_in : Lf2 K (fun x y H Q => rIn K false x y H Q ∨ (∃ (c : Nat) (z : Str), x = .str ⟨#[c]⟩ ∧ y = .str z ∧ Q (.bl (decide (c ∈ z.cps.toList))) H)) inW := fun x y H Q w1 w2 h R r1 r2 hr t k => by
  unfold inW at t
  split at t
  · obtain ⟨f, g, t⟩ := t
    cases r2 with
    | tup f2 q2 => exact .inl ⟨_, _, rfl, .inr f2.sq, flat_of r1 f, flats_of q2 g, by rw [inV_of r1 f q2 g]; exact k.go hr t (.bl _)⟩
  · obtain ⟨f, g, t⟩ := t
    cases r2 with
    | lst f2 q2 => exact .inl ⟨_, _, rfl, .inl f2.sq, flat_of r1 f, flats_of q2 g, by rw [inV_of r1 f q2 g]; exact k.go hr t (.bl _)⟩
  · split at t
    · cases r1; cases r2
      exact .inr ⟨_, _, rfl, rfl, by rw [dec_mem]; exact k.go hr t (.bl _)⟩
    · exact t.elim
  · split at t
    · rename_i p e ws hp
      obtain ⟨f, g, t⟩ := t
      cases r2
      obtain ⟨vs, hv, q2⟩ := hr p _ hp
      exact .inl ⟨_, _, rfl, .inl (SqL.of hv), flat_of r1 f, flats_of q2 g, by rw [inV_of r1 f q2 g]; exact k.go hr t (.bl _)⟩
    · exact t.elim
  · exact t.elim
theorem lf_notIn : Lf2 K (fun x y H Q => rIn K true x y H Q ∨ (∃ (c : Nat) (z : Str), x = .str ⟨#[c]⟩ ∧ y = .str z ∧ Q (.bl (!decide (c ∈ z.cps.toList))) H)) notInW := fun x y H Q w1 w2 h R r1 r2 hr t k => by
  unfold notInW at t
  split at t
  · obtain ⟨f, g, t⟩ := t
    cases r2 with
    | tup f2 q2 => exact .inl ⟨_, _, rfl, .inr f2.sq, flat_of r1 f, flats_of q2 g, by rw [inV_of r1 f q2 g]; exact k.go hr t (.bl _)⟩
  · obtain ⟨f, g, t⟩ := t
    cases r2 with
    | lst f2 q2 => exact .inl ⟨_, _, rfl, .inl f2.sq, flat_of r1 f, flats_of q2 g, by rw [inV_of r1 f q2 g]; exact k.go hr t (.bl _)⟩
  · split at t
    · cases r1; cases r2
      exact .inr ⟨_, _, rfl, rfl, by rw [dec_mem]; exact k.go hr t (.bl _)⟩
    · exact t.elim
  · split at t
    · rename_i p e ws hp
      obtain ⟨f, g, t⟩ := t
      cases r2
      obtain ⟨vs, hv, q2⟩ := hr p _ hp
      exact .inl ⟨_, _, rfl, .inl (SqL.of hv), flat_of r1 f, flats_of q2 g, by rw [inV_of r1 f q2 g]; exact k.go hr t (.bl _)⟩
    · exact t.elim
  · exact t.elim
/-! ## subscripts, slices -/
theorem RWs.atI {vs : List V} {ws : List W} {i : Int} {w : W} (r : RWs K H h vs ws) (e : atI ws i = some w) : ∃ v, L2.atI vs i = some v ∧ RW K H h v w := by
  unfold L2.atI at e ⊢
  rw [r.length]
  cases q : ixN ws.length i with
  | none => rw [q] at e; cases e
  | some j => rw [q] at e; exact r.get e
def ixW : RW2 := fun x y h R => match y with
  | .int i => (match x with
    | .tup ws => (match atI ws i with | some w => R w h | none => False)
    | .lst ws => (match atI ws i with | some w => R w h | none => False)
    | .scr ws => (match atI ws i with | some w => R w h | none => False)
    | .str s => (match atI s i with | some c => s.length ≤ 16000000 ∧ R (.str [c]) h | none => False)
    | .ref p => (match h p with | some (.lst ws) => (match atI ws i with | some w => R w h | none => False) | _ => False)
    | _ => False)
  | _ => False
theorem lf_ix : Lf2 K (rIx K) ixW := fun x y H Q w1 w2 h R r1 r2 hr t k => by
  unfold ixW at t
  split at t
  · cases r2
    split at t
    · split at t
      · rename_i e
        cases r1 with
        | tup f q => obtain ⟨v, e1, e2⟩ := q.atI e; exact .inr (.inl ⟨_, _, _, _, rfl, rfl, f.sq, e1, k.go hr t e2⟩)
      · exact t.elim
    · split at t
      · rename_i e
        cases r1 with
        | lst f q => obtain ⟨v, e1, e2⟩ := q.atI e; exact .inl ⟨_, _, _, _, rfl, rfl, f.sq, e1, k.go hr t e2⟩
      · exact t.elim
    · split at t
      · rename_i e
        cases r1 with
        | scr f q => obtain ⟨v, e1, e2⟩ := q.atI e; exact .inl ⟨_, _, _, _, rfl, rfl, f.sq, e1, k.go hr t e2⟩
      · exact t.elim
    · split at t
      · rename_i s c e
        cases r1
        exact .inr (.inr ⟨_, _, c, rfl, rfl, by rw [mkS_length]; exact sz_big t.1, by simpa [mkS] using e, k.go hr t.2 (.str [c])⟩)
      · exact t.elim
    · split at t
      · rename_i hp
        split at t
        · rename_i e
          cases r1
          obtain ⟨vs, hv, q⟩ := hr _ _ hp
          obtain ⟨v, e1, e2⟩ := q.atI e
          exact .inl ⟨_, _, _, _, rfl, rfl, SqL.of hv, e1, k.go hr t e2⟩
        · exact t.elim
      · exact t.elim
    · exact t.elim
  · exact t.elim
def cut {α : Type} (xs : List α) (lo hi : Option Int) : List α := (xs.drop (HT.sIx xs.length 0 lo)).take (HT.sIx xs.length xs.length hi - HT.sIx xs.length 0 lo)
theorem RWs.cut {vs : List V} {ws : List W} (r : RWs K H h vs ws) (lo hi : Option Int) : RWs K H h (cutV vs lo hi) (Wl.cut ws lo hi) := by
  unfold cutV Wl.cut
  rw [r.length]
  exact (r.drop _).take _
abbrev TOW := SlW → HW → (Option Int → HW → Prop) → Prop
def oNoPart : TOW := fun _ h R => R none h
def oPart (t : TEW) : TOW := fun ρ h R => t ρ h fun x h1 => match x with | .int i => R (some i) h1 | _ => False
def lO (K : PySem.W.Frag) (L : Lk) (t : TOW) : TO := fun σ H Q => ∃ ρ h R, Sta K L σ H ρ h ∧ t ρ h R ∧ ∀ o h' H', R o h' → ST H h H' h' → HR K H' h' → Q o H'
theorem _root_.L2.PO.imp {X : Cx} {e : Option Expr} {t t' : TO} (h : PO X e t) (i : ∀ σ H Q, t' σ H Q → t σ H Q) : PO X e t' := ⟨fun p s σ H Q I q => h.run p s σ H Q I (i _ _ _ q)⟩
variable {L : Lk} {e : Expr} {te : TEW} {lo hi : Option Expr} {tl th : TOW} {pos p2 : Pos} {a b : Expr} {ta tb : TEW}
theorem wo_none : PO X none (lO X.K L oNoPart) := po_none.imp fun σ H Q ⟨ρ, h, R, S, t, k⟩ => k _ h H t (.refl _ _) S.hr
theorem wo_some (he : WE X L e te) : PO X (some e) (lO X.K L (oPart te)) := (po_some he).imp fun σ H Q ⟨ρ, h, R, S, t, k⟩ =>
  ⟨ρ, h, _, S, t, fun w1 h1 v1 H1 t1 s1 r1 q1 => by
    cases w1 with
    | int i => cases q1; exact ⟨i, rfl, k _ h1 H1 t1 s1 r1⟩
    | _ => exact t1.elim⟩
def slW (x : W) (lo hi : Option Int) (h : HW) (R : KW) : Prop := match x with
  | .tup ws => ¬ (HT.sIx ws.length 0 lo = 0 ∧ HT.sIx ws.length ws.length hi = ws.length) ∧ R (.tup (cut ws lo hi)) h
  | .lst ws => R (.lst (cut ws lo hi)) h
  | .scr ws => R (.lst (cut ws lo hi)) h
  | .str s => s.length ≤ 16000000 ∧ R (.str (cut s lo hi)) h
  | .ref p => match h p with | some (.lst ws) => R (.lst (cut ws lo hi)) h | _ => False
  | _ => False
def oSl (te : TEW) (tl th : TOW) : TEW := fun ρ h R => te ρ h fun x h1 => tl ρ h1 fun l h2 => th ρ h2 fun u h3 => slW x l u h3 R
def rSl (K : PySem.W.Frag) : V → Option Int → Option Int → Hp → VK → Prop := fun x lo hi H Q => rSlT K x lo hi H Q ∨ rSlL K x lo hi H Q ∨ rSlS x lo hi H Q
theorem sl_any : SlR X (rSl X.K) := sl_tup.or (sl_list.or sl_str)
theorem lf_sl {x : V} {w : W} {lo hi : Option Int} {R : KW} {Q : VK} (r : RW K H h x w) (hr : HR K H h) (t : slW w lo hi h R) (k : KV K H h R Q) : rSl K x lo hi H Q := by
  unfold slW at t
  split at t
  · cases r with
    | tup f q => exact .inl ⟨_, _, rfl, f.sq, by rw [q.length]; exact t.1, fun p hp => k.tup hr (q.cut lo hi) t.2 hp⟩
  · cases r with
    | lst f q => exact .inr (.inl ⟨_, _, rfl, f.sq, fun p hp => k.lst hr (q.cut lo hi) t hp⟩)
  · cases r with
    | scr f q => exact .inr (.inl ⟨_, _, rfl, f.sq, fun p hp => k.lst hr (q.cut lo hi) t hp⟩)
  · rename_i s
    cases r
    refine .inr (.inr ⟨_, rfl, by rw [mkS_length]; exact sz_big t.1, ?_⟩)
    have e : cutS (mkS s) lo hi = mkS (cut s lo hi) := by
      unfold cutS cut
      rw [mkS_length]; rfl
    rw [e]; exact k.go hr t.2 (.str _)
  · split at t
    · rename_i hp
      cases r
      obtain ⟨vs, hv, q⟩ := hr _ _ hp
      exact .inr (.inl ⟨_, _, rfl, SqL.of hv, fun p hp => k.lst hr (q.cut lo hi) t hp⟩)
    · exact t.elim
  · exact t.elim
theorem w_slice (he : WE X L e te) (hl : PO X lo (lO X.K L tl)) (hu : PO X hi (lO X.K L th)) : WE X L (.Subscript e (.Slice lo hi none p2) pos) (oSl te tl th) := (pe_slice sl_any he hl hu).imp fun σ H Q ⟨ρ, h, R, S, t, k⟩ =>
  ⟨ρ, h, _, S, t, fun w1 h1 v1 H1 t1 s1 r1 q1 => ⟨ρ, h1, _, S.to s1 r1, t1, fun o1 h2 H2 t2 s2 r2 => ⟨ρ, h2, _, S.to (s1.trans s2) r2, t2, fun o2 h3 H3 t3 s3 r3 =>
    lf_sl (q1.mono (s2.trans s3)) r3 t3 (k.mono (s1.trans (s2.trans s3)))⟩⟩⟩
theorem w_ix (ha : WE X L a ta) (hb : WE X L b tb) (hs : PlainIx b := by exact fun _ _ => rfl) : WE X L (.Subscript a b pos) (oOp ixW ta tb) := (pe_ix ix_seq ha hb hs).imp (bin_imp lf_ix)
/-- xs[::-1] of a list -/
def revW : W → HW → KW → Prop := fun x h R => match x with
  | .lst ws => R (.lst ws.reverse) h
  | .scr ws => R (.lst ws.reverse) h
  | .ref p => (match h p with | some (.lst ws) => R (.lst ws.reverse) h | _ => False)
  | _ => False
theorem w_rev {k : Nat} {p1 p2 p3 pos : Pos} (he : WE X L e te) : WE X L (.Subscript e (.Slice none none (some (.UnaryOp .USub (.Constant (.int 1) k p1) p2)) p3) pos) (oUn revW te) := (pe_revL he).imp fun σ H Q ⟨ρ, h, R, S, t, k⟩ =>
  ⟨ρ, h, _, S, t, fun w1 h1 v1 H1 t1 s1 r1 q1 => by
    unfold revW at t1
    split at t1
    · cases q1 with
      | lst f q => exact ⟨_, _, rfl, f.sq, fun p hp => (k.mono s1).lst r1 q.reverse t1 hp⟩
    · cases q1 with
      | scr f q => exact ⟨_, _, rfl, f.sq, fun p hp => (k.mono s1).lst r1 q.reverse t1 hp⟩
    · split at t1
      · rename_i hp
        cases q1
        obtain ⟨vs, hv, q⟩ := r1 _ _ hp
        exact ⟨_, _, rfl, SqL.of hv, fun p hp => (k.mono s1).lst r1 q.reverse t1 hp⟩
      · exact t1.elim
    · exact t1.elim⟩
end
end Wl

set_option Elab.async false
set_option linter.all false
set_option maxRecDepth 100000
namespace Wl
open PySem PySem.Spec PyProof.Rows L2
section
variable {X : Cx} {K : PySem.W.Frag} {H : Hp} {h : HW} {L : Lk} {pos p : Pos} {e : Expr} {es : List Expr} {t : TAW}
/-! ## built-ins by their names -/
def oCB (rw : List W → HW → KW → Prop) (t : TAW) : TEW := fun ρ h R => t ρ h fun ws h1 => rw ws h1 R
theorem cb_imp {r : List V → Hp → VK → Prop} {rw : List W → HW → KW → Prop} (l : LfC X.K r rw) : ∀ σ H Q, lE X.K L (oCB rw t) σ H Q → tCB r (lA X.K L t) σ H Q := fun σ H Q ⟨ρ, h, R, S, t, k⟩ =>
  ⟨ρ, h, _, S, t, fun ws h1 vs H1 t1 s1 r1 q1 => l vs H1 Q ws h1 R q1 r1 t1 (k.mono s1)⟩
theorem w_callB {x : Str} {id : String} {r : List V → Hp → VK → Prop} {rw : List W → HW → KW → Prop} (hc : CallR X (.builtin id) r) (l : LfC X.K r rw) (hg : Gl X x) (hm : X.mg x = none) (hv : bootBuiltins x = some (.builtin id)) (ha : WA X L (e :: es) t)
    (hn : x ≠ "__name__" := by decide) (hdb : (x == ("__debug__" : Str)) = false := by decide)
    (he : starEach (e :: es) X.env = (false, eval e X.env) :: starEach es X.env := by rfl) (hpl : (backTo pos (starEach es X.env)).any (·.1) = false := by rfl) : WE X L (.Call (.Name x p) (e :: es) [] pos) (oCB rw t) :=
  (pe_callB hc hg hm hv ha hn hdb he hpl).imp (cb_imp l)
theorem w_callTy {x : Str} {T : String} {r : List V → Hp → VK → Prop} {rw : List W → HW → KW → Prop} (hc : CallR X (.type T) r) (l : LfC X.K r rw) (hg : Gl X x) (hm : X.mg x = none) (hv : bootBuiltins x = some (.type T)) (ha : WA X L (e :: es) t)
    (hn : x ≠ "__name__" := by decide) (hdb : (x == ("__debug__" : Str)) = false := by decide)
    (he : starEach (e :: es) X.env = (false, eval e X.env) :: starEach es X.env := by rfl) (hpl : (backTo pos (starEach es X.env)).any (·.1) = false := by rfl) : WE X L (.Call (.Name x p) (e :: es) [] pos) (oCB rw t) :=
  (pe_callTy hc hg hm hv ha hn hdb he hpl).imp (cb_imp l)
def lenW : List W → HW → KW → Prop := fun ws h R => match ws with
  | [.tup xs] => R (.int xs.length) h
  | [.lst xs] => R (.int xs.length) h
  | [.scr xs] => R (.int xs.length) h
  | [.str s] => s.length ≤ 16000000 ∧ R (.int s.length) h
  | [.ref p] => (match h p with | some (.lst xs) => R (.int xs.length) h | _ => False)
  | _ => False
theorem lf_len : LfC K (fun xs H Q => ∃ x n, xs = [x] ∧ LenV K x H n ∧ Q (.int n) H) lenW := fun xs H Q ws h R r hr t k => by
  unfold lenW at t
  split at t
  · obtain ⟨x, rfl, q⟩ := r.one
    cases q with
    | tup f q => exact ⟨_, _, rfl, .inr ⟨_, f.sq, q.length.symm⟩, k.go hr t (.int _)⟩
  · obtain ⟨x, rfl, q⟩ := r.one
    cases q with
    | lst f q => exact ⟨_, _, rfl, .inl ⟨_, f.sq, q.length.symm⟩, k.go hr t (.int _)⟩
  · obtain ⟨x, rfl, q⟩ := r.one
    cases q with
    | scr f q => exact ⟨_, _, rfl, .inl ⟨_, f.sq, q.length.symm⟩, k.go hr t (.int _)⟩
  · obtain ⟨x, rfl, q⟩ := r.one
    cases q
    exact ⟨_, _, rfl, ⟨by rw [mkS_length]; exact sz_big t.1, (mkS_length _).symm⟩, k.go hr t.2 (.int _)⟩
  · split at t
    · rename_i hp
      obtain ⟨x, rfl, q⟩ := r.one
      cases q
      obtain ⟨vs, hv, q⟩ := hr _ _ hp
      exact ⟨_, _, rfl, .inl ⟨_, SqL.of hv, q.length.symm⟩, k.go hr t (.int _)⟩
    · exact t.elim
  · exact t.elim
def absW : List W → HW → KW → Prop := fun ws h R => match ws with | [.int i] => R (.int i.natAbs) h | _ => False
theorem lf_abs : LfC K (fun xs H Q => ∃ i, xs = [.int i] ∧ Q (.int (if i < 0 then -i else i)) H) absW := fun xs H Q ws h R r hr t k => by
  unfold absW at t
  split at t
  · rename_i i
    obtain ⟨x, rfl, q⟩ := r.one
    cases q
    refine ⟨_, rfl, ?_⟩
    have e : (if i < 0 then -i else i) = (i.natAbs : Int) := by split <;> omega
    rw [e]; exact k.go hr t (.int _)
  · exact t.elim
def toIntW : List W → HW → KW → Prop := fun ws h R => match ws with | [.int i] => R (.int i) h | [.bl b] => R (.int (if b = true then 1 else 0)) h | _ => False
theorem lf_toInt : LfC K (fun xs H Q => (∃ i, xs = [.int i] ∧ Q (.int i) H) ∨ ∃ k, xs = [.bl k] ∧ Q (.int (if k then 1 else 0)) H) toIntW := fun xs H Q ws h R r hr t k => by
  unfold toIntW at t
  split at t
  · obtain ⟨x, rfl, q⟩ := r.one; cases q; exact .inl ⟨_, rfl, k.go hr t (.int _)⟩
  · obtain ⟨x, rfl, q⟩ := r.one; cases q; exact .inr ⟨_, rfl, k.go hr t (.int _)⟩
  · exact t.elim
/-- the decimal text of an int -/
def decS (i : Int) : List Nat := (Str.ofString (toString i)).cps.toList
def strW : List W → HW → KW → Prop := fun ws h R => match ws with | [.int i] => i.natAbs.log2 < 1920 ∧ R (.str (decS i)) h | _ => False
theorem lf_str : LfC K (fun xs H Q => ∃ i, xs = [.int i] ∧ i.natAbs.log2 < 1920 ∧ Q (.str (toString i)) H) strW := fun xs H Q ws h R r hr t k => by
  unfold strW at t
  split at t
  · obtain ⟨x, rfl, q⟩ := r.one; cases q
    refine ⟨_, rfl, t.1, k.go hr t.2 ?_⟩
    rw [mkS_list (Str.ofString (toString _))]; exact .str _
  · exact t.elim
def intsOf : List W → Option (List Int)
  | [] => some []
  | .int i :: r => (intsOf r).map (i :: ·)
  | _ :: _ => none
theorem intsOf_map : ∀ ns : List Int, intsOf (ns.map W.int) = some ns
  | [] => rfl
  | n :: ns => by rw [List.map_cons, intsOf, intsOf_map ns]; rfl
theorem intsOf_eq : ∀ {ws : List W} {ns : List Int}, intsOf ws = some ns → ws = ns.map W.int
  | [], ns, e => by cases e; rfl
  | .int i :: r, ns, e => by
    rw [intsOf] at e
    cases q : intsOf r with
    | none => rw [q] at e; cases e
    | some ms => rw [q] at e; cases e; rw [List.map_cons, intsOf_eq q]
  | .non :: _, _, e => nomatch e
  | .bl _ :: _, _, e => nomatch e
  | .str _ :: _, _, e => nomatch e
  | .tup _ :: _, _, e => nomatch e
  | .lst _ :: _, _, e => nomatch e
  | .scr _ :: _, _, e => nomatch e
  | .dic _ :: _, _, e => nomatch e
  | .ref _ :: _, _, e => nomatch e
  | .ty _ :: _, _, e => nomatch e
def blsOf : List W → Option (List Bool)
  | [] => some []
  | .bl i :: r => (blsOf r).map (i :: ·)
  | _ :: _ => none
theorem blsOf_map : ∀ ns : List Bool, blsOf (ns.map W.bl) = some ns
  | [] => rfl
  | n :: ns => by rw [List.map_cons, blsOf, blsOf_map ns]; rfl
theorem blsOf_eq : ∀ {ws : List W} {ns : List Bool}, blsOf ws = some ns → ws = ns.map W.bl
  | [], ns, e => by cases e; rfl
  | .bl i :: r, ns, e => by
    rw [blsOf] at e
    cases q : blsOf r with
    | none => rw [q] at e; cases e
    | some ms => rw [q] at e; cases e; rw [List.map_cons, blsOf_eq q]
  | .non :: _, _, e => nomatch e
  | .int _ :: _, _, e => nomatch e
  | .str _ :: _, _, e => nomatch e
  | .tup _ :: _, _, e => nomatch e
  | .lst _ :: _, _, e => nomatch e
  | .scr _ :: _, _, e => nomatch e
  | .dic _ :: _, _, e => nomatch e
  | .ref _ :: _, _, e => nomatch e
  | .ty _ :: _, _, e => nomatch e
def strsOf : List W → Option (List (List Nat))
  | [] => some []
  | .str i :: r => (strsOf r).map (i :: ·)
  | _ :: _ => none
theorem strsOf_map : ∀ ns : List (List Nat), strsOf (ns.map W.str) = some ns
  | [] => rfl
  | n :: ns => by rw [List.map_cons, strsOf, strsOf_map ns]; rfl
theorem strsOf_eq : ∀ {ws : List W} {ns : List (List Nat)}, strsOf ws = some ns → ws = ns.map W.str
  | [], ns, e => by cases e; rfl
  | .str i :: r, ns, e => by
    rw [strsOf] at e
    cases q : strsOf r with
    | none => rw [q] at e; cases e
    | some ms => rw [q] at e; cases e; rw [List.map_cons, strsOf_eq q]
  | .non :: _, _, e => nomatch e
  | .int _ :: _, _, e => nomatch e
  | .bl _ :: _, _, e => nomatch e
  | .tup _ :: _, _, e => nomatch e
  | .lst _ :: _, _, e => nomatch e
  | .scr _ :: _, _, e => nomatch e
  | .dic _ :: _, _, e => nomatch e
  | .ref _ :: _, _, e => nomatch e
  | .ty _ :: _, _, e => nomatch e
def sumW : List W → HW → KW → Prop := fun ws h R => match ws with | [.lst xs] => (match intsOf xs with | some ns => R (.int ns.sum) h | none => False) | _ => False
theorem lf_sum : LfC K (rSum K) sumW := fun xs H Q ws h R r hr t k => by
  unfold sumW at t
  split at t
  · split at t
    · rename_i e
      obtain ⟨x, rfl, q⟩ := r.one
      cases q with
      | lst f q => rw [intsOf_eq e] at q; exact ⟨_, _, rfl, by rw [← q.ints]; exact f.sq, k.go hr t (.int _)⟩
    · exact t.elim
  · exact t.elim
/-- the greatest of a list with a first item -/
def maxI (n : Int) (ns : List Int) : Int := ns.foldl max n
theorem maxI_mem : ∀ (ns : List Int) (n : Int), maxI n ns ∈ n :: ns
  | [], n => by simp [maxI]
  | m :: ns, n => by
    have := maxI_mem ns (max n m)
    show maxI (max n m) ns ∈ _
    rcases List.mem_cons.mp this with e | e
    · rw [e]; rcases Int.le_total n m with q | q
      · rw [Int.max_eq_right q]; simp
      · rw [Int.max_eq_left q]; simp
    · exact List.mem_cons_of_mem _ (List.mem_cons_of_mem _ e)
theorem maxI_ge : ∀ (ns : List Int) (n y : Int), y ∈ n :: ns → y ≤ maxI n ns
  | [], n, y, h => by simp at h; subst h; exact Int.le_refl _
  | m :: ns, n, y, h => by
    have up := maxI_ge ns (max n m)
    show y ≤ maxI (max n m) ns
    rcases List.mem_cons.mp h with e | e
    · subst e; exact Int.le_trans (Int.le_max_left _ _) (up _ List.mem_cons_self)
    · rcases List.mem_cons.mp e with e | e
      · subst e; exact Int.le_trans (Int.le_max_right _ _) (up _ List.mem_cons_self)
      · exact up _ (List.mem_cons_of_mem _ e)
def maxW : List W → HW → KW → Prop := fun ws h R => match ws with | [.lst xs] => (match intsOf xs with | some (n :: ns) => R (.int (maxI n ns)) h | _ => False) | _ => False
theorem lf_max : LfC K (rMax K) maxW := fun xs H Q ws h R r hr t k => by
  unfold maxW at t
  split at t
  · split at t
    · rename_i n ns e
      obtain ⟨x, rfl, q⟩ := r.one
      cases q with
      | lst f q =>
        rw [intsOf_eq e] at q
        refine ⟨_, n :: ns, rfl, by rw [← q.ints]; exact f.sq, Nat.zero_lt_succ _, fun m h1 h2 => ?_⟩
        have e : m = maxI n ns := Int.le_antisymm (maxI_ge ns n m h1) (h2 _ (maxI_mem ns n))
        rw [e]; exact k.go hr t (.int _)
    · exact t.elim
  · exact t.elim
def allW : List W → HW → KW → Prop := fun ws h R => match ws with | [.lst xs] => (match blsOf xs with | some ns => R (.bl (ns.all id)) h | none => False) | _ => False
theorem lf_all : LfC K (rAll K) allW := fun xs H Q ws h R r hr t k => by
  unfold allW at t
  split at t
  · split at t
    · rename_i e
      obtain ⟨x, rfl, q⟩ := r.one
      cases q with
      | lst f q => rw [blsOf_eq e] at q; exact ⟨_, _, rfl, by rw [← q.bls]; exact f.sq, k.go hr t (.bl _)⟩
    · exact t.elim
  · exact t.elim
/-- list(x): a new list that stays -/
def listW : List W → HW → KW → Prop := fun ws h R => match ws with
  | [.tup xs] => R (.lst xs) h
  | [.lst xs] => R (.lst xs) h
  | [.scr xs] => R (.lst xs) h
  | [.ref p] => (match h p with | some (.lst xs) => R (.lst xs) h | _ => False)
  | _ => False
theorem lf_list : LfC K (fun xs H Q => ∃ p ys, xs = [.ref p] ∧ (SqL K H p ys ∨ SqT K H p ys) ∧ ∀ l, H l = none → Q (.ref l) (upd H l (.lst ys))) listW := fun xs H Q ws h R r hr t k => by
  unfold listW at t
  split at t
  · obtain ⟨x, rfl, q⟩ := r.one
    cases q with
    | tup f q => exact ⟨_, _, rfl, .inr f.sq, fun p hp => k.lst hr q t hp⟩
  · obtain ⟨x, rfl, q⟩ := r.one
    cases q with
    | lst f q => exact ⟨_, _, rfl, .inl f.sq, fun p hp => k.lst hr q t hp⟩
  · obtain ⟨x, rfl, q⟩ := r.one
    cases q with
    | scr f q => exact ⟨_, _, rfl, .inl f.sq, fun p hp => k.lst hr q t hp⟩
  · split at t
    · rename_i hp
      obtain ⟨x, rfl, q⟩ := r.one
      cases q
      obtain ⟨vs, hv, q⟩ := hr _ _ hp
      exact ⟨_, _, rfl, .inl (SqL.of hv), fun p hp => k.lst hr q t hp⟩
    · exact t.elim
  · exact t.elim
/-- list(x): a new list that will be written -/
def listOW : List W → HW → KW → Prop := fun ws h R => match ws with
  | [.tup xs] => ∀ p, h p = none → R (.ref p) (updW h p (.lst xs))
  | [.lst xs] => ∀ p, h p = none → R (.ref p) (updW h p (.lst xs))
  | [.scr xs] => ∀ p, h p = none → R (.ref p) (updW h p (.lst xs))
  | _ => False
theorem lf_listO : LfC K (fun xs H Q => ∃ p ys, xs = [.ref p] ∧ (SqL K H p ys ∨ SqT K H p ys) ∧ ∀ l, H l = none → Q (.ref l) (upd H l (.lst ys))) listOW := fun xs H Q ws h R r hr t k => by
  unfold listOW at t
  split at t
  · obtain ⟨x, rfl, q⟩ := r.one
    cases q with
    | tup f q => exact ⟨_, _, rfl, .inr f.sq, fun p hp => k.lstO hr q t hp⟩
  · obtain ⟨x, rfl, q⟩ := r.one
    cases q with
    | lst f q => exact ⟨_, _, rfl, .inl f.sq, fun p hp => k.lstO hr q t hp⟩
  · obtain ⟨x, rfl, q⟩ := r.one
    cases q with
    | scr f q => exact ⟨_, _, rfl, .inl f.sq, fun p hp => k.lstO hr q t hp⟩
  · exact t.elim
/-- isinstance(x, T), T a built-in class -/
def isW : List W → HW → KW → Prop := fun ws h R => match ws with
  | [.int _, .ty n] => (match kitB "int" n with | some b => R (.bl b) h | none => False)
  | [.bl _, .ty n] => (match kitB "bool" n with | some b => R (.bl b) h | none => False)
  | [.str _, .ty n] => (match kitB "str" n with | some b => R (.bl b) h | none => False)
  | [.tup _, .ty n] => (match kitB "tuple" n with | some b => R (.bl b) h | none => False)
  | [.lst _, .ty n] => (match kitB "list" n with | some b => R (.bl b) h | none => False)
  | [.non, .ty n] => (match kitB "NoneType" n with | some b => R (.bl b) h | none => False)
  | _ => False
theorem lf_is : LfC K (rIsi K) isW := fun xs H Q ws h R r hr t k => by
  unfold isW at t
  split at t
  · split at t
    · rename_i e
      obtain ⟨x, y, rfl, q, q'⟩ := r.two
      cases q; cases q'
      exact ⟨_, _, _, _, _, rfl, .ty _, .base (.int _), kit_ty e, k.go hr t (.bl _)⟩
    · exact t.elim
  · split at t
    · rename_i e
      obtain ⟨x, y, rfl, q, q'⟩ := r.two
      cases q; cases q'
      exact ⟨_, _, _, _, _, rfl, .ty _, .base (.bl _), kit_ty e, k.go hr t (.bl _)⟩
    · exact t.elim
  · split at t
    · rename_i e
      obtain ⟨x, y, rfl, q, q'⟩ := r.two
      cases q; cases q'
      exact ⟨_, _, _, _, _, rfl, .ty _, .base (.str _), kit_ty e, k.go hr t (.bl _)⟩
    · exact t.elim
  · split at t
    · rename_i e
      obtain ⟨x, y, rfl, q, q'⟩ := r.two
      cases q'
      cases q with
      | tup f q =>
        rcases f with ⟨f | ⟨o, f⟩, _⟩ | ⟨o, its, n, f, c, _⟩
        · exact ⟨_, _, _, _, _, rfl, .ty _, .base (.tup f), kit_ty e, k.go hr t (.bl _)⟩
        · exact ⟨_, _, _, _, _, rfl, .ty _, .fTuple f, kit_ty e, k.go hr t (.bl _)⟩
        · exact ⟨_, _, _, _, _, rfl, .ty _, .kTuple f c, kit_ty e, k.go hr t (.bl _)⟩
    · exact t.elim
  · split at t
    · rename_i e
      obtain ⟨x, y, rfl, q, q'⟩ := r.two
      cases q'
      cases q with
      | lst f q => exact ⟨_, _, _, _, _, rfl, .ty _, .base (.lst f.1), kit_ty e, k.go hr t (.bl _)⟩
    · exact t.elim
  · split at t
    · rename_i e
      obtain ⟨x, y, rfl, q, q'⟩ := r.two
      cases q; cases q'
      exact ⟨_, _, _, _, _, rfl, .ty _, .base .non, kit_ty e, k.go hr t (.bl _)⟩
    · exact t.elim
  · exact t.elim
/-! ## methods of built-in values -/
def tyS : W → HW → Prop := fun x _ => match x with | .str _ => True | _ => False
def tyL : W → HW → Prop := fun x h => match x with | .ref p => (match h p with | some (.lst _) => True | _ => False) | _ => False
def TyOk (K : PySem.W.Frag) (T : String) (ty : W → HW → Prop) : Prop := ∀ v w H h, RW K H h v w → HR K H h → ty w h → tyV K T v H
theorem tyS_ok : TyOk K "str" tyS := fun v w H h r hr t => by
  unfold tyS at t
  split at t
  · cases r; rfl
  · exact t.elim
theorem tyL_ok : TyOk K "list" tyL := fun v w H h r hr t => by
  unfold tyL at t
  split at t
  · split at t
    · rename_i hp
      cases r
      obtain ⟨vs, hv, q⟩ := hr _ _ hp
      exact .inl ⟨rfl, _, SqL.of hv⟩
    · exact t.elim
  · exact t.elim
def oBM0 (ty : W → HW → Prop) (rw : W → List W → HW → KW → Prop) (to : TEW) : TEW := fun ρ h R => to ρ h fun x h1 => ty x h1 ∧ rw x [] h1 R
def oBM (ty : W → HW → Prop) (rw : W → List W → HW → KW → Prop) (to : TEW) (t : TAW) : TEW := fun ρ h R => to ρ h fun x h1 => ty x h1 ∧ t ρ h1 fun ws h2 => rw x ws h2 R
section
variable {o : Expr} {to : TEW} {name : Str} {apos cpos : Pos} {id T : String} {r : V → List V → Hp → VK → Prop} {rw : W → List W → HW → KW → Prop} {ty : W → HW → Prop}
theorem w_bm0 (pa : PlainAttrs T) (slot : Slot T name id) (hty : typeOf (.builtin id) = pure (.type "method_descriptor")) (hm : MtR X id r) (tok : TyOk X.K T ty) (l : LfM X.K r rw) (ho : WE X L o to)
    (hbase : attributeBase o name X.env (eval o X.env) = eval o X.env := by rfl) (hline : (apos.endLine == cpos.line) = true := by rfl) :
    WE X L (.Call (.Attribute o name apos) [] [] cpos) (oBM0 ty rw to) := (pe_bm0 pa slot hty hm ho hbase hline).imp fun σ H Q ⟨ρ, h, R, S, t, k⟩ =>
  ⟨ρ, h, _, S, t, fun w1 h1 v1 H1 t1 s1 r1 q1 => ⟨tok _ _ _ _ q1 r1 t1.1, l _ _ H1 Q _ _ h1 R q1 .nil r1 t1.2 (k.mono s1)⟩⟩
theorem w_bm (pa : PlainAttrs T) (slot : Slot T name id) (hty : typeOf (.builtin id) = pure (.type "method_descriptor")) (hm : MtR X id r) (tok : TyOk X.K T ty) (l : LfM X.K r rw) (ho : WE X L o to) (ha : WA X L (e :: es) t)
    (hbase : attributeBase o name X.env (eval o X.env) = eval o X.env := by rfl)
    (hfew : ((backTo cpos (starEach (e :: es) X.env)).all (fun x => !x.1) && (backToKw cpos (keywordEach [] X.env)).all (fun x => x.1.isSome)
      && decide ((e :: es).length + ([] : List Keyword).length + (if ([] : List Keyword).isEmpty then 0 else 1) < 30)) = true := by rfl)
    (hline : (apos.endLine == cpos.line) = true := by rfl) (hs : starEach (e :: es) X.env = (false, eval e X.env) :: starEach es X.env := by rfl) (hplain : (backTo cpos (starEach es X.env)).any (·.1) = false := by rfl) :
    WE X L (.Call (.Attribute o name apos) (e :: es) [] cpos) (oBM ty rw to t) := (pe_bm pa slot hty hm ho ha hbase hfew hline hs hplain).imp fun σ H Q ⟨ρ, h, R, S, t, k⟩ =>
  ⟨ρ, h, _, S, t, fun w1 h1 v1 H1 t1 s1 r1 q1 => ⟨tok _ _ _ _ q1 r1 t1.1, ρ, h1, _, S.to s1 r1, t1.2, fun ws h2 vs H2 t2 s2 r2 q2 => l _ _ H2 Q _ _ h2 R (q1.mono s2) q2 r2 t2 (k.mono (s1.trans s2))⟩⟩
end
def appendW : W → List W → HW → KW → Prop := fun x ws h R => match x, ws with
  | .ref p, [y] => (match h p with | some (.lst xs) => xs.length ≤ 16000000 ∧ R .non (updW h p (.lst (xs ++ [y]))) | _ => False)
  | _, _ => False
theorem sz_lt {n : Nat} (h : n ≤ 16000000) : n < sizeLine := Nat.lt_of_le_of_lt h (by decide)
/-- an owned list is rewritten -/
theorem KV.mut {R : KW} {Q : VK} (k : KV K H h R Q) (hr : HR K H h) {p : Addr} {u0 : OW} (hp : h p = some u0) {vs : List V} {ws : List W} (r : RWs K H h vs ws) {v : V} {w : W} (q : RW K H h v w) (t : R w (updW h p (.lst ws))) : Q v (upd H p (.lst vs)) :=
  k _ _ _ _ t (.mut hp _ _) (hr.mut hp ⟨vs, upd_same, r.mono (.mut hp _ _)⟩) (q.mono (.mut hp _ _))
theorem lf_append : LfM K rAppend appendW := fun x xs H Q w ws h R r rs hr t k => by
  unfold appendW at t
  split at t
  · split at t
    · rename_i hp
      cases r
      obtain ⟨y, rfl, ry⟩ := rs.one
      obtain ⟨vs, hv, q⟩ := hr _ _ hp
      exact ⟨_, _, _, rfl, rfl, hv, by rw [q.length]; exact sz_lt t.1, k.mut hr hp (q.append (.cons ry .nil)) .non t.2⟩
    · exact t.elim
  · exact t.elim
def popW : W → List W → HW → KW → Prop := fun x ws h R => match x, ws with
  | .ref p, [] => (match h p with | some (.lst xs) => (match xs.getLast? with | some y => R y (updW h p (.lst xs.dropLast)) | none => False) | _ => False)
  | _, _ => False
theorem lf_pop : LfM K rPop popW := fun x xs H Q w ws h R r rs hr t k => by
  unfold popW at t
  split at t
  · split at t
    · rename_i hp
      split at t
      · rename_i e
        cases r
        cases rs
        obtain ⟨vs, hv, q⟩ := hr _ _ hp
        rw [List.getLast?_eq_getElem?] at e
        obtain ⟨v, e1, e2⟩ := q.get e
        exact ⟨_, _, v, rfl, rfl, hv, by rw [q.length]; exact e1, k.mut hr hp q.dropLast e2 t⟩
      · exact t.elim
    · exact t.elim
  · exact t.elim
/-- xs.extend(ys), ys a list that stays -/
def extendW : W → List W → HW → KW → Prop := fun x ws h R => match x, ws with
  | .ref p, [.lst ys] => (match h p with | some (.lst xs) => xs.length + ys.length ≤ 16000000 ∧ R .non (updW h p (.lst (xs ++ ys))) | _ => False)
  | _, _ => False
theorem lf_extend : LfM K rExtend extendW := fun x xs H Q w ws h R r rs hr t k => by
  unfold extendW at t
  split at t
  · split at t
    · rename_i hp
      cases r
      obtain ⟨y, rfl, ry⟩ := rs.one
      cases ry with
      | lst f q2 =>
        obtain ⟨vs, hv, q⟩ := hr _ _ hp
        exact ⟨_, _, _, _, rfl, rfl, hv, f.1, by rw [q.length, q2.length]; exact sz_big t.1, k.mut hr hp (q.append q2) .non t.2⟩
    · exact t.elim
  · exact t.elim
/-- sep.join(texts) -/
def joinS (a : List Nat) : List (List Nat) → List Nat
  | [] => []
  | [p] => p
  | p :: q :: r => p ++ (a ++ joinS a (q :: r))
def joinW : W → List W → HW → KW → Prop := fun x ws h R => match x, ws with
  | .str a, [.lst xs] => (match strsOf xs with | some ss => (ss.map List.length).sum + ss.length * a.length ≤ 16000000 ∧ R (.str (joinS a ss)) h | none => False)
  | _, _ => False
theorem join_mk (a : List Nat) : ∀ ss : List (List Nat), Str.join (mkS a) (ss.map mkS) = mkS (joinS a ss)
  | [] => rfl
  | [p] => rfl
  | p :: q :: r => by
    show mkS p ++ mkS a ++ Str.join (mkS a) ((q :: r).map mkS) = _
    rw [join_mk a (q :: r), mkS_append, mkS_append, joinS, List.append_assoc]
theorem lens_mk (ss : List (List Nat)) : (ss.map mkS).map (·.length) = ss.map List.length := by
  rw [List.map_map]
  apply List.map_congr_left
  intro x _; exact mkS_length x
theorem lf_join : LfM K (fun x xs H Q => ∃ a p, ∃ ys : List Str, x = .str a ∧ xs = [.ref p] ∧ (SqL K H p (ys.map V.str) ∨ SqT K H p (ys.map V.str)) ∧
    (ys.map (·.length)).sum + ys.length * a.length ≤ 16777216 ∧ Q (.str (Txt.join a ys)) H) joinW := fun x xs H Q w ws h R r rs hr t k => by
  unfold joinW at t
  split at t
  · split at t
    · rename_i ss e
      cases r
      obtain ⟨y, rfl, ry⟩ := rs.one
      cases ry with
      | lst f q =>
        rw [strsOf_eq e] at q
        refine ⟨_, _, ss.map mkS, rfl, rfl, .inl (by rw [← q.strs]; exact f.sq), ?_, ?_⟩
        · rw [lens_mk, List.length_map, mkS_length]; exact Nat.le_trans t.1 (by decide)
        · rw [TL.join_eq, join_mk]; exact k.go hr t.2 (.str _)
    · exact t.elim
  · exact t.elim
def alnumS (s : List Nat) : Bool := decide (s.length > 0) && s.all Unicode.isAlnum
def isalnumW : W → List W → HW → KW → Prop := fun x ws h R => match x, ws with
  | .str a, [] => R (.bl (alnumS a)) h
  | _, _ => False
theorem lf_isalnum : LfM K (fun x xs H Q => ∃ a, x = .str a ∧ xs = [] ∧ True ∧ Q (.bl (Txt.isalnum a)) H) isalnumW := fun x xs H Q w ws h R r rs hr t k => by
  unfold isalnumW at t
  split at t
  · rename_i a
    cases r
    cases rs
    refine ⟨_, rfl, rfl, trivial, ?_⟩
    have e : Txt.isalnum (mkS a) = alnumS a := by
      simp [Txt.isalnum, alnumS, Str.length, mkS]
    rw [e]; exact k.go hr t (.bl _)
  · exact t.elim
end
end Wl

set_option Elab.async false
set_option linter.all false
set_option maxRecDepth 100000
namespace Wl
open PySem PySem.Spec PyProof.Rows L2
/-! ## what is walked -/
structure ItW (K : PySem.W.Frag) (J : It) (H0 : Hp) (h0 : HW) (ws : List W) : Prop where
  step : ∀ i H h w, ST H0 h0 H h → HR K H h → ws[i]? = some w → J.go i H ∧ ∀ x H', J.yld i H x H' → ST H h H' h ∧ HR K H' h ∧ RW K H' h x w
  stop : ∀ i H h, ST H0 h0 H h → HR K H h → ws.length ≤ i → J.stop i H
abbrev TIW := SlW → HW → (List W → HW → Prop) → Prop
def lI (K : PySem.W.Frag) (L : Lk) (t : TIW) : TI := fun σ H R => ∃ ρ h P, Sta K L σ H ρ h ∧ t ρ h P ∧ ∀ ws h' J H', P ws h' → ST H h H' h' → HR K H' h' → ItW K J H' h' ws → R J H'
abbrev WI (X : Cx) (L : Lk) (tg e : Expr) (t : TIW) : Prop := PI X tg e (lI X.K L t)
theorem _root_.L2.PI.imp {X : Cx} {tg e : Expr} {t t' : TI} (h : PI X tg e t) (i : ∀ σ H Q, t' σ H Q → t σ H Q) : PI X tg e t' := ⟨fun p s σ H Q I q => h.run p s σ H Q I (i _ _ _ q)⟩
section
variable {X : Cx} {L : Lk} {tg e : Expr} {te : TEW} {pos p : Pos}
/-- a list or a tuple that stays -/
def oItL (te : TEW) : TIW := fun ρ h P => te ρ h fun x h1 => match x with | .lst ws => P ws h1 | .scr ws => P ws h1 | _ => False
def oItT (te : TEW) : TIW := fun ρ h P => te ρ h fun x h1 => match x with | .tup ws => P ws h1 | _ => False
theorem itSq {K : PySem.W.Frag} {H : Hp} {h : HW} {a : Addr} {vs : List V} {ws : List W} (f : ∀ H' h', ST H h H' h' → SqL K H' a vs) (r : RWs K H h vs ws) : ItW K (Itl K a) H h ws where
  step := fun i H1 h1 w st hr e => by
    obtain ⟨v, e1, e2⟩ := (r.mono st).get e
    refine ⟨⟨vs, v, f _ _ st, e1⟩, fun x H' ⟨eH, y⟩ => ?_⟩
    subst eH
    have := y vs (f _ _ st)
    rw [e1] at this; cases this
    exact ⟨.refl _ _, hr, e2⟩
  stop := fun i H1 h1 st hr e => ⟨vs, f _ _ st, by rw [r.length]; exact e⟩
theorem itSqT {K : PySem.W.Frag} {H : Hp} {h : HW} {a : Addr} {vs : List V} {ws : List W} (f : ∀ H' h', ST H h H' h' → SqT K H' a vs) (r : RWs K H h vs ws) : ItW K (Itt K a) H h ws where
  step := fun i H1 h1 w st hr e => by
    obtain ⟨v, e1, e2⟩ := (r.mono st).get e
    refine ⟨⟨vs, v, f _ _ st, e1⟩, fun x H' ⟨eH, y⟩ => ?_⟩
    subst eH
    have := y vs (f _ _ st)
    rw [e1] at this; cases this
    exact ⟨.refl _ _, hr, e2⟩
  stop := fun i H1 h1 st hr e => ⟨vs, f _ _ st, by rw [r.length]; exact e⟩
theorem wi_list (he : WE X L e te) : WI X L tg e (oItL te) := (pi_list he).imp fun σ H Q ⟨ρ, h, P, S, t, k⟩ =>
  ⟨ρ, h, _, S, t, fun w1 h1 v1 H1 t1 s1 r1 q1 => by
    cases w1 with
    | lst ws => cases q1 with | lst f q => exact ⟨_, rfl, ⟨_, f.sq⟩, k _ h1 _ H1 t1 s1 r1 (itSq (fun _ _ st => (f.mono st).sq) q)⟩
    | scr ws => cases q1 with | scr f q => exact ⟨_, rfl, ⟨_, f.sq⟩, k _ h1 _ H1 t1 s1 r1 (itSq (fun _ _ st => (f.mono st).sq) q)⟩
    | _ => exact t1.elim⟩
theorem wi_tup (he : WE X L e te) : WI X L tg e (oItT te) := (pi_tup he).imp fun σ H Q ⟨ρ, h, P, S, t, k⟩ =>
  ⟨ρ, h, _, S, t, fun w1 h1 v1 H1 t1 s1 r1 q1 => by
    cases w1 with
    | tup ws => cases q1 with | tup f q => exact ⟨_, rfl, ⟨_, f.sq⟩, k _ h1 _ H1 t1 s1 r1 (itSqT (fun _ _ st => (f.mono st).sq) q)⟩
    | _ => exact t1.elim⟩
/-- a text's signs -/
def oItS (te : TEW) : TIW := fun ρ h P => te ρ h fun x h1 => match x with | .str s => P (s.map fun c => .str [c]) h1 | _ => False
theorem itS {K : PySem.W.Frag} {H : Hp} {h : HW} (s : List Nat) : ItW K (Its (mkS s)) H h (s.map fun c => .str [c]) where
  step := fun i H1 h1 w st hr e => by
    rw [List.getElem?_map] at e
    obtain ⟨c, e1, e2⟩ := Option.map_eq_some_iff.mp e
    refine ⟨?_, fun x H' ⟨eH, c', e3, e4⟩ => ?_⟩
    · have := (List.getElem?_eq_some_iff.mp e1).1
      show i < (mkS s).cps.size
      simpa [mkS] using this
    · subst eH e2 e4
      have e5 : s[i]? = some c' := by simpa [mkS] using e3
      rw [e1] at e5; cases e5
      exact ⟨.refl _ _, hr, .str [c]⟩
  stop := fun i H1 h1 st hr e => by
    have : s.length ≤ i := by simpa using e
    show (mkS s).cps.size ≤ i
    simpa [mkS] using this
theorem wi_str (he : WE X L e te) : WI X L tg e (oItS te) := (pi_str he).imp fun σ H Q ⟨ρ, h, P, S, t, k⟩ =>
  ⟨ρ, h, _, S, t, fun w1 h1 v1 H1 t1 s1 r1 q1 => by
    cases w1 with
    | str s => cases q1; exact ⟨_, rfl, k _ h1 _ H1 t1 s1 r1 (itS s)⟩
    | _ => exact t1.elim⟩
/-- range -/
def rngW (lo : Int) (n : Nat) : List W := (List.range n).map fun i => .int (lo + (i : Nat))
theorem itR {K : PySem.W.Frag} {H : Hp} {h : HW} (lo : Int) (n : Nat) : ItW K (Itr lo n) H h (rngW lo n) where
  step := fun i H1 h1 w st hr e => by
    unfold rngW at e
    rw [List.getElem?_map] at e
    obtain ⟨c, e1, e2⟩ := Option.map_eq_some_iff.mp e
    have hi : i < n := by
      have := (List.getElem?_eq_some_iff.mp e1).1
      simpa using this
    have hc : c = i := by
      rw [List.getElem?_range hi] at e1; cases e1; rfl
    refine ⟨hi, fun x H' ⟨eH, e3⟩ => ?_⟩
    subst eH e2 e3 hc
    exact ⟨.refl _ _, hr, .int _⟩
  stop := fun i H1 h1 st hr e => by
    have : n ≤ i := by simpa [rngW] using e
    exact this
def oRng1 (ta : TAW) : TIW := fun ρ h P => ta ρ h fun ws h1 => match ws with | [.int j] => (-4611686018427387904 ≤ j ∧ j < 4611686018427387904) ∧ P (rngW 0 j.toNat) h1 | _ => False
def oRng2 (ta : TAW) : TIW := fun ρ h P => ta ρ h fun ws h1 => match ws with
  | [.int i, .int j] => (-4611686018427387904 ≤ i ∧ i < 4611686018427387904 ∧ -4611686018427387904 ≤ j ∧ j < 4611686018427387904) ∧ P (rngW i (j - i).toNat) h1
  | _ => False
theorem wi_range1 {a : Expr} {ta : TAW} (hg : Gl X "range") (hm : X.mg "range" = none) (ha : WA X L [a] ta) (hs : starEach [a] X.env = [(false, eval a X.env)] := by rfl) : WI X L tg (.Call (.Name "range" p) [a] [] pos) (oRng1 ta) := (pi_range1 hg hm ha hs).imp fun σ H Q ⟨ρ, h, P, S, t, k⟩ =>
  ⟨ρ, h, _, S, t, fun ws h1 vs H1 t1 s1 r1 q1 => by
    split at t1
    · obtain ⟨v, rfl, r⟩ := q1.one
      cases r
      exact ⟨_, rfl, by omega, by omega, k _ h1 _ H1 t1.2 s1 r1 (itR _ _)⟩
    · exact t1.elim⟩
theorem wi_range2 {a b : Expr} {ta : TAW} (hg : Gl X "range") (hm : X.mg "range" = none) (ha : WA X L [a, b] ta) (hs : starEach [a, b] X.env = [(false, eval a X.env), (false, eval b X.env)] := by rfl) (hs2 : starEach [b] X.env = [(false, eval b X.env)] := by rfl) :
    WI X L tg (.Call (.Name "range" p) [a, b] [] pos) (oRng2 ta) := (pi_range2 hg hm ha hs hs2).imp fun σ H Q ⟨ρ, h, P, S, t, k⟩ =>
  ⟨ρ, h, _, S, t, fun ws h1 vs H1 t1 s1 r1 q1 => by
    split at t1
    · obtain ⟨v, u, rfl, r, r'⟩ := q1.two
      cases r; cases r'
      exact ⟨_, _, rfl, by omega, k _ h1 _ H1 t1.2 s1 r1 (itR _ _)⟩
    · exact t1.elim⟩
end
/-! ## targets -/
abbrev TGW := W → SlW → HW → (SlW → HW → Prop) → Prop
abbrev TGsW := List W → SlW → HW → (SlW → HW → Prop) → Prop
def lG (K : PySem.W.Frag) (L : Lk) (g : TGW) : TG := fun v σ H Q => ∃ w ρ h P, RW K H h v w ∧ Sta K L σ H ρ h ∧ g w ρ h P ∧ KN K H h P Q
def lGs (K : PySem.W.Frag) (L : Lk) (g : TGsW) : TGs := fun vs σ H Q => ∃ ws ρ h P, RWs K H h vs ws ∧ Sta K L σ H ρ h ∧ g ws ρ h P ∧ KN K H h P Q
abbrev WG (X : Cx) (L : Lk) (tg : Expr) (g : TGW) : Prop := PG X tg (lG X.K L g)
theorem _root_.L2.PG.imp {X : Cx} {tg : Expr} {t t' : TG} (h : PG X tg t) (i : ∀ v σ H Q, t' v σ H Q → t v σ H Q) : PG X tg t' := ⟨fun p s σ H v u Q I r q => h.run p s σ H v u Q I r (i _ _ _ _ q)⟩
theorem _root_.L2.PGs.imp {X : Cx} {tg : List Expr} {t t' : TGs} (h : PGs X tg t) (i : ∀ v σ H Q, t' v σ H Q → t v σ H Q) : PGs X tg t' := ⟨fun p s σ H v u Q I r q => h.run p s σ H v u Q I r (i _ _ _ _ q)⟩
section
variable {X : Cx} {L : Lk} {pos : Pos} {e : Expr} {es : List Expr}
def gN (i : Nat) : TGW := fun w ρ h P => P (ρ.set i (some w)) h
theorem wg_name {i : Nat} {x : Str} (hN : X.N.Nodup) (hi : X.N[i]? = some x := by rfl) (hx : Loc X.env.scope x := by first | exact .inl rfl | exact .inr rfl) (hf : X.fn x = true ∨ X.env.scope.names.lookup x = some .local := by first | exact .inl rfl | exact .inr rfl | assumption) : WG X L (.Name x pos) (gN i) :=
  (pg_name hN hi hx hf).imp fun v σ H Q ⟨w, ρ, h, P, r, S, t, k⟩ => k _ h _ H t (.refl _ _) S.hr (S.sr.set r i)
def gNilW : TGsW := fun ws ρ h P => match ws with | [] => P ρ h | _ => False
def gConsW (g : TGW) (gs : TGsW) : TGsW := fun ws ρ h P => match ws with | w :: r => g w ρ h fun ρ' h' => gs r ρ' h' P | _ => False
theorem wgs_nil : PGs X [] (lGs X.K L gNilW) := pgs_nil.imp fun vs σ H Q ⟨ws, ρ, h, P, r, S, t, k⟩ => by
  cases ws with
  | nil => cases r; exact ⟨rfl, k _ h _ H t (.refl _ _) S.hr S.sr⟩
  | cons => exact t.elim
theorem wgs_cons {g : TGW} {gs : TGsW} (h1 : WG X L e g) (h2 : PGs X es (lGs X.K L gs)) (el : ∀ {H h H' h'}, L.el H h → ST H h H' h' → L.el H' h' := L.mono)
    (hs : (assignEach (e :: es) X.env).map (·.2) = assign e X.env :: (assignEach es X.env).map (·.2) := by rfl) : PGs X (e :: es) (lGs X.K L (gConsW g gs)) := (pgs_cons h1 h2 hs).imp fun vs σ H Q ⟨ws, ρ, h, P, r, S, t, k⟩ => by
  cases ws with
  | nil => exact t.elim
  | cons w ws =>
    cases r with
    | cons r q => exact ⟨_, _, rfl, w, ρ, h, _, r, S, t, fun ρ1 h1 σ1 H1 t1 s1 r1 q1 => ⟨ws, ρ1, h1, P, q.mono s1, ⟨q1, r1, el S.el s1⟩, t1, k.mono s1⟩⟩
def gT (n : Nat) (gs : TGsW) : TGW := fun w ρ h P => match w with | .tup ws => ws.length = n ∧ gs ws ρ h P | _ => False
theorem wg_tup {k n : Nat} {gs : TGsW} (hc : X.calm = true) (h : PGs X es (lGs X.K L gs)) (hn : (assignEach es X.env).length = n := by rfl) (hst : (assignEach es X.env).findIdx? (·.1) = none := by rfl) : WG X L (.Tuple es k pos) (gT n gs) :=
  (pg_tup hc h hn hst).imp fun v σ H Q ⟨w, ρ, h, P, r, S, t, k⟩ => by
    cases w with
    | tup ws => cases r with | tup f q => exact ⟨_, _, rfl, f.sq, by rw [q.length]; exact t.1, ws, ρ, h, P, q, S, t.2, k⟩
    | _ => exact t.elim
end
/-! ## statements -/
section
variable {X : Cx} {L : Lk} {pos : Pos} {e c : Expr} {te : TEW} {st : Stmt} {rest a b : List Stmt} {t u : TSW} {tc : TTW}
def sNext : TSW := fun D ρ h => D.nx ρ h
def sSeq (t u : TSW) : TSW := fun D ρ h => t (D.wn (u D)) ρ h
theorem wss_nil : WSs X L [] sNext := pss_nil.imp fun D σ H ⟨ρ, h, DW, S, t, k⟩ => k.nx _ h _ H t (.refl _ _) S.hr S.sr
theorem wss_cons (h1 : WS X L st t) (h2 : WSs X L rest u) : WSs X L (st :: rest) (sSeq t u) := (pss_cons h1 h2).imp fun D σ H ⟨ρ, h, DW, S, t, k⟩ =>
  ⟨ρ, h, _, S, t, ⟨fun ρ1 h1 σ1 H1 t1 s1 r1 q1 => ⟨ρ1, h1, DW, ⟨q1, r1, L.mono S.el s1⟩, t1, k.mono s1⟩, k.rt, k.bk, k.ct⟩⟩
theorem wss_one (h1 : WS X L st t) : WSs X L [st] t := pss_one h1
def sBreak : TSW := fun D ρ h => D.bk ρ h
def sCont : TSW := fun D ρ h => D.ct ρ h
theorem ws_pass : WS X L (.Pass pos) sNext := ps_pass.imp fun D σ H ⟨ρ, h, DW, S, t, k⟩ => k.nx _ h _ H t (.refl _ _) S.hr S.sr
theorem ws_break : WS X L (.Break pos) sBreak := ps_break.imp fun D σ H ⟨ρ, h, DW, S, t, k⟩ => k.bk _ h _ H t (.refl _ _) S.hr S.sr
theorem ws_continue : WS X L (.Continue pos) sCont := ps_continue.imp fun D σ H ⟨ρ, h, DW, S, t, k⟩ => k.ct _ h _ H t (.refl _ _) S.hr S.sr
theorem ws_doc {x j pos pos'} : WS X L (.Expr (.Constant (.str x) j pos) pos') sNext := ps_doc.imp fun D σ H ⟨ρ, h, DW, S, t, k⟩ => k.nx _ h _ H t (.refl _ _) S.hr S.sr
def sDrop (te : TEW) : TSW := fun D ρ h => te ρ h fun _ h1 => D.nx ρ h1
theorem ws_expr (he : WE X L e te) (hs : swapsWith e none pos.line X.env = pure false := by rfl) : WS X L (.Expr e pos) (sDrop te) := (ps_expr he hs).imp fun D σ H ⟨ρ, h, DW, S, t, k⟩ =>
  ⟨ρ, h, _, S, t, fun w1 h1 v1 H1 t1 s1 r1 q1 => k.nx _ h1 _ H1 t1 s1 r1 (S.sr.mono s1)⟩
def sRet (te : TEW) : TSW := fun D ρ h => te ρ h D.rt
theorem ws_ret (he : WE X L e te) : WS X L (.Return (some e) pos) (sRet te) := (ps_ret he).imp fun D σ H ⟨ρ, h, DW, S, t, k⟩ => ⟨ρ, h, _, S, t, k.rt⟩
def sRetN : TSW := fun D _ h => D.rt .non h
theorem ws_retN : WS X L (.Return none pos) sRetN := ps_retN.imp fun D σ H ⟨ρ, h, DW, S, t, k⟩ => k.rt _ h _ H t (.refl _ _) S.hr .non
def sIf (c : TTW) (t u : TSW) : TSW := fun D ρ h => c ρ h fun b h1 => if b = true then t D ρ h1 else u D ρ h1
theorem ws_if (hc : WT X L c tc) (ha : WSs X L a t) (hb : WSs X L b u) : WS X L (.If c a b pos) (sIf tc t u) := (ps_if hc ha hb).imp fun D σ H ⟨ρ, h, DW, S, t, k⟩ =>
  ⟨ρ, h, _, S, t, fun b h1 H1 t1 s1 r1 => by
    cases b with
    | true => exact ⟨ρ, h1, DW, S.to s1 r1, t1, k.mono s1⟩
    | false => exact ⟨ρ, h1, DW, S.to s1 r1, t1, k.mono s1⟩⟩
def sNever : TSW := fun _ _ _ => False
theorem ws_never : WS X L st sNever := ps_never.imp fun D σ H ⟨ρ, h, DW, S, t, k⟩ => t.elim
theorem wss_never : WSs X L rest sNever := pss_never.imp fun D σ H ⟨ρ, h, DW, S, t, k⟩ => t.elim
def sAsg (te : TEW) (g : TGW) : TSW := fun D ρ h => te ρ h fun x h1 => g x ρ h1 D.nx
theorem ws_set {i : Nat} {x : Str} {pos' : Pos} (hN : X.N.Nodup) (he : WE X L e te) (hi : X.N[i]? = some x := by rfl) (hx : Loc X.env.scope x := by first | exact .inl rfl | exact .inr rfl) (hs : swapsWith e (some (.Name x pos')) pos.line X.env = pure false := by rfl) (hf : X.fn x = true ∨ X.env.scope.names.lookup x = some .local := by first | exact .inl rfl | exact .inr rfl | assumption) :
    WS X L (.Assign [.Name x pos'] e pos) (sAsg te (gN i)) := (ps_set hN hi hx he hs hf).imp fun D σ H ⟨ρ, h, DW, S, t, k⟩ =>
  ⟨ρ, h, _, S, t, fun w1 h1 v1 H1 t1 s1 r1 q1 => k.nx _ h1 _ H1 t1 s1 r1 ((S.sr.mono s1).set q1 i)⟩
theorem ws_asg {tg : Expr} {g : TGW} (he : WE X L e te) (hg : WG X L tg g) (hs : swapsWithSole [tg] e pos.line X.env = pure false := by rfl) (hw : swappedStores [tg] e X.env = pure none := by rfl)
    (h1 : (assignEach [tg] X.env).map (·.2) = [assign tg X.env] := by rfl) : WS X L (.Assign [tg] e pos) (sAsg te g) := (ps_asg he hg hs hw h1).imp fun D σ H ⟨ρ, h, DW, S, t, k⟩ =>
  ⟨ρ, h, _, S, t, fun w1 h1 v1 H1 t1 s1 r1 q1 => ⟨w1, ρ, h1, _, q1, S.to s1 r1, t1, k.nx.mono s1⟩⟩
/-- name op= e -/
def Lf2i (K : PySem.W.Frag) (r : TIp) (rw : RW2) : Prop := ∀ x y H Q w1 w2 h R, RW K H h x w1 → RW K H h y w2 → HR K H h → rw w1 w2 h R → KV K H h R Q → r x y H Q
def sAug (i : Nat) (te : TEW) (rw : RW2) : TSW := fun D ρ h => match sl ρ i with | some w => te ρ h fun y h1 => rw w y h1 fun z h2 => D.nx (ρ.set i (some z)) h2 | none => False
theorem ws_aug {i : Nat} {x : Str} {op : Operator} {r : R2} {rw : RW2} {pos' : Pos} (hN : X.N.Nodup) (he : WE X L e te) (ho : OpR X (inplaceOp op) r) (l : Lf2 X.K r rw) (hi : X.N[i]? = some x := by rfl) (hx : Loc X.env.scope x := by first | exact .inl rfl | exact .inr rfl)
    (hf : X.fn x = true ∨ X.env.scope.names.lookup x = some .local := by first | exact .inl rfl | exact .inr rfl | assumption) : WS X L (.AugAssign (.Name x pos') op e pos) (sAug i te rw) := (ps_aug hN hi hx he ho hf).imp fun D σ H ⟨ρ, h, DW, S, t, k⟩ => by
  unfold sAug at t
  split at t
  · rename_i w ew
    obtain ⟨v, e1, r1⟩ := S.sr.get ew
    exact ⟨v, e1, ρ, h, _, S, t, fun w1 h1 v1 H1 t1 s1 r2 q1 => l v v1 H1 _ w w1 h1 _ (r1.mono s1) q1 r2 t1 fun w2 h2 v2 H2 t2 s2 r3 q2 => k.nx _ h2 _ H2 t2 (s1.trans s2) r3 ((S.sr.mono (s1.trans s2)).set q2 i)⟩
  · exact t.elim
/-! ## loops -/
/-- what is known is forgotten: objects that nobody owns any more, slots -/
def CN (P : SlW → HW → Prop) : SlW → HW → Prop := fun ρ h => ∃ ρ0 h0, P ρ0 h0 ∧ SubS ρ0 ρ ∧ Sub h0 h
theorem CN.of {P : SlW → HW → Prop} {ρ : SlW} {h : HW} (p : P ρ h) : CN P ρ h := ⟨ρ, h, p, .refl _, .refl _⟩
theorem CN.sl {P : SlW → HW → Prop} {ρ ρ0 : SlW} {h : HW} (p : P ρ0 h) (s : SubS ρ0 ρ) : CN P ρ h := ⟨ρ0, h, p, s, .refl _⟩
def sFor (ti : TIW) (g : TGW) (tb : TSW) : TSW := fun D ρ h => ti ρ h fun ws h1 => ∃ Pv : Nat → SlW → HW → Prop, CN (Pv 0) ρ h1 ∧
  (∀ i w ρ' h', ws[i]? = some w → Pv i ρ' h' → g w ρ' h' fun ρ2 h2 => tb (D.lp (CN (Pv (i + 1))) D.nx) ρ2 h2) ∧ ∀ ρ' h', Pv ws.length ρ' h' → D.nx ρ' h'
theorem ws_for {tg it : Expr} {body : List Stmt} {ti : TIW} {g : TGW} {tb : TSW} (hp : PassesOwn (model X.prog X.w) X.A X.env X.xe) (hc : X.calm = true) (hi : WI X L tg it ti) (hg : WG X L tg g) (hb : WSs X L body tb)
    (hs : ∀ x, foldedSetIterable it X.env x = pure x := by intro _; rfl) : WS X L (.For tg it body [] pos) (sFor ti g tb) := (ps_for hp hc hi hg hb hs).imp fun D σ H ⟨ρ, h, DW, S, t, k⟩ =>
  ⟨ρ, h, _, S, t, fun ws h1 J H1 ⟨Pv, p0, turn, fin⟩ s1 r1 I => by
    refine ⟨fun i m σ' H' => m = ws.length - i ∧ i ≤ ws.length ∧ ∃ ρ' h', Pv i ρ' h' ∧ Sta X.K L σ' H' ρ' h' ∧ ST H1 h1 H' h', ?_, ?_⟩
    · obtain ⟨ρ0, h0, p, e1, e2⟩ := p0
      exact ⟨_, rfl, Nat.zero_le _, ρ0, h0, p, ⟨((S.sr.mono s1).mono (.drop e2)).sub e1, r1.drop e2, L.mono (L.mono S.el s1) (.drop e2)⟩, .drop e2⟩
    · rintro i m σ' H' ⟨rfl, hi, ρ', h', p, S', st⟩
      by_cases hlt : i < ws.length
      · have hw : ws[i]? = some ws[i] := List.getElem?_eq_getElem hlt
        obtain ⟨go, yl⟩ := I.step i H' h' ws[i] st S'.hr hw
        refine .inr ⟨go, fun σ2 H2 => ∃ ρ' h', Pv (i + 1) ρ' h' ∧ Sta X.K L σ2 H2 ρ' h' ∧ ST H1 h1 H2 h', fun σ2 H2 p' => ⟨ws.length - (i + 1), by omega, rfl, hlt, p'⟩, fun x H2 y => ?_⟩
        obtain ⟨st2, hr2, rx⟩ := yl x H2 y
        have S2 := S'.to st2 hr2
        refine ⟨ws[i], ρ', h', _, rx, S2, turn i _ ρ' h' hw p, fun ρ2 h2 σ2 H3 t2 s2 r2 q2 => ⟨ρ2, h2, _, ⟨q2, r2, L.mono S2.el s2⟩, t2, ?_⟩⟩
        have tot : ST H1 h1 H3 h2 := (st.trans st2).trans s2
        have nxt : KN X.K H3 h2 (CN (Pv (i + 1))) fun σ2 H2 => ∃ ρ' h', Pv (i + 1) ρ' h' ∧ Sta X.K L σ2 H2 ρ' h' ∧ ST H1 h1 H2 h' := fun ρ4 h4 σ4 H4 ⟨ρ0, h0, p, e1, e2⟩ s4 r4 q4 =>
          ⟨ρ0, h0, p, ⟨(q4.mono (.drop e2)).sub e1, r4.drop e2, L.mono (L.mono (L.mono S2.el s2) s4) (.drop e2)⟩, (tot.trans s4).trans (.drop e2)⟩
        exact ⟨nxt, k.rt.mono (s1.trans tot), k.nx.mono (s1.trans tot), nxt⟩
      · have e : i = ws.length := by omega
        subst e
        exact .inl ⟨I.stop _ H' h' st S'.hr (Nat.le_refl _), k.nx _ h' _ H' (fin ρ' h' p) (s1.trans st) S'.hr S'.sr⟩⟩
def sWhile (c : TTW) (tb : TSW) : TSW := fun D ρ h => ∃ Pv : Nat → SlW → HW → Prop, (∃ m, CN (Pv m) ρ h) ∧ ∀ m ρ' h', Pv m ρ' h' →
  c ρ' h' fun b h1 => if b = true then tb (D.lp (CN fun ρ2 h2 => ∃ m', m' < m ∧ Pv m' ρ2 h2) D.nx) ρ' h1 else D.nx ρ' h1
theorem ws_while {body : List Stmt} {tb : TSW} (hp : PassesOwn (model X.prog X.w) X.A X.env X.xe) (hc : WT X L c tc) (hb : WSs X L body tb) : WS X L (.While c body [] pos) (sWhile tc tb) := (ps_while hp hc hb).imp fun D σ H ⟨ρ, h, DW, S, t, k⟩ => by
  obtain ⟨Pv, ⟨m0, ρ0, h0, p0, e1, e2⟩, turn⟩ := t
  refine ⟨fun m σ' H' => ∃ ρ' h', Pv m ρ' h' ∧ Sta X.K L σ' H' ρ' h' ∧ ST H h H' h', ⟨m0, ρ0, h0, p0, ⟨(S.sr.mono (.drop e2)).sub e1, S.hr.drop e2, L.mono S.el (.drop e2)⟩, .drop e2⟩, ?_⟩
  rintro m σ' H' ⟨ρ', h', p, S', st⟩
  refine ⟨ρ', h', _, S', turn m ρ' h' p, fun b h1 H1 t1 s1 r1 => ?_⟩
  cases b with
  | false => exact k.nx _ h1 _ H1 t1 (st.trans s1) r1 (S'.sr.mono s1)
  | true =>
    have nxt : KN X.K H1 h1 (CN fun ρ2 h2 => ∃ m', m' < m ∧ Pv m' ρ2 h2) fun σ2 H2 => ∃ m', m' < m ∧ ∃ ρ' h', Pv m' ρ' h' ∧ Sta X.K L σ2 H2 ρ' h' ∧ ST H h H2 h' := fun ρ4 h4 σ4 H4 ⟨ρ0, h0, ⟨m', hm, p⟩, e1, e2⟩ s4 r4 q4 =>
      ⟨m', hm, ρ0, h0, p, ⟨(q4.mono (.drop e2)).sub e1, r4.drop e2, L.mono (L.mono (L.mono S'.el s1) s4) (.drop e2)⟩, ((st.trans s1).trans s4).trans (.drop e2)⟩
    exact ⟨_, fun _ _ q => q, ρ', h1, _, S'.to s1 r1, t1, ⟨nxt, k.rt.mono (st.trans s1), k.nx.mono (st.trans s1), nxt⟩⟩
end
end Wl

set_option Elab.async false
set_option linter.all false
set_option maxRecDepth 100000
namespace Wl
open PySem PySem.Spec PyProof.Rows L2
/-! ## a def's promise -/
abbrev SpW := List W → HW → KW → (XW → HW → Prop) → Prop
def lSp (K : PySem.W.Frag) (sp : SpW) : Sp := fun vs H Q E => ∃ ws h R ex, RWs K H h vs ws ∧ HR K H h ∧ sp ws h R ex ∧ KV K H h R Q ∧ (Lk.of K E ex).el H h
/-- no exception -/
abbrev noX : XW → HW → Prop := fun _ _ => False
/-! owned lists and dicts within a value that nobody will write any more -/
mutual
inductive FrW (h h0 : HW) : W → W → Prop
  | same (w : W) : FrW h h0 w w
  | lst {p : Addr} {ws ws' : List W} (e : h p = some (.lst ws)) (n : h0 p = none) (r : FrWs h h0 ws ws') : FrW h h0 (.ref p) (.lst ws')
  | dic {p : Addr} {kws : List (L2.Key × W)} (e : h p = some (.dic kws)) (n : h0 p = none) : FrW h h0 (.ref p) (.dic kws)
  | tup {ws ws' : List W} (r : FrWs h h0 ws ws') : FrW h h0 (.tup ws) (.tup ws')
  | lstV {ws ws' : List W} (r : FrWs h h0 ws ws') : FrW h h0 (.lst ws) (.lst ws')
inductive FrWs (h h0 : HW) : List W → List W → Prop
  | nil : FrWs h h0 [] []
  | cons {w w' : W} {ws ws' : List W} (r : FrW h h0 w w') (t : FrWs h h0 ws ws') : FrWs h h0 (w :: ws) (w' :: ws')
end
theorem FrWs.same {h h0 : HW} : ∀ ws : List W, FrWs h h0 ws ws
  | [] => .nil
  | w :: ws => .cons (.same w) (FrWs.same ws)
section
variable {K : PySem.W.Frag} {H : Hp} {h h0 : HW}
mutual
theorem FrW.rw (hr : HR K H h) (s : Sub h0 h) : ∀ {w w' : W}, FrW h h0 w w' → ∀ {v : V}, RW K H h v w → RW K H h0 v w'
  | _, _, .same w, _, r => r.mono (.drop s)
  | _, _, .lst e n q, v, r => by
    cases r
    obtain ⟨vs, hv, r⟩ := hr _ _ e
    exact .lst ⟨hv, n⟩ (FrWs.rws hr s q r)
  | _, _, .dic e n, v, r => by
    cases r
    obtain ⟨vs, hv, r⟩ := hr _ _ e
    exact .dic ⟨hv, n⟩ (r.mono (.drop s))
  | _, _, .tup q, v, r => by
    cases r with
    | tup f r => exact .tup (f.mono (.drop s)) (FrWs.rws hr s q r)
  | _, _, .lstV q, v, r => by
    cases r with
    | lst f r => exact .lst (f.mono (.drop s)) (FrWs.rws hr s q r)
theorem FrWs.rws (hr : HR K H h) (s : Sub h0 h) : ∀ {w w' : List W}, FrWs h h0 w w' → ∀ {v : List V}, RWs K H h v w → RWs K H h0 v w'
  | _, _, .nil, _, r => by cases r; exact .nil
  | _, _, .cons q t, _, r => by
    cases r with
    | cons r u => exact .cons (FrW.rw hr s q r) (FrWs.rws hr s t u)
end
end
/-- what a value's way out may forget: objects that nobody owns any more -/
inductive Cl (R : KW) : W → HW → Prop
  | mk {w w' : W} {h0 h : HW} (r : R w' h0) (f : FrW h h0 w w') (s : Sub h0 h) : Cl R w h
theorem Cl.base {R : KW} {w : W} {h0 h : HW} (r : R w h0) (s : Sub h0 h) : Cl R w h := .mk r (.same w) s
theorem Cl.of {R : KW} {w : W} {h : HW} (r : R w h) : Cl R w h := .base r (.refl _)
theorem Cl.frL {R : KW} {p : Addr} {ws : List W} {h0 h : HW} (e : h p = some (.lst ws)) (r : R (.lst ws) h0) (n : h0 p = none) (s : Sub h0 h) : Cl R (.ref p) h := .mk r (.lst e n (.same ws)) s
theorem KV.cl {K : PySem.W.Frag} {H : Hp} {h : HW} {R : KW} {Q : VK} (k : KV K H h R Q) : KV K H h (Cl R) Q := fun w h' v H' c st hr rw => by
  cases c with
  | mk r f s => exact k _ _ v H' r (st.trans (.drop s)) (hr.drop s) (f.rw hr s rw)
section
variable {P : Program} {w : World} {K : PySem.W.Frag} {mg : Str → Option Value} {base : Heap}
theorem fnW {x qual : Str} {st : Stmt} {f : Addr} {fd : FuncData} {N ps : List Str} {k : Nat} {sp : SpW} (F : Fun K x qual st f fd) (S : FnScope N ps (defScope st)) (len : ∀ ws h R ex, sp ws h R ex → ws.length = ps.length)
    (hbody : ∀ (cdv : Value) (A : Around) (outer : List Env) (s : Shared) (H : Hp) (E : XK), Room k (A.deeper (envOfC qual (defScope st) s.heap.objs.size f cdv)) →
      ∃ t, WSs (cxOf CX0 P w K mg base N qual (defScope st) f cdv A outer s H E).nox Lk.no (defBody st) t ∧ ∀ ws h R ex, sp ws h R ex → t { nx := fun _ h' => Cl R .non h', rt := Cl R } (startW N.length ws) h) : FnOk P w K mg base CX0 (k + 1) f fd ps (lSp K sp) := by
  refine F.ok S (fun vs H Q E ⟨ws, h, R, ex, r, hr, q, kv, el⟩ => by rw [r.length]; exact len _ _ _ _ q) fun cdv A outer s H vs Q E hro ⟨ws, h, R, ex, r, hr, q, kv, el⟩ => ?_
  obtain ⟨t, ht, go⟩ := hbody cdv A outer s H E hro
  exact ⟨_, ht, _, h, _, ⟨.start r, hr, trivial⟩, go ws h R ex q, ⟨fun _ h' _ H' c st hr _ => kv.cl _ h' _ H' c st hr .non, kv.cl, fun _ _ _ _ c => c.elim, fun _ _ _ _ c => c.elim⟩⟩
/-- .. for a def that may raise -/
theorem fnWX {x qual : Str} {st : Stmt} {f : Addr} {fd : FuncData} {N ps : List Str} {k : Nat} {sp : SpW} (F : Fun K x qual st f fd) (S : FnScope N ps (defScope st)) (len : ∀ ws h R ex, sp ws h R ex → ws.length = ps.length)
    (hbody : ∀ (cdv : Value) (A : Around) (outer : List Env) (s : Shared) (H : Hp) (E : XK) (ex : XW → HW → Prop), Room k (A.deeper (envOfC qual (defScope st) s.heap.objs.size f cdv)) →
      ∃ t, WSs (cxOf (L2.CX P w) P w K mg base N qual (defScope st) f cdv A outer s H E) (Lk.of K E ex) (defBody st) t ∧ ∀ ws h R, sp ws h R ex → t { nx := fun _ h' => Cl R .non h', rt := Cl R } (startW N.length ws) h) : FnOk P w K mg base (L2.CX P w) (k + 1) f fd ps (lSp K sp) := by
  refine F.okX S (fun vs H Q E ⟨ws, h, R, ex, r, hr, q, kv, el⟩ => by rw [r.length]; exact len _ _ _ _ q) fun cdv A outer s H vs Q E hro ⟨ws, h, R, ex, r, hr, q, kv, el⟩ => ?_
  obtain ⟨t, ht, go⟩ := hbody cdv A outer s H E ex hro
  exact ⟨_, ht, _, h, _, ⟨.start r, hr, el⟩, go ws h R q, ⟨fun _ h' _ H' c st hr _ => kv.cl _ h' _ H' c st hr .non, kv.cl, fun _ _ _ _ c => c.elim, fun _ _ _ _ c => c.elim⟩⟩
end
section
variable {X : Cx} {L : Lk} {CX : CXT} {k : Nat} {f : Addr} {fd : FuncData} {ps : List Str} {sp : SpW} {x : Str} {p pos : Pos} {e : Expr} {es : List Expr} {t : TAW} {ex : XW → HW → Prop} {E : XK}
def oCall (sp : SpW) (ex : XW → HW → Prop) (t : TAW) : TEW := fun ρ h R => t ρ h fun ws h1 => sp ws h1 R ex
theorem w_callG (F : FnOk X.prog X.w X.K X.mg X.base CX k f fd ps (lSp X.K sp)) (hr : Room k X.A) (hg : Gl X x) (hm : X.mg x = some (.ref f)) (hk : PySem.W.keepIn X.K (.ref f) = true) (hb : Binds X.K fd ps []) (hx : Passes CX X E) (hE : ∀ H h, L.el H h → (Lk.of X.K E ex).el H h)
    (ha : WA X L (e :: es) t) (hdb : (x == ("__debug__" : Str)) = false := by decide) (he : starEach (e :: es) X.env = (false, eval e X.env) :: starEach es X.env := by rfl) (hpl : (backTo pos (starEach es X.env)).any (·.1) = false := by rfl) :
    WE X L (.Call (.Name x p) (e :: es) [] pos) (oCall sp ex t) := (pe_call F hr hg hm hk hb .nil hx ha hdb he hpl).imp fun σ H Q ⟨ρ, h, R, S, t, k⟩ =>
  ⟨ρ, h, _, S, t, fun ws h1 vs H1 t1 s1 r1 q1 => by
    show lSp X.K sp (vs ++ []) H1 Q E
    rw [List.append_nil]
    exact ⟨ws, h1, R, ex, q1, r1, t1, k.mono s1, hE _ _ (L.mono S.el s1)⟩⟩
theorem el_no {K : PySem.W.Frag} {H : Hp} {h : HW} : (Lk.of K E0 noX).el H h := fun _ _ _ _ e => e.elim
/-- a callee that lets nothing out -/
theorem w_call (F : FnOk X.prog X.w X.K X.mg X.base CX0 k f fd ps (lSp X.K sp)) (hr : Room k X.A) (hg : Gl X x) (hm : X.mg x = some (.ref f)) (hk : PySem.W.keepIn X.K (.ref f) = true) (hb : Binds X.K fd ps [])
    (ha : WA X L (e :: es) t) (hdb : (x == ("__debug__" : Str)) = false := by decide) (he : starEach (e :: es) X.env = (false, eval e X.env) :: starEach es X.env := by rfl) (hpl : (backTo pos (starEach es X.env)).any (·.1) = false := by rfl) :
    WE X L (.Call (.Name x p) (e :: es) [] pos) (oCall sp noX t) := w_callG F hr hg hm hk hb pass0 (fun _ _ _ => el_no) ha hdb he hpl
/-- a callee that may raise, but not here -/
theorem w_callN (F : FnOk X.prog X.w X.K X.mg X.base (L2.CX X.prog X.w) k f fd ps (lSp X.K sp)) (hr : Room k X.A) (hg : Gl X x) (hm : X.mg x = some (.ref f)) (hk : PySem.W.keepIn X.K (.ref f) = true) (hb : Binds X.K fd ps [])
    (ha : WA X L (e :: es) t) (hdb : (x == ("__debug__" : Str)) = false := by decide) (he : starEach (e :: es) X.env = (false, eval e X.env) :: starEach es X.env := by rfl) (hpl : (backTo pos (starEach es X.env)).any (·.1) = false := by rfl) :
    WE X L (.Call (.Name x p) (e :: es) [] pos) (oCall sp noX t) := w_callG F hr hg hm hk hb passL (fun _ _ _ => el_no) ha hdb he hpl
/-- a callee that may raise, within a def that lets it out -/
theorem w_callX {X : Cx} {sp : SpW} {t : TAW} (F : FnOk X.prog X.w X.K X.mg X.base (L2.CX X.prog X.w) k f fd ps (lSp X.K sp)) (hr : Room k X.A) (hg : Gl X x) (hm : X.mg x = some (.ref f)) (hk : PySem.W.keepIn X.K (.ref f) = true) (hb : Binds X.K fd ps [])
    (tk : Takes X (fun cls d _ H => E cls d H))
    (ha : WA X (Lk.of X.K E ex) (e :: es) t) (hdb : (x == ("__debug__" : Str)) = false := by decide) (he : starEach (e :: es) X.env = (false, eval e X.env) :: starEach es X.env := by rfl) (hpl : (backTo pos (starEach es X.env)).any (·.1) = false := by rfl) :
    WE X (Lk.of X.K E ex) (.Call (.Name x p) (e :: es) [] pos) (oCall sp ex t) := w_callG F hr hg hm hk hb (passes_call tk fun _ _ _ _ z => z) (fun _ _ z => z) ha hdb he hpl
/-- raise C(e), C an own exception without own __init__ -/
def sRaise (C : Addr) (ex : XW → HW → Prop) (te : TEW) : TSW := fun D ρ h => te ρ h fun _ h1 => ex ⟨C, none⟩ h1
theorem ws_raise {C : Addr} {te : TEW} {pos2 : Pos} (hc : X.calm = true) (tk : Takes X (fun cls d _ H => E cls d H)) (q : PySem.W.excIn X.K C [.type "ValueError", .type "Exception", .type "BaseException", .type "object"] "ValueError.__new__" = true) (gC : X.mg x = some (.ref C))
    (kC : PySem.W.keepIn X.K (.ref C) = true) (r1 : PySem.W.subIn X.K (.ref C) (.type "BaseException") = some true) (r2 : PySem.W.typeIn X.K (.ref C) = some (.type "type")) (hg : Gl X x) (he : WE X (Lk.of X.K E ex) e te)
    (hs : starEach [e] X.env = (false, eval e X.env) :: starEach [] X.env := by rfl) (hdb : (x == ("__debug__" : Str)) = false := by decide) : WS X (Lk.of X.K E ex) (.Raise (some (.Call (.Name x p) [e] [] pos)) none pos2) (sRaise C ex te) :=
  (ps_raise hc tk (SkE.pmk_own1 PySem.F.excBase_ValueError q gC kC (raises_own r1 r2) hg he hs hdb)).imp fun D σ H ⟨ρ, h, DW, S, t, k⟩ =>
    ⟨ρ, h, _, S, t, fun w1 h1 v1 H1 t1 s1 r1 q1 => S.el ⟨C, none⟩ h1 none H1 t1 s1 r1 rfl⟩
/-! ## f-strings -/
/-- {e}: a text or an int -/
def fmtW : W → HW → KW → Prop := fun x h R => match x with
  | .str s => s.length ≤ 16000000 ∧ R (.str s) h
  | .int i => i.natAbs.log2 < 1920 ∧ R (.str (decS i)) h
  | _ => False
theorem w_fmt {te : TEW} (he : WE X L e te) : WE X L (.FormattedValue e (-1) none pos) (oUn fmtW te) := (pe_fmt he).imp fun σ H Q ⟨ρ, h, R, S, t, k⟩ =>
  ⟨ρ, h, _, S, t, fun w1 h1 v1 H1 t1 s1 r1 q1 => by
    unfold fmtW at t1
    split at t1
    · cases q1; exact .inl ⟨_, rfl, by rw [mkS_length]; exact sz_big t1.1, k _ h1 _ H1 t1.2 s1 r1 (.str _)⟩
    · cases q1
      refine .inr ⟨_, rfl, t1.1, k _ h1 _ H1 t1.2 s1 r1 ?_⟩
      rw [mkS_list (Str.ofString (toString _))]; exact .str _
    · exact t1.elim⟩
inductive WJ (X : Cx) (L : Lk) : List Expr → List TEW → Prop where
  | nil : WJ X L [] []
  | cons {e : Expr} {t : TEW} {es : List Expr} {ts : List TEW} (h : WE X L e t) (r : WJ X L es ts) : WJ X L (e :: es) (t :: ts)
theorem WJ.pj {es : List Expr} {ts : List TEW} (j : WJ X L es ts) : PJ X es (ts.map (lE X.K L)) := by
  induction j with
  | nil => exact .nil
  | cons h r ih => exact .cons h ih
def oJs : List TEW → List Nat → SlW → HW → (List Nat → HW → Prop) → Prop
  | [], acc, _, h, R => R acc h
  | t :: ts, acc, ρ, h, R => t ρ h fun x h1 => match x with
    | .str y => acc.length + y.length ≤ 16000000 ∧ oJs ts (acc ++ y) ρ h1 R
    | _ => False
def oJoin (ts : List TEW) : TEW := fun ρ h R => oJs ts [] ρ h fun out h1 => R (.str out) h1
theorem js_imp (K : PySem.W.Frag) (L : Lk) (Q : Str → Hp → Prop) : ∀ (ts : List TEW) (acc : List Nat) (σ : L2.St) (H : Hp) (ρ : SlW) (h : HW) (R : List Nat → HW → Prop), Sta K L σ H ρ h → oJs ts acc ρ h R → (∀ out h' H', R out h' → ST H h H' h' → HR K H' h' → Q (mkS out) H') →
    tJs (ts.map (lE K L)) (mkS acc) σ H Q
  | [], acc, σ, H, ρ, h, R, S, t, k => k _ _ _ t (.refl _ _) S.hr
  | t :: ts, acc, σ, H, ρ, h, R, S, q, k => ⟨ρ, h, _, S, q, fun w1 h1 v1 H1 t1 s1 r1 q1 => by
    cases w1 with
    | str y =>
      cases q1
      refine ⟨_, rfl, ?_, ?_⟩
      · rw [mkS_append, mkS_length, List.length_append]; exact sz_big t1.1
      · rw [mkS_append]; exact js_imp K L Q ts _ σ H1 ρ h1 R (S.to s1 r1) t1.2 fun out h' H' a b c => k out h' H' a (s1.trans b) c
    | _ => exact t1.elim⟩
theorem w_joined {v1 v2 : Expr} {rest : List Expr} {ts : List TEW} (j : WJ X L (v1 :: v2 :: rest) ts) : WE X L (.JoinedStr (v1 :: v2 :: rest) pos) (oJoin ts) := (pe_joined j.pj).imp fun σ H Q ⟨ρ, h, R, S, t, k⟩ => by
  have e : (Str.empty : Str) = mkS [] := rfl
  rw [e]
  exact js_imp X.K L _ ts [] σ H ρ h _ S t fun out h' H' a b c => k _ h' _ H' a b c (.str _)
theorem w_joined1 {te : TEW} (he : WE X L e te) : WE X L (.JoinedStr [e] pos) te := pe_joined1 he
end
/-! ## comprehensions -/
section
variable {X : Cx} {L : Lk}
def oYes : TTW := fun _ h R => R true h
abbrev WTs (X : Cx) (L : Lk) (es : List Expr) (t : TTW) : Prop := PTs X es (lT X.K L t)
theorem _root_.L2.PTs.imp {X : Cx} {e : List Expr} {t t' : TT} (h : PTs X e t) (i : ∀ σ H Q, t' σ H Q → t σ H Q) : PTs X e t' := ⟨fun p s σ H Q I q => h.run p s σ H Q I (i _ _ _ q)⟩
theorem wts_nil : WTs X L [] oYes := pts_nil.imp fun σ H Q ⟨ρ, h, R, S, t, k⟩ => k _ h H t (.refl _ _) S.hr
theorem wts_one {c : Expr} {t : TTW} (h : WT X L c t) : WTs X L [c] t := pts_one h
/-- [elt for x in iter if ..]: a new list that stays -/
def oLc (ti : TIW) (j : Nat) (tt : TTW) (te : TEW) : TEW := fun ρ h R => ti ρ h fun ws h1 => ws.length ≤ 16000000 ∧ ∀ p, h1 p = none → ∃ Pv : Nat → List W → HW → Prop, Pv 0 [] h1 ∧
  (∀ i w acc h', ws[i]? = some w → h' p = none → acc.length ≤ i → Pv i acc h' → tt (ρ.set j (some w)) (updW h' p (.lst acc)) fun b h3 => if b = true then te (ρ.set j (some w)) h3 fun y h4 => ∃ h5, Sub (updW h5 p (.lst acc)) h4 ∧ h5 p = none ∧ Pv (i + 1) (acc ++ [y]) h5
    else ∃ h5, Sub (updW h5 p (.lst acc)) h3 ∧ h5 p = none ∧ Pv (i + 1) acc h5) ∧ ∀ acc h', h' p = none → Pv ws.length acc h' → R (.lst acc) h'
theorem lc_imp {K : PySem.W.Frag} {ti : TIW} {j : Nat} {tt : TTW} {te : TEW} : ∀ σ H Q, lE K L (oLc ti j tt te) σ H Q → tLc (lI K L ti) (gName j) (lT K L tt) (lE K L te) [j] σ H Q := fun σ H Q ⟨ρ, h, R, S, t, k⟩ =>
  ⟨ρ, h, _, S, t, fun ws h1 J H1 ⟨hz, t1⟩ s1 r1 I D hD => by
    obtain ⟨Pv, p0, turn, fin⟩ := t1 D (r1.fresh hD)
    have w0 : wipe σ [j] = σ.set j none := rfl
    refine ⟨fun i m H2 => m = ws.length - i ∧ i ≤ ws.length ∧ ∃ acc h', Pv i acc h' ∧ h' D = none ∧ acc.length ≤ i ∧ HR K H2 (updW h' D (.lst acc)) ∧ ST H1 h1 H2 (updW h' D (.lst acc)), ⟨_, rfl, Nat.zero_le _, [], h1, p0, r1.fresh hD, Nat.le_refl _, ?_, .newO hD _ _⟩, ?_⟩
    · exact r1.newO hD ⟨[], upd_same, .nil⟩
    · rintro i m H2 ⟨rfl, hi, acc, h2, p, n2, ha, hr2, st2⟩
      by_cases hlt : i < ws.length
      · have hw : ws[i]? = some ws[i] := List.getElem?_eq_getElem hlt
        obtain ⟨go, yl⟩ := I.step i H2 _ ws[i] st2 hr2 hw
        refine .inr ⟨go, fun H3 => ∃ acc h', Pv (i + 1) acc h' ∧ h' D = none ∧ acc.length ≤ i + 1 ∧ HR K H3 (updW h' D (.lst acc)) ∧ ST H1 h1 H3 (updW h' D (.lst acc)), fun H3 p' => ⟨ws.length - (i + 1), by omega, rfl, hlt, p'⟩, fun x H3 y => ?_⟩
        obtain ⟨st3, hr3, rx⟩ := yl x H3 y
        show wipe ((wipe σ [j]).set j (some x)) [j] = wipe σ [j] ∧ _
        refine ⟨by show ((σ.set j none).set j (some x)).set j none = σ.set j none; rw [List.set_set, List.set_set], ρ.set j (some ws[i]), _, _, ?_, turn i _ acc h2 hw n2 ha p, ?_⟩
        · refine ⟨?_, hr3, L.mono (L.mono (L.mono S.el s1) st2) st3⟩
          show SR K H3 _ ((σ.set j none).set j (some x)) _
          rw [List.set_set]
          exact (((S.sr.mono s1).mono st2).mono st3).set rx j
        · intro b h4 H4 t4 s4 r4
          have tot : ST H1 h1 H4 h4 := (st2.trans st3).trans s4
          cases b with
          | false =>
            obtain ⟨h5, sub, n5, p5⟩ := t4
            exact ⟨acc, h5, p5, n5, Nat.le_succ_of_le ha, r4.drop sub, tot.trans (.drop sub)⟩
          | true =>
            refine ⟨_, h4, _, ⟨?_, r4, L.mono (L.mono (L.mono (L.mono S.el s1) st2) st3) s4⟩, t4, fun y h5 v H5 ⟨h6, sub, n6, p6⟩ s5 r5 q5 => ?_⟩
            · show SR K H4 _ ((σ.set j none).set j (some x)) _
              rw [List.set_set]
              exact ((((S.sr.mono s1).mono st2).mono st3).mono s4).set (rx.mono s4) j
            · have hp : h5 D = some (.lst acc) := sub D _ updW_same
              obtain ⟨vs, hv, q⟩ := r5 D _ hp
              refine ⟨vs, hv, by rw [q.length]; exact Nat.lt_of_le_of_lt (Nat.le_trans ha hi) (sz_lt hz), acc ++ [y], h6, p6, n6, by rw [List.length_append]; exact Nat.succ_le_succ ha, ?_, ?_⟩
              all_goals
                have s6 : ST H5 h5 (upd H5 D (.lst (vs ++ [v]))) (updW h5 D (.lst (acc ++ [y]))) := .mut hp _ _
                have r6 : HR K (upd H5 D (.lst (vs ++ [v]))) (updW h5 D (.lst (acc ++ [y]))) := r5.mut hp ⟨_, upd_same, ((q.mono s6).append (.cons (q5.mono s6) .nil))⟩
                have sub6 : Sub (updW h6 D (.lst (acc ++ [y]))) (updW h5 D (.lst (acc ++ [y]))) := fun b o e => by
                  by_cases hb : b = D
                  · subst hb; rw [updW_same] at e ⊢; exact e
                  · rw [updW_ne hb] at e ⊢
                    exact sub b o (by rw [updW_ne hb]; exact e)
              · exact r6.drop sub6
              · exact ((tot.trans s5).trans s6).trans (.drop sub6)
      · have e : i = ws.length := by omega
        subst e
        obtain ⟨vs, hv, q⟩ := hr2 D _ updW_same
        have sub : Sub h2 (updW h2 D (.lst acc)) := .new n2
        exact .inl ⟨I.stop _ H2 _ st2 hr2 (Nat.le_refl _), k _ h2 _ H2 (fin acc h2 n2 p) ((s1.trans st2).trans (.drop sub)) (hr2.drop sub) (.lst ⟨hv, n2⟩ (q.mono (.drop sub)))⟩⟩
theorem w_lc {elt tg iter : Expr} {ifs : List Expr} {scope : Scope} {x : Str} {j : Nat} {pos : Pos} {ti : TIW} {tt : TTW} {te : TEW} (hc : X.calm = true) (hN : X.N.Nodup) (hi : WI X L tg iter ti) (ok : BlkOk X.N X.env.scope scope [(x, j)])
    (hg : ∀ (s : Shared) (H : Hp) (C : Addr) (cl : List (Str × Addr)) (fp : List Addr), PG (X.blk s H scope (compEnvC scope cl C X.env) fp) tg (gName j)) (ht : ∀ (s : Shared) (H : Hp) (C : Addr) (cl : List (Str × Addr)) (fp : List Addr), WTs (X.blk s H scope (compEnvC scope cl C X.env) fp) L ifs tt)
    (he : ∀ (s : Shared) (H : Hp) (C : Addr) (cl : List (Str × Addr)) (fp : List Addr), WE (X.blk s H scope (compEnvC scope cl C X.env) fp) L elt te) (hs : ∀ x, foldedSetIterable iter X.env x = pure x := by intro _; rfl) :
    WE X L (.ListComp elt [⟨tg, iter, ifs, 0⟩] scope pos) (oLc ti j tt te) := (pe_lc hc hN hi ok hg ht he hs).imp lc_imp
theorem ws_setLc {i : Nat} {y : Str} {py : Pos} {elt tg iter : Expr} {ifs : List Expr} {scope : Scope} {x : Str} {j : Nat} {pos spos : Pos} {ti : TIW} {tt : TTW} {te : TEW} (hc : X.calm = true) (hN : X.N.Nodup) (hy : X.N[i]? = some y) (hyl : X.env.scope.names.lookup y = some .local)
    (hsw : swapsWith (.ListComp elt [⟨tg, iter, ifs, 0⟩] scope pos) (some (.Name y py)) spos.line X.env = pure true) (hi : WI X L tg iter ti) (ok : BlkOk X.N X.env.scope scope [(x, j)])
    (hg : ∀ (s : Shared) (H : Hp) (C : Addr) (cl : List (Str × Addr)) (fp : List Addr), PG (X.blk s H scope (compEnvC scope cl C X.env) fp) tg (gName j)) (ht : ∀ (s : Shared) (H : Hp) (C : Addr) (cl : List (Str × Addr)) (fp : List Addr), WTs (X.blk s H scope (compEnvC scope cl C X.env) fp) L ifs tt)
    (he : ∀ (s : Shared) (H : Hp) (C : Addr) (cl : List (Str × Addr)) (fp : List Addr), WE (X.blk s H scope (compEnvC scope cl C X.env) fp) L elt te) (hs : ∀ x, foldedSetIterable iter X.env x = pure x := by intro _; rfl) :
    WS X L (.Assign [.Name y py] (.ListComp elt [⟨tg, iter, ifs, 0⟩] scope pos) spos) (sAsg (oLc ti j tt te) (gN i)) := (ps_setLc hc hN hy hyl hsw hi ok hg ht he hs).imp fun D σ H ⟨ρ, h, DW, S, t, k⟩ =>
  lc_imp σ H _ ⟨ρ, h, _, S, t, fun w1 h1 v1 H1 t1 s1 r1 q1 => k.nx _ h1 _ H1 t1 s1 r1 ((S.sr.mono s1).set q1 i)⟩
end
end Wl

set_option Elab.async false
set_option linter.all false
set_option maxRecDepth 100000
namespace Wl
open PySem PySem.Spec PyProof.Rows L2
section
variable {rw : RW2} {rw1 : W → HW → KW → Prop} {ta tb tc te : TEW} {ρ : SlW} {h : HW} {R : KW} {RB : Bool → HW → Prop} {RA : List W → HW → Prop} {tA tB : TTW} {t : TAW} {D : EndsW} {s u : TSW} {i j : Int} {a b : List Nat} {xs ys : List W} {p q : Prop} {w : W}
theorem go_var {n : Nat} (e : sl ρ n = some w) (k : R w h) : oVar n ρ h R := by unfold oVar; rw [e]; exact k
theorem go_c (k : R w h) : oC w ρ h R := k
theorem go_op (k : ta ρ h fun x h1 => tb ρ h1 fun y h2 => rw x y h2 R) : oOp rw ta tb ρ h R := k
theorem go_un (k : ta ρ h fun x h1 => rw1 x h1 R) : oUn rw1 ta ρ h R := k
theorem go_test (k : te ρ h fun x h1 => match x with | .bl k => RB k h1 | _ => False) : oTest te ρ h RB := k
theorem go_chain {r r' : RW2} (k : ta ρ h fun x h1 => tb ρ h1 fun y h2 => r x y h2 fun z h3 => match z with
  | .bl k => if k = true then tc ρ h3 fun w' h4 => r' y w' h4 R else R (.bl false) h3
  | _ => False) : oChain r r' ta tb tc ρ h R := k
theorem go_and (k : tA ρ h fun c h1 => if c = true then tB ρ h1 RB else RB false h1) : oAnd tA tB ρ h RB := k
theorem go_or (k : tA ρ h fun c h1 => if c = true then RB true h1 else tB ρ h1 RB) : oOr tA tB ρ h RB := k
theorem go_not (k : tA ρ h fun c h1 => RB (!c) h1) : oNot tA ρ h RB := k
theorem go_andV (k : ta ρ h fun x h1 => match x with | .bl c => if c = true then tb ρ h1 R else R (.bl false) h1 | _ => False) : oAndV ta tb ρ h R := k
theorem go_orV (k : ta ρ h fun x h1 => match x with | .bl c => if c = true then R (.bl true) h1 else tb ρ h1 R | _ => False) : oOrV ta tb ρ h R := k
theorem go_notV (k : ta ρ h fun x h1 => match x with | .bl c => R (.bl (!c)) h1 | _ => False) : oNotV ta ρ h R := k
theorem go_ifE (k : tA ρ h fun c h1 => if c = true then ta ρ h1 R else tb ρ h1 R) : oIf tA ta tb ρ h R := k
theorem go_yes (k : RB true h) : oYes ρ h RB := k
theorem go_nil (k : RA [] h) : oNil ρ h RA := k
theorem go_cons (k : ta ρ h fun x h1 => t ρ h1 fun xs h2 => RA (x :: xs) h2) : oCons ta t ρ h RA := k
def tupK (R : KW) (ws : List W) (h1 : HW) : Prop := ws.length ≤ 16000000 ∧ R (.tup ws) h1
def lstK (R : KW) (ws : List W) (h1 : HW) : Prop := ws.length ≤ 16000000 ∧ R (.lst ws) h1
def lstOK (R : KW) (ws : List W) (h1 : HW) : Prop := ws.length ≤ 16000000 ∧ ∀ p, h1 p = none → R (.ref p) (updW h1 p (.lst ws))
theorem go_tup (k : t ρ h (tupK R)) : oTup t ρ h R := k
theorem go_lst (k : t ρ h (lstK R)) : oLst t ρ h R := k
theorem go_lstO (k : t ρ h (lstOK R)) : oLstO t ρ h R := k
theorem go_tupK (e : xs.length ≤ 16000000) (k : R (.tup xs) h) : tupK R xs h := ⟨e, k⟩
theorem go_lstK (e : xs.length ≤ 16000000) (k : R (.lst xs) h) : lstK R xs h := ⟨e, k⟩
theorem go_lstOK (e : xs.length ≤ 16000000) (k : ∀ p, h p = none → R (.ref p) (updW h p (.lst xs))) : lstOK R xs h := ⟨e, k⟩
/-! operators by values -/
theorem go_addI (k : R (.int (i + j)) h) : addW (.int i) (.int j) h R := k
theorem go_addS (e : a.length + b.length ≤ 16000000) (k : R (.str (a ++ b)) h) : addW (.str a) (.str b) h R := ⟨e, k⟩
theorem go_addT (n : xs ≠ []) (e : xs.length + ys.length ≤ 16000000) (k : R (.tup (xs ++ ys)) h) : addW (.tup xs) (.tup ys) h R := ⟨n, e, k⟩
theorem go_addL (e : xs.length + ys.length ≤ 16000000) (k : R (.lst (xs ++ ys)) h) : addW (.lst xs) (.lst ys) h R := ⟨e, k⟩
theorem go_int {C : Int → Int → Prop} {g : Int → Int → Int} (e : C i j) (k : R (.int (g i j)) h) : intW C g (.int i) (.int j) h R := ⟨e, k⟩
theorem go_int0 {g : Int → Int → Int} (k : R (.int (g i j)) h) : intW0 g (.int i) (.int j) h R := k
theorem go_sub (k : R (.int (i - j)) h) : subW (.int i) (.int j) h R := k
theorem go_mul (e : CMul i j) (k : R (.int (i * j)) h) : mulW (.int i) (.int j) h R := ⟨e, k⟩
theorem go_mod (e : 0 < j) (k : R (.int (i % j)) h) : modW (.int i) (.int j) h R := ⟨e, k⟩
theorem go_fdiv (e : CDiv i j) (k : R (.int (i / j)) h) : fdivW (.int i) (.int j) h R := ⟨e, k⟩
theorem cdiv_ok (a : 0 < j) (b : j < 1073741824) : CDiv i j := ⟨a, b⟩
theorem go_neg (k : R (.int (-i)) h) : negW (.int i) h R := k
theorem go_lt (k : R (.bl (decide (i < j))) h) : ltW (.int i) (.int j) h R := k
theorem go_le (k : R (.bl (decide (i ≤ j))) h) : leW (.int i) (.int j) h R := k
theorem go_gt (k : R (.bl (decide (j < i))) h) : gtW (.int i) (.int j) h R := k
theorem go_ge (k : R (.bl (decide (j ≤ i))) h) : geW (.int i) (.int j) h R := k
theorem go_eqI (k : R (.bl (decide (i = j))) h) : eqW (.int i) (.int j) h R := k
theorem go_eqS (k : R (.bl (decide (a = b))) h) : eqW (.str a) (.str b) h R := k
theorem go_neI (k : R (.bl (!decide (i = j))) h) : neW (.int i) (.int j) h R := k
theorem go_neS (k : R (.bl (!decide (a = b))) h) : neW (.str a) (.str b) h R := k
theorem go_eqD {x y : W} (a : dataW x = true) (b : dataW y = true) (c : depW x ≤ 64) (d : depW y ≤ 64) (k : R (.bl (eqD x y)) h) : eqW x y h R := by
  unfold eqW
  split
  · rename_i i j
    have : eqD (.int i) (.int j) = decide (i = j) := by simp only [eqD, toD, PyData.eqv]; exact Bool.beq_eq_decide_eq _ _
    rw [this] at k; exact k
  · rename_i s t
    have : eqD (.str s) (.str t) = decide (s = t) := by
      simp only [eqD, toD, PyData.eqv]
      by_cases e : s = t
      · subst e; simp
      · simp [e, mkS_inj]
    rw [this] at k; exact k
  · rw [rsv_of a, rsv_of b]; exact ⟨a, b, c, d, k⟩
theorem go_neD {x y : W} (a : dataW x = true) (b : dataW y = true) (c : depW x ≤ 64) (d : depW y ≤ 64) (k : R (.bl (!eqD x y)) h) : neW x y h R := by
  unfold neW
  split
  · rename_i i j
    have : eqD (.int i) (.int j) = decide (i = j) := by simp only [eqD, toD, PyData.eqv]; exact Bool.beq_eq_decide_eq _ _
    rw [this] at k; exact k
  · rename_i s t
    have : eqD (.str s) (.str t) = decide (s = t) := by
      simp only [eqD, toD, PyData.eqv]
      by_cases e : s = t
      · subst e; simp
      · simp [e, mkS_inj]
    rw [this] at k; exact k
  · rw [rsv_of a, rsv_of b]; exact ⟨a, b, c, d, k⟩
theorem go_eqO {p : Addr} {y : W} (hp : h p = some (.lst xs)) (a : dataW (.lst xs) = true) (b : dataW y = true) (c : depW (.lst xs) ≤ 64) (d : depW y ≤ 64) (k : R (.bl (eqD (.lst xs) y)) h) : eqW (.ref p) y h R := by
  have e : rsv (.ref p) h = .lst xs := by unfold rsv; dsimp only; rw [hp]
  show dataW (rsv (.ref p) h) = true ∧ dataW (rsv y h) = true ∧ depW (rsv (.ref p) h) ≤ 64 ∧ depW (rsv y h) ≤ 64 ∧ R (.bl (eqD (rsv (.ref p) h) (rsv y h))) h
  rw [e, rsv_of b]; exact ⟨a, b, c, d, k⟩
theorem go_neO {p : Addr} {y : W} (hp : h p = some (.lst xs)) (a : dataW (.lst xs) = true) (b : dataW y = true) (c : depW (.lst xs) ≤ 64) (d : depW y ≤ 64) (k : R (.bl (!eqD (.lst xs) y)) h) : neW (.ref p) y h R := by
  have e : rsv (.ref p) h = .lst xs := by unfold rsv; dsimp only; rw [hp]
  show dataW (rsv (.ref p) h) = true ∧ dataW (rsv y h) = true ∧ depW (rsv (.ref p) h) ≤ 64 ∧ depW (rsv y h) ≤ 64 ∧ R (.bl (!eqD (rsv (.ref p) h) (rsv y h))) h
  rw [e, rsv_of b]; exact ⟨a, b, c, d, k⟩
theorem go_neR {p : Addr} {x : W} (hp : h p = some (.lst ys)) (a : dataW x = true) (b : dataW (.lst ys) = true) (c : depW x ≤ 64) (d : depW (.lst ys) ≤ 64) (k : R (.bl (!eqD x (.lst ys))) h) : neW x (.ref p) h R := by
  have e : rsv (.ref p) h = .lst ys := by unfold rsv; dsimp only; rw [hp]
  have g : dataW (rsv x h) = true ∧ dataW (rsv (.ref p) h) = true ∧ depW (rsv x h) ≤ 64 ∧ depW (rsv (.ref p) h) ≤ 64 ∧ R (.bl (!eqD (rsv x h) (rsv (.ref p) h))) h := by rw [e, rsv_of a]; exact ⟨a, b, c, d, k⟩
  cases x <;> exact g
theorem go_inT {x : W} (f : flatW x = true) (g : xs.all flatW = true) (k : R (.bl (xs.any fun w => eqF w x)) h) : inW x (.tup xs) h R := ⟨f, g, k⟩
theorem go_inL {x : W} (f : flatW x = true) (g : xs.all flatW = true) (k : R (.bl (xs.any fun w => eqF w x)) h) : inW x (.lst xs) h R := ⟨f, g, k⟩
theorem go_inS {c : Nat} (k : R (.bl (decide (c ∈ a))) h) : inW (.str [c]) (.str a) h R := k
theorem go_inO {x : W} {p : Addr} (hp : h p = some (.lst xs)) (f : flatW x = true) (g : xs.all flatW = true) (k : R (.bl (xs.any fun w => eqF w x)) h) : inW x (.ref p) h R := by
  unfold inW; dsimp only; rw [hp]; exact ⟨f, g, k⟩
theorem go_notInT {x : W} (f : flatW x = true) (g : xs.all flatW = true) (k : R (.bl (!xs.any fun w => eqF w x)) h) : notInW x (.tup xs) h R := ⟨f, g, k⟩
theorem go_notInL {x : W} (f : flatW x = true) (g : xs.all flatW = true) (k : R (.bl (!xs.any fun w => eqF w x)) h) : notInW x (.lst xs) h R := ⟨f, g, k⟩
theorem go_notInS {c : Nat} (k : R (.bl (!decide (c ∈ a))) h) : notInW (.str [c]) (.str a) h R := k
theorem go_notInO {x : W} {p : Addr} (hp : h p = some (.lst xs)) (f : flatW x = true) (g : xs.all flatW = true) (k : R (.bl (!xs.any fun w => eqF w x)) h) : notInW x (.ref p) h R := by
  unfold notInW; dsimp only; rw [hp]; exact ⟨f, g, k⟩
theorem go_ixT (e : atI xs i = some w) (k : R w h) : ixW (.tup xs) (.int i) h R := by unfold ixW; dsimp only; rw [e]; exact k
theorem go_ixL (e : atI xs i = some w) (k : R w h) : ixW (.lst xs) (.int i) h R := by unfold ixW; dsimp only; rw [e]; exact k
theorem go_ixC (e : atI xs i = some w) (k : R w h) : ixW (.scr xs) (.int i) h R := by unfold ixW; dsimp only; rw [e]; exact k
theorem go_ixS {c : Nat} (e : atI a i = some c) (l : a.length ≤ 16000000) (k : R (.str [c]) h) : ixW (.str a) (.int i) h R := by unfold ixW; dsimp only; rw [e]; exact ⟨l, k⟩
theorem go_ixO {p : Addr} (hp : h p = some (.lst xs)) (e : atI xs i = some w) (k : R w h) : ixW (.ref p) (.int i) h R := by unfold ixW; dsimp only; rw [hp]; dsimp only; rw [e]; exact k
/-! slices -/
theorem go_sl {tl th : TOW} (k : te ρ h fun x h1 => tl ρ h1 fun l h2 => th ρ h2 fun u h3 => slW x l u h3 R) : oSl te tl th ρ h R := k
theorem go_noPart {RO : Option Int → HW → Prop} (k : RO none h) : oNoPart ρ h RO := k
theorem go_part {RO : Option Int → HW → Prop} (k : te ρ h fun x h1 => match x with | .int i => RO (some i) h1 | _ => False) : oPart te ρ h RO := k
theorem go_slT {lo hi : Option Int} (e : ¬ (HT.sIx xs.length 0 lo = 0 ∧ HT.sIx xs.length xs.length hi = xs.length)) (k : R (.tup (cut xs lo hi)) h) : slW (.tup xs) lo hi h R := ⟨e, k⟩
theorem go_slL {lo hi : Option Int} (k : R (.lst (cut xs lo hi)) h) : slW (.lst xs) lo hi h R := k
theorem go_slC {lo hi : Option Int} (k : R (.lst (cut xs lo hi)) h) : slW (.scr xs) lo hi h R := k
theorem go_slS {lo hi : Option Int} (e : a.length ≤ 16000000) (k : R (.str (cut a lo hi)) h) : slW (.str a) lo hi h R := ⟨e, k⟩
theorem go_slO {lo hi : Option Int} {p : Addr} (hp : h p = some (.lst xs)) (k : R (.lst (cut xs lo hi)) h) : slW (.ref p) lo hi h R := by unfold slW; dsimp only; rw [hp]; exact k
theorem go_revL (k : R (.lst xs.reverse) h) : revW (.lst xs) h R := k
theorem go_revO {p : Addr} (hp : h p = some (.lst xs)) (k : R (.lst xs.reverse) h) : revW (.ref p) h R := by unfold revW; dsimp only; rw [hp]; exact k
/-! calls -/
theorem go_cb {rc : List W → HW → KW → Prop} (k : t ρ h fun ws h1 => rc ws h1 R) : oCB rc t ρ h R := k
theorem go_lenT (k : R (.int xs.length) h) : lenW [.tup xs] h R := k
theorem go_lenL (k : R (.int xs.length) h) : lenW [.lst xs] h R := k
theorem go_lenC (k : R (.int xs.length) h) : lenW [.scr xs] h R := k
theorem go_lenS (e : a.length ≤ 16000000) (k : R (.int a.length) h) : lenW [.str a] h R := ⟨e, k⟩
theorem go_lenO {p : Addr} (hp : h p = some (.lst xs)) (k : R (.int xs.length) h) : lenW [.ref p] h R := by unfold lenW; dsimp only; rw [hp]; exact k
theorem go_abs (k : R (.int i.natAbs) h) : absW [.int i] h R := k
theorem go_toInt (k : R (.int i) h) : toIntW [.int i] h R := k
theorem go_toIntB {b : Bool} (k : R (.int (if b = true then 1 else 0)) h) : toIntW [.bl b] h R := k
theorem go_str (e : i.natAbs.log2 < 1920) (k : R (.str (decS i)) h) : strW [.int i] h R := ⟨e, k⟩
theorem go_sum {ns : List Int} (e : intsOf xs = some ns) (k : R (.int ns.sum) h) : sumW [.lst xs] h R := by unfold sumW; dsimp only; rw [e]; exact k
theorem go_max {n : Int} {ns : List Int} (e : intsOf xs = some (n :: ns)) (k : R (.int (maxI n ns)) h) : maxW [.lst xs] h R := by unfold maxW; dsimp only; rw [e]; exact k
theorem go_all {bs : List Bool} (e : blsOf xs = some bs) (k : R (.bl (bs.all id)) h) : allW [.lst xs] h R := by unfold allW; dsimp only; rw [e]; exact k
theorem go_listT (k : R (.lst xs) h) : listW [.tup xs] h R := k
theorem go_listL (k : R (.lst xs) h) : listW [.lst xs] h R := k
theorem go_listC (k : R (.lst xs) h) : listW [.scr xs] h R := k
theorem go_listO {p : Addr} (hp : h p = some (.lst xs)) (k : R (.lst xs) h) : listW [.ref p] h R := by unfold listW; dsimp only; rw [hp]; exact k
theorem go_isI {n : String} {b : Bool} (e : kitB "int" n = some b) (k : R (.bl b) h) : isW [.int i, .ty n] h R := by unfold isW; dsimp only; rw [e]; exact k
theorem go_isB {n : String} {b c : Bool} (e : kitB "bool" n = some b) (k : R (.bl b) h) : isW [.bl c, .ty n] h R := by unfold isW; dsimp only; rw [e]; exact k
theorem go_isS {n : String} {b : Bool} (e : kitB "str" n = some b) (k : R (.bl b) h) : isW [.str a, .ty n] h R := by unfold isW; dsimp only; rw [e]; exact k
theorem go_isT {n : String} {b : Bool} (e : kitB "tuple" n = some b) (k : R (.bl b) h) : isW [.tup xs, .ty n] h R := by unfold isW; dsimp only; rw [e]; exact k
theorem go_bm0 {ty : W → HW → Prop} {rm : W → List W → HW → KW → Prop} (k : te ρ h fun x h1 => ty x h1 ∧ rm x [] h1 R) : oBM0 ty rm te ρ h R := k
theorem go_bm {ty : W → HW → Prop} {rm : W → List W → HW → KW → Prop} (k : te ρ h fun x h1 => ty x h1 ∧ t ρ h1 fun ws h2 => rm x ws h2 R) : oBM ty rm te t ρ h R := k
theorem go_tyS (k : p) : tyS (.str a) h ∧ p := ⟨trivial, k⟩
theorem go_tyL {q : Addr} (hp : h q = some (.lst xs)) (k : p) : tyL (.ref q) h ∧ p := ⟨by unfold tyL; dsimp only; rw [hp]; trivial, k⟩
theorem go_append {p : Addr} (hp : h p = some (.lst xs)) (e : xs.length ≤ 16000000) (k : R .non (updW h p (.lst (xs ++ [w])))) : appendW (.ref p) [w] h R := by unfold appendW; dsimp only; rw [hp]; exact ⟨e, k⟩
theorem go_pop {p : Addr} (hp : h p = some (.lst (xs ++ [w]))) (k : R w (updW h p (.lst xs))) : popW (.ref p) [] h R := by
  unfold popW; dsimp only; rw [hp]; dsimp only; rw [List.getLast?_concat]; dsimp only; rw [List.dropLast_concat]; exact k
theorem go_extend {p : Addr} (hp : h p = some (.lst xs)) (e : xs.length + ys.length ≤ 16000000) (k : R .non (updW h p (.lst (xs ++ ys)))) : extendW (.ref p) [.lst ys] h R := by unfold extendW; dsimp only; rw [hp]; exact ⟨e, k⟩
theorem go_join {ss : List (List Nat)} (e : strsOf xs = some ss) (l : (ss.map List.length).sum + ss.length * a.length ≤ 16000000) (k : R (.str (joinS a ss)) h) : joinW (.str a) [.lst xs] h R := by unfold joinW; dsimp only; rw [e]; exact ⟨l, k⟩
theorem go_isalnum (k : R (.bl (alnumS a)) h) : isalnumW (.str a) [] h R := k
theorem go_call {sp : SpW} {ex : XW → HW → Prop} (k : t ρ h fun ws h1 => sp ws h1 R ex) : oCall sp ex t ρ h R := k
/-! f-strings -/
theorem go_fmtS (e : a.length ≤ 16000000) (k : R (.str a) h) : fmtW (.str a) h R := ⟨e, k⟩
theorem go_fmtI (e : i.natAbs.log2 < 1920) (k : R (.str (decS i)) h) : fmtW (.int i) h R := ⟨e, k⟩
theorem go_join0 {ts : List TEW} (k : oJs ts [] ρ h fun out h1 => R (.str out) h1) : oJoin ts ρ h R := k
theorem go_js0 {acc : List Nat} {RS : List Nat → HW → Prop} (k : RS acc h) : oJs [] acc ρ h RS := k
theorem go_js1 {ts : List TEW} {acc : List Nat} {RS : List Nat → HW → Prop} (k : te ρ h fun x h1 => match x with | .str y => acc.length + y.length ≤ 16000000 ∧ oJs ts (acc ++ y) ρ h1 RS | _ => False) : oJs (te :: ts) acc ρ h RS := k
/-! statements -/
theorem go_seq (k : s (D.wn (u D)) ρ h) : sSeq s u D ρ h := k
theorem go_next (k : D.nx ρ h) : sNext D ρ h := k
theorem go_break (k : D.bk ρ h) : sBreak D ρ h := k
theorem go_cont (k : D.ct ρ h) : sCont D ρ h := k
theorem go_drop (k : te ρ h fun _ h1 => D.nx ρ h1) : sDrop te D ρ h := k
theorem go_ret (k : te ρ h D.rt) : sRet te D ρ h := k
theorem go_retN (k : D.rt .non h) : sRetN D ρ h := k
theorem go_if (k : tA ρ h fun b h1 => if b = true then s D ρ h1 else u D ρ h1) : sIf tA s u D ρ h := k
theorem go_asg {g : TGW} (k : te ρ h fun x h1 => g x ρ h1 D.nx) : sAsg te g D ρ h := k
theorem go_gN {n : Nat} {P : SlW → HW → Prop} (k : P (ρ.set n (some w)) h) : gN n w ρ h P := k
theorem go_gT {n : Nat} {gs : TGsW} {P : SlW → HW → Prop} (e : xs.length = n) (k : gs xs ρ h P) : gT n gs (.tup xs) ρ h P := ⟨e, k⟩
theorem go_gNil {P : SlW → HW → Prop} (k : P ρ h) : gNilW [] ρ h P := k
theorem go_gCons {g : TGW} {gs : TGsW} {P : SlW → HW → Prop} (k : g w ρ h fun ρ' h' => gs xs ρ' h' P) : gConsW g gs (w :: xs) ρ h P := k
theorem go_aug {n : Nat} (e : sl ρ n = some w) (k : te ρ h fun y h1 => rw w y h1 fun z h2 => D.nx (ρ.set n (some z)) h2) : sAug n te rw D ρ h := by unfold sAug; rw [e]; exact k
theorem go_raise {C : Addr} {ex : XW → HW → Prop} (k : te ρ h fun _ h1 => ex ⟨C, none⟩ h1) : sRaise C ex te D ρ h := k
theorem go_dec [Decidable p] {A B : Prop} (h1 : p → A) (h2 : ¬ p → B) : if decide p = true then A else B := by
  by_cases c : p
  · rw [decide_eq_true c, if_pos rfl]; exact h1 c
  · rw [decide_eq_false c, if_neg Bool.false_ne_true]; exact h2 c
theorem go_ndec [Decidable p] {A B : Prop} (h1 : ¬ p → A) (h2 : p → B) : if (!decide p) = true then A else B := by
  by_cases c : p
  · rw [decide_eq_true c]; exact iteF (h2 c)
  · rw [decide_eq_false c]; exact iteT (h1 c)
theorem go_tt {A B : Prop} (h1 : A) : if true = true then A else B := iteT h1
theorem go_ff {A B : Prop} (h1 : B) : if false = true then A else B := iteF h1
theorem go_nff {A B : Prop} (h1 : A) : if (!false) = true then A else B := iteT h1
theorem go_ntt {A B : Prop} (h1 : B) : if (!true) = true then A else B := iteF h1
theorem go_isT' {b : Bool} {A B : Prop} (e : b = true) (h1 : A) : if b = true then A else B := by rw [e]; exact iteT h1
theorem go_isF' {b : Bool} {A B : Prop} (e : b = false) (h1 : B) : if b = true then A else B := by rw [e]; exact iteF h1
theorem go_for {ti : TIW} {g : TGW} {tb : TSW} (Pv : Nat → SlW → HW → Prop) (k : ti ρ h fun ws h1 => CN (Pv 0) ρ h1 ∧
  (∀ i w ρ' h', ws[i]? = some w → Pv i ρ' h' → g w ρ' h' fun ρ2 h2 => tb (D.lp (CN (Pv (i + 1))) D.nx) ρ2 h2) ∧ ∀ ρ' h', Pv ws.length ρ' h' → D.nx ρ' h') (mono : ∀ {P P' : List W → HW → Prop}, (∀ ws h', P ws h' → P' ws h') → ti ρ h P → ti ρ h P') : sFor ti g tb D ρ h :=
  mono (fun ws h' q => ⟨Pv, q⟩) k
theorem go_forR2 {g : TGW} {tb : TSW} {ta : TAW} (lo hi : Int) (ev : ∀ RA : List W → HW → Prop, RA [.int lo, .int hi] h → ta ρ h RA) (bd : -4611686018427387904 ≤ lo ∧ lo < 4611686018427387904 ∧ -4611686018427387904 ≤ hi ∧ hi < 4611686018427387904)
  (Pv : Nat → SlW → HW → Prop) (p0 : CN (Pv 0) ρ h) (turn : ∀ (i : Nat) ρ' h', i < (hi - lo).toNat → Pv i ρ' h' → g (.int (lo + i)) ρ' h' fun ρ2 h2 => tb (D.lp (CN (Pv (i + 1))) D.nx) ρ2 h2)
  (fin : ∀ ρ' h', Pv (hi - lo).toNat ρ' h' → D.nx ρ' h') : sFor (oRng2 ta) g tb D ρ h := ev _ ⟨bd, Pv, p0, fun i w ρ' h' e p => by
    unfold rngW at e
    rw [List.getElem?_map] at e
    obtain ⟨c, e1, e2⟩ := Option.map_eq_some_iff.mp e
    have hi' : i < (hi - lo).toNat := by have := (List.getElem?_eq_some_iff.mp e1).1; simpa using this
    rw [List.getElem?_range hi'] at e1
    cases e1; subst e2
    exact turn i ρ' h' hi' p, fun ρ' h' p => fin ρ' h' (by simpa [rngW] using p)⟩
theorem go_forR1 {g : TGW} {tb : TSW} {ta : TAW} (hi : Int) (ev : ∀ RA : List W → HW → Prop, RA [.int hi] h → ta ρ h RA) (bd : -4611686018427387904 ≤ hi ∧ hi < 4611686018427387904)
  (Pv : Nat → SlW → HW → Prop) (p0 : CN (Pv 0) ρ h) (turn : ∀ (i : Nat) ρ' h', i < hi.toNat → Pv i ρ' h' → g (.int (i : Nat)) ρ' h' fun ρ2 h2 => tb (D.lp (CN (Pv (i + 1))) D.nx) ρ2 h2)
  (fin : ∀ ρ' h', Pv hi.toNat ρ' h' → D.nx ρ' h') : sFor (oRng1 ta) g tb D ρ h := ev _ ⟨bd, Pv, p0, fun i w ρ' h' e p => by
    unfold rngW at e
    rw [List.getElem?_map] at e
    obtain ⟨c, e1, e2⟩ := Option.map_eq_some_iff.mp e
    have hi' : i < hi.toNat := by have := (List.getElem?_eq_some_iff.mp e1).1; simpa using this
    rw [List.getElem?_range hi'] at e1
    cases e1; subst e2
    rw [Int.zero_add]
    exact turn i ρ' h' hi' p, fun ρ' h' p => fin ρ' h' (by simpa [rngW] using p)⟩
theorem go_forL {g : TGW} {tb : TSW} (ws : List W) (ev : ∀ R : KW, R (.lst ws) h → te ρ h R)
  (Pv : Nat → SlW → HW → Prop) (p0 : CN (Pv 0) ρ h) (turn : ∀ (i : Nat) w ρ' h', ws[i]? = some w → Pv i ρ' h' → g w ρ' h' fun ρ2 h2 => tb (D.lp (CN (Pv (i + 1))) D.nx) ρ2 h2)
  (fin : ∀ ρ' h', Pv ws.length ρ' h' → D.nx ρ' h') : sFor (oItL te) g tb D ρ h := ev _ ⟨Pv, p0, turn, fin⟩
theorem go_forT {g : TGW} {tb : TSW} (ws : List W) (ev : ∀ R : KW, R (.tup ws) h → te ρ h R)
  (Pv : Nat → SlW → HW → Prop) (p0 : CN (Pv 0) ρ h) (turn : ∀ (i : Nat) w ρ' h', ws[i]? = some w → Pv i ρ' h' → g w ρ' h' fun ρ2 h2 => tb (D.lp (CN (Pv (i + 1))) D.nx) ρ2 h2)
  (fin : ∀ ρ' h', Pv ws.length ρ' h' → D.nx ρ' h') : sFor (oItT te) g tb D ρ h := ev _ ⟨Pv, p0, turn, fin⟩
theorem go_while {tc : TTW} {tb : TSW} (Pv : Nat → SlW → HW → Prop) (p0 : ∃ m, CN (Pv m) ρ h) (turn : ∀ m ρ' h', Pv m ρ' h' → tc ρ' h' fun b h1 => if b = true then tb (D.lp (CN fun ρ2 h2 => ∃ m', m' < m ∧ Pv m' ρ2 h2) D.nx) ρ' h1 else D.nx ρ' h1) : sWhile tc tb D ρ h := ⟨Pv, p0, turn⟩
/-- a comprehension whose element is a function of the item -/
theorem go_lcL {j : Nat} (ws : List W) (ev : ∀ P : List W → HW → Prop, P ws h → (fun ti : TIW => ti ρ h P) (oItL te)) (hz : ws.length ≤ 16000000) (f : W → W) (el : ∀ (w : W) (h' : HW) (R' : KW), w ∈ ws → R' (f w) h' → tb (ρ.set j (some w)) h' R') (k : R (.lst (ws.map f)) h) : oLc (oItL te) j oYes tb ρ h R := by
  refine ev _ ⟨hz, fun p hp => ⟨fun i acc h' => acc = (ws.take i).map f ∧ h' = h, ⟨rfl, rfl⟩, ?_, ?_⟩⟩
  · rintro i w acc h' e n hl ⟨rfl, rfl⟩
    refine go_yes ?_
    rw [if_pos rfl]
    refine el w _ _ (List.mem_of_getElem? e) ⟨_, .refl _, hp, ?_, rfl⟩
    rw [List.take_add_one, e]; simp
  · rintro acc h' n ⟨rfl, rfl⟩
    rw [List.take_length]; exact k
/-- the same over anything that is walked -/
theorem go_lc {ti : TIW} {j : Nat} (ws : List W) (ev : ∀ P : List W → HW → Prop, P ws h → ti ρ h P) (hz : ws.length ≤ 16000000) (f : W → W) (el : ∀ (w : W) (h' : HW) (R' : KW), w ∈ ws → R' (f w) h' → tb (ρ.set j (some w)) h' R') (k : R (.lst (ws.map f)) h) : oLc ti j oYes tb ρ h R := by
  refine ev _ ⟨hz, fun p hp => ⟨fun i acc h' => acc = (ws.take i).map f ∧ h' = h, ⟨rfl, rfl⟩, ?_, ?_⟩⟩
  · rintro i w acc h' e n hl ⟨rfl, rfl⟩
    refine go_yes ?_
    rw [if_pos rfl]
    refine el w _ _ (List.mem_of_getElem? e) ⟨_, .refl _, hp, ?_, rfl⟩
    rw [List.take_add_one, e]; simp
  · rintro acc h' n ⟨rfl, rfl⟩
    rw [List.take_length]; exact k
/-- the same where the element is any value of a kind -/
theorem go_lcP {ti : TIW} {j : Nat} (ws : List W) (ev : ∀ P : List W → HW → Prop, P ws h → ti ρ h P) (hz : ws.length ≤ 16000000) (G : W → W → Prop) (el : ∀ (w : W) (h' : HW) (R' : KW), w ∈ ws → (∀ y, G w y → R' y h') → tb (ρ.set j (some w)) h' R') (k : ∀ ys, Paired G ws ys → R (.lst ys) h) : oLc ti j oYes tb ρ h R := by
  refine ev _ ⟨hz, fun p hp => ⟨fun i acc h' => Paired G (ws.take i) acc ∧ h' = h, ⟨.nil, rfl⟩, ?_, ?_⟩⟩
  · rintro i w acc h' e n hl ⟨pa, rfl⟩
    refine go_yes ?_
    rw [if_pos rfl]
    refine el w _ _ (List.mem_of_getElem? e) fun y hy => ⟨_, .refl _, hp, ?_, rfl⟩
    rw [List.take_add_one, e]
    have app : ∀ {l1 l2 : List W}, Paired G l1 l2 → Paired G (l1 ++ [w]) (l2 ++ [y]) := fun {l1 l2} pa => by
      induction pa with
      | nil => exact .cons hy .nil
      | cons r t ih => exact .cons r ih
    exact app pa
  · rintro acc h' n ⟨pa, rfl⟩
    rw [List.take_length] at pa; exact k acc pa
end
end Wl

set_option Elab.async false
set_option linter.all false
set_option maxRecDepth 100000
namespace Wl
open PySem PySem.Spec PyProof.Rows L2
theorem XR.mono {K : PySem.W.Frag} {H H' : Hp} {h h' : HW} {x : XW} {od : Option Addr} (r : XR K H h x od) (s : ST H h H' h') : XR K H' h' x od := by
  obtain ⟨C, fs⟩ := x
  cases fs with
  | none => exact r
  | some fs =>
    obtain ⟨d, gs, e, e2, n, q⟩ := r
    exact ⟨d, gs, e, (s d _ e2 n).1, (s d _ e2 n).2, q.mono s⟩
/-- within an except suite: what the exception brings -/
def Lk.x (K : PySem.W.Frag) (x : XW) (od : Option Addr) : Lk := ⟨fun H h => XR K H h x od, XR.mono⟩
section
variable {X : Cx} {K : PySem.W.Frag}
def isEW (K : PySem.W.Frag) (D a : Addr) : List W → HW → KW → Prop := fun ws h R => ∃ C b, ws = [.ref a, .ref C] ∧ PySem.W.kitOne K (.ref D) (.ref C) = some b ∧ R (.bl b) h
theorem lf_isE {D a : Addr} : LfC K (rIsE K D a) (isEW K D a) := fun xs H Q ws h R r hr ⟨C, b, e, e2, t⟩ k => by
  subst e
  obtain ⟨x, y, rfl, q1, q2⟩ := r.two
  cases q1; cases q2
  exact ⟨_, .ref C, b, rfl, fun u e => e, e2, k.go hr t (.bl _)⟩
abbrev EndsW.sx (D : EndsW) (i : Nat) : EndsW := ⟨fun ρ h => D.nx (ρ.set i none) h, D.rt, fun ρ h => D.bk (ρ.set i none) h, fun ρ h => D.ct (ρ.set i none) h⟩
/-- try: x = f(..) / f(..) except S as n: suite -/
def sTry (K : PySem.W.Frag) (S : Addr) (sp : SpW) (t : TAW) (j : Option Nat) (i : Nat) (tsu : Addr → Addr → TSW) : TSW := fun D ρ h => t ρ h fun ws h1 => sp ws h1 (fun w h2 => D.nx (match j with | some j => ρ.set j (some w) | none => ρ) h2)
  fun x h2 => x.fs = none ∧ ExcC K x.C ∧ PySem.W.exmOne K (.ref x.C) (.ref S) = some true ∧ ∀ a, tsu x.C a (D.sx i) (ρ.set i (some (.ref a))) h2
variable {x n fx : Str} {S f : Addr} {i k : Nat} {b₀ : Stmt} {suite : List Stmt} {np pos pos' epos p cpos : Pos} {fd : FuncData} {ps : List Str} {sp : SpW} {e : Expr} {es : List Expr} {t : TAW} {tsu : Addr → Addr → TSW}
theorem try_el {σ : L2.St} {H : Hp} {D : Ends} {ρ : SlW} {h : HW} {DW : EndsW} (S1 : Sta K Lk.no σ H ρ h) (kd : KD K H h DW D) {h1 : HW} {H1 : Hp} (s1 : ST H h H1 h1) :
    (Lk.of K (L2.WE (wAs K (.ref S) i (fun a cls d => fun D σ H => ∃ C : Addr, cls = .ref C ∧ d = none ∧ ExcC K C ∧ lS K Lk.no (tsu C a) D σ H) (fun _ _ _ _ => False) D) σ)
      fun x h2 => x.fs = none ∧ ExcC K x.C ∧ PySem.W.exmOne K (.ref x.C) (.ref S) = some true ∧ ∀ a, tsu x.C a (DW.sx i) (ρ.set i (some (.ref a))) h2).el H1 h1 := by
  intro x h2 od H2 ⟨e0, ec, e1, e2⟩ s2 r2 xr
  have eo : od = none := by unfold XR at xr; rw [e0] at xr; exact xr
  refine ⟨true, e1, fun _ a ha => ⟨x.C, rfl, eo, ec, ρ.set i (some (.ref a)), h2, DW.sx i, ⟨(S1.sr.mono (s1.trans s2)).set (.ref a) i, r2, trivial⟩, e2 a, ?_⟩, fun z => nomatch z⟩
  have st := s1.trans s2
  exact ⟨fun ρ' h' σ' H' q s r sr => kd.nx _ h' _ H' q (st.trans s) r (sr.setN i), kd.rt.mono st, fun ρ' h' σ' H' q s r sr => kd.bk _ h' _ H' q (st.trans s) r (sr.setN i), fun ρ' h' σ' H' q s r sr => kd.ct _ h' _ H' q (st.trans s) r (sr.setN i)⟩
theorem ws_tryD (hs : X.stack = X.env :: X.outer) (hf : X.env.frame = some X.env.locals) (hN : X.N.Nodup) (hi : X.N[i]? = some n) (hln : X.env.kindOf n = some .local) (hc : Names X x (.ref S))
    (F : FnOk X.prog X.w X.K X.mg X.base (L2.CX X.prog X.w) k f fd ps (lSp X.K sp)) (hr : Room k X.A) (hg : Gl X fx) (hm : X.mg fx = some (.ref f)) (hk : PySem.W.keepIn X.K (.ref f) = true) (hb : Binds X.K fd ps [])
    (ha : ∀ pn xe, WA (X.tr pn xe) Lk.no (e :: es) t)
    (hsu : ∀ (C a : Addr) (oe : Obj) (pn : List (Addr × Obj)), ExcC X.K C → Zc (.ref C) none oe → (∃ vs, oe.data = .fields vs) → WSs (X.suite a ((a, oe) :: pn)) Lk.no (b₀ :: suite) (tsu C a))
    (hdb : (fx == ("__debug__" : Str)) = false := by decide) (he : starEach (e :: es) X.env = (false, eval e X.env) :: starEach es X.env := by rfl) (hpl : (backTo cpos (starEach es X.env)).any (·.1) = false := by rfl)
    (hsw : swapsWith (.Call (.Name fx p) (e :: es) [] cpos) none epos.line X.env = pure false := by rfl) :
    WS X Lk.no (.Try [.Expr (.Call (.Name fx p) (e :: es) [] cpos) epos] [.ExceptHandler (some (.Name x np)) (some n) (b₀ :: suite) pos'] [] [] pos) (sTry X.K S sp t none i tsu) :=
  (ps_try_as (tb := fun W => tDrop (tCallS (lSp X.K sp) (L2.WE W) (lA X.K Lk.no t))) (ts := fun a cls d => fun D σ H => ∃ C : Addr, cls = .ref C ∧ d = none ∧ ExcC X.K C ∧ lS X.K Lk.no (tsu C a) D σ H) (Wout := fun _ _ _ _ => False) hs hf hN hi hln hc
    (fun _ _ z => by obtain ⟨_, _, _, _, _, _, _, _, _, _, _, _, _, _, _, _, z⟩ := z; exact z.elim)
    (fun W pn xe tk _ => pss_one (ps_expr (pe_callS (X := X.tr pn xe) F hr hg hm hk hb (fun σ => passAt tk σ) (ha pn xe) hdb he hpl) hsw))
    (fun a oe cls d pn hz hf => ⟨fun pins s σ H D I ⟨C, ec, ed, ex, q⟩ => by subst ec ed; exact (hsu C a oe pn ex hz hf).run pins s σ H D I q⟩)).imp fun D σ H ⟨ρ, h, DW, S1, t1, kd⟩ =>
    ⟨ρ, h, _, S1, t1, fun ws h1 vs H1 q s1 r1 rws => ⟨ws, h1, _, _, rws, r1, q, fun w h2 v H2 r st hr rw => kd.nx _ h2 _ H2 r (s1.trans st) hr (S1.sr.mono (s1.trans st)), try_el S1 kd s1⟩⟩
theorem ws_tryA {j : Nat} {y : Str} {yp : Pos} (hs : X.stack = X.env :: X.outer) (hf : X.env.frame = some X.env.locals) (hN : X.N.Nodup) (hi : X.N[i]? = some n) (hln : X.env.kindOf n = some .local) (hc : Names X x (.ref S))
    (hj : X.N[j]? = some y) (hy : X.env.scope.names.lookup y = some .local)
    (F : FnOk X.prog X.w X.K X.mg X.base (L2.CX X.prog X.w) k f fd ps (lSp X.K sp)) (hr : Room k X.A) (hg : Gl X fx) (hm : X.mg fx = some (.ref f)) (hk : PySem.W.keepIn X.K (.ref f) = true) (hb : Binds X.K fd ps [])
    (ha : ∀ pn xe, WA (X.tr pn xe) Lk.no (e :: es) t)
    (hsu : ∀ (C a : Addr) (oe : Obj) (pn : List (Addr × Obj)), ExcC X.K C → Zc (.ref C) none oe → (∃ vs, oe.data = .fields vs) → WSs (X.suite a ((a, oe) :: pn)) Lk.no (b₀ :: suite) (tsu C a))
    (hdb : (fx == ("__debug__" : Str)) = false := by decide) (he : starEach (e :: es) X.env = (false, eval e X.env) :: starEach es X.env := by rfl) (hpl : (backTo cpos (starEach es X.env)).any (·.1) = false := by rfl)
    (hsw : swapsWith (.Call (.Name fx p) (e :: es) [] cpos) (some (.Name y yp)) epos.line X.env = pure false := by rfl) :
    WS X Lk.no (.Try [.Assign [.Name y yp] (.Call (.Name fx p) (e :: es) [] cpos) epos] [.ExceptHandler (some (.Name x np)) (some n) (b₀ :: suite) pos'] [] [] pos) (sTry X.K S sp t (some j) i tsu) :=
  (ps_try_as (tb := fun W => tAsg (tCallS (lSp X.K sp) (L2.WE W) (lA X.K Lk.no t)) (gName j)) (ts := fun a cls d => fun D σ H => ∃ C : Addr, cls = .ref C ∧ d = none ∧ ExcC X.K C ∧ lS X.K Lk.no (tsu C a) D σ H) (Wout := fun _ _ _ _ => False) hs hf hN hi hln hc
    (fun _ _ z => by obtain ⟨_, _, _, _, _, _, _, _, _, _, _, _, _, _, _, _, z⟩ := z; exact z.elim)
    (fun W pn xe tk _ => pss_one (ps_set (X := X.tr pn xe) hN hj (.inl hy) (pe_callS (X := X.tr pn xe) F hr hg hm hk hb (fun σ => passAt tk σ) (ha pn xe) hdb he hpl) hsw (.inr hy)))
    (fun a oe cls d pn hz hf => ⟨fun pins s σ H D I ⟨C, ec, ed, ex, q⟩ => by subst ec ed; exact (hsu C a oe pn ex hz hf).run pins s σ H D I q⟩)).imp fun D σ H ⟨ρ, h, DW, S1, t1, kd⟩ =>
    ⟨ρ, h, _, S1, t1, fun ws h1 vs H1 q s1 r1 rws => ⟨ws, h1, _, _, rws, r1, q, fun w h2 v H2 r st hr rw => kd.nx _ h2 _ H2 r (s1.trans st) hr ((S1.sr.mono (s1.trans st)).set rw j), try_el S1 kd s1⟩⟩
end
section
variable {K : PySem.W.Frag} {S : Addr} {sp : SpW} {t : TAW} {tsu : Addr → Addr → TSW} {D : EndsW} {ρ : SlW} {h : HW} {i j : Nat}
theorem go_try0 (k : t ρ h fun ws h1 => sp ws h1 (fun w h2 => D.nx ρ h2) fun x h2 => x.fs = none ∧ ExcC K x.C ∧ PySem.W.exmOne K (.ref x.C) (.ref S) = some true ∧ ∀ a, tsu x.C a (D.sx i) (ρ.set i (some (.ref a))) h2) : sTry K S sp t none i tsu D ρ h := k
theorem go_try1 (k : t ρ h fun ws h1 => sp ws h1 (fun w h2 => D.nx (ρ.set j (some w)) h2) fun x h2 => x.fs = none ∧ ExcC K x.C ∧ PySem.W.exmOne K (.ref x.C) (.ref S) = some true ∧ ∀ a, tsu x.C a (D.sx i) (ρ.set i (some (.ref a))) h2) : sTry K S sp t (some j) i tsu D ρ h := k
theorem go_isE {C a A : Addr} {b : Bool} {R : KW} (e : PySem.W.kitOne K (.ref C) (.ref A) = some b) (k : R (.bl b) h) : isEW K C a [.ref a, .ref A] h R := ⟨A, b, rfl, e, k⟩
end
/-! ## small numbers -/
theorem l2 {i : Int} (h : i.natAbs ≤ 1000000000000000000) : i.natAbs.log2 < 1920 := by
  by_cases z : i.natAbs = 0
  · rw [z]; decide
  · rw [Nat.log2_lt z]
    exact Nat.lt_of_le_of_lt h (Nat.lt_of_lt_of_le (by decide : (1000000000000000000 : Nat) < 2 ^ 64) (Nat.pow_le_pow_right (by decide) (by decide)))
end Wl
namespace Wl
open PySem PySem.Spec PyProof.Rows L2
theorem decS_len {i : Int} (h : i.natAbs.log2 < 1920) : (decS i).length ≤ 1921 := by
  have := int_text_len_1921 h
  unfold decS
  rw [Array.length_toList]
  exact this
theorem decS_len' {i : Int} (h : i.natAbs ≤ 1000000000000000000) : (decS i).length ≤ 1921 := decS_len (l2 h)
theorem decS_nat (n : Nat) : decS (n : Int) = TL.numL n := TL.tl_num n
/-! ## comprehensions over what is not one list -/
section
variable {ti : TIW} {te tb : TEW} {tt : TTW} {j : Nat} {ρ : SlW} {h : HW} {R : KW}
def LcB (j : Nat) (tt : TTW) (te : TEW) (ρ : SlW) (R : KW) (ws : List W) (h1 : HW) : Prop := ws.length ≤ 16000000 ∧ ∀ p, h1 p = none → ∃ Pv : Nat → List W → HW → Prop, Pv 0 [] h1 ∧
  (∀ i w acc h', ws[i]? = some w → h' p = none → acc.length ≤ i → Pv i acc h' → tt (ρ.set j (some w)) (updW h' p (.lst acc)) fun b h3 => if b = true then te (ρ.set j (some w)) h3 fun y h4 => ∃ h5, Sub (updW h5 p (.lst acc)) h4 ∧ h5 p = none ∧ Pv (i + 1) (acc ++ [y]) h5
    else ∃ h5, Sub (updW h5 p (.lst acc)) h3 ∧ h5 p = none ∧ Pv (i + 1) acc h5) ∧ ∀ acc h', h' p = none → Pv ws.length acc h' → R (.lst acc) h'
theorem go_lcS (k : ti ρ h (LcB j tt te ρ R)) : oLc ti j tt te ρ h R := k
theorem go_itL {P : List W → HW → Prop} (k : te ρ h fun x h1 => match x with | .lst ws => P ws h1 | .scr ws => P ws h1 | _ => False) : oItL te ρ h P := k
theorem lcB_P {ws : List W} (G : W → W → Prop) (hz : ws.length ≤ 16000000) (el : ∀ (w : W) (h' : HW) (R' : KW), w ∈ ws → (∀ y, G w y → R' y h') → tb (ρ.set j (some w)) h' R') (k : ∀ ys, Paired G ws ys → R (.lst ys) h) : LcB j oYes tb ρ R ws h :=
  go_lcP (ti := fun _ h P => P ws h) ws (fun _ q => q) hz G el k
end
/-! ## the head -/
theorem hspW {sp : SpW} {n : Nat} (hsp : ∀ (h : HW) (ns : List Int), ns.length ≤ n → sp [.scr (ns.map W.int)] h (fun w _ => w = .bl true) noX) (K : PySem.W.Frag) (H : Hp) (a : Addr) (ns : List Int) (hl : ns.length ≤ n) (ho : Only H) (hS : SqL K H a (ns.map V.int)) :
    lSp K sp [.ref a] H (fun v _ => v = .bl true) fun _ _ _ => False := by
  have rIs : ∀ ns : List Int, RWs K H (fun _ => none) (ns.map V.int) (ns.map W.int) := fun ns => by
    induction ns with
    | nil => exact .nil
    | cons n ns ih => exact .cons (.int n) ih
  have f : FzS K H (fun _ => none) a (ns.map V.int) := by
    rcases hS with (e | e) | e
    · rcases ho a with z | ⟨o, xs, z⟩ <;> rw [e] at z <;> cases z
    · exact .inl ⟨e, rfl⟩
    · exact .inr e
  exact ⟨_, fun _ => none, _, noX, .cons (.scr f (rIs ns)) .nil, (fun _ _ z => nomatch z), hsp _ ns hl, fun w h' v H' e _ _ r => by subst e; cases r; rfl, fun _ _ _ _ z => z.elim⟩
/-! ## constants of the written part -/
inductive Sks (K : PySem.W.Frag) : List Value → List W → Prop
  | nil : Sks K [] []
  | cons {u : Value} {w : W} {us : List Value} {ws : List W} (s : Sk K u w) (t : Sks K us ws) : Sks K (u :: us) (w :: ws)
theorem Sks.is {K : PySem.W.Frag} {us : List Value} {ws : List W} (s : Sks K us ws) : ∃ vs, Vals vs us ∧ ∀ H h, RWs K H h vs ws := by
  induction s with
  | nil => exact ⟨[], .nil, fun _ _ => .nil⟩
  | cons s _ ih =>
    obtain ⟨v, a, b⟩ := s.is
    obtain ⟨vs, c, d⟩ := ih
    exact ⟨v :: vs, .cons a c, fun H h => .cons (b H h) (d H h)⟩
theorem Sk.int {K : PySem.W.Frag} (i : Int) (t : Tok) : Sk K (.int i t) (.int i) := ⟨.int i, ⟨t, rfl⟩, fun _ _ => .int i⟩
theorem Sk.str {K : PySem.W.Frag} (s : List Nat) (t : Tok) : Sk K (.str (mkS s) t) (.str s) := ⟨.str (mkS s), ⟨t, rfl⟩, fun _ _ => .str s⟩
theorem Sk.bl {K : PySem.W.Frag} (b : Bool) : Sk K (.bool b) (.bl b) := ⟨.bl b, rfl, fun _ _ => .bl b⟩
theorem Sk.ref {K : PySem.W.Frag} (a : Addr) : Sk K (.ref a) (.ref a) := ⟨.ref a, rfl, fun _ _ => .ref a⟩
theorem Sk.tup {K : PySem.W.Frag} {a : Addr} {d : Option Addr} {its : Array Value} {n : Nat} {sl : Array (Option Value)} {ws : List W} (lk : K.lookup a = some ⟨.type "tuple", d, .seq its n, sl⟩) (hs : its.size ≤ sizeLine) (s : Sks K its.toList ws) : Sk K (.ref a) (.tup ws) := by
  obtain ⟨vs, c, r⟩ := s.is
  exact ⟨.ref a, rfl, fun H h => .tup (.inr ⟨_, its, n, lk, rfl, rfl, hs, c⟩) (r H h)⟩
/-! ## classes -/
section
variable {K : PySem.W.Frag} {C S : Addr} {r : Bool} {cd : ClassData}
theorem kitCls_of (t : PySem.W.typeIn K (.ref S) = some (.type "type")) (c : (PySem.W.clsIn K S).isSome = true) (s : PySem.W.subIn K (.ref C) (.ref S) = some r) : PySem.W.kitCls K (.ref C) (.ref S) = some r := by
  unfold PySem.W.kitCls
  dsimp only
  rw [c, t, Bool.true_and, beq_self_eq_true, if_pos rfl]
  exact s
theorem exm_of (b : PySem.W.subIn K (.ref S) (.type "BaseException") = some true) (t : PySem.W.typeIn K (.ref S) = some (.type "type")) (c : (PySem.W.clsIn K S).isSome = true) (s : PySem.W.subIn K (.ref C) (.ref S) = some r) : PySem.W.exmOne K (.ref C) (.ref S) = some r := by
  unfold PySem.W.exmOne
  rw [b, beq_self_eq_true, if_pos rfl]
  exact kitCls_of t c s
theorem kit_me : PySem.W.kitOne K (.ref C) (.ref C) = some true := if_pos (beq_self_eq_true _)
theorem kit_of (n : (Value.ref C == Value.ref S) = false) (t : PySem.W.typeIn K (.ref S) = some (.type "type")) (c : (PySem.W.clsIn K S).isSome = true) (s : PySem.W.subIn K (.ref C) (.ref S) = some r) : PySem.W.kitOne K (.ref C) (.ref S) = some r := by
  unfold PySem.W.kitOne
  rw [n, if_neg Bool.false_ne_true]
  exact kitCls_of t c s
theorem some_is {α : Type} {x : Option α} {a : α} (h : x = some a) : x.isSome = true := by rw [h]; rfl
end
end Wl

set_option Elab.async false
set_option linter.all false
set_option maxRecDepth 100000
namespace Wl
open PySem PySem.Spec PyProof.Rows L2
/-! ## dicts with ints and texts as keys -/
def wKey : L2.Key → W
  | .inl i => .int i
  | .inr x => .str x.cps.toList
/-- the pairs of a dict: owned or not -/
def dW (x : W) (h : HW) : Option (List (L2.Key × W)) := match x with
  | .dic kws => some kws
  | .ref p => (match h p with | some (.dic kws) => some kws | _ => none)
  | _ => none
def valW {α : Type} (kws : List (L2.Key × α)) (k : L2.Key) : Option α := (kws.find? fun kv => decide (kv.1 = k)).map (·.2)
def putW {α : Type} (kws : List (L2.Key × α)) (k : L2.Key) (w : α) : List (L2.Key × α) :=
  if (kws.any fun kv => decide (kv.1 = k)) = true then kws.map (fun kv => if kv.1 = k then (kv.1, w) else kv) else kws ++ [(k, w)]
section
variable {K : PySem.W.Frag} {H : Hp} {h : HW}
theorem RKs.val {k : L2.Key} : ∀ {kvs : List (L2.Key × V)} {kws : List (L2.Key × W)}, RKs K H h kvs kws → (valV kvs k = none ∧ valW kws k = none) ∨ ∃ v w, valV kvs k = some v ∧ valW kws k = some w ∧ RW K H h v w
  | _, _, .nil => .inl ⟨rfl, rfl⟩
  | _, _, @RKs.cons _ _ _ k' v w vs ws r t => by
    by_cases e : k' = k
    · exact .inr ⟨v, w, by simp [valV, List.find?_cons, e], by simp [valW, List.find?_cons, e], r⟩
    · rcases t.val (k := k) with ⟨a, b⟩ | ⟨v', w', a, b, c⟩
      · exact .inl ⟨by simpa [valV, List.find?_cons, e] using a, by simpa [valW, List.find?_cons, e] using b⟩
      · exact .inr ⟨v', w', by simpa [valV, List.find?_cons, e] using a, by simpa [valW, List.find?_cons, e] using b, c⟩
theorem RKs.length : ∀ {kvs : List (L2.Key × V)} {kws : List (L2.Key × W)}, RKs K H h kvs kws → kvs.length = kws.length
  | _, _, .nil => rfl
  | _, _, .cons _ t => congrArg (· + 1) t.length
theorem RKs.any {k : L2.Key} : ∀ {kvs : List (L2.Key × V)} {kws : List (L2.Key × W)}, RKs K H h kvs kws → (kvs.any fun kv => decide (kv.1 = k)) = kws.any fun kv => decide (kv.1 = k)
  | _, _, .nil => rfl
  | _, _, .cons _ t => by simp [t.any]
theorem RKs.putMap {k : L2.Key} {v : V} {w : W} (r : RW K H h v w) : ∀ {kvs : List (L2.Key × V)} {kws : List (L2.Key × W)}, RKs K H h kvs kws → RKs K H h (kvs.map fun kv => if kv.1 = k then (kv.1, v) else kv) (kws.map fun kv => if kv.1 = k then (kv.1, w) else kv)
  | _, _, .nil => .nil
  | _, _, @RKs.cons _ _ _ k' v' w' vs ws q t => by
    simp only [List.map_cons]
    by_cases e : k' = k
    · rw [if_pos e, if_pos e]; exact .cons r (t.putMap r)
    · rw [if_neg e, if_neg e]; exact .cons q (t.putMap r)
theorem RKs.snoc {k : L2.Key} {v : V} {w : W} (r : RW K H h v w) : ∀ {kvs : List (L2.Key × V)} {kws : List (L2.Key × W)}, RKs K H h kvs kws → RKs K H h (kvs ++ [(k, v)]) (kws ++ [(k, w)])
  | _, _, .nil => .cons r .nil
  | _, _, .cons q t => .cons q (t.snoc r)
theorem RKs.put {k : L2.Key} {v : V} {w : W} (r : RW K H h v w) {kvs : List (L2.Key × V)} {kws : List (L2.Key × W)} (t : RKs K H h kvs kws) : RKs K H h (putK kvs k v) (putW kws k w) := by
  unfold putK putW
  rw [t.any (k := k)]
  split
  · exact t.putMap r
  · exact t.snoc r
theorem RKs.keys : ∀ {kvs : List (L2.Key × V)} {kws : List (L2.Key × W)}, RKs K H h kvs kws → RWs K H h (kvs.map fun kv => kV kv.1) (kws.map fun kv => wKey kv.1)
  | _, _, .nil => .nil
  | _, _, @RKs.cons _ _ _ k v w vs ws _ t => by
    refine .cons ?_ t.keys
    cases k with
    | inl i => exact .int i
    | inr x =>
      have e : x = mkS x.cps.toList := by cases x; rfl
      show RW K H h (.str x) (.str x.cps.toList)
      conv => lhs; rw [e]
      exact .str _
theorem dic_at {v : V} {x : W} {kws : List (L2.Key × W)} (hr : HR K H h) (r : RW K H h v x) (e : dW x h = some kws) : ∃ a kvs, v = .ref a ∧ H a = some (.dK kvs) ∧ RKs K H h kvs kws := by
  unfold dW at e
  split at e
  · cases e
    cases r with
    | dic f q => exact ⟨_, _, rfl, f.1, q⟩
  · split at e
    · rename_i hp
      cases e
      cases r
      obtain ⟨kvs, a, b⟩ := hr _ _ hp
      exact ⟨_, _, rfl, a, b⟩
    · cases e
  · cases e
theorem key_at {v : V} {x : W} {k : L2.Key} (r : RW K H h v x) (e : keyW x = some k) : v = kV k := by
  unfold keyW at e
  split at e
  · cases e; cases r; rfl
  · cases e; cases r; rfl
  · cases e
theorem KV.dic {R : KW} {Q : VK} (k : KV K H h R Q) (hr : HR K H h) {kvs : List (L2.Key × V)} {kws : List (L2.Key × W)} (r : RKs K H h kvs kws) (t : R (.dic kws) h) {p : Addr} (e : H p = none) : Q (.ref p) (upd H p (.dK kvs)) :=
  k _ h _ _ t (.newF e _) (hr.newF e _) (.dic ⟨upd_same, hr.fresh e⟩ (r.mono (.newF e _)))
theorem KV.dicO {R : KW} {Q : VK} (k : KV K H h R Q) (hr : HR K H h) {kvs : List (L2.Key × V)} {kws : List (L2.Key × W)} (r : RKs K H h kvs kws) (t : ∀ p, h p = none → R (.ref p) (updW h p (.dic kws))) {p : Addr} (e : H p = none) : Q (.ref p) (upd H p (.dK kvs)) :=
  k _ _ _ _ (t p (hr.fresh e)) (.newO e _ _) (hr.newO e ⟨kvs, upd_same, r.mono (.newO e _ _)⟩) (.ref p)
end
section
variable {X : Cx} {L : Lk} {a b c : Expr} {pos : Pos} {ta tb tc : TEW}
/-- {}: one that stays, one that is owned -/
def oD0 : TEW := fun _ h R => R (.dic []) h
def oD0O : TEW := fun _ h R => ∀ p, h p = none → R (.ref p) (updW h p (.dic []))
theorem w_d0 : WE X L (.Dict [] [] pos) oD0 := pe_dnewK.imp fun σ H Q ⟨ρ, h, R, S, t, k⟩ p hp => k.dic S.hr .nil t hp
theorem w_d0O : WE X L (.Dict [] [] pos) oD0O := pe_dnewK.imp fun σ H Q ⟨ρ, h, R, S, t, k⟩ p hp => k.dicO S.hr .nil t hp
/-- dict(d) -/
def dictW : List W → HW → KW → Prop := fun ws h R => match ws with | [x] => (match dW x h with | some kws => R (.dic kws) h | none => False) | _ => False
def dictOW : List W → HW → KW → Prop := fun ws h R => match ws with | [x] => (match dW x h with | some kws => ∀ p, h p = none → R (.ref p) (updW h p (.dic kws)) | none => False) | _ => False
abbrev rDict : List V → Hp → VK → Prop := fun xs H Q => ∃ (a : Addr) (kvs : List (Key × V)), xs = [.ref a] ∧ Rd H a (.dK kvs) ∧ ∀ p, H p = none → Q (.ref p) (upd H p (.dK kvs))
theorem lf_dict {K : PySem.W.Frag} : LfC K rDict dictW := fun xs H Q ws h R r hr t k => by
  unfold dictW at t
  split at t
  · split at t
    · rename_i e
      obtain ⟨x, rfl, q⟩ := r.one
      obtain ⟨a, kvs, rfl, ha, rk⟩ := dic_at hr q e
      exact ⟨a, kvs, rfl, .inl ha, fun p hp => k.dic hr rk t hp⟩
    · exact t.elim
  · exact t.elim
theorem lf_dictO {K : PySem.W.Frag} : LfC K rDict dictOW := fun xs H Q ws h R r hr t k => by
  unfold dictOW at t
  split at t
  · split at t
    · rename_i e
      obtain ⟨x, rfl, q⟩ := r.one
      obtain ⟨a, kvs, rfl, ha, rk⟩ := dic_at hr q e
      exact ⟨a, kvs, rfl, .inl ha, fun p hp => k.dicO hr rk t hp⟩
    · exact t.elim
  · exact t.elim
/-- list(d) -/
def listDW : List W → HW → KW → Prop := fun ws h R => match ws with | [x] => (match dW x h with | some kws => R (.lst (kws.map fun kv => wKey kv.1)) h | none => False) | _ => False
theorem lf_listD {K : PySem.W.Frag} : LfC K rListD listDW := fun xs H Q ws h R r hr t k => by
  unfold listDW at t
  split at t
  · split at t
    · rename_i e
      obtain ⟨x, rfl, q⟩ := r.one
      obtain ⟨a, kvs, rfl, ha, rk⟩ := dic_at hr q e
      exact ⟨a, kvs, rfl, ha, fun p hp => k.lst hr rk.keys t hp⟩
    · exact t.elim
  · exact t.elim
/-- len(d) -/
def lenDW : List W → HW → KW → Prop := fun ws h R => match ws with | [x] => (match dW x h with | some kws => R (.int kws.length) h | none => False) | _ => False
theorem lf_lenD {K : PySem.W.Frag} : LfC K (fun xs H Q => ∃ a kvs, xs = [V.ref a] ∧ H a = some (.dK kvs) ∧ Q (.int kvs.length) H) lenDW := fun xs H Q ws h R r hr t k => by
  unfold lenDW at t
  split at t
  · split at t
    · rename_i e
      obtain ⟨x, rfl, q⟩ := r.one
      obtain ⟨a, kvs, rfl, ha, rk⟩ := dic_at hr q e
      refine ⟨a, kvs, rfl, ha, ?_⟩
      rw [rk.length]
      exact k.go hr t (.int _)
    · exact t.elim
  · exact t.elim
/-- k in d -/
def dgW (x y : W) (h : HW) : Option (Option W) := match dW x h, keyW y with | some kws, some k => some (valW kws k) | _, _ => none
theorem dg_at {K : PySem.W.Frag} {H : Hp} {h : HW} {v u : V} {x y : W} {o : Option W} (hr : HR K H h) (rx : RW K H h v x) (ry : RW K H h u y) (e : dgW x y h = some o) :
    ∃ a ov, v = .ref a ∧ DGet H a u ov ∧ IsD H a ∧ ((ov = none ∧ o = none) ∨ ∃ v1 w1, ov = some v1 ∧ o = some w1 ∧ RW K H h v1 w1) := by
  unfold dgW at e
  split at e
  · rename_i e1 e2
    cases e
    obtain ⟨a, kvs, rfl, ha, rk⟩ := dic_at hr rx e1
    cases key_at ry e2
    exact ⟨a, _, rfl, .k ha, .inl ⟨_, .inl ha⟩, rk.val⟩
  · cases e
def dinW : W → W → HW → KW → Prop := fun y x h R => match dgW x y h with | some o => R (.bl o.isSome) h | none => False
def dnotinW : W → W → HW → KW → Prop := fun y x h R => match dgW x y h with | some o => R (.bl (!o.isSome)) h | none => False
theorem din_imp {K : PySem.W.Frag} : ∀ σ H Q, lE K L (oOp dinW ta tb) σ H Q → tDIn (lE K L ta) (lE K L tb) σ H Q := fun σ H Q ⟨ρ, h, R, S, t, k⟩ =>
  ⟨ρ, h, _, S, t, fun w1 h1 v1 H1 t1 s1 r1 q1 => ⟨ρ, h1, _, S.to s1 r1, t1, fun w2 h2 v2 H2 t2 s2 r2 q2 => by
    unfold dinW at t2
    split at t2
    · rename_i o e
      obtain ⟨a, ov, rfl, g, _, z⟩ := dg_at r2 q2 (q1.mono s2) e
      refine ⟨a, ov, rfl, g, ?_⟩
      rcases z with ⟨rfl, rfl⟩ | ⟨_, _, rfl, rfl, _⟩ <;> exact k _ h2 _ H2 t2 (s1.trans s2) r2 (.bl _)
    · exact t2.elim⟩⟩
theorem dnotin_imp {K : PySem.W.Frag} : ∀ σ H Q, lE K L (oOp dnotinW ta tb) σ H Q → tDNotIn (lE K L ta) (lE K L tb) σ H Q := fun σ H Q ⟨ρ, h, R, S, t, k⟩ =>
  ⟨ρ, h, _, S, t, fun w1 h1 v1 H1 t1 s1 r1 q1 => ⟨ρ, h1, _, S.to s1 r1, t1, fun w2 h2 v2 H2 t2 s2 r2 q2 => by
    unfold dnotinW at t2
    split at t2
    · rename_i o e
      obtain ⟨a, ov, rfl, g, _, z⟩ := dg_at r2 q2 (q1.mono s2) e
      refine ⟨a, ov, rfl, g, ?_⟩
      rcases z with ⟨rfl, rfl⟩ | ⟨_, _, rfl, rfl, _⟩ <;> exact k _ h2 _ H2 t2 (s1.trans s2) r2 (.bl _)
    · exact t2.elim⟩⟩
theorem w_din (hu : X.A.units + 1 < cLine) (ha : WE X L a ta) (hb : WE X L b tb) (hm : behindInMarks .In b = false := by rfl) : WE X L (.Compare a [.In] [b] pos) (oOp dinW ta tb) := (pe_cmp (pc_din hu ha hb) hm).imp din_imp
theorem w_dnotin (hu : X.A.units + 1 < cLine) (ha : WE X L a ta) (hb : WE X L b tb) (hm : behindInMarks .NotIn b = false := by rfl) : WE X L (.Compare a [.NotIn] [b] pos) (oOp dnotinW ta tb) := (pe_cmp (pc_dnotin hu ha hb) hm).imp dnotin_imp
theorem wt_din (hu : X.A.units + 1 < cLine) (ha : WE X L a ta) (hb : WE X L b tb) (hm : behindInMarks .In b = false := by rfl) : WT X L (.Compare a [.In] [b] pos) (oTest (oOp dinW ta tb)) := (pt_cmp (pc_din hu ha hb) hm).imp (test_imp din_imp)
theorem wt_dnotin (hu : X.A.units + 1 < cLine) (ha : WE X L a ta) (hb : WE X L b tb) (hm : behindInMarks .NotIn b = false := by rfl) : WT X L (.Compare a [.NotIn] [b] pos) (oTest (oOp dnotinW ta tb)) := (pt_cmp (pc_dnotin hu ha hb) hm).imp (test_imp dnotin_imp)
/-- d[k] -/
def dgetW : W → W → HW → KW → Prop := fun x y h R => match dgW x y h with | some (some w) => R w h | _ => False
theorem w_dget (hu : X.A.units + 1 < cLine) (ha : WE X L a ta) (hb : WE X L b tb) (hs : NoSl b := by exact fun _ _ => rfl) : WE X L (.Subscript a b pos) (oOp dgetW ta tb) := (pe_dget hu ha hb hs).imp fun σ H Q ⟨ρ, h, R, S, t, k⟩ =>
  ⟨ρ, h, _, S, t, fun w1 h1 v1 H1 t1 s1 r1 q1 => ⟨ρ, h1, _, S.to s1 r1, t1, fun w2 h2 v2 H2 t2 s2 r2 q2 => by
    unfold dgetW at t2
    split at t2
    · rename_i w e
      obtain ⟨a, ov, rfl, g, _, z⟩ := dg_at r2 (q1.mono s2) q2 e
      rcases z with ⟨_, z⟩ | ⟨v3, w3, rfl, e3, r3⟩
      · cases z
      · cases e3; exact ⟨a, v3, rfl, g, k _ h2 _ H2 t2 (s1.trans s2) r2 r3⟩
    · exact t2.elim⟩⟩
/-- d[k] = v -/
def dputK (x : W) (k : Option L2.Key) (v : W) (P : HW → Prop) (h3 : HW) : Prop := match x, k with
  | .ref p, some k => (match h3 p with | some (.dic kws) => kws.length ≤ 16000000 ∧ P (updW h3 p (.dic (putW kws k v))) | _ => False)
  | _, _ => False
def sDput (tv td ty : TEW) : TSW := fun D ρ h => tv ρ h fun v h1 => td ρ h1 fun x h2 => ty ρ h2 fun y h3 => dputK x (keyW y) v (D.nx ρ) h3
theorem ws_dput {pos' : Pos} (hu : X.A.units + 1 < cLine) (ho : WE X L a ta) (hi : WE X L b tb) (hv : WE X L c tc) (hs : swapsWith c (some (.Subscript a b pos')) pos.line X.env = pure false := by rfl) :
    WS X L (.Assign [.Subscript a b pos'] c pos) (sDput tc ta tb) := (ps_dput hu ho hi hv hs).imp fun D σ H ⟨ρ, h, DW, S, t, k⟩ =>
  ⟨ρ, h, _, S, t, fun w1 h1 v1 H1 t1 s1 r1 q1 => ⟨ρ, h1, _, S.to s1 r1, t1, fun w2 h2 v2 H2 t2 s2 r2 q2 => ⟨ρ, h2, _, S.to (s1.trans s2) r2, t2, fun w3 h3 v3 H3 t3 s3 r3 q3 => by
    unfold dputK at t3
    split at t3
    · rename_i p k' e
      split at t3
      · rename_i kws hp
        cases q2
        obtain ⟨kvs, hk, rk⟩ := r3 _ _ hp
        cases key_at q3 e
        have st : ST H3 h3 (upd H3 p (.dK (putK kvs k' v1))) (updW h3 p (.dic (putW kws k' w1))) := .mut hp _ _
        refine ⟨p, _, rfl, .inl ⟨kvs, k', hk, rfl, by rw [rk.length]; exact sz_lt t3.1, rfl⟩, k.nx ρ _ _ _ t3.2 (((s1.trans s2).trans s3).trans st) ?_ ((S.sr.mono ((s1.trans s2).trans s3)).mono st)⟩
        exact r3.mut hp ⟨_, upd_same, (rk.mono st).put (((q1.mono s2).mono s3).mono st)⟩
      · exact t3.elim
    · exact t3.elim⟩⟩⟩
end
/-! ## is it empty? -/
def truW (x : W) (h : HW) : Option Bool := match x with
  | .non => some false
  | .bl b => some b
  | .int i => some (i != 0)
  | .tup ws => some (!ws.isEmpty)
  | .lst ws => some (!ws.isEmpty)
  | .scr ws => some (!ws.isEmpty)
  | .dic kws => some (!kws.isEmpty)
  | .ref p => (match h p with | some (.lst ws) => some (!ws.isEmpty) | some (.dic kws) => some (!kws.isEmpty) | _ => none)
  | _ => none
section
variable {X : Cx} {L : Lk} {e : Expr} {te : TEW}
def truK (o : Option Bool) (R : Bool → HW → Prop) (h1 : HW) : Prop := match o with | some b => R b h1 | none => False
def oTruth (te : TEW) : TTW := fun ρ h R => te ρ h fun x h1 => truK (truW x h1) R h1
theorem emp_of {K : PySem.W.Frag} {H : Hp} {h : HW} {vs : List V} {ws : List W} (r : RWs K H h vs ws) : (!ws.isEmpty) = !vs.isEmpty := by cases r <;> rfl
theorem empK_of {K : PySem.W.Frag} {H : Hp} {h : HW} {vs : List (L2.Key × V)} {ws : List (L2.Key × W)} (r : RKs K H h vs ws) : (!ws.isEmpty) = !vs.isEmpty := by cases r <;> rfl
theorem wt_truth (ha : WE X L e te) (he : ∀ whole, isTrue e X.env whole = (do let v ← whole; standAt e.pos; holding [v] (truthy v)) := by intro _; rfl) : WT X L e (oTruth te) := (pt_truth ha he).imp fun σ H Q ⟨ρ, h, R, S, t, k⟩ =>
  ⟨ρ, h, _, S, t, fun w1 h1 v1 H1 t1 s1 r1 q1 => by
    unfold truK at t1
    split at t1
    · rename_i b eb
      refine ⟨b, ?_, k b h1 H1 t1 s1 r1⟩
      unfold truW at eb
      split at eb
      · cases eb; cases q1; rfl
      · cases eb; cases q1; rfl
      · cases eb; cases q1; rfl
      · cases eb; cases q1 with | tup f r => exact .inr (.inl ⟨_, f.sq, emp_of r⟩)
      · cases eb; cases q1 with | lst f r => exact .inl ⟨_, f.sq, emp_of r⟩
      · cases eb; cases q1 with | scr f r => exact .inl ⟨_, f.sq, emp_of r⟩
      · cases eb; cases q1 with | dic f r => exact .inr (.inr ⟨_, f.1, empK_of r⟩)
      · split at eb
        · rename_i hp
          cases eb; cases q1
          obtain ⟨vs, a, r⟩ := r1 _ _ hp
          exact .inl ⟨_, .inl (.inl a), emp_of r⟩
        · rename_i hp
          cases eb; cases q1
          obtain ⟨vs, a, r⟩ := r1 _ _ hp
          exact .inr (.inr ⟨_, a, empK_of r⟩)
        · cases eb
      · cases eb
    · exact t1.elim⟩
end
end Wl

set_option Elab.async false
set_option linter.all false
set_option maxRecDepth 100000
namespace L2
open PySem PySem.Spec PyProof.Rows
/-- d.get(k, x), d a written dict with texts as keys -/
def tKGet2 (K : PySem.W.Frag) (w : World) (td ty tx : TE) : TE := fun σ H Q => td σ H fun x H1 => ∃ (p : Addr) (es : Array DictEntry) (n : Nat), x = .ref p ∧ K.lookup p = some ⟨.type "dict", none, .dict es n, #[]⟩ ∧ PySem.W.KeysLit w.params es.toList ∧ (p == sysModules) = false ∧
  ty σ H1 fun y H2 => tx σ H2 fun z H3 => ∃ (s : Str) (ou : Option Value), y = .str s ∧ PySem.W.nsIn K p s = some ou ∧ (∀ u, ou = some u → ∃ v, RelV v u ∧ Q v H3) ∧ (ou = none → Q z H3)
section
variable {X : Cx} {o e f : Expr} {apos cpos : Pos} {td ty tx : TE}
theorem pe_kget2 (ho : PE X o td) (he : PE X e ty) (hf : PE X f tx) (m : M2 X o "get" apos e f cpos) : PE X (.Call (.Attribute o "get" apos) [e, f] [] cpos) (tKGet2 X.K X.w td ty tx) := by
  refine ⟨fun pins s σ H Q I h => ?_⟩
  refine wpAny_Call_method m.base m.few m.line PySem.F.plainAttrs_dict PySem.F.slot_dict_get PySem.F.type_dict_get (thn (ho.run pins s σ H _ I h) fun u s1 ⟨x, H1, I1, rx, p, es, n, ex, hl, hk, low, q1⟩ => ?_)
  subst ex
  obtain rfl : u = Value.ref p := rx
  have hm1 := PySem.W.mapOf_K (prog := X.prog) (w := X.w) I1.kIn hl hk
  refine ⟨hm1.typeIs, fun b q => by cases q; exact ⟨_, I1.kIn _ _ hl, rfl⟩, ?_⟩
  rw [m.trees]
  refine Calls.callWith_builtin rfl (Calls.evalArgs_plain (Calls.spliced_cons (thn (he.run pins s1 σ H1 _ I1 q1) fun iv s2 ⟨y, H2, I2, ry, q2⟩ =>
    Calls.spliced_cons (thn (hf.run pins s2 σ H2 _ I2 q2) fun fv s3 ⟨z, H3, I3, rz, st, ou, ey, en, qs, qn⟩ => Calls.spliced_nil ?_))))
  subst ey
  obtain ⟨t, rfl⟩ := (show ∃ t, iv = Value.str st t from ry)
  have hm := PySem.W.mapOf_K (prog := X.prog) (w := X.w) I3.kIn hl hk
  have hf' := PySem.W.find_K hl en
  refine call_meetsIn PySem.F.slot_dict_get hm.typeIs PySem.F.entry_dict_get (PySem.F.args_dict_get_3 _ _ _) (meets_dict_get_default (strKind X.prog X.w) p (strKind_is X.prog X.w st t) low fv) ⟨_, hm, ?_⟩
  show EP X pins σ Q _ _
  rw [hf']
  cases ou with
  | some u =>
    obtain ⟨v, rv, q⟩ := qs u rfl
    exact ⟨v, H3, I3.tok _, rv, q⟩
  | none => exact ⟨z, H3, I3.tok _, rz, qn rfl⟩
end
end L2
namespace Wl
open PySem PySem.Spec PyProof.Rows L2
/-! ## written dicts -/
inductive KYes (K : PySem.W.Frag) (p : Addr) : List (List Nat × W) → Prop
  | nil : KYes K p []
  | cons {s : List Nat} {w : W} {u : Value} {r : List (List Nat × W)} (n : PySem.W.nsIn K p (mkS s) = some (some u)) (q : Sk K u w) (t : KYes K p r) : KYes K p ((s, w) :: r)
inductive KNo (K : PySem.W.Frag) (p : Addr) : List (List Nat) → Prop
  | nil : KNo K p []
  | cons {s : List Nat} {r : List (List Nat)} (n : PySem.W.nsIn K p (mkS s) = some none) (t : KNo K p r) : KNo K p (s :: r)
structure KTab (w : World) (K : PySem.W.Frag) (p : Addr) (tbl : List (List Nat × W)) (no : List (List Nat)) : Prop where
  ex : ∃ es n, K.lookup p = some ⟨.type "dict", none, .dict es n, #[]⟩ ∧ PySem.W.KeysLit w.params es.toList
  low : (p == sysModules) = false
  yes : KYes K p tbl
  no : KNo K p no
def tabW : List (List Nat × W) → List Nat → Option W
  | [], _ => none
  | (s, w) :: r, t => if s = t then some w else tabW r t
theorem KYes.at {K : PySem.W.Frag} {p : Addr} {tbl : List (List Nat × W)} {s : List Nat} {w : W} (y : KYes K p tbl) (e : tabW tbl s = some w) : ∃ u, PySem.W.nsIn K p (mkS s) = some (some u) ∧ Sk K u w := by
  induction y with
  | nil => cases e
  | cons n q t ih =>
    unfold tabW at e
    split at e
    · rename_i es
      cases e; subst es; exact ⟨_, n, q⟩
    · exact ih e
theorem KNo.at {K : PySem.W.Frag} {p : Addr} {no : List (List Nat)} {s : List Nat} (y : KNo K p no) (e : s ∈ no) : PySem.W.nsIn K p (mkS s) = some none := by
  induction y with
  | nil => cases e
  | cons n t ih =>
    rcases List.mem_cons.mp e with rfl | e
    · exact n
    · exact ih e
section
variable {X : Cx} {L : Lk} {a b c : Expr} {pos apos : Pos} {ta tb tc : TEW} {p : Addr} {tbl : List (List Nat × W)} {no : List (List Nat)}
def kgetW (p : Addr) (tbl : List (List Nat × W)) : RW2 := fun x y h R => x = .ref p ∧ match y with | .str s => (match tabW tbl s with | some w => R w h | none => False) | _ => False
theorem lf_kget {w : World} {K : PySem.W.Frag} (T : KTab w K p tbl no) : Lf2 K (rIxD K w) (kgetW p tbl) := fun x y H Q w1 w2 h R r1 r2 hr t k => by
  obtain ⟨e1, t⟩ := t
  subst e1
  split at t
  · split at t
    · rename_i e
      cases r1; cases r2
      obtain ⟨u, n, s⟩ := T.yes.at e
      obtain ⟨v, rv, rw⟩ := s.is
      obtain ⟨es, n', hl, hk⟩ := T.ex
      exact ⟨p, _, v, rfl, rfl, ⟨es, n', u, hl, hk, n, rv⟩, k.go hr t (rw _ _)⟩
    · exact t.elim
  · exact t.elim
theorem w_kget (T : KTab X.w X.K p tbl no) (ha : WE X L a ta) (hb : WE X L b tb) (hs : PlainIx b := by exact fun _ _ => rfl) : WE X L (.Subscript a b pos) (oOp (kgetW p tbl) ta tb) := (pe_ix ix_kdict ha hb hs).imp (bin_imp (lf_kget T))
def kget2K (tbl : List (List Nat × W)) (no : List (List Nat)) (y z : W) (R : KW) (h3 : HW) : Prop := match y with
  | .str s => (match tabW tbl s with | some w => R w h3 | none => s ∈ no ∧ R z h3)
  | _ => False
def oKGet2 (p : Addr) (tbl : List (List Nat × W)) (no : List (List Nat)) (ta tb tc : TEW) : TEW := fun ρ h R => ta ρ h fun x h1 => x = .ref p ∧ tb ρ h1 fun y h2 => tc ρ h2 fun z h3 => kget2K tbl no y z R h3
theorem w_kget2 {cpos : Pos} (T : KTab X.w X.K p tbl no) (ha : WE X L a ta) (hb : WE X L b tb) (hc : WE X L c tc) (m : M2 X a "get" apos b c cpos := by exact ⟨rfl, rfl, rfl, rfl⟩) : WE X L (.Call (.Attribute a "get" apos) [b, c] [] cpos) (oKGet2 p tbl no ta tb tc) := (pe_kget2 ha hb hc m).imp fun σ H Q ⟨ρ, h, R, S, t, k⟩ =>
  ⟨ρ, h, _, S, t, fun w1 h1 v1 H1 ⟨e1, t1⟩ s1 r1 q1 => by
    subst e1; cases q1
    obtain ⟨es, n', hl, hk⟩ := T.ex
    refine ⟨p, es, n', rfl, hl, hk, T.low, ρ, h1, _, S.to s1 r1, t1, fun w2 h2 v2 H2 t2 s2 r2 q2 => ⟨ρ, h2, _, S.to (s1.trans s2) r2, t2, fun w3 h3 v3 H3 t3 s3 r3 q3 => ?_⟩⟩
    unfold kget2K at t3
    split at t3
    · cases q2
      split at t3
      · rename_i e
        obtain ⟨u, n, s⟩ := T.yes.at e
        obtain ⟨v, rv, rw⟩ := s.is
        exact ⟨_, _, rfl, n, fun u' e' => by cases e'; exact ⟨v, rv, k _ h3 _ H3 t3 ((s1.trans s2).trans s3) r3 (rw _ _)⟩, fun z => nomatch z⟩
      · exact ⟨_, none, rfl, T.no.at t3.1, (fun _ z => nomatch z), fun _ => k _ h3 _ H3 t3.2 ((s1.trans s2).trans s3) r3 q3⟩
    · exact t3.elim⟩
end
/-! ## [elt for x in iter for y in iter2], the heap as it was -/
section
variable {X : Cx} {L : Lk}
abbrev slC2 (ρ : SlW) (j j2 : Nat) (w : W) : SlW := ((ρ.set j2 none).set j none).set j (some w)
def oLc2 (ti : TIW) (j : Nat) (ti2 : TIW) (j2 : Nat) (te : TEW) : TEW := fun ρ h R => ti ρ h fun ws h1 => ∀ p, h1 p = none → ∃ f : W → List W, (ws.flatMap f).length ≤ 16000000 ∧ R (.lst (ws.flatMap f)) h1 ∧
  ∀ w ∈ ws, ∀ acc, ti2 (slC2 ρ j j2 w) (updW h1 p (.lst acc)) fun xs h3 => h3 = updW h1 p (.lst acc) ∧ ∃ g : W → W, f w = xs.map g ∧ ∀ x ∈ xs, ∀ acc2, te ((slC2 ρ j j2 w).set j2 (some x)) (updW h1 p (.lst acc2)) fun y h4 => h4 = updW h1 p (.lst acc2) ∧ y = g x
theorem flatMap_take_len {α β : Type} (f : α → List β) (ws : List α) (i : Nat) : ((ws.take i).flatMap f).length ≤ (ws.flatMap f).length := by
  conv => rhs; rw [← List.take_append_drop i ws]
  rw [List.flatMap_append, List.length_append]; omega
theorem wipe2 {α : Type} (σ : List (Option α)) (j j2 : Nat) (a : Option α) : (((((σ.set j2 none).set j none).set j a).set j2 none).set j none) = (σ.set j2 none).set j none := by
  rw [List.set_set]
  by_cases e : j = j2
  · subst e; simp [List.set_set]
  · rw [List.set_comm _ _ (fun z => e z), List.set_set, List.set_set]
theorem lc2_imp {K : PySem.W.Frag} {ti ti2 : TIW} {j j2 : Nat} {te : TEW} : ∀ σ H Q, lE K L (oLc2 ti j ti2 j2 te) σ H Q → tLc2 (lI K L ti) (gName j) (lT K L oYes) (lI K L ti2) (gName j2) (lT K L oYes) (lE K L te) [j, j2] [j2] σ H Q := fun σ H Q ⟨ρ, h, R, S, t, k⟩ =>
  ⟨ρ, h, _, S, t, fun ws h1 J H1 t1 s1 r1 I D hD => by
    obtain ⟨f, hz, fin, body⟩ := t1 D (r1.fresh hD)
    have nD := r1.fresh hD
    refine ⟨fun i m H2 => m = ws.length - i ∧ i ≤ ws.length ∧ HR K H2 (updW h1 D (.lst ((ws.take i).flatMap f))) ∧ ST H1 h1 H2 (updW h1 D (.lst ((ws.take i).flatMap f))), ⟨_, rfl, Nat.zero_le _, r1.newO hD ⟨[], upd_same, .nil⟩, .newO hD _ _⟩, ?_⟩
    rintro i m H2 ⟨rfl, hi, hr2, st2⟩
    by_cases hlt : i < ws.length
    · have hw : ws[i]? = some ws[i] := List.getElem?_eq_getElem hlt
      obtain ⟨go, yl⟩ := I.step i H2 _ ws[i] st2 hr2 hw
      have ext : (ws.take (i + 1)).flatMap f = (ws.take i).flatMap f ++ f ws[i] := by rw [List.take_add_one, hw, List.flatMap_append]; simp [List.flatMap_cons]
      have lim := flatMap_take_len f ws (i + 1)
      rw [ext] at lim
      refine .inr ⟨go, fun H3 => HR K H3 (updW h1 D (.lst ((ws.take (i + 1)).flatMap f))) ∧ ST H1 h1 H3 (updW h1 D (.lst ((ws.take (i + 1)).flatMap f))), fun H3 p' => ⟨ws.length - (i + 1), by omega, rfl, hlt, p'⟩, fun x H3 y => ?_⟩
      obtain ⟨st3, hr3, rx⟩ := yl x H3 y
      have sr3 : SR K H3 (updW h1 D (.lst ((ws.take i).flatMap f))) (((σ.set j2 none).set j none).set j (some x)) (slC2 ρ j j2 ws[i]) := (((((S.sr.mono s1).mono st2).mono st3).setN j2).setN j).set rx j
      refine ⟨wipe2 σ j j2 (some x), slC2 ρ j j2 ws[i], _, fun b h' => b = true ∧ h' = updW h1 D (.lst ((ws.take i).flatMap f)), ⟨sr3, hr3, L.mono (L.mono (L.mono S.el s1) st2) st3⟩, ⟨rfl, rfl⟩, fun b h4 H4 ⟨eb, eh⟩ s4 r4 => ?_⟩
      subst eb eh
      rw [if_pos rfl]
      have st4 := (st2.trans st3).trans s4
      refine ⟨_, _, _, ⟨sr3.mono s4, r4, L.mono (L.mono S.el s1) st4⟩, body ws[i] (List.getElem_mem hlt) _, fun xs h5 J1 H5 ⟨eh, g, ef, el⟩ s5 r5 I1 => ?_⟩
      subst eh
      rw [ef] at ext lim
      have st5 := st4.trans s5
      refine ⟨fun jj m H6 => m = xs.length - jj ∧ jj ≤ xs.length ∧ HR K H6 (updW h1 D (.lst ((ws.take i).flatMap f ++ (xs.take jj).map g))) ∧ ST H1 h1 H6 (updW h1 D (.lst ((ws.take i).flatMap f ++ (xs.take jj).map g))) ∧
        ST H5 (updW h1 D (.lst ((ws.take i).flatMap f))) H6 (updW h1 D (.lst ((ws.take i).flatMap f ++ (xs.take jj).map g))) ∧ SR K H6 (updW h1 D (.lst ((ws.take i).flatMap f ++ (xs.take jj).map g))) (((σ.set j2 none).set j none).set j (some x)) (slC2 ρ j j2 ws[i]),
        ⟨_, rfl, Nat.zero_le _, by simpa using r5, by simpa using st5, by rw [List.take_zero, List.map_nil, List.append_nil]; exact .refl _ _, by simpa using (sr3.mono s4).mono s5⟩, ?_⟩
      rintro jj m H6 ⟨rfl, hj, hr6, st6, sti6, sr6⟩
      by_cases hl2 : jj < xs.length
      · have hx : xs[jj]? = some xs[jj] := List.getElem?_eq_getElem hl2
        obtain ⟨go2, yl2⟩ := I1.step jj H6 _ xs[jj] sti6 hr6 hx
        refine .inr ⟨go2, fun H7 => HR K H7 (updW h1 D (.lst ((ws.take i).flatMap f ++ (xs.take (jj + 1)).map g))) ∧ ST H1 h1 H7 (updW h1 D (.lst ((ws.take i).flatMap f ++ (xs.take (jj + 1)).map g))) ∧
          ST H5 (updW h1 D (.lst ((ws.take i).flatMap f))) H7 (updW h1 D (.lst ((ws.take i).flatMap f ++ (xs.take (jj + 1)).map g))) ∧ SR K H7 (updW h1 D (.lst ((ws.take i).flatMap f ++ (xs.take (jj + 1)).map g))) (((σ.set j2 none).set j none).set j (some x)) (slC2 ρ j j2 ws[i]),
          fun H7 ⟨a, b, c, d⟩ => ⟨_, by omega, rfl, hl2, a, b, c, d⟩, fun x2 H7 y2 => ?_⟩
        obtain ⟨st7, hr7, rx2⟩ := yl2 x2 H7 y2
        have ew : ∀ σ' : L2.St, wipe σ' [j2] = σ'.set j2 none := fun _ => rfl
        have ext2 : (xs.take (jj + 1)).map g = (xs.take jj).map g ++ [g xs[jj]] := by rw [List.take_add_one, hx, List.map_append]; rfl
        have lim2 : ((ws.take i).flatMap f ++ (xs.take jj).map g).length < sizeLine := by
          have : ((xs.take jj).map g).length ≤ (xs.map g).length := by simp; omega
          simp only [List.length_append] at lim this ⊢
          exact Nat.lt_of_le_of_lt (by omega : _ ≤ 16000000) (by decide)
        show wipe ((wipe (((σ.set j2 none).set j none).set j (some x)) [j2]).set j2 (some x2)) [j2] = wipe (((σ.set j2 none).set j none).set j (some x)) [j2] ∧ _
        simp only [ew, List.set_set]
        have sr7 := (sr6.mono st7).set rx2 j2
        refine ⟨trivial, _, _, fun b h' => b = true ∧ h' = updW h1 D (.lst ((ws.take i).flatMap f ++ (xs.take jj).map g)), ⟨sr7, hr7, L.mono (L.mono (L.mono S.el s1) st6) st7⟩, ⟨rfl, rfl⟩, fun b h8 H8 ⟨eb, eh⟩ s8 r8 => ?_⟩
        subst eb eh
        rw [if_pos rfl]
        refine ⟨_, _, _, ⟨sr7.mono s8, r8, L.mono (L.mono (L.mono (L.mono S.el s1) st6) st7) s8⟩, el xs[jj] (List.getElem_mem hl2) _, fun y h9 v H9 ⟨eh, ey⟩ s9 r9 q9 => ?_⟩
        subst eh ey
        obtain ⟨vs, hv, q⟩ := r9 D _ updW_same
        have upw : ∀ a b : List W, updW (updW h1 D (.lst a)) D (.lst b) = updW h1 D (.lst b) := fun a b => updW_upd
        have s10 : ST H9 (updW h1 D (.lst ((ws.take i).flatMap f ++ (xs.take jj).map g))) (upd H9 D (.lst (vs ++ [v]))) (updW h1 D (.lst ((ws.take i).flatMap f ++ (xs.take (jj + 1)).map g))) := by
          have z : ST H9 (updW h1 D (.lst ((ws.take i).flatMap f ++ (xs.take jj).map g))) (upd H9 D (.lst (vs ++ [v]))) (updW (updW h1 D (.lst ((ws.take i).flatMap f ++ (xs.take jj).map g))) D (.lst ((ws.take i).flatMap f ++ (xs.take (jj + 1)).map g))) := .mut updW_same _ _
          rwa [upw] at z
        have r10 : HR K (upd H9 D (.lst (vs ++ [v]))) (updW h1 D (.lst ((ws.take i).flatMap f ++ (xs.take (jj + 1)).map g))) := by
          have := r9.mut (a := D) (u0 := .lst ((ws.take i).flatMap f ++ (xs.take jj).map g)) updW_same (o := .lst (vs ++ [v])) (u := .lst ((ws.take i).flatMap f ++ (xs.take (jj + 1)).map g)) ⟨_, upd_same, by
            have z := (q.mono s10).append (.cons (q9.mono s10) .nil)
            rw [List.append_assoc, ← ext2] at z
            rw [upw]; exact z⟩
          rwa [upw] at this
        refine ⟨vs, hv, by rw [q.length]; exact lim2, r10, (((st6.trans st7).trans s8).trans s9).trans s10, (((sti6.trans st7).trans s8).trans s9).trans s10, by have z := (((sr6.mono st7).mono s8).mono s9).mono s10; simp only [slC2, List.set_set] at z; exact z⟩
      · have e : jj = xs.length := by omega
        subst e
        refine .inl ⟨I1.stop _ H6 _ sti6 hr6 (Nat.le_refl _), ?_, ?_⟩
        · rw [ext]; rw [List.take_length] at hr6; exact hr6
        · rw [ext]; rw [List.take_length] at st6; exact st6
    · have e : i = ws.length := by omega
      subst e
      rw [List.take_length] at hr2 st2
      obtain ⟨vs, hv, q⟩ := hr2 D _ updW_same
      have sub : Sub h1 (updW h1 D (.lst (ws.flatMap f))) := .new nD
      exact .inl ⟨I.stop _ H2 _ st2 hr2 (Nat.le_refl _), k _ h1 _ H2 fin ((s1.trans st2).trans (.drop sub)) (hr2.drop sub) (.lst ⟨hv, nD⟩ (q.mono (.drop sub)))⟩⟩
theorem w_lc2 {elt tg iter tg1 iter1 : Expr} {scope : Scope} {x x2 : Str} {j j2 : Nat} {pos : Pos} {ti ti2 : TIW} {te : TEW} (hc : X.calm = true) (hN : X.N.Nodup) (hi : WI X L tg iter ti) (ok : BlkOk X.N X.env.scope scope [(x, j), (x2, j2)])
    (hg : ∀ (s : Shared) (H : Hp) (C : Addr) (cl : List (Str × Addr)) (fp : List Addr), PG (X.blk s H scope (compEnvC scope cl C X.env) fp) tg (gName j)) (hi1 : ∀ (s : Shared) (H : Hp) (C : Addr) (cl : List (Str × Addr)) (fp : List Addr), WI (X.blk s H scope (compEnvC scope cl C X.env) fp) L tg1 iter1 ti2)
    (hg1 : ∀ (s : Shared) (H : Hp) (C : Addr) (cl : List (Str × Addr)) (fp : List Addr), PG (X.blk s H scope (compEnvC scope cl C X.env) fp) tg1 (gName j2))
    (he : ∀ (s : Shared) (H : Hp) (C : Addr) (cl : List (Str × Addr)) (fp : List Addr), WE (X.blk s H scope (compEnvC scope cl C X.env) fp) L elt te) (hs : ∀ x, foldedSetIterable iter X.env x = pure x := by intro _; rfl) (hs1 : ∀ env x, foldedSetIterable iter1 env x = pure x := by intro _ _; rfl) :
    WE X L (.ListComp elt [⟨tg, iter, [], 0⟩, ⟨tg1, iter1, [], 0⟩] scope pos) (oLc2 ti j ti2 j2 te) :=
  (pe_lc2 hc hN hi ok (vs1 := [j2]) (by simp) hg (fun _ _ _ _ _ => wts_nil) hi1 hg1 (fun _ _ _ _ _ => wts_nil) he hs hs1).imp lc2_imp
theorem ws_setLc2 {i : Nat} {y : Str} {py : Pos} {elt tg iter tg1 iter1 : Expr} {scope : Scope} {x x2 : Str} {j j2 : Nat} {pos spos : Pos} {ti ti2 : TIW} {te : TEW} (hc : X.calm = true) (hN : X.N.Nodup) (hy : X.N[i]? = some y) (hyl : X.env.scope.names.lookup y = some .local)
    (hsw : swapsWith (.ListComp elt [⟨tg, iter, [], 0⟩, ⟨tg1, iter1, [], 0⟩] scope pos) (some (.Name y py)) spos.line X.env = pure true) (hi : WI X L tg iter ti) (ok : BlkOk X.N X.env.scope scope [(x, j), (x2, j2)])
    (hg : ∀ (s : Shared) (H : Hp) (C : Addr) (cl : List (Str × Addr)) (fp : List Addr), PG (X.blk s H scope (compEnvC scope cl C X.env) fp) tg (gName j)) (hi1 : ∀ (s : Shared) (H : Hp) (C : Addr) (cl : List (Str × Addr)) (fp : List Addr), WI (X.blk s H scope (compEnvC scope cl C X.env) fp) L tg1 iter1 ti2)
    (hg1 : ∀ (s : Shared) (H : Hp) (C : Addr) (cl : List (Str × Addr)) (fp : List Addr), PG (X.blk s H scope (compEnvC scope cl C X.env) fp) tg1 (gName j2))
    (he : ∀ (s : Shared) (H : Hp) (C : Addr) (cl : List (Str × Addr)) (fp : List Addr), WE (X.blk s H scope (compEnvC scope cl C X.env) fp) L elt te) (hs : ∀ x, foldedSetIterable iter X.env x = pure x := by intro _; rfl) (hs1 : ∀ env x, foldedSetIterable iter1 env x = pure x := by intro _ _; rfl) :
    WS X L (.Assign [.Name y py] (.ListComp elt [⟨tg, iter, [], 0⟩, ⟨tg1, iter1, [], 0⟩] scope pos) spos) (sAsg (oLc2 ti j ti2 j2 te) (gN i)) :=
  (ps_setLc2 hc hN hy hyl hsw hi ok (vs1 := [j2]) (by simp) hg (fun _ _ _ _ _ => wts_nil) hi1 hg1 (fun _ _ _ _ _ => wts_nil) he hs hs1).imp fun D σ H ⟨ρ, h, DW, S, t, k⟩ =>
  lc2_imp σ H _ ⟨ρ, h, _, S, t, fun w1 h1 v1 H1 t1 s1 r1 q1 => k.nx _ h1 _ H1 t1 s1 r1 ((S.sr.mono s1).set q1 i)⟩
end
/-! ## stepping -/
section
variable {ρ : SlW} {h : HW} {R : KW} {RB : Bool → HW → Prop} {te ta tb tc : TEW} {x y w : W} {p : Addr} {kws : List (L2.Key × W)}
theorem go_d0 (k : R (.dic []) h) : oD0 ρ h R := k
theorem go_d0O (k : ∀ p, h p = none → R (.ref p) (updW h p (.dic []))) : oD0O ρ h R := k
theorem go_truth (k : te ρ h fun x h1 => truK (truW x h1) RB h1) : oTruth te ρ h RB := k
theorem go_truL {ws : List W} (k : RB (!ws.isEmpty) h) : truK (truW (.lst ws) h) RB h := k
theorem go_truT {ws : List W} (k : RB (!ws.isEmpty) h) : truK (truW (.tup ws) h) RB h := k
theorem go_truI {i : Int} (k : RB (i != 0) h) : truK (truW (.int i) h) RB h := k
theorem go_truO {ws : List W} (hp : h p = some (.lst ws)) (k : RB (!ws.isEmpty) h) : truK (truW (.ref p) h) RB h := by unfold truW; dsimp only; rw [hp]; exact k
theorem go_din {o : Option W} (e : dgW x y h = some o) (k : R (.bl o.isSome) h) : dinW y x h R := by unfold dinW; rw [e]; exact k
theorem go_dnotin {o : Option W} (e : dgW x y h = some o) (k : R (.bl (!o.isSome)) h) : dnotinW y x h R := by unfold dnotinW; rw [e]; exact k
theorem go_dget (e : dgW x y h = some (some w)) (k : R w h) : dgetW x y h R := by unfold dgetW; rw [e]; exact k
theorem go_dict (e : dW x h = some kws) (k : R (.dic kws) h) : dictW [x] h R := by unfold dictW; dsimp only; rw [e]; exact k
theorem go_dictO (e : dW x h = some kws) (k : ∀ p, h p = none → R (.ref p) (updW h p (.dic kws))) : dictOW [x] h R := by unfold dictOW; dsimp only; rw [e]; exact k
theorem go_listD (e : dW x h = some kws) (k : R (.lst (kws.map fun kv => wKey kv.1)) h) : listDW [x] h R := by unfold listDW; dsimp only; rw [e]; exact k
theorem go_lenD (e : dW x h = some kws) (k : R (.int kws.length) h) : lenDW [x] h R := by unfold lenDW; dsimp only; rw [e]; exact k
theorem go_dput {D : EndsW} (k : tc ρ h fun v h1 => ta ρ h1 fun x h2 => tb ρ h2 fun y h3 => dputK x (keyW y) v (D.nx ρ) h3) : sDput tc ta tb D ρ h := k
theorem go_dputK {P : HW → Prop} {s : List Nat} (hp : h p = some (.dic kws)) (e : kws.length ≤ 16000000) (k : P (updW h p (.dic (putW kws (.inr (mkS s)) w)))) : dputK (.ref p) (keyW (.str s)) w P h := by unfold dputK keyW; dsimp only; rw [hp]; exact ⟨e, k⟩
theorem go_kget {tbl : List (List Nat × W)} {s : List Nat} (e : tabW tbl s = some w) (k : R w h) : kgetW p tbl (.ref p) (.str s) h R := ⟨rfl, by dsimp only; rw [e]; exact k⟩
theorem go_kget2 {tbl : List (List Nat × W)} {no : List (List Nat)} (k : ta ρ h fun x h1 => x = .ref p ∧ tb ρ h1 fun y h2 => tc ρ h2 fun z h3 => kget2K tbl no y z R h3) : oKGet2 p tbl no ta tb tc ρ h R := k
theorem go_kget2Y {tbl : List (List Nat × W)} {no : List (List Nat)} {s : List Nat} (e : tabW tbl s = some w) (k : R w h) : kget2K tbl no (.str s) x R h := by unfold kget2K; dsimp only; rw [e]; exact k
theorem go_kget2N {tbl : List (List Nat × W)} {no : List (List Nat)} {s : List Nat} (e : tabW tbl s = none) (m : s ∈ no) (k : R x h) : kget2K tbl no (.str s) x R h := by unfold kget2K; dsimp only; rw [e]; exact ⟨m, k⟩
theorem go_lc2 {ti ti2 : TIW} {j j2 : Nat} (ws : List W) (ev : ∀ P : List W → HW → Prop, P ws h → ti ρ h P) (f : W → List W) (hz : (ws.flatMap f).length ≤ 16000000)
    (el : ∀ p, h p = none → ∀ w ∈ ws, ∀ acc, ti2 (slC2 ρ j j2 w) (updW h p (.lst acc)) fun xs h3 => h3 = updW h p (.lst acc) ∧ ∃ g : W → W, f w = xs.map g ∧ ∀ x ∈ xs, ∀ acc2, te ((slC2 ρ j j2 w).set j2 (some x)) (updW h p (.lst acc2)) fun y h4 => h4 = updW h p (.lst acc2) ∧ y = g x)
    (k : R (.lst (ws.flatMap f)) h) : oLc2 ti j ti2 j2 te ρ h R := ev _ fun p hp => ⟨f, hz, k, el p hp⟩
theorem go_lcI {ti : TIW} {j : Nat} {tb : TEW} (ws fs : List W) (ev : ∀ P : List W → HW → Prop, P ws h → ti ρ h P) (hl : fs.length = ws.length) (hz : ws.length ≤ 16000000)
    (el : ∀ (i : Nat) (w y : W) (h' : HW) (R' : KW), ws[i]? = some w → fs[i]? = some y → R' y h' → tb (ρ.set j (some w)) h' R') (k : R (.lst fs) h) : oLc ti j oYes tb ρ h R := by
  refine ev _ ⟨hz, fun p hp => ⟨fun i acc h' => acc = fs.take i ∧ h' = h, ⟨rfl, rfl⟩, ?_, ?_⟩⟩
  · rintro i w acc h' e n hla ⟨rfl, rfl⟩
    refine go_yes ?_
    rw [if_pos rfl]
    have hi : i < fs.length := by rw [hl]; exact (List.getElem?_eq_some_iff.mp e).1
    refine el i w fs[i] _ _ e (List.getElem?_eq_getElem hi) ⟨_, .refl _, hp, ?_, rfl⟩
    rw [List.take_add_one, List.getElem?_eq_getElem hi]; rfl
  · rintro acc h' n ⟨rfl, rfl⟩
    rw [← hl, List.take_length]; exact k
theorem go_nntt {A B : Prop} (h1 : A) : if (!!true) = true then A else B := iteT h1
theorem go_nnff {A B : Prop} (h1 : B) : if (!!false) = true then A else B := iteF h1
theorem go_eqq {q : Prop} (k : q) : x = x ∧ q := ⟨rfl, k⟩
end
theorem FrWs.snoc {h h0 : HW} {w w' : W} (q : FrW h h0 w w') : ∀ ws : List W, FrWs h h0 (ws ++ [w]) (ws ++ [w'])
  | [] => .cons q .nil
  | x :: ws => .cons (.same x) (FrWs.snoc q ws)
theorem FrWs.app {h h0 : HW} {as bs ws ws' : List W} (q : FrWs h h0 as bs) (r : FrWs h h0 ws ws') : FrWs h h0 (as ++ ws) (bs ++ ws') := by
  induction as generalizing bs with
  | nil => cases q; exact r
  | cons a as ih => cases q with | cons x t => exact .cons x (ih t)
end Wl

set_option Elab.async false
set_option linter.all false
set_option maxRecDepth 100000
namespace Wl
open PySem PySem.Spec PyProof.Rows L2
theorem updW_mid {h : HW} {p1 p2 : Addr} (np : p1 ≠ p2) (a b c : OW) : updW (updW (updW h p1 a) p2 b) p1 c = updW (updW h p1 c) p2 b := by
  funext x
  unfold updW
  by_cases e1 : x = p1
  · subst e1; rw [if_pos rfl, if_neg np, if_pos rfl]
  · rw [if_neg e1]
    by_cases e2 : x = p2
    · rw [if_pos e2, if_pos e2]
    · rw [if_neg e2, if_neg e2, if_neg e1, if_neg e1]
section
variable {X : Cx} {L : Lk} {K : PySem.W.Frag}
/-! ## a local name that holds a def -/
def oCallF (i : Nat) (f : Addr) (sp : SpW) (t : TAW) : TEW := fun ρ h R => sl ρ i = some (.ref f) ∧ t ρ h fun ws h1 => sp ws h1 R noX
theorem w_callF {i k : Nat} {f : Addr} {fd : FuncData} {ps : List Str} {sp : SpW} {x : Str} {p pos : Pos} {e : Expr} {es : List Expr} {t : TAW} (F : FnOk X.prog X.w X.K X.mg X.base CX0 k f fd ps (lSp X.K sp)) (hr : Room k X.A)
    (hk : PySem.W.keepIn X.K (.ref f) = true) (hb : Binds X.K fd ps []) (ha : WA X L (e :: es) t) (hN : X.N[i]? = some x := by rfl) (hv : Vis X.env.scope x := by first | exact Or.inl rfl | exact Or.inr (Or.inl rfl) | exact Or.inr (Or.inr rfl))
    (hdb : (x == ("__debug__" : Str)) = false := by decide) (hcd : (x == ("__classdict__" : Str)) = false := by decide)
    (he : starEach (e :: es) X.env = (false, eval e X.env) :: starEach es X.env := by rfl) (hpl : (backTo pos (starEach es X.env)).any (·.1) = false := by rfl) :
    WE X L (.Call (.Name x p) (e :: es) [] pos) (oCallF i f sp t) := (pe_callL (i := i) F hr hN hv hk hb .nil pass0 ha hdb hcd he hpl).imp fun σ H Q ⟨ρ, h, R, S, ⟨ef, t⟩, k⟩ => by
  obtain ⟨v, e1, r⟩ := S.sr.get ef
  cases r
  exact ⟨e1, ρ, h, _, S, t, fun ws h1 vs H1 t1 s1 r1 q1 => by
    show lSp X.K sp (vs ++ []) H1 Q E0
    rw [List.append_nil]
    exact ⟨ws, h1, R, noX, q1, r1, t1, k.mono s1, el_no⟩⟩
/-! ## a star in a display -/
def itemsW (x : W) (h : HW) : Option (List W) := match x with
  | .lst ws => some ws
  | .scr ws => some ws
  | .tup ws => some ws
  | .ref p => (match h p with | some (.lst ws) => some ws | _ => none)
  | _ => none
theorem items_at {H : Hp} {h : HW} {v : V} {x : W} {ws : List W} (hr : HR K H h) (r : RW K H h v x) (e : itemsW x h = some ws) : ∃ a xs, v = .ref a ∧ (SqT K H a xs ∨ SqL K H a xs) ∧ RWs K H h xs ws := by
  unfold itemsW at e
  split at e
  · cases e; cases r with | lst f q => exact ⟨_, _, rfl, .inr f.sq, q⟩
  · cases e; cases r with | scr f q => exact ⟨_, _, rfl, .inr f.sq, q⟩
  · cases e; cases r with | tup f q => exact ⟨_, _, rfl, .inl f.sq, q⟩
  · split at e
    · rename_i hp
      cases e; cases r
      obtain ⟨vs, a, q⟩ := hr _ _ hp
      exact ⟨_, _, rfl, .inr (SqL.of a), q⟩
    · cases e
  · cases e
def starK (o : Option (List W)) (R : List W → Prop) : Prop := match o with | some ws => R ws | none => False
def oStar (te : TEW) (tr : TAW) : TAW := fun ρ h R => te ρ h fun x h1 => starK (itemsW x h1) fun ws => tr ρ h1 fun xs h2 => R (ws ++ xs) h2
theorem wa_star {e : Expr} {es : List Expr} {p : Pos} {te : TEW} {tr : TAW} (he : WE X L e te) (hr : WA X L es tr) (hs : starEach (.Starred e p :: es) X.env = (true, eval e X.env) :: starEach es X.env := by rfl) : WA X L (.Starred e p :: es) (oStar te tr) := (StX.pa_star he hr hs).imp fun σ H Q ⟨ρ, h, R, S, t, k⟩ =>
  ⟨ρ, h, _, S, t, fun w1 h1 v1 H1 t1 s1 r1 q1 => by
    unfold starK at t1
    split at t1
    · rename_i ws e
      obtain ⟨a, xs, rfl, sq, q⟩ := items_at r1 q1 e
      exact ⟨a, xs, rfl, sq, ρ, h1, _, S.to s1 r1, t1, fun us h2 vs H2 t2 s2 r2 q2 => k _ h2 _ H2 t2 (s1.trans s2) r2 ((q.mono s2).append q2)⟩
    · exact t1.elim⟩
theorem go_star {te : TEW} {tr : TAW} {ρ : SlW} {h : HW} {R : List W → HW → Prop} (k : te ρ h fun x h1 => starK (itemsW x h1) fun ws => tr ρ h1 fun xs h2 => R (ws ++ xs) h2) : oStar te tr ρ h R := k
theorem go_starL {ws : List W} {h : HW} {R : List W → Prop} (k : R ws) : starK (itemsW (.lst ws) h) R := k
theorem go_starT {ws : List W} {h : HW} {R : List W → Prop} (k : R ws) : starK (itemsW (.tup ws) h) R := k
theorem go_starO {ws : List W} {h : HW} {p : Addr} {R : List W → Prop} (hp : h p = some (.lst ws)) (k : R ws) : starK (itemsW (.ref p) h) R := by unfold itemsW; dsimp only; rw [hp]; exact k
/-! ## sep.join of any list of texts -/
def joinW2 : W → List W → HW → KW → Prop := fun x ws h R => match x, ws with
  | .str a, [y] => (match itemsW y h with | some xs => (match strsOf xs with | some ss => (ss.map List.length).sum + ss.length * a.length ≤ 16000000 ∧ R (.str (joinS a ss)) h | none => False) | none => False)
  | _, _ => False
theorem lf_join2 : LfM K (fun x xs H Q => ∃ a p, ∃ ys : List Str, x = .str a ∧ xs = [.ref p] ∧ (SqL K H p (ys.map V.str) ∨ SqT K H p (ys.map V.str)) ∧
    (ys.map (·.length)).sum + ys.length * a.length ≤ 16777216 ∧ Q (.str (Txt.join a ys)) H) joinW2 := fun x xs H Q w ws h R r rs hr t k => by
  unfold joinW2 at t
  split at t
  · split at t
    · rename_i e1
      split at t
      · rename_i ss e
        cases r
        obtain ⟨y, rfl, ry⟩ := rs.one
        obtain ⟨a, vs, rfl, sq, q⟩ := items_at hr ry e1
        rw [strsOf_eq e] at q
        refine ⟨_, _, ss.map mkS, rfl, rfl, ?_, ?_, ?_⟩
        · rw [← q.strs]; exact sq.symm
        · rw [lens_mk, List.length_map, mkS_length]; exact Nat.le_trans t.1 (by decide)
        · rw [TL.join_eq, join_mk]; exact k.go hr t.2 (.str _)
      · exact t.elim
    · exact t.elim
  · exact t.elim

end
section
variable {R : KW} {h : HW} {a : List Nat} {xs : List W}
theorem go_join2 {y : W} {ss : List (List Nat)} (e0 : itemsW y h = some xs) (e : strsOf xs = some ss) (l : (ss.map List.length).sum + ss.length * a.length ≤ 16000000) (k : R (.str (joinS a ss)) h) : joinW2 (.str a) [y] h R := by unfold joinW2; dsimp only; rw [e0]; dsimp only; rw [e]; exact ⟨l, k⟩
theorem items_ref {p : Addr} (hp : h p = some (.lst xs)) : itemsW (.ref p) h = some xs := by unfold itemsW; dsimp only; rw [hp]
theorem joinS_nil : ∀ ss : List (List Nat), joinS [] ss = ss.flatten
  | [] => rfl
  | [p] => by simp [joinS]
  | p :: q :: r => by rw [joinS, joinS_nil (q :: r)]; simp
end
end Wl

set_option Elab.async false
set_option linter.all false
set_option maxRecDepth 100000
namespace Wl
open PySem PySem.Spec PyProof.Rows L2
/-! ## targets of comprehensions -/
theorem wipe_get (σ : L2.St) (js : List Nat) (i : Nat) : (wipe σ js)[i]? = if i ∈ js then σ[i]?.map (fun _ => none) else σ[i]? := by
  induction js with
  | nil => simp [wipe]
  | cons j js ih =>
    unfold wipe
    by_cases e : j = i
    · subst e
      rw [if_pos List.mem_cons_self]
      by_cases l : j < σ.length
      · rw [List.getElem?_set_self (by rw [wipe_length]; exact l), List.getElem?_eq_getElem l]; rfl
      · rw [List.getElem?_eq_none (by rw [List.length_set, wipe_length]; omega), List.getElem?_eq_none (by omega)]; rfl
    · rw [List.getElem?_set_ne e, ih]
      have : (i ∈ j :: js) ↔ i ∈ js := ⟨fun z => (List.mem_cons.mp z).resolve_left fun z => e z.symm, List.mem_cons_of_mem _⟩
      simp only [this]
theorem wipe_idem (σ : L2.St) (js : List Nat) : wipe (wipe σ js) js = wipe σ js := by
  apply List.ext_getElem?
  intro i
  rw [wipe_get, wipe_get]
  by_cases h : i ∈ js
  · rw [if_pos h, if_pos h]; cases σ[i]? <;> rfl
  · rw [if_neg h, if_neg h]
theorem wipe_set {σ : L2.St} {js : List Nat} {j : Nat} {v : Option V} (h : j ∈ js) : wipe (σ.set j v) js = wipe σ js := by
  apply List.ext_getElem?
  intro i
  rw [wipe_get, wipe_get]
  by_cases e : j = i
  · subst e
    rw [if_pos h, if_pos h]
    by_cases l : j < σ.length
    · rw [List.getElem?_set_self l, List.getElem?_eq_getElem l]; rfl
    · rw [List.getElem?_eq_none (by rw [List.length_set]; omega), List.getElem?_eq_none (by omega)]
  · rw [List.getElem?_set_ne e]
def wipeW (ρ : SlW) : List Nat → SlW
  | [] => ρ
  | v :: vs => (wipeW ρ vs).set v none
theorem SR.wipe {K : PySem.W.Frag} {H : Hp} {h : HW} {σ : L2.St} {ρ : SlW} (s : SR K H h σ ρ) : ∀ js : List Nat, SR K H h (L2.wipe σ js) (wipeW ρ js)
  | [] => s
  | j :: js => (SR.wipe s js).setN j
abbrev TGF := W → SlW → Option SlW
abbrev TGsF := List W → SlW → Option SlW
def gfN (j : Nat) : TGF := fun w ρ => some (ρ.set j (some w))
def gfNil : TGsF := fun ws ρ => match ws with | [] => some ρ | _ => none
def gfCons (g : TGF) (gs : TGsF) : TGsF := fun ws ρ => match ws with | w :: r => (match g w ρ with | some ρ' => gs r ρ' | none => none) | [] => none
def gfT (n : Nat) (gs : TGsF) : TGF := fun w ρ => match w with | .tup ws => if ws.length = n then gs ws ρ else none | _ => none
/-- what a target does to the slots, at both levels -/
def TgOk (K : PySem.W.Frag) (js : List Nat) (g : TG) (f : TGF) : Prop := ∀ (v : V) (w : W) (σ : L2.St) (H : Hp) (ρ ρ' : SlW) (h : HW) (Q : L2.St → Hp → Prop), RW K H h v w → SR K H h σ ρ → f w ρ = some ρ' → (∀ σ', L2.wipe σ' js = L2.wipe σ js → SR K H h σ' ρ' → Q σ' H) → g v σ H Q
def TgsOk (K : PySem.W.Frag) (js : List Nat) (g : TGs) (f : TGsF) : Prop := ∀ (v : List V) (w : List W) (σ : L2.St) (H : Hp) (ρ ρ' : SlW) (h : HW) (Q : L2.St → Hp → Prop), RWs K H h v w → SR K H h σ ρ → f w ρ = some ρ' → (∀ σ', L2.wipe σ' js = L2.wipe σ js → SR K H h σ' ρ' → Q σ' H) → g v σ H Q
section
variable {K : PySem.W.Frag} {js : List Nat}
theorem tgN {j : Nat} (m : j ∈ js) : TgOk K js (gName j) (gfN j) := fun v w σ H ρ ρ' h Q r s e k => by
  cases e
  exact k _ (wipe_set m) (s.set r j)
theorem tgNil : TgsOk K js gNil gfNil := fun v w σ H ρ ρ' h Q r s e k => by
  cases w with
  | nil => cases r; cases e; exact ⟨rfl, k _ rfl s⟩
  | cons => cases e
theorem tgCons {g : TG} {f : TGF} {gs : TGs} {fs : TGsF} (a : TgOk K js g f) (b : TgsOk K js gs fs) : TgsOk K js (gCons g gs) (gfCons f fs) := fun v w σ H ρ ρ' h Q r s e k => by
  cases w with
  | nil => cases e
  | cons w ws =>
    cases r with
    | cons r q =>
      unfold gfCons at e
      dsimp only at e
      split at e
      · rename_i ρ1 e1
        exact ⟨_, _, rfl, a _ _ σ H ρ ρ1 h _ r s e1 fun σ1 w1 s1 => b _ _ σ1 H ρ1 ρ' h _ q s1 e fun σ2 w2 s2 => k σ2 (w2.trans w1) s2⟩
      · cases e
theorem tgT {n : Nat} {gs : TGs} {fs : TGsF} (b : TgsOk K js gs fs) : TgOk K js (gTup K n gs) (gfT n fs) := fun v w σ H ρ ρ' h Q r s e k => by
  unfold gfT at e
  split at e
  · split at e
    · rename_i l
      cases r with
      | tup f q => exact ⟨_, _, rfl, f.sq, by rw [q.length]; exact l, b _ _ σ H ρ ρ' h Q q s e k⟩
    · cases e
  · cases e
end
section
variable {X : Cx} {L : Lk}
def oLcT (ti : TIW) (js : List Nat) (gf : TGF) (tt : TTW) (te : TEW) : TEW := fun ρ h R => ti ρ h fun ws h1 => ws.length ≤ 16000000 ∧ ∀ p, h1 p = none → ∃ Pv : Nat → List W → HW → Prop, Pv 0 [] h1 ∧
  (∀ i w acc h', ws[i]? = some w → h' p = none → acc.length ≤ i → Pv i acc h' → ∃ ρ', gf w (wipeW ρ js) = some ρ' ∧ tt ρ' (updW h' p (.lst acc)) fun b h3 => if b = true then te ρ' h3 fun y h4 => ∃ h5, Sub (updW h5 p (.lst acc)) h4 ∧ h5 p = none ∧ Pv (i + 1) (acc ++ [y]) h5
    else ∃ h5, Sub (updW h5 p (.lst acc)) h3 ∧ h5 p = none ∧ Pv (i + 1) acc h5) ∧ ∀ acc h', h' p = none → Pv ws.length acc h' → R (.lst acc) h'
theorem lcT_imp {K : PySem.W.Frag} {ti : TIW} {js : List Nat} {g : TG} {gf : TGF} (G : TgOk K js g gf) {tt : TTW} {te : TEW} : ∀ σ H Q, lE K L (oLcT ti js gf tt te) σ H Q → tLc (lI K L ti) g (lT K L tt) (lE K L te) js σ H Q := fun σ H Q ⟨ρ, h, R, S, t, k⟩ =>
  ⟨ρ, h, _, S, t, fun ws h1 J H1 ⟨hz, t1⟩ s1 r1 I D hD => by
    obtain ⟨Pv, p0, turn, fin⟩ := t1 D (r1.fresh hD)
    refine ⟨fun i m H2 => m = ws.length - i ∧ i ≤ ws.length ∧ ∃ acc h', Pv i acc h' ∧ h' D = none ∧ acc.length ≤ i ∧ HR K H2 (updW h' D (.lst acc)) ∧ ST H1 h1 H2 (updW h' D (.lst acc)), ⟨_, rfl, Nat.zero_le _, [], h1, p0, r1.fresh hD, Nat.le_refl _, ?_, .newO hD _ _⟩, ?_⟩
    · exact r1.newO hD ⟨[], upd_same, .nil⟩
    · rintro i m H2 ⟨rfl, hi, acc, h2, p, n2, ha, hr2, st2⟩
      by_cases hlt : i < ws.length
      · have hw : ws[i]? = some ws[i] := List.getElem?_eq_getElem hlt
        obtain ⟨go, yl⟩ := I.step i H2 _ ws[i] st2 hr2 hw
        refine .inr ⟨go, fun H3 => ∃ acc h', Pv (i + 1) acc h' ∧ h' D = none ∧ acc.length ≤ i + 1 ∧ HR K H3 (updW h' D (.lst acc)) ∧ ST H1 h1 H3 (updW h' D (.lst acc)), fun H3 p' => ⟨ws.length - (i + 1), by omega, rfl, hlt, p'⟩, fun x H3 y => ?_⟩
        obtain ⟨st3, hr3, rx⟩ := yl x H3 y
        obtain ⟨ρ', eg, turn⟩ := turn i _ acc h2 hw n2 ha p
        have sr0 := (((S.sr.mono s1).mono st2).mono st3).wipe js
        refine G _ _ _ _ _ ρ' _ _ rx sr0 eg fun σ2 w2 sr2 => ⟨w2.trans (wipe_idem σ js), ρ', _, _, ⟨sr2, hr3, L.mono (L.mono (L.mono S.el s1) st2) st3⟩, turn, ?_⟩
        intro b h4 H4 t4 s4 r4
        have tot : ST H1 h1 H4 h4 := (st2.trans st3).trans s4
        cases b with
        | false =>
          obtain ⟨h5, sub, n5, p5⟩ := t4
          exact ⟨acc, h5, p5, n5, Nat.le_succ_of_le ha, r4.drop sub, tot.trans (.drop sub)⟩
        | true =>
          refine ⟨_, h4, _, ⟨sr2.mono s4, r4, L.mono (L.mono (L.mono (L.mono S.el s1) st2) st3) s4⟩, t4, fun y h5 v H5 ⟨h6, sub, n6, p6⟩ s5 r5 q5 => ?_⟩
          have hp : h5 D = some (.lst acc) := sub D _ updW_same
          obtain ⟨vs, hv, q⟩ := r5 D _ hp
          refine ⟨vs, hv, by rw [q.length]; exact Nat.lt_of_le_of_lt (Nat.le_trans ha hi) (sz_lt hz), acc ++ [y], h6, p6, n6, by rw [List.length_append]; exact Nat.succ_le_succ ha, ?_, ?_⟩
          all_goals
            have s6 : ST H5 h5 (upd H5 D (.lst (vs ++ [v]))) (updW h5 D (.lst (acc ++ [y]))) := .mut hp _ _
            have r6 : HR K (upd H5 D (.lst (vs ++ [v]))) (updW h5 D (.lst (acc ++ [y]))) := r5.mut hp ⟨_, upd_same, ((q.mono s6).append (.cons (q5.mono s6) .nil))⟩
            have sub6 : Sub (updW h6 D (.lst (acc ++ [y]))) (updW h5 D (.lst (acc ++ [y]))) := fun b o e => by
              by_cases hb : b = D
              · subst hb; rw [updW_same] at e ⊢; exact e
              · rw [updW_ne hb] at e ⊢
                exact sub b o (by rw [updW_ne hb]; exact e)
          · exact r6.drop sub6
          · exact ((tot.trans s5).trans s6).trans (.drop sub6)
      · have e : i = ws.length := by omega
        subst e
        obtain ⟨vs, hv, q⟩ := hr2 D _ updW_same
        have sub : Sub h2 (updW h2 D (.lst acc)) := .new n2
        exact .inl ⟨I.stop _ H2 _ st2 hr2 (Nat.le_refl _), k _ h2 _ H2 (fin acc h2 n2 p) ((s1.trans st2).trans (.drop sub)) (hr2.drop sub) (.lst ⟨hv, n2⟩ (q.mono (.drop sub)))⟩⟩
theorem w_lcT {elt tg iter : Expr} {ifs : List Expr} {scope : Scope} {own : List (Str × Nat)} {pos : Pos} {ti : TIW} {g : TG} {gf : TGF} {tt : TTW} {te : TEW} (hc : X.calm = true) (hN : X.N.Nodup) (G : TgOk X.K (own.map (·.2)) g gf) (hi : WI X L tg iter ti) (ok : BlkOk X.N X.env.scope scope own)
    (hg : ∀ (s : Shared) (H : Hp) (C : Addr) (cl : List (Str × Addr)) (fp : List Addr), PG (X.blk s H scope (compEnvC scope cl C X.env) fp) tg g) (ht : ∀ (s : Shared) (H : Hp) (C : Addr) (cl : List (Str × Addr)) (fp : List Addr), WTs (X.blk s H scope (compEnvC scope cl C X.env) fp) L ifs tt)
    (he : ∀ (s : Shared) (H : Hp) (C : Addr) (cl : List (Str × Addr)) (fp : List Addr), WE (X.blk s H scope (compEnvC scope cl C X.env) fp) L elt te) (hs : ∀ x, foldedSetIterable iter X.env x = pure x := by intro _; rfl) :
    WE X L (.ListComp elt [⟨tg, iter, ifs, 0⟩] scope pos) (oLcT ti (own.map (·.2)) gf tt te) := (pe_lc hc hN hi ok hg ht he hs).imp (lcT_imp G)
theorem ws_setLcT {i : Nat} {y : Str} {py : Pos} {elt tg iter : Expr} {ifs : List Expr} {scope : Scope} {own : List (Str × Nat)} {pos spos : Pos} {ti : TIW} {g : TG} {gf : TGF} {tt : TTW} {te : TEW} (hc : X.calm = true) (hN : X.N.Nodup) (hy : X.N[i]? = some y) (hyl : X.env.scope.names.lookup y = some .local)
    (hsw : swapsWith (.ListComp elt [⟨tg, iter, ifs, 0⟩] scope pos) (some (.Name y py)) spos.line X.env = pure true) (G : TgOk X.K (own.map (·.2)) g gf) (hi : WI X L tg iter ti) (ok : BlkOk X.N X.env.scope scope own)
    (hg : ∀ (s : Shared) (H : Hp) (C : Addr) (cl : List (Str × Addr)) (fp : List Addr), PG (X.blk s H scope (compEnvC scope cl C X.env) fp) tg g) (ht : ∀ (s : Shared) (H : Hp) (C : Addr) (cl : List (Str × Addr)) (fp : List Addr), WTs (X.blk s H scope (compEnvC scope cl C X.env) fp) L ifs tt)
    (he : ∀ (s : Shared) (H : Hp) (C : Addr) (cl : List (Str × Addr)) (fp : List Addr), WE (X.blk s H scope (compEnvC scope cl C X.env) fp) L elt te) (hs : ∀ x, foldedSetIterable iter X.env x = pure x := by intro _; rfl) :
    WS X L (.Assign [.Name y py] (.ListComp elt [⟨tg, iter, ifs, 0⟩] scope pos) spos) (sAsg (oLcT ti (own.map (·.2)) gf tt te) (gN i)) := (ps_setLc hc hN hy hyl hsw hi ok hg ht he hs).imp fun D σ H ⟨ρ, h, DW, S, t, k⟩ =>
  lcT_imp G σ H _ ⟨ρ, h, _, S, t, fun w1 h1 v1 H1 t1 s1 r1 q1 => k.nx _ h1 _ H1 t1 s1 r1 ((S.sr.mono s1).set q1 i)⟩
theorem go_lcTI {ti : TIW} {js : List Nat} {gf : TGF} {tb : TEW} {ρ : SlW} {h : HW} {R : KW} (ws fs : List W) (ev : ∀ P : List W → HW → Prop, P ws h → ti ρ h P) (hl : fs.length = ws.length) (hz : ws.length ≤ 16000000)
    (el : ∀ (i : Nat) (w y : W) (h' : HW) (R' : KW), ws[i]? = some w → fs[i]? = some y → R' y h' → ∃ ρ', gf w (wipeW ρ js) = some ρ' ∧ tb ρ' h' R') (k : R (.lst fs) h) : oLcT ti js gf oYes tb ρ h R := by
  refine ev _ ⟨hz, fun p hp => ⟨fun i acc h' => acc = fs.take i ∧ h' = h, ⟨rfl, rfl⟩, ?_, ?_⟩⟩
  · rintro i w acc h' e n hla ⟨rfl, rfl⟩
    have hi : i < fs.length := by rw [hl]; exact (List.getElem?_eq_some_iff.mp e).1
    obtain ⟨ρ', eg, go⟩ := el i w fs[i] (updW h' p (.lst (fs.take i))) (fun y h4 => ∃ h5, Sub (updW h5 p (.lst (fs.take i))) h4 ∧ h5 p = none ∧ (fs.take i) ++ [y] = fs.take (i + 1) ∧ h5 = h') e (List.getElem?_eq_getElem hi) ⟨_, .refl _, hp, by rw [List.take_add_one, List.getElem?_eq_getElem hi]; rfl, rfl⟩
    refine ⟨ρ', eg, go_yes ?_⟩
    rw [if_pos rfl]
    exact go
  · rintro acc h' n ⟨rfl, rfl⟩
    rw [← hl, List.take_length]; exact k
end
theorem go_truB {b : Bool} {RB : Bool → HW → Prop} {h : HW} (k : RB b h) : truK (truW (.bl b) h) RB h := k
end Wl

set_option Elab.async false
set_option linter.all false
set_option maxRecDepth 100000
namespace Wl
open PySem PySem.Spec PyProof.Rows L2
/-! ## instances of own classes -/
def putFW (f : Str) (w : W) : List (Str × W) → List (Str × W)
  | [] => [(f, w)]
  | (k, x) :: r => if k = f then (k, w) :: r else (k, x) :: putFW f w r
section
variable {K : PySem.W.Frag} {H : Hp} {h : HW}
theorem RFs.lookup {f : Str} {w : W} : ∀ {gs : List (Str × V)} {fs : List (Str × W)}, RFs K H h gs fs → fs.lookup f = some w → ∃ v, gs.lookup f = some v ∧ RW K H h v w
  | _, _, .nil, e => by cases e
  | _, _, @RFs.cons _ _ _ k v w' vs ws r t, e => by
    simp only [List.lookup] at e ⊢
    by_cases c : (f == k) = true
    · rw [c] at e ⊢; cases e; exact ⟨v, rfl, r⟩
    · rw [Bool.eq_false_iff.mpr c] at e ⊢; exact RFs.lookup t e
theorem RFs.lookup_none {f : Str} : ∀ {gs : List (Str × V)} {fs : List (Str × W)}, RFs K H h gs fs → fs.lookup f = none → gs.lookup f = none
  | _, _, .nil, e => rfl
  | _, _, @RFs.cons _ _ _ k v w' vs ws r t, e => by
    simp only [List.lookup] at e ⊢
    by_cases c : (f == k) = true
    · rw [c] at e; cases e
    · rw [Bool.eq_false_iff.mpr c] at e ⊢; exact RFs.lookup_none t e
theorem RFs.length : ∀ {gs : List (Str × V)} {fs : List (Str × W)}, RFs K H h gs fs → gs.length = fs.length
  | _, _, .nil => rfl
  | _, _, .cons _ t => congrArg (· + 1) t.length
theorem RFs.put {f : Str} {v : V} {w : W} (q : RW K H h v w) : ∀ {gs : List (Str × V)} {fs : List (Str × W)}, RFs K H h gs fs → RFs K H h (putF f v gs) (putFW f w fs)
  | _, _, .nil => .cons q .nil
  | _, _, @RFs.cons _ _ _ k v' w' vs ws r t => by
    show RFs K H h (if k = f then (k, v) :: vs else (k, v') :: putF f v vs) (if k = f then (k, w) :: ws else (k, w') :: putFW f w ws)
    by_cases c : k = f
    · rw [if_pos c, if_pos c]; exact .cons q t
    · rw [if_neg c, if_neg c]; exact .cons r (RFs.put q t)
theorem ins_at {a C : Addr} {fs : List (Str × W)} (hr : HR K H h) (e : h a = some (.ins C fs)) : ∃ dx gs, H a = some (.ins C dx gs) ∧ RFs K H h gs fs := hr a _ e
end
section
variable {X : Cx} {L : Lk} {C : Addr} {f m x : Str} {e o : Expr} {es : List Expr} {te to tv : TEW} {t : TAW} {pos apos p : Pos}
def fldK (C : Addr) (f : Str) (x : W) (h : HW) (R : KW) : Prop := match x with
  | .ref a => ∃ fs w, h a = some (.ins C fs) ∧ fs.lookup f = some w ∧ R w h
  | _ => False
def oFld (C : Addr) (f : Str) (te : TEW) : TEW := fun ρ h R => te ρ h fun x h1 => fldK C f x h1 R
theorem w_fld (c : Cls X.K C) (n : NoAttr X.K C f) (he : WE X L e te) (hb : attributeBase e f X.env (eval e X.env) = eval e X.env := by rfl) : WE X L (.Attribute e f pos) (oFld C f te) := (pe_fld he hb).imp fun σ H Q ⟨ρ, h, R, S, t, k⟩ =>
  ⟨ρ, h, _, S, t, fun w1 h1 v1 H1 t1 s1 r1 q1 => by
    unfold fldK at t1
    split at t1
    · obtain ⟨fs, w, ea, l, t1⟩ := t1
      cases q1
      obtain ⟨dx, gs, eH, rf⟩ := ins_at r1 ea
      obtain ⟨v, lv, rv⟩ := rf.lookup l
      exact ⟨_, C, dx, gs, v, rfl, eH, c, n, lv, k _ h1 _ H1 t1 s1 r1 rv⟩
    · exact t1.elim⟩
/-- o.f = v -/
def putK (C : Addr) (f : Str) (x v : W) (P : HW → Prop) (h : HW) : Prop := match x with
  | .ref a => ∃ fs, h a = some (.ins C fs) ∧ fs.length < 1000 ∧ P (updW h a (.ins C (putFW f v fs)))
  | _ => False
def sFldW (C : Addr) (f : Str) (to tv : TEW) : TSW := fun D ρ h => tv ρ h fun v h1 => to ρ h1 fun x h2 => putK C f x v (D.nx ρ) h2
theorem ws_fld {value : Expr} {pos' : Pos} (c : Cls X.K C) (n : NoAttr X.K C f) (ho : WE X L o to) (hv : WE X L value tv) (hs : swapsWith value (some (.Attribute o f pos')) pos.line X.env = pure false := by rfl) :
    WS X L (.Assign [.Attribute o f pos'] value pos) (sFldW C f to tv) := (ps_fld ho hv hs).imp fun D σ H ⟨ρ, h, DW, S, t, k⟩ =>
  ⟨ρ, h, _, S, t, fun w1 h1 v1 H1 t1 s1 r1 q1 => ⟨ρ, h1, _, S.to s1 r1, t1, fun w2 h2 v2 H2 t2 s2 r2 q2 => by
    unfold putK at t2
    split at t2
    · obtain ⟨fs, ea, l, t2⟩ := t2
      cases q2
      obtain ⟨dx, gs, eH, rf⟩ := ins_at r2 ea
      have st := ST.mut (H := H2) ea (.ins C dx (putF f v1 gs)) (.ins C (putFW f w1 fs))
      refine ⟨_, C, dx, gs, rfl, eH, c, n, by rw [rf.length]; exact l, k.nx ρ _ _ _ t2 ((s1.trans s2).trans st) ?_ ((S.sr.mono (s1.trans s2)).mono st)⟩
      exact r2.mut ea ⟨dx, _, upd_same, (rf.mono st).put ((q1.mono s2).mono st)⟩
    · exact t2.elim⟩⟩
/-- o.f op= v -/
def sFldAugW (C : Addr) (f : Str) (to tv : TEW) (rw : RW2) : TSW := fun D ρ h => to ρ h fun x h1 => fldK C f x h1 fun y h2 => tv ρ h2 fun z h3 => rw y z h3 fun u h4 => putK C f x u (D.nx ρ) h4
theorem ws_fldaug {value : Expr} {tpos : Pos} {op : Operator} {r : R2} {rw : RW2} (c : Cls X.K C) (n : NoAttr X.K C f) (ho : WE X L o to) (hv : WE X L value tv) (hop : OpR X (inplaceOp op) r) (l : Lf2 X.K r rw) :
    WS X L (.AugAssign (.Attribute o f tpos) op value pos) (sFldAugW C f to tv rw) := (ps_fldaug (rd := r) ho hv (fun pins s σ H x y u v Q I rx ry q => hop pins s σ H x y u v Q I rx ry q)).imp fun D σ H ⟨ρ, h, DW, S, t, k⟩ =>
  ⟨ρ, h, _, S, t, fun w1 h1 v1 H1 t1 s1 r1 q1 => by
    unfold fldK at t1
    split at t1
    · obtain ⟨fs, w, ea, lk, t1⟩ := t1
      cases q1
      obtain ⟨dx, gs, eH, rf⟩ := ins_at r1 ea
      obtain ⟨v, lv, rv⟩ := rf.lookup lk
      refine ⟨_, C, dx, gs, v, rfl, eH, c, n, lv, ρ, h1, _, S.to s1 r1, t1, fun w2 h2 v2 H2 t2 s2 r2 q2 => l v v2 H2 _ w w2 h2 _ (rv.mono s2) q2 r2 t2 fun w3 h3 v3 H3 t3 s3 r3 q3 => ?_⟩
      obtain ⟨fs', ea', l', t3⟩ := t3
      obtain ⟨dx', gs', eH', rf'⟩ := ins_at r3 ea'
      have st := ST.mut (H := H3) ea' (.ins C dx' (putF f v3 gs')) (.ins C (putFW f w3 fs'))
      refine ⟨dx', gs', eH', by rw [rf'.length]; exact l', k.nx ρ _ _ _ t3 (((s1.trans s2).trans s3).trans st) ?_ ((S.sr.mono ((s1.trans s2).trans s3)).mono st)⟩
      exact r3.mut ea' ⟨dx', _, upd_same, (rf'.mono st).put (q3.mono st)⟩
    · exact t1.elim⟩
/-! ### methods -/
variable {CX : CXT} {k : Nat} {g : Addr} {fd : FuncData} {ps : List Str} {sp : SpW} {ex : XW → HW → Prop} {E : XK}
def methK (C : Addr) (m : Str) (x : W) (h : HW) (P : Prop) : Prop := match x with
  | .ref a => (∃ fs, h a = some (.ins C fs) ∧ fs.lookup m = none) ∧ P
  | _ => False
def oMeth (C : Addr) (m : Str) (sp : SpW) (ex : XW → HW → Prop) (to : TEW) (t : TAW) : TEW := fun ρ h R => to ρ h fun x h1 => methK C m x h1 (t ρ h1 fun ws h2 => sp (x :: ws) h2 R ex)
theorem w_methG {pl : Sem Bool} (c : Cls X.K C) (hm : Meth X.K C m g) (F : FnOk X.prog X.w X.K X.mg X.base CX k g fd ps (lSp X.K sp)) (hr : Room k X.A) (hb : Binds X.K fd ps []) (hx : Passes CX X E) (hE : ∀ H h, L.el H h → (Lk.of X.K E ex).el H h)
    (ho : WE X L o to) (ha : WA X L (e :: es) t) (hst : starEach (e :: es) X.env = (false, eval e X.env) :: starEach es X.env := by rfl) (hpl : (backTo pos (starEach es X.env)).any (·.1) = false := by rfl)
    (ht : eval (.Call (.Attribute o m apos) (e :: es) [] pos) X.env = (do
      let ov ← eval o X.env
      standAt apos.atName
      let (f, first) ← holding [ov] (getMethod ov m pl)
      callWith pos f first (backTo pos (starEach (e :: es) X.env)) (backToKw pos (keywordEach [] X.env))) := by rfl) :
    WE X L (.Call (.Attribute o m apos) (e :: es) [] pos) (oMeth C m sp ex to t) := (pe_meth ho c hm F hr hb .nil hx ha hst hpl ht).imp fun σ H Q ⟨ρ, h, R, S, t, k⟩ =>
  ⟨ρ, h, _, S, t, fun w1 h1 v1 H1 t1 s1 r1 q1 => by
    unfold methK at t1
    split at t1
    · obtain ⟨⟨fs, ea, l⟩, t1⟩ := t1
      cases q1
      obtain ⟨dx, gs, eH, rf⟩ := ins_at r1 ea
      refine ⟨_, dx, gs, rfl, eH, rf.lookup_none l, ρ, h1, _, S.to s1 r1, t1, fun ws h2 vs H2 t2 s2 r2 q2 => ?_⟩
      show lSp X.K sp (_ :: (vs ++ [])) H2 Q E
      rw [List.append_nil]
      exact ⟨_, h2, R, ex, .cons (.ref _) q2, r2, t2, k.mono (s1.trans s2), hE _ _ (L.mono S.el (s1.trans s2))⟩
    · exact t1.elim⟩
theorem w_meth0G {pl : Sem Bool} (c : Cls X.K C) (hm : Meth X.K C m g) (F : FnOk X.prog X.w X.K X.mg X.base CX k g fd ps (lSp X.K sp)) (hr : Room k X.A) (hb : Binds X.K fd ps []) (hx : Passes CX X E) (hE : ∀ H h, L.el H h → (Lk.of X.K E ex).el H h)
    (ho : WE X L o to)
    (ht : eval (.Call (.Attribute o m apos) [] [] pos) X.env = (do
      let ov ← eval o X.env
      standAt apos.atName
      let (f, first) ← holding [ov] (getMethod ov m pl)
      callWith pos f first (backTo pos (starEach [] X.env)) (backToKw pos (keywordEach [] X.env))) := by rfl) :
    WE X L (.Call (.Attribute o m apos) [] [] pos) (oMeth C m sp ex to oNil) := (pe_meth0 ho c hm F hr hb .nil hx ht).imp fun σ H Q ⟨ρ, h, R, S, t, k⟩ =>
  ⟨ρ, h, _, S, t, fun w1 h1 v1 H1 t1 s1 r1 q1 => by
    unfold methK at t1
    split at t1
    · obtain ⟨⟨fs, ea, l⟩, t1⟩ := t1
      cases q1
      obtain ⟨dx, gs, eH, rf⟩ := ins_at r1 ea
      refine ⟨_, dx, gs, rfl, eH, rf.lookup_none l, ?_⟩
      exact ⟨_, h1, R, ex, .cons (.ref _) .nil, r1, t1, k.mono s1, hE _ _ (L.mono S.el s1)⟩
    · exact t1.elim⟩
/-! ### a new instance -/
def makeK (C : Addr) (sp : SpW) (ex : XW → HW → Prop) (ws : List W) (h1 : HW) (R : KW) : Prop := ∀ x, h1 x = none → sp (.ref x :: ws) (updW h1 x (.ins C [])) (fun w h2 => w = .non ∧ R (.ref x) h2) ex
def oMake (C : Addr) (sp : SpW) (ex : XW → HW → Prop) (t : TAW) : TEW := fun ρ h R => t ρ h fun ws h1 => makeK C sp ex ws h1 R
theorem make_sp {K : PySem.W.Frag} {H1 : Hp} {h1 : HW} {vs : List V} {ws : List W} {R : KW} {Q : VK} (q1 : RWs K H1 h1 vs ws) (r1 : HR K H1 h1) (t1 : makeK C sp ex ws h1 R) (kv : KV K H1 h1 R Q) (el : (Lk.of K E ex).el H1 h1) (x dx : Addr) (ex' : H1 x = none) (ed : H1 dx = none) :
    lSp K sp (.ref x :: (vs ++ [])) (upd (upd H1 dx (.own x)) x (.ins C dx [])) (fun v H2 => v = .non ∧ Q (.ref x) H2) E := by
  have st : ST H1 h1 (upd (upd H1 dx (.own x)) x (.ins C dx [])) (updW h1 x (.ins C [])) := .newI (fs := []) ex' ed _
  have hr2 : HR K (upd (upd H1 dx (.own x)) x (.ins C dx [])) (updW h1 x (.ins C [])) := r1.newI ex' ed
  rw [List.append_nil]
  refine ⟨_, _, _, ex, .cons (.ref x) (q1.mono st), hr2, t1 x (r1.fresh ex'), ?_, (Lk.of K E ex).mono el st⟩
  rintro w h' v H' ⟨rfl, rr⟩ s' hr' rw'
  cases rw'
  exact ⟨rfl, kv _ h' _ H' rr (st.trans s') hr' (.ref x)⟩
theorem w_makeG (M : Mk X.K C g) (F : FnOk X.prog X.w X.K X.mg X.base CX k g fd ps (lSp X.K sp)) (hr : Room (k + 1) X.A) (hg : Gl X x) (hm : X.mg x = some (.ref C)) (hb : Binds X.K fd ps []) (hx : Passes CX X E) (hE : ∀ H h, L.el H h → (Lk.of X.K E ex).el H h)
    (ha : WA X L (e :: es) t) (hdb : (x == ("__debug__" : Str)) = false := by decide) (he : starEach (e :: es) X.env = (false, eval e X.env) :: starEach es X.env := by rfl) (hpl : (backTo pos (starEach es X.env)).any (·.1) = false := by rfl) :
    WE X L (.Call (.Name x p) (e :: es) [] pos) (oMake C sp ex t) := (pe_make M F hr hg hm hb .nil hx ha hdb he hpl).imp fun σ H Q ⟨ρ, h, R, S, t, k⟩ =>
  ⟨ρ, h, _, S, t, fun ws h1 vs H1 t1 s1 r1 q1 x dx ex' ed ne => make_sp q1 r1 t1 (k.mono s1) (hE _ _ (L.mono S.el s1)) x dx ex' ed⟩
theorem w_make0G (M : Mk X.K C g) (F : FnOk X.prog X.w X.K X.mg X.base CX k g fd ps (lSp X.K sp)) (hr : Room (k + 1) X.A) (hg : Gl X x) (hm : X.mg x = some (.ref C)) (hb : Binds X.K fd ps []) (hx : Passes CX X E) (hE : ∀ H h, L.el H h → (Lk.of X.K E ex).el H h)
    (hdb : (x == ("__debug__" : Str)) = false := by decide) : WE X L (.Call (.Name x p) [] [] pos) (oMake C sp ex oNil) := (pe_make0 M F hr hg hm hb .nil hx hdb).imp fun σ H Q ⟨ρ, h, R, S, t, k⟩ =>
  fun x dx ex' ed ne => make_sp (vs := []) (ws := []) .nil S.hr t k (hE _ _ S.el) x dx ex' ed
end
section
variable {C : Addr} {f m : Str} {te to tv : TEW} {t : TAW} {ρ : SlW} {h : HW} {R : KW} {D : EndsW} {sp : SpW} {ex : XW → HW → Prop} {a : Addr} {w v : W} {fs : List (Str × W)}
theorem go_fld (k : te ρ h fun x h1 => fldK C f x h1 R) : oFld C f te ρ h R := k
theorem go_fldK (e : h a = some (.ins C fs)) (l : fs.lookup f = some w) (k : R w h) : fldK C f (.ref a) h R := ⟨fs, w, e, l, k⟩
theorem go_sfld (k : tv ρ h fun v h1 => to ρ h1 fun x h2 => putK C f x v (D.nx ρ) h2) : sFldW C f to tv D ρ h := k
theorem go_putK {P : HW → Prop} (e : h a = some (.ins C fs)) (l : fs.length < 1000) (k : P (updW h a (.ins C (putFW f v fs)))) : putK C f (.ref a) v P h := ⟨fs, e, l, k⟩
theorem go_sfldaug {rw : RW2} (k : to ρ h fun x h1 => fldK C f x h1 fun y h2 => tv ρ h2 fun z h3 => rw y z h3 fun u h4 => putK C f x u (D.nx ρ) h4) : sFldAugW C f to tv rw D ρ h := k
theorem go_meth (k : to ρ h fun x h1 => methK C m x h1 (t ρ h1 fun ws h2 => sp (x :: ws) h2 R ex)) : oMeth C m sp ex to t ρ h R := k
theorem go_methK {P : Prop} (e : h a = some (.ins C fs)) (l : fs.lookup m = none) (k : P) : methK C m (.ref a) h P := ⟨⟨fs, e, l⟩, k⟩
theorem go_make (k : t ρ h fun ws h1 => makeK C sp ex ws h1 R) : oMake C sp ex t ρ h R := k
end
end Wl
namespace Wl
open PySem PySem.Spec PyProof.Rows L2
/-! ## {e!r} of a text: some text -/
def fmtRW : W → HW → KW → Prop := fun x h R => match x with
  | .str s => (∀ c ∈ s, c < 1114112) ∧ s.length ≤ 1000000 ∧ ∀ r : List Nat, r.length ≤ 12 * s.length + 20 → R (.str r) h
  | _ => False
theorem w_fmtR {X : Cx} {L : Lk} {e : Expr} {te : TEW} {pos : Pos} (he : WE X L e te) : WE X L (.FormattedValue e 114 none pos) (oUn fmtRW te) := (pe_fmtR he).imp fun σ H Q ⟨ρ, h, R, S, t, k⟩ =>
  ⟨ρ, h, _, S, t, fun w1 h1 v1 H1 t1 s1 r1 q1 => by
    unfold fmtRW at t1
    split at t1
    · rename_i s
      cases q1
      obtain ⟨a, b, t1⟩ := t1
      have l := StrLaws.reprText_len (mkS s) (by intro c hc; exact Nat.lt_of_lt_of_le (a c (by simpa [mkS] using hc)) (by decide))
      have l2 : (reprText (mkS s)).length ≤ 12 * s.length + 20 := by rw [mkS_length] at l; omega
      refine .inl ⟨_, rfl, sz_big (by omega), ?_⟩
      rw [mkS_list (reprText (mkS s))]
      exact k _ h1 _ H1 (t1 _ (by simpa [Str.length] using l2)) s1 r1 (.str _)
    · exact t1.elim⟩
theorem go_fmtR {R : KW} {h : HW} {s : List Nat} (a : ∀ c ∈ s, c < 1114112) (b : s.length ≤ 1000000) (k : ∀ r : List Nat, r.length ≤ 12 * s.length + 20 → R (.str r) h) : fmtRW (.str s) h R := ⟨a, b, k⟩
end Wl

set_option Elab.async false
set_option linter.all false
set_option maxRecDepth 100000
namespace Wl
open PySem PySem.Spec PyProof.Rows L2
theorem del_sub {h : HW} {p : Addr} : Sub (delW h p) h := fun b o e => by
  unfold delW at e
  split at e
  · cases e
  · exact e
/-! ## a list that is walked: nobody owns it any more -/
section
variable {X : Cx} {L : Lk} {tg e : Expr} {te : TEW} {pos p : Pos}
def walkK (x : W) (h1 : HW) (P : List W → HW → Prop) : Prop := match x with
  | .lst ws => P ws h1
  | .scr ws => P ws h1
  | .ref p => (match h1 p with | some (.lst ws) => P ws (delW h1 p) | _ => False)
  | _ => False
theorem walk_at_ {K : PySem.W.Frag} {H : Hp} {h : HW} {v : V} {x : W} {P : List W → HW → Prop} (hr : HR K H h) (r : RW K H h v x) (t : walkK x h P) : ∃ a vs ws h', v = .ref a ∧ P ws h' ∧ Sub h' h ∧ (∀ H2 h2, ST H h' H2 h2 → SqL K H2 a vs) ∧ SqL K H a vs ∧ RWs K H h' vs ws := by
  unfold walkK at t
  split at t
  · cases r with | lst f q => exact ⟨_, _, _, h, rfl, t, .refl _, fun _ _ st => (f.mono st).sq, f.sq, q⟩
  · cases r with | scr f q => exact ⟨_, _, _, h, rfl, t, .refl _, fun _ _ st => (f.mono st).sq, f.sq, q⟩
  · split at t
    · rename_i p _ ws hp
      cases r
      obtain ⟨vs, a, q⟩ := hr _ _ hp
      have f : FzL H (delW h p) p vs := ⟨a, delW_same⟩
      exact ⟨_, _, _, _, rfl, t, del_sub, fun _ _ st => (f.mono st).sq, SqL.of a, q.mono (.drop del_sub)⟩
    · exact t.elim
  · exact t.elim
def oItA (te : TEW) : TIW := fun ρ h P => te ρ h fun x h1 => walkK x h1 P
theorem wi_any (he : WE X L e te) : WI X L tg e (oItA te) := (pi_list he).imp fun σ H Q ⟨ρ, h, P, S, t, k⟩ =>
  ⟨ρ, h, _, S, t, fun w1 h1 v1 H1 t1 s1 r1 q1 => by
    obtain ⟨a, vs, ws, h', rfl, t2, sub, f, sq, q⟩ := walk_at_ r1 q1 t1
    exact ⟨_, rfl, ⟨_, sq⟩, k _ h' _ H1 t2 (s1.trans (.drop sub)) (r1.drop sub) (itSq f q)⟩⟩
/-- reversed(xs) -/
def oItRv (te : TEW) : TIW := fun ρ h P => te ρ h fun x h1 => walkK x h1 fun ws h2 => P ws.reverse h2
theorem itRv {K : PySem.W.Frag} {H : Hp} {h : HW} {a : Addr} {vs : List V} {ws : List W} (f : ∀ H' h', ST H h H' h' → SqL K H' a vs) (r : RWs K H h vs ws) : ItW K (Itv K a vs.length) H h ws.reverse where
  step := fun i H1 h1 w st hr e => by
    have hi : i < ws.length := by have := (List.getElem?_eq_some_iff.mp e).1; simpa using this
    rw [List.getElem?_reverse hi] at e
    obtain ⟨v, e1, e2⟩ := (r.mono st).get e
    rw [← r.length] at e1 hi
    refine ⟨⟨hi, vs, v, f _ _ st, e1⟩, fun x H' ⟨eH, y⟩ => ?_⟩
    subst eH
    have := y vs (f _ _ st)
    rw [e1] at this; cases this
    exact ⟨.refl _ _, hr, e2⟩
  stop := fun i H1 h1 st hr e => by rw [List.length_reverse, ← r.length] at e; exact e
theorem wi_rev (hg : Gl X "reversed") (hm : X.mg "reversed" = none) (he : WE X L e te) (hs : starEach [e] X.env = (false, eval e X.env) :: starEach [] X.env := by rfl) : WI X L tg (.Call (.Name "reversed" p) [e] [] pos) (oItRv te) := (RT.pi_revA hg hm he hs).imp fun σ H Q ⟨ρ, h, P, S, t, k⟩ =>
  ⟨ρ, h, _, S, t, fun w1 h1 v1 H1 t1 s1 r1 q1 => by
    obtain ⟨a, vs, ws, h', rfl, t2, sub, f, sq, q⟩ := walk_at_ r1 q1 t1
    exact ⟨_, vs, rfl, .inl ⟨sq, k _ h' _ H1 t2 (s1.trans (.drop sub)) (r1.drop sub) (itRv f q)⟩⟩⟩
end
/-! ## int(text) -/
def intStrW : List W → HW → KW → Prop := fun ws h R => match ws with
  | [.str s] => ∃ n, PySem.intText? (mkS s) = some n ∧ s.length ≤ 640 ∧ R (.int n) h
  | _ => False
theorem lf_intStr {K : PySem.W.Frag} : LfC K (fun xs H Q => ∃ a n, xs = [.str a] ∧ PySem.intText? a = some n ∧ a.length ≤ 640 ∧ Q (.int n) H) intStrW := fun xs H Q ws h R r hr t k => by
  unfold intStrW at t
  split at t
  · obtain ⟨n, e, l, t⟩ := t
    obtain ⟨x, rfl, q⟩ := r.one
    cases q
    exact ⟨_, n, rfl, e, by rw [mkS_length]; exact l, k.go hr t (.int _)⟩
  · exact t.elim
theorem go_intStr {s : List Nat} {n : Int} {h : HW} {R : KW} (e : PySem.intText? (mkS s) = some n) (l : s.length ≤ 640) (k : R (.int n) h) : intStrW [.str s] h R := ⟨n, e, l, k⟩
/-! ## stepping -/
section
variable {ρ : SlW} {h : HW} {te : TEW} {D : EndsW}
theorem go_forA {g : TGW} {tb : TSW} {p : Addr} (ws : List W) (ev : ∀ R : KW, R (.ref p) h → te ρ h R) (hp : h p = some (.lst ws))
  (Pv : Nat → SlW → HW → Prop) (p0 : CN (Pv 0) ρ (delW h p)) (turn : ∀ (i : Nat) w ρ' h', ws[i]? = some w → Pv i ρ' h' → g w ρ' h' fun ρ2 h2 => tb (D.lp (CN (Pv (i + 1))) D.nx) ρ2 h2)
  (fin : ∀ ρ' h', Pv ws.length ρ' h' → D.nx ρ' h') : sFor (oItA te) g tb D ρ h := ev _ (by unfold walkK; dsimp only; rw [hp]; exact ⟨Pv, p0, turn, fin⟩)
theorem go_forRv {g : TGW} {tb : TSW} {p : Addr} (ws : List W) (ev : ∀ R : KW, R (.ref p) h → te ρ h R) (hp : h p = some (.lst ws))
  (Pv : Nat → SlW → HW → Prop) (p0 : CN (Pv 0) ρ (delW h p)) (turn : ∀ (i : Nat) w ρ' h', ws.reverse[i]? = some w → Pv i ρ' h' → g w ρ' h' fun ρ2 h2 => tb (D.lp (CN (Pv (i + 1))) D.nx) ρ2 h2)
  (fin : ∀ ρ' h', Pv ws.length ρ' h' → D.nx ρ' h') : sFor (oItRv te) g tb D ρ h := ev _ (by unfold walkK; dsimp only; rw [hp]; exact ⟨Pv, p0, turn, fun ρ' h' q => fin ρ' h' (by rw [List.length_reverse] at q; exact q)⟩)
theorem go_forRvL {g : TGW} {tb : TSW} (ws : List W) (ev : ∀ R : KW, R (.lst ws) h → te ρ h R)
  (Pv : Nat → SlW → HW → Prop) (p0 : CN (Pv 0) ρ h) (turn : ∀ (i : Nat) w ρ' h', ws.reverse[i]? = some w → Pv i ρ' h' → g w ρ' h' fun ρ2 h2 => tb (D.lp (CN (Pv (i + 1))) D.nx) ρ2 h2)
  (fin : ∀ ρ' h', Pv ws.length ρ' h' → D.nx ρ' h') : sFor (oItRv te) g tb D ρ h := ev _ ⟨Pv, p0, turn, fun ρ' h' q => fin ρ' h' (by rw [List.length_reverse] at q; exact q)⟩
end
end Wl

set_option Elab.async false
set_option linter.all false
set_option maxRecDepth 100000
namespace Wl
open PySem PySem.Spec PyProof.Rows L2
/-! ## the greater and the lesser of two -/
section
variable {K : PySem.W.Frag} {h : HW} {R : KW} {i j : Int}
def max2W : List W → HW → KW → Prop := fun ws h R => match ws with | [.int i, .int j] => R (.int (max i j)) h | _ => False
def min2W : List W → HW → KW → Prop := fun ws h R => match ws with | [.int i, .int j] => R (.int (min i j)) h | _ => False
theorem lf_max2 : LfC K (fun xs H Q => ∃ i j, xs = [.int i, .int j] ∧ Q (.int (if j > i then j else i)) H) max2W := fun xs H Q ws h R r hr t k => by
  unfold max2W at t
  split at t
  · rename_i i j
    obtain ⟨x, y, rfl, q, q'⟩ := r.two
    cases q; cases q'
    refine ⟨_, _, rfl, ?_⟩
    rw [show (if j > i then j else i) = max i j by omega]; exact k.go hr t (.int _)
  · exact t.elim
theorem lf_min2 : LfC K (fun xs H Q => ∃ i j, xs = [.int i, .int j] ∧ Q (.int (if j < i then j else i)) H) min2W := fun xs H Q ws h R r hr t k => by
  unfold min2W at t
  split at t
  · rename_i i j
    obtain ⟨x, y, rfl, q, q'⟩ := r.two
    cases q; cases q'
    refine ⟨_, _, rfl, ?_⟩
    rw [show (if j < i then j else i) = min i j by omega]; exact k.go hr t (.int _)
  · exact t.elim
theorem go_max2 (k : R (.int (max i j)) h) : max2W [.int i, .int j] h R := k
theorem go_min2 (k : R (.int (min i j)) h) : min2W [.int i, .int j] h R := k
end
/-! ## a walk over the signs of a text -/
section
variable {te : TEW} {ρ : SlW} {h : HW} {D : EndsW}
theorem go_forS {g : TGW} {tb : TSW} (s : List Nat) (ev : ∀ R : KW, R (.str s) h → te ρ h R)
  (Pv : Nat → SlW → HW → Prop) (p0 : CN (Pv 0) ρ h) (turn : ∀ (i : Nat) c ρ' h', s[i]? = some c → Pv i ρ' h' → g (.str [c]) ρ' h' fun ρ2 h2 => tb (D.lp (CN (Pv (i + 1))) D.nx) ρ2 h2)
  (fin : ∀ ρ' h', Pv s.length ρ' h' → D.nx ρ' h') : sFor (oItS te) g tb D ρ h := ev _ ⟨Pv, p0, fun i w ρ' h' e p => by
    rw [List.getElem?_map] at e
    obtain ⟨c, ec, rfl⟩ := Option.map_eq_some_iff.mp e
    exact turn i c ρ' h' ec p, fun ρ' h' p => fin ρ' h' (by rw [List.length_map] at p; exact p)⟩
end
end Wl

set_option Elab.async false
set_option linter.all false
set_option maxRecDepth 100000
namespace Wl
open PySem PySem.Spec PyProof.Rows L2
/-! ## defs that call deep: room counted by single frames -/
structure RoomD (d : Nat) (A : Around) : Prop where
  quiet : A.handled = none
  frames : A.depth + d + 5 < recursionLimit
  cunits : 3 * A.units + 16 * d + 600 < 3 * cLine
theorem RoomD.less {c d : Nat} {A : Around} (r : RoomD d A) (h : c ≤ d) : RoomD c A := ⟨r.quiet, by have := r.frames; omega, by have := r.cunits; omega⟩
theorem RoomD.down {d : Nat} {A : Around} (r : RoomD (d + 1) A) (env : Env) : RoomD d (A.deeper env) :=
  ⟨r.quiet, by have a := r.frames; have b : (A.deeper env).depth = A.depth + 1 := rfl; omega, by have a := r.cunits; have b : (A.deeper env).units = A.units + 3 := rfl; omega⟩
theorem RoomD.room {k d : Nat} {A : Around} (r : RoomD d A) (h : 3 * k ≤ d) : Room k A := ⟨r.quiet, by have := r.frames; omega, by have := r.cunits; omega⟩
theorem RoomD.units {d : Nat} {A : Around} (r : RoomD d A) : A.units + 64 < cLine := (r.room (k := 0) (Nat.zero_le _)).units
theorem roomD_of {k : Nat} {A : Around} (r : Room k A) : RoomD (3 * k) A := ⟨r.hd, by have := r.dp; omega, by have := r.un; omega⟩
/-- what such a def promises -/
structure FnD (P : Program) (w : World) (K : PySem.W.Frag) (mg : Str → Option Value) (base : Heap) (CX : CXT) (d : Nat) (f : Addr) (fd : FuncData) (ps : List Str) (sp : Sp) : Prop where
  size : ∀ vs H Q E, sp vs H Q E → vs.length = ps.length
  goes : ∀ (A : Around), RoomD d A → ∀ (outer : List Env) (s : Shared) (H : Hp) (args : Args) (us : List Value) (vs : List V) (Q : VK) (E : XK), Env0 P w K mg base A outer s H → BindsTo s fd args (ps.zip us) → Vals vs us → sp vs H Q E →
    codeAny (model P w) A (.call (.ref f) args) (CR CX outer P w H s Q E) s
section
variable {P : Program} {w : World} {K : PySem.W.Frag} {mg : Str → Option Value} {base : Heap} {CX : CXT} {f : Addr} {fd : FuncData} {ps : List Str}
theorem FnD.fnOk {k : Nat} {sp : Sp} (F : FnD P w K mg base CX (3 * k) f fd ps sp) : FnOk P w K mg base CX k f fd ps sp :=
  ⟨F.size, fun A outer s H args us vs Q E r e b v q => F.goes A (roomD_of r) outer s H args us vs Q E e b v q⟩
theorem FnD.less {c d : Nat} {sp : Sp} (F : FnD P w K mg base CX c f fd ps sp) (h : c ≤ d) : FnD P w K mg base CX d f fd ps sp :=
  ⟨F.size, fun A r => F.goes A (r.less h)⟩
theorem FnD.none {d : Nat} {sp : SpW} (no : ∀ ws h R ex, ¬ sp ws h R ex) : FnD P w K mg base CX d f fd ps (lSp K sp) :=
  ⟨fun _ _ _ _ ⟨_, _, _, _, _, _, q, _⟩ => (no _ _ _ _ q).elim, fun _ _ _ _ _ _ _ _ _ _ _ _ _ ⟨_, _, _, _, _, _, q, _⟩ => (no _ _ _ _ q).elim⟩
/-- by its body -/
theorem fnD {x qual : Str} {st : Stmt} {N : List Str} {d : Nat} {sp : SpW} (F : Fun K x qual st f fd) (S : FnScope N ps (defScope st)) (len : ∀ ws h R ex, sp ws h R ex → ws.length = ps.length)
    (hbody : ∀ (cdv : Value) (A : Around) (outer : List Env) (s : Shared) (H : Hp) (E : XK) (ex : XW → HW → Prop), RoomD d (A.deeper (envOfC qual (defScope st) s.heap.objs.size f cdv)) →
      ∃ t, WSs (cxOf (L2.CX P w) P w K mg base N qual (defScope st) f cdv A outer s H E) (Lk.of K E ex) (defBody st) t ∧ ∀ ws h R, sp ws h R ex → t { nx := fun _ h' => Cl R .non h', rt := Cl R } (startW N.length ws) h) :
    FnD P w K mg base (L2.CX P w) (d + 1) f fd ps (lSp K sp) := by
  obtain ⟨oc, od, kV, doc, pm, an, cdv, ct, osl, rfl, look, code⟩ := F.ex
  refine ⟨fun vs H Q E ⟨ws, h, R, ex, r, _, q, _⟩ => by rw [r.length]; exact len _ _ _ _ q, fun A room outer s H args us vs Q E env0 bind vals ⟨ws, h, R, ex, r, hr, q, kv, el⟩ => ?_⟩
  have size : vs.length = ps.length := by rw [r.length]; exact len _ _ _ _ q
  have inK : K.In s.heap := env0.mod.kin.keeps (fun b o z => (env0.bs b o z).1)
  have noLim : s.heap.NoLimit := env0.mod.nolimit.keeps (fun b o z => (env0.bs b o z).1)
  obtain ⟨t, body, go⟩ := hbody cdv A outer s H E ex (room.down _)
  have kinds : ∀ y ∈ ps.zip us, (defScope st).names.lookup y.1 = some .local ∨ ((defScope st).names.lookup y.1 = some .cell ∧ ((cellsFrom (s.heap.objs.size + 1) (defScope st).names []).lookup y.1).isSome = true) := by
    intro y hy
    cases S.par y.1 (List.of_mem_zip (a := y.1) (b := y.2) hy).1 with
    | inl z => exact .inl z
    | inr z => exact .inr ⟨z, PySem.W.cellsFrom_some _ _ _ (.inl z)⟩
  refine codeAny_call_function (show A.depth < recursionLimit by have := room.frames; omega) (inK _ _ look) rfl S.co S.gen rfl (PySem.W.codeRec_of inK code) (bind _ _ _ _ ?_)
  refine wpAny_newFunctionEnv_cells S.kind kinds ?_
  rintro env rfl s1 inCall
  refine ⟨noLim.keeps inCall.toInCall.keep, codeAny_func ?_⟩
  have start := inv_start (P := P) (w := w) (K := K) (mg := mg) (base := base) (CX := L2.CX P w) (E := E) S room.quiet env0 size vals inCall
  have run := body.run [] s1 (L2.start N vs) H { nx := fun _ H' => Q .non H', rt := Q } start
    ⟨_, h, _, ⟨.start r, hr, el⟩, go ws h R q, ⟨fun _ h' _ H' c st hr _ => kv.cl _ h' _ H' c st hr .non, kv.cl, fun _ _ _ _ c => c.elim, fun _ _ _ _ c => c.elim⟩⟩
  refine wpAny_mono run ?_ (fun _ _ z => z)
  intro fl s2 z
  match fl, z with
  | .ret u, ⟨v, _, H', J, rv, q⟩ => exact ⟨v, H', J.os, J.bare, J.base, J.hok, rv, q⟩
  | .next, ⟨_, H', J, q⟩ => exact ⟨V.non, H', J.os, J.bare, J.base, J.hok, (rfl : RelV V.non Value.none), q⟩
  | .brk, ⟨_, _, _, q⟩ => exact q.elim
  | .cont, ⟨_, _, _, q⟩ => exact q.elim
end
section
variable {X : Cx} {f : Addr} {fd : FuncData} {ps : List Str} {x : Str} {p pos : Pos} {e : Expr} {es : List Expr} {ex : XW → HW → Prop} {E : XK} {d : Nat}
theorem pe_callD {sp : Sp} {t : TA} (F : FnD X.prog X.w X.K X.mg X.base (L2.CX X.prog X.w) d f fd ps sp) (room : RoomD d X.A) (hg : Gl X x) (hm : X.mg x = some (.ref f)) (hk : PySem.W.keepIn X.K (.ref f) = true) (hb : Binds X.K fd ps []) (out : Passes (L2.CX X.prog X.w) X E)
    (ha : PA X (e :: es) t) (hdb : (x == ("__debug__" : Str)) = false) (he : starEach (e :: es) X.env = (false, eval e X.env) :: starEach es X.env) (hpl : (backTo pos (starEach es X.env)).any (·.1) = false) :
    PE X (.Call (.Name x p) (e :: es) [] pos) (tCall sp [] E t) := ⟨fun pins s σ H Q I h => by
  refine wpAny_Call_Name_kw <| ld_glob I hg hm ?_ hdb
  have args := ha.run pos pins s σ H _ I h
  refine PySem.W.callWith_K (h₀ := X.base) I.ok.mod.kin hk (thn args ?_) he hpl
  rintro us s1 ⟨vs, H1, J, vals, q⟩
  have bound := hb s1 us J.kIn (by rw [← F.size _ _ _ _ q, List.append_nil, List.append_nil, vals.length])
  rw [List.append_nil] at q bound
  refine ⟨J.kIn, wpAny_call (codeAny_mono (F.goes X.A room X.stack s1 H1 ⟨us, []⟩ us vs Q E J.env0 bound vals q) ?_)⟩
  intro r s2 z
  match r, z with
  | .error er, z => exact out pins σ H1 s1 er s2 J z
  | .ok (.ret u), z => exact J.after z
  | .ok .next, z => exact False.elim z
  | .ok .brk, z => exact False.elim z
  | .ok .cont, z => exact False.elim z⟩
/-- a call of such a def, within one that lets its exceptions out -/
theorem w_callD {sp : SpW} {t : TAW} (F : FnD X.prog X.w X.K X.mg X.base (L2.CX X.prog X.w) d f fd ps (lSp X.K sp)) (hr : RoomD d X.A) (hg : Gl X x) (hm : X.mg x = some (.ref f)) (hk : PySem.W.keepIn X.K (.ref f) = true) (hb : Binds X.K fd ps [])
    (tk : Takes X (fun cls d _ H => E cls d H))
    (ha : WA X (Lk.of X.K E ex) (e :: es) t) (hdb : (x == ("__debug__" : Str)) = false := by decide) (he : starEach (e :: es) X.env = (false, eval e X.env) :: starEach es X.env := by rfl) (hpl : (backTo pos (starEach es X.env)).any (·.1) = false := by rfl) :
    WE X (Lk.of X.K E ex) (.Call (.Name x p) (e :: es) [] pos) (oCall sp ex t) :=
  (pe_callD F hr hg hm hk hb (passes_call tk fun _ _ _ _ z => z) ha hdb he hpl).imp fun σ H Q ⟨ρ, h, R, S, t, k⟩ => ⟨ρ, h, _, S, t, fun ws h1 vs H1 t1 s1 r1 q1 => by
    show lSp X.K sp (vs ++ []) H1 Q E
    rw [List.append_nil]
    exact ⟨ws, h1, R, ex, q1, r1, t1, k.mono s1, (Lk.of X.K E ex).mono S.el s1⟩⟩
end
end Wl

set_option Elab.async false
set_option linter.all false
set_option maxRecDepth 100000
namespace Wl
open PySem PySem.Spec PyProof.Rows L2
/-! ## sets of texts -/
def hasS (xs : List (List Nat)) : L2.Key → Bool := fun k => xs.any fun s => decide (k = (Sum.inr (mkS s) : L2.Key))
def setO (P : Program) (w : World) (p : Addr) (xs : List (List Nat)) : OW := .raw (SetK P w p (hasS xs) xs.length)
def addS (xs : List (List Nat)) (s : List Nat) : List (List Nat) := if s ∈ xs then xs else xs ++ [s]
theorem key_inj {a b : List Nat} (e : (Sum.inr (mkS a) : L2.Key) = .inr (mkS b)) : a = b := mkS_inj.mp (Sum.inr.inj e)
theorem hasS_str (xs : List (List Nat)) (s : List Nat) : hasS xs (.inr (mkS s)) = decide (s ∈ xs) := by
  unfold hasS
  rw [Bool.eq_iff_iff, List.any_eq_true, decide_eq_true_eq]
  exact ⟨fun ⟨a, h, e⟩ => by rw [key_inj (of_decide_eq_true e)]; exact h, fun h => ⟨s, h, decide_eq_true rfl⟩⟩
theorem hasS_add (xs : List (List Nat)) (s : List Nat) : (fun j => hasS xs j || decide (j = (Sum.inr (mkS s) : L2.Key))) = hasS (addS xs s) := by
  funext j
  unfold addS
  split
  · rename_i h
    by_cases e : j = Sum.inr (mkS s)
    · rw [e, hasS_str, decide_eq_true h]; rfl
    · rw [decide_eq_false e, Bool.or_false]
  · unfold hasS
    rw [List.any_append]; simp
theorem addS_len (xs : List (List Nat)) (s : List Nat) : (addS xs s).length = if hasS xs (.inr (mkS s)) = true then xs.length else xs.length + 1 := by
  unfold addS
  rw [hasS_str]
  by_cases h : s ∈ xs
  · rw [if_pos h, decide_eq_true h, if_pos rfl]
  · rw [if_neg h, decide_eq_false h, if_neg Bool.false_ne_true]; simp
section
variable {X : Cx} {L : Lk} {K : PySem.W.Frag} {H : Hp} {h : HW} {R : KW} {Q : VK} {P : Program} {w : World} {p : Addr} {xs : List (List Nat)} {s : List Nat}
def oSet0 (P : Program) (w : World) : TEW := fun _ h R => ∀ p, h p = none → R (.ref p) (updW h p (setO P w p []))
theorem w_set0 {x : Str} {q pos : Pos} (eP : X.prog = P) (ew : X.w = w) (hg : Gl X x) (hm : X.mg x = none) (hv : bootBuiltins x = some (.type "set")) (hn : x ≠ "__name__" := by decide) (hdb : (x == ("__debug__" : Str)) = false := by decide) :
    WE X L (.Call (.Name x q) [] [] pos) (oSet0 P w) := by
  subst eP ew
  exact (pe_callTy0 cr_set0K hg hm hv hn hdb).imp fun σ H Q ⟨ρ, h, R, S, t, k⟩ =>
  ⟨rfl, fun p hp => k _ _ _ _ (t p (S.hr.fresh hp)) (.newO hp _ _) (S.hr.newO hp (show upd H p _ p = some _ from upd_same)) (.ref p)⟩
def inSW (P : Program) (w : World) (neg : Bool) : RW2 := fun x y h R => match x, y with
  | .str s, .ref p => ∃ xs, h p = some (setO P w p xs) ∧ R (.bl (if neg then !decide (s ∈ xs) else decide (s ∈ xs))) h
  | _, _ => False
theorem lf_inS2 {neg : Bool} : Lf2 K (rSInK P w neg) (inSW P w neg) := fun x y H Q w1 w2 h R r1 r2 hr t k => by
  unfold inSW at t
  split at t
  · obtain ⟨xs, hp, t⟩ := t
    cases r1; cases r2
    refine ⟨.inr (mkS _), _, _, _, rfl, rfl, hr _ _ hp, ?_⟩
    rw [hasS_str]; exact k.go hr t (.bl _)
  · exact t.elim
theorem go_inSet {neg : Bool} (e : h p = some (setO P w p xs)) (k : R (.bl (if neg then !decide (s ∈ xs) else decide (s ∈ xs))) h) : inSW P w neg (.str s) (.ref p) h R := ⟨xs, e, k⟩
theorem go_inSetF (e : h p = some (setO P w p xs)) (k : R (.bl (decide (s ∈ xs))) h) : inSW P w false (.str s) (.ref p) h R := ⟨xs, e, k⟩
theorem go_inSetT (e : h p = some (setO P w p xs)) (k : R (.bl (!decide (s ∈ xs))) h) : inSW P w true (.str s) (.ref p) h R := ⟨xs, e, k⟩
def oSAdd (P : Program) (w : World) (to : TEW) (t : TAW) : TEW := fun ρ h R => to ρ h fun x h1 => match x with
  | .ref p => (∃ xs, h1 p = some (setO P w p xs)) ∧ t ρ h1 fun ws h2 => (match ws with | [.str s] => ∃ xs, h2 p = some (setO P w p xs) ∧ xs.length ≤ 4000 ∧ R .non (updW h2 p (setO P w p (addS xs s))) | _ => False)
  | _ => False
theorem w_sadd {o e : Expr} {es : List Expr} {to : TEW} {t : TAW} {apos cpos : Pos} (eP : X.prog = P) (ew : X.w = w) (ho : WE X L o to) (ha : WA X L (e :: es) t)
    (hbase : attributeBase o "add" X.env (eval o X.env) = eval o X.env := by rfl)
    (hfew : ((backTo cpos (starEach (e :: es) X.env)).all (fun x => !x.1) && (backToKw cpos (keywordEach [] X.env)).all (fun x => x.1.isSome) && decide ((e :: es).length + ([] : List Keyword).length + (if ([] : List Keyword).isEmpty then 0 else 1) < 30)) = true := by rfl)
    (hline : (apos.endLine == cpos.line) = true := by rfl) (hs : starEach (e :: es) X.env = (false, eval e X.env) :: starEach es X.env := by rfl) (hplain : (backTo cpos (starEach es X.env)).any (·.1) = false := by rfl) :
    WE X L (.Call (.Attribute o "add" apos) (e :: es) [] cpos) (oSAdd P w to t) := by
  subst eP ew
  exact (pe_saddK ho ha hbase hfew hline hs hplain).imp fun σ H Q ⟨ρ, h, R, S, t, k⟩ =>
  ⟨ρ, h, _, S, t, fun w1 h1 v1 H1 t1 s1 r1 q1 => by
    split at t1
    · obtain ⟨⟨xs, hp⟩, t1⟩ := t1
      cases q1
      refine ⟨⟨_, _, _, rfl, r1 _ _ hp⟩, ρ, h1, _, S.to s1 r1, t1, fun ws h2 vs H2 t2 s2 r2 q2 => ?_⟩
      split at t2
      · obtain ⟨ys, hp2, l, t2⟩ := t2
        obtain ⟨x, rfl, q⟩ := q2.one
        cases q
        refine ⟨_, .inr (mkS _), _, _, rfl, rfl, r2 _ _ hp2, by have : scanBound = 4096 := rfl; omega, ?_⟩
        rw [hasS_add, ← addS_len]
        exact k _ _ _ _ t2 ((s1.trans s2).trans (.mut hp2 _ _)) (r2.mut hp2 (show upd H2 _ _ _ = some _ from upd_same)) .non
      · exact t2.elim
    · exact t1.elim⟩
theorem go_set0 {ρ : SlW} (k : ∀ p, h p = none → R (.ref p) (updW h p (setO P w p []))) : oSet0 P w ρ h R := k
theorem go_sadd {to : TEW} {t : TAW} {ρ : SlW} (k : to ρ h fun x h1 => match x with
  | .ref p => (∃ xs, h1 p = some (setO P w p xs)) ∧ t ρ h1 fun ws h2 => (match ws with | [.str s] => ∃ xs, h2 p = some (setO P w p xs) ∧ xs.length ≤ 4000 ∧ R .non (updW h2 p (setO P w p (addS xs s))) | _ => False)
  | _ => False) : oSAdd P w to t ρ h R := k
/-- s.add(x) on a set that one knows -/
theorem go_sadd1 {to : TEW} {t : TAW} {ρ : SlW} (k : to ρ h fun x h1 => match x with
  | .ref p => (∃ xs, h1 p = some (setO P w p xs)) ∧ t ρ h1 fun ws h2 => (match ws with | [.str s] => ∃ xs, h2 p = some (setO P w p xs) ∧ xs.length ≤ 4000 ∧ R .non (updW h2 p (setO P w p (addS xs s))) | _ => False)
  | _ => False) : oSAdd P w to t ρ h R := k
/-- a list of a slot that nobody writes any more -/
def sFrz (i : Nat) (u : TSW) : TSW := fun D ρ h => ∃ p ws, sl ρ i = some (.ref p) ∧ h p = some (.lst ws) ∧ u D (ρ.set i (some (.lst ws))) (delW h p)
theorem set_same {α : Type} {l : List α} {i : Nat} {a : α} (e : l[i]? = some a) : l.set i a = l := by
  apply List.ext_getElem?
  intro j
  rw [List.getElem?_set]
  by_cases c : i = j
  · subst c
    rw [if_pos rfl, e, if_pos (List.getElem?_eq_some_iff.mp e).1]
  · rw [if_neg c]
theorem ws_frz {st : Stmt} {i : Nat} {u : TSW} (h1 : WS X L st u) : WS X L st (sFrz i u) := h1.imp fun D σ H ⟨ρ, h, DW, S, ⟨p, ws, e1, e2, t⟩, k⟩ => by
  have sb : Sub (delW h p) h := del_sub
  have st : ST H h H (delW h p) := .drop sb
  obtain ⟨vs, ev, rs⟩ := S.hr _ _ e2
  have new : RW X.K H (delW h p) (.ref p) (.lst ws) := .lst ⟨ev, delW_same⟩ (rs.mono st)
  obtain ⟨v, es, rv⟩ := S.sr.get e1
  cases rv
  have sr := (S.sr.mono st).set new i
  rw [set_same es] at sr
  exact ⟨_, _, DW, ⟨sr, S.hr.drop sb, L.mono S.el st⟩, t, k.mono st⟩
theorem go_frz {i : Nat} {u : TSW} {D : EndsW} {ρ : SlW} {ws : List W} (e1 : sl ρ i = some (.ref p)) (e2 : h p = some (.lst ws)) (k : u D (ρ.set i (some (.lst ws))) (delW h p)) : sFrz i u D ρ h := ⟨p, ws, e1, e2, k⟩
end
end Wl

set_option Elab.async false
set_option linter.all false
set_option maxRecDepth 100000
namespace PySem
open PySem.Calls PyProof.Rows RT
section
variable {prog : Program} {w : World} {A : Around} {E : Value → Shared → Prop} {s : Shared}
/-- list(it), it a fresh reversed(..) of a list at l -/
theorem listOfRev {it l : Addr} {its : Array Value} {Q : Value → Shared → Prop} (calm : A.handled = none) (isIt : s.heap.IsRevIter it l ((its.size : Int) - 1)) (isL : s.heap.IsList l its) (apart : l ≠ it) (small : its.size ≤ sizeLine)
    (done : ∀ (h' : Heap) (tk : Nat) (out : Array Value) (c : Nat), (∀ b o, b ≠ it → s.heap.get? b = some o → h'.get? b = some o) → ItemsOf (fun i v => its[its.size - 1 - i]? = some v) out its.size →
      h'.get? s.heap.objs.size = some { cls := .type "list", dict := none, data := .seq out c, slots := #[] } → Q (.ref s.heap.objs.size) { s with heap := h', toks := tk }) :
    wpAny (model prog w) A (call (.type "list") [.ref it]) Q E s := by
  obtain ⟨oIt, gIt, _⟩ := id isIt
  obtain ⟨oL, gL, _⟩ := id isL
  have n1 : s.heap.objs.size ≠ it := Nat.ne_of_gt (Heap.lt_size gIt)
  have n2 : s.heap.objs.size ≠ l := Nat.ne_of_gt (Heap.lt_size gL)
  have nf : s.heap.objs.size ∉ [it, l] := fun z => by rcases List.mem_cons.mp z with z | z; exact n1 z; exact n2 (List.mem_singleton.mp z)
  generalize eb : s.heap.objs.size = B at *
  refine callType_codes (Q₁ := fun ob t => ob = .ref B ∧ t = { s with heap := s.heap.push { cls := .type "list", data := .seq #[] } }) F.called_list (F.typeCall_list_1 _) F.entry_list_init (code_list_new _ ⟨by rw [eb], rfl⟩) ?_
  rintro _ _ ⟨rfl, rfl⟩
  have g0 : (s.heap.push { cls := .type "list", data := .seq #[] }).get? B = some { cls := .type "list", data := .seq #[] } := by rw [← eb]; exact Heap.get?_push_size _ rfl
  have k0 : ∀ b o, s.heap.get? b = some o → (s.heap.push { cls := .type "list", data := .seq #[] }).get? b = some o := fun b o z => Heap.get?_push_of_some _ z
  refine ⟨⟨_, g0, rfl⟩, F.args_list_init_2 _ _, ?_⟩
  generalize s.heap.push { cls := .type "list", data := .seq #[] } = h0 at g0 k0
  have walk := (Walks.listRev (prog := prog) (w := w) (A := A.in1.in1) calm it l apart its).toS
  show wpAny _ A.in1.in1 (do let old ← Builtin.List.listItems (.ref B); Builtin.List.listUpdate (.ref B) (fun _ => #[]); letGo old.toList.reverse; Builtin.List.listExtendWith (.ref B) (.ref it) .none) _ _ _
  unfold Builtin.List.listItems
  refine wpAny_bind (wpAny_bind (wpAny_seqItems g0 rfl (wpAny_pure ?_)))
  refine wpAny_bind (show wpAny _ A.in1.in1 (updateSeq B (fun _ => #[])) _ _ _ from wpAny_updateSeq g0 rfl ?_)
  have g1 := Heap.get?_update_self (Obj.mapSeq (fun _ => (#[] : Array Value))) g0 rfl
  have k1 : ∀ b o, s.heap.get? b = some o → (h0.update B (Obj.mapSeq (fun _ => (#[] : Array Value)))).get? b = some o := fun b o z => by
    have nb : b ≠ B := fun y => absurd (Heap.lt_size z) (by rw [y, ← eb]; exact Nat.lt_irrefl _)
    exact (Heap.get?_update_other _ _ (Ne.symm nb)).trans (k0 b o z)
  generalize h0.update B (Obj.mapSeq (fun _ => (#[] : Array Value))) = h1 at g1 k1
  have i1 : h1.IsRevIter it l ((its.size : Int) - 1) := isIt.at (k1 it)
  have l1 : h1.IsList l its := by
    obtain ⟨o, ho, r⟩ := id isL
    exact ⟨o, k1 l o ho, r⟩
  have ty : ({ s with heap := h1 } : Shared).TypeIs (.ref it) "list_reverseiterator" := Heap.IsRevIter.typeIs (s := { s with heap := h1 }) i1
  refine wpAny_bind (wpAny_letGo ?_)
  have same : Builtin.List.listSameRef (.ref B) (.ref it) = false := by simp [Builtin.List.listSameRef, n1]
  unfold Builtin.List.listExtendWith
  refine wpAny_bind (wpAny_typeOf ty ?_)
  rw [if_neg (by rw [same]; decide)]
  refine wpAny_bind (wpAny_pyIter_revIter (s := { s with heap := h1 }) i1 ?_)
  refine wpAny_bind (wpAny_holding ?_)
  unfold Builtin.List.listLengthHint
  refine wpAny_bind (wpAny_specialOf ty nolen_lri ?_)
  refine wpAny_bind (show wpAny _ A.in1.in1 (specialOf (Value.ref it) (Str.ofString "__length_hint__")) _ _ _ from wpAny_specialOf ty hint_lri ?_)
  generalize ei : ("list_reverseiterator.__length_hint__" : String) = hint
  wp_delta
  have sp : splitId hint = some ("list_reverseiterator", "__length_hint__") := by subst ei; decide +kernel
  rw [sp]
  subst ei
  have sub : isSubtype (.type "list_reverseiterator") (.type "list_reverseiterator") = pure true := by rw [isSubtype_type]; kernel_rfl
  refine wpAny_bind (wpAny_isInstance (b := true) ty sub (wpAny_pure ?_))
  rw [if_neg (by decide)]
  have e0 : ((its.size : Nat) : Int) - 1 - ((0 : Nat) : Int) = (its.size : Int) - 1 := by omega
  have start : 0 ≤ its.size ∧ h1.IsRevIter it l ((its.size : Int) - 1 - ((0 : Nat) : Int)) ∧ h1.IsList l its := ⟨Nat.zero_le _, by rw [e0]; exact i1, l1⟩
  refine wpAny_pure ⟨plainId_quiet F.plain_extend_loop _, ?_⟩
  refine codeAny_extend_loopS walk small B nf _ its.size 0 _ _ _ rfl (Nat.zero_le _) start g1 (ItemsOf.nil _) ?_
  intro s' out c moved g2 items
  rw [Moved.eq_with moved] at g2 ⊢
  refine ⟨rfl, done s'.heap s'.toks out c (fun b o nb z => ?_) items g2⟩
  refine moved.heap b o (fun mem => ?_) (k1 b o z)
  rcases List.mem_cons.mp mem with y | y
  · exact absurd (Heap.lt_size z) (by rw [y, ← eb]; exact Nat.lt_irrefl _)
  · exact nb (List.mem_singleton.mp y)
end
end PySem
namespace Wl
open PySem PySem.Spec PyProof.Rows L2
section
variable {X : Cx} {L : Lk}
/-- list(reversed(x)), x a list -/
def tLstRev (K : PySem.W.Frag) (te : TE) : TE := fun σ H Q => te σ H fun v H1 => ∃ (a : Addr) (xs : List V), v = .ref a ∧ SqL K H1 a xs ∧ ∀ q, H1 q = none → Q (.ref q) (upd H1 q (.lst xs.reverse))
theorem pe_lstRev {e : Expr} {te : TE} {p p2 pos pos2 : Pos} (hc : X.calm = true) (hg : Gl X "list") (hm : X.mg "list" = none) (hg2 : Gl X "reversed") (hm2 : X.mg "reversed" = none) (he : PE X e te)
    (hs : starEach [e] X.env = (false, eval e X.env) :: starEach [] X.env)
    (hs2 : starEach [.Call (.Name "reversed" p2) [e] [] pos2] X.env = (false, eval (.Call (.Name "reversed" p2) [e] [] pos2) X.env) :: starEach [] X.env) :
    PE X (.Call (.Name "list" p) [.Call (.Name "reversed" p2) [e] [] pos2] [] pos) (tLstRev X.K te) := ⟨fun pins s σ H Q I h => by
  have inner := he.run pins s σ H _ I h
  refine Call_ (ld_blt I hg hm (show bootBuiltins "list" = some (.type "list") by decide +kernel) (callWith_type1 (args_cons (Call_ (ld_blt I hg2 hm2 boot_reversed (callWith_type1 (args_cons (thn inner ?_) hs) hs rfl))) hs2) hs2 rfl))
  rintro u s1 ⟨v, H1, J, rv, a, xs, rfl, sq, q⟩
  obtain rfl : u = Value.ref a := rv
  obtain ⟨its, vals, isL, small⟩ := J.list sq
  refine args_nil (call_reversed_list isL.isList (args_nil ?_))
  obtain ⟨oL, gL, _⟩ := id isL.isList
  have apart : a ≠ s1.heap.objs.size := Nat.ne_of_lt (Heap.lt_size gL)
  refine listOfRev (s := { s1 with heap := s1.heap.push (revObj a ((its.toArray.size : Int) - 1)) }) (J.ok.hd hc) ⟨_, Heap.get?_push_size _ rfl, rfl, rfl⟩ (isL.isList.push _) apart (by rw [List.size_toArray, ← vals.length]; exact small) ?_
  intro h' tk out c kept items new
  have keep : ∀ b o, s1.heap.get? b = some o → h'.get? b = some o := fun b o z => kept b o (fun y => absurd (Heap.lt_size z) (by rw [y]; exact Nat.lt_irrefl _)) (Heap.get?_push_of_some _ z)
  have size : s1.heap.objs.size ≤ (s1.heap.push (revObj a ((its.toArray.size : Int) - 1))).objs.size := by rw [Heap.size_push]; exact Nat.le_succ _
  have isNew : ObjOk X.prog X.w (upd H1 (s1.heap.push (revObj a ((its.toArray.size : Int) - 1))).objs.size (.lst xs.reverse)) h' (s1.heap.push (revObj a ((its.toArray.size : Int) - 1))).objs.size (.lst xs.reverse) :=
    ⟨by rw [List.length_reverse]; exact small, out.toList, c, RT.vals_rev vals items, by rw [Array.toArray_toList]; exact new⟩
  exact ⟨.ref _, _, J.laid (t' := tk) keep size isNew, rfl, q _ (J.hok.fresh size)⟩⟩
def revK (x : W) (h : HW) (P : List W → Prop) : Prop := match x with
  | .lst ws => P ws
  | .scr ws => P ws
  | .ref p => (match h p with | some (.lst ws) => P ws | _ => False)
  | _ => False
def oLstRev (te : TEW) : TEW := fun ρ h R => te ρ h fun x h1 => revK x h1 fun ws => R (.lst ws.reverse) h1
theorem w_lstRev {e : Expr} {te : TEW} {p p2 pos pos2 : Pos} (hc : X.calm = true) (hg : Gl X "list") (hm : X.mg "list" = none) (hg2 : Gl X "reversed") (hm2 : X.mg "reversed" = none) (he : WE X L e te)
    (hs : starEach [e] X.env = (false, eval e X.env) :: starEach [] X.env := by rfl)
    (hs2 : starEach [.Call (.Name "reversed" p2) [e] [] pos2] X.env = (false, eval (.Call (.Name "reversed" p2) [e] [] pos2) X.env) :: starEach [] X.env := by rfl) :
    WE X L (.Call (.Name "list" p) [.Call (.Name "reversed" p2) [e] [] pos2] [] pos) (oLstRev te) := (pe_lstRev hc hg hm hg2 hm2 he hs hs2).imp fun σ H Q ⟨ρ, h, R, S, t, k⟩ =>
  ⟨ρ, h, _, S, t, fun w1 h1 v1 H1 t1 s1 r1 q1 => by
    have k1 := k.mono s1
    unfold revK at t1
    split at t1
    · cases q1 with | lst f q => exact ⟨_, _, rfl, f.sq, fun q e => KV.lst k1 r1 (RWs.reverse (by assumption)) t1 e⟩
    · cases q1 with | scr f q => exact ⟨_, _, rfl, f.sq, fun q e => KV.lst k1 r1 (RWs.reverse (by assumption)) t1 e⟩
    · split at t1
      · rename_i p _ ws hp
        cases q1
        obtain ⟨vs, a, rs⟩ := r1 _ _ hp
        exact ⟨_, _, rfl, SqL.of a, fun q e => KV.lst k1 r1 rs.reverse t1 e⟩
      · exact t1.elim
    · exact t1.elim⟩
theorem go_lstRev {ρ : SlW} {h : HW} {R : KW} {te : TEW} (k : te ρ h fun x h1 => revK x h1 fun ws => R (.lst ws.reverse) h1) : oLstRev te ρ h R := k
theorem go_revLO {p : Addr} {h : HW} {ws : List W} {P : List W → Prop} (e : h p = some (.lst ws)) (k : P ws) : revK (.ref p) h P := by unfold revK; dsimp only; rw [e]; exact k
end
/-! ## texts that are compared -/
section
variable {K : PySem.W.Frag} {h : HW} {R : KW}
def leSW : RW2 := fun x y h R => match x, y with
  | .str a, .str b => R (.bl (!decide (b < a))) h
  | _, _ => False
theorem lf_leS : Lf2 K (fun x y H Q => ∃ i j, x = .str i ∧ y = .str j ∧ Q (.bl (!decide (j.cps.toList < i.cps.toList))) H) leSW := fun x y H Q w1 w2 h R r1 r2 hr t k => by
  unfold leSW at t
  split at t
  · cases r1; cases r2
    exact ⟨_, _, rfl, rfl, by simp only [mkS]; exact k.go hr t (.bl _)⟩
  · exact t.elim
theorem go_leS1 {c d : Nat} (k : R (.bl (decide (c ≤ d))) h) : leSW (.str [c]) (.str [d]) h R := by
  show R (.bl (!decide ([d] < [c]))) h
  have e : (!decide ([d] < [c])) = decide (c ≤ d) := by
    rw [Bool.eq_iff_iff]
    simp [List.cons_lt_cons_iff]
  rw [e]; exact k
end
end Wl

set_option Elab.async false
set_option linter.all false
set_option maxRecDepth 100000
namespace Wl
open PySem PySem.Spec PyProof.Rows L2
/-! ## is None -/
section
variable {K : PySem.W.Frag} {h : HW} {R : KW} {x : W}
def isNon : W → Bool
  | .non => true
  | _ => false
def isNW : RW2 := fun x y h R => match y with | .non => R (.bl (isNon x)) h | _ => False
def notNW : RW2 := fun x y h R => match y with | .non => R (.bl (!isNon x)) h | _ => False
theorem isNon_of {H : Hp} {v : V} (r : RW K H h v x) : decide (v = V.non) = isNon x := by cases r <;> rfl
theorem lf_isN : Lf2 K (fun x y H Q => y = .non ∧ Q (.bl (decide (x = .non))) H) isNW := fun x y H Q w1 w2 h R r1 r2 hr t k => by
  unfold isNW at t
  split at t
  · cases r2; exact ⟨rfl, by rw [isNon_of r1]; exact k.go hr t (.bl _)⟩
  · exact t.elim
theorem lf_notN : Lf2 K (fun x y H Q => y = .non ∧ Q (.bl (!decide (x = .non))) H) notNW := fun x y H Q w1 w2 h R r1 r2 hr t k => by
  unfold notNW at t
  split at t
  · cases r2; exact ⟨rfl, by rw [isNon_of r1]; exact k.go hr t (.bl _)⟩
  · exact t.elim
theorem go_isN {b : Bool} (e : isNon x = b) (k : R (.bl b) h) : isNW x .non h R := by unfold isNW; dsimp only; rw [e]; exact k
theorem go_notN {b : Bool} (e : isNon x = b) (k : R (.bl (!b)) h) : notNW x .non h R := by unfold notNW; dsimp only; rw [e]; exact k
theorem go_isNN (k : R (.bl true) h) : isNW .non .non h R := k
theorem go_isNT {ws : List W} (k : R (.bl false) h) : isNW (.tup ws) .non h R := k
theorem go_notNN (k : R (.bl false) h) : notNW .non .non h R := k
theorem go_notNT {ws : List W} (k : R (.bl true) h) : notNW (.tup ws) .non h R := k
end
/-! ## == of deep data -/
section
variable {X : Cx} {K : PySem.W.Frag} {h : HW} {R : KW} {n : Nat}
def rEqL (K : PySem.W.Frag) (n : Nat) : R2 := fun x y H Q => ∃ d e, (Dp K H x d ∧ d.canLay0 = true ∧ d.depth ≤ n) ∧ (Dp K H y e ∧ e.canLay0 = true) ∧ Q (.bl (PyData.eqv d e)) H
theorem ow_eqL (hu : X.A.units + n < cLine) : OpR X (compareOp .Eq) (rEqL X.K n) := by
  refine fun pins s σ H x y v u Q J r1 r2 ⟨d, e, ⟨hd, ld, dd⟩, ⟨he, le⟩, q⟩ => ?_
  obtain ⟨as, a1⟩ := Dp.reads J d x v hd r1
  obtain ⟨bs, b1⟩ := Dp.reads J e y u he r2
  exact SeqAt.compareEq_reads a1 b1 ld le (by omega) ⟨.bl _, H, J, rfl, q⟩
def eqLW (n : Nat) : RW2 := fun x y h R => (dataW (rsv x h) = true ∧ depW (rsv x h) ≤ n) ∧ dataW (rsv y h) = true ∧ R (.bl (eqD (rsv x h) (rsv y h))) h
theorem lf_eqL : Lf2 K (rEqL K n) (eqLW n) := fun x y H Q w1 w2 h R r1 r2 hr ⟨⟨a, b⟩, c, t⟩ k =>
  ⟨_, _, ⟨dpr_of hr r1 a, lay_of _ a, Nat.le_trans (dep_of _) b⟩, ⟨dpr_of hr r2 c, lay_of _ c⟩, k.go hr t (.bl _)⟩
theorem go_eqL {x y : W} (a : dataW x = true) (b : dataW y = true) (c : depW x ≤ n) (k : R (.bl (eqD x y)) h) : eqLW n x y h R := by
  unfold eqLW
  rw [rsv_of a, rsv_of b]
  exact ⟨⟨a, c⟩, b, k⟩
theorem room_far {k : Nat} {A : Around} (r : Room k A) (h : 213 ≤ k) : A.units + 3600 < cLine := by have := r.un; omega
end
/-! ## tuple(x) -/
section
variable {K : PySem.W.Frag} {h : HW} {R : KW} {xs : List W}
def tupleW : List W → HW → KW → Prop := fun ws h R => match ws with
  | [.tup xs] => R (.tup xs) h
  | [.lst xs] => R (.tup xs) h
  | [.ref p] => (match h p with | some (.lst xs) => R (.tup xs) h | _ => False)
  | _ => False
theorem lf_tuple : LfC K (fun xs H Q => ∃ p ys, xs = [.ref p] ∧ ((SqL K H p ys ∧ ∀ l, H l = none → Q (.ref l) (upd H l (.tup ys))) ∨ (SqT K H p ys ∧ Q (.ref p) H))) tupleW := fun xs H Q ws h R r hr t k => by
  unfold tupleW at t
  split at t
  · obtain ⟨x, rfl, q⟩ := r.one
    cases q with
    | tup f q => exact ⟨_, _, rfl, .inr ⟨f.sq, k.go hr t (.tup f q)⟩⟩
  · obtain ⟨x, rfl, q⟩ := r.one
    cases q with
    | lst f q => exact ⟨_, _, rfl, .inl ⟨f.sq, fun p hp => k.tup hr q t hp⟩⟩
  · split at t
    · rename_i hp
      obtain ⟨x, rfl, q⟩ := r.one
      cases q
      obtain ⟨vs, hv, q⟩ := hr _ _ hp
      exact ⟨_, _, rfl, .inl ⟨SqL.of hv, fun p hp => k.tup hr q t hp⟩⟩
    · exact t.elim
  · exact t.elim
theorem go_tupleT (k : R (.tup xs) h) : tupleW [.tup xs] h R := k
theorem go_tupleL (k : R (.tup xs) h) : tupleW [.lst xs] h R := k
theorem go_tupleO {p : Addr} (hp : h p = some (.lst xs)) (k : R (.tup xs) h) : tupleW [.ref p] h R := by unfold tupleW; dsimp only; rw [hp]; exact k
end
/-! ## where ways meet -/
section
variable {D : EndsW} {ρ : SlW} {h : HW} {s u A B : TSW}
theorem go_seqM (M : SlW → HW → Prop) (fin : ∀ ρ' h', M ρ' h' → u D ρ' h') (main : ∀ N : SlW → HW → Prop, (∀ ρ' h', M ρ' h' → N ρ' h') → s (D.wn N) ρ h) : sSeq s u D ρ h := main (u D) fin
theorem go_meet {N : SlW → HW → Prop} {b : Bool} (M : SlW → HW → Prop) (fin : ∀ ρ' h', M ρ' h' → N ρ' h') (main : ∀ N' : SlW → HW → Prop, (∀ ρ' h', M ρ' h' → N' ρ' h') → if b = true then A (D.wn N') ρ h else B (D.wn N') ρ h) :
    if b = true then A (D.wn N) ρ h else B (D.wn N) ρ h := main N fin
/-- a test of several parts, whatever its way -/
theorem go_ifB {tA : TTW} {b0 : Bool} (test : ∀ RB : Bool → HW → Prop, RB b0 h → tA ρ h RB) (kt : b0 = true → A D ρ h) (kf : b0 = false → B D ρ h) : sIf tA A B D ρ h := test _ (by
  cases b0 with
  | true => exact iteT (kt rfl)
  | false => exact iteF (kf rfl))
end
end Wl

set_option Elab.async false
set_option linter.all false
set_option maxRecDepth 100000
set_option maxHeartbeats 1000000
namespace Wl
open PySem PySem.Spec PyProof.Rows L2
/-! ## an own exception whose __init__ is: super().__init__(name); self.name = name -/
def supBody (p0 p1 p2 p3 p4 p5 q1 q2 q3 q4 : Pos) : List Stmt :=
  [.Expr (.Call (.Attribute (.Call (.Name "super" p0) [] [] p1) "__init__" p2) [.Name "name" p3] [] p4) p5, .Assign [.Attribute (.Name "self" q1) "name" q2] (.Name "name" q3) q4]
def supScope : Scope := { kind := .function, names := [(Str.ofString "self", .local), (Str.ofString "name", .local), (Str.ofString "__class__", .free), (Str.ofString "super", .globalImplicit)], isGenerator := false, isCoroutine := false, more := [] }
def supArgs (r1 r2 : Pos) : Arguments := { posonlyargs := [], args := [{ arg := "self", annotation := none, pos := r1 }, { arg := "name", annotation := none, pos := r2 }], vararg := none, kwonlyargs := [], kw_defaults := [], kwarg := none, defaults := [] }
/-- what the written part says of such a class, at C, and of its __init__, at f -/
structure SupC (P : Program) (K : PySem.W.Frag) (C f : Addr) : Prop where
  fn : ∃ (oc od osl : _) (qual : Str) (r1 r2 p0 p1 p2 p3 p4 p5 q1 q2 q3 q4 : Pos) (kV doc pm ct : Value) (an : Option Addr) (cda cc : Addr),
    K.lookup f = some ⟨oc, od, .func (PySem.W.ksFn "__init__" qual (supArgs r1 r2) (supBody p0 p1 p2 p3 p4 p5 q1 q2 q3 q4) supScope .none kV doc pm an (.ref cda) ct cc), osl⟩ ∧ PySem.W.codeIn K (.ref cda) qual = true ∧ (p2.endLine == p4.line) = true ∧
    (∃ ccl cdd vs ccs file tf, K.lookup cda = some ⟨ccl, cdd, .fields vs, ccs⟩ ∧ vs[2]? = some (.str file tf) ∧ ((P.main.file : Str) == file) = true) ∧ ∃ cl cld csl, K.lookup cc = some ⟨cl, cld, .cell (some (.ref C)), csl⟩
  top : (P.main.scope.names.lookup ("super" : Str)).isSome = false
  glob : PySem.W.nsIn K mainGlobals "super" = some none
  oex : OexC K C
  init : PySem.W.findIn K (.ref C) "__init__" = some (some (.ref f))
  tyf : PySem.W.typeIn K (.ref f) = some (.type "function")
  sup : PySem.W.ks_superIn K C C "__init__" = some (some (.builtin "ValueError.__init__"))
  sub : PySem.W.subIn K (.ref C) (.type "ValueError") = some true
  mro : PySem.W.mroIn K C (.ref C) = some true
  stat : PySem.W.nsIn K PySem.cStatics "thirdparty.any" = some none
  no : PySem.W.findIn K (.ref C) "name" = some none
def spXI (C : Addr) : Sp := fun vs H Q E => ∃ (a : Addr) (s : List Nat), vs = [.ref a, .str (mkS s)] ∧ H a = some (exo a C none) ∧ ∀ d, H d = none → d ≠ a → Q .non (upd (upd H d (exd d [(Str.ofString "name", .str (mkS s))])) a (exo a C (some d)))
/-- the words of the call, where both its parts stand on one row -/
theorem sup_words {o : Expr} {m x : Str} {p p2 p4 : Pos} {env : Env} (hl : (p2.endLine == p4.line) = true) : eval (.Call (.Attribute o m p2) [.Name x p] [] p4) env = (do
    let ov ← attributeBase o m env (eval o env)
    standAt p2.atName
    let (f, first) ← holding [ov] (getMethod ov m (do return (← importBound o env).getD true))
    callWith p4 f first (backTo p4 (starEach [.Name x p] env)) []) := by
  have e : methodCallPos true o env p2 p4 = pure p4 := by unfold methodCallPos; rw [hl]; rfl
  rw [arm_eval_Call]
  congr 1
  funext ov
  congr 1
  funext _
  unfold methodCall
  rw [show methodCallForm ([Expr.Name x p].length + ([] : List Keyword).length) (backTo p4 (starEach [.Name x p] env)) (backToKw p4 (keywordEach [] env)) = true from rfl, e]
  rfl
theorem sup_scope : NdefX.NScope [Str.ofString "self", "name", "__class__"] [Str.ofString "self", "name"] [Str.ofString "__class__"] supScope := NdefX.nscope_by (by decide +kernel)
section
variable {M : Model} {A : Around} {E : Value → Shared → Prop} {h : Heap} {g : Array GenState} {d : Drawn} {t : Nat} {os : OsState}
/-- ValueError.__init__ bound to an exception, called -/
theorem call_mw {prog : Program} {w : World} {u x C t0 : Addr} {rest : List Value} {Q : Value → Shared → Prop} {nm q : Str} {N : Addr} {bs bm : List Value} {hdct : Bool} {sn : List Str} {sub : List Value} {ab : Bool} {col : Option Bool} {dd : Option Addr} {k0 k1 k2 k3 k5 : Option Value}
    (hC : h.get? C = some (excClassObj nm q C N bs bm hdct sn sub ab col dd k0 k1 k2 k3 k5 "ValueError.__new__")) (hx : h.get? x = some (PySem.HandSPX.excO C t0)) (hu : h.get? u = some (PySem.W.kxs_mw "ValueError.__init__" x)) (hz : rest.length ≤ sizeLine)
    (k : ∀ h' t1, (∀ b o, b ≠ x → h.get? b = some o → h'.get? b = some o) → h'.get? x = some (PySem.HandSPX.excO C t1) → Q .none ⟨h', g, d, t, os⟩) :
    wpAny (model prog w) A (call (.ref u) rest) Q E ⟨h, g, d, t, os⟩ := by
  refine wpAny_call (codeAny_of_tree ?_)
  show wpAny _ A.in1 (callAny (.ref u) ⟨rest, []⟩) _ _ _
  simp only [callAny]
  refine wpAny_bind (wpAny_load hu ?_)
  simp only [PySem.W.kxs_mw, show (Value.type "method-wrapper" == Value.type "method" || Value.type "method-wrapper" == Value.type "builtin_function_or_method" || Value.type "method-wrapper" == Value.type "method-wrapper") = true by decide, if_true]
  refine PySem.W.KFB.if_so (by decide) (wpAny_bind (PySem.W.check_bound_init F.excBase_ValueError.toExcCallFacts hC hx rfl (wpAny_bind (wpAny_pure (wpAny_pure ?_)))))
  refine ⟨plainId_quiet F.excBase_ValueError.init.plain _, codeAny_builtin F.excBase_ValueError.initEntry ?_⟩
  exact PySem.W.exc_init_tree (cls := .ref C) (t0 := t0) (dv := none) (c2 := .none) (c3 := .none) (b4 := .bool false) hx hz fun h' a b _ => k h' _ a b
end
section
variable {P : Program} {w : World} {K : PySem.W.Frag} {mg : Str → Option Value} {base : Heap} {C f : Addr}
theorem sup_ok (S : SupC P K C f) (hmg : mg "super" = none) : ∃ fd : FuncData, Binds K fd [Str.ofString "self", "name"] [] ∧ FnOk P w K mg base CX0 3 f fd [Str.ofString "self", "name"] (fun vs H Q E => spXI C vs H Q E) := by
  obtain ⟨oc, od, osl, qual, r1, r2, p0, p1, p2, p3, p4, p5, q1, q2, q3, q4, kV, doc, pm, ct, an, cda, cc, look, code, hline, ⟨ccl, cdd, cvs, ccs, file, tf, lcode, hfile, hP⟩, cl, cld, csl, lcell⟩ := S.fn
  refine ⟨PySem.W.ksFn "__init__" qual (supArgs r1 r2) (supBody p0 p1 p2 p3 p4 p5 q1 q2 q3 q4) supScope .none kV doc pm an (.ref cda) ct cc, .all fun us hl => ?_, ⟨fun vs H Q E ⟨a, s, e, _⟩ => by rw [e]; rfl, fun A outer s H args us vs Q E room e0 bind vals ⟨a, sx, ev, ha, k⟩ => ?_⟩⟩
  · match us, hl with
    | [x, y], _ => rfl
  subst ev
  obtain ⟨nm, q, N, bs, bm, sn, sub, ab, col, dd, k0, k1, k2, k3, k5, hC, hbm⟩ := S.oex.cls
  have hcl : PySem.W.clsIn K C = some { name := nm, bases := bs, mro := .ref C :: bm, ns := N, qualname := q, hasDict := true, slotNames := sn, subclasses := sub, abstract := ab, collection := col, hasDel := false } := by unfold PySem.W.clsIn; rw [hC] <;> rfl
  have inK : K.In s.heap := e0.mod.kin.keeps fun b o z => (e0.bs b o z).1
  have noLim : s.heap.NoLimit := e0.mod.nolimit.keeps fun b o z => (e0.bs b o z).1
  cases vals with
  | @cons _ u0 _ ur ra rw1 =>
  obtain rfl : u0 = Value.ref a := ra
  cases rw1 with
  | @cons _ u1 _ ur2 ra1 rw2 =>
  cases rw2
  obtain ⟨tk1, rfl⟩ := ra1
  let FN : NdefX.NF := ⟨"__init__", qual, supArgs r1 r2, supBody p0 p1 p2 p3 p4 p5 q1 q2 q3 q4, supScope, [(Str.ofString "__class__", cc)], cda⟩
  refine ks_codeAny_call_defAt (body := supBody p0 p1 p2 p3 p4 p5 q1 q2 q3 q4) room.depth (inK _ _ look) rfl noLim (PySem.W.codeRec_of inK code) rfl bind (by show ∀ x ∈ supScope.names, x.2 ≠ .cell; decide) (fun x hx => ?_) (fun h₀ hns kp => ?_)
  · rcases List.mem_cons.mp hx with rfl | hx
    · rfl
    rcases List.mem_cons.mp hx with rfl | hx
    · rfl
    · exact absurd hx (by simp)
  have cellB := e0.bs _ _ (e0.mod.kin _ _ lcell)
  have lk : ∀ y c, FN.cl.lookup y = some c → y = Str.ofString "__class__" ∧ c = cc := fun y c z => by
    have z : List.lookup y [(Str.ofString "__class__", cc)] = some c := z
    rw [List.lookup_cons] at z
    split at z
    · rename_i q; exact ⟨by simpa using q, (Option.some.inj z).symm⟩
    · cases z
  have cells : NdefX.CellsAt FN.cl [Str.ofString "__class__"] [some (.ref C)] s.heap H :=
    { len := rfl
      all := fun y c z => by
        obtain ⟨_, rfl⟩ := lk y c z
        exact ⟨cellB.2, _, _, cellB.1, rfl⟩
      inj := fun x y c z1 z2 => by rw [(lk x c z1).1, (lk y c z2).1]
      has := fun i y z => by
        match i, z with
        | 0, z =>
          cases z
          exact ⟨cc, by show List.lookup _ [(Str.ofString "__class__", cc)] = _; rw [List.lookup_cons, beq_self_eq_true], fun v e => by cases e; exact ⟨.ref C, rfl, _, cellB.1, rfl⟩⟩
        | i + 1, z => simp at z }
  have vals2 : Vals [V.ref a, .str (mkS sx)] [.ref a, .str (mkS sx) tk1] := .cons rfl (.cons ⟨tk1, rfl⟩ .nil)
  have I := NdefX.inv_startN (CX := CX0) (E := E) (f := f) (N := [Str.ofString "self", "name", "__class__"]) (F := FN) (tk := s.toks + 2) sup_scope room.hd e0 rfl vals2 cells hns kp
  have hns2 := hns
  obtain ⟨hp, g, d, t, os⟩ := s
  show PySem.wpAt (model P w) (A.deeper (NdefX.envF FN f hp.objs.size)) (.func FN.body (NdefX.envF FN f hp.objs.size)) (execs (supBody p0 p1 p2 p3 p4 p5 q1 q2 q3 q4) (NdefX.envF FN f hp.objs.size)) _ _ _
  refine ks_wpAt_execs_cons (ks_wpAt_Expr_any (ks_wpAt_MethodCall ?_ (sup_words hline)))
  have kin := I.kIn
  refine ks_wpAt_super_base (env := NdefX.envF FN f hp.objs.size) rfl rfl rfl rfl (kin _ _ look) rfl rfl rfl (kin _ _ lcode) rfl hfile hP S.top ?_
  obtain ⟨mb, b1, b2⟩ := I.mod.blt
  refine PySem.W.ks_loadName_global rfl rfl (Calls.loadGlobal_builtin (I.mod.glob.keeps I.bk) hmg (b1.keeps I.bk) ((b2 _ (by decide)).trans (show bootBuiltins "super" = some (.type "super") by decide +kernel)) ⟨rfl, ?_⟩)
  refine wpAny_loadName_free rfl rfl rfl ⟨_, kin _ _ lcell, rfl⟩ ?_
  refine wpAny_loadName_local rfl rfl hns2 rfl ?_
  obtain ⟨t0, hx⟩ := exo_at I.hok ha
  refine ks_wpAny_isType_cls (kin _ _ hC) rfl ⟨rfl, ?_⟩
  refine ks_wpAny_call_super (kin _ _ hC) rfl hx rfl (fun c e => nomatch e) (PySem.W.looks_mroIn kin S.mro) (fun h2 hso k2 => ?_)
  have I2 := I.kept (t' := t + 2) k2
  have kin2 := I2.kIn
  have hx2 := k2 _ _ hx
  have ia : PySem.W.InstAt h2 a { cls := .ref C, dict := none, data := .fields #[.ref t0, .none, .none, .none, .bool false, .none] } C none := ⟨hx2, rfl, rfl, trivial⟩
  refine PySem.W.kxs_getMethod PySem.W.kxs_ValueError hso (PySem.W.looks_opaque kin2 S.stat) (l₀ := .ref C :: bm) (fun A Q E s k q => wpAny_bind ((PySem.W.looks_clsIn kin2 hcl) A _ E s k (wpAny_pure q))) rfl kin2 (by
    have := S.sup
    unfold PySem.W.ks_superIn at this
    rw [hcl] at this
    exact this) (ia.type.andThen (PySem.W.looks_subIn kin2 S.sub)) (PySem.W.ks_ne kin2 ia hcl) rfl ?_
  have e1 : (h2.push (PySem.W.kxs_mw "ValueError.__init__" a)).get? h2.objs.size = some (PySem.W.kxs_mw "ValueError.__init__" a) := Heap.get?_push_size _ rfl
  have I3 := I2.kept (t' := t + 2 + 1) (h' := h2.push (PySem.W.kxs_mw "ValueError.__init__" a)) fun b o z => Heap.get?_push_of_some _ z
  have nu : H h2.objs.size = none := I2.hok.fresh (Nat.le_refl _)
  have I4 := I3.pins_of (pins' := [(h2.objs.size, PySem.W.kxs_mw "ValueError.__init__" a)]) fun p hp => by
    rw [List.mem_singleton] at hp
    subst hp
    exact ⟨e1, nu, Nat.ne_of_gt I2.lt, I2.nofs (Nat.le_refl _), fun v e => nomatch e⟩
  refine PySem.W.kxs_callWith (i := "ValueError.__init__") (x := a) rfl (Calls.evalArgs_plain ?_)
  have va : Vis supScope "name" := .inl rfl
  have vs : Vis supScope "self" := .inl rfl
  have pn : PE (NdefX.ncx CX0 P w K mg base [Str.ofString "self", "name", "__class__"] FN f A outer ⟨hp, g, d, t, os⟩ H E) (.Name "name" p3) (tVar 1) := pe_var rfl va
  have pa := pa_cons pn pa_nil
  refine thn (pa.run p4 _ _ _ H (fun vs H' => vs = [.str (mkS sx)] ∧ H' = H) I4 ⟨_, rfl, rfl, rfl⟩) fun us s5 ⟨vs, H5, I5, r5, ev5, eH⟩ => ?_
  subst ev5
  rw [eH] at I5
  obtain ⟨g1, _⟩ := I5.pin _ (List.mem_append_right _ List.mem_cons_self)
  refine ⟨g1, ?_⟩
  obtain ⟨t5, hx5⟩ := exo_at I5.hok ha
  have kin5 := I5.kIn
  have l5 : us.length ≤ sizeLine := by rw [← Paired.length r5, sizeLine_eq]; exact (by decide : 1 ≤ 16777216)
  obtain ⟨h5, g5, d5, tk5, os5⟩ := s5
  refine call_mw (kin5 _ _ hC) hx5 g1 l5 fun h6 t6 k6 hx6 => ?_
  have I6 := (I5.pins_of (pins' := []) (fun p hp => nomatch hp)).write (t' := tk5) (x := a) (e := a) (o := exo a C none) (by rw [ha]; exact True.intro) (.inl rfl) k6 ⟨_, hx6⟩ (exo_ok hx6)
  have eu : upd H a (exo a C none) = H := by
    funext b
    by_cases hb : b = a
    · rw [hb, upd_same, ha]
    · rw [upd_ne hb]
  rw [eu] at I6
  refine wpAt_of_wpAny ?_
  have pst := pss_one (ps_ost (f := "name") (p' := q2) (pos := q4) (pe_var (X := NdefX.ncx CX0 P w K mg base [Str.ofString "self", "name", "__class__"] FN f A outer ⟨hp, g, d, t, os⟩ H E) (i := 0) (pos := q1) rfl vs) (pe_var (i := 1) (pos := q3) rfl va))
  refine wpAny_mono (pst.run [] _ _ H { nx := fun _ H' => Q .non H', rt := Q } I6 ⟨_, rfl, _, rfl, a, C, rfl, S.oex, S.no, .inl ⟨ha, fun dx n ne => k dx n ne⟩⟩) (fun fl s' hs => ?_) fun e s' hs => hs
  cases fl with
  | ret u =>
    obtain ⟨v, σ', H', J, rv, q⟩ := hs
    exact ⟨v, H', J.os, J.bare, J.base, J.hok, rv, q⟩
  | next =>
    obtain ⟨σ', H', J, q⟩ := hs
    exact ⟨V.non, H', J.os, J.bare, J.base, J.hok, rfl, q⟩
  | brk =>
    obtain ⟨_, _, _, q⟩ := hs
    exact False.elim q
  | cont =>
    obtain ⟨_, _, _, q⟩ := hs
    exact False.elim q
end
theorem sup_mk {P : Program} {K : PySem.W.Frag} {C f : Addr} {st : Stmt} {qual : Str} {oc : Value} {od : Option Addr} {osl : Array (Option Value)} {kV doc pm ct : Value} {an : Option Addr} {cda cc : Addr} {ccl : Value} {cdd : Option Addr} {vs : Array Value} {ccs : Array (Option Value)} {file : Str} {tf : Tok} {cl : Value} {cld : Option Addr} {csl : Array (Option Value)}
    (sh : ∃ r1 r2 p0 p1 p2 p3 p4 p5 q1 q2 q3 q4 : Pos, defArgs st = supArgs r1 r2 ∧ defBody st = supBody p0 p1 p2 p3 p4 p5 q1 q2 q3 q4 ∧ defScope st = supScope ∧ (p2.endLine == p4.line) = true)
    (xlf : K.lookup f = some ⟨oc, od, .func (PySem.W.ksFn "__init__" qual (defArgs st) (defBody st) (defScope st) .none kV doc pm an (.ref cda) ct cc), osl⟩) (xco : PySem.W.codeIn K (.ref cda) qual = true) (xlk : K.lookup cda = some ⟨ccl, cdd, .fields vs, ccs⟩) (xvf : vs[2]? = some (.str file tf)) (xpf : ((P.main.file : Str) == file) = true)
    (xll : K.lookup cc = some ⟨cl, cld, .cell (some (.ref C)), csl⟩) (xtp : (P.main.scope.names.lookup ("super" : Str)).isSome = false) (xgl : PySem.W.nsIn K mainGlobals "super" = some none) (ox : OexC K C) (xin : PySem.W.findIn K (.ref C) "__init__" = some (some (.ref f))) (xty : PySem.W.typeIn K (.ref f) = some (.type "function"))
    (xsu : PySem.W.ks_superIn K C C "__init__" = some (some (.builtin "ValueError.__init__"))) (xsb : PySem.W.subIn K (.ref C) (.type "ValueError") = some true) (xmr : PySem.W.mroIn K C (.ref C) = some true) (xst : PySem.W.nsIn K PySem.cStatics "thirdparty.any" = some none) (xno : PySem.W.findIn K (.ref C) "name" = some none) : SupC P K C f := by
  obtain ⟨r1, r2, p0, p1, p2, p3, p4, p5, q1, q2, q3, q4, e1, e2, e3, e4⟩ := sh
  rw [e1, e2, e3] at xlf
  exact ⟨⟨_, _, _, _, r1, r2, p0, p1, p2, p3, p4, p5, q1, q2, q3, q4, _, _, _, _, _, _, _, xlf, xco, e4, ⟨_, _, _, _, _, _, xlk, xvf, xpf⟩, _, _, _, xll⟩, xtp, xgl, ox, xin, xty, xsu, xsb, xmr, xst, xno⟩
/-! ## raise C(name) -/
section
variable {X : Cx} {C f : Addr} {x : Str} {p pos pos2 : Pos} {e : Expr} {te : TEW} {E : XK} {ex : XW → HW → Prop}
/-- what such an exception brings -/
def nameX (C : Addr) (s : List Nat) : XW := ⟨C, some [(Str.ofString "name", .str s)]⟩
def raiseNK (C : Addr) (ex : XW → HW → Prop) (w : W) (h1 : HW) : Prop := match w with | .str s => ex (nameX C s) h1 | _ => False
def sRaiseN (C : Addr) (ex : XW → HW → Prop) (te : TEW) : TSW := fun D ρ h => te ρ h fun w h1 => raiseNK C ex w h1
theorem go_raiseN {C : Addr} {ex : XW → HW → Prop} {te : TEW} {D : EndsW} {ρ : SlW} {h : HW} (k : te ρ h fun w h1 => raiseNK C ex w h1) : sRaiseN C ex te D ρ h := k
theorem go_raiseNK {C : Addr} {ex : XW → HW → Prop} {s : List Nat} {h : HW} (k : ex (nameX C s) h) : raiseNK C ex (.str s) h := k
theorem ws_raiseN (hc : X.calm = true) (tk : Takes X (fun cls d _ H => E cls d H)) (S : SupC X.prog X.K C f) (hsu : X.mg "super" = none) (hr : Room 4 X.A) (hg : Gl X x) (gC : X.mg x = some (.ref C)) (he : WE X (Lk.of X.K E ex) e te)
    (hs : starEach [e] X.env = (false, eval e X.env) :: starEach [] X.env := by rfl) (hdb : (x == ("__debug__" : Str)) = false := by decide) : WS X (Lk.of X.K E ex) (.Raise (some (.Call (.Name x p) [e] [] pos)) none pos2) (sRaiseN C ex te) := by
  obtain ⟨fd, hb, F⟩ := sup_ok (P := X.prog) (w := X.w) (base := X.base) S hsu
  refine (ps_raise hc tk (pmk_oex (ds := []) (dvs := []) (CX := CX0) S.oex S.init S.tyf F hr hb .nil pass0 hg gC (wa_cons he wa_nil hs) hdb hs rfl)).imp fun D σ H ⟨ρ, h, DW, S1, t, k⟩ => ?_
  refine ⟨ρ, h, fun ws h1 => ∃ s, ws = [.str s] ∧ ex (nameX C s) h1, S1, ?_, fun ws h1 vs H1 ⟨s, ew, t1⟩ s1 r1 q1 => ?_⟩
  · show te ρ h fun w1 h1 => _
    have t : te ρ h fun w h1 => match w with | .str s => ex (nameX C s) h1 | _ => False := t
    have e : (fun (w : W) (h1 : HW) => match w with | .str s => ex (nameX C s) h1 | _ => False) = fun w h1 => ∃ s, [w] = [.str s] ∧ ex (nameX C s) h1 := by
      funext w h1
      apply propext
      constructor
      · intro z
        split at z
        · exact ⟨_, rfl, z⟩
        · exact z.elim
      · rintro ⟨s, e, z⟩
        cases e
        exact z
    rw [e] at t
    exact t
  · subst ew
    obtain ⟨v, rfl, q⟩ := q1.one
    cases q
    refine ⟨Nat.le_of_ble_eq_true rfl, fun a na => ⟨a, s, rfl, upd_same, fun d nd dne => ⟨rfl, d, _, upd_same, by rw [upd_ne dne, upd_same], by rw [upd_ne dne] at nd; exact nd, ?_⟩⟩⟩
    rw [upd_ne dne] at nd
    have hd1 : h1 d = none := r1.fresh nd
    have same : ∀ b u, H1 b = some u → upd (del (upd (upd (upd H1 a (exo a C none)) d (exd d [(Str.ofString "name", .str (mkS s))])) a (exo a C (some d))) a) d (.xd [(Str.ofString "name", .str (mkS s))]) b = some u := fun b u z => by
      have b1 : b ≠ a := ne_of_none z na
      have b2 : b ≠ d := ne_of_none z nd
      rw [upd_ne b2, del_ne b1, upd_ne b1, upd_ne b2, upd_ne b1]; exact z
    have st : ST H1 h1 (upd (del (upd (upd (upd H1 a (exo a C none)) d (exd d [(Str.ofString "name", .str (mkS s))])) a (exo a C (some d))) a) d (.xd [(Str.ofString "name", .str (mkS s))])) h1 := fun b u z n => ⟨same b u z, n⟩
    have hr2 : HR X.K (upd (del (upd (upd (upd H1 a (exo a C none)) d (exd d [(Str.ofString "name", .str (mkS s))])) a (exo a C (some d))) a) d (.xd [(Str.ofString "name", .str (mkS s))])) h1 := fun b o z => HR.move st (r1 b o z) fun u y => same b u y
    exact S1.el (nameX C s) h1 (some d) _ t1 (s1.trans st) hr2 ⟨d, _, rfl, upd_same, hd1, .cons (.str s) .nil⟩
end
/-! ## except suites that ask what the exception brings -/
section
variable {X : Cx} {K : PySem.W.Frag}
def rIsX (K : PySem.W.Frag) (D a : Addr) (d : Option Addr) : List V → Hp → VK → Prop := fun xs H Q => (∀ dd, d = some dd → ∃ gs, H dd = some (.xd gs)) ∧ ∃ (c : V) (cv : Value) (b : Bool), xs = [.ref a, c] ∧ (∀ u, L2.RelV c u → u = cv) ∧ PySem.W.kitOne K (.ref D) cv = some b ∧ Q (.bl b) H
theorem call_isX {a D : Addr} {d : Option Addr} {oe : Obj} {pn : List (Addr × Obj)} (T : ExcC X.K D) (hz : Zc (.ref D) d oe) (hf : ∃ vs, oe.data = .fields vs) : CallR (X.suite a ((a, oe) :: pn)) (.builtin "isinstance") (rIsX X.K D a d) := by
  refine fun pins s σ H xs us Q I r ⟨hd, c, cv, b, e0, hcv, e, q⟩ => ?_
  subst e0
  cases r with
  | cons rx rr =>
  cases rr with
  | cons rt rr =>
  cases rr
  cases rx
  obtain rfl := hcv _ rt
  obtain ⟨hget, _⟩ := I.pin (a, oe) (List.mem_append.mpr (.inl List.mem_cons_self))
  obtain ⟨vs, hv⟩ := hf
  obtain ⟨od, J⟩ : ∃ od, PySem.W.InstAt s.heap a oe D od := by
    obtain ⟨oc, odc, oda, osl⟩ := oe
    obtain ⟨h1, h2⟩ := hz
    dsimp only at h1 h2 hv
    subst h1 h2 hv
    cases odc with
    | none => exact ⟨none, hget, rfl, rfl, trivial⟩
    | some dd =>
      obtain ⟨gs, hx⟩ := hd dd rfl
      obtain ⟨mA, ⟨o, es, ep, ho, _⟩, _⟩ := I.hok dd _ hx
      exact ⟨some o, hget, rfl, rfl, ho⟩
  have hcl : (PySem.W.clsIn X.K D).isSome = true := by
    have := T.hd
    unfold PySem.W.hasDictIn at this
    cases z : PySem.W.clsIn X.K D with
    | none => rw [z] at this; cases this
    | some cd => rfl
  exact PySem.W.kia_one (PySem.W.kitx_exc (od := od) hcl T.hg T.hk T.hs T.ha T.hn T.ht T.hm) I.kIn J e (fun z => nomatch z) fun tk => ⟨.bl b, H, I.kept (t' := tk) fun _ _ z => z, rfl, q⟩
theorem w_isX {x : XW} {od : Option Addr} {a : Addr} {oe : Obj} {pn : List (Addr × Obj)} {fx : Str} {p pos : Pos} {e : Expr} {es : List Expr} {t : TAW} (T : ExcC X.K x.C) (hz : Zc (.ref x.C) od oe) (hf : ∃ vs, oe.data = .fields vs)
    (hg : Gl (X.suite a ((a, oe) :: pn)) fx) (hm : (X.suite a ((a, oe) :: pn)).mg fx = none) (hv : bootBuiltins fx = some (.builtin "isinstance")) (ha : WA (X.suite a ((a, oe) :: pn)) (Lk.x X.K x od) (e :: es) t)
    (hn : fx ≠ "__name__" := by decide) (hdb : (fx == ("__debug__" : Str)) = false := by decide)
    (he : starEach (e :: es) (X.suite a ((a, oe) :: pn)).env = (false, eval e (X.suite a ((a, oe) :: pn)).env) :: starEach es (X.suite a ((a, oe) :: pn)).env := by rfl) (hpl : (backTo pos (starEach es (X.suite a ((a, oe) :: pn)).env)).any (·.1) = false := by rfl) :
    WE (X.suite a ((a, oe) :: pn)) (Lk.x X.K x od) (.Call (.Name fx p) (e :: es) [] pos) (oCB (isEW X.K x.C a) t) :=
  (pe_callB (call_isX T hz hf) hg hm hv ha hn hdb he hpl).imp fun σ H Q ⟨ρ, h, R, S, t, k⟩ => ⟨ρ, h, _, S, t, fun ws h1 vs H1 ⟨C, b, e0, e2, t1⟩ s1 r1 q1 => by
    subst e0
    obtain ⟨y1, y2, rfl, r3, r4⟩ := q1.two
    cases r3; cases r4
    have xr : XR X.K H1 h1 x od := XR.mono S.el s1
    refine ⟨fun dd ed => ?_, .ref C, .ref C, b, rfl, fun u z => z, e2, k _ h1 _ H1 t1 s1 r1 (.bl b)⟩
    unfold XR at xr
    split at xr
    · rw [xr] at ed; cases ed
    · obtain ⟨d, gs, e5, e6, _⟩ := xr
      rw [e5] at ed; cases ed
      exact ⟨gs, e6⟩⟩
/-- e.f -/
def oXf (K : PySem.W.Frag) (x : XW) (a : Addr) (f : Str) (te : TEW) : TEW := fun ρ h R => PySem.W.findIn K (.ref x.C) f = some none ∧ te ρ h fun y h1 => y = .ref a ∧ ∃ fs w, x.fs = some fs ∧ fs.lookup f = some w ∧ R w h1
theorem RFs.find {H : Hp} {h : HW} {f : Str} {w : W} : ∀ {gs : List (Str × V)} {fs : List (Str × W)}, RFs K H h gs fs → fs.lookup f = some w → ∃ v, gs.lookup f = some v ∧ RW K H h v w
  | _, _, .nil, e => by cases e
  | _, _, @RFs.cons _ _ _ g v u gs fs r t, e => by
    rw [List.lookup_cons] at e ⊢
    split at e
    · cases e; exact ⟨v, rfl, r⟩
    · exact RFs.find t e
theorem w_xf {x : XW} {od : Option Addr} {a : Addr} {oe : Obj} {pn : List (Addr × Obj)} {e : Expr} {te : TEW} {pos : Pos} {n : Str} (T : ExcC X.K x.C) (hz : Zc (.ref x.C) od oe) (hf : ∃ vs, oe.data = .fields vs)
    (he : WE (X.suite a ((a, oe) :: pn)) (Lk.x X.K x od) e te) (hb : attributeBase e n X.env (eval e X.env) = eval e X.env := by rfl) : WE (X.suite a ((a, oe) :: pn)) (Lk.x X.K x od) (.Attribute e n pos) (oXf X.K x a n te) :=
  ⟨fun pins s σ H Q I ⟨ρ, h, R, S, ⟨hno, t⟩, k⟩ => (pe_xf ⟨T.hg, T.hk, T.hs, T.hd⟩ hno hz hf he hb).run pins s σ H Q I ⟨ρ, h, _, S, t, fun w1 h1 v1 H1 ⟨e1, fs, w, e3, e4, t1⟩ s1 r1 q1 => by
    subst e1
    cases q1
    have xr : XR X.K H1 h1 x od := XR.mono S.el s1
    unfold XR at xr
    rw [e3] at xr
    obtain ⟨d, gs, e5, e6, e7, q⟩ := xr
    obtain ⟨v, e8, r⟩ := RFs.find q e4
    exact ⟨rfl, rfl, d, gs, v, e5, e6, e8, k _ h1 _ H1 t1 s1 r1 r⟩⟩⟩
theorem go_xf {x : XW} {a : Addr} {f : Str} {te : TEW} {ρ : SlW} {h : HW} {R : KW} (no : PySem.W.findIn K (.ref x.C) f = some none) (k : te ρ h fun y h1 => y = .ref a ∧ ∃ fs w, x.fs = some fs ∧ fs.lookup f = some w ∧ R w h1) : oXf K x a f te ρ h R := ⟨no, k⟩
/-- try: x = f(..) / f(..) except S as n: suite, the suite knowing what the exception brings -/
def sTryX (K : PySem.W.Frag) (S : Addr) (sp : SpW) (t : TAW) (j : Option Nat) (i : Nat) (tsu : XW → Addr → TSW) : TSW := fun D ρ h => t ρ h fun ws h1 => sp ws h1 (fun w h2 => D.nx (match j with | some j => ρ.set j (some w) | none => ρ) h2)
  fun x h2 => ExcC K x.C ∧ PySem.W.exmOne K (.ref x.C) (.ref S) = some true ∧ ∀ a, tsu x a (D.sx i) (ρ.set i (some (.ref a))) h2
variable {x n fx : Str} {S f : Addr} {i k : Nat} {b₀ : Stmt} {suite : List Stmt} {np pos pos' epos p cpos : Pos} {fd : FuncData} {ps : List Str} {sp : SpW} {e : Expr} {es : List Expr} {t : TAW} {tsu : XW → Addr → TSW}
theorem tryX_el {σ : L2.St} {H : Hp} {D : Ends} {ρ : SlW} {h : HW} {DW : EndsW} (S1 : Sta K Lk.no σ H ρ h) (kd : KD K H h DW D) {h1 : HW} {H1 : Hp} (s1 : ST H h H1 h1) :
    (Lk.of K (L2.WE (wAs K (.ref S) i (fun a cls d => fun D σ H => ∃ x : XW, cls = .ref x.C ∧ ExcC K x.C ∧ lS K (Lk.x K x d) (tsu x a) D σ H) (fun _ _ _ _ => False) D) σ)
      fun x h2 => ExcC K x.C ∧ PySem.W.exmOne K (.ref x.C) (.ref S) = some true ∧ ∀ a, tsu x a (DW.sx i) (ρ.set i (some (.ref a))) h2).el H1 h1 := by
  intro x h2 od H2 ⟨ec, e1, e2⟩ s2 r2 xr
  refine ⟨true, e1, fun _ a ha => ⟨x, rfl, ec, ρ.set i (some (.ref a)), h2, DW.sx i, ⟨(S1.sr.mono (s1.trans s2)).set (.ref a) i, r2, xr⟩, e2 a, ?_⟩, fun z => nomatch z⟩
  have st := s1.trans s2
  exact ⟨fun ρ' h' σ' H' q s r sr => kd.nx _ h' _ H' q (st.trans s) r (sr.setN i), kd.rt.mono st, fun ρ' h' σ' H' q s r sr => kd.bk _ h' _ H' q (st.trans s) r (sr.setN i), fun ρ' h' σ' H' q s r sr => kd.ct _ h' _ H' q (st.trans s) r (sr.setN i)⟩
theorem ws_tryDX (hs : X.stack = X.env :: X.outer) (hf : X.env.frame = some X.env.locals) (hN : X.N.Nodup) (hi : X.N[i]? = some n) (hln : X.env.kindOf n = some .local) (hc : Names X x (.ref S))
    (F : FnOk X.prog X.w X.K X.mg X.base (L2.CX X.prog X.w) k f fd ps (lSp X.K sp)) (hr : Room k X.A) (hg : Gl X fx) (hm : X.mg fx = some (.ref f)) (hk : PySem.W.keepIn X.K (.ref f) = true) (hb : Binds X.K fd ps [])
    (ha : ∀ pn xe, WA (X.tr pn xe) Lk.no (e :: es) t)
    (hsu : ∀ (x : XW) (od : Option Addr) (a : Addr) (oe : Obj) (pn : List (Addr × Obj)), ExcC X.K x.C → Zc (.ref x.C) od oe → (∃ vs, oe.data = .fields vs) → WSs (X.suite a ((a, oe) :: pn)) (Lk.x X.K x od) (b₀ :: suite) (tsu x a))
    (hdb : (fx == ("__debug__" : Str)) = false := by decide) (he : starEach (e :: es) X.env = (false, eval e X.env) :: starEach es X.env := by rfl) (hpl : (backTo cpos (starEach es X.env)).any (·.1) = false := by rfl)
    (hsw : swapsWith (.Call (.Name fx p) (e :: es) [] cpos) none epos.line X.env = pure false := by rfl) :
    WS X Lk.no (.Try [.Expr (.Call (.Name fx p) (e :: es) [] cpos) epos] [.ExceptHandler (some (.Name x np)) (some n) (b₀ :: suite) pos'] [] [] pos) (sTryX X.K S sp t none i tsu) :=
  (ps_try_as (tb := fun W => tDrop (tCallS (lSp X.K sp) (L2.WE W) (lA X.K Lk.no t))) (ts := fun a cls d => fun D σ H => ∃ x : XW, cls = .ref x.C ∧ ExcC X.K x.C ∧ lS X.K (Lk.x X.K x d) (tsu x a) D σ H) (Wout := fun _ _ _ _ => False) hs hf hN hi hln hc
    (fun _ _ z => by obtain ⟨_, _, _, _, _, _, _, _, _, _, _, _, _, _, _, _, z⟩ := z; exact z.elim)
    (fun W pn xe tk _ => pss_one (ps_expr (pe_callS (X := X.tr pn xe) F hr hg hm hk hb (fun σ => passAt tk σ) (ha pn xe) hdb he hpl) hsw))
    (fun a oe cls d pn hz hf => ⟨fun pins s σ H D I ⟨x, ec, ex, q⟩ => by subst ec; exact (hsu x d a oe pn ex hz hf).run pins s σ H D I q⟩)).imp fun D σ H ⟨ρ, h, DW, S1, t1, kd⟩ =>
    ⟨ρ, h, _, S1, t1, fun ws h1 vs H1 q s1 r1 rws => ⟨ws, h1, _, _, rws, r1, q, fun w h2 v H2 r st hr rw => kd.nx _ h2 _ H2 r (s1.trans st) hr (S1.sr.mono (s1.trans st)), tryX_el S1 kd s1⟩⟩
theorem ws_tryAX {j : Nat} {y : Str} {yp : Pos} (hs : X.stack = X.env :: X.outer) (hf : X.env.frame = some X.env.locals) (hN : X.N.Nodup) (hi : X.N[i]? = some n) (hln : X.env.kindOf n = some .local) (hc : Names X x (.ref S))
    (hj : X.N[j]? = some y) (hy : X.env.scope.names.lookup y = some .local)
    (F : FnOk X.prog X.w X.K X.mg X.base (L2.CX X.prog X.w) k f fd ps (lSp X.K sp)) (hr : Room k X.A) (hg : Gl X fx) (hm : X.mg fx = some (.ref f)) (hk : PySem.W.keepIn X.K (.ref f) = true) (hb : Binds X.K fd ps [])
    (ha : ∀ pn xe, WA (X.tr pn xe) Lk.no (e :: es) t)
    (hsu : ∀ (x : XW) (od : Option Addr) (a : Addr) (oe : Obj) (pn : List (Addr × Obj)), ExcC X.K x.C → Zc (.ref x.C) od oe → (∃ vs, oe.data = .fields vs) → WSs (X.suite a ((a, oe) :: pn)) (Lk.x X.K x od) (b₀ :: suite) (tsu x a))
    (hdb : (fx == ("__debug__" : Str)) = false := by decide) (he : starEach (e :: es) X.env = (false, eval e X.env) :: starEach es X.env := by rfl) (hpl : (backTo cpos (starEach es X.env)).any (·.1) = false := by rfl)
    (hsw : swapsWith (.Call (.Name fx p) (e :: es) [] cpos) (some (.Name y yp)) epos.line X.env = pure false := by rfl) :
    WS X Lk.no (.Try [.Assign [.Name y yp] (.Call (.Name fx p) (e :: es) [] cpos) epos] [.ExceptHandler (some (.Name x np)) (some n) (b₀ :: suite) pos'] [] [] pos) (sTryX X.K S sp t (some j) i tsu) :=
  (ps_try_as (tb := fun W => tAsg (tCallS (lSp X.K sp) (L2.WE W) (lA X.K Lk.no t)) (gName j)) (ts := fun a cls d => fun D σ H => ∃ x : XW, cls = .ref x.C ∧ ExcC X.K x.C ∧ lS X.K (Lk.x X.K x d) (tsu x a) D σ H) (Wout := fun _ _ _ _ => False) hs hf hN hi hln hc
    (fun _ _ z => by obtain ⟨_, _, _, _, _, _, _, _, _, _, _, _, _, _, _, _, z⟩ := z; exact z.elim)
    (fun W pn xe tk _ => pss_one (ps_set (X := X.tr pn xe) hN hj (.inl hy) (pe_callS (X := X.tr pn xe) F hr hg hm hk hb (fun σ => passAt tk σ) (ha pn xe) hdb he hpl) hsw (.inr hy)))
    (fun a oe cls d pn hz hf => ⟨fun pins s σ H D I ⟨x, ec, ex, q⟩ => by subst ec; exact (hsu x d a oe pn ex hz hf).run pins s σ H D I q⟩)).imp fun D σ H ⟨ρ, h, DW, S1, t1, kd⟩ =>
    ⟨ρ, h, _, S1, t1, fun ws h1 vs H1 q s1 r1 rws => ⟨ws, h1, _, _, rws, r1, q, fun w h2 v H2 r st hr rw => kd.nx _ h2 _ H2 r (s1.trans st) hr ((S1.sr.mono (s1.trans st)).set rw j), tryX_el S1 kd s1⟩⟩
theorem go_tryX0 {D : EndsW} {ρ : SlW} {h : HW} (k : t ρ h fun ws h1 => sp ws h1 (fun w h2 => D.nx ρ h2) fun x h2 => ExcC K x.C ∧ PySem.W.exmOne K (.ref x.C) (.ref S) = some true ∧ ∀ a, tsu x a (D.sx i) (ρ.set i (some (.ref a))) h2) : sTryX K S sp t none i tsu D ρ h := k
theorem go_tryX1 {D : EndsW} {ρ : SlW} {h : HW} {j : Nat} (k : t ρ h fun ws h1 => sp ws h1 (fun w h2 => D.nx (ρ.set j (some w)) h2) fun x h2 => ExcC K x.C ∧ PySem.W.exmOne K (.ref x.C) (.ref S) = some true ∧ ∀ a, tsu x a (D.sx i) (ρ.set i (some (.ref a))) h2) : sTryX K S sp t (some j) i tsu D ρ h := k
end
end Wl

set_option Elab.async false
set_option linter.all false
set_option maxRecDepth 100000
namespace Wl
open PySem PySem.Spec PyProof.Rows L2
/-! ## xs[i] = v -/
section
variable {X : Cx} {L : Lk} {o i : Expr} {to ti : TEW} {pos : Pos}
def lixK (w : W) (o i : W) (h : HW) (P : HW → Prop) : Prop := match o, i with
  | .ref p, .int k => (match h p with
    | some (.lst ws) => (match ixN ws.length k with | some j => P (updW h p (.lst (ws.set j w))) | none => False)
    | _ => False)
  | _, _ => False
def gLix (to ti : TEW) : TGW := fun w ρ h P => to ρ h fun o h1 => ti ρ h1 fun i h2 => lixK w o i h2 (P ρ)
theorem wg_lix (ho : WE X L o to) (hi : WE X L i ti) (ha : ∀ v, assign (.Subscript o i pos) X.env v = (do
      let ov ← holding [v] (eval o X.env)
      let iv ← holding [v, ov] (eval i X.env)
      standAt pos
      holding [v, ov, iv] (setItem ov iv v)
      release [v, ov, iv] []) := by intro _; rfl) : WG X L (.Subscript o i pos) (gLix to ti) := (pg_sub ho hi set_list ha).imp fun v σ H Q ⟨w, ρ, h, P, r, S, t, k⟩ =>
  ⟨ρ, h, _, S, t, fun w1 h1 v1 H1 t1 s1 r1 q1 => ⟨ρ, h1, _, S.to s1 r1, t1, fun w2 h2 v2 H2 t2 s2 r2 q2 => by
    unfold lixK at t2
    split at t2
    · rename_i p kk
      split at t2
      · rename_i ws hp
        split at t2
        · rename_i jj ej
          cases q1; cases q2
          obtain ⟨vs, hv, q⟩ := r2 _ _ hp
          have st : ST H2 h2 (upd H2 p (.lst (vs.set jj v))) (updW h2 p (.lst (ws.set jj w))) := .mut hp _ _
          have tot := (s1.trans s2).trans st
          refine ⟨_, vs, _, _, rfl, rfl, hv, by rw [q.length]; exact ej, k _ _ _ _ t2 tot (r2.mut hp ⟨_, upd_same, ?_⟩) (S.sr.mono tot)⟩
          exact RWs.set (r.mono tot) _ (q.mono st)
        · exact t2.elim
      · exact t2.elim
    · exact t2.elim⟩⟩
theorem go_lix {w : W} {ρ : SlW} {h : HW} {P : SlW → HW → Prop} (k : to ρ h fun o h1 => ti ρ h1 fun i h2 => lixK w o i h2 (P ρ)) : gLix to ti w ρ h P := k
theorem go_lixK {w : W} {p : Addr} {k : Int} {h : HW} {P : HW → Prop} {ws : List W} {j : Nat} (e : h p = some (.lst ws)) (ej : ixN ws.length k = some j) (q : P (updW h p (.lst (ws.set j w)))) : lixK w (.ref p) (.int k) h P := by
  unfold lixK; dsimp only; rw [e]; dsimp only; rw [ej]; exact q
end
/-! ## text.index(part), the part being there -/
section
variable {K : PySem.W.Frag} {h : HW} {R : KW} {a b : List Nat}
theorem subAt_mk (a b : List Nat) (i : Nat) : Builtin.Str.subAt (mkS a) (mkS b) i = true ↔ b <+: a.drop i := by
  unfold Builtin.Str.subAt
  rw [beq_iff_eq, mkS_length]
  have e : (mkS a).cps.extract i (i + b.length) = ((a.drop i).take b.length).toArray := by
    apply Array.toList_inj.mp
    simp [mkS]
  rw [e]
  constructor
  · intro z
    have z : (a.drop i).take b.length = b := by
      have := congrArg Array.toList z
      simpa [mkS] using this
    have y := List.take_append_drop b.length (a.drop i)
    rw [z] at y
    exact ⟨_, y⟩
  · rintro ⟨u, hu⟩
    rw [← hu, List.take_left]; rfl
def indexW : W → List W → HW → KW → Prop := fun x ws h R => match x, ws with
  | .str a, [.str b] => ∃ pre post, a = pre ++ (b ++ post) ∧ (∀ k, k < pre.length → ¬ b <+: a.drop k) ∧ R (.int (pre.length : Nat)) h
  | _, _ => False
theorem lf_index : LfM K (fun x xs H Q => ∃ a b i rest, x = .str a ∧ xs = [.str b] ∧ Builtin.Str.occurrences a b 0 a.length 1 = i :: rest ∧ Q (.int (i : Nat)) H) indexW := fun x xs H Q w ws h R r rs hr t k => by
  unfold indexW at t
  split at t
  · rename_i a b
    obtain ⟨pre, post, e, no, t⟩ := t
    cases r
    obtain ⟨y, rfl, ry⟩ := rs.one
    cases ry
    have at0 : PySem.StrLaws.At (mkS a) (mkS b) (mkS a).length pre.length := by
      refine ⟨by rw [mkS_length, mkS_length, e]; simp, (subAt_mk _ _ _).mpr ?_⟩
      rw [e, List.drop_left]
      exact ⟨post, rfl⟩
    rcases PySem.StrLaws.occ_head (mkS a) (mkS b) 1 (Nat.le_refl _) with ⟨_, n⟩ | ⟨i, rest, e1, e2, e3⟩
    · exact absurd at0 (n _)
    · have ei : i = pre.length := by
        rcases Nat.lt_trichotomy i pre.length with z | z | z
        · exact absurd ((subAt_mk _ _ _).mp e2.2) (no i z)
        · exact z
        · exact absurd at0 (e3 _ z)
      subst ei
      exact ⟨_, _, _, rest, rfl, rfl, e1, k.go hr t (.int _)⟩
  · exact t.elim
theorem go_index (pre post : List Nat) (e : a = pre ++ (b ++ post)) (no : ∀ k, k < pre.length → ¬ b <+: a.drop k) (k : R (.int (pre.length : Nat)) h) : indexW (.str a) [.str b] h R := ⟨pre, post, e, no, k⟩
/-- of a sign that does not occur ahead -/
theorem go_index1 {c : Nat} (pre post : List Nat) (e : a = pre ++ c :: post) (no : c ∉ pre) (k : R (.int (pre.length : Nat)) h) : indexW (.str a) [.str [c]] h R := by
  refine ⟨pre, post, e, fun i hi z => ?_, k⟩
  obtain ⟨u, hu⟩ := z
  have e0 : pre.drop i = pre[i] :: pre.drop (i + 1) := List.drop_eq_getElem_cons hi
  rw [e, List.drop_append_of_le_length (by omega), e0] at hu
  have : c = pre[i] := (List.cons.inj hu).1
  exact no (by rw [this]; exact List.getElem_mem hi)
theorem go_eqR {p : Addr} {x : W} {ys : List W} (hp : h p = some (.lst ys)) (e1 : dataW x = true) (e2 : dataW (.lst ys) = true) (c : depW x ≤ 64) (d : depW (.lst ys) ≤ 64) (k : R (.bl (eqD x (.lst ys))) h) : eqW x (.ref p) h R := by
  have ey : rsv (.ref p) h = .lst ys := by unfold rsv; dsimp only; rw [hp]
  unfold eqW
  split
  · rename_i u v; cases v
  · rename_i u v; cases v
  · rw [ey, rsv_of e1]; exact ⟨e1, e2, c, d, k⟩
end
end Wl

set_option Elab.async false
set_option linter.all false
set_option maxRecDepth 100000
namespace Wl
open PySem PySem.Spec PyProof.Rows L2
/-! ## del xs[a:] -/
section
variable {prog : Program} {w : World} {A : Around} {E : Value → Shared → Prop} {s : Shared}
theorem bounds_from {a n : Nat} (ha : a ≤ n) : sliceBounds (some (a : Int)) none none n = ((a : Int), (n : Int), 1) := by
  simp only [sliceBounds, Option.getD_none]
  have h1 : ¬ ((a : Int) < 0) := by omega
  simp only [h1, if_false, show (1 : Int) > 0 by decide, if_true]
  congr 1
  omega
theorem filter_from (f : Value × Nat → Option Value) (a N : Nat) (hf : ∀ x k, k < N → f (x, k) = if a ≤ k then none else some x) : ∀ (l : List Value) (i : Nat), i + l.length ≤ N → (l.zipIdx i).filterMap f = l.take (a - i)
  | [], i, _ => by simp
  | x :: l, i, hl => by
    have hl : i + (l.length + 1) ≤ N := hl
    rw [List.zipIdx_cons, List.filterMap_cons, hf _ _ (by omega)]
    have ih := filter_from f a N hf l (i + 1) (by omega)
    by_cases c : a ≤ i
    · rw [if_pos c, show a - i = 0 by omega]
      dsimp only
      rw [ih, show a - (i + 1) = 0 by omega]; rfl
    · rw [if_neg c, show a - i = (a - (i + 1)) + 1 by omega]
      dsimp only
      rw [ih]; rfl
theorem del_fin {f : Value × Nat → Option Value} {y : List Value} {l : Addr} {items : Array Value} {n a : Nat} {Q : Unit → Shared → Prop} (e : s.heap.get? l = some { cls := .type "list", data := .seq items n }) (hsz : items.size ≤ sizeLine)
    (hf : ∀ x k, k < items.size → f (x, k) = if a ≤ k then none else some x)
    (h : ∀ f : Array Value → Array Value, f items = (items.toList.take a).toArray → Q () { s with heap := s.heap.update l (Obj.mapSeq f) }) :
    wpAny (model prog w) A (Builtin.List.listUpdate (.ref l) (fun xs => (List.filterMap f xs.toList.zipIdx).toArray) >>= fun _ => letGo y >>= fun _ => PySem.ret .none) (fun fin s' => ∃ v, fin = Fin.done (Flow.ret v) ∧ Q () s') E s := by
  have key : List.filterMap f items.toList.zipIdx = items.toList.take a := filter_from f a items.size hf items.toList 0 (by simp)
  show wpAny _ _ (updateSeq l (fun xs => (List.filterMap f xs.toList.zipIdx).toArray) >>= _) _ _ s
  refine wpAny_bind (wpAny_updateSeq (hz := hsz) (_hz' := by rw [key]; simp; omega) e rfl ?_)
  refine wpAny_bind (wpAny_letGo ?_)
  exact wpAny_pure ⟨.none, rfl, h _ (by rw [key])⟩
theorem delItem_from {l sl : Addr} {items : Array Value} {n : Nat} {vl : Value} {a : Nat} {Q : Unit → Shared → Prop} (e : s.heap.get? l = some { cls := .type "list", data := .seq items n })
    (hs : s.heap.IsSliceOf sl vl .none .none) (pl : IsPart vl (some (a : Int))) (ha : a ≤ items.size) (hsz : items.size ≤ sizeLine)
    (h : ∀ f : Array Value → Array Value, f items = (items.toList.take a).toArray → Q () { s with heap := s.heap.update l (Obj.mapSeq f) }) :
    wpAny (model prog w) A (delItem (.ref l) (.ref sl)) Q E s := by
  have hl : s.heap.IsList l items := PySem.IsL.isList e
  obtain ⟨os, hos, hcs, hds⟩ := id hs
  have hTs : s.TypeIs (.ref sl) "slice" := ⟨os, hos, hcs⟩
  have hstep : ¬ ((rawPart none == rawInt 0) = true) := Bool.false_ne_true
  refine wpAny_delItem_slot hl.typeIs (by decide) PySem.F.slot_list_delitem (wpAny_call_entry PySem.F.slot_list_delitem hl.typeIs PySem.F.entry_list_delitem ?_ (PySem.F.args_list_delitem_2 _ _))
  show wpAny _ _ (Builtin.List.listSubscript? (.ref sl) >>= _) _ _ s
  refine wpAny_bind ?_
  unfold Builtin.List.listSubscript?
  refine wpAny_bind (wpAny_specialOf hTs slice_no_index ?_)
  simp only [Option.isNone_none, if_true]
  refine wpAny_pure ?_
  show wpAny _ _ (typeOf (.ref sl) >>= _) _ _ s
  refine wpAny_bind (wpAny_typeOf hTs ?_)
  rw [if_neg (by decide)]
  rw [listSliceParts_eq]
  refine wpAny_bind (wpAny_bind (wpAny_field hos hds (x := .none) rfl (wpAny_bind (wpAny_listPart .none ?_))))
  rw [if_neg hstep]
  refine wpAny_bind (wpAny_field hos hds (x := vl) rfl (wpAny_bind (wpAny_listPart pl ?_)))
  refine wpAny_bind (wpAny_field hos hds (x := .none) rfl (wpAny_bind (wpAny_listPart .none (wpAny_pure ?_))))
  unfold Builtin.List.listItems
  refine wpAny_bind (wpAny_bind (wpAny_seqItems e rfl (wpAny_pure ?_)))
  refine wpAny_bind (wpAny_of_eq ((sliceIndices_raw (some (a : Int)) none none items.size (by simp)).trans (congrArg (pure : Int × Int × Int → Sem (Int × Int × Int)) (bounds_from ha))) ?_)
  refine wpAny_bind (wpAny_rule ?_)
  refine del_fin e hsz (fun x k hk => ?_) h
  show (if (if (1 : Int) > 0 then decide ((a : Int) ≤ k) && decide ((k : Int) < items.size) && (((k : Int) - a) % 1 == 0) else decide ((items.size : Int) < k) && decide ((k : Int) ≤ a) && (((a : Int) - k) % (-1) == 0)) = true then none else some x) = if a ≤ k then none else some x
  rw [if_pos (by decide : (1 : Int) > 0), Int.emod_one]
  by_cases c : a ≤ k
  · rw [if_pos c, decide_eq_true (by omega), decide_eq_true (by omega)]; rfl
  · rw [if_neg c, decide_eq_false (by omega)]; rfl
end
section
variable {X : Cx} {L : Lk} {o i : Expr} {to ti : TE} {pos p2 tpos : Pos}
def tDelF (to ti : TE) : TS := fun D σ H => to σ H fun x H1 => ti σ H1 fun y H2 => ∃ (l : Addr) (xs : List V) (k : Nat), x = .ref l ∧ y = .int (k : Nat) ∧ H2 l = some (.lst xs) ∧ k ≤ xs.length ∧ D.nx σ (upd H2 l (.lst (xs.take k)))
theorem ps_delF (ho : PE X o to) (hi : PE X i ti) : PS X (.Delete [.Subscript o (.Slice (some i) none none p2) tpos] pos) (tDelF to ti) := by
  refine ⟨fun pins s σ H D I h => ?_⟩
  refine wpAny_Delete (wpAny_deleteEach_cons (wpAny_delete_Subscript (thn (ho.run pins s σ H _ I h) fun u s1 ⟨x, H1, I1, rx, q1⟩ => ?_)))
  refine wpAny_Slice ?_
  rw [evalPart_some]
  refine thn (hi.run pins s1 σ H1 _ I1 q1) fun vl s2 ⟨y, H2, I2, ry, q2⟩ => ?_
  rw [evalPart_none]
  refine wpAny_pure (wpAny_pure ?_)
  obtain ⟨l, xs, k, ex, ey, hH, hk, q2⟩ := q2
  subst ex
  subst ey
  cases (show u = Value.ref l from rx)
  obtain ⟨t, rfl⟩ := (show ∃ t, vl = Value.int k t from ry)
  have I4 : Inv X pins σ H2 { s2 with heap := s2.heap.push { cls := .type "slice", data := .fields #[.int k t, .none, .none] } } := I2.kept (t' := s2.toks) fun b ob q => Heap.get?_push_of_some _ q
  obtain ⟨z, its, n, r, hl, e⟩ := I4.lstM hH
  refine delItem_from (a := k) e (Heap.IsSliceOf.new ..) (.int _ _) (by rw [List.size_toArray]; omega) (by rw [List.size_toArray]; omega) fun f hf => ?_
  refine wpAny_deleteEach_nil ⟨σ, _, I4.lset (its' := its.take k) (t' := s2.toks) hH e ?_ (r.take k) ?_, q2⟩
  · rw [hf]
  · rw [List.length_take]; omega
/-- del xs[a:] -/
def delFK (x y : W) (h : HW) (P : HW → Prop) : Prop := match x, y with
  | .ref p, .int i => (match h p with | some (.lst ws) => 0 ≤ i ∧ i ≤ ws.length ∧ P (updW h p (.lst (ws.take i.toNat))) | _ => False)
  | _, _ => False
def sDelF (to ti : TEW) : TSW := fun D ρ h => to ρ h fun x h1 => ti ρ h1 fun y h2 => delFK x y h2 (D.nx ρ)
theorem ws_delF {to ti : TEW} (ho : WE X L o to) (hi : WE X L i ti) : WS X L (.Delete [.Subscript o (.Slice (some i) none none p2) tpos] pos) (sDelF to ti) := (ps_delF ho hi).imp fun D σ H ⟨ρ, h, DW, S, t, k⟩ =>
  ⟨ρ, h, _, S, t, fun w1 h1 v1 H1 t1 s1 r1 q1 => ⟨ρ, h1, _, S.to s1 r1, t1, fun w2 h2 v2 H2 t2 s2 r2 q2 => by
    unfold delFK at t2
    split at t2
    · rename_i p j
      split at t2
      · rename_i ws hp
        obtain ⟨h0, hj, t2⟩ := t2
        have q1 := q1.mono s2
        cases q1; cases q2
        obtain ⟨vs, hv, rs⟩ := r2 _ _ hp
        obtain ⟨m, rfl⟩ := Int.eq_ofNat_of_zero_le h0
        have st : ST H2 h2 (upd H2 p (.lst (vs.take m))) (updW h2 p (.lst (ws.take m))) := .mut hp _ _
        refine ⟨p, vs, m, rfl, rfl, hv, by rw [rs.length]; omega, k.nx ρ _ _ _ t2 ((s1.trans s2).trans st) ?_ ((S.sr.mono (s1.trans s2)).mono st)⟩
        exact r2.mut hp ⟨_, upd_same, (rs.mono st).take m⟩
      · exact t2.elim
    · exact t2.elim⟩⟩
theorem go_sdelF {to ti : TEW} {D : EndsW} {ρ : SlW} {h : HW} (k : to ρ h fun x h1 => ti ρ h1 fun y h2 => delFK x y h2 (D.nx ρ)) : sDelF to ti D ρ h := k
theorem go_delFK {p : Addr} {i : Int} {h : HW} {ws : List W} {P : HW → Prop} (hp : h p = some (.lst ws)) (h0 : 0 ≤ i) (hi : i ≤ ws.length) (k : P (updW h p (.lst (ws.take i.toNat)))) : delFK (.ref p) (.int i) h P := by
  unfold delFK; dsimp only; rw [hp]; exact ⟨h0, hi, k⟩
end
/-! ## zip of two lists -/
section
variable {X : Cx} {L : Lk}
def zipW (xs ys : List W) : List W := List.zipWith (fun x y => .tup [x, y]) xs ys
def oItZ (ta : TAW) : TIW := fun ρ h P => ta ρ h fun ws h1 => match ws with | [.lst xs, .lst ys] => P (zipW xs ys) h1 | _ => False
theorem itZ {K : PySem.W.Frag} {H : Hp} {h : HW} {a b : Addr} {vs us : List V} {xs ys : List W} (f : FzL H h a vs) (g : FzL H h b us) (r : RWs K H h vs xs) (q : RWs K H h us ys) : ItW K (Itz K a b) H h (zipW xs ys) where
  step := fun i H1 h1 w st hr e => by
    unfold zipW at e
    rw [List.getElem?_zipWith] at e
    cases ex : xs[i]? with
    | none => rw [ex] at e; cases e
    | some x =>
      cases ey : ys[i]? with
      | none => rw [ex, ey] at e; cases e
      | some y =>
        rw [ex, ey] at e
        cases e
        obtain ⟨v, e1, e2⟩ := (r.mono st).get ex
        obtain ⟨u, e3, e4⟩ := (q.mono st).get ey
        refine ⟨⟨vs, us, v, u, (f.mono st).sq, (g.mono st).sq, e1, e3⟩, fun z H' ⟨T, v', u', ez, hT, eH, y1, y2⟩ => ?_⟩
        subst ez eH
        have y1 := y1 vs (f.mono st).sq
        have y2 := y2 us (g.mono st).sq
        rw [e1] at y1; cases y1
        rw [e3] at y2; cases y2
        have s1 : ST H1 h1 (upd H1 T (.tup [v, u])) h1 := .newF hT _
        exact ⟨s1, hr.newF hT _, .tup (.inl ⟨.inl upd_same, hr.fresh hT⟩) (.cons (e2.mono s1) (.cons (e4.mono s1) .nil))⟩
  stop := fun i H1 h1 st hr e => by
    refine ⟨vs, us, (f.mono st).sq, (g.mono st).sq, ?_⟩
    unfold zipW at e
    rw [List.length_zipWith] at e
    rw [r.length, q.length]
    omega
theorem wi_zip {e e2 : Expr} {ta : TAW} {p pos tpos : Pos} {elts : List Expr} {kk : Nat} (hg : Gl X "zip") (hm : X.mg "zip" = none) (ha : WA X L [e, e2] ta)
    (hs : starEach [e, e2] X.env = (false, eval e X.env) :: starEach [e2] X.env := by rfl) (hpl : (backTo pos (starEach [e2] X.env)).any (·.1) = false := by rfl) :
    WI X L (.Tuple elts kk tpos) (.Call (.Name "zip" p) [e, e2] [] pos) (oItZ ta) := (pi_zip hg hm ha hs hpl).imp fun σ H Q ⟨ρ, h, P, S, t, k⟩ =>
  ⟨ρ, h, _, S, t, fun ws h1 vs H1 t1 s1 r1 q1 => by
    split at t1
    · obtain ⟨x, y, rfl, q, q'⟩ := q1.two
      cases q with
      | lst f q =>
        cases q' with
        | lst g q' => exact ⟨_, _, _, _, rfl, f.sq, g.sq, k _ h1 _ H1 t1 s1 r1 (itZ f g q q')⟩
    · exact t1.elim⟩
theorem go_forZ {ta : TAW} {g : TGW} {tb : TSW} {D : EndsW} {ρ : SlW} {h : HW} (xs ys : List W) (ev : ∀ R : List W → HW → Prop, R [.lst xs, .lst ys] h → ta ρ h R)
  (Pv : Nat → SlW → HW → Prop) (p0 : CN (Pv 0) ρ h) (turn : ∀ (i : Nat) w ρ' h', (zipW xs ys)[i]? = some w → Pv i ρ' h' → g w ρ' h' fun ρ2 h2 => tb (D.lp (CN (Pv (i + 1))) D.nx) ρ2 h2)
  (fin : ∀ ρ' h', Pv (zipW xs ys).length ρ' h' → D.nx ρ' h') : sFor (oItZ ta) g tb D ρ h := ev _ ⟨Pv, p0, turn, fin⟩
end
/-! ## sorted(xs) of texts -/
def sortedSW : List W → HW → KW → Prop := fun ws h R => match ws with
  | [.lst xs] => (match strsOf xs with | some ss => ss.length < 64 ∧ ∀ ys : List (List Nat), ys.Perm ss → R (.lst (ys.map W.str)) h | none => False)
  | _ => False
theorem lf_sortedS {K : PySem.W.Frag} : LfC K (rSortedS K) sortedSW := fun xs H Q ws h R r hr t k => by
  unfold sortedSW at t
  split at t
  · split at t
    · rename_i ss e
      obtain ⟨x, rfl, q⟩ := r.one
      cases q with
      | lst f q =>
        rw [strsOf_eq e] at q
        refine ⟨_, ss.map mkS, rfl, by rw [← q.strs]; exact f.sq, by rw [List.length_map]; exact t.1, fun ys p pm hso hp => ?_⟩
        have ey : ys = (ys.map fun s => s.cps.toList).map mkS := by
          rw [List.map_map]
          conv => lhs; rw [← List.map_id ys]
          exact List.map_congr_left fun s _ => (mkS_list s)
        have pm2 : (ys.map fun s => s.cps.toList).Perm ss := by
          have := pm.map (fun s : Str => s.cps.toList)
          rw [List.map_map] at this
          refine this.trans (.of_eq ?_)
          conv => rhs; rw [← List.map_id ss]
          exact List.map_congr_left fun s _ => by simp [mkS]
        have t2 := t.2 _ pm2
        have rs : RWs K H h (ys.map V.str) ((ys.map fun s => s.cps.toList).map W.str) := by
          clear t2 pm2 pm ey hso
          induction ys with
          | nil => exact .nil
          | cons y ys ih => exact .cons (by rw [mkS_list y]; simp only [mkS]; exact .str _) ih
        exact k.lst hr rs t2 hp
    · exact t.elim
  · exact t.elim
theorem go_sortedS {ss : List (List Nat)} {h : HW} {R : KW} (l : ss.length < 64) (k : ∀ ys : List (List Nat), ys.Perm ss → R (.lst (ys.map W.str)) h) : sortedSW [.lst (ss.map W.str)] h R := by
  unfold sortedSW; dsimp only; rw [strsOf_map]; exact ⟨l, k⟩
/-! ## C() of a class without an __init__ -/
structure MkB (K : PySem.W.Frag) (C : Addr) : Prop where
  makes : PySem.W.makesIn K C = true
  init : PySem.W.findIn K (.ref C) "__init__" = some (some (.builtin "object.__init__"))
  top : PySem.W.mroIn K C (.type "object") = some true
  kp : PySem.W.keepIn K (.ref C) = true
section
open PySem.W PySem.Calls
variable {X : Cx} {C : Addr} {x : Str} {p pos : Pos}
theorem run_makeB {pins : List (Addr × Obj)} {σ : L2.St} {H : Hp} {s : Shared} {Q : VK} (M : MkB X.K C) (I : Inv X pins σ H s)
    (h : ∀ x dx, H x = none → H dx = none → dx ≠ x → Q (.ref x) (upd (upd H dx (.own x)) x (.ins C dx []))) : wpAny (model X.prog X.w) X.A (call (.ref C) []) (EP X pins σ Q) X.xe s := by
  have hq := h (s.heap.objs.size + 1) s.heap.objs.size (I.hok.fresh (Nat.le_succ _)) (I.hok.fresh (Nat.le_refl _)) (Nat.ne_of_lt (Nat.lt_succ_self _))
  have I2 := Inv.made (C := C) I
  refine wpAny_call (make_map0 I.kIn M.makes M.init (fun self => Looks.of_pure (oi_bind _)) ?_)
  have ho : ((s.heap.push PySem.W.emptyDict).push (PySem.W.instObj C s.heap.objs.size)).get? (s.heap.objs.size + 1) = some (PySem.W.instObj C s.heap.objs.size) := by
    have := Heap.get?_push_size (s.heap.push PySem.W.emptyDict) (o := PySem.W.instObj C s.heap.objs.size) rfl
    rw [Heap.size_push] at this; exact this
  have t1 : Looks (model X.prog X.w) ((s.heap.push PySem.W.emptyDict).push (PySem.W.instObj C s.heap.objs.size)) (typeOf (.ref (s.heap.objs.size + 1))) (.ref C) := NwA.type_at ho rfl
  have t2 : Looks (model X.prog X.w) ((s.heap.push PySem.W.emptyDict).push (PySem.W.instObj C s.heap.objs.size)) (isInstance (.ref (s.heap.objs.size + 1)) (.type "object")) true := t1.andThen (looks_mroIn I2.kIn M.top)
  refine codeAny_call_builtin oi_plain entry_oi (@check_slot (model X.prog X.w) _ _ _ "object.__init__" "object" "__init__" (.ref (s.heap.objs.size + 1)) [] [] _ oi_kind oi_split t2 (NwA.oi_args_any _ _ _) ?_)
  rw [oi_run]
  exact wpAny_pure ⟨rfl, V.ref (s.heap.objs.size + 1), _, I2, rfl, hq⟩
end
section
variable {X : Cx} {L : Lk} {C : Addr} {x : Str} {p pos : Pos}
def tMakeB (C : Addr) : TE := fun σ H Q => ∀ x dx, H x = none → H dx = none → dx ≠ x → Q (.ref x) (upd (upd H dx (.own x)) x (.ins C dx []))
theorem pe_makeB (M : MkB X.K C) (hg : Gl X x) (hm : X.mg x = some (.ref C)) (hdb : (x == ("__debug__" : Str)) = false := by decide) : PE X (.Call (.Name x p) [] [] pos) (tMakeB C) := by
  refine ⟨fun pins s σ H Q I h => ?_⟩
  refine wpAny_Call_Name_kw (ld_glob I hg hm ?_ hdb)
  exact PySem.W.callWith_K0 I.kIn M.kp (run_makeB M I h)
def oMakeB (C : Addr) : TEW := fun _ h R => ∀ x, h x = none → R (.ref x) (updW h x (.ins C []))
theorem w_makeB (M : MkB X.K C) (hg : Gl X x) (hm : X.mg x = some (.ref C)) (hdb : (x == ("__debug__" : Str)) = false := by decide) : WE X L (.Call (.Name x p) [] [] pos) (oMakeB C) := (pe_makeB M hg hm hdb).imp fun σ H Q ⟨ρ, h, R, S, t, k⟩ =>
  fun x dx ex ed ne => k _ _ _ _ (t x (S.hr.fresh ex)) (.newI (fs := []) ex ed _) (S.hr.newI ex ed) (.ref x)
theorem go_makeB {ρ : SlW} {h : HW} {R : KW} (k : ∀ x, h x = none → R (.ref x) (updW h x (.ins C []))) : oMakeB C ρ h R := k
end
/-! ## t[lo:hi], the whole of t as well -/
section
variable {X : Cx} {L : Lk} {e : Expr} {te : TEW} {lo hi : Option Expr} {tl th : TOW} {pos p2 : Pos}
def slA (x : W) (lo hi : Option Int) (h : HW) (R : KW) : Prop := match x with
  | .tup ws => R (.tup (cut ws lo hi)) h
  | _ => False
def oSlA (te : TEW) (tl th : TOW) : TEW := fun ρ h R => te ρ h fun x h1 => tl ρ h1 fun l h2 => th ρ h2 fun u h3 => slA x l u h3 R
theorem cut_whole {α : Type} {xs : List α} {lo hi : Option Int} (e : HT.sIx xs.length 0 lo = 0 ∧ HT.sIx xs.length xs.length hi = xs.length) : cut xs lo hi = xs := by
  unfold cut; rw [e.1, e.2]; simp
theorem w_sliceA (he : WE X L e te) (hl : PO X lo (lO X.K L tl)) (hu : PO X hi (lO X.K L th)) : WE X L (.Subscript e (.Slice lo hi none p2) pos) (oSlA te tl th) := (pe_slice sl_tupA he hl hu).imp fun σ H Q ⟨ρ, h, R, S, t, k⟩ =>
  ⟨ρ, h, _, S, t, fun w1 h1 v1 H1 t1 s1 r1 q1 => ⟨ρ, h1, _, S.to s1 r1, t1, fun l h2 H2 t2 s2 r2 => ⟨ρ, h2, _, S.to (s1.trans s2) r2, t2, fun u h3 H3 t3 s3 r3 => by
    unfold slA at t3
    split at t3
    · have q := (q1.mono s2).mono s3
      cases q with
      | tup f q =>
        refine ⟨_, _, rfl, f.sq, fun e => ?_, fun _ p hp => (k.mono ((s1.trans s2).trans s3)).tup r3 (q.cut l u) t3 hp⟩
        rw [q.length] at e
        rw [cut_whole e] at t3
        exact k _ h3 _ H3 t3 ((s1.trans s2).trans s3) r3 (.tup f q)
    · exact t3.elim⟩⟩⟩
theorem go_slA {te : TEW} {tl th : TOW} {ρ : SlW} {h : HW} {R : KW} (k : te ρ h fun x h1 => tl ρ h1 fun l h2 => th ρ h2 fun u h3 => slA x l u h3 R) : oSlA te tl th ρ h R := k
theorem go_slAT {ws : List W} {lo hi : Option Int} {h : HW} {R : KW} (k : R (.tup (cut ws lo hi)) h) : slA (.tup ws) lo hi h R := k
end
end Wl

set_option Elab.async false
set_option linter.all false
set_option maxRecDepth 100000
namespace Wl
open PySem PySem.Spec PyProof.Rows L2
/-! ## xs.pop(i), xs.insert(i, x) -/
section
variable {X : Cx} {K : PySem.W.Frag} {H : Hp} {h : HW}
theorem RWs.erase : ∀ {vs : List V} {ws : List W} (i : Nat), RWs K H h vs ws → RWs K H h (vs.eraseIdx i) (ws.eraseIdx i)
  | _, _, i, .nil => by cases i <;> exact .nil
  | _, _, 0, .cons r t => t
  | _, _, i + 1, .cons r t => .cons r (RWs.erase i t)
def popAtW : W → List W → HW → KW → Prop := fun x ws h R => match x, ws with
  | .ref p, [.int i] => (match h p with | some (.lst xs) => 0 ≤ i ∧ i < 4611686018427387904 ∧ (match xs[i.toNat]? with | some y => R y (updW h p (.lst (xs.eraseIdx i.toNat))) | none => False) | _ => False)
  | _, _ => False
theorem lf_popAt : LfM K rPopAt popAtW := fun x xs H Q w ws h R r rs hr t k => by
  unfold popAtW at t
  split at t
  · rename_i p i
    split at t
    · rename_i zs hp
      obtain ⟨h0, h1, t⟩ := t
      split at t
      · rename_i y e
        cases r
        obtain ⟨a, rfl, ra⟩ := rs.one
        cases ra
        obtain ⟨vs, hv, q⟩ := hr _ _ hp
        obtain ⟨v, e1, e2⟩ := q.get e
        obtain ⟨n, rfl⟩ := Int.eq_ofNat_of_zero_le h0
        have hn : n < vs.length := (List.getElem?_eq_some_iff.mp e1).1
        refine ⟨_, _, (n : Int), n, v, rfl, rfl, hv, by omega, by omega, ?_, e1, k.mut hr hp (q.erase n) e2 t⟩
        unfold seqIndex?
        have hl : ¬ ((n : Int) < 0) := by omega
        simp only [hl, if_false]
        rw [decide_eq_true (by omega), decide_eq_true (by omega)]
        rfl
      · exact t.elim
    · exact t.elim
  · exact t.elim
def insertW : W → List W → HW → KW → Prop := fun x ws h R => match x, ws with
  | .ref p, [.int i, y] => (match h p with | some (.lst xs) => xs.length ≤ 16000000 ∧ 0 ≤ i ∧ i < 4611686018427387904 ∧ R .non (updW h p (.lst (xs.take i.toNat ++ [y] ++ xs.drop i.toNat))) | _ => False)
  | _, _ => False
theorem lf_insert : LfM K (fun x vs H Q => ∃ (l : Addr) (xs : List V) (i : Int) (y : V), x = .ref l ∧ vs = [.int i, y] ∧ H l = some (.lst xs) ∧ xs.length < sizeLine ∧ 0 ≤ i ∧ i < 2 ^ 63 ∧ Q .non (upd H l (.lst (xs.take i.toNat ++ [y] ++ xs.drop i.toNat)))) insertW := fun x xs H Q w ws h R r rs hr t k => by
  unfold insertW at t
  split at t
  · rename_i p i y
    split at t
    · rename_i zs hp
      obtain ⟨lz, h0, h1, t⟩ := t
      cases r
      obtain ⟨a, b, rfl, ra, rb⟩ := rs.two
      cases ra
      obtain ⟨vs, hv, q⟩ := hr _ _ hp
      exact ⟨_, _, i, b, rfl, rfl, hv, by rw [q.length]; exact sz_lt lz, h0, by omega, k.mut hr hp (((q.take _).append (.cons rb .nil)).append (q.drop _)) .non t⟩
    · exact t.elim
  · exact t.elim
end
section
variable {h : HW} {R : KW} {p : Addr} {xs : List W} {y : W} {i : Int}
theorem go_popAt (hp : h p = some (.lst xs)) (h0 : 0 ≤ i) (h1 : i < 4611686018427387904) (e : xs[i.toNat]? = some y) (k : R y (updW h p (.lst (xs.eraseIdx i.toNat)))) : popAtW (.ref p) [.int i] h R := by
  unfold popAtW; dsimp only; rw [hp]; dsimp only; rw [e]; exact ⟨h0, h1, k⟩
theorem go_insert (hp : h p = some (.lst xs)) (l : xs.length ≤ 16000000) (h0 : 0 ≤ i) (h1 : i < 4611686018427387904) (k : R .non (updW h p (.lst (xs.take i.toNat ++ [y] ++ xs.drop i.toNat)))) : insertW (.ref p) [.int i, y] h R := by
  unfold insertW; dsimp only; rw [hp]; exact ⟨l, h0, h1, k⟩
end
/-! ## == and in of data, one side not deep -/
section
variable {X : Cx} {K : PySem.W.Frag} {h : HW} {R : KW} {n : Nat}
def rEqM (K : PySem.W.Frag) (neg : Bool) (n : Nat) : R2 := fun x y H Q => ∃ d e, (Dp K H x d ∧ d.canLay0 = true) ∧ (Dp K H y e ∧ e.canLay0 = true) ∧ (d.depth ≤ n ∨ e.depth ≤ n) ∧ Q (.bl (if neg = true then !PyData.eqv d e else PyData.eqv d e)) H
theorem ow_eqM (hu : X.A.units + n < cLine) : OpR X (compareOp .Eq) (rEqM X.K false n) := by
  refine fun pins s σ H x y v u Q J r1 r2 ⟨d, e, ⟨hd, ld⟩, ⟨he, le⟩, dd, q⟩ => ?_
  obtain ⟨as, a1⟩ := Dp.reads J d x v hd r1
  obtain ⟨bs, b1⟩ := Dp.reads J e y u he r2
  exact SeqAt.compareEq_reads a1 b1 ld le (by omega) ⟨.bl _, H, J, rfl, q⟩
theorem ow_neM (hu : X.A.units + n < cLine) : OpR X (compareOp .NotEq) (rEqM X.K true n) := by
  refine fun pins s σ H x y v u Q J r1 r2 ⟨d, e, ⟨hd, ld⟩, ⟨he, le⟩, dd, q⟩ => ?_
  obtain ⟨as, a1⟩ := Dp.reads J d x v hd r1
  obtain ⟨bs, b1⟩ := Dp.reads J e y u he r2
  exact SeqAt.compareNe_reads a1 b1 ld le (by omega) ⟨.bl _, H, J, rfl, q⟩
def eqMW (neg : Bool) (n : Nat) : RW2 := fun x y h R => dataW (rsv x h) = true ∧ dataW (rsv y h) = true ∧ (depW (rsv x h) ≤ n ∨ depW (rsv y h) ≤ n) ∧ R (.bl (if neg = true then !eqD (rsv x h) (rsv y h) else eqD (rsv x h) (rsv y h))) h
theorem lf_eqM {neg : Bool} : Lf2 K (rEqM K neg n) (eqMW neg n) := fun x y H Q w1 w2 h R r1 r2 hr ⟨a, b, c, t⟩ k =>
  ⟨_, _, ⟨dpr_of hr r1 a, lay_of _ a⟩, ⟨dpr_of hr r2 b, lay_of _ b⟩, c.elim (fun z => .inl (Nat.le_trans (dep_of _) z)) (fun z => .inr (Nat.le_trans (dep_of _) z)), k.go hr t (.bl _)⟩
theorem go_eqM {x y : W} (a : dataW x = true) (b : dataW y = true) (c : depW x ≤ n ∨ depW y ≤ n) (k : R (.bl (eqD x y)) h) : eqMW false n x y h R := by
  unfold eqMW
  rw [rsv_of a, rsv_of b]
  exact ⟨a, b, c, k⟩
theorem go_neM {x y : W} (a : dataW x = true) (b : dataW y = true) (c : depW x ≤ n ∨ depW y ≤ n) (k : R (.bl (!eqD x y)) h) : eqMW true n x y h R := by
  unfold eqMW
  rw [rsv_of a, rsv_of b]
  exact ⟨a, b, c, k⟩
theorem go_eqMO {p : Addr} {y : W} {xs : List W} (hp : h p = some (.lst xs)) (a : dataW (.lst xs) = true) (b : dataW y = true) (c : depW (.lst xs) ≤ n ∨ depW y ≤ n) (k : R (.bl (eqD (.lst xs) y)) h) : eqMW false n (.ref p) y h R := by
  have e : rsv (.ref p) h = .lst xs := by unfold rsv; dsimp only; rw [hp]
  unfold eqMW
  rw [e, rsv_of b]
  exact ⟨a, b, c, k⟩
def rInM (K : PySem.W.Frag) (neg : Bool) (n : Nat) : R2 := fun x y H Q => ∃ d ds, (Dp K H y (.list ds) ∨ Dp K H y (.tuple ds)) ∧ Dp K H x d ∧ PyData.canLayAll0 ds = true ∧ d.canLay0 = true ∧ d.depth ≤ n ∧ Q (.bl (if neg = true then !(ds.any fun z => PyData.eqv z d) else ds.any fun z => PyData.eqv z d)) H
theorem ow_inM (hu : X.A.units + (n + 1) < cLine) : OpR X (compareOp .In) (rInM X.K false n) := by
  refine fun pins s σ H x y v u Q J r1 r2 ⟨d, ds, hy, hx, l1, l2, dd, q⟩ => ?_
  obtain ⟨as, a1⟩ := Dp.reads J d x v hx r1
  rcases hy with hy | hy
  · obtain ⟨bs, b1⟩ := Dp.reads J _ y u hy r2
    exact SeqAt.in_list_reads b1 a1 l1 l2 (by omega) ⟨.bl _, H, J, rfl, q⟩
  · obtain ⟨bs, b1⟩ := Dp.reads J _ y u hy r2
    exact SeqAt.in_tuple_reads b1 a1 l1 l2 (by omega) ⟨.bl _, H, J, rfl, q⟩
theorem ow_notInM (hu : X.A.units + (n + 1) < cLine) : OpR X (compareOp .NotIn) (rInM X.K true n) := by
  refine fun pins s σ H x y v u Q J r1 r2 ⟨d, ds, hy, hx, l1, l2, dd, q⟩ => ?_
  obtain ⟨as, a1⟩ := Dp.reads J d x v hx r1
  rcases hy with hy | hy
  · obtain ⟨bs, b1⟩ := Dp.reads J _ y u hy r2
    exact SeqAt.notIn_list_reads b1 a1 l1 l2 (by omega) ⟨.bl _, H, J, rfl, q⟩
  · obtain ⟨bs, b1⟩ := Dp.reads J _ y u hy r2
    exact SeqAt.notIn_tuple_reads b1 a1 l1 l2 (by omega) ⟨.bl _, H, J, rfl, q⟩
def inMW (neg : Bool) (n : Nat) : RW2 := fun x y h R => match y with
  | .lst ys => dataW x = true ∧ datasW ys = true ∧ depW x ≤ n ∧ R (.bl (if neg = true then !(ys.any fun z => eqD z x) else ys.any fun z => eqD z x)) h
  | .tup ys => dataW x = true ∧ datasW ys = true ∧ depW x ≤ n ∧ R (.bl (if neg = true then !(ys.any fun z => eqD z x) else ys.any fun z => eqD z x)) h
  | _ => False
theorem any_toDs (x : W) : ∀ ys : List W, ((toDs ys).any fun z => PyData.eqv z (toD x)) = ys.any fun z => eqD z x
  | [] => rfl
  | y :: ys => by rw [toDs, List.any_cons, List.any_cons, any_toDs x ys]; rfl
theorem lf_inM {neg : Bool} : Lf2 K (rInM K neg n) (inMW neg n) := fun x y H Q w1 w2 h R r1 r2 hr t k => by
  unfold inMW at t
  split at t
  · rename_i ys
    obtain ⟨a, b, c, t⟩ := t
    have d1 := dpr_of hr r1 (by rw [rsv_of a]; exact a)
    have d2 := dpr_of hr r2 (w := .lst ys) (by show dataW (rsv (.lst ys) h) = true; rw [rsv_of (show dataW (.lst ys) = true from b)]; exact b)
    rw [rsv_of a] at d1
    rw [rsv_of (show dataW (.lst ys) = true from b)] at d2
    exact ⟨_, toDs ys, .inl d2, d1, lays_of ys b, lay_of _ a, Nat.le_trans (dep_of _) c, by rw [any_toDs]; exact k.go hr t (.bl _)⟩
  · rename_i ys
    obtain ⟨a, b, c, t⟩ := t
    have d1 := dpr_of hr r1 (by rw [rsv_of a]; exact a)
    have d2 := dpr_of hr r2 (w := .tup ys) (by show dataW (rsv (.tup ys) h) = true; rw [rsv_of (show dataW (.tup ys) = true from b)]; exact b)
    rw [rsv_of a] at d1
    rw [rsv_of (show dataW (.tup ys) = true from b)] at d2
    exact ⟨_, toDs ys, .inr d2, d1, lays_of ys b, lay_of _ a, Nat.le_trans (dep_of _) c, by rw [any_toDs]; exact k.go hr t (.bl _)⟩
  · exact t.elim
theorem go_inML {x : W} {ys : List W} (a : dataW x = true) (b : datasW ys = true) (c : depW x ≤ n) (k : R (.bl (ys.any fun z => eqD z x)) h) : inMW false n x (.lst ys) h R := ⟨a, b, c, k⟩
theorem go_inMT {x : W} {ys : List W} (a : dataW x = true) (b : datasW ys = true) (c : depW x ≤ n) (k : R (.bl (ys.any fun z => eqD z x)) h) : inMW false n x (.tup ys) h R := ⟨a, b, c, k⟩
theorem go_notInML {x : W} {ys : List W} (a : dataW x = true) (b : datasW ys = true) (c : depW x ≤ n) (k : R (.bl (!ys.any fun z => eqD z x)) h) : inMW true n x (.lst ys) h R := ⟨a, b, c, k⟩
theorem go_notInMT {x : W} {ys : List W} (a : dataW x = true) (b : datasW ys = true) (c : depW x ≤ n) (k : R (.bl (!ys.any fun z => eqD z x)) h) : inMW true n x (.tup ys) h R := ⟨a, b, c, k⟩
theorem roomE {k n : Nat} {A : Around} (r : Room k A) (h : n ≤ 16 * k + 190) : A.units + n < cLine := by have := r.un; omega
theorem roomDE {d n : Nat} {A : Around} (r : RoomD d A) (h : 3 * n ≤ 16 * d + 500) : A.units + n < cLine := by have := r.cunits; omega
theorem fn_lift {P : Program} {w : World} {mg : Str → Option Value} {base : Heap} {CX : CXT} {j k : Nat} {f : Addr} {fd : FuncData} {ps : List Str} {sp : Sp} (F : FnOk P w K mg base CX j f fd ps sp) (h : j ≤ k) : FnOk P w K mg base CX k f fd ps sp :=
  ⟨F.len, fun A outer s H args us vs Q E r e b v q => F.run A outer s H args us vs Q E (r.mono h) e b v q⟩
end
section
variable {X : Cx} {L : Lk} {f : Addr} {fd : FuncData} {ps : List Str} {x : Str} {p pos : Pos} {e : Expr} {es : List Expr} {d : Nat}
/-- a call of a def that calls deep, which raises nothing here -/
theorem w_callDN {sp : SpW} {t : TAW} (F : FnD X.prog X.w X.K X.mg X.base (L2.CX X.prog X.w) d f fd ps (lSp X.K sp)) (hr : RoomD d X.A) (hg : Gl X x) (hm : X.mg x = some (.ref f)) (hk : PySem.W.keepIn X.K (.ref f) = true) (hb : Binds X.K fd ps [])
    (ha : WA X L (e :: es) t) (hdb : (x == ("__debug__" : Str)) = false := by decide) (he : starEach (e :: es) X.env = (false, eval e X.env) :: starEach es X.env := by rfl) (hpl : (backTo pos (starEach es X.env)).any (·.1) = false := by rfl) :
    WE X L (.Call (.Name x p) (e :: es) [] pos) (oCall sp noX t) :=
  (pe_callD F hr hg hm hk hb passL ha hdb he hpl).imp fun σ H Q ⟨ρ, h, R, S, t, k⟩ => ⟨ρ, h, _, S, t, fun ws h1 vs H1 t1 s1 r1 q1 => by
    show lSp X.K sp (vs ++ []) H1 Q E0
    rw [List.append_nil]
    exact ⟨ws, h1, R, noX, q1, r1, t1, k.mono s1, el_no⟩⟩
end
end Wl

set_option Elab.async false
set_option linter.all false
set_option maxRecDepth 100000
namespace PySem
open PySem.Calls PyProof.Rows RT
abbrev ZHeld (h : Heap) (z TI TO T : Addr) (f : Bool) : Prop := h.get? z = some { cls := .type "zip", data := .fields #[rawInt ↑T, .bool f, .bool false, .ref TI, .ref TO] }
theorem wpAny_alive {M : Model} {A : Around} {E : Value → Shared → Prop} {s : Shared} {a : Addr} {Q : Option Obj → Shared → Prop} (q : Q (s.heap.get? a) s) : wpAny M A (loadIfAlive a) Q E s := by
  intro Γ p hΓ
  show Sem.wp _ _ (Sem.loadIfAlive a Sem.pure) _ _ _ _
  rw [Sem.wp_loadIfAlive]
  exact (wpAny_pure (Q := Q) q : wpAny M A (pure (s.heap.get? a)) Q E s) Γ p hΓ
theorem zipTH_item {prog : Program} {w : World} {A : Around} {E : Value → Shared → Prop} {s : Shared} {z TI TO T i1 i2 l1 l2 : Addr} {f : Bool} {oT : Obj} {k1 k2 : Nat} {xs ys : Array Value} {x y : Value} {Q : Value → Shared → Prop}
    (ap : ZipApart z TI TO i1 i2 l1 l2) (hz : ZHeld s.heap z TI TO T f) (hT : s.heap.get? T = some oT) (hp : IsPair s.heap TI (.ref i1) (.ref i2)) (h1 : s.heap.IsTupleIter i1 l1 k1) (h2 : s.heap.IsTupleIter i2 l2 k2) (t1 : s.heap.IsTuple l1 xs) (t2 : s.heap.IsTuple l2 ys)
    (e1 : xs[k1]? = some x) (e2 : ys[k2]? = some y)
    (k : ∀ h', ZHeld h' z TI TO T true → h'.IsTupleIter i1 l1 (k1 + 1) → h'.IsTupleIter i2 l2 (k2 + 1) → IsPair h' s.heap.objs.size x y → h'.objs.size = s.heap.objs.size + 1 → (∀ c o, c ≠ z → c ≠ i1 → c ≠ i2 → s.heap.get? c = some o → h'.get? c = some o) →
      Q (.ref s.heap.objs.size) { s with heap := h' }) :
    wpAny (model prog w) A (Builtin.«zip.__next__» { pos := [.ref z] }) (fun fin s' => ∃ v, fin = .done (.ret v) ∧ Q v s') E s := by
  unfold Builtin.«zip.__next__»
  show wpAny _ _ (pure (Value.ref z, ([] : List Value)) >>= _) _ _ s
  refine wpAny_bind (wpAny_pure ?_)
  dsimp only
  refine wpAny_bind (wpAny_field hz rfl rfl ?_)
  refine wpAny_bind (wpAny_field hz rfl rfl ?_)
  refine wpAny_bind (wpAny_seqItems hp rfl ?_)
  dsimp only
  rw [if_neg (show ¬ ((#[Value.ref i1, Value.ref i2] : Array Value).isEmpty = true) from Bool.false_ne_true)]
  refine wpAny_bind ?_
  unfold Builtin.SmallTypes.ownedTupleIsFree
  refine wpAny_bind (wpAny_field hz rfl rfl ?_)
  show wpAny _ _ (loadIfAlive T >>= _) _ _ s
  refine wpAny_bind (wpAny_alive ?_)
  rw [hT]
  show wpAny _ _ (field (Value.ref z) 1 >>= _) _ _ s
  refine wpAny_bind (wpAny_field hz rfl rfl ?_)
  show wpAny _ _ (if (Value.bool f != Value.bool true) = true then (setField (.ref z) 1 (.bool true) >>= fun _ => pure false) else pure false) _ _ s
  have mid : ∀ {E : Value → Shared → Prop} {Q : Bool → Shared → Prop}, (∀ h' : Heap, ZHeld h' z TI TO T true → Heap.SameBut z s.heap h' → Q false { s with heap := h' }) → wpAny (model prog w) A (if (Value.bool f != Value.bool true) = true then (setField (.ref z) 1 (.bool true) >>= fun _ => pure false) else pure false) Q E s := fun {E Q} k => by
    cases f with
    | true => 
      rw [if_neg (by decide)]
      exact wpAny_pure (k s.heap hz ⟨rfl, fun _ _ => rfl⟩)
    | false =>
      rw [if_pos (by decide)]
      refine wpAny_bind (wpAny_setField hz rfl (show 1 < 5 by decide) (wpAny_pure (k _ ?_ ⟨Heap.size_update .., fun b hb => Heap.get?_update_other _ _ (Ne.symm hb)⟩)))
      exact Heap.get?_update_self _ hz rfl
  refine mid fun h1' hz' same => ?_
  rw [if_neg Bool.false_ne_true]
  refine wpAny_bind ?_
  simp only [← Array.forIn_toList, List.forIn_cons, List.forIn_nil]
  have g1 : h1'.IsTupleIter i1 l1 k1 := by obtain ⟨o, e, r⟩ := h1; exact ⟨o, by rw [same.2 _ ap.i1z]; exact e, r⟩
  have g2 : h1'.IsTupleIter i2 l2 k2 := by obtain ⟨o, e, r⟩ := h2; exact ⟨o, by rw [same.2 _ ap.i2z]; exact e, r⟩
  have u1 : h1'.IsTuple l1 xs := by obtain ⟨o, e, r⟩ := t1; exact ⟨o, by rw [same.2 _ ap.l1z]; exact e, r⟩
  have u2 : h1'.IsTuple l2 ys := by obtain ⟨o, e, r⟩ := t2; exact ⟨o, by rw [same.2 _ ap.l2z]; exact e, r⟩
  refine wpAny_bind (wpAny_bind (wpAny_holding (show wpAny _ _ (Builtin.SmallTypes.nextOf (.ref i1) >>= fun v => pure (some v)) _ _ _ from wpAny_bind (RZ.nextOf_tuple_item g1 u1 e1 fun h2' v1 same2 => wpAny_pure ?_))))
  dsimp only
  refine wpAny_pure ?_
  dsimp only
  have g2' : h2'.IsTupleIter i2 l2 k2 := by obtain ⟨o, e, r⟩ := g2; exact ⟨o, by rw [same2.2 _ ap.i12.symm]; exact e, r⟩
  have u2' : h2'.IsTuple l2 ys := by obtain ⟨o, e, r⟩ := u2; exact ⟨o, by rw [same2.2 _ ap.l2i1]; exact e, r⟩
  refine wpAny_bind (wpAny_bind (wpAny_holding (show wpAny _ _ (Builtin.SmallTypes.nextOf (.ref i2) >>= fun v => pure (some v)) _ _ _ from wpAny_bind (RZ.nextOf_tuple_item g2' u2' e2 fun h3' v2 same3 => wpAny_pure ?_))))
  dsimp only
  refine wpAny_pure (wpAny_pure ?_)
  dsimp only
  refine wpAny_bind (wpAny_newTuple ?_ (Nat.le_of_ble_eq_true rfl))
  have sz : h3'.objs.size = s.heap.objs.size := by rw [same3.1, same2.1, same.1]
  have z3 : ZHeld h3' z TI TO T true := by show h3'.get? z = _; rw [same3.2 _ ap.i2z.symm, same2.2 _ ap.i1z.symm]; exact hz'
  refine wpAny_pure ⟨_, rfl, ?_⟩
  show Q (.ref h3'.objs.size) _
  rw [sz]
  refine k _ (Heap.get?_push_of_some _ z3) ?_ ?_ ?_ (by rw [Heap.size_push, sz]) fun c o n1 n2 n3 e => ?_
  · obtain ⟨o, e, r⟩ := v1; exact ⟨o, Heap.get?_push_of_some _ (by rw [same3.2 _ ap.i12]; exact e), r⟩
  · obtain ⟨o, e, r⟩ := v2; exact ⟨o, Heap.get?_push_of_some _ e, r⟩
  · show Heap.get? _ s.heap.objs.size = _
    rw [← sz]; exact Heap.get?_push_size _ rfl
  · exact Heap.get?_push_of_some _ (by rw [same3.2 _ n3, same2.2 _ n2, same.2 _ n1]; exact e)
theorem zipTH_end {prog : Program} {w : World} {A : Around} {E : Value → Shared → Prop} {s : Shared} {z TI TO T i1 i2 l1 l2 : Addr} {f : Bool} {oT : Obj} {k1 k2 : Nat} {xs ys : Array Value} {Q : PySem.Fin → Shared → Prop} (calm : A.handled = none)
    (ap : ZipApart z TI TO i1 i2 l1 l2) (hz : ZHeld s.heap z TI TO T f) (hT : s.heap.get? T = some oT) (hp : IsPair s.heap TI (.ref i1) (.ref i2)) (h1 : s.heap.IsTupleIter i1 l1 k1) (h2 : s.heap.IsTupleIter i2 l2 k2) (t1 : s.heap.IsTuple l1 xs) (t2 : s.heap.IsTuple l2 ys)
    (e0 : xs[k1]? = none ∨ ys[k2]? = none)
    (k : ∀ (h' : Heap) (e : Addr), (∀ c o, c ≠ z → c ≠ i1 → c ≠ i2 → s.heap.get? c = some o → h'.get? c = some o) → (∃ o, h'.get? e = some o ∧ o.cls = Value.type "StopIteration") → E (.ref e) { s with heap := h' }) :
    wpAny (model prog w) A (Builtin.«zip.__next__» { pos := [.ref z] }) Q E s := by
  unfold Builtin.«zip.__next__»
  show wpAny _ _ (pure (Value.ref z, ([] : List Value)) >>= _) _ _ s
  refine wpAny_bind (wpAny_pure ?_)
  dsimp only
  refine wpAny_bind (wpAny_field hz rfl rfl ?_)
  refine wpAny_bind (wpAny_field hz rfl rfl ?_)
  refine wpAny_bind (wpAny_seqItems hp rfl ?_)
  dsimp only
  rw [if_neg (show ¬ ((#[Value.ref i1, Value.ref i2] : Array Value).isEmpty = true) from Bool.false_ne_true)]
  refine wpAny_bind ?_
  unfold Builtin.SmallTypes.ownedTupleIsFree
  refine wpAny_bind (wpAny_field hz rfl rfl ?_)
  show wpAny _ _ (loadIfAlive T >>= _) _ _ s
  refine wpAny_bind (wpAny_alive ?_)
  rw [hT]
  show wpAny _ _ (field (Value.ref z) 1 >>= _) _ _ s
  refine wpAny_bind (wpAny_field hz rfl rfl ?_)
  show wpAny _ _ (if (Value.bool f != Value.bool true) = true then (setField (.ref z) 1 (.bool true) >>= fun _ => pure false) else pure false) _ _ s
  have mid : ∀ {E : Value → Shared → Prop} {Q : Bool → Shared → Prop}, (∀ h' : Heap, ZHeld h' z TI TO T true → Heap.SameBut z s.heap h' → Q false { s with heap := h' }) → wpAny (model prog w) A (if (Value.bool f != Value.bool true) = true then (setField (.ref z) 1 (.bool true) >>= fun _ => pure false) else pure false) Q E s := fun {E Q} k => by
    cases f with
    | true => 
      rw [if_neg (by decide)]
      exact wpAny_pure (k s.heap hz ⟨rfl, fun _ _ => rfl⟩)
    | false =>
      rw [if_pos (by decide)]
      refine wpAny_bind (wpAny_setField hz rfl (show 1 < 5 by decide) (wpAny_pure (k _ ?_ ⟨Heap.size_update .., fun b hb => Heap.get?_update_other _ _ (Ne.symm hb)⟩)))
      exact Heap.get?_update_self _ hz rfl
  refine mid fun h1' hz' same => ?_
  rw [if_neg Bool.false_ne_true]
  refine wpAny_bind ?_
  simp only [← Array.forIn_toList, List.forIn_cons, List.forIn_nil]
  have g1 : h1'.IsTupleIter i1 l1 k1 := by obtain ⟨o, e, r⟩ := h1; exact ⟨o, by rw [same.2 _ ap.i1z]; exact e, r⟩
  have g2 : h1'.IsTupleIter i2 l2 k2 := by obtain ⟨o, e, r⟩ := h2; exact ⟨o, by rw [same.2 _ ap.i2z]; exact e, r⟩
  have u1 : h1'.IsTuple l1 xs := by obtain ⟨o, e, r⟩ := t1; exact ⟨o, by rw [same.2 _ ap.l1z]; exact e, r⟩
  have u2 : h1'.IsTuple l2 ys := by obtain ⟨o, e, r⟩ := t2; exact ⟨o, by rw [same.2 _ ap.l2z]; exact e, r⟩
  cases e1 : xs[k1]? with
  | none =>
    refine wpAny_bind (wpAny_bind (wpAny_holding (show wpAny _ _ (Builtin.SmallTypes.nextOf (.ref i1) >>= fun v => pure (some v)) _ _ _ from wpAny_bind (RZ.nextOf_tuple_end calm g1 u1 e1 fun h' e ext st => k h' e (fun c o n1 n2 n3 ec => ext c o n2 (by rw [same.2 _ n1]; exact ec)) st))))
  | some x =>
    have e2 : ys[k2]? = none := e0.resolve_left fun z => by rw [e1] at z; cases z
    refine wpAny_bind (wpAny_bind (wpAny_holding (show wpAny _ _ (Builtin.SmallTypes.nextOf (.ref i1) >>= fun v => pure (some v)) _ _ _ from wpAny_bind (RZ.nextOf_tuple_item g1 u1 e1 fun h2' v1 same2 => wpAny_pure ?_))))
    dsimp only
    refine wpAny_pure ?_
    dsimp only
    have g2' : h2'.IsTupleIter i2 l2 k2 := by obtain ⟨o, e, r⟩ := g2; exact ⟨o, by rw [same2.2 _ ap.i12.symm]; exact e, r⟩
    have u2' : h2'.IsTuple l2 ys := by obtain ⟨o, e, r⟩ := u2; exact ⟨o, by rw [same2.2 _ ap.l2i1]; exact e, r⟩
    refine wpAny_bind (wpAny_bind (wpAny_holding (show wpAny _ _ (Builtin.SmallTypes.nextOf (.ref i2) >>= fun v => pure (some v)) _ _ _ from wpAny_bind (RZ.nextOf_tuple_end calm g2' u2' e2 fun h' e ext st => k h' e (fun c o n1 n2 n3 ec => ext c o n3 (by rw [same2.2 _ n2, same.2 _ n1]; exact ec)) st))))
theorem ZHeld.ty {s : Shared} {z TI TO T : Addr} {f : Bool} (hz : ZHeld s.heap z TI TO T f) : s.TypeIs (.ref z) "zip" := ⟨_, hz, rfl⟩
theorem pyNextH_item {prog : Program} {w : World} {A : Around} {E : Value → Shared → Prop} {s : Shared} {z TI TO T i1 i2 l1 l2 : Addr} {f : Bool} {oT : Obj} {k1 k2 : Nat} {xs ys : Array Value} {x y : Value} {Q : Option Value → Shared → Prop}
    (ap : ZipApart z TI TO i1 i2 l1 l2) (hz : ZHeld s.heap z TI TO T f) (hT : s.heap.get? T = some oT) (hp : IsPair s.heap TI (.ref i1) (.ref i2)) (h1 : s.heap.IsTupleIter i1 l1 k1) (h2 : s.heap.IsTupleIter i2 l2 k2) (t1 : s.heap.IsTuple l1 xs) (t2 : s.heap.IsTuple l2 ys)
    (e1 : xs[k1]? = some x) (e2 : ys[k2]? = some y)
    (k : ∀ h', ZHeld h' z TI TO T true → h'.IsTupleIter i1 l1 (k1 + 1) → h'.IsTupleIter i2 l2 (k2 + 1) → IsPair h' s.heap.objs.size x y → h'.objs.size = s.heap.objs.size + 1 → (∀ c o, c ≠ z → c ≠ i1 → c ≠ i2 → s.heap.get? c = some o → h'.get? c = some o) →
      Q (some (.ref s.heap.objs.size)) { s with heap := h' }) :
    wpAny (model prog w) A (pyNext (.ref z)) Q E s := by
  unfold pyNext
  refine wpAny_bind (wpAny_attempt (wpAny_callSpecial?_slot hz.ty F.slot_zip_next (wpAny_call_entry F.slot_zip_next hz.ty F.entry_zip_next (zipTH_item ap hz hT hp h1 h2 t1 t2 e1 e2 fun h' a b c d e f => ?_) (F.args_zip_next_1 _))))
  exact wpAny_pure (k h' a b c d e f)
theorem pyNextH_end {prog : Program} {w : World} {A : Around} {E : Value → Shared → Prop} {s : Shared} {z TI TO T i1 i2 l1 l2 : Addr} {f : Bool} {oT : Obj} {k1 k2 : Nat} {xs ys : Array Value} {Q : Option Value → Shared → Prop} (calm : A.handled = none)
    (ap : ZipApart z TI TO i1 i2 l1 l2) (hz : ZHeld s.heap z TI TO T f) (hT : s.heap.get? T = some oT) (hp : IsPair s.heap TI (.ref i1) (.ref i2)) (h1 : s.heap.IsTupleIter i1 l1 k1) (h2 : s.heap.IsTupleIter i2 l2 k2) (t1 : s.heap.IsTuple l1 xs) (t2 : s.heap.IsTuple l2 ys)
    (e0 : xs[k1]? = none ∨ ys[k2]? = none)
    (k : ∀ h', (∀ c o, c ≠ z → c ≠ i1 → c ≠ i2 → s.heap.get? c = some o → h'.get? c = some o) → Q none { s with heap := h' }) :
    wpAny (model prog w) A (pyNext (.ref z)) Q E s := by
  unfold pyNext
  refine wpAny_bind (wpAny_attempt (wpAny_callSpecial?_slot hz.ty F.slot_zip_next (wpAny_call_entry F.slot_zip_next hz.ty F.entry_zip_next (zipTH_end calm ap hz hT hp h1 h2 t1 t2 e0 fun h' e keep st => ?_) (F.args_zip_next_1 _))))
  have sub : isSubtype (.type "StopIteration") (.type "StopIteration") = pure true := by rw [isSubtype_type]; kernel_rfl
  exact wpAny_bind (wpAny_isInstance (b := true) st sub (wpAny_pure (k h' keep)))
structure ZSt (h0 h : Heap) (S z TI TO i1 i2 l1 l2 : Addr) (xs ys : Array Value) (k : Nat) (acc : Array Value) (c : Nat) : Prop where
  zz : (IsZip h z TI TO .none ∧ ∃ a b, IsPair h TO a b) ∨ ∃ T f oT oO, ZHeld h z TI TO T f ∧ h.get? T = some oT ∧ T ≠ S ∧ h.get? TO = some oO
  ti : IsPair h TI (.ref i1) (.ref i2)
  j1 : h.IsTupleIter i1 l1 k
  j2 : h.IsTupleIter i2 l2 k
  t1 : h.IsTuple l1 xs
  t2 : h.IsTuple l2 ys
  li : h.get? S = some { cls := .type "list", data := .seq acc c }
  sz : acc.size = k
  it : ∀ (j : Nat) (v : Value), acc[j]? = some v → ∃ (T : Addr) (x y : Value), v = .ref T ∧ xs[j]? = some x ∧ ys[j]? = some y ∧ IsPair h T x y ∧ h0.objs.size ≤ T ∧ T ≠ z ∧ T ≠ TO ∧ T ≠ i1 ∧ T ≠ i2 ∧ T ≠ S
  keep : ∀ b o, b ≠ z → b ≠ TO → b ≠ i1 → b ≠ i2 → b ≠ S → h0.get? b = some o → h.get? b = some o
  gr : h0.objs.size ≤ h.objs.size
  nd : acc.toList.Nodup
structure ZAp (S z TI TO i1 i2 l1 l2 : Addr) : Prop where
  z : S ≠ z
  ti : S ≠ TI
  to : S ≠ TO
  i1 : S ≠ i1
  i2 : S ≠ i2
  l1 : S ≠ l1
  l2 : S ≠ l2
theorem lt_of_get {h : Heap} {b : Addr} {o : Obj} (e : h.get? b = some o) : b ≠ h.objs.size := Nat.ne_of_lt (Heap.lt_size e)
theorem tupleIter_get {h : Heap} {a t : Addr} {i : Nat} (e : h.IsTupleIter a t i) : ∃ o, h.get? a = some o := by obtain ⟨o, e, _⟩ := e; exact ⟨o, e⟩
theorem zipLoop {prog : Program} {w : World} {A : Around} {R : Result → Shared → Prop} {h0 : Heap} {S z TI TO i1 i2 l1 l2 : Addr} {xs ys : Array Value} (calm : A.handled = none) (ap : ZipApart z TI TO i1 i2 l1 l2) (sp : ZAp S z TI TO i1 i2 l1 l2) (hn : ys.size = xs.size) (small : xs.size ≤ sizeLine) (res : Value) :
    ∀ (m k : Nat) (s : Shared) (acc : Array Value) (c : Nat), xs.size - k = m → k ≤ xs.size → ZSt h0 s.heap S z TI TO i1 i2 l1 l2 xs ys k acc c →
      (∀ (h' : Heap) (acc' : Array Value) (c' : Nat) (tk : Nat), h'.get? S = some { cls := .type "list", data := .seq acc' c' } → acc'.size = xs.size → acc'.toList.Nodup →
        (∀ (j : Nat) (v : Value), acc'[j]? = some v → ∃ (T : Addr) (x y : Value), v = .ref T ∧ xs[j]? = some x ∧ ys[j]? = some y ∧ IsPair h' T x y ∧ h0.objs.size ≤ T ∧ T ≠ S) →
        (∀ b o, b ≠ z → b ≠ TO → b ≠ i1 → b ≠ i2 → b ≠ S → h0.get? b = some o → h'.get? b = some o) → R (.ok (.ret res)) { s with heap := h', toks := tk }) →
      codeAny (model prog w) A (.builtin "list.extend.loop" { pos := [.ref S, .ref z, res] }) R s := by
  intro m
  induction m with
  | zero =>
    intro k s acc c hm hk st fin
    have ek : k = xs.size := by omega
    refine codeAny_builtin F.entry_extend_loop ?_
    show wpAny _ _ (pyNext (.ref z) >>= _) _ _ s
    refine wpAny_bind ?_
    have e0 : xs[k]? = none ∨ ys[k]? = none := .inl (by rw [Array.getElem?_eq_none]; omega)
    have last : ∀ h' : Heap, (∀ c o, c ≠ z → c ≠ TO → c ≠ i1 → c ≠ i2 → s.heap.get? c = some o → h'.get? c = some o) → R (.ok (.ret res)) { s with heap := h' } := fun h' kp => by
      refine fin h' acc c s.toks (kp _ _ sp.z sp.to sp.i1 sp.i2 st.li) (by rw [st.sz, ek]) st.nd (fun j v e => ?_) fun b o n1 n2 n3 n4 n5 e => kp _ _ n1 n2 n3 n4 (st.keep b o n1 n2 n3 n4 n5 e)
      obtain ⟨T, x, y, a1, a2, a3, a4, a5, a6, a7, a8, a9, a10⟩ := st.it j v e
      exact ⟨T, x, y, a1, a2, a3, kp _ _ a6 a7 a8 a9 a4, a5, a10⟩
    rcases st.zz with ⟨hz, a, b, ht⟩ | ⟨T, f, oT, oO, hz, hT, nT, hO⟩
    · exact RZ.pyNext_zipT_end (by exact calm) ap hz st.ti ht st.j1 st.j2 st.t1 st.t2 e0 fun h' kp => wpAny_pure (last h' kp)
    · exact pyNextH_end (by exact calm) ap hz hT st.ti st.j1 st.j2 st.t1 st.t2 e0 fun h' kp => wpAny_pure (last h' fun c o n1 n2 n3 n4 e => kp c o n1 n3 n4 e)
  | succ m ih =>
    intro k s acc c hm hk st fin
    have k1 : k < xs.size := by omega
    have k2 : k < ys.size := by omega
    refine codeAny_builtin F.entry_extend_loop ?_
    show wpAny _ _ (pyNext (.ref z) >>= _) _ _ s
    refine wpAny_bind ?_
    have e1 : xs[k]? = some xs[k] := Array.getElem?_eq_getElem k1
    have e2 : ys[k]? = some ys[k] := Array.getElem?_eq_getElem k2
    have nS : S ≠ s.heap.objs.size := lt_of_get st.li
    have nti : TI ≠ s.heap.objs.size := lt_of_get st.ti
    have ni1 : i1 ≠ s.heap.objs.size := by obtain ⟨o, e⟩ := tupleIter_get st.j1; exact lt_of_get e
    have ni2 : i2 ≠ s.heap.objs.size := by obtain ⟨o, e⟩ := tupleIter_get st.j2; exact lt_of_get e
    have nz : z ≠ s.heap.objs.size := by
      rcases st.zz with ⟨hz, a, b, ht⟩ | ⟨T, f, oT, oO, hz, hT, nT, hO⟩ <;> exact lt_of_get hz
    -- the step itself
    have turn : ∀ h' : Heap, (∃ T f oT oO, ZHeld h' z TI TO T f ∧ h'.get? T = some oT ∧ T ≠ S ∧ h'.get? TO = some oO) → h'.IsTupleIter i1 l1 (k + 1) → h'.IsTupleIter i2 l2 (k + 1) → IsPair h' s.heap.objs.size xs[k] ys[k] → h'.objs.size = s.heap.objs.size + 1 →
        (∀ c o, c ≠ z → c ≠ TO → c ≠ i1 → c ≠ i2 → s.heap.get? c = some o → h'.get? c = some o) → TO ≠ s.heap.objs.size →
        wpAny (model prog w) (A.under (.builtin "list.extend.loop" { pos := [.ref S, .ref z, res] })) (Builtin.List.listUpdate (.ref S) (fun x_1 => x_1.push (.ref s.heap.objs.size)) >>= fun _ => again (.builtin "list.extend.loop" { pos := [.ref S, .ref z, res] }))
          (fun fin s' => match fin with | .done f => R (.ok f) s' | .again c' => c'.quiet = true ∧ codeAny (model prog w) A c' R s') (fun e s' => R (.error e) s') { s with heap := h' } := fun h' hz g1 g2 gp gsz kp nto => by
      have gl := kp _ _ sp.z sp.to sp.i1 sp.i2 st.li
      refine wpAny_bind (show wpAny _ _ (updateSeq S _) _ _ _ from wpAny_updateSeq gl rfl ?_ (by have := st.sz; omega) (by have := st.sz; rw [Array.size_push]; omega))
      refine wpAny_pure ⟨plainId_quiet F.plain_extend_loop _, ?_⟩
      have oth : ∀ b, b ≠ S → (h'.update S (Obj.mapSeq (fun x_1 : Array Value => x_1.push (.ref s.heap.objs.size)))).get? b = h'.get? b := fun b hb => Heap.get?_update_other _ _ (Ne.symm hb)
      have me := Heap.get?_update_self (Obj.mapSeq (fun x_1 : Array Value => x_1.push (.ref s.heap.objs.size))) gl rfl
      have usz : (h'.update S (Obj.mapSeq (fun x_1 : Array Value => x_1.push (.ref s.heap.objs.size)))).objs.size = h'.objs.size := Heap.size_update _ _ _
      generalize h'.update S (Obj.mapSeq (fun x_1 : Array Value => x_1.push (.ref s.heap.objs.size))) = h2 at oth me usz
      refine ih (k + 1) { s with heap := h2 } (acc.push (.ref s.heap.objs.size)) _ (by omega) (by omega) ⟨.inr ?_, ?_, ?_, ?_, ?_, ?_, me, by rw [Array.size_push, st.sz], ?_, ?_, ?_, ?_⟩ fun h3 acc' c' tk => fin h3 acc' c' tk
      · obtain ⟨T, f, oT, oO, a, b, d, e⟩ := hz
        exact ⟨T, f, oT, oO, by show h2.get? z = _; rw [oth _ sp.z.symm]; exact a, by rw [oth _ d]; exact b, d, by rw [oth _ sp.to.symm]; exact e⟩
      · show h2.get? TI = _
        rw [oth _ sp.ti.symm]; exact kp _ _ ap.TIz ap.TITO ap.TIi1 ap.TIi2 st.ti
      · obtain ⟨o, e, r⟩ := g1; exact ⟨o, by rw [oth _ sp.i1.symm]; exact e, r⟩
      · obtain ⟨o, e, r⟩ := g2; exact ⟨o, by rw [oth _ sp.i2.symm]; exact e, r⟩
      · obtain ⟨o, e, r⟩ := st.t1; exact ⟨o, by rw [oth _ sp.l1.symm]; exact kp _ _ ap.l1z ap.l1TO ap.l1i1 ap.l1i2 e, r⟩
      · obtain ⟨o, e, r⟩ := st.t2; exact ⟨o, by rw [oth _ sp.l2.symm]; exact kp _ _ ap.l2z ap.l2TO ap.l2i1 ap.l2i2 e, r⟩
      · intro j v e
        rw [Array.getElem?_push] at e
        split at e
        · rename_i ej
          cases e
          rw [st.sz] at ej
          subst ej
          exact ⟨_, xs[j], ys[j], rfl, e1, e2, by show h2.get? _ = _; rw [oth _ nS.symm]; exact gp, st.gr, nz.symm, nto.symm, ni1.symm, ni2.symm, nS.symm⟩
        · obtain ⟨T, x, y, a1, a2, a3, a4, a5, a6, a7, a8, a9, a10⟩ := st.it j v e
          exact ⟨T, x, y, a1, a2, a3, by show h2.get? _ = _; rw [oth _ a10]; exact kp _ _ a6 a7 a8 a9 a4, a5, a6, a7, a8, a9, a10⟩
      · intro b o n1 n2 n3 n4 n5 e
        rw [oth _ n5]
        exact kp _ _ n1 n2 n3 n4 (st.keep b o n1 n2 n3 n4 n5 e)
      · show h0.objs.size ≤ h2.objs.size
        rw [usz, gsz]; exact Nat.le_succ_of_le st.gr
      · rw [Array.toList_push, List.nodup_append]
        refine ⟨st.nd, by simp, fun a ha b hb => ?_⟩
        rw [List.mem_singleton] at hb
        subst hb
        intro eab
        subst eab
        obtain ⟨j, hj, e⟩ := List.mem_iff_getElem.mp ha
        obtain ⟨T, x, y, a1, a2, a3, a4, a5⟩ := st.it j _ (by rw [Array.getElem?_eq_getElem (by simpa using hj)])
        rw [Array.getElem_toList] at e
        rw [e] at a1
        cases a1
        exact lt_of_get a4 rfl
    rcases st.zz with ⟨hz, a, b, ht⟩ | ⟨T, f, oT, oO, hz, hT, nT, hO⟩
    · refine RZ.pyNext_zipT_item ap hz st.ti ht st.j1 st.j2 st.t1 st.t2 e1 e2 fun h' c1 c2 c3 c4 c5 c6 c7 => ?_
      exact turn h' ⟨_, false, _, _, c1, c5, nS.symm, c2⟩ c3 c4 c5 c6 c7 (lt_of_get ht)
    · refine pyNextH_item ap hz hT st.ti st.j1 st.j2 st.t1 st.t2 e1 e2 fun h' c1 c3 c4 c5 c6 c7 => ?_
      by_cases eT : T = z ∨ T = i1 ∨ T = i2
      · have tn : (∃ oT', h'.get? T = some oT') := by
          rcases eT with e | e | e
          · exact ⟨_, by rw [e]; exact c1⟩
          · obtain ⟨o, q⟩ := tupleIter_get c3; exact ⟨o, by rw [e]; exact q⟩
          · obtain ⟨o, q⟩ := tupleIter_get c4; exact ⟨o, by rw [e]; exact q⟩
        obtain ⟨oT', q⟩ := tn
        exact turn h' ⟨T, true, oT', oO, c1, q, nT, c7 _ _ ap.TOz ap.TOi1 ap.TOi2 hO⟩ c3 c4 c5 c6 (fun c o n1 n2 n3 n4 e => c7 c o n1 n3 n4 e) (lt_of_get hO)
      · simp only [not_or] at eT
        exact turn h' ⟨T, true, oT, oO, c1, c7 _ _ eT.1 eT.2.1 eT.2.2 hT, nT, c7 _ _ ap.TOz ap.TOi1 ap.TOi2 hO⟩ c3 c4 c5 c6 (fun c o n1 n2 n3 n4 e => c7 c o n1 n3 n4 e) (lt_of_get hO)
/-- list(it), it a fresh zip(..) of two tuples -/
theorem listOfZip {prog : Program} {w : World} {A : Around} {E : Value → Shared → Prop} {s : Shared} {z TI TO i1 i2 l1 l2 : Addr} {xs ys : Array Value} {a b : Value} {Q : Value → Shared → Prop} (calm : A.handled = none) (ap : ZipApart z TI TO i1 i2 l1 l2)
    (hz : IsZip s.heap z TI TO .none) (ti : IsPair s.heap TI (.ref i1) (.ref i2)) (to : IsPair s.heap TO a b) (j1 : s.heap.IsTupleIter i1 l1 0) (j2 : s.heap.IsTupleIter i2 l2 0) (t1 : s.heap.IsTuple l1 xs) (t2 : s.heap.IsTuple l2 ys) (hn : ys.size = xs.size) (small : xs.size ≤ sizeLine)
    (done : ∀ (h' : Heap) (tk : Nat) (out : Array Value) (c : Nat), (∀ b o, b ≠ z → b ≠ TO → b ≠ i1 → b ≠ i2 → s.heap.get? b = some o → h'.get? b = some o) → out.size = xs.size → out.toList.Nodup →
      (∀ (j : Nat) (v : Value), out[j]? = some v → ∃ (T : Addr) (x y : Value), v = .ref T ∧ xs[j]? = some x ∧ ys[j]? = some y ∧ IsPair h' T x y ∧ s.heap.objs.size ≤ T ∧ T ≠ s.heap.objs.size) →
      h'.get? s.heap.objs.size = some { cls := .type "list", dict := none, data := .seq out c, slots := #[] } → Q (.ref s.heap.objs.size) { s with heap := h', toks := tk }) :
    wpAny (model prog w) A (call (.type "list") [.ref z]) Q E s := by
  have n1 : s.heap.objs.size ≠ z := (lt_of_get hz).symm
  have sp : ZAp s.heap.objs.size z TI TO i1 i2 l1 l2 := by
    obtain ⟨o1, e1⟩ := tupleIter_get j1
    obtain ⟨o2, e2⟩ := tupleIter_get j2
    obtain ⟨o3, e3, _⟩ := id t1
    obtain ⟨o4, e4, _⟩ := id t2
    exact ⟨n1, (lt_of_get ti).symm, (lt_of_get to).symm, (lt_of_get e1).symm, (lt_of_get e2).symm, (lt_of_get e3).symm, (lt_of_get e4).symm⟩
  generalize eb : s.heap.objs.size = B at *
  refine callType_codes (Q₁ := fun ob t => ob = .ref B ∧ t = { s with heap := s.heap.push { cls := .type "list", data := .seq #[] } }) F.called_list (F.typeCall_list_1 _) F.entry_list_init (code_list_new _ ⟨by rw [eb], rfl⟩) ?_
  rintro _ _ ⟨rfl, rfl⟩
  have g0 : (s.heap.push { cls := .type "list", data := .seq #[] }).get? B = some { cls := .type "list", data := .seq #[] } := by rw [← eb]; exact Heap.get?_push_size _ rfl
  have k0 : ∀ b o, s.heap.get? b = some o → (s.heap.push { cls := .type "list", data := .seq #[] }).get? b = some o := fun b o z => Heap.get?_push_of_some _ z
  have sz0 : B ≤ (s.heap.push { cls := .type "list", data := .seq #[] }).objs.size := by rw [Heap.size_push, eb]; exact Nat.le_succ _
  refine ⟨⟨_, g0, rfl⟩, F.args_list_init_2 _ _, ?_⟩
  generalize s.heap.push { cls := .type "list", data := .seq #[] } = h0 at g0 k0 sz0
  show wpAny _ A.in1.in1 (do let old ← Builtin.List.listItems (.ref B); Builtin.List.listUpdate (.ref B) (fun _ => #[]); letGo old.toList.reverse; Builtin.List.listExtendWith (.ref B) (.ref z) .none) _ _ _
  unfold Builtin.List.listItems
  refine wpAny_bind (wpAny_bind (wpAny_seqItems g0 rfl (wpAny_pure ?_)))
  refine wpAny_bind (show wpAny _ A.in1.in1 (updateSeq B (fun _ => #[])) _ _ _ from wpAny_updateSeq g0 rfl ?_)
  have g1 := Heap.get?_update_self (Obj.mapSeq (fun _ => (#[] : Array Value))) g0 rfl
  have sz1 : B ≤ (h0.update B (Obj.mapSeq (fun _ => (#[] : Array Value)))).objs.size := by rw [Heap.size_update]; exact sz0
  have k1 : ∀ b o, s.heap.get? b = some o → (h0.update B (Obj.mapSeq (fun _ => (#[] : Array Value)))).get? b = some o := fun b o z => by
    have nb : b ≠ B := fun y => absurd (Heap.lt_size z) (by rw [y, ← eb]; exact Nat.lt_irrefl _)
    exact (Heap.get?_update_other _ _ (Ne.symm nb)).trans (k0 b o z)
  generalize h0.update B (Obj.mapSeq (fun _ => (#[] : Array Value))) = h1 at g1 k1 sz1
  have ty : ({ s with heap := h1 } : Shared).TypeIs (.ref z) "zip" := ⟨_, k1 _ _ hz, rfl⟩
  refine wpAny_bind (wpAny_letGo ?_)
  have same : Builtin.List.listSameRef (.ref B) (.ref z) = false := by simp [Builtin.List.listSameRef, n1]
  unfold Builtin.List.listExtendWith
  refine wpAny_bind (wpAny_typeOf ty ?_)
  rw [if_neg (by rw [same]; decide)]
  refine wpAny_bind (wpAny_pyIter_zip (s := { s with heap := h1 }) (k1 _ _ hz) ?_)
  refine wpAny_bind (wpAny_holding ?_)
  unfold Builtin.List.listLengthHint
  have nolen : typeLookup (.type "zip") (Str.ofString "__len__") = pure none := by kernel_rfl
  have nohint : typeLookup (.type "zip") (Str.ofString "__length_hint__") = pure none := by kernel_rfl
  refine wpAny_bind (wpAny_specialOf ty nolen ?_)
  refine wpAny_bind (show wpAny _ A.in1.in1 (specialOf (Value.ref z) (Str.ofString "__length_hint__")) _ _ _ from wpAny_specialOf ty nohint ?_)
  refine wpAny_pure ?_
  show wpAny _ A.in1.in1 (rule "list.extend.makes-room" >>= fun _ => Builtin.List.listTouch (Value.ref B) >>= fun _ => again (.builtin "list.extend.loop" { pos := [.ref B, .ref z, .none] })) _ _ _
  refine wpAny_bind (wpAny_rule (wpAny_bind ?_))
  unfold Builtin.List.listTouch
  refine wpAny_bind (show wpAny _ A.in1.in1 (updateSeq B (fun x => x.push Value.none)) _ _ _ from wpAny_updateSeq g1 rfl ?_)
  have g2 := Heap.get?_update_self (Obj.mapSeq (fun x : Array Value => x.push Value.none)) g1 rfl
  have sz2 : B ≤ (h1.update B (Obj.mapSeq (fun x : Array Value => x.push Value.none))).objs.size := by rw [Heap.size_update]; exact sz1
  have k2 : ∀ b o, s.heap.get? b = some o → (h1.update B (Obj.mapSeq (fun x : Array Value => x.push Value.none))).get? b = some o := fun b o z => by
    have nb : b ≠ B := fun y => absurd (Heap.lt_size z) (by rw [y, ← eb]; exact Nat.lt_irrefl _)
    exact (Heap.get?_update_other _ _ (Ne.symm nb)).trans (k1 b o z)
  generalize h1.update B (Obj.mapSeq (fun x : Array Value => x.push Value.none)) = h2 at g2 k2 sz2
  refine show wpAny _ A.in1.in1 (updateSeq B (fun x => x.pop)) _ _ _ from wpAny_updateSeq g2 rfl ?_
  have g3 := Heap.get?_update_self (Obj.mapSeq (fun x : Array Value => x.pop)) g2 rfl
  have sz3 : B ≤ (h2.update B (Obj.mapSeq (fun x : Array Value => x.pop))).objs.size := by rw [Heap.size_update]; exact sz2
  have k3 : ∀ b o, s.heap.get? b = some o → (h2.update B (Obj.mapSeq (fun x : Array Value => x.pop))).get? b = some o := fun b o z => by
    have nb : b ≠ B := fun y => absurd (Heap.lt_size z) (by rw [y, ← eb]; exact Nat.lt_irrefl _)
    exact (Heap.get?_update_other _ _ (Ne.symm nb)).trans (k2 b o z)
  generalize h2.update B (Obj.mapSeq (fun x : Array Value => x.pop)) = h3 at g3 k3 sz3
  refine wpAny_pure ⟨plainId_quiet F.plain_extend_loop _, ?_⟩
  have tup : ∀ {l : Addr} {us : Array Value}, s.heap.IsTuple l us → h3.IsTuple l us := fun ⟨o, e, r⟩ => ⟨o, k3 _ _ e, r⟩
  have itr : ∀ {l t : Addr} {i : Nat}, s.heap.IsTupleIter l t i → h3.IsTupleIter l t i := fun ⟨o, e, r⟩ => ⟨o, k3 _ _ e, r⟩
  refine zipLoop (h0 := s.heap) (A := A.in1) (by exact calm) ap sp hn small .none xs.size 0 { s with heap := h3 } #[] _ (by omega) (Nat.zero_le _)
    ⟨.inl ⟨k3 _ _ hz, a, b, k3 _ _ to⟩, k3 _ _ ti, itr j1, itr j2, tup t1, tup t2, g3, rfl, fun j v e => by simp at e, fun b o _ _ _ _ _ e => k3 b o e, by rw [eb]; exact sz3, by simp⟩ ?_
  intro h' acc' c' tk e1 e2 e3 e4 e5
  refine ⟨rfl, done h' tk acc' c' (fun b o n1 n2 n3 n4 e => e5 b o n1 n2 n3 n4 (fun y => absurd (Heap.lt_size e) (by rw [y, ← eb]; exact Nat.lt_irrefl _)) e) e2 e3 (fun j v e => ?_) e1⟩
  obtain ⟨T, x, y, a1, a2, a3, a4, a5, a6⟩ := e4 j v e
  exact ⟨T, x, y, a1, a2, a3, a4, by rw [← eb]; exact a5, a6⟩
end PySem
namespace Wl
open PySem PySem.Spec PyProof.Rows L2
theorem inv_laidN {X : Cx} {pins : List (Addr × Obj)} {σ : L2.St} {H H' : Hp} {s : Shared} {h' : Heap} {t' : Nat} (I : Inv X pins σ H s) (kp : ∀ b u, s.heap.get? b = some u → h'.get? b = some u)
    (old : ∀ b, b < s.heap.objs.size → H' b = H b) (new : ∀ a o, s.heap.objs.size ≤ a → H' a = some o → ObjOk X.prog X.w H' h' a o) : Inv X pins σ H' { s with heap := h', toks := t' } := by
  have I0 := I.kept (t' := t') kp
  have hold : ∀ b o, H b = some o → H' b = some o := fun b o e => by rw [old b (I.hok.lt e)]; exact e
  refine ⟨I.ok, I.os, I.bare, I.base.trans ⟨fun b o e _ _ _ => kp b o e, fun b o e _ _ _ => ⟨o.slots, kp b o e⟩, fun b o e n _ => by rw [old b (Heap.lt_size e)]; exact n, fun b o e _ => ⟨o, kp b o e⟩, fun b xs e => hold b _ e, fun b o u e => hold b _ e, fun b ps e => ⟨#[], by rw [Array.append_empty]; exact hold b _ e⟩⟩, I0.loc, I0.cell, ?_, ?_, ?_, ?_, I.len⟩
  · obtain ⟨m, ns, _⟩ := I.loc
    obtain ⟨o, e⟩ : ∃ o, s.heap.get? X.env.locals = some o := by obtain ⟨_, _, _, e, _⟩ := ns; exact ⟨_, e⟩
    rw [old _ (Heap.lt_size e)]; exact I.free
  · intro x c e
    obtain ⟨v, o, e2, _⟩ := I.cell x c e
    rw [old _ (Heap.lt_size e2)]; exact I.freeC x c e
  · intro p hp
    obtain ⟨a, b, c⟩ := I.pin p hp
    exact ⟨kp _ _ a, by rw [old _ (Heap.lt_size a)]; exact b, c⟩
  · intro a o e
    by_cases c : a < s.heap.objs.size
    · rw [old a c] at e
      exact (I.hok a o e).stay (fun b u _ e => kp b u e) (fun b e => hold b _ e) fun b xs e => hold b _ e
    · exact new a o (Nat.le_of_not_lt c) e
theorem vals_refs : ∀ Ts : List Addr, Vals (Ts.map V.ref) (Ts.map Value.ref)
  | [] => .nil
  | T :: Ts => .cons rfl (vals_refs Ts)
theorem vals_get : ∀ {xs : List V} {its : List Value} {j : Nat} {x : V}, Vals xs its → xs[j]? = some x → ∃ y, its[j]? = some y ∧ RelV x y
  | _, _, _, _, .nil, e => by simp at e
  | _, _, 0, _, .cons r t, e => by simp only [List.getElem?_cons_zero, Option.some.injEq] at e; subst e; exact ⟨_, rfl, r⟩
  | _, _, j + 1, _, .cons r t, e => by
    obtain ⟨y, a, b⟩ := vals_get t (by simpa using e)
    exact ⟨y, by simpa using a, b⟩
/-- tuples of two, one after the other -/
def layT : Hp → List Addr → List V → List V → Hp
  | H, T :: Ts, x :: xs, y :: ys => layT (upd H T (.tup [x, y])) Ts xs ys
  | H, _, _, _ => H
theorem layT_ne : ∀ (Ts : List Addr) (xs ys : List V) (H : Hp) (b : Addr), b ∉ Ts → layT H Ts xs ys b = H b
  | [], xs, ys, H, b, _ => by cases xs <;> rfl
  | T :: Ts, [], ys, H, b, _ => rfl
  | T :: Ts, x :: xs, [], H, b, _ => rfl
  | T :: Ts, x :: xs, y :: ys, H, b, h => by
    simp only [List.mem_cons, not_or] at h
    rw [layT, layT_ne Ts xs ys _ b h.2]
    unfold upd
    rw [if_neg h.1]
theorem layT_at : ∀ (Ts : List Addr) (xs ys : List V) (H : Hp) (j : Nat) (T : Addr) (x y : V), Ts.Nodup → Ts[j]? = some T → xs[j]? = some x → ys[j]? = some y → layT H Ts xs ys T = some (.tup [x, y])
  | [], _, _, _, _, _, _, _, _, e, _, _ => by simp at e
  | T :: Ts, [], _, _, _, _, _, _, _, _, e, _ => by simp at e
  | T :: Ts, x :: xs, [], _, _, _, _, _, _, _, _, e => by simp at e
  | T :: Ts, x :: xs, y :: ys, H, 0, T', x', y', nd, e1, e2, e3 => by
    simp only [List.getElem?_cons_zero, Option.some.injEq] at e1 e2 e3
    subst e1 e2 e3
    rw [layT, layT_ne Ts xs ys _ T (List.nodup_cons.mp nd).1]
    unfold upd
    rw [if_pos rfl]
  | T :: Ts, x :: xs, y :: ys, H, j + 1, T', x', y', nd, e1, e2, e3 => by
    rw [layT]
    exact layT_at Ts xs ys _ j T' x' y' (List.nodup_cons.mp nd).2 (by simpa using e1) (by simpa using e2) (by simpa using e3)
section
variable {X : Cx} {L : Lk}
def tLstZip (K : PySem.W.Frag) (ta : TA) : TE := fun σ H Q => ta σ H fun vs H1 => ∃ (a b : Addr) (xs ys : List V), vs = [.ref a, .ref b] ∧ SqT K H1 a xs ∧ SqT K H1 b ys ∧ ys.length = xs.length ∧
  ∀ (S : Addr) (Ts : List Addr), H1 S = none → Ts.length = xs.length → Ts.Nodup → (∀ T ∈ Ts, H1 T = none ∧ T ≠ S) → Q (.ref S) (layT (upd H1 S (.lst (Ts.map V.ref))) Ts xs ys)
theorem pe_lstZip {e e2 : Expr} {ta : TA} {p p2 pos pos2 : Pos} (hc : X.calm = true) (hg : Gl X "list") (hm : X.mg "list" = none) (hg2 : Gl X "zip") (hm2 : X.mg "zip" = none) (ha : PA X [e, e2] ta)
    (hs : starEach [e, e2] X.env = (false, eval e X.env) :: starEach [e2] X.env) (hpl : (backTo pos2 (starEach [e2] X.env)).any (·.1) = false)
    (hs2 : starEach [.Call (.Name "zip" p2) [e, e2] [] pos2] X.env = (false, eval (.Call (.Name "zip" p2) [e, e2] [] pos2) X.env) :: starEach [] X.env) :
    PE X (.Call (.Name "list" p) [.Call (.Name "zip" p2) [e, e2] [] pos2] [] pos) (tLstZip X.K ta) := ⟨fun pins s σ H Q I h => by
  have inner := ha.run pos2 pins s σ H _ I h
  refine Call_ (ld_blt I hg hm (show bootBuiltins "list" = some (.type "list") by decide +kernel) (PyProof.Rows.callWith_type1 (args_cons (Call_ (ld_blt I hg2 hm2 boot_zip (PyProof.Rows.callWith_type1 (thn inner ?_) hs hpl))) hs2) hs2 rfl))
  rintro us s1 ⟨vs, H1, J, vals, a, b, xs, ys, rfl, sq1, sq2, hl, q⟩
  obtain ⟨u1, u2, rfl, ea, eb⟩ : ∃ u1 u2, us = [u1, u2] ∧ RelV (.ref a) u1 ∧ RelV (.ref b) u2 := by
    cases vals with
    | cons r t => cases t with
      | cons r2 t2 => cases t2; exact ⟨_, _, rfl, r, r2⟩
  cases (show u1 = Value.ref a from ea)
  cases (show u2 = Value.ref b from eb)
  obtain ⟨its1, vals1, isT1, small1⟩ := J.tuple sq1
  obtain ⟨its2, vals2, isT2, small2⟩ := J.tuple sq2
  have sz1 : its1.length = xs.length := vals1.length.symm
  have sz2 : its2.length = ys.length := vals2.length.symm
  refine RZ.call_zipT isT1 isT2 fun h' z1 z2 z3 z4 z5 z6 z7 => args_nil ?_
  obtain ⟨B, eB⟩ : ∃ B, B = s1.heap.objs.size := ⟨_, rfl⟩
  rw [← eB] at z1 z2 z3 z4 z5 z6 ⊢
  have la : a < B := by obtain ⟨o, e, _⟩ := isT1; rw [eB]; exact Heap.lt_size e
  have lb : b < B := by obtain ⟨o, e, _⟩ := isT2; rw [eB]; exact Heap.lt_size e
  have nn : ∀ {i j : Nat}, i ≠ j → (B + i : Nat) ≠ B + j := fun n z => n (Nat.add_left_cancel z)
  have lt : ∀ {x : Nat} {i : Nat}, x < B → (x : Nat) ≠ B + i := fun h z => absurd (z ▸ h) (Nat.not_lt.mpr (Nat.le_add_right B _))
  have ap : ZipApart (B + 4) (B + 2) (B + 3) B (B + 1) a b := ⟨nn (by decide), nn (by decide), nn (i := 0) (by decide), nn (by decide), nn (by decide), nn (j := 0) (by decide), nn (by decide), nn (j := 0) (by decide), nn (by decide), nn (i := 0) (by decide),
    lt la, lt la, lt (i := 0) la, lt la, lt lb, lt lb, lt (i := 0) lb, lt lb⟩
  have tup : ∀ {l : Addr} {us : Array Value}, s1.heap.IsTuple l us → h'.IsTuple l us := fun ⟨o, e, r⟩ => ⟨o, z7 _ _ e, r⟩
  refine listOfZip (s := { s1 with heap := h' }) (J.ok.hd hc) ap z1 z2 z3 z4 z5 (tup isT1) (tup isT2) (by rw [List.size_toArray, List.size_toArray, sz1, sz2, hl]) (by rw [List.size_toArray, sz1]; exact small1) ?_
  intro h2 tk out c kept so nd items new
  have keep : ∀ b o, s1.heap.get? b = some o → h2.get? b = some o := fun b o z => by
    have l : b < B := by rw [eB]; exact Heap.lt_size z
    exact kept b o (lt l) (lt l) (lt (i := 0) l) (lt l) (z7 _ _ z)
  obtain ⟨S, eS⟩ : ∃ S : Nat, S = h'.objs.size := ⟨_, rfl⟩
  have items : ∀ (j : Nat) (v : Value), out[j]? = some v → ∃ (T : Addr) (x y : Value), v = Value.ref T ∧ its1.toArray[j]? = some x ∧ its2.toArray[j]? = some y ∧ IsPair h2 T x y ∧ S ≤ T ∧ T ≠ S := by rw [eS]; exact items
  have new : h2.get? S = some { cls := .type "list", data := .seq out c } := by rw [eS]; exact new
  have hS : s1.heap.objs.size < S := by rw [← eB, eS, z6]; exact Nat.lt_add_of_pos_right (by decide)
  have so : out.size = xs.length := by rw [so, List.size_toArray, sz1]
  obtain ⟨Ts, eTs⟩ : ∃ Ts : List Addr, out.toList = Ts.map Value.ref := by
    have : ∀ l : List Value, (∀ v ∈ l, ∃ T, v = Value.ref T) → ∃ Ts : List Addr, l = Ts.map Value.ref := fun l => by
      induction l with
      | nil => intro _; exact ⟨[], rfl⟩
      | cons v l ih =>
        intro h
        obtain ⟨T, rfl⟩ := h v List.mem_cons_self
        obtain ⟨Ts, rfl⟩ := ih fun u hu => h u (List.mem_cons_of_mem _ hu)
        exact ⟨T :: Ts, rfl⟩
    refine this _ fun v hv => ?_
    obtain ⟨j, hj, e⟩ := List.mem_iff_getElem.mp hv
    obtain ⟨T, x, y, a1, _⟩ := items j v (by rw [Array.getElem?_eq_getElem (by simpa using hj), ← e, Array.getElem_toList])
    exact ⟨T, a1⟩
  have lTs : Ts.length = xs.length := by rw [← so, ← Array.length_toList, eTs, List.length_map]
  have ndT : Ts.Nodup := by
    rw [eTs] at nd
    exact List.Pairwise.of_map Value.ref (fun a b h e => h (by rw [e])) nd
  have at' : ∀ (j : Nat) (T : Addr), Ts[j]? = some T → ∃ x y, its1[j]? = some x ∧ its2[j]? = some y ∧ IsPair h2 T x y ∧ S ≤ T ∧ T ≠ S := fun j T e => by
    obtain ⟨T', x, y, a1, a2, a3, a4, a5, a6⟩ := items j (.ref T) (by rw [← Array.getElem?_toList, eTs, List.getElem?_map, e]; rfl)
    cases a1
    exact ⟨x, y, by simpa using a2, by simpa using a3, a4, a5, a6⟩
  have big : ∀ T ∈ Ts, S ≤ T ∧ T ≠ S := fun T hT => by
    obtain ⟨j, hj, e⟩ := List.mem_iff_getElem.mp hT
    obtain ⟨x, y, _, _, _, a, b⟩ := at' j T (by rw [List.getElem?_eq_getElem hj, e])
    exact ⟨a, b⟩
  have h1S : H1 S = none := J.hok.fresh (Nat.le_of_lt hS)
  have h1T : ∀ T ∈ Ts, H1 T = none ∧ T ≠ S := fun T hT => ⟨J.hok.fresh (Nat.le_trans (Nat.le_of_lt hS) (big T hT).1), (big T hT).2⟩
  have q := q S Ts h1S lTs ndT h1T
  have nS : S ∉ Ts := fun z => (big S z).2 rfl
  have inv : Inv X pins σ (layT (upd H1 S (.lst (Ts.map V.ref))) Ts xs ys) { s1 with heap := h2, toks := tk } := by
    refine inv_laidN J keep (fun b hb => ?_) fun d o hd e => ?_
    · rw [layT_ne _ _ _ _ _ fun z => absurd hb (Nat.not_lt.mpr (Nat.le_trans (Nat.le_of_lt hS) (big b z).1))]
      unfold upd
      rw [if_neg (fun z : b = S => by rw [z] at hb; exact absurd hb (Nat.not_lt.mpr (Nat.le_of_lt hS)))]
    · by_cases dT : d ∈ Ts
      · obtain ⟨j, hj, ej⟩ := List.mem_iff_getElem.mp dT
        have ej : Ts[j]? = some d := by rw [List.getElem?_eq_getElem hj, ej]
        have hx : j < xs.length := by omega
        have hy : j < ys.length := by omega
        rw [layT_at _ _ _ _ j d xs[j] ys[j] ndT ej (List.getElem?_eq_getElem hx) (List.getElem?_eq_getElem hy)] at e
        cases e
        obtain ⟨x, y, a1, a2, a3, _⟩ := at' j d ej
        obtain ⟨x', b1, b2⟩ := vals_get vals1 (List.getElem?_eq_getElem hx)
        obtain ⟨y', b3, b4⟩ := vals_get vals2 (List.getElem?_eq_getElem hy)
        rw [a1] at b1; cases b1
        rw [a2] at b3; cases b3
        exact ⟨Nat.le_of_ble_eq_true rfl, [x, y], .cons b2 (.cons b4 .nil), _, a3, rfl, _, rfl⟩
      · by_cases dS : d = S
        · subst dS
          rw [layT_ne _ _ _ _ _ dT] at e
          unfold upd at e
          rw [if_pos rfl] at e
          cases e
          refine ⟨by rw [List.length_map, lTs]; exact small1, out.toList, c, ?_, by rw [Array.toArray_toList]; exact new⟩
          rw [eTs]
          exact vals_refs Ts
        · rw [layT_ne _ _ _ _ _ dT] at e
          unfold upd at e
          rw [if_neg dS] at e
          exact absurd (J.hok.lt e) (Nat.not_lt.mpr hd)
  rw [← eS]
  exact ⟨.ref S, _, inv, rfl, q⟩⟩
def lstZipK (ws : List W) (h : HW) (R : KW) : Prop := match ws with
  | [.tup xs, .tup ys] => ys.length = xs.length ∧ R (.lst (zipW xs ys)) h
  | _ => False
def oLstZip (ta : TAW) : TEW := fun ρ h R => ta ρ h fun ws h1 => lstZipK ws h1 R
theorem layT_st {K : PySem.W.Frag} {h : HW} : ∀ (Ts : List Addr) (xs ys : List V) (H : Hp), Ts.Nodup → (∀ T ∈ Ts, H T = none) → HR K H h → ST H h (layT H Ts xs ys) h ∧ HR K (layT H Ts xs ys) h
  | [], xs, ys, H, _, _, r => by cases xs <;> exact ⟨.refl _ _, r⟩
  | T :: Ts, [], ys, H, _, _, r => ⟨.refl _ _, r⟩
  | T :: Ts, x :: xs, [], H, _, _, r => ⟨.refl _ _, r⟩
  | T :: Ts, x :: xs, y :: ys, H, nd, hn, r => by
    have n := List.nodup_cons.mp nd
    have hT := hn T List.mem_cons_self
    have s1 : ST H h (upd H T (.tup [x, y])) h := .newF hT _
    obtain ⟨a, b⟩ := layT_st Ts xs ys (upd H T (.tup [x, y])) n.2 (fun U hU => by
      unfold upd
      rw [if_neg (fun z : U = T => n.1 (by rw [← z]; exact hU))]
      exact hn U (List.mem_cons_of_mem _ hU)) (r.newF hT _)
    rw [layT]
    exact ⟨s1.trans a, b⟩
theorem w_lstZip {e e2 : Expr} {ta : TAW} {p p2 pos pos2 : Pos} (hc : X.calm = true) (hg : Gl X "list") (hm : X.mg "list" = none) (hg2 : Gl X "zip") (hm2 : X.mg "zip" = none) (ha : WA X L [e, e2] ta)
    (hs : starEach [e, e2] X.env = (false, eval e X.env) :: starEach [e2] X.env := by rfl) (hpl : (backTo pos2 (starEach [e2] X.env)).any (·.1) = false := by rfl)
    (hs2 : starEach [.Call (.Name "zip" p2) [e, e2] [] pos2] X.env = (false, eval (.Call (.Name "zip" p2) [e, e2] [] pos2) X.env) :: starEach [] X.env := by rfl) :
    WE X L (.Call (.Name "list" p) [.Call (.Name "zip" p2) [e, e2] [] pos2] [] pos) (oLstZip ta) := (pe_lstZip hc hg hm hg2 hm2 ha hs hpl hs2).imp fun σ H Q ⟨ρ, h, R, S, t, k⟩ =>
  ⟨ρ, h, _, S, t, fun ws h1 vs H1 t1 s1 r1 q1 => by
    have k1 := k.mono s1
    unfold lstZipK at t1
    split at t1
    · rename_i xs ys
      obtain ⟨hl, t1⟩ := t1
      obtain ⟨u, v, rfl, q, q'⟩ := q1.two
      cases q with
      | tup f q =>
        cases q' with
        | tup g q' =>
          rename_i a vs1 b vs2
          refine ⟨a, b, vs1, vs2, rfl, f.sq, g.sq, by rw [q.length, q'.length, hl], fun S Ts hS lT nd hT => ?_⟩
          have s0 : ST H1 h1 (upd H1 S (.lst (Ts.map V.ref))) h1 := .newF hS _
          have r0 := r1.newF hS (.lst (Ts.map V.ref))
          have nS : S ∉ Ts := fun z => (hT S z).2 rfl
          obtain ⟨s2, r2⟩ := layT_st (K := X.K) Ts vs1 vs2 (upd H1 S (.lst (Ts.map V.ref))) nd (fun T hh => by
            unfold upd
            rw [if_neg (hT T hh).2]
            exact (hT T hh).1) r0
          have st := s0.trans s2
          refine k1 _ h1 _ _ t1 st r2 (.lst (vs := Ts.map V.ref) ⟨by rw [layT_ne _ _ _ _ _ nS]; exact upd_same, r1.fresh hS⟩ ?_)
          have lx := q.length
          have ly := q'.length
          have all : ∀ (n : Nat), n ≤ Ts.length → RWs X.K (layT (upd H1 S (.lst (Ts.map V.ref))) Ts vs1 vs2) h1 ((Ts.take n).map V.ref) ((zipW xs ys).take n) := fun n => by
            induction n with
            | zero => intro _; exact .nil
            | succ n ih =>
              intro hn
              have hx : n < xs.length := by omega
              have hy : n < ys.length := by omega
              have hz : n < (zipW xs ys).length := by simp [zipW]; omega
              rw [List.take_add_one, List.take_add_one, List.getElem?_eq_getElem (show n < Ts.length by omega), List.getElem?_eq_getElem hz, List.map_append]
              refine (ih (by omega)).append (.cons ?_ .nil)
              have ez : (zipW xs ys)[n] = .tup [xs[n], ys[n]] := by simp [zipW]
              rw [ez]
              obtain ⟨v1, e1, c1⟩ := (q.mono st).get (List.getElem?_eq_getElem hx)
              obtain ⟨v2, e2, c2⟩ := (q'.mono st).get (List.getElem?_eq_getElem hy)
              have hTn := hT Ts[n] (List.getElem_mem _)
              exact .tup (vs := [v1, v2]) (.inl ⟨.inl (layT_at _ _ _ _ n _ v1 v2 nd (List.getElem?_eq_getElem _) e1 e2), r1.fresh hTn.1⟩) (.cons c1 (.cons c2 .nil))
          have fin := all Ts.length (Nat.le_refl _)
          rw [List.take_length, List.take_of_length_le (by simp [zipW]; omega)] at fin
          exact fin
    · exact t1.elim⟩
theorem go_lstZip {ρ : SlW} {h : HW} {R : KW} {ta : TAW} (k : ta ρ h fun ws h1 => lstZipK ws h1 R) : oLstZip ta ρ h R := k
theorem go_lstZipK {h : HW} {R : KW} {xs ys : List W} (e : ys.length = xs.length) (k : R (.lst (zipW xs ys)) h) : lstZipK [.tup xs, .tup ys] h R := ⟨e, k⟩
end
end Wl

set_option Elab.async false
set_option linter.all false
set_option maxRecDepth 100000
namespace Wl
open PySem PySem.Spec PyProof.Rows L2
/-! ## is True, is False -/
section
variable {K : PySem.W.Frag} {h : HW} {R : KW}
def isBW : RW2 := fun x y h R => match x, y with | .bl a, .bl b => R (.bl (decide (a = b))) h | _, _ => False
def isnotBW : RW2 := fun x y h R => match x, y with | .bl a, .bl b => R (.bl (!decide (a = b))) h | _, _ => False
theorem lf_isB : Lf2 K (fun x y H Q => ∃ a b, x = .bl a ∧ y = .bl b ∧ Q (.bl (decide (a = b))) H) isBW := fun x y H Q w1 w2 h R r1 r2 hr t k => by
  unfold isBW at t
  split at t
  · cases r1; cases r2; exact ⟨_, _, rfl, rfl, k.go hr t (.bl _)⟩
  · exact t.elim
theorem lf_isnotB : Lf2 K (fun x y H Q => ∃ a b, x = .bl a ∧ y = .bl b ∧ Q (.bl (!decide (a = b))) H) isnotBW := fun x y H Q w1 w2 h R r1 r2 hr t k => by
  unfold isnotBW at t
  split at t
  · cases r1; cases r2; exact ⟨_, _, rfl, rfl, k.go hr t (.bl _)⟩
  · exact t.elim
theorem go_isBB {a b : Bool} (k : R (.bl (decide (a = b))) h) : isBW (.bl a) (.bl b) h R := k
theorem go_isnotBB {a b : Bool} (k : R (.bl (!decide (a = b))) h) : isnotBW (.bl a) (.bl b) h R := k
end
end Wl

set_option Elab.async false
set_option linter.all false
set_option maxRecDepth 100000
namespace Wl
open PySem PySem.Spec PyProof.Rows L2
section
variable {K : PySem.W.Frag} {h : HW} {R : KW}
/-! ## t < u of tuples of ints -/
def ltTW : RW2 := fun x y h R => match x, y with
  | .tup xs, .tup ys => (match intsOf xs, intsOf ys with | some ns, some ms => R (.bl (HT.lexLt ns ms)) h | _, _ => False)
  | _, _ => False
theorem lf_ltT : Lf2 K (rLtT K) ltTW := fun x y H Q w1 w2 h R r1 r2 hr t k => by
  unfold ltTW at t
  split at t
  · split at t
    · rename_i e1 e2
      cases r1 with
      | tup f q => cases r2 with
        | tup f2 q2 =>
          rw [intsOf_eq e1] at q
          rw [intsOf_eq e2] at q2
          exact ⟨_, _, _, _, rfl, rfl, by rw [← q.ints]; exact f.sq, by rw [← q2.ints]; exact f2.sq, k.go hr t (.bl _)⟩
    · exact t.elim
  · exact t.elim
theorem go_ltT {ns ms : List Int} (e1 : intsOf xs = some ns) (e2 : intsOf ys = some ms) (k : R (.bl (HT.lexLt ns ms)) h) : ltTW (.tup xs) (.tup ys) h R := by
  unfold ltTW; dsimp only; rw [e1, e2]; exact k
/-! ## n & 1 -/
def oddW : RW2 := fun x y h R => match x, y with
  | .int i, .int j => ∃ n : Nat, i = n ∧ j = 1 ∧ R (.int ((n % 2 : Nat) : Int)) h
  | _, _ => False
theorem lf_odd : Lf2 K (fun x y H Q => ∃ n : Nat, x = .int (n : Int) ∧ y = .int 1 ∧ Q (.int ((n % 2 : Nat) : Int)) H) oddW := fun x y H Q w1 w2 h R r1 r2 hr t k => by
  unfold oddW at t
  split at t
  · obtain ⟨n, rfl, rfl, t⟩ := t
    cases r1; cases r2
    exact ⟨n, rfl, rfl, k.go hr t (.int _)⟩
  · exact t.elim
theorem go_odd {n : Nat} (k : R (.int ((n % 2 : Nat) : Int)) h) : oddW (.int n) (.int 1) h R := ⟨n, rfl, rfl, k⟩
/-! ## xs * k -/
theorem RWs.rep {H : Hp} {vs : List V} {ws : List W} (r : RWs K H h vs ws) : ∀ n, RWs K H h (List.replicate n vs).flatten (List.replicate n ws).flatten
  | 0 => .nil
  | n + 1 => by
    rw [List.replicate_succ, List.replicate_succ, List.flatten_cons, List.flatten_cons]
    exact r.append (RWs.rep r n)
/-- a list times a number: one that stays, one that is owned -/
def repW : RW2 := fun x y h R => match x, y with
  | .lst ws, .int j => ∃ n : Nat, j = n ∧ ws.length * n ≤ 16000000 ∧ n < 9223372036854775808 ∧ R (.lst (List.replicate n ws).flatten) h
  | _, _ => False
def repOW : RW2 := fun x y h R => match x, y with
  | .lst ws, .int j => ∃ n : Nat, j = n ∧ ws.length * n ≤ 16000000 ∧ n < 9223372036854775808 ∧ ∀ p, h p = none → R (.ref p) (updW h p (.lst (List.replicate n ws).flatten))
  | _, _ => False
theorem lf_rep : Lf2 K rRep repW := fun x y H Q w1 w2 h R r1 r2 hr t k => by
  unfold repW at t
  split at t
  · obtain ⟨n, rfl, hz, hn, t⟩ := t
    cases r2
    cases r1 with
    | lst f q => exact ⟨_, _, _, rfl, rfl, f.1, by omega, by omega, by rw [Int.toNat_natCast, q.length]; exact sz_big hz, fun p hp => by
        rw [Int.toNat_natCast]
        exact k.lst hr (q.rep n) t hp⟩
  · exact t.elim
theorem lf_repO : Lf2 K rRep repOW := fun x y H Q w1 w2 h R r1 r2 hr t k => by
  unfold repOW at t
  split at t
  · obtain ⟨n, rfl, hz, hn, t⟩ := t
    cases r2
    cases r1 with
    | lst f q => exact ⟨_, _, _, rfl, rfl, f.1, by omega, by omega, by rw [Int.toNat_natCast, q.length]; exact sz_big hz, fun p hp => by
        rw [Int.toNat_natCast]
        exact k.lstO hr (q.rep n) t hp⟩
  · exact t.elim
theorem go_rep {n : Nat} {ws : List W} (hz : ws.length * n ≤ 16000000) (hn : n < 9223372036854775808) (k : R (.lst (List.replicate n ws).flatten) h) : repW (.lst ws) (.int n) h R := ⟨n, rfl, hz, hn, k⟩
theorem go_repO {n : Nat} {ws : List W} (hz : ws.length * n ≤ 16000000) (hn : n < 9223372036854775808) (k : ∀ p, h p = none → R (.ref p) (updW h p (.lst (List.replicate n ws).flatten))) : repOW (.lst ws) (.int n) h R := ⟨n, rfl, hz, hn, k⟩
/-! ## xs.index(y), flat items, y in xs -/
def tyLl : W → HW → Prop := fun x h => match x with | .lst _ => True | _ => False
theorem tyLl_ok : TyOk K "list" tyLl := fun v w H h r hr t => by
  unfold tyLl at t
  split at t
  · cases r with
    | lst f q => exact .inl ⟨rfl, _, f.sq⟩
  · exact t.elim
def indexLW : W → List W → HW → KW → Prop := fun x ws h R => match x, ws with
  | .lst ys, [y] => ∃ j z, flatW y = true ∧ ys.all flatW = true ∧ ys[j]? = some z ∧ eqF z y = true ∧ (∀ (m : Nat) z', m < j → ys[m]? = some z' → eqF z' y = false) ∧ R (.int (j : Nat)) h
  | _, _ => False
theorem lf_indexL : LfM K (rIndex K) indexLW := fun x xs H Q w ws h R r rs hr t k => by
  unfold indexLW at t
  split at t
  · rename_i ys y
    obtain ⟨j, z, f, fs, ez, eq, no, t⟩ := t
    obtain ⟨u, rfl, ru⟩ := rs.one
    cases r with
    | lst g q =>
      have fl : ∀ {m : Nat} {z' : W}, ys[m]? = some z' → flatW z' = true := fun e => List.all_eq_true.mp fs _ (List.mem_of_getElem? e)
      obtain ⟨v, e1, e2⟩ := q.get ez
      refine ⟨_, _, _, j, v, rfl, rfl, g.sq, flat_of ru f, flats_of q fs, e1, by rw [eqF_of e2 ru (fl ez) f]; exact eq, fun m z' hm ez' => ?_, k.go hr t (.int _)⟩
      obtain ⟨w', e3, e4⟩ := q.getv ez'
      rw [eqF_of e4 ru (fl e3) f]
      exact no m w' hm e3
  · exact t.elim
/-! ## sorted(d), ints as keys -/
def keyI : List (L2.Key × W) → Option (List Int)
  | [] => some []
  | (.inl i, _) :: r => (keyI r).map (i :: ·)
  | (.inr _, _) :: _ => none
theorem keyI_of {H : Hp} : ∀ {kvs : List (L2.Key × V)} {kws : List (L2.Key × W)} {ks : List Int}, RKs K H h kvs kws → keyI kws = some ks → kvs.map (·.1) = ks.map Sum.inl
  | _, _, ks, .nil, e => by cases e; rfl
  | _, _, ks, @RKs.cons _ _ _ k v w vs ws r t, e => by
    cases k with
    | inr s => cases e
    | inl i =>
      rw [keyI] at e
      obtain ⟨ks', e1, rfl⟩ := Option.map_eq_some_iff.mp e
      rw [List.map_cons, List.map_cons, keyI_of t e1]
theorem ints_rws {H : Hp} : ∀ ns : List Int, RWs K H h (ns.map V.int) (ns.map W.int)
  | [] => .nil
  | n :: ns => .cons (.int n) (ints_rws ns)
def sortedDIW : List W → HW → KW → Prop := fun ws h R => match ws with
  | [x] => (match dW x h with
    | some kws => (match keyI kws with | some ks => ks.length < 64 ∧ ∀ ys : List Int, ys.Perm ks → ys.Pairwise (· ≤ ·) → R (.lst (ys.map W.int)) h | none => False)
    | none => False)
  | _ => False
theorem lf_sortedDI : LfC K (fun xs H Q => ∃ (a : Addr) (kvs : List (Key × V)) (ks : List Int), xs = [.ref a] ∧ Rd H a (.dK kvs) ∧ kvs.map (·.1) = ks.map Sum.inl ∧ ks.length < 64 ∧ ∀ (ys : List Int) (p : Addr), ys.Perm ks → ys.Pairwise (· ≤ ·) → H p = none → Q (.ref p) (upd H p (.lst (ys.map V.int)))) sortedDIW := fun xs H Q ws h R r hr t k => by
  unfold sortedDIW at t
  split at t
  · split at t
    · rename_i e
      split at t
      · rename_i ek
        obtain ⟨x, rfl, q⟩ := r.one
        obtain ⟨a, kvs, rfl, ha, rk⟩ := dic_at hr q e
        exact ⟨a, kvs, _, rfl, .inl ha, keyI_of rk ek, t.1, fun ys p pm so hp => k.lst hr (ints_rws ys) (t.2 ys pm so) hp⟩
      · exact t.elim
    · exact t.elim
  · exact t.elim
theorem go_sortedDI {x : W} {kws : List (L2.Key × W)} {ks : List Int} (e : dW x h = some kws) (ek : keyI kws = some ks) (hl : ks.length < 64) (k : ∀ ys : List Int, ys.Perm ks → ys.Pairwise (· ≤ ·) → R (.lst (ys.map W.int)) h) : sortedDIW [x] h R := by
  unfold sortedDIW; dsimp only; rw [e]; dsimp only; rw [ek]; exact ⟨hl, k⟩
end
end Wl

set_option Elab.async false
set_option linter.all false
set_option maxRecDepth 100000
namespace Wl
open PySem PySem.Spec PyProof.Rows L2
theorem putW_len (kws : List (L2.Key × W)) (k : L2.Key) (w : W) : (putW kws k w).length ≤ kws.length + 1 := by
  unfold putW
  split
  · rw [List.length_map]; exact Nat.le_succ _
  · rw [List.length_append]; exact Nat.le_refl _
section
variable {X : Cx} {L : Lk}
/-! ## {k: v for t in xs}: a dict that is owned -/
def oDcT (ti : TIW) (js : List Nat) (gf : TGF) (tt : TTW) (tk tv : TEW) : TEW := fun ρ h R => ti ρ h fun ws h1 => ws.length ≤ 16000000 ∧ ∀ p, h1 p = none → ∃ Pv : Nat → List (L2.Key × W) → HW → Prop, Pv 0 [] h1 ∧
  (∀ i w acc h', ws[i]? = some w → h' p = none → acc.length ≤ i → Pv i acc h' → ∃ ρ', gf w (wipeW ρ js) = some ρ' ∧ tt ρ' (updW h' p (.dic acc)) fun b h3 => if b = true then tk ρ' h3 fun y h4 => tv ρ' h4 fun z h5 => ∃ k h6, keyW y = some k ∧ Sub (updW h6 p (.dic acc)) h5 ∧ h6 p = none ∧ Pv (i + 1) (putW acc k z) h6
    else ∃ h5, Sub (updW h5 p (.dic acc)) h3 ∧ h5 p = none ∧ Pv (i + 1) acc h5) ∧ ∀ acc h', h' p = none → Pv ws.length acc h' → R (.ref p) (updW h' p (.dic acc))
theorem dcT_imp {K : PySem.W.Frag} {ti : TIW} {js : List Nat} {g : TG} {gf : TGF} (G : TgOk K js g gf) {tt : TTW} {tk tv : TEW} : ∀ σ H Q, lE K L (oDcT ti js gf tt tk tv) σ H Q → tDc (lI K L ti) g (lT K L tt) (lE K L tk) (lE K L tv) js σ H Q := fun σ H Q ⟨ρ, h, R, S, t, k⟩ =>
  ⟨ρ, h, _, S, t, fun ws h1 J H1 ⟨hz, t1⟩ s1 r1 I D hD => by
    obtain ⟨Pv, p0, turn, fin⟩ := t1 D (r1.fresh hD)
    refine ⟨fun i m H2 => m = ws.length - i ∧ i ≤ ws.length ∧ ∃ acc h', Pv i acc h' ∧ h' D = none ∧ acc.length ≤ i ∧ HR K H2 (updW h' D (.dic acc)) ∧ ST H1 h1 H2 (updW h' D (.dic acc)), ⟨_, rfl, Nat.zero_le _, [], h1, p0, r1.fresh hD, Nat.le_refl _, ?_, .newO hD _ _⟩, ?_⟩
    · exact r1.newO hD ⟨[], upd_same, .nil⟩
    · rintro i m H2 ⟨rfl, hi, acc, h2, p, n2, ha, hr2, st2⟩
      by_cases hlt : i < ws.length
      · have hw : ws[i]? = some ws[i] := List.getElem?_eq_getElem hlt
        obtain ⟨go, yl⟩ := I.step i H2 _ ws[i] st2 hr2 hw
        refine .inr ⟨go, fun H3 => ∃ acc h', Pv (i + 1) acc h' ∧ h' D = none ∧ acc.length ≤ i + 1 ∧ HR K H3 (updW h' D (.dic acc)) ∧ ST H1 h1 H3 (updW h' D (.dic acc)), fun H3 p' => ⟨ws.length - (i + 1), by omega, rfl, hlt, p'⟩, fun x H3 y => ?_⟩
        obtain ⟨st3, hr3, rx⟩ := yl x H3 y
        obtain ⟨ρ', eg, turn⟩ := turn i _ acc h2 hw n2 ha p
        have sr0 := (((S.sr.mono s1).mono st2).mono st3).wipe js
        refine G _ _ _ _ _ ρ' _ _ rx sr0 eg fun σ2 w2 sr2 => ⟨w2.trans (wipe_idem σ js), ρ', _, _, ⟨sr2, hr3, L.mono (L.mono (L.mono S.el s1) st2) st3⟩, turn, ?_⟩
        intro b h4 H4 t4 s4 r4
        have tot : ST H1 h1 H4 h4 := (st2.trans st3).trans s4
        cases b with
        | false =>
          obtain ⟨h5, sub, n5, p5⟩ := t4
          exact ⟨acc, h5, p5, n5, Nat.le_succ_of_le ha, r4.drop sub, tot.trans (.drop sub)⟩
        | true =>
          have S4 : Sta K L σ2 H4 ρ' h4 := ⟨sr2.mono s4, r4, L.mono (L.mono (L.mono (L.mono S.el s1) st2) st3) s4⟩
          refine ⟨_, h4, _, S4, t4, fun y h5 v H5 t5 s5 r5 q5 => ?_⟩
          refine ⟨_, h5, _, S4.to s5 r5, t5, fun z h6 u H6 ⟨k', h7, ek, sub, n7, p7⟩ s6 r6 q6 => ?_⟩
          have hp : h6 D = some (.dic acc) := sub D _ updW_same
          obtain ⟨kvs, hv, q⟩ := r6 D _ hp
          refine ⟨kvs, k', key_at q5 ek, hv, by rw [q.length]; exact Nat.lt_of_le_of_lt (Nat.le_trans ha hi) (sz_lt hz), putW acc k' z, h7, p7, n7, by have := putW_len acc k' z; omega, ?_, ?_⟩
          all_goals
            have s7 : ST H6 h6 (upd H6 D (.dK (L2.putK kvs k' u))) (updW h6 D (.dic (putW acc k' z))) := .mut hp _ _
            have r7 : HR K (upd H6 D (.dK (L2.putK kvs k' u))) (updW h6 D (.dic (putW acc k' z))) := r6.mut hp ⟨_, upd_same, (q.mono s7).put (q6.mono s7)⟩
            have sub7 : Sub (updW h7 D (.dic (putW acc k' z))) (updW h6 D (.dic (putW acc k' z))) := fun b o e => by
              by_cases hb : b = D
              · subst hb; rw [updW_same] at e ⊢; exact e
              · rw [updW_ne hb] at e ⊢
                exact sub b o (by rw [updW_ne hb]; exact e)
          · exact r7.drop sub7
          · exact (((tot.trans s5).trans s6).trans s7).trans (.drop sub7)
      · have e : i = ws.length := by omega
        subst e
        exact .inl ⟨I.stop _ H2 _ st2 hr2 (Nat.le_refl _), k _ _ _ H2 (fin acc h2 n2 p) (s1.trans st2) hr2 (.ref D)⟩⟩
theorem w_dcT {kx vx tg iter : Expr} {ifs : List Expr} {scope : Scope} {own : List (Str × Nat)} {pos : Pos} {ti : TIW} {g : TG} {gf : TGF} {tt : TTW} {tk tv : TEW} (hc : X.calm = true) (hN : X.N.Nodup) (G : TgOk X.K (own.map (·.2)) g gf) (hi : WI X L tg iter ti) (ok : BlkOk X.N X.env.scope scope own)
    (hg : ∀ (s : Shared) (H : Hp) (C : Addr) (cl : List (Str × Addr)) (fp : List Addr), PG (X.blk s H scope (compEnvC scope cl C X.env) fp) tg g) (ht : ∀ (s : Shared) (H : Hp) (C : Addr) (cl : List (Str × Addr)) (fp : List Addr), WTs (X.blk s H scope (compEnvC scope cl C X.env) fp) L ifs tt)
    (hk : ∀ (s : Shared) (H : Hp) (C : Addr) (cl : List (Str × Addr)) (fp : List Addr), WE (X.blk s H scope (compEnvC scope cl C X.env) fp) L kx tk)
    (he : ∀ (s : Shared) (H : Hp) (C : Addr) (cl : List (Str × Addr)) (fp : List Addr), WE (X.blk s H scope (compEnvC scope cl C X.env) fp) L vx tv) (hs : ∀ x, foldedSetIterable iter X.env x = pure x := by intro _; rfl) :
    WE X L (.DictComp kx vx [⟨tg, iter, ifs, 0⟩] scope pos) (oDcT ti (own.map (·.2)) gf tt tk tv) := (pe_dc hc hN hi ok hg ht hk he hs).imp (dcT_imp G)
/-! ## enumerate(xs) -/
def enumW (ws : List W) : List W := (List.range ws.length).map fun i => .tup [.int (i : Nat), ws.getD i .non]
theorem enumW_get {ws : List W} {i : Nat} {w : W} (e : (enumW ws)[i]? = some w) : ∃ x, ws[i]? = some x ∧ w = .tup [.int (i : Nat), x] := by
  unfold enumW at e
  rw [List.getElem?_map] at e
  obtain ⟨j, e1, rfl⟩ := Option.map_eq_some_iff.mp e
  have hj := (List.getElem?_eq_some_iff.mp e1).1
  rw [List.length_range] at hj
  rw [List.getElem?_range hj] at e1
  cases e1
  exact ⟨ws[i], List.getElem?_eq_getElem hj, by rw [List.getD_eq_getElem?_getD, List.getElem?_eq_getElem hj]; rfl⟩
theorem enumW_len (ws : List W) : (enumW ws).length = ws.length := by simp [enumW]
def enumK (ws : List W) (h1 : HW) (P : List W → HW → Prop) : Prop := match ws with | [.lst xs] => P (enumW xs) h1 | _ => False
def oItE (ta : TAW) : TIW := fun ρ h P => ta ρ h fun ws h1 => enumK ws h1 P
theorem itE {K : PySem.W.Frag} {H : Hp} {h : HW} {a : Addr} {vs : List V} {xs : List W} (f : FzL H h a vs) (r : RWs K H h vs xs) : ItW K (Ite K a) H h (enumW xs) where
  step := fun i H1 h1 w st hr e => by
    obtain ⟨x, ex, rfl⟩ := enumW_get e
    obtain ⟨v, e1, e2⟩ := (r.mono st).get ex
    refine ⟨⟨vs, v, (f.mono st).sq, e1⟩, fun z H' ⟨T, v', ez, hT, eH, y1⟩ => ?_⟩
    subst ez eH
    have y1 := y1 vs (f.mono st).sq
    rw [e1] at y1; cases y1
    have s1 : ST H1 h1 (upd H1 T (.tup [.int i, v])) h1 := .newF hT _
    exact ⟨s1, hr.newF hT _, .tup (.inl ⟨.inl upd_same, hr.fresh hT⟩) (.cons (.int _) (.cons (e2.mono s1) .nil))⟩
  stop := fun i H1 h1 st hr e => ⟨vs, (f.mono st).sq, by rw [r.length]; rw [enumW_len] at e; exact e⟩
theorem wi_enum {e : Expr} {ta : TAW} {p pos tpos : Pos} {elts : List Expr} {kk : Nat} (hg : Gl X "enumerate") (hm : X.mg "enumerate" = none) (ha : WA X L [e] ta)
    (hs : starEach [e] X.env = [(false, eval e X.env)] := by rfl) :
    WI X L (.Tuple elts kk tpos) (.Call (.Name "enumerate" p) [e] [] pos) (oItE ta) := (pi_enum hg hm ha hs).imp fun σ H Q ⟨ρ, h, P, S, t, k⟩ =>
  ⟨ρ, h, _, S, t, fun ws h1 vs H1 t1 s1 r1 q1 => by
    unfold enumK at t1
    split at t1
    · obtain ⟨x, rfl, q⟩ := q1.one
      cases q with
      | lst f q => exact ⟨_, _, rfl, f.sq, k _ h1 _ H1 t1 s1 r1 (itE f q)⟩
    · exact t1.elim⟩
theorem go_forE {ta : TAW} {g : TGW} {tb : TSW} {D : EndsW} {ρ : SlW} {h : HW} (xs : List W) (ev : ∀ R : List W → HW → Prop, R [.lst xs] h → ta ρ h R)
  (Pv : Nat → SlW → HW → Prop) (p0 : CN (Pv 0) ρ h) (turn : ∀ (i : Nat) x ρ' h', xs[i]? = some x → Pv i ρ' h' → g (.tup [.int (i : Nat), x]) ρ' h' fun ρ2 h2 => tb (D.lp (CN (Pv (i + 1))) D.nx) ρ2 h2)
  (fin : ∀ ρ' h', Pv xs.length ρ' h' → D.nx ρ' h') : sFor (oItE ta) g tb D ρ h := ev _ ⟨Pv, p0, fun i w ρ' h' e p => by
    obtain ⟨x, ex, rfl⟩ := enumW_get e
    exact turn i x ρ' h' ex p, by rw [enumW_len]; exact fin⟩
end
end Wl

set_option Elab.async false
set_option linter.all false
set_option maxRecDepth 100000
namespace Wl
open PySem PySem.Spec PyProof.Rows L2
section
variable {X : Cx} {L : Lk}
/-! ## for k, v in d.items(): d is locked -/
theorem key_rw {K : PySem.W.Frag} {H : Hp} {h : HW} (k : L2.Key) : RW K H h (kV k) (wKey k) := by
  cases k with
  | inl i => exact .int i
  | inr x =>
    have e : x = mkS x.cps.toList := by cases x; rfl
    show RW K H h (.str x) (.str x.cps.toList)
    conv => lhs; rw [e]
    exact .str _
theorem RKs.getp {K : PySem.W.Frag} {H : Hp} {h : HW} : ∀ {kvs : List (L2.Key × V)} {kws : List (L2.Key × W)} {i : Nat} {k : L2.Key} {v : V}, RKs K H h kvs kws → kvs[i]? = some (k, v) → ∃ w, kws[i]? = some (k, w) ∧ RW K H h v w
  | _, _, _, _, _, .nil, e => by simp at e
  | _, _, 0, _, _, .cons r _, e => by simp at e; obtain ⟨rfl, rfl⟩ := e; exact ⟨_, rfl, r⟩
  | _, _, i + 1, _, _, .cons _ t, e => by
    obtain ⟨w, h1, h2⟩ := RKs.getp (i := i) t (by simpa using e)
    exact ⟨w, by simpa using h1, h2⟩
@[reducible] def EndsW.lk (D : EndsW) (d : Addr) (o : HO) (kws : List (L2.Key × W)) : EndsW :=
  ⟨fun ρ h => h d = some (.raw o) ∧ D.nx ρ (updW h d (.dic kws)), fun w h => h d = some (.raw o) ∧ D.rt w (updW h d (.dic kws)), fun ρ h => h d = some (.raw o) ∧ D.bk ρ (updW h d (.dic kws)), fun ρ h => h d = some (.raw o) ∧ D.ct ρ (updW h d (.dic kws))⟩
def sForIt (te : TEW) (g : TGW) (tb : TSW) : TSW := fun D ρ h => ∃ d kws, h d = some (.dic kws) ∧ ∀ o : HO, te ρ (updW h d (.raw o)) fun x h1 => x = .ref d ∧ h1 d = some (.raw o) ∧ ∃ Pv : Nat → SlW → HW → Prop, CN (Pv 0) ρ h1 ∧
  (∀ i k w ρ' h', kws[i]? = some (k, w) → Pv i ρ' h' → h' d = some (.raw o) ∧ g (.tup [wKey k, w]) ρ' h' fun ρ2 h2 => tb ((D.lk d o kws).lp (CN (Pv (i + 1))) (D.lk d o kws).nx) ρ2 h2) ∧ ∀ ρ' h', Pv kws.length ρ' h' → h' d = some (.raw o) ∧ D.nx ρ' (updW h' d (.dic kws))
theorem ws_forIt {e : Expr} {body : List Stmt} {te : TEW} {g : TGW} {tb : TSW} {apos cpos pos tpos : Pos} {elts : List Expr} {kk : Nat} (hp : PassesOwn (model X.prog X.w) X.A X.env X.xe) (hc : X.calm = true) (he : WE X L e te) (hg : WG X L (.Tuple elts kk tpos) g) (hb : WSs X L body tb)
    (h1 : attributeBase e (Str.ofString "items") X.env (eval e X.env) = eval e X.env := by rfl) (h2 : (apos.endLine == cpos.line) = true := by rfl)
    (hs : ∀ x, foldedSetIterable (.Call (.Attribute e "items" apos) [] [] cpos) X.env x = pure x := by intro _; rfl) :
    WS X L (.For (.Tuple elts kk tpos) (.Call (.Attribute e "items" apos) [] [] cpos) body [] pos) (sForIt te g tb) := (ps_lock (ps_for hp hc (pi_items he h1 h2) hg hb hs)).imp fun D σ H ⟨ρ, h, DW, S, ⟨d, kws, hd, t⟩, k⟩ => by
  obtain ⟨kvs, hH, rk⟩ := S.hr d _ hd
  refine ⟨d, .dK kvs, hH, trivial, fun od => ?_⟩
  have t := t (.frz od (.dK kvs))
  have sl : ST H h (upd H d (.frz od (.dK kvs))) (updW h d (.raw (.frz od (.dK kvs)))) := .mut hd _ _
  have rl : HR X.K (upd H d (.frz od (.dK kvs))) (updW h d (.raw (.frz od (.dK kvs)))) := S.hr.mut hd (show upd H _ _ _ = some _ from upd_same)
  -- what stands at an end of the locked state stands behind it
  have un : ∀ {H2 : Hp} {h2 : HW}, ST H h H2 h2 → HR X.K H2 h2 → h2 d = some (.raw (.frz od (.dK kvs))) → H2 d = some (.frz od (.dK kvs)) ∧ ST H2 h2 (upd H2 d (.dK kvs)) (updW h2 d (.dic kws)) ∧ HR X.K (upd H2 d (.dK kvs)) (updW h2 d (.dic kws)) := fun st hr e => by
    exact ⟨hr d _ e, .mut e _ _, hr.mut e ⟨kvs, upd_same, rk.mono (st.trans (.mut e _ _))⟩⟩
  have unN : ∀ {H2 : Hp} {h2 : HW} {N : SlW → HW → Prop} {M : L2.St → Hp → Prop}, ST H h H2 h2 → KN X.K H h N M → KN X.K H2 h2 (fun ρ h => h d = some (.raw (.frz od (.dK kvs))) ∧ N ρ (updW h d (.dic kws))) (fun σ' H' => H' d = some (.frz od (.dK kvs)) ∧ M σ' (upd H' d (.dK kvs))) := fun st kn ρ4 h4 σ4 H4 ⟨e4, q⟩ s4 r4 q4 => by
    obtain ⟨a, b, c⟩ := un (st.trans s4) r4 e4
    exact ⟨a, kn _ _ _ _ q ((st.trans s4).trans b) c (q4.mono b)⟩
  have unV : ∀ {H2 : Hp} {h2 : HW} {N : KW} {M : VK}, ST H h H2 h2 → KV X.K H h N M → KV X.K H2 h2 (fun w h => h d = some (.raw (.frz od (.dK kvs))) ∧ N w (updW h d (.dic kws))) (fun v H' => H' d = some (.frz od (.dK kvs)) ∧ M v (upd H' d (.dK kvs))) := fun st kn w4 h4 v4 H4 ⟨e4, q⟩ s4 r4 q4 => by
    obtain ⟨a, b, c⟩ := un (st.trans s4) r4 e4
    exact ⟨a, kn _ _ _ _ q ((st.trans s4).trans b) c (q4.mono b)⟩
  refine ⟨ρ, _, _, ⟨S.sr.mono sl, rl, L.mono S.el sl⟩, t, fun w1 h1 v1 H1 ⟨ex, hd1, Pv, p0, turn, fin⟩ s1 r1 q1 => ?_⟩
  subst ex
  cases q1
  refine ⟨d, od, kvs, rfl, r1 d _ hd1, fun i m σ' H' => m = kws.length - i ∧ i ≤ kws.length ∧ ∃ ρ' h', Pv i ρ' h' ∧ Sta X.K L σ' H' ρ' h' ∧ ST H h H' h', ?_, ?_⟩
  · obtain ⟨ρ0, h0, p, e1, e2⟩ := p0
    exact ⟨_, rfl, Nat.zero_le _, ρ0, h0, p, ⟨((S.sr.mono (sl.trans s1)).mono (.drop e2)).sub e1, r1.drop e2, L.mono (L.mono S.el (sl.trans s1)) (.drop e2)⟩, (sl.trans s1).trans (.drop e2)⟩
  · rintro i m σ' H' ⟨rfl, hi, ρ', h', p, S', st⟩
    by_cases hlt : i < kws.length
    · obtain ⟨k', w, ekw⟩ : ∃ k' w, kws[i]? = some (k', w) := ⟨_, _, List.getElem?_eq_getElem hlt⟩
      obtain ⟨hd', gt⟩ := turn i k' w ρ' h' ekw p
      refine .inr ⟨⟨S'.hr d _ hd', by rw [rk.length]; exact hlt⟩, fun σ2 H2 => ∃ ρ' h', Pv (i + 1) ρ' h' ∧ Sta X.K L σ2 H2 ρ' h' ∧ ST H h H2 h', fun σ2 H2 p' => ⟨kws.length - (i + 1), by omega, rfl, hlt, p'⟩, fun x H2 ⟨T, k2, v, ev, ex, hT, eH⟩ => ?_⟩
      subst ex eH
      obtain ⟨w', ew', rw'⟩ := rk.getp ev
      rw [ekw] at ew'
      cases ew'
      have st2 : ST H' h' (upd H' T (.tup [kV k', v])) h' := .newF hT _
      have hr2 := S'.hr.newF hT (.tup [kV k', v])
      have S2 := S'.to st2 hr2
      have rx : RW X.K (upd H' T (.tup [kV k', v])) h' (.ref T) (.tup [wKey k', w]) := .tup (.inl ⟨.inl upd_same, S'.hr.fresh hT⟩) (.cons (key_rw k') (.cons (rw'.mono (st.trans st2)) .nil))
      refine ⟨_, ρ', h', _, rx, S2, gt, fun ρ2 h2 σ2 H3 t2 s2 r2 q2 => ⟨ρ2, h2, _, ⟨q2, r2, L.mono S2.el s2⟩, t2, ?_⟩⟩
      have tot : ST H h H3 h2 := (st.trans st2).trans s2
      have nxt : KN X.K H3 h2 (CN (Pv (i + 1))) fun σ2 H2 => ∃ ρ' h', Pv (i + 1) ρ' h' ∧ Sta X.K L σ2 H2 ρ' h' ∧ ST H h H2 h' := fun ρ4 h4 σ4 H4 ⟨ρ0, h0, p, e1, e2⟩ s4 r4 q4 =>
        ⟨ρ0, h0, p, ⟨(q4.mono (.drop e2)).sub e1, r4.drop e2, L.mono (L.mono (L.mono S2.el s2) s4) (.drop e2)⟩, (tot.trans s4).trans (.drop e2)⟩
      exact ⟨nxt, unV tot k.rt, unN tot k.nx, nxt⟩
    · have e : i = kws.length := by omega
      subst e
      obtain ⟨e4, q⟩ := fin ρ' h' p
      exact .inl ⟨⟨S'.hr d _ e4, by rw [rk.length]; exact Nat.le_refl _⟩, unN st k.nx ρ' h' σ' H' ⟨e4, q⟩ (fun _ _ a b => ⟨a, b⟩) S'.hr S'.sr⟩
end
end Wl

set_option Elab.async false
set_option linter.all false
set_option maxRecDepth 100000
namespace Wl
open PySem PySem.Spec PyProof.Rows L2
section
variable {X : Cx} {L : Lk}
/-! ## for x in xs: a list that is owned and stays so -/
def listAt (x : W) (h : HW) (ws : List W) : Prop := match x with | .lst us => us = ws | .ref p => h p = some (.lst ws) | _ => False
theorem listAt_sq {K : PySem.W.Frag} {H1 : Hp} {h1 : HW} {x : W} {v : V} {ws : List W} (q : RW K H1 h1 v x) (e : listAt x h1 ws) : ∃ a, v = .ref a ∧ ∀ H' h', ST H1 h1 H' h' → HR K H' h' → listAt x h' ws → ∃ vs, SqL K H' a vs ∧ RWs K H' h' vs ws := by
  unfold listAt at e
  split at e
  · subst e
    cases q with
    | lst f q => exact ⟨_, rfl, fun H' h' st _ _ => ⟨_, (f.mono st).sq, q.mono st⟩⟩
  · cases q
    refine ⟨_, rfl, fun H' h' st hr e' => ?_⟩
    obtain ⟨vs, hv, q⟩ := hr _ _ (show h' _ = some (.lst ws) from e')
    exact ⟨vs, SqL.of hv, q⟩
  · exact e.elim
def sForO (te : TEW) (g : TGW) (tb : TSW) : TSW := fun D ρ h => te ρ h fun x h1 => ∃ ws, listAt x h1 ws ∧ ∃ Pv : Nat → SlW → HW → Prop, CN (Pv 0) ρ h1 ∧
  (∀ i w ρ' h', ws[i]? = some w → Pv i ρ' h' → listAt x h' ws ∧ g w ρ' h' fun ρ2 h2 => tb (D.lp (CN (Pv (i + 1))) D.nx) ρ2 h2) ∧ ∀ ρ' h', Pv ws.length ρ' h' → listAt x h' ws ∧ D.nx ρ' h'
theorem ws_forO {tg e : Expr} {body : List Stmt} {te : TEW} {g : TGW} {tb : TSW} {pos : Pos} (hp : PassesOwn (model X.prog X.w) X.A X.env X.xe) (hc : X.calm = true) (he : WE X L e te) (hg : WG X L tg g) (hb : WSs X L body tb)
    (hs : ∀ x, foldedSetIterable e X.env x = pure x := by intro _; rfl) : WS X L (.For tg e body [] pos) (sForO te g tb) := (ps_for hp hc (pi_list he) hg hb hs).imp fun D σ H ⟨ρ, h, DW, S, t, k⟩ => by
  refine ⟨ρ, h, _, S, t, fun x h1 v1 H1 ⟨ws, hl1, Pv, p0, turn, fin⟩ s1 r1 q1 => ?_⟩
  obtain ⟨p, ev1, sq⟩ := listAt_sq q1 hl1
  subst ev1
  obtain ⟨vs1, hv1, _⟩ := sq H1 h1 (.refl _ _) r1 hl1
  refine ⟨p, rfl, ⟨vs1, hv1⟩, fun i m σ' H' => m = ws.length - i ∧ i ≤ ws.length ∧ ∃ ρ' h', Pv i ρ' h' ∧ Sta X.K L σ' H' ρ' h' ∧ ST H1 h1 H' h', ?_, ?_⟩
  · obtain ⟨ρ0, h0, p, e1, e2⟩ := p0
    exact ⟨_, rfl, Nat.zero_le _, ρ0, h0, p, ⟨((S.sr.mono s1).mono (.drop e2)).sub e1, r1.drop e2, L.mono (L.mono S.el s1) (.drop e2)⟩, .drop e2⟩
  · rintro i m σ' H' ⟨rfl, hi, ρ', h', pv, S', st⟩
    by_cases hlt : i < ws.length
    · have hw : ws[i]? = some ws[i] := List.getElem?_eq_getElem hlt
      obtain ⟨hp', gt⟩ := turn i _ ρ' h' hw pv
      obtain ⟨vs, hv, q⟩ := sq H' h' st S'.hr hp'
      obtain ⟨v, ev, rv⟩ := q.get hw
      refine .inr ⟨⟨vs, v, hv, ev⟩, fun σ2 H2 => ∃ ρ' h', Pv (i + 1) ρ' h' ∧ Sta X.K L σ2 H2 ρ' h' ∧ ST H1 h1 H2 h', fun σ2 H2 p' => ⟨ws.length - (i + 1), by omega, rfl, hlt, p'⟩, fun x H2 ⟨eH, y⟩ => ?_⟩
      subst eH
      have y := y vs hv
      rw [ev] at y; cases y
      refine ⟨ws[i], ρ', h', _, rv, S', gt, fun ρ2 h2 σ2 H3 t2 s2 r2 q2 => ⟨ρ2, h2, _, ⟨q2, r2, L.mono S'.el s2⟩, t2, ?_⟩⟩
      have tot : ST H1 h1 H3 h2 := st.trans s2
      have nxt : KN X.K H3 h2 (CN (Pv (i + 1))) fun σ2 H2 => ∃ ρ' h', Pv (i + 1) ρ' h' ∧ Sta X.K L σ2 H2 ρ' h' ∧ ST H1 h1 H2 h' := fun ρ4 h4 σ4 H4 ⟨ρ0, h0, p, e1, e2⟩ s4 r4 q4 =>
        ⟨ρ0, h0, p, ⟨(q4.mono (.drop e2)).sub e1, r4.drop e2, L.mono (L.mono (L.mono S'.el s2) s4) (.drop e2)⟩, (tot.trans s4).trans (.drop e2)⟩
      exact ⟨nxt, k.rt.mono (s1.trans tot), k.nx.mono (s1.trans tot), nxt⟩
    · have e : i = ws.length := by omega
      subst e
      obtain ⟨hp', q⟩ := fin ρ' h' pv
      obtain ⟨vs, hv, qv⟩ := sq H' h' st S'.hr hp'
      exact .inl ⟨⟨vs, hv, by rw [qv.length]; exact Nat.le_refl _⟩, k.nx _ h' _ H' q (s1.trans st) S'.hr S'.sr⟩
theorem go_forO {te : TEW} {g : TGW} {tb : TSW} {D : EndsW} {ρ : SlW} {h : HW} {x : W} (ws : List W) (ev : ∀ R : KW, R x h → te ρ h R) (hl : listAt x h ws) (Pv : Nat → SlW → HW → Prop) (p0 : CN (Pv 0) ρ h)
    (keep : ∀ i ρ' h', i ≤ ws.length → Pv i ρ' h' → listAt x h' ws) (turn : ∀ (i : Nat) w ρ' h', ws[i]? = some w → Pv i ρ' h' → g w ρ' h' fun ρ2 h2 => tb (D.lp (CN (Pv (i + 1))) D.nx) ρ2 h2) (fin : ∀ ρ' h', Pv ws.length ρ' h' → D.nx ρ' h') : sForO te g tb D ρ h :=
  ev _ ⟨ws, hl, Pv, p0, fun i w ρ' h' e p => ⟨keep i ρ' h' (Nat.le_of_lt (List.getElem?_eq_some_iff.mp e).1) p, turn i w ρ' h' e p⟩, fun ρ' h' p => ⟨keep _ ρ' h' (Nat.le_refl _) p, fin ρ' h' p⟩⟩
/-! ## [x for xs in d.values() for x in xs]: d and its lists stay owned -/
def oFlatV (te : TEW) (j : Nat) (te1 : TEW) (j2 : Nat) (te2 : TEW) : TEW := fun ρ h R => ∃ (d : Addr) (kws : List (L2.Key × W)) (wss : List (List W)), h d = some (.dic kws) ∧ wss.length = kws.length ∧
  (∀ (i : Nat) (k : L2.Key) (w : W), kws[i]? = some (k, w) → ∃ p ws, w = .ref p ∧ wss[i]? = some ws ∧ h p = some (.lst ws)) ∧ wss.flatten.length ≤ 16000000 ∧
  (∀ o, te ρ (updW h d (.raw o)) fun x h1 => x = .ref d ∧ h1 = updW h d (.raw o)) ∧ (∀ w h', te1 (slC2 ρ j j2 w) h' fun x h3 => h3 = h' ∧ x = w) ∧
  (∀ w x h', te2 ((slC2 ρ j j2 w).set j2 (some x)) h' fun y h4 => h4 = h' ∧ y = x) ∧ R (.lst wss.flatten) h
theorem flatV_imp {K : PySem.W.Frag} {te te1 te2 : TEW} {j j2 : Nat} : ∀ σ H Q, lE K L (oFlatV te j te1 j2 te2) σ H Q → tLockE (tLc2 (iVals (lE K L te)) (gName j) (lT K L oYes) (iList K (lE K L te1)) (gName j2) (lT K L oYes) (lE K L te2) [j, j2] [j2]) σ H Q := fun σ H Q ⟨ρ, h, R, S, ⟨d, kws, wss, hd, hl, hin, hz, ev, e1, e2, fin⟩, k⟩ => by
  obtain ⟨kvs, hH, rk⟩ := S.hr d _ hd
  refine ⟨d, .dK kvs, hH, trivial, fun od => ?_⟩
  have sl : ST H h (upd H d (.frz od (.dK kvs))) (updW h d (.raw (.frz od (.dK kvs)))) := .mut hd _ _
  have rl : HR K (upd H d (.frz od (.dK kvs))) (updW h d (.raw (.frz od (.dK kvs)))) := S.hr.mut hd (show upd H _ _ _ = some _ from upd_same)
  refine ⟨ρ, _, _, ⟨S.sr.mono sl, rl, L.mono S.el sl⟩, ev (.frz od (.dK kvs)), fun w1 h1 v1 H1 ⟨ex, eh⟩ s1 r1 q1 => ?_⟩
  subst ex eh
  cases q1
  have st1 := sl.trans s1
  refine ⟨d, od, kvs, rfl, r1 d _ updW_same, fun D hD => ?_⟩
  have nD := r1.fresh hD
  have Dd : D ≠ d := fun z => by rw [z, updW_same] at nD; cases nD
  have hnD : h D = none := by rw [updW_ne Dd] at nD; exact nD
  obtain ⟨h0, eh0⟩ : ∃ h0, h0 = updW h d (.raw (.frz od (.dK kvs))) := ⟨_, rfl⟩
  rw [← eh0] at r1 st1 nD
  have hd0 : ∀ acc, updW h0 D acc d = some (.raw (.frz od (.dK kvs))) := fun acc => by rw [updW_ne Dd.symm, eh0, updW_same]
  refine ⟨fun i m H2 => m = kws.length - i ∧ i ≤ kws.length ∧ HR K H2 (updW h0 D (.lst (wss.take i).flatten)) ∧ ST H h H2 (updW h0 D (.lst (wss.take i).flatten)), ⟨_, rfl, Nat.zero_le _, r1.newO hD ⟨[], upd_same, .nil⟩, st1.trans (.newO hD _ _)⟩, ?_⟩
  rintro i m H2 ⟨rfl, hi, hr2, st2⟩
  by_cases hlt : i < kws.length
  · obtain ⟨k', w, ekw⟩ : ∃ k' w, kws[i]? = some (k', w) := ⟨_, _, List.getElem?_eq_getElem hlt⟩
    obtain ⟨p, ws, ew, ewss, hp⟩ := hin i k' w ekw
    subst ew
    have pd : p ≠ d := fun z => by rw [z, hd] at hp; cases hp
    have pD : p ≠ D := fun z => by rw [z, hnD] at hp; cases hp
    have hpi : ∀ acc, updW h0 D acc p = some (.lst ws) := fun acc => by rw [updW_ne pD, eh0, updW_ne pd]; exact hp
    have ext : (wss.take (i + 1)).flatten = (wss.take i).flatten ++ ws := by rw [List.take_add_one, ewss, List.flatten_append]; simp
    have lim : ((wss.take i).flatten ++ ws).length ≤ 16000000 := by
      rw [← ext]
      refine Nat.le_trans ?_ hz
      conv => rhs; rw [← List.take_append_drop (i + 1) wss]
      rw [List.flatten_append, List.length_append]; omega
    refine .inr ⟨⟨hr2 d _ (hd0 _), by rw [rk.length]; exact hlt⟩, fun H3 => HR K H3 (updW h0 D (.lst (wss.take (i + 1)).flatten)) ∧ ST H h H3 (updW h0 D (.lst (wss.take (i + 1)).flatten)), fun H3 p' => ⟨kws.length - (i + 1), by omega, rfl, hlt, p'⟩, fun x H3 ⟨eH, k2, ev2⟩ => ?_⟩
    subst eH
    obtain ⟨w', ew', rw'⟩ := rk.getp ev2
    rw [ekw] at ew'
    cases ew'
    cases rw'
    have sr3 : SR K H3 (updW h0 D (.lst (wss.take i).flatten)) (((σ.set j2 none).set j none).set j (some (.ref p))) (slC2 ρ j j2 (.ref p)) := (((S.sr.mono st2).setN j2).setN j).set (.ref p) j
    refine ⟨wipe2 σ j j2 (some (.ref p)), slC2 ρ j j2 (.ref p), _, fun b h' => b = true ∧ h' = updW h0 D (.lst (wss.take i).flatten), ⟨sr3, hr2, L.mono S.el st2⟩, ⟨rfl, rfl⟩, fun b h4 H4 ⟨eb, eh⟩ s4 r4 => ?_⟩
    subst eb eh
    rw [if_pos rfl]
    have st4 := st2.trans s4
    refine ⟨_, _, _, ⟨sr3.mono s4, r4, L.mono S.el st4⟩, e1 (.ref p) _, fun y h5 v H5 ⟨eh, ey⟩ s5 r5 q5 => ?_⟩
    subst eh ey
    cases q5
    have st5 := st4.trans s5
    obtain ⟨vs0, hv0, _⟩ := r5 p _ (hpi _)
    refine ⟨p, rfl, ⟨vs0, SqL.of hv0⟩, fun jj m H6 => m = ws.length - jj ∧ jj ≤ ws.length ∧ HR K H6 (updW h0 D (.lst ((wss.take i).flatten ++ ws.take jj))) ∧ ST H h H6 (updW h0 D (.lst ((wss.take i).flatten ++ ws.take jj))) ∧
      SR K H6 (updW h0 D (.lst ((wss.take i).flatten ++ ws.take jj))) (((σ.set j2 none).set j none).set j (some (.ref p))) (slC2 ρ j j2 (.ref p)),
      ⟨_, rfl, Nat.zero_le _, by simpa using r5, by simpa using st5, by simpa using (sr3.mono s4).mono s5⟩, ?_⟩
    rintro jj m H6 ⟨rfl, hj, hr6, st6, sr6⟩
    obtain ⟨vs6, hv6, q6⟩ := hr6 p _ (hpi _)
    by_cases hl2 : jj < ws.length
    · have hx : ws[jj]? = some ws[jj] := List.getElem?_eq_getElem hl2
      obtain ⟨v6, ev6, rv6⟩ := q6.get hx
      refine .inr ⟨⟨vs6, v6, SqL.of hv6, ev6⟩, fun H7 => HR K H7 (updW h0 D (.lst ((wss.take i).flatten ++ ws.take (jj + 1)))) ∧ ST H h H7 (updW h0 D (.lst ((wss.take i).flatten ++ ws.take (jj + 1)))) ∧
        SR K H7 (updW h0 D (.lst ((wss.take i).flatten ++ ws.take (jj + 1)))) (((σ.set j2 none).set j none).set j (some (.ref p))) (slC2 ρ j j2 (.ref p)),
        fun H7 ⟨a, b, c⟩ => ⟨_, by omega, rfl, hl2, a, b, c⟩, fun x2 H7 ⟨eH7, y2⟩ => ?_⟩
      subst eH7
      have y2 := y2 vs6 (SqL.of hv6)
      rw [ev6] at y2; cases y2
      have ext2 : ws.take (jj + 1) = ws.take jj ++ [ws[jj]] := by rw [List.take_add_one, hx]; rfl
      have lim2 : ((wss.take i).flatten ++ ws.take jj).length < sizeLine := by
        have : (ws.take jj).length ≤ ws.length := by simp; omega
        simp only [List.length_append] at lim this ⊢
        exact Nat.lt_of_le_of_lt (by omega : _ ≤ 16000000) (by decide)
      have ew : ∀ σ' : L2.St, wipe σ' [j2] = σ'.set j2 none := fun _ => rfl
      show wipe ((wipe (((σ.set j2 none).set j none).set j (some (.ref p))) [j2]).set j2 (some v6)) [j2] = wipe (((σ.set j2 none).set j none).set j (some (.ref p))) [j2] ∧ _
      simp only [ew, List.set_set]
      have sr7 := sr6.set rv6 j2
      refine ⟨trivial, _, _, fun b h' => b = true ∧ h' = updW h0 D (.lst ((wss.take i).flatten ++ ws.take jj)), ⟨sr7, hr6, L.mono S.el st6⟩, ⟨rfl, rfl⟩, fun b h8 H8 ⟨eb, eh⟩ s8 r8 => ?_⟩
      subst eb eh
      rw [if_pos rfl]
      refine ⟨_, _, _, ⟨sr7.mono s8, r8, L.mono S.el (st6.trans s8)⟩, e2 (.ref p) ws[jj] _, fun y h9 v H9 ⟨eh, ey⟩ s9 r9 q9 => ?_⟩
      subst eh ey
      obtain ⟨vs, hv, q⟩ := r9 D _ updW_same
      have upw : ∀ a b : List W, updW (updW h0 D (.lst a)) D (.lst b) = updW h0 D (.lst b) := fun a b => updW_upd
      have s10 : ST H9 (updW h0 D (.lst ((wss.take i).flatten ++ ws.take jj))) (upd H9 D (.lst (vs ++ [v]))) (updW h0 D (.lst ((wss.take i).flatten ++ ws.take (jj + 1)))) := by
        have z : ST H9 (updW h0 D (.lst ((wss.take i).flatten ++ ws.take jj))) (upd H9 D (.lst (vs ++ [v]))) (updW (updW h0 D (.lst ((wss.take i).flatten ++ ws.take jj))) D (.lst ((wss.take i).flatten ++ ws.take (jj + 1)))) := .mut updW_same _ _
        rwa [upw] at z
      have r10 : HR K (upd H9 D (.lst (vs ++ [v]))) (updW h0 D (.lst ((wss.take i).flatten ++ ws.take (jj + 1)))) := by
        have := r9.mut (a := D) (u0 := .lst ((wss.take i).flatten ++ ws.take jj)) updW_same (o := .lst (vs ++ [v])) (u := .lst ((wss.take i).flatten ++ ws.take (jj + 1))) ⟨_, upd_same, by
          have z := (q.mono s10).append (.cons (q9.mono s10) .nil)
          rw [List.append_assoc, ← ext2] at z
          rw [upw]; exact z⟩
        rwa [upw] at this
      exact ⟨vs, hv, by rw [q.length]; exact lim2, r10, ((st6.trans s8).trans s9).trans s10, by have z := ((sr6.mono s8).mono s9).mono s10; simp only [slC2, List.set_set] at z; exact z⟩
    · have e : jj = ws.length := by omega
      subst e
      rw [List.take_length] at hr6 st6
      refine .inl ⟨⟨vs6, SqL.of hv6, by rw [q6.length]; exact Nat.le_refl _⟩, ?_, ?_⟩
      · rw [ext]; exact hr6
      · rw [ext]; exact st6
  · have e : i = kws.length := by omega
    subst e
    rw [← hl, List.take_length] at hr2 st2
    obtain ⟨vs, hv, q⟩ := hr2 D _ updW_same
    have hd2 := hr2 d _ (hd0 _)
    refine .inl ⟨⟨hd2, by rw [rk.length]; exact Nat.le_refl _⟩, hd2, ?_⟩
    have s3 : ST H2 (updW h0 D (.lst wss.flatten)) (upd H2 d (.dK kvs)) (updW (updW h0 D (.lst wss.flatten)) d (.dic kws)) := .mut (hd0 _) _ _
    have r3 : HR K (upd H2 d (.dK kvs)) (updW (updW h0 D (.lst wss.flatten)) d (.dic kws)) := hr2.mut (hd0 _) ⟨kvs, upd_same, rk.mono (st2.trans s3)⟩
    have sub : Sub h (updW (updW h0 D (.lst wss.flatten)) d (.dic kws)) := fun a o e => by
      have aD : a ≠ D := fun z => by rw [z, hnD] at e; cases e
      by_cases ad : a = d
      · subst ad; rw [updW_same]; rw [hd] at e; exact e
      · rw [updW_ne ad, updW_ne aD, eh0, updW_ne ad]; exact e
    have s4 : ST H2 (updW h0 D (.lst wss.flatten)) (upd H2 d (.dK kvs)) h := s3.trans (.drop sub)
    exact k _ h _ _ fin (st2.trans s4) (r3.drop sub) (.lst ⟨by rw [upd_ne Dd]; exact hv, hnD⟩ (q.mono s4))
theorem w_flatV {elt tg e tg1 iter1 : Expr} {scope : Scope} {x x2 : Str} {j j2 : Nat} {pos apos cpos : Pos} {te te1 te2 : TEW} (hc : X.calm = true) (hN : X.N.Nodup) (he : WE X L e te) (ok : BlkOk X.N X.env.scope scope [(x, j), (x2, j2)])
    (hg : ∀ (s : Shared) (H : Hp) (C : Addr) (cl : List (Str × Addr)) (fp : List Addr), PG (X.blk s H scope (compEnvC scope cl C X.env) fp) tg (gName j)) (hi1 : ∀ (s : Shared) (H : Hp) (C : Addr) (cl : List (Str × Addr)) (fp : List Addr), WE (X.blk s H scope (compEnvC scope cl C X.env) fp) L iter1 te1)
    (hg1 : ∀ (s : Shared) (H : Hp) (C : Addr) (cl : List (Str × Addr)) (fp : List Addr), PG (X.blk s H scope (compEnvC scope cl C X.env) fp) tg1 (gName j2))
    (he2 : ∀ (s : Shared) (H : Hp) (C : Addr) (cl : List (Str × Addr)) (fp : List Addr), WE (X.blk s H scope (compEnvC scope cl C X.env) fp) L elt te2)
    (h1 : attributeBase e (Str.ofString "values") X.env (eval e X.env) = eval e X.env := by rfl) (h2 : (apos.endLine == cpos.line) = true := by rfl)
    (hs : ∀ x, foldedSetIterable (.Call (.Attribute e "values" apos) [] [] cpos) X.env x = pure x := by intro _; rfl) (hs1 : ∀ env x, foldedSetIterable iter1 env x = pure x := by intro _ _; rfl) :
    WE X L (.ListComp elt [⟨tg, .Call (.Attribute e "values" apos) [] [] cpos, [], 0⟩, ⟨tg1, iter1, [], 0⟩] scope pos) (oFlatV te j te1 j2 te2) :=
  (pe_lock (pe_lc2 hc hN (pi_values he h1 h2) ok (vs1 := [j2]) (by simp) hg (fun _ _ _ _ _ => wts_nil) (fun s H C cl fp => pi_list (hi1 s H C cl fp)) hg1 (fun _ _ _ _ _ => wts_nil) he2 hs hs1)).imp flatV_imp
end
end Wl

set_option Elab.async false
set_option linter.all false
set_option maxRecDepth 100000
namespace Wl
open PySem PySem.Spec PyProof.Rows L2
/-! ## dict(enumerate(xs)) -/
def eK {α : Type} : Nat → List α → List (L2.Key × α)
  | _, [] => []
  | i, x :: xs => (.inl (i : Nat), x) :: eK (i + 1) xs
theorem eK_len {α : Type} : ∀ (xs : List α) (i : Nat), (eK i xs).length = xs.length
  | [], _ => rfl
  | _ :: xs, i => by simp only [eK, List.length_cons, eK_len xs]
theorem eK_get {α : Type} : ∀ (xs : List α) (i j : Nat) (x : α), xs[j]? = some x → (eK i xs)[j]? = some (.inl ((i + j : Nat) : Int), x)
  | [], _, _, _, e => by simp at e
  | y :: xs, i, 0, x, e => by simp at e; subst e; rfl
  | y :: xs, i, j + 1, x, e => by
    have := eK_get xs (i + 1) j x (by simpa using e)
    simp only [eK, List.getElem?_cons_succ, this]
    congr 3; omega
theorem eK_lo {α : Type} : ∀ (xs : List α) (i : Nat) (k : L2.Key) (x : α), (k, x) ∈ eK i xs → ∃ j, i ≤ j ∧ k = .inl (j : Nat)
  | [], _, _, _, h => by cases h
  | y :: xs, i, k, x, h => by
    rcases List.mem_cons.mp h with e | h
    · cases e; exact ⟨i, Nat.le_refl _, rfl⟩
    · obtain ⟨j, a, b⟩ := eK_lo xs (i + 1) k x h; exact ⟨j, by omega, b⟩
theorem merged_eK : ∀ (xs : List Value) (i : Nat) (acc : List (L2.Key × Value)), (∀ k x, (k, x) ∈ acc → ∃ j : Nat, j < i ∧ k = .inl (j : Nat)) → merged acc (eK i xs) = acc ++ eK i xs
  | [], i, acc, _ => (List.append_nil acc).symm
  | x :: xs, i, acc, h => by
    unfold merged
    simp only [eK, List.foldl_cons]
    have : stored acc (Sum.inl (i : Int)) x = acc ++ [(Sum.inl (i : Int), x)] := by
      unfold stored
      rw [if_neg]
      intro z
      obtain ⟨⟨k, y⟩, hm, e⟩ := List.any_eq_true.mp z
      obtain ⟨j, hj, ek⟩ := h k y hm
      have e := of_decide_eq_true e
      rw [ek] at e
      have : (j : Int) = (i : Int) := Sum.inl.inj e
      omega
    rw [this]
    have := merged_eK xs (i + 1) (acc ++ [(Sum.inl (i : Int), x)]) fun k y hm => by
      rcases List.mem_append.mp hm with q | q
      · obtain ⟨j, a, b⟩ := h k y q; exact ⟨j, by omega, b⟩
      · cases List.mem_singleton.mp q; exact ⟨i, by omega, rfl⟩
    unfold merged at this
    rw [this, List.append_assoc]; rfl
theorem eK_kv : ∀ {xs : List V} {its : List Value}, Vals xs its → ∀ i, L2.KV (eK i xs) (eK i its)
  | _, _, .nil, _ => .nil
  | _, _, .cons r t, i => .cons ⟨rfl, r⟩ (eK_kv t (i + 1))
section
variable {X : Cx} {L : Lk}
def tDictEnum (K : PySem.W.Frag) (ta : TA) : TE := fun σ H Q => ta σ H fun vs H1 => ∃ (a : Addr) (xs : List V), vs = [.ref a] ∧ SqL K H1 a xs ∧ ∀ p, H1 p = none → Q (.ref p) (upd H1 p (.dK (eK 0 xs)))
theorem pe_dictEnum {e : Expr} {ta : TA} {p p2 pos pos2 : Pos} (hc : X.calm = true) (hg : Gl X "dict") (hm : X.mg "dict" = none) (hg2 : Gl X "enumerate") (hm2 : X.mg "enumerate" = none) (ha : PA X [e] ta)
    (hs : starEach [e] X.env = (false, eval e X.env) :: starEach [] X.env := by rfl) (hpl : (backTo pos2 (starEach [] X.env)).any (·.1) = false := by rfl)
    (hs2 : starEach [.Call (.Name "enumerate" p2) [e] [] pos2] X.env = (false, eval (.Call (.Name "enumerate" p2) [e] [] pos2) X.env) :: starEach [] X.env := by rfl) :
    PE X (.Call (.Name "dict" p) [.Call (.Name "enumerate" p2) [e] [] pos2] [] pos) (tDictEnum X.K ta) := ⟨fun pins s σ H Q I h => by
  have inner := ha.run pos2 pins s σ H _ I h
  refine Call_ (ld_blt I hg hm (show bootBuiltins "dict" = some (.type "dict") by decide +kernel) (PyProof.Rows.callWith_type1 (args_cons (Call_ (ld_blt I hg2 hm2 (show bootBuiltins "enumerate" = some (.type "enumerate") by decide +kernel) (PyProof.Rows.callWith_type1 (thn inner ?_) hs hpl))) hs2) hs2 rfl))
  rintro us s1 ⟨vs, H1, J, vals, a, xs, rfl, sq, q⟩
  obtain ⟨u1, rfl, ea⟩ : ∃ u1, us = [u1] ∧ RelV (.ref a) u1 := by
    cases vals with
    | cons r t => cases t; exact ⟨_, rfl, r⟩
  cases (show u1 = Value.ref a from ea)
  obtain ⟨its, vals1, isL, small⟩ := J.list sq
  have sz : its.length = xs.length := vals1.length.symm
  have il : s1.heap.IsList a its.toArray := by
    obtain ⟨o, n, e, c, _, d⟩ := isL
    exact ⟨o, e, c, n, d⟩
  refine call_enumerate_list il fun h' z1 z2 z3 z4 => args_nil ?_
  obtain ⟨B, eB⟩ : ∃ B, B = s1.heap.objs.size := ⟨_, rfl⟩
  rw [← eB] at z1 z2 z3 ⊢
  have la : a < B := by obtain ⟨o, e, _⟩ := il; rw [eB]; exact Heap.lt_size e
  have n1 : (B + 1 : Nat) ≠ B := Nat.ne_of_gt (Nat.lt_succ_self _)
  have n2 : (a : Nat) ≠ B + 1 := Nat.ne_of_lt (Nat.lt_succ_of_lt la)
  have n3 : (a : Nat) ≠ B := Nat.ne_of_lt la
  refine PySem.call_dict_pairs (knd := L2.mixKind X.prog X.w) (kvs := eK 0 its) (PySem.PairArg.enumerate (B + 1) B a n1 n2 n3 its.toArray) (J.ok.hd hc) ?_ ?_ ?_ ?_
  · exact ⟨⟨_, z1⟩, z2, by obtain ⟨o, e, r⟩ := il; exact ⟨o, z4 _ _ e, r⟩⟩
  · refine ⟨by rw [eK_len]; simp, fun i key v ⟨⟨t, ek⟩, ev⟩ => ⟨.inl (i : Nat), ?_, ?_⟩⟩
    · have := eK_get its 0 i v (by simpa using ev)
      rw [Nat.zero_add] at this; exact this
    · subst ek
      show L2.keyIs (.inl (i : Int)) (Value.int (i : Int) t) = true
      simp [L2.keyIs, Value.isInt]
  · simp only [List.size_toArray]; rw [sz]; exact small
  · intro h2 tk hd keep2
    rw [merged_eK its 0 [] (fun _ _ h => by cases h), List.nil_append] at hd
    obtain ⟨S, eS⟩ : ∃ S : Nat, S = h'.objs.size := ⟨_, rfl⟩
    rw [← eS] at hd ⊢
    have lS : B < S := by rw [eS, z3]; exact Nat.lt_add_of_pos_right (by decide)
    have keep : ∀ b o, s1.heap.get? b = some o → h2.get? b = some o := fun b o z => by
      have l : b < B := by rw [eB]; exact Heap.lt_size z
      refine keep2 b o (fun q => ?_) (z4 _ _ z)
      rcases List.mem_cons.mp q with q | q
      · rw [q] at l; exact absurd l (Nat.not_lt.mpr (Nat.le_succ _))
      · cases List.mem_singleton.mp q; exact absurd l (Nat.lt_irrefl _)
    have h1S : H1 S = none := J.hok.fresh (by rw [← eB]; exact Nat.le_of_lt lS)
    have inv : Inv X pins σ (upd H1 S (.dK (eK 0 xs))) { s1 with heap := h2, toks := tk } :=
      J.laid keep (by rw [← eB]; exact Nat.le_of_lt lS) ⟨by rw [eK_len]; exact small, beq_eq_false_iff_ne.mpr (Nat.ne_of_gt (Nat.lt_trans (by rw [eB]; exact J.big) lS)), eK 0 its, eK_kv vals1 0, hd⟩
    exact ⟨.ref S, _, inv, rfl, q S h1S⟩⟩
def dictEnumK (ws : List W) (h : HW) (R : KW) : Prop := match ws with | [.lst xs] => ∀ p, h p = none → R (.ref p) (updW h p (.dic (eK 0 xs))) | _ => False
def oDictEnum (ta : TAW) : TEW := fun ρ h R => ta ρ h fun ws h1 => dictEnumK ws h1 R
theorem eK_rk {K : PySem.W.Frag} {H : Hp} {h : HW} : ∀ {vs : List V} {ws : List W}, RWs K H h vs ws → ∀ i, RKs K H h (eK i vs) (eK i ws)
  | _, _, .nil, _ => .nil
  | _, _, .cons r t, i => .cons r (eK_rk t (i + 1))
theorem w_dictEnum {e : Expr} {ta : TAW} {p p2 pos pos2 : Pos} (hc : X.calm = true) (hg : Gl X "dict") (hm : X.mg "dict" = none) (hg2 : Gl X "enumerate") (hm2 : X.mg "enumerate" = none) (ha : WA X L [e] ta)
    (hs : starEach [e] X.env = (false, eval e X.env) :: starEach [] X.env := by rfl) (hpl : (backTo pos2 (starEach [] X.env)).any (·.1) = false := by rfl)
    (hs2 : starEach [.Call (.Name "enumerate" p2) [e] [] pos2] X.env = (false, eval (.Call (.Name "enumerate" p2) [e] [] pos2) X.env) :: starEach [] X.env := by rfl) :
    WE X L (.Call (.Name "dict" p) [.Call (.Name "enumerate" p2) [e] [] pos2] [] pos) (oDictEnum ta) := (pe_dictEnum hc hg hm hg2 hm2 ha hs hpl hs2).imp fun σ H Q ⟨ρ, h, R, S, t, k⟩ =>
  ⟨ρ, h, _, S, t, fun ws h1 vs H1 t1 s1 r1 q1 => by
    unfold dictEnumK at t1
    split at t1
    · obtain ⟨x, rfl, q⟩ := q1.one
      cases q with
      | lst f q => exact ⟨_, _, rfl, f.sq, fun p hp => (k.mono s1).dicO r1 (eK_rk q 0) t1 hp⟩
    · exact t1.elim⟩
theorem go_dictEnum {ρ : SlW} {h : HW} {R : KW} {ta : TAW} (k : ta ρ h fun ws h1 => dictEnumK ws h1 R) : oDictEnum ta ρ h R := k
theorem go_dictEnumK {h : HW} {R : KW} {xs : List W} (k : ∀ p, h p = none → R (.ref p) (updW h p (.dic (eK 0 xs)))) : dictEnumK [.lst xs] h R := k
end
end Wl

set_option Elab.async false
set_option linter.all false
set_option maxRecDepth 100000
namespace Wl
open PySem PySem.Spec PyProof.Rows L2
/-! ## len(x), x with an own __len__ -/
theorem call_lenM {X : Cx} {C g : Addr} {k : Nat} {fd : FuncData} {sp : Sp} (hm : Meth X.K C (Str.ofString "__len__") g) (F : FnOk X.prog X.w X.K X.mg X.base CX0 k g fd ["self"] sp) (hr : Room (k + 1) X.A) (hb : L2.Binds X.K fd ["self"] []) :
    CallR X (.builtin "len") (fun xs H Q => ∃ x dx fs, xs = [V.ref x] ∧ H x = some (.ins C dx fs) ∧ sp [.ref x] H (fun v H' => ∃ n : Int, v = .int n ∧ 0 ≤ n ∧ n < 2 ^ 63 ∧ Q (.int n) H') (fun _ _ _ => False)) := fun pins s σ H xs us Q I vals ⟨x, dx, fs, exs, hx, q⟩ => by
  subst exs
  obtain ⟨u1, rfl, ea⟩ : ∃ u1, us = [u1] ∧ RelV (.ref x) u1 := by
    cases vals with
    | cons r t => cases t; exact ⟨_, rfl, r⟩
  cases (show u1 = Value.ref x from ea)
  have ok : ({ X with A := X.A.in1 } : Cx).Ok := ⟨I.ok.mod, I.ok.kind, I.ok.glob, I.ok.blt, I.ok.above, I.ok.inj, I.ok.has, I.ok.cab, I.ok.hd, I.ok.frames, I.ok.stk, I.ok.exf, I.ok.bs, I.ok.bsz, I.ok.noex, I.ok.exfs, I.ok.funs, I.ok.frf⟩
  have I1 : L2.Inv { X with A := X.A.in1 } pins σ H s := ⟨ok, I.os, I.bare, I.base, I.loc, I.cell, I.free, I.freeC, I.pin, I.hok, I.len⟩
  have hr1 : Room k X.A.in1 := ⟨hr.hd, by have := hr.dp; show X.A.depth + 3 * k + 5 < _; omega, by have := hr.un; show X.A.units + 1 + 16 * k + 200 < _; omega⟩
  have run := run_fn (X := { X with A := X.A.in1 }) (E := fun _ _ _ => False) F hr1 hb .nil (fun _ _ _ _ _ _ _ z => z.elim) I1 vals q
  obtain ⟨m, hns, _⟩ := I.loc
  obtain ⟨hdx, _, dne, hget, _⟩ := I.hok x _ hx
  obtain ⟨o2, ho2⟩ : ∃ o, s.heap.get? dx = some o := I.hok dx _ hdx
  refine PySem.W.len_K (K := X.K) (h₀ := X.base) (L := X.env.locals) (m := m) ⟨hns, fun b o e => (I.bs b o e).1, Nat.le_trans I.ok.bsz I.ok.above⟩ I.ok.mod.kin (od := some o2) ⟨hget, rfl, rfl, ho2⟩ hm.at_ hm.fn (thn run ?_)
  rintro v s' ⟨v', H', I', rv, n, rfl, h0, h63, q⟩
  obtain ⟨t, rfl⟩ := (show ∃ t, v = Value.int n t from rv)
  have I2 := I'.tok (s'.toks + 1)
  exact ⟨⟨h0, h63⟩, .int n, H', ⟨I.ok, I2.os, I2.bare, I2.base, I2.loc, I2.cell, I2.free, I2.freeC, I2.pin, I2.hok, I2.len⟩, ⟨_, rfl⟩, q⟩
def lenMW (C : Addr) (sp : SpW) : List W → HW → KW → Prop := fun ws h R => ∃ a fs, ws = [.ref a] ∧ h a = some (.ins C fs) ∧ sp [.ref a] h (fun w h' => ∃ n : Nat, w = .int (n : Int) ∧ n < 2 ^ 62 ∧ R (.int (n : Int)) h') noX
theorem lf_lenM {K : PySem.W.Frag} {C : Addr} {sp : SpW} : LfC K (fun xs H Q => ∃ x dx fs, xs = [V.ref x] ∧ H x = some (.ins C dx fs) ∧ lSp K sp [.ref x] H (fun v H' => ∃ n : Int, v = .int n ∧ 0 ≤ n ∧ n < 2 ^ 63 ∧ Q (.int n) H') (fun _ _ _ => False)) (lenMW C sp) := fun xs H Q ws h R r hr ⟨a, fs, ew, ha, t⟩ k => by
  subst ew
  obtain ⟨x, rfl, q⟩ := r.one
  cases q
  obtain ⟨dx, gs, hx, _⟩ := hr a _ ha
  refine ⟨a, dx, gs, rfl, hx, [.ref a], h, _, noX, .cons (.ref a) .nil, hr, t, fun w h' v H' ⟨n, ew, hn, q⟩ st r' rw' => ?_, fun x h' od H' e _ _ => e.elim⟩
  subst ew
  cases rw'
  exact ⟨n, rfl, by omega, by omega, k _ h' _ H' q st r' (.int _)⟩
theorem go_lenM {C : Addr} {sp : SpW} {h : HW} {R : KW} {a : Addr} {fs : List (Str × W)} (ha : h a = some (.ins C fs)) (k : sp [.ref a] h (fun w h' => ∃ n : Nat, w = .int (n : Int) ∧ n < 2 ^ 62 ∧ R (.int (n : Int)) h') noX) : lenMW C sp [.ref a] h R := ⟨a, fs, rfl, ha, k⟩
end Wl

set_option Elab.async false
set_option linter.all false
set_option maxRecDepth 100000
namespace Wl
open PySem PySem.Spec PyProof.Rows L2
section
variable {X : Cx} {L : Lk} {pos : Pos}
/-! ## {"a": 1, ..}: texts and ints, written down -/
def siT (kv : List Nat × Int) : TE × TE := (tC (.str (mkS kv.1)), tC (.int kv.2))
theorem pps_si0 : PPs X pos [] [] (([] : List (List Nat × Int)).map siT) := pps_nil
theorem pps_si {x : Str} {i : Int} {j j2 : Nat} {p p2 : Pos} {kvs : List (List Nat × Int)} {ks : List (Option Expr)} {vs : List Expr} (l : List Nat) (h : PPs X pos ks vs (kvs.map siT)) (e : x = mkS l := by rfl) :
    PPs X pos (some (.Constant (.str x) j p) :: ks) (.Constant (.int i) j2 p2 :: vs) (((l, i) :: kvs).map siT) := by
  subst e
  exact pps_cons pe_str pe_int h
theorem tPairs_si (σ : L2.St) (H : Hp) : ∀ (kvs : List (List Nat × Int)) (Q : List (V × V) → Hp → Prop), Q (kvs.map fun kv => (V.str (mkS kv.1), V.int kv.2)) H → tPairs (kvs.map siT) σ H Q
  | [], Q, q => q
  | kv :: kvs, Q, q => tPairs_si σ H kvs (fun ps H3 => Q ((V.str (mkS kv.1), V.int kv.2) :: ps) H3) q
def siW (kvs : List (List Nat × Int)) : List (L2.Key × W) := kvs.map fun kv => (.inr (mkS kv.1), .int kv.2)
def siV (kvs : List (List Nat × Int)) : List (L2.Key × V) := kvs.map fun kv => (.inr (mkS kv.1), .int kv.2)
theorem si_rk {K : PySem.W.Frag} {H : Hp} {h : HW} : ∀ kvs : List (List Nat × Int), RKs K H h (siV kvs) (siW kvs)
  | [] => .nil
  | kv :: kvs => .cons (.int _) (si_rk kvs)
theorem w_disp {keys : List (Option Expr)} {values : List Expr} {kvs : List (List Nat × Int)} (hp : PPs X pos keys values (kvs.map siT)) (hm : mergeK [] (siV kvs) = siV kvs) (hall : keys.all (·.isSome) = true := by rfl) (hl : keys.length = values.length := by rfl) (h0 : keys ≠ [] := by exact fun z => by cases z) (h15 : keys.length ≤ 15 := by decide) (hk : kvs.length ≤ 15 := by decide) :
    WE X L (.Dict keys values pos) (oC (.dic (siW kvs))) := (pe_disp hp hall hl h0 h15).imp fun σ H Q ⟨ρ, h, R, S, t, k⟩ p hp => by
  refine tPairs_si σ _ kvs _ ⟨upd_same, siV kvs, ?_, by simp [siV]; exact hk, ?_⟩
  · simp only [siV, List.map_map]; rfl
  · rw [hm, upd_upd]
    exact k.dic S.hr (si_rk kvs) t hp
example : mergeK [] (siV [([97], 1), ([98], 2)]) = siV [([97], 1), ([98], 2)] := by rfl
end
end Wl

set_option Elab.async false
set_option linter.all false
set_option maxRecDepth 100000
namespace Wl
open PySem PySem.Spec PyProof.Rows L2
/-! ## s in D, s not in D: D a dict that is written once, s one of its keys -/
section
variable {X : Cx} {L : Lk}
def kinW (neg : Bool) (p : Addr) (tbl : List (List Nat × W)) : RW2 := fun x y h R => y = .ref p ∧ match x with | .str s => (match tabW tbl s with | some _ => R (.bl (!neg)) h | none => False) | _ => False
theorem kdict_of {w : World} {K : PySem.W.Frag} {p : Addr} {tbl : List (List Nat × W)} {no : List (List Nat)} (T : KTab w K p tbl no) : ∃ es n, L2.KDict K w p es n := by
  obtain ⟨es, n, a, b⟩ := T.ex
  exact ⟨es, n, a, b, T.low⟩
def rKin (neg : Bool) (K : PySem.W.Frag) (d : Addr) : R2 := fun x y H Q => ∃ (z : Str) (r : Option Value), x = .str z ∧ y = .ref d ∧ PySem.W.nsIn K d z = some r ∧ Q (.bl (if neg then !r.isSome else r.isSome)) H
theorem or_kin {p : Addr} {tbl : List (List Nat × W)} {no : List (List Nat)} (T : KTab X.w X.K p tbl no) : OpR X (compareOp .In) (rKin false X.K p) := by
  obtain ⟨es, n, D⟩ := kdict_of T
  exact op_in_kd D
theorem or_knotin {p : Addr} {tbl : List (List Nat × W)} {no : List (List Nat)} (T : KTab X.w X.K p tbl no) : OpR X (compareOp .NotIn) (rKin true X.K p) := by
  obtain ⟨es, n, D⟩ := kdict_of T
  exact op_notIn_kd D
theorem lf_kin {w : World} {K : PySem.W.Frag} {p : Addr} {tbl : List (List Nat × W)} {no : List (List Nat)} {neg : Bool} (T : KTab w K p tbl no) : Lf2 K (rKin neg K p) (kinW neg p tbl) := fun x y H Q w1 w2 h R r1 r2 hr t k => by
  obtain ⟨e1, t⟩ := t
  subst e1
  split at t
  · split at t
    · rename_i e
      cases r1; cases r2
      obtain ⟨u, n, q⟩ := T.yes.at e
      refine ⟨_, _, rfl, rfl, n, ?_⟩
      cases neg <;> exact k.go hr t (.bl _)
    · exact t.elim
  · exact t.elim
theorem go_kin {neg : Bool} {p : Addr} {tbl : List (List Nat × W)} {h : HW} {R : KW} {s : List Nat} {w : W} (e : tabW tbl s = some w) (k : R (.bl (!neg)) h) : kinW neg p tbl (.str s) (.ref p) h R := ⟨rfl, by dsimp only; rw [e]; exact k⟩
end
end Wl

set_option Elab.async false
set_option linter.all false
set_option maxRecDepth 100000
namespace Wl
open PySem PySem.Spec PyProof.Rows L2
section
variable {X : Cx} {L : Lk} {pos : Pos}
/-! ## {k: v}: one pair, owned -/
def oDisp1O (tk tv : TEW) : TEW := fun ρ h R => ∀ p, h p = none → tk ρ (updW h p (.dic [])) fun x h1 => tv ρ h1 fun y h2 => ∃ k, keyW x = some k ∧ h2 p = some (.dic []) ∧ R (.ref p) (updW h2 p (.dic [(k, y)]))
theorem w_disp1O {a b : Expr} {tk tv : TEW} (hk : WE X L a tk) (hv : WE X L b tv) : WE X L (.Dict [some a] [b] pos) (oDisp1O tk tv) := (pe_disp (pps_cons hk hv pps_nil) rfl rfl (fun z => by cases z) (by show 1 ≤ 15; decide)).imp fun σ H Q ⟨ρ, h, R, S, t, k⟩ p hp => by
  have s0 : ST H h (upd H p (.dK [])) (updW h p (.dic [])) := .newO hp _ _
  have r0 : HR X.K (upd H p (.dK [])) (updW h p (.dic [])) := S.hr.newO hp ⟨[], upd_same, .nil⟩
  refine ⟨ρ, _, _, S.to s0 r0, t p (S.hr.fresh hp), fun x h1 v H1 t1 s1 r1 q1 => ⟨ρ, h1, _, (S.to s0 r0).to s1 r1, t1, fun y h2 u H2 ⟨k', ek, hp2, t2⟩ s2 r2 q2 => ?_⟩⟩
  obtain ⟨kvs, hv2, rk⟩ := r2 p _ hp2
  cases rk
  have s3 : ST H2 h2 (upd H2 p (.dK [(k', u)])) (updW h2 p (.dic [(k', y)])) := .mut hp2 _ _
  refine ⟨hv2, [(k', u)], by rw [key_at q1 ek]; rfl, by show 1 ≤ 15; decide, k _ _ _ _ t2 (((s0.trans s1).trans s2).trans s3) (r2.mut hp2 ⟨[(k', u)], upd_same, .cons (q2.mono s3) .nil⟩) (.ref p)⟩
theorem go_disp1O {tk tv : TEW} {ρ : SlW} {h : HW} {R : KW} (k : ∀ p, h p = none → tk ρ (updW h p (.dic [])) fun x h1 => tv ρ h1 fun y h2 => ∃ k, keyW x = some k ∧ h2 p = some (.dic []) ∧ R (.ref p) (updW h2 p (.dic [(k, y)]))) : oDisp1O tk tv ρ h R := k
/-! ## {k: v for a, b in d.items()}: d is locked, the new dict is owned -/
def oDcIt (te : TEW) (js : List Nat) (gf : TGF) (tt : TTW) (tk tv : TEW) : TEW := fun ρ h R => ∃ (d : Addr) (kws : List (L2.Key × W)), h d = some (.dic kws) ∧ kws.length ≤ 16000000 ∧ ∀ o : HO, te ρ (updW h d (.raw o)) fun x h1 => x = .ref d ∧ h1 = updW h d (.raw o) ∧
  ∀ p, h1 p = none → ∃ Pv : Nat → List (L2.Key × W) → HW → Prop, Pv 0 [] h1 ∧
  (∀ (i : Nat) (kk : L2.Key) (w : W) acc h', kws[i]? = some (kk, w) → h' p = none → acc.length ≤ i → Pv i acc h' → h' d = some (.raw o) ∧ ∃ ρ', gf (.tup [wKey kk, w]) (wipeW ρ js) = some ρ' ∧ tt ρ' (updW h' p (.dic acc)) fun b h3 => if b = true then tk ρ' h3 fun y h4 => tv ρ' h4 fun z h5 => ∃ k h6, keyW y = some k ∧ Sub (updW h6 p (.dic acc)) h5 ∧ h6 p = none ∧ Pv (i + 1) (putW acc k z) h6
    else ∃ h5, Sub (updW h5 p (.dic acc)) h3 ∧ h5 p = none ∧ Pv (i + 1) acc h5) ∧ ∀ acc h', h' p = none → Pv kws.length acc h' → h' d = some (.raw o) ∧ R (.ref p) (updW (updW h' p (.dic acc)) d (.dic kws))
theorem dcIt_imp {K : PySem.W.Frag} {te : TEW} {js : List Nat} {g : TG} {gf : TGF} (G : TgOk K js g gf) {tt : TTW} {tk tv : TEW} : ∀ σ H Q, lE K L (oDcIt te js gf tt tk tv) σ H Q → tLockE (tDc (iItems (lE K L te)) g (lT K L tt) (lE K L tk) (lE K L tv) js) σ H Q := fun σ H Q ⟨ρ, h, R, S, ⟨d, kws, hd, hz, t⟩, k⟩ => by
  obtain ⟨kvs, hH, rk⟩ := S.hr d _ hd
  refine ⟨d, .dK kvs, hH, trivial, fun od => ?_⟩
  have sl : ST H h (upd H d (.frz od (.dK kvs))) (updW h d (.raw (.frz od (.dK kvs)))) := .mut hd _ _
  have rl : HR K (upd H d (.frz od (.dK kvs))) (updW h d (.raw (.frz od (.dK kvs)))) := S.hr.mut hd (show upd H _ _ _ = some _ from upd_same)
  refine ⟨ρ, _, _, ⟨S.sr.mono sl, rl, L.mono S.el sl⟩, t (.frz od (.dK kvs)), fun w1 h1 v1 H1 ⟨ex, eh, t1⟩ s1 r1 q1 => ?_⟩
  subst ex eh
  cases q1
  have st1 := sl.trans s1
  refine ⟨d, od, kvs, rfl, r1 d _ updW_same, fun D hD => ?_⟩
  have nD := r1.fresh hD
  have Dd : D ≠ d := fun z => by rw [z, updW_same] at nD; cases nD
  obtain ⟨h0, eh0⟩ : ∃ h0, h0 = updW h d (.raw (.frz od (.dK kvs))) := ⟨_, rfl⟩
  rw [← eh0] at r1 st1 nD t1
  obtain ⟨Pv, p0, turn, fin⟩ := t1 D nD
  refine ⟨fun i m H2 => m = kws.length - i ∧ i ≤ kws.length ∧ ∃ acc h', Pv i acc h' ∧ h' D = none ∧ acc.length ≤ i ∧ HR K H2 (updW h' D (.dic acc)) ∧ ST H h H2 (updW h' D (.dic acc)), ⟨_, rfl, Nat.zero_le _, [], h0, p0, nD, Nat.le_refl _, r1.newO hD ⟨[], upd_same, .nil⟩, st1.trans (.newO hD _ _)⟩, ?_⟩
  rintro i m H2 ⟨rfl, hi, acc, h2, p, n2, ha, hr2, st2⟩
  by_cases hlt : i < kws.length
  · obtain ⟨k', w, ekw⟩ : ∃ k' w, kws[i]? = some (k', w) := ⟨_, _, List.getElem?_eq_getElem hlt⟩
    obtain ⟨hd2, ρ', eg, turn⟩ := turn i k' w acc h2 ekw n2 ha p
    have hd2' : updW h2 D (.dic acc) d = some (.raw (.frz od (.dK kvs))) := by rw [updW_ne Dd.symm]; exact hd2
    refine .inr ⟨⟨hr2 d _ hd2', by rw [rk.length]; exact hlt⟩, fun H3 => ∃ acc h', Pv (i + 1) acc h' ∧ h' D = none ∧ acc.length ≤ i + 1 ∧ HR K H3 (updW h' D (.dic acc)) ∧ ST H h H3 (updW h' D (.dic acc)), fun H3 p' => ⟨kws.length - (i + 1), by omega, rfl, hlt, p'⟩, fun x H3 ⟨T, k2, v, ev2, ex, hT, eH⟩ => ?_⟩
    subst ex eH
    obtain ⟨w', ew', rw'⟩ := rk.getp ev2
    rw [ekw] at ew'
    cases ew'
    have st3 : ST H2 (updW h2 D (.dic acc)) (upd H2 T (.tup [kV k', v])) (updW h2 D (.dic acc)) := .newF hT _
    have hr3 := hr2.newF hT (.tup [kV k', v])
    have rx : RW K (upd H2 T (.tup [kV k', v])) (updW h2 D (.dic acc)) (.ref T) (.tup [wKey k', w]) := .tup (.inl ⟨.inl upd_same, hr2.fresh hT⟩) (.cons (key_rw k') (.cons (rw'.mono (st2.trans st3)) .nil))
    have sr0 := ((S.sr.mono st2).mono st3).wipe js
    refine G _ _ _ _ _ ρ' _ _ rx sr0 eg fun σ2 w2 sr2 => ⟨w2.trans (wipe_idem σ js), ρ', _, _, ⟨sr2, hr3, L.mono (L.mono S.el st2) st3⟩, turn, ?_⟩
    intro b h4 H4 t4 s4 r4
    have tot : ST H h H4 h4 := (st2.trans st3).trans s4
    cases b with
    | false =>
      obtain ⟨h5, sub, n5, p5⟩ := t4
      exact ⟨acc, h5, p5, n5, Nat.le_succ_of_le ha, r4.drop sub, tot.trans (.drop sub)⟩
    | true =>
      have S4 : Sta K L σ2 H4 ρ' h4 := ⟨sr2.mono s4, r4, L.mono (L.mono (L.mono S.el st2) st3) s4⟩
      refine ⟨_, h4, _, S4, t4, fun y h5 v H5 t5 s5 r5 q5 => ?_⟩
      refine ⟨_, h5, _, S4.to s5 r5, t5, fun z h6 u H6 ⟨k3, h7, ek, sub, n7, p7⟩ s6 r6 q6 => ?_⟩
      have hp : h6 D = some (.dic acc) := sub D _ updW_same
      obtain ⟨kvs2, hv, q⟩ := r6 D _ hp
      refine ⟨kvs2, k3, key_at q5 ek, hv, by rw [q.length]; exact Nat.lt_of_le_of_lt (Nat.le_trans ha hi) (sz_lt hz), putW acc k3 z, h7, p7, n7, by have := putW_len acc k3 z; omega, ?_, ?_⟩
      all_goals
        have s7 : ST H6 h6 (upd H6 D (.dK (L2.putK kvs2 k3 u))) (updW h6 D (.dic (putW acc k3 z))) := .mut hp _ _
        have r7 : HR K (upd H6 D (.dK (L2.putK kvs2 k3 u))) (updW h6 D (.dic (putW acc k3 z))) := r6.mut hp ⟨_, upd_same, (q.mono s7).put (q6.mono s7)⟩
        have sub7 : Sub (updW h7 D (.dic (putW acc k3 z))) (updW h6 D (.dic (putW acc k3 z))) := fun b o e => by
          by_cases hb : b = D
          · subst hb; rw [updW_same] at e ⊢; exact e
          · rw [updW_ne hb] at e ⊢
            exact sub b o (by rw [updW_ne hb]; exact e)
      · exact r7.drop sub7
      · exact (((tot.trans s5).trans s6).trans s7).trans (.drop sub7)
  · have e : i = kws.length := by omega
    subst e
    obtain ⟨hd2, q⟩ := fin acc h2 n2 p
    have hd2' : updW h2 D (.dic acc) d = some (.raw (.frz od (.dK kvs))) := by rw [updW_ne Dd.symm]; exact hd2
    have s3 : ST H2 (updW h2 D (.dic acc)) (upd H2 d (.dK kvs)) (updW (updW h2 D (.dic acc)) d (.dic kws)) := .mut hd2' _ _
    exact .inl ⟨⟨hr2 d _ hd2', by rw [rk.length]; exact Nat.le_refl _⟩, hr2 d _ hd2', k _ _ _ _ q (st2.trans s3) (hr2.mut hd2' ⟨kvs, upd_same, rk.mono (st2.trans s3)⟩) (.ref D)⟩
theorem w_dcIt {kx vx e : Expr} {elts : List Expr} {kk : Nat} {tpos apos cpos : Pos} {ifs : List Expr} {scope : Scope} {own : List (Str × Nat)} {te : TEW} {g : TG} {gf : TGF} {tt : TTW} {tk tv : TEW} (hc : X.calm = true) (hN : X.N.Nodup) (G : TgOk X.K (own.map (·.2)) g gf) (he : WE X L e te) (ok : BlkOk X.N X.env.scope scope own)
    (hg : ∀ (s : Shared) (H : Hp) (C : Addr) (cl : List (Str × Addr)) (fp : List Addr), PG (X.blk s H scope (compEnvC scope cl C X.env) fp) (.Tuple elts kk tpos) g) (ht : ∀ (s : Shared) (H : Hp) (C : Addr) (cl : List (Str × Addr)) (fp : List Addr), WTs (X.blk s H scope (compEnvC scope cl C X.env) fp) L ifs tt)
    (hk : ∀ (s : Shared) (H : Hp) (C : Addr) (cl : List (Str × Addr)) (fp : List Addr), WE (X.blk s H scope (compEnvC scope cl C X.env) fp) L kx tk)
    (hv : ∀ (s : Shared) (H : Hp) (C : Addr) (cl : List (Str × Addr)) (fp : List Addr), WE (X.blk s H scope (compEnvC scope cl C X.env) fp) L vx tv)
    (h1 : attributeBase e (Str.ofString "items") X.env (eval e X.env) = eval e X.env := by rfl) (h2 : (apos.endLine == cpos.line) = true := by rfl)
    (hs : ∀ x, foldedSetIterable (.Call (.Attribute e "items" apos) [] [] cpos) X.env x = pure x := by intro _; rfl) :
    WE X L (.DictComp kx vx [⟨.Tuple elts kk tpos, .Call (.Attribute e "items" apos) [] [] cpos, ifs, 0⟩] scope pos) (oDcIt te (own.map (·.2)) gf tt tk tv) := (pe_lock (pe_dc hc hN (pi_items he h1 h2) ok hg ht hk hv hs)).imp (dcIt_imp G)
theorem go_dcT {ti : TIW} {js : List Nat} {gf : TGF} {tt : TTW} {tk tv : TEW} {ρ : SlW} {h : HW} {R : KW} (ws : List W) (ev : ∀ P : List W → HW → Prop, P ws h → ti ρ h P) (hz : ws.length ≤ 16000000) (k : ∀ p, h p = none → ∃ Pv : Nat → List (L2.Key × W) → HW → Prop, Pv 0 [] h ∧
  (∀ i w acc h', ws[i]? = some w → h' p = none → acc.length ≤ i → Pv i acc h' → ∃ ρ', gf w (wipeW ρ js) = some ρ' ∧ tt ρ' (updW h' p (.dic acc)) fun b h3 => if b = true then tk ρ' h3 fun y h4 => tv ρ' h4 fun z h5 => ∃ k h6, keyW y = some k ∧ Sub (updW h6 p (.dic acc)) h5 ∧ h6 p = none ∧ Pv (i + 1) (putW acc k z) h6
    else ∃ h5, Sub (updW h5 p (.dic acc)) h3 ∧ h5 p = none ∧ Pv (i + 1) acc h5) ∧ ∀ acc h', h' p = none → Pv ws.length acc h' → R (.ref p) (updW h' p (.dic acc))) : oDcT ti js gf tt tk tv ρ h R := ev _ ⟨hz, k⟩
theorem putW_eK {xs : List W} {x : W} : putW (eK 0 xs) (.inl ((xs.length : Nat) : Int)) x = eK 0 (xs ++ [x]) := by
  have no : ∀ (ys : List W) (i m : Nat), i + ys.length ≤ m → ((eK i ys).any fun kv => decide (kv.1 = (Sum.inl ((m : Nat) : Int) : L2.Key))) = false := fun ys => by
    induction ys with
    | nil => intro i m _; rfl
    | cons y ys ih =>
      intro i m h
      simp only [List.length_cons] at h
      simp only [eK, List.any_cons, ih (i + 1) m (by omega), Bool.or_false]
      exact decide_eq_false fun z => by have := Sum.inl.inj z; omega
  have ap : ∀ (ys : List W) (i : Nat), eK i ys ++ [(Sum.inl ((i + ys.length : Nat) : Int), x)] = eK i (ys ++ [x]) := fun ys => by
    induction ys with
    | nil => intro i; rfl
    | cons y ys ih =>
      intro i
      simp only [eK, List.cons_append, List.length_cons]
      rw [← ih (i + 1), show i + 1 + ys.length = i + (ys.length + 1) by omega]
  unfold putW
  rw [no xs 0 xs.length (by omega)]
  have := ap xs 0
  rw [Nat.zero_add] at this
  exact this
end
end Wl

set_option Elab.async false
set_option linter.all false
set_option maxRecDepth 100000
namespace Wl
open PySem PySem.Spec PyProof.Rows L2
section
variable {X : Cx} {L : Lk}
theorem ps_setDc {i : Nat} {y : Str} {py : Pos} {kx vx tg iter : Expr} {ifs : List Expr} {scope : Scope} {own : List (Str × Nat)} {pos spos : Pos} {wi : TI} {g : TG} {tt : TT} {tk tv : TE} (hc : X.calm = true) (hN : X.N.Nodup) (hy : X.N[i]? = some y) (hyl : X.env.scope.names.lookup y = some .local)
    (hsw : swapsWith (.DictComp kx vx [⟨tg, iter, ifs, 0⟩] scope pos) (some (.Name y py)) spos.line X.env = pure true) (hi : PI X tg iter wi) (ok : BlkOk X.N X.env.scope scope own)
    (hg : ∀ (s : Shared) (H : Hp) (C : Addr) (cl : List (Str × Addr)) (fp : List Addr), PG (X.blk s H scope (compEnvC scope cl C X.env) fp) tg g) (ht : ∀ (s : Shared) (H : Hp) (C : Addr) (cl : List (Str × Addr)) (fp : List Addr), PTs (X.blk s H scope (compEnvC scope cl C X.env) fp) ifs tt)
    (hk : ∀ (s : Shared) (H : Hp) (C : Addr) (cl : List (Str × Addr)) (fp : List Addr), PE (X.blk s H scope (compEnvC scope cl C X.env) fp) kx tk)
    (hv : ∀ (s : Shared) (H : Hp) (C : Addr) (cl : List (Str × Addr)) (fp : List Addr), PE (X.blk s H scope (compEnvC scope cl C X.env) fp) vx tv) (hs : ∀ x, foldedSetIterable iter X.env x = pure x := by intro _; rfl) :
    PS X (.Assign [.Name y py] (.DictComp kx vx [⟨tg, iter, ifs, 0⟩] scope pos) spos) (tAsg (tDc wi g tt tk tv (own.map (·.2))) (gName i)) := ⟨fun pins s σ H D I h => by
  rw [exec_Assign_Name_used _ _ _ _ hsw, arm_evalThenUse_DictComp]
  have core : wpAny (model X.prog X.w) X.A (comprehension (kx.DictComp vx [⟨tg, iter, ifs, 0⟩] scope pos) scope X.env (firstIterPos [⟨tg, iter, ifs, 0⟩] pos) newDict false (eval iter X.env) (some (assign (.Name y py) X.env)))
      (fun _ s' => ∃ σ' H', L2.Inv X pins σ' H' s' ∧ D.nx σ' H') X.xe s := by
    refine dc_core hc hN I hi ok hg ht hk hv hs h fun Dd C s' m H' I' q ns fp => ?_
    obtain ⟨o, es, ep, ho, hdat, sk, nf⟩ := ns
    have I2 := I'.pinned (fp := [C]) (fun b hb => by cases List.mem_singleton.mp hb; exact fp) (fun b hb => by cases List.mem_singleton.mp hb; exact ⟨o, ho, fun v => by rw [hdat]; intro z; cases z⟩)
    show wpAny _ _ (assign (.Name y py) X.env (Value.ref Dd)) _ _ _
    refine thn ((pg_name (X := X) (pos := py) hN hy (.inl hyl) (.inr hyl)).run _ s' σ H' (.ref Dd) (.ref Dd) D.nx I2 rfl q) ?_
    rintro u s'' ⟨σ', H'', I3, q3⟩
    obtain ⟨p1, p2, p3, p4, p5⟩ := I3.pin (C, o) (List.mem_append_right _ (List.mem_append_right _ (by simp [pinsAt, ho])))
    have I4 := I3.unpinned
    refine ⟨m, ⟨o, es, ep, p1, hdat, sk, nf⟩, fun h' sm => ⟨σ', H'', I4.turnedL (ch := [C]) (fun b o hb e => ?_) (fun b hb => ?_), q3⟩⟩
    · rw [sm.2 b (fun z => hb (by rw [z]; exact List.mem_singleton_self _))]; exact e
    · cases List.mem_singleton.mp hb
      exact ⟨p2, p3, p4, fp.2.2.2⟩
  refine wpAny_bind (wpAny_standAt ?_)
  refine wpAny_bind (wpAny_bind (thn core ?_))
  intro u s' q
  exact wpAny_pure (wpAny_pure q)⟩
theorem sw_trueD {kx vx : Expr} {gs : List Comprehension} {scope : Scope} {pos py : Pos} {y : Str} {l : Nat} {env : Env} (a : env.scope.kind = .function) (b : env.scope.names.lookup y = some .local) (c : (py.line == pos.line) = true)
    (d : (scope.names.any fun (n, k) => n == y && (k == .local || k == .cell)) = false) : swapsWith (.DictComp kx vx gs scope pos) (some (.Name y py)) l env = pure true :=
  show swapsWith (.ListComp kx gs scope pos) (some (.Name y py)) l env = pure true from sw_true a b c d
theorem ws_setDcT {i : Nat} {y : Str} {py : Pos} {kx vx tg iter : Expr} {ifs : List Expr} {scope : Scope} {own : List (Str × Nat)} {pos spos : Pos} {ti : TIW} {g : TG} {gf : TGF} {tt : TTW} {tk tv : TEW} (hc : X.calm = true) (hN : X.N.Nodup) (hy : X.N[i]? = some y) (hyl : X.env.scope.names.lookup y = some .local)
    (hsw : swapsWith (.DictComp kx vx [⟨tg, iter, ifs, 0⟩] scope pos) (some (.Name y py)) spos.line X.env = pure true) (G : TgOk X.K (own.map (·.2)) g gf) (hi : WI X L tg iter ti) (ok : BlkOk X.N X.env.scope scope own)
    (hg : ∀ (s : Shared) (H : Hp) (C : Addr) (cl : List (Str × Addr)) (fp : List Addr), PG (X.blk s H scope (compEnvC scope cl C X.env) fp) tg g) (ht : ∀ (s : Shared) (H : Hp) (C : Addr) (cl : List (Str × Addr)) (fp : List Addr), WTs (X.blk s H scope (compEnvC scope cl C X.env) fp) L ifs tt)
    (hk : ∀ (s : Shared) (H : Hp) (C : Addr) (cl : List (Str × Addr)) (fp : List Addr), WE (X.blk s H scope (compEnvC scope cl C X.env) fp) L kx tk)
    (hv : ∀ (s : Shared) (H : Hp) (C : Addr) (cl : List (Str × Addr)) (fp : List Addr), WE (X.blk s H scope (compEnvC scope cl C X.env) fp) L vx tv) (hs : ∀ x, foldedSetIterable iter X.env x = pure x := by intro _; rfl) :
    WS X L (.Assign [.Name y py] (.DictComp kx vx [⟨tg, iter, ifs, 0⟩] scope pos) spos) (sAsg (oDcT ti (own.map (·.2)) gf tt tk tv) (gN i)) := (ps_setDc hc hN hy hyl hsw hi ok hg ht hk hv hs).imp fun D σ H ⟨ρ, h, DW, S, t, k⟩ =>
  dcT_imp G σ H _ ⟨ρ, h, _, S, t, fun w1 h1 v1 H1 t1 s1 r1 q1 => k.nx _ h1 _ H1 t1 s1 r1 ((S.sr.mono s1).set q1 i)⟩
end
end Wl

set_option Elab.async false
set_option linter.all false
set_option maxRecDepth 100000
namespace Wl
open PySem PySem.Spec PyProof.Rows L2
/-! ## try: y = C(..) except S as n -/
def tMakeS (C : Addr) (sp : Sp) (E : L2.St → XK) (t : TA) : TE := fun σ H Q => t σ H fun vs H1 => ∀ x dx, H1 x = none → H1 dx = none → dx ≠ x →
  sp (.ref x :: vs) (upd (upd H1 dx (.own x)) x (.ins C dx [])) (fun v H2 => v = .non ∧ Q (.ref x) H2) (E σ)
section
variable {X : Cx} {CX : CXT} {k : Nat} {f C : Addr} {fd : FuncData} {ps : List Str} {sp : Sp} {E : L2.St → XK} {x : Str} {p pos : Pos} {e : Expr} {es : List Expr} {t : TA}
theorem run_makeAt {pins : List (Addr × Obj)} {σ : L2.St} {H : Hp} {s : Shared} {Q : VK} {us : List Value} {vs : List V} (M : Mk X.K C f) (F : FnOk X.prog X.w X.K X.mg X.base CX k f fd ps sp) (hr : Room (k + 1) X.A) (hb : Binds X.K fd ps []) (hx : PassesAt CX X σ (E σ))
    (I : Inv X pins σ H s) (r : Vals vs us) (h : ∀ x dx, H x = none → H dx = none → dx ≠ x → sp (.ref x :: vs) (upd (upd H dx (.own x)) x (.ins C dx [])) (fun v H2 => v = .non ∧ Q (.ref x) H2) (E σ)) :
    wpAny (model X.prog X.w) X.A (call (.ref C) us) (EP X pins σ Q) X.xe s := by
  obtain ⟨d, ed⟩ : ∃ d, d = s.heap.objs.size := ⟨_, rfl⟩
  have hq := h (d + 1) d (by rw [ed]; exact I.hok.fresh (Nat.le_succ _)) (by rw [ed]; exact I.hok.fresh (Nat.le_refl _)) (Nat.ne_of_lt (Nat.lt_succ_self _))
  have I2 := Inv.made (C := C) I
  rw [ed] at hq
  have rr : Vals (V.ref (s.heap.objs.size + 1) :: vs) (Value.ref (s.heap.objs.size + 1) :: us) := .cons rfl r
  have ln : (Value.ref (s.heap.objs.size + 1) :: us).length = ps.length := by rw [← rr.length]; exact F.len _ _ _ _ hq
  have bd := hb _ (Value.ref (s.heap.objs.size + 1) :: us) I2.kIn (by rw [List.append_nil]; exact ln)
  rw [List.append_nil] at bd
  refine wpAny_call (make_map (f := f) I.kIn M.makes M.init (beq_iff_eq.mp M.fn) (codeAny_mono (F.run _ X.stack _ _ ⟨_, []⟩ _ _ _ (E σ) (hr.make C us []) (I2.env0.make C us []) bd rr hq) fun o s' out => ?_))
  cases o with
  | error u => exact hx pins _ _ u s' I2 out
  | ok fl => cases fl with
    | next => exact out.elim
    | brk => exact out.elim
    | cont => exact out.elim
    | ret u =>
      obtain ⟨v, H', I3, rv, ev, q3⟩ := I2.after out
      rw [ev] at rv
      exact ⟨rv, V.ref (s.heap.objs.size + 1), H', I3, rfl, q3⟩
theorem pe_makeS (M : Mk X.K C f) (F : FnOk X.prog X.w X.K X.mg X.base CX k f fd ps sp) (hr : Room (k + 1) X.A) (hg : Gl X x) (hm : X.mg x = some (.ref C)) (hb : Binds X.K fd ps []) (hx : ∀ σ, PassesAt CX X σ (E σ)) (ha : PA X (e :: es) t)
    (hdb : (x == ("__debug__" : Str)) = false := by decide) (he : starEach (e :: es) X.env = (false, eval e X.env) :: starEach es X.env := by rfl) (hpl : (backTo pos (starEach es X.env)).any (·.1) = false := by rfl) :
    PE X (.Call (.Name x p) (e :: es) [] pos) (tMakeS C sp E t) := ⟨fun pins s σ H Q I h =>
  wpAny_Call_Name_kw (ld_glob I hg hm (PySem.W.callWith_K (h₀ := X.base) I.ok.mod.kin M.kp (thn (ha.run pos pins s σ H _ I h) fun us s1 ⟨vs, H1, I1, r, q⟩ => ⟨I1.kIn, run_makeAt M F hr hb (hx σ) I1 r q⟩) he hpl) hdb)⟩
end
section
variable {X : Cx} {K : PySem.W.Frag}
def sTryM (K : PySem.W.Frag) (S C : Addr) (sp : SpW) (t : TAW) (j i : Nat) (tsu : Addr → Addr → TSW) : TSW := fun D ρ h => t ρ h fun ws h1 => makeK C sp (fun x h2 => x.fs = none ∧ ExcC K x.C ∧ PySem.W.exmOne K (.ref x.C) (.ref S) = some true ∧ ∀ a, tsu x.C a (D.sx i) (ρ.set i (some (.ref a))) h2) ws h1 fun w h2 => D.nx (ρ.set j (some w)) h2
variable {x n fx : Str} {S C f : Addr} {i k : Nat} {b₀ : Stmt} {suite : List Stmt} {np pos pos' epos p cpos : Pos} {fd : FuncData} {ps : List Str} {sp : SpW} {e : Expr} {es : List Expr} {t : TAW} {tsu : Addr → Addr → TSW}
theorem ws_tryM {j : Nat} {y : Str} {yp : Pos} (hs : X.stack = X.env :: X.outer) (hf : X.env.frame = some X.env.locals) (hN : X.N.Nodup) (hi : X.N[i]? = some n) (hln : X.env.kindOf n = some .local) (hc : Names X x (.ref S))
    (hj : X.N[j]? = some y) (hy : X.env.scope.names.lookup y = some .local) (M : Mk X.K C f)
    (F : FnOk X.prog X.w X.K X.mg X.base (L2.CX X.prog X.w) k f fd ps (lSp X.K sp)) (hr : Room (k + 1) X.A) (hg : Gl X fx) (hm : X.mg fx = some (.ref C)) (hb : Binds X.K fd ps [])
    (ha : ∀ pn xe, WA (X.tr pn xe) Lk.no (e :: es) t)
    (hsu : ∀ (C a : Addr) (oe : Obj) (pn : List (Addr × Obj)), ExcC X.K C → Zc (.ref C) none oe → (∃ vs, oe.data = .fields vs) → WSs (X.suite a ((a, oe) :: pn)) Lk.no (b₀ :: suite) (tsu C a))
    (hdb : (fx == ("__debug__" : Str)) = false := by decide) (he : starEach (e :: es) X.env = (false, eval e X.env) :: starEach es X.env := by rfl) (hpl : (backTo cpos (starEach es X.env)).any (·.1) = false := by rfl)
    (hsw : swapsWith (.Call (.Name fx p) (e :: es) [] cpos) (some (.Name y yp)) epos.line X.env = pure false := by rfl) :
    WS X Lk.no (.Try [.Assign [.Name y yp] (.Call (.Name fx p) (e :: es) [] cpos) epos] [.ExceptHandler (some (.Name x np)) (some n) (b₀ :: suite) pos'] [] [] pos) (sTryM X.K S C sp t j i tsu) :=
  (ps_try_as (tb := fun W => tAsg (tMakeS C (lSp X.K sp) (L2.WE W) (lA X.K Lk.no t)) (gName j)) (ts := fun a cls d => fun D σ H => ∃ C : Addr, cls = .ref C ∧ d = none ∧ ExcC X.K C ∧ lS X.K Lk.no (tsu C a) D σ H) (Wout := fun _ _ _ _ => False) hs hf hN hi hln hc
    (fun _ _ z => by obtain ⟨_, _, _, _, _, _, _, _, _, _, _, _, _, _, _, _, z⟩ := z; exact z.elim)
    (fun W pn xe tk _ => pss_one (ps_set (X := X.tr pn xe) hN hj (.inl hy) (pe_makeS (X := X.tr pn xe) M F hr hg hm hb (fun σ => passAt tk σ) (ha pn xe) hdb he hpl) hsw (.inr hy)))
    (fun a oe cls d pn hz hf => ⟨fun pins s σ H D I ⟨C, ec, ed, ex, q⟩ => by subst ec ed; exact (hsu C a oe pn ex hz hf).run pins s σ H D I q⟩)).imp fun D σ H ⟨ρ, h, DW, S1, t1, kd⟩ => by
    refine ⟨ρ, h, _, S1, t1, fun ws h1 vs H1 q s1 r1 rws z dz ez ed ne => ?_⟩
    have kv : KV X.K H1 h1 (fun w h2 => DW.nx (ρ.set j (some w)) h2) fun v H2 => D.nx (σ.set j (some v)) H2 := fun w h2 v H2 r st hr rw => kd.nx _ h2 _ H2 r (s1.trans st) hr ((S1.sr.mono (s1.trans st)).set rw j)
    have := make_sp rws r1 q kv (try_el S1 kd s1) z dz ez ed
    rw [List.append_nil] at this
    exact this
theorem go_tryM {ρ : SlW} {h : HW} {D : EndsW} {j : Nat} (k : t ρ h fun ws h1 => makeK C sp (fun x h2 => x.fs = none ∧ ExcC K x.C ∧ PySem.W.exmOne K (.ref x.C) (.ref S) = some true ∧ ∀ a, tsu x.C a (D.sx i) (ρ.set i (some (.ref a))) h2) ws h1 fun w h2 => D.nx (ρ.set j (some w)) h2) : sTryM K S C sp t j i tsu D ρ h := k
theorem go_makeK {ex : XW → HW → Prop} {h : HW} {R : KW} {ws : List W} (k : ∀ x, h x = none → sp (.ref x :: ws) (updW h x (.ins C [])) (fun w h2 => w = .non ∧ R (.ref x) h2) ex) : makeK C sp ex ws h R := k
end
/-! ## xs + ys, the new list owned -/
section
variable {K : PySem.W.Frag} {H : Hp} {h : HW} {R : KW}
def catOW : RW2 := fun x y h R => ∃ xs ys, itemsL x h = some xs ∧ itemsL y h = some ys ∧ xs.length + ys.length ≤ 16000000 ∧ ∀ p, h p = none → R (.ref p) (updW h p (.lst (xs ++ ys)))
where itemsL (x : W) (h : HW) : Option (List W) := match x with
  | .lst ws => some ws
  | .ref p => (match h p with | some (.lst ws) => some ws | _ => none)
  | _ => none
theorem itemsL_at {v : V} {x : W} {xs : List W} (hr : HR K H h) (r : RW K H h v x) (e : catOW.itemsL x h = some xs) : ∃ a vs, v = .ref a ∧ H a = some (.lst vs) ∧ RWs K H h vs xs := by
  unfold catOW.itemsL at e
  split at e
  · cases e
    cases r with
    | lst f q => exact ⟨_, _, rfl, f.1, q⟩
  · split at e
    · rename_i he
      cases e
      cases r
      obtain ⟨vs, hv, q⟩ := hr _ _ he
      exact ⟨_, vs, rfl, hv, q⟩
    · cases e
  · cases e
theorem lf_catO : Lf2 K rCat catOW := fun x y H Q w1 w2 h R r1 r2 hr ⟨xs, ys, e1, e2, hz, t⟩ k => by
  obtain ⟨a, vs, rfl, ha, q1⟩ := itemsL_at hr r1 e1
  obtain ⟨b, us, rfl, hb, q2⟩ := itemsL_at hr r2 e2
  exact ⟨_, _, _, _, rfl, rfl, ha, hb, by rw [q1.length, q2.length]; exact sz_big hz, fun p hp => k.lstO hr (q1.append q2) t hp⟩
theorem go_catOL {p : Addr} {xs ys : List W} (hp : h p = some (.lst xs)) (hz : xs.length + ys.length ≤ 16000000) (k : ∀ p, h p = none → R (.ref p) (updW h p (.lst (xs ++ ys)))) : catOW (.ref p) (.lst ys) h R := ⟨xs, ys, by unfold catOW.itemsL; dsimp only; rw [hp], rfl, hz, k⟩
theorem go_catLL {xs ys : List W} (hz : xs.length + ys.length ≤ 16000000) (k : ∀ p, h p = none → R (.ref p) (updW h p (.lst (xs ++ ys)))) : catOW (.lst xs) (.lst ys) h R := ⟨xs, ys, rfl, rfl, hz, k⟩
theorem go_catOO {p p2 : Addr} {xs ys : List W} (hp : h p = some (.lst xs)) (hp2 : h p2 = some (.lst ys)) (hz : xs.length + ys.length ≤ 16000000) (k : ∀ p, h p = none → R (.ref p) (updW h p (.lst (xs ++ ys)))) : catOW (.ref p) (.ref p2) h R := ⟨xs, ys, by unfold catOW.itemsL; dsimp only; rw [hp], by unfold catOW.itemsL; dsimp only; rw [hp2], hz, k⟩
end
/-! ## list(x), the new list owned: x may be owned -/
section
variable {K : PySem.W.Frag} {h : HW} {R : KW}
def listCW : List W → HW → KW → Prop := fun ws h R => ∃ x xs, ws = [x] ∧ itemsW x h = some xs ∧ ∀ p, h p = none → R (.ref p) (updW h p (.lst xs))
theorem lf_listC : LfC K (fun xs H Q => ∃ p ys, xs = [.ref p] ∧ (SqL K H p ys ∨ SqT K H p ys) ∧ ∀ l, H l = none → Q (.ref l) (upd H l (.lst ys))) listCW := fun xs H Q ws h R r hr ⟨x, us, e, ei, t⟩ k => by
  subst e
  obtain ⟨v, rfl, q⟩ := r.one
  obtain ⟨a, ys, rfl, sq, ry⟩ := items_at hr q ei
  exact ⟨a, ys, rfl, sq.symm, fun l hl => k.lstO hr ry t hl⟩
theorem go_listCO {p : Addr} {xs : List W} (hp : h p = some (.lst xs)) (k : ∀ p, h p = none → R (.ref p) (updW h p (.lst xs))) : listCW [.ref p] h R := ⟨_, xs, rfl, items_ref hp, k⟩
theorem go_listCL {xs : List W} (k : ∀ p, h p = none → R (.ref p) (updW h p (.lst xs))) : listCW [.lst xs] h R := ⟨_, xs, rfl, rfl, k⟩
end
/-! ## [elt for x in xs if ..]: xs is owned and stays so -/
section
variable {X : Cx} {L : Lk}
def oLcO (ti : TEW) (j : Nat) (tt : TTW) (te : TEW) : TEW := fun ρ h R => ti ρ h fun x h1 => ∃ ws, listAt x h1 ws ∧ ws.length ≤ 16000000 ∧ ∀ p, h1 p = none → ∃ Pv : Nat → List W → HW → Prop, Pv 0 [] h1 ∧ (∀ i acc h', Pv i acc h' → listAt x h' ws) ∧
  (∀ i w acc h', ws[i]? = some w → h' p = none → acc.length ≤ i → Pv i acc h' → tt (ρ.set j (some w)) (updW h' p (.lst acc)) fun b h3 => if b = true then te (ρ.set j (some w)) h3 fun y h4 => ∃ h5, Sub (updW h5 p (.lst acc)) h4 ∧ h5 p = none ∧ Pv (i + 1) (acc ++ [y]) h5
    else ∃ h5, Sub (updW h5 p (.lst acc)) h3 ∧ h5 p = none ∧ Pv (i + 1) acc h5) ∧ ∀ acc h', h' p = none → Pv ws.length acc h' → R (.lst acc) h'
theorem listAt_new {x : W} {h : HW} {ws : List W} {p : Addr} {o : OW} (e : listAt x h ws) (n : h p = none) : listAt x (updW h p o) ws := by
  unfold listAt at *
  split at e
  · exact e
  · rename_i a
    show updW h p o a = _
    rw [updW_ne (fun z => by rw [z, n] at e; cases e)]; exact e
  · exact e
theorem lcO_imp {K : PySem.W.Frag} {ti : TEW} {j : Nat} {tt : TTW} {te : TEW} : ∀ σ H Q, lE K L (oLcO ti j tt te) σ H Q → tLc (iList K (lE K L ti)) (gName j) (lT K L tt) (lE K L te) [j] σ H Q := fun σ H Q ⟨ρ, h, R, S, t, k⟩ =>
  ⟨ρ, h, _, S, t, fun x h1 v H1 ⟨ws, la, hz, t1⟩ s1 r1 q1 => by
    obtain ⟨a, ev, sq⟩ := listAt_sq q1 la
    subst ev
    obtain ⟨vs0, hv0, _⟩ := sq H1 h1 (.refl _ _) r1 la
    refine ⟨a, rfl, ⟨vs0, hv0⟩, fun D hD => ?_⟩
    obtain ⟨Pv, p0, keep, turn, fin⟩ := t1 D (r1.fresh hD)
    refine ⟨fun i m H2 => m = ws.length - i ∧ i ≤ ws.length ∧ ∃ acc h', Pv i acc h' ∧ h' D = none ∧ acc.length ≤ i ∧ HR K H2 (updW h' D (.lst acc)) ∧ ST H1 h1 H2 (updW h' D (.lst acc)), ⟨_, rfl, Nat.zero_le _, [], h1, p0, r1.fresh hD, Nat.le_refl _, r1.newO hD ⟨[], upd_same, .nil⟩, .newO hD _ _⟩, ?_⟩
    rintro i m H2 ⟨rfl, hi, acc, h2, pv, n2, ha, hr2, st2⟩
    obtain ⟨vs, hv, rvs⟩ := sq H2 _ st2 hr2 (listAt_new (keep i acc h2 pv) n2)
    by_cases hlt : i < ws.length
    · have hw : ws[i]? = some ws[i] := List.getElem?_eq_getElem hlt
      obtain ⟨v, e1, rv⟩ := rvs.get hw
      refine .inr ⟨⟨vs, v, hv, e1⟩, fun H3 => ∃ acc h', Pv (i + 1) acc h' ∧ h' D = none ∧ acc.length ≤ i + 1 ∧ HR K H3 (updW h' D (.lst acc)) ∧ ST H1 h1 H3 (updW h' D (.lst acc)), fun H3 p' => ⟨ws.length - (i + 1), by omega, rfl, hlt, p'⟩, fun u H3 ⟨eH, y⟩ => ?_⟩
      subst eH
      have y := y vs hv
      rw [e1] at y
      cases y
      show wipe ((wipe σ [j]).set j (some v)) [j] = wipe σ [j] ∧ _
      refine ⟨by show ((σ.set j none).set j (some v)).set j none = σ.set j none; rw [List.set_set, List.set_set], ρ.set j (some ws[i]), _, _, ⟨?_, hr2, L.mono (L.mono S.el s1) st2⟩, turn i _ acc h2 hw n2 ha pv, ?_⟩
      · show SR K H3 _ ((σ.set j none).set j (some v)) _
        rw [List.set_set]
        exact ((S.sr.mono s1).mono st2).set rv j
      · intro b h4 H4 t4 s4 r4
        have tot : ST H1 h1 H4 h4 := st2.trans s4
        cases b with
        | false =>
          obtain ⟨h5, sub, n5, p5⟩ := t4
          exact ⟨acc, h5, p5, n5, Nat.le_succ_of_le ha, r4.drop sub, tot.trans (.drop sub)⟩
        | true =>
          refine ⟨_, h4, _, ⟨?_, r4, L.mono (L.mono (L.mono S.el s1) st2) s4⟩, t4, fun z h5 v5 H5 ⟨h6, sub, n6, p6⟩ s5 r5 q5 => ?_⟩
          · show SR K H4 _ ((σ.set j none).set j (some v)) _
            rw [List.set_set]
            exact (((S.sr.mono s1).mono st2).mono s4).set (rv.mono s4) j
          · have hp : h5 D = some (.lst acc) := sub D _ updW_same
            obtain ⟨us, hu, qu⟩ := r5 D _ hp
            have s6 : ST H5 h5 (upd H5 D (.lst (us ++ [v5]))) (updW h5 D (.lst (acc ++ [z]))) := .mut hp _ _
            have r6 : HR K (upd H5 D (.lst (us ++ [v5]))) (updW h5 D (.lst (acc ++ [z]))) := r5.mut hp ⟨_, upd_same, ((qu.mono s6).append (.cons (q5.mono s6) .nil))⟩
            have sub6 : Sub (updW h6 D (.lst (acc ++ [z]))) (updW h5 D (.lst (acc ++ [z]))) := fun b o e => by
              by_cases hb : b = D
              · subst hb; rw [updW_same] at e ⊢; exact e
              · rw [updW_ne hb] at e ⊢
                exact sub b o (by rw [updW_ne hb]; exact e)
            exact ⟨us, hu, by rw [qu.length]; exact Nat.lt_of_le_of_lt (Nat.le_trans ha hi) (sz_lt hz), acc ++ [z], h6, p6, n6, by rw [List.length_append]; exact Nat.succ_le_succ ha, r6.drop sub6, ((tot.trans s5).trans s6).trans (.drop sub6)⟩
    · have e : i = ws.length := by omega
      subst e
      obtain ⟨us, hu, qu⟩ := hr2 D _ updW_same
      have sub : Sub h2 (updW h2 D (.lst acc)) := .new n2
      exact .inl ⟨⟨vs, hv, by rw [rvs.length]; exact Nat.le_refl _⟩, k _ h2 _ H2 (fin acc h2 n2 pv) ((s1.trans st2).trans (.drop sub)) (hr2.drop sub) (.lst ⟨hu, n2⟩ (qu.mono (.drop sub)))⟩⟩
theorem w_lcO {elt tg iter : Expr} {ifs : List Expr} {scope : Scope} {x : Str} {j : Nat} {pos : Pos} {ti : TEW} {tt : TTW} {te : TEW} (hc : X.calm = true) (hN : X.N.Nodup) (hi : WE X L iter ti) (ok : BlkOk X.N X.env.scope scope [(x, j)])
    (hg : ∀ (s : Shared) (H : Hp) (C : Addr) (cl : List (Str × Addr)) (fp : List Addr), PG (X.blk s H scope (compEnvC scope cl C X.env) fp) tg (gName j)) (ht : ∀ (s : Shared) (H : Hp) (C : Addr) (cl : List (Str × Addr)) (fp : List Addr), WTs (X.blk s H scope (compEnvC scope cl C X.env) fp) L ifs tt)
    (he : ∀ (s : Shared) (H : Hp) (C : Addr) (cl : List (Str × Addr)) (fp : List Addr), WE (X.blk s H scope (compEnvC scope cl C X.env) fp) L elt te) (hs : ∀ x, foldedSetIterable iter X.env x = pure x := by intro _; rfl) :
    WE X L (.ListComp elt [⟨tg, iter, ifs, 0⟩] scope pos) (oLcO ti j tt te) := (pe_lc hc hN (pi_list hi) ok hg ht he hs).imp lcO_imp
theorem ws_setLcO {i : Nat} {y : Str} {py : Pos} {elt tg iter : Expr} {ifs : List Expr} {scope : Scope} {x : Str} {j : Nat} {pos spos : Pos} {ti : TEW} {tt : TTW} {te : TEW} (hc : X.calm = true) (hN : X.N.Nodup) (hy : X.N[i]? = some y) (hyl : X.env.scope.names.lookup y = some .local)
    (hsw : swapsWith (.ListComp elt [⟨tg, iter, ifs, 0⟩] scope pos) (some (.Name y py)) spos.line X.env = pure true) (hi : WE X L iter ti) (ok : BlkOk X.N X.env.scope scope [(x, j)])
    (hg : ∀ (s : Shared) (H : Hp) (C : Addr) (cl : List (Str × Addr)) (fp : List Addr), PG (X.blk s H scope (compEnvC scope cl C X.env) fp) tg (gName j)) (ht : ∀ (s : Shared) (H : Hp) (C : Addr) (cl : List (Str × Addr)) (fp : List Addr), WTs (X.blk s H scope (compEnvC scope cl C X.env) fp) L ifs tt)
    (he : ∀ (s : Shared) (H : Hp) (C : Addr) (cl : List (Str × Addr)) (fp : List Addr), WE (X.blk s H scope (compEnvC scope cl C X.env) fp) L elt te) (hs : ∀ x, foldedSetIterable iter X.env x = pure x := by intro _; rfl) :
    WS X L (.Assign [.Name y py] (.ListComp elt [⟨tg, iter, ifs, 0⟩] scope pos) spos) (sAsg (oLcO ti j tt te) (gN i)) := (ps_setLc hc hN hy hyl hsw (pi_list hi) ok hg ht he hs).imp fun D σ H ⟨ρ, h, DW, S, t, k⟩ =>
  lcO_imp σ H _ ⟨ρ, h, _, S, t, fun w1 h1 v1 H1 t1 s1 r1 q1 => k.nx _ h1 _ H1 t1 s1 r1 ((S.sr.mono s1).set q1 i)⟩
/-- .. whose elements change nothing -/
theorem go_lcO {ti : TEW} {j : Nat} {te : TEW} {ρ : SlW} {h : HW} {R : KW} {x : W} (ws fs : List W) (ev : ∀ R : KW, R x h → ti ρ h R) (hx : listAt x h ws) (hl : fs.length = ws.length) (hz : ws.length ≤ 16000000)
    (el : ∀ (i : Nat) (w y : W) (p : Addr) (acc : List W) (R' : KW), ws[i]? = some w → fs[i]? = some y → h p = none → R' y (updW h p (.lst acc)) → te (ρ.set j (some w)) (updW h p (.lst acc)) R') (k : R (.lst fs) h) : oLcO ti j oYes te ρ h R := by
  refine ev _ ⟨ws, hx, hz, fun p hp => ⟨fun i acc h' => acc = fs.take i ∧ h' = h, ⟨rfl, rfl⟩, fun i acc h' ⟨_, e⟩ => by rw [e]; exact hx, ?_, ?_⟩⟩
  · rintro i w acc h' e n la ⟨rfl, rfl⟩
    have lt : i < fs.length := by rw [hl]; exact (List.getElem?_eq_some_iff.mp e).1
    refine go_yes ?_
    rw [if_pos rfl]
    refine el i w _ p _ _ e (List.getElem?_eq_getElem lt) hp ⟨_, .refl _, hp, ?_, rfl⟩
    rw [List.take_add_one, List.getElem?_eq_getElem lt]; rfl
  · rintro acc h' n ⟨rfl, rfl⟩
    rw [← hl, List.take_length]; exact k
end
/-! ## [elt for x in .. if ..]: the new list is owned -/
section
variable {X : Cx} {L : Lk}
def oLcN (ti : TIW) (j : Nat) (tt : TTW) (te : TEW) : TEW := fun ρ h R => ti ρ h fun ws h1 => ws.length ≤ 16000000 ∧ ∀ p, h1 p = none → ∃ Pv : Nat → List W → HW → Prop, Pv 0 [] h1 ∧
  (∀ i w acc h', ws[i]? = some w → h' p = none → acc.length ≤ i → Pv i acc h' → tt (ρ.set j (some w)) (updW h' p (.lst acc)) fun b h3 => if b = true then te (ρ.set j (some w)) h3 fun y h4 => ∃ h5, Sub (updW h5 p (.lst acc)) h4 ∧ h5 p = none ∧ Pv (i + 1) (acc ++ [y]) h5
    else ∃ h5, Sub (updW h5 p (.lst acc)) h3 ∧ h5 p = none ∧ Pv (i + 1) acc h5) ∧ ∀ acc h', h' p = none → Pv ws.length acc h' → R (.ref p) (updW h' p (.lst acc))
theorem lcN_imp {K : PySem.W.Frag} {ti : TIW} {j : Nat} {tt : TTW} {te : TEW} : ∀ σ H Q, lE K L (oLcN ti j tt te) σ H Q → tLc (lI K L ti) (gName j) (lT K L tt) (lE K L te) [j] σ H Q := fun σ H Q ⟨ρ, h, R, S, t, k⟩ =>
  ⟨ρ, h, _, S, t, fun ws h1 J H1 ⟨hz, t1⟩ s1 r1 I D hD => by
    obtain ⟨Pv, p0, turn, fin⟩ := t1 D (r1.fresh hD)
    have w0 : wipe σ [j] = σ.set j none := rfl
    refine ⟨fun i m H2 => m = ws.length - i ∧ i ≤ ws.length ∧ ∃ acc h', Pv i acc h' ∧ h' D = none ∧ acc.length ≤ i ∧ HR K H2 (updW h' D (.lst acc)) ∧ ST H1 h1 H2 (updW h' D (.lst acc)), ⟨_, rfl, Nat.zero_le _, [], h1, p0, r1.fresh hD, Nat.le_refl _, ?_, .newO hD _ _⟩, ?_⟩
    · exact r1.newO hD ⟨[], upd_same, .nil⟩
    · rintro i m H2 ⟨rfl, hi, acc, h2, p, n2, ha, hr2, st2⟩
      by_cases hlt : i < ws.length
      · have hw : ws[i]? = some ws[i] := List.getElem?_eq_getElem hlt
        obtain ⟨go, yl⟩ := I.step i H2 _ ws[i] st2 hr2 hw
        refine .inr ⟨go, fun H3 => ∃ acc h', Pv (i + 1) acc h' ∧ h' D = none ∧ acc.length ≤ i + 1 ∧ HR K H3 (updW h' D (.lst acc)) ∧ ST H1 h1 H3 (updW h' D (.lst acc)), fun H3 p' => ⟨ws.length - (i + 1), by omega, rfl, hlt, p'⟩, fun x H3 y => ?_⟩
        obtain ⟨st3, hr3, rx⟩ := yl x H3 y
        show wipe ((wipe σ [j]).set j (some x)) [j] = wipe σ [j] ∧ _
        refine ⟨by show ((σ.set j none).set j (some x)).set j none = σ.set j none; rw [List.set_set, List.set_set], ρ.set j (some ws[i]), _, _, ?_, turn i _ acc h2 hw n2 ha p, ?_⟩
        · refine ⟨?_, hr3, L.mono (L.mono (L.mono S.el s1) st2) st3⟩
          show SR K H3 _ ((σ.set j none).set j (some x)) _
          rw [List.set_set]
          exact (((S.sr.mono s1).mono st2).mono st3).set rx j
        · intro b h4 H4 t4 s4 r4
          have tot : ST H1 h1 H4 h4 := (st2.trans st3).trans s4
          cases b with
          | false =>
            obtain ⟨h5, sub, n5, p5⟩ := t4
            exact ⟨acc, h5, p5, n5, Nat.le_succ_of_le ha, r4.drop sub, tot.trans (.drop sub)⟩
          | true =>
            refine ⟨_, h4, _, ⟨?_, r4, L.mono (L.mono (L.mono (L.mono S.el s1) st2) st3) s4⟩, t4, fun y h5 v H5 ⟨h6, sub, n6, p6⟩ s5 r5 q5 => ?_⟩
            · show SR K H4 _ ((σ.set j none).set j (some x)) _
              rw [List.set_set]
              exact ((((S.sr.mono s1).mono st2).mono st3).mono s4).set (rx.mono s4) j
            · have hp : h5 D = some (.lst acc) := sub D _ updW_same
              obtain ⟨vs, hv, q⟩ := r5 D _ hp
              refine ⟨vs, hv, by rw [q.length]; exact Nat.lt_of_le_of_lt (Nat.le_trans ha hi) (sz_lt hz), acc ++ [y], h6, p6, n6, by rw [List.length_append]; exact Nat.succ_le_succ ha, ?_, ?_⟩
              all_goals
                have s6 : ST H5 h5 (upd H5 D (.lst (vs ++ [v]))) (updW h5 D (.lst (acc ++ [y]))) := .mut hp _ _
                have r6 : HR K (upd H5 D (.lst (vs ++ [v]))) (updW h5 D (.lst (acc ++ [y]))) := r5.mut hp ⟨_, upd_same, ((q.mono s6).append (.cons (q5.mono s6) .nil))⟩
                have sub6 : Sub (updW h6 D (.lst (acc ++ [y]))) (updW h5 D (.lst (acc ++ [y]))) := fun b o e => by
                  by_cases hb : b = D
                  · subst hb; rw [updW_same] at e ⊢; exact e
                  · rw [updW_ne hb] at e ⊢
                    exact sub b o (by rw [updW_ne hb]; exact e)
              · exact r6.drop sub6
              · exact ((tot.trans s5).trans s6).trans (.drop sub6)
      · have e : i = ws.length := by omega
        subst e
        obtain ⟨vs, hv, q⟩ := hr2 D _ updW_same
        exact .inl ⟨I.stop _ H2 _ st2 hr2 (Nat.le_refl _), k _ _ _ H2 (fin acc h2 n2 p) (s1.trans st2) hr2 (.ref D)⟩⟩
theorem w_lcN {elt tg iter : Expr} {ifs : List Expr} {scope : Scope} {x : Str} {j : Nat} {pos : Pos} {ti : TIW} {tt : TTW} {te : TEW} (hc : X.calm = true) (hN : X.N.Nodup) (hi : WI X L tg iter ti) (ok : BlkOk X.N X.env.scope scope [(x, j)])
    (hg : ∀ (s : Shared) (H : Hp) (C : Addr) (cl : List (Str × Addr)) (fp : List Addr), PG (X.blk s H scope (compEnvC scope cl C X.env) fp) tg (gName j)) (ht : ∀ (s : Shared) (H : Hp) (C : Addr) (cl : List (Str × Addr)) (fp : List Addr), WTs (X.blk s H scope (compEnvC scope cl C X.env) fp) L ifs tt)
    (he : ∀ (s : Shared) (H : Hp) (C : Addr) (cl : List (Str × Addr)) (fp : List Addr), WE (X.blk s H scope (compEnvC scope cl C X.env) fp) L elt te) (hs : ∀ x, foldedSetIterable iter X.env x = pure x := by intro _; rfl) :
    WE X L (.ListComp elt [⟨tg, iter, ifs, 0⟩] scope pos) (oLcN ti j tt te) := (pe_lc hc hN hi ok hg ht he hs).imp lcN_imp
theorem ws_setLcN {i : Nat} {y : Str} {py : Pos} {elt tg iter : Expr} {ifs : List Expr} {scope : Scope} {x : Str} {j : Nat} {pos spos : Pos} {ti : TIW} {tt : TTW} {te : TEW} (hc : X.calm = true) (hN : X.N.Nodup) (hy : X.N[i]? = some y) (hyl : X.env.scope.names.lookup y = some .local)
    (hsw : swapsWith (.ListComp elt [⟨tg, iter, ifs, 0⟩] scope pos) (some (.Name y py)) spos.line X.env = pure true) (hi : WI X L tg iter ti) (ok : BlkOk X.N X.env.scope scope [(x, j)])
    (hg : ∀ (s : Shared) (H : Hp) (C : Addr) (cl : List (Str × Addr)) (fp : List Addr), PG (X.blk s H scope (compEnvC scope cl C X.env) fp) tg (gName j)) (ht : ∀ (s : Shared) (H : Hp) (C : Addr) (cl : List (Str × Addr)) (fp : List Addr), WTs (X.blk s H scope (compEnvC scope cl C X.env) fp) L ifs tt)
    (he : ∀ (s : Shared) (H : Hp) (C : Addr) (cl : List (Str × Addr)) (fp : List Addr), WE (X.blk s H scope (compEnvC scope cl C X.env) fp) L elt te) (hs : ∀ x, foldedSetIterable iter X.env x = pure x := by intro _; rfl) :
    WS X L (.Assign [.Name y py] (.ListComp elt [⟨tg, iter, ifs, 0⟩] scope pos) spos) (sAsg (oLcN ti j tt te) (gN i)) := (ps_setLc hc hN hy hyl hsw hi ok hg ht he hs).imp fun D σ H ⟨ρ, h, DW, S, t, k⟩ =>
  lcN_imp σ H _ ⟨ρ, h, _, S, t, fun w1 h1 v1 H1 t1 s1 r1 q1 => k.nx _ h1 _ H1 t1 s1 r1 ((S.sr.mono s1).set q1 i)⟩
/-- .. a function of the item, some items left out -/
theorem go_lcNG {α : Type} {ρ : SlW} {h : HW} {R : KW} {ti : TIW} {j : Nat} {tt : TTW} {te : TEW} (ts : List α) (rep : α → W) (f : α → Bool) (ev : ∀ P : List W → HW → Prop, P (ts.map rep) h → ti ρ h P) (hz : ts.length ≤ 16000000)
    (el : ∀ (t : α) (p : Addr) (acc : List W) (RB : Bool → HW → Prop), t ∈ ts → h p = none → RB (f t) (updW h p (.lst acc)) → tt (ρ.set j (some (rep t))) (updW h p (.lst acc)) RB)
    (et : ∀ (t : α) (p : Addr) (acc : List W) (R' : KW), t ∈ ts → f t = true → R' (rep t) (updW h p (.lst acc)) → te (ρ.set j (some (rep t))) (updW h p (.lst acc)) R') (k : ∀ p, h p = none → R (.ref p) (updW h p (.lst ((ts.filter f).map rep)))) : oLcN ti j tt te ρ h R := by
  refine ev _ ⟨by rw [List.length_map]; exact hz, fun p hp => ⟨fun i acc h' => acc = ((ts.take i).filter f).map rep ∧ h' = h, ⟨rfl, rfl⟩, ?_, ?_⟩⟩
  · rintro i w acc h' e n hla ⟨rfl, rfl⟩
    rw [List.getElem?_map] at e
    obtain ⟨t, e2, rfl⟩ := Option.map_eq_some_iff.mp e
    have tm := List.mem_of_getElem? e2
    have et2 : ((ts.take (i + 1)).filter f).map rep = ((ts.take i).filter f).map rep ++ (if f t = true then [rep t] else []) := by
      rw [List.take_add_one, e2, List.filter_append, List.map_append]
      congr 1
      show (([t] : List α).filter f).map rep = _
      rw [List.filter_cons]
      split <;> rfl
    refine el t p _ _ tm hp ?_
    cases ef : f t with
    | true =>
      rw [if_pos rfl]
      refine et t p _ _ tm ef ⟨_, .refl _, hp, ?_, rfl⟩
      rw [et2, ef, if_pos rfl]
    | false =>
      rw [if_neg Bool.false_ne_true]
      refine ⟨_, .refl _, hp, ?_, rfl⟩
      rw [et2, ef, if_neg Bool.false_ne_true, List.append_nil]
  · rintro acc h' n ⟨rfl, rfl⟩
    rw [List.length_map, List.take_length]; exact k p n
end
/-! ## list(range(n)) -/
section
variable {X : Cx} {L : Lk}
def oLstRg1 (te : TEW) : TEW := fun ρ h R => te ρ h fun x h1 => match x with | .int n => (0 ≤ n ∧ n ≤ 16000000) ∧ R (.lst (rngW 0 n.toNat)) h1 | _ => False
theorem rg_rws {K : PySem.W.Frag} {H : Hp} {h : HW} (n : Int) : RWs K H h (rgV 0 n) (rngW 0 n.toNat) := by
  have : ∀ l : List Nat, RWs K H h (l.map fun i => V.int (0 + (i : Nat))) (l.map fun i => W.int (0 + (i : Nat))) := fun l => by
    induction l with
    | nil => exact .nil
    | cons i l ih => exact .cons (.int _) ih
  unfold rgV rngW
  rw [Int.sub_zero]
  exact this _
theorem w_lstRg1 {e : Expr} {te : TEW} {p p2 pos pos2 : Pos} (hc : X.calm = true) (hg : Gl X "list") (hm : X.mg "list" = none) (hg2 : Gl X "range") (hm2 : X.mg "range" = none) (he : WE X L e te)
    (na : starEach [e] X.env = (false, eval e X.env) :: starEach [] X.env := by rfl)
    (na2 : starEach [.Call (.Name "range" p2) [e] [] pos2] X.env = (false, eval (.Call (.Name "range" p2) [e] [] pos2) X.env) :: starEach [] X.env := by rfl) :
    WE X L (.Call (.Name "list" p) [.Call (.Name "range" p2) [e] [] pos2] [] pos) (oLstRg1 te) := (pe_listRg hc hg hm (prg_1 hg2 hm2 he na) na2).imp fun σ H Q ⟨ρ, h, R, S, t, k⟩ =>
  ⟨ρ, h, _, S, t, fun w1 h1 v1 H1 t1 s1 r1 q1 => by
    cases w1 with
    | int n =>
      cases q1
      obtain ⟨⟨a, b⟩, t1⟩ := t1
      exact ⟨n, rfl, .of_le (Int.le_refl _) (by omega) (by decide) a, fun q e => (k.mono s1).lst r1 (rg_rws n) t1 e⟩
    | _ => exact t1.elim⟩
theorem go_lstRg1 {te : TEW} {ρ : SlW} {h : HW} {R : KW} (k : te ρ h fun x h1 => match x with | .int n => (0 ≤ n ∧ n ≤ 16000000) ∧ R (.lst (rngW 0 n.toNat)) h1 | _ => False) : oLstRg1 te ρ h R := k
end
end Wl

set_option Elab.async false
set_option linter.all false
set_option maxRecDepth 100000
namespace Wl
open PySem PySem.Spec PyProof.Rows L2 StrLaws Builtin Builtin.Str
/-! ## x.split(sep), x.partition(sep): what they give -/
/-- b does not occur in y -/
def NoIn (b y : List Nat) : Prop := ∀ p, p + b.length ≤ y.length → (y.drop p).take b.length ≠ b
def SplitOk (b a : List Nat) (ys : List (List Nat)) : Prop := joinS b ys = a ∧ ys ≠ [] ∧ ∀ y ∈ ys, NoIn b y
theorem occ_cov (s sub : Str) (hi limit : Nat) (h1 : 1 ≤ sub.length) (lo : Nat) : ∀ (n m : Nat) (st : Array Nat × Nat), st.fst.size + n ≤ limit → lo ≤ m →
    (st.snd ≤ m ∨ ∃ c ∈ st.fst.toList, c ≤ m ∧ st.snd = c + sub.length) → (∀ j, lo ≤ j → j < m → At s sub hi j → ∃ c ∈ st.fst.toList, c ≤ j ∧ j < c + sub.length) →
    ∀ j, lo ≤ j → j < m + n → At s sub hi j → ∃ c ∈ (forIn (List.range' m n) st (occBody s sub hi limit)).run.fst.toList, c ≤ j ∧ j < c + sub.length
  | 0, m, st, _, _, _, cov, j, a, b, c => cov j a (by omega) c
  | n + 1, m, st, sz, hm, inv, cov, j, a, b, c => by
    rw [List.range'_succ, List.forIn_cons]
    unfold occBody
    split
    · rename_i hc
      have mem : m ∈ (st.fst.push m).toList := by simp
      refine occ_cov s sub hi limit h1 lo n (m + 1) (st.fst.push m, m + sub.length) (by rw [Array.size_push]; omega) (by omega) (.inr ⟨m, mem, by omega, rfl⟩) (fun j a b c => ?_) j a (by omega) c
      by_cases e : j = m
      · subst e; exact ⟨j, mem, Nat.le_refl _, by omega⟩
      · obtain ⟨d, hd, x, y⟩ := cov j a (by omega) c
        exact ⟨d, by simp at hd ⊢; exact .inl hd, x, y⟩
    · rename_i hc
      refine occ_cov s sub hi limit h1 lo n (m + 1) (st.fst, st.snd) (by show st.fst.size + n ≤ limit; omega) (by omega) (by
        rcases inv with z | ⟨d, hd, x, y⟩
        · exact .inl (by show st.snd ≤ m + 1; omega)
        · exact .inr ⟨d, hd, by omega, y⟩) (fun j a b c => ?_) j a (by omega) c
      by_cases e : j = m
      · subst e
        have lt : ¬ st.snd ≤ j := fun z => hc ⟨⟨⟨by omega, z⟩, c.1⟩, c.2⟩
        rcases inv with z | ⟨d, hd, x, y⟩
        · exact absurd z lt
        · exact ⟨d, hd, x, by omega⟩
      · exact cov j a (by omega) c
theorem chain_ge {s sub : Str} {hi : Nat} : ∀ {a : Nat} {cuts : List Nat} {f : Nat}, ChainTo s sub hi a cuts f → ∀ c ∈ cuts, a ≤ c
  | a, [], f, _, c, h => by cases h
  | a, d :: r, f, h, c, hc => by
    rcases List.mem_cons.mp hc with rfl | hc
    · exact h.1
    · have := chain_ge h.2.2 c hc
      have := h.1
      omega
theorem sub_list (x : Str) (i j : Nat) : (strSub x i j).cps.toList = (x.cps.toList.drop i).take (j - i) := strSub_toList x i j
theorem no_piece {x y : Str} {a c : Nat} (h1 : 1 ≤ y.length) (hc : c ≤ x.length) (no : ∀ j, a ≤ j → j + y.length ≤ c → ¬ At x y x.length j) : NoIn y.cps.toList (strSub x a c).cps.toList := fun p hp e => by
  have yl : y.cps.toList.length = y.length := by simp [Str.length]
  have xl : x.cps.toList.length = x.length := by simp [Str.length]
  rw [sub_list] at hp e
  rw [yl] at hp e
  rw [List.length_take, List.length_drop, xl] at hp
  refine no (a + p) (by omega) (by omega) ⟨by omega, ?_⟩
  rw [subAt_eq]
  rw [List.drop_take, List.drop_drop, List.take_take, Nat.min_eq_left (by omega)] at e
  rw [e]
  exact beq_self_eq_true _
theorem parts_no {x y : Str} (h1 : 1 ≤ y.length) : ∀ (cuts : List Nat) (a f : Nat), ChainTo x y x.length a cuts f → (∀ j, a ≤ j → At x y x.length j → ∃ c ∈ cuts, c ≤ j ∧ j < c + y.length) → ∀ p ∈ partsFrom x y.length a cuts, NoIn y.cps.toList p.cps.toList
  | [], a, f, _, cov, p, hp => by
    rw [show p = strSub x a x.length from List.mem_singleton.mp hp]
    refine no_piece h1 (Nat.le_refl _) fun j hj _ z => ?_
    obtain ⟨c, hc, _⟩ := cov j hj z
    cases hc
  | c :: r, a, f, h, cov, p, hp => by
    rcases List.mem_cons.mp hp with rfl | hp
    · refine no_piece h1 (by have := h.2.1.1; omega) fun j hj hc z => ?_
      obtain ⟨d, hd, x1, x2⟩ := cov j hj z
      rcases List.mem_cons.mp hd with rfl | hd
      · omega
      · have := chain_ge h.2.2 d hd; omega
    · refine parts_no h1 r (c + y.length) f h.2.2 (fun j hj z => ?_) p hp
      obtain ⟨d, hd, x1, x2⟩ := cov j (by have := h.1; omega) z
      rcases List.mem_cons.mp hd with rfl | hd
      · omega
      · exact ⟨d, hd, x1, x2⟩
theorem join_list (b : Str) : ∀ ys : List Str, (Str.join b ys).cps.toList = joinS b.cps.toList (ys.map fun s => s.cps.toList)
  | [] => rfl
  | [y] => rfl
  | y :: z :: r => by
    have ih := join_list b (z :: r)
    show (y ++ b ++ Str.join b (z :: r)).cps.toList = _
    simp only [Str.cps_append, Array.toList_append, ih, List.map_cons, joinS, List.append_assoc]
theorem split_ok (x y : Str) (hy : 1 ≤ y.length) (hk : strKind y = 1) : SplitOk y.cps.toList x.cps.toList ((Txt.split x y).map fun s => s.cps.toList) := by
  refine ⟨by rw [← join_list, join_split], ?_, ?_⟩
  · unfold Txt.split
    split
    · simp
    · split
      · simp
      · rw [partsBetween_eq]
        obtain ⟨p, r, e⟩ := partsFrom_ne x y.length 0 (occurrences x y 0 x.length (x.length + 1))
        rw [e]; simp
  · have cov : ∀ j, 0 ≤ j → At x y x.length j → ∃ c ∈ occurrences x y 0 x.length (x.length + 1), c ≤ j ∧ j < c + y.length := fun j hj z => by
      rw [occ_eq]
      have zl := z.1
      exact occ_cov x y x.length (x.length + 1) hy 0 (x.length + 1 - 0) 0 (#[], 0) (by simp) (Nat.le_refl _) (.inl (Nat.le_refl _)) (fun j _ h => absurd h (Nat.not_lt_zero _)) j hj (by omega) z
    have whole : (∀ j, ¬ At x y x.length j) → NoIn y.cps.toList x.cps.toList := fun no => by
      have := no_piece (x := x) (y := y) (a := 0) (c := x.length) hy (Nat.le_refl _) fun j _ _ => no j
      rw [sub_whole] at this
      exact this
    intro s hs
    obtain ⟨p, hp, rfl⟩ := List.mem_map.mp hs
    unfold Txt.split at hp
    split at hp
    · rename_i c
      rw [List.mem_singleton.mp hp]
      refine whole fun j z => ?_
      rw [Bool.or_eq_true, decide_eq_true_eq, decide_eq_true_eq] at c
      rcases c with c | c
      · have := z.1; omega
      · rw [hk] at c
        exact absurd c (Nat.not_lt.mpr (strKind_pos x))
    · split at hp
      · rename_i c
        rw [List.mem_singleton.mp hp]
        refine whole fun j z => ?_
        obtain ⟨d, hd, _⟩ := cov j (Nat.zero_le _) z
        rw [List.isEmpty_iff.mp c] at hd
        cases hd
      · rw [partsBetween_eq] at hp
        obtain ⟨f, ch⟩ := occ_chain x y (x.length + 1)
        exact parts_no hy _ 0 f ch cov p hp
section
variable {K : PySem.W.Frag} {h : HW} {R : KW}
def splitW : W → List W → HW → KW → Prop := fun x ws h R => match x, ws with
  | .str a, [.str b] => b ≠ [] ∧ (∀ c ∈ b, c < 256) ∧ a.length ≤ 16000000 ∧ ∀ ys, SplitOk b a ys → R (.lst (ys.map W.str)) h
  | _, _ => False
def splitOW : W → List W → HW → KW → Prop := fun x ws h R => match x, ws with
  | .str a, [.str b] => b ≠ [] ∧ (∀ c ∈ b, c < 256) ∧ a.length ≤ 16000000 ∧ ∀ ys, SplitOk b a ys → ∀ p, h p = none → R (.ref p) (updW h p (.lst (ys.map W.str)))
  | _, _ => False
abbrev rSplit : V → List V → Hp → VK → Prop := fun x xs H Q => ∃ a b, x = .str a ∧ xs = [.str b] ∧ (b.length == 0) = false ∧ a.length + 2 ≤ sizeLine ∧ rNewStrs (Txt.split a b) H Q
theorem strs_rws {H : Hp} : ∀ ys : List Str, RWs K H h (ys.map V.str) ((ys.map fun s => s.cps.toList).map W.str)
  | [] => .nil
  | y :: ys => by
    have e : y = mkS y.cps.toList := by cases y; rfl
    refine .cons ?_ (strs_rws ys)
    conv => enter [4]; rw [e]
    exact .str _
theorem mkS_kind {b : List Nat} (hb : ∀ c ∈ b, c < 256) : strKind (mkS b) = 1 := by
  unfold Builtin.Str.strKind mkS
  rw [if_pos]
  rw [← Array.all_toList, List.all_eq_true]
  exact fun c hc => decide_eq_true (hb c hc)
theorem split_mk {a b : List Nat} (hn : b ≠ []) (hb : ∀ c ∈ b, c < 256) : SplitOk b a ((Txt.split (mkS a) (mkS b)).map fun s => s.cps.toList) :=
  split_ok (mkS a) (mkS b) (by show 1 ≤ (mkS b).length; rw [mkS_length]; cases b with | nil => exact absurd rfl hn | cons _ _ => simp) (mkS_kind hb)
theorem ne_len {b : List Nat} (hn : b ≠ []) : ((mkS b).length == 0) = false := by
  rw [mkS_length]; cases b with | nil => exact absurd rfl hn | cons _ _ => rfl
theorem lf_split : LfM K rSplit splitW := fun x xs H Q w ws h R r rs hr t k => by
  unfold splitW at t
  split at t
  · obtain ⟨hn, hb, hz, t⟩ := t
    obtain ⟨u, rfl, ru⟩ := rs.one
    cases r; cases ru
    exact ⟨_, _, rfl, rfl, ne_len hn, by rw [mkS_length]; have : (16000002 : Nat) ≤ sizeLine := by { rw [sizeLine_eq]; decide }; omega, fun p hp => k.lst hr (strs_rws _) (t _ (split_mk hn hb)) hp⟩
  · exact t.elim
theorem lf_splitO : LfM K rSplit splitOW := fun x xs H Q w ws h R r rs hr t k => by
  unfold splitOW at t
  split at t
  · obtain ⟨hn, hb, hz, t⟩ := t
    obtain ⟨u, rfl, ru⟩ := rs.one
    cases r; cases ru
    exact ⟨_, _, rfl, rfl, ne_len hn, by rw [mkS_length]; have : (16000002 : Nat) ≤ sizeLine := by { rw [sizeLine_eq]; decide }; omega, fun p hp => k.lstO hr (strs_rws _) (t _ (split_mk hn hb)) hp⟩
  · exact t.elim
/-- what stands ahead of the first c, and behind it -/
def PartOk (c : Nat) (a p q r : List Nat) : Prop := (a = p ++ c :: r ∧ q = [c] ∧ c ∉ p) ∨ (c ∉ a ∧ p = a ∧ q = [] ∧ r = [])
def partW : W → List W → HW → KW → Prop := fun x ws h R => match x, ws with
  | .str a, [.str [c]] => a.length ≤ 16000000 ∧ ∀ p q r, PartOk c a p q r → R (.tup [.str p, .str q, .str r]) h
  | _, _ => False
abbrev rPart : V → List V → Hp → VK → Prop := fun x xs H Q => ∃ a b, x = .str a ∧ xs = [.str b] ∧ (b.length == 0) = false ∧ a.length ≤ sizeLine ∧
    ∀ p, H p = none → Q (.ref p) (upd H p (.tup [.str (Txt.partition a b).1, .str (Txt.partition a b).2.1, .str (Txt.partition a b).2.2]))
theorem at_one {a : List Nat} {c i : Nat} : At (mkS a) (mkS [c]) (mkS a).length i ↔ a[i]? = some c := by
  have e : (mkS a).cps.toList = a := by simp [mkS]
  have e2 : (mkS [c]).cps.toList = [c] := by simp [mkS]
  have l1 : (mkS [c]).length = 1 := by rw [mkS_length]; rfl
  unfold At
  rw [subAt_eq, e, e2, l1, mkS_length, beq_iff_eq]
  constructor
  · rintro ⟨h1, h2⟩
    have hi : i < a.length := by omega
    rw [List.drop_eq_getElem_cons hi] at h2
    simp only [List.take_succ_cons, List.take_zero, List.cons.injEq, and_true] at h2
    rw [List.getElem?_eq_getElem hi, h2]
  · intro h2
    obtain ⟨hi, h3⟩ := List.getElem?_eq_some_iff.mp h2
    refine ⟨by omega, ?_⟩
    rw [List.drop_eq_getElem_cons hi, h3]
    rfl
theorem part_mk (a : List Nat) (c : Nat) : PartOk c a (Txt.partition (mkS a) (mkS [c])).1.cps.toList (Txt.partition (mkS a) (mkS [c])).2.1.cps.toList (Txt.partition (mkS a) (mkS [c])).2.2.cps.toList := by
  have e : (mkS a).cps.toList = a := by simp [mkS]
  have l1 : (mkS [c]).length = 1 := by rw [mkS_length]; rfl
  unfold Txt.partition
  rcases occ_head (mkS a) (mkS [c]) 1 (Nat.le_refl _) with ⟨h0, no⟩ | ⟨i, r, h0, hi, no⟩
  · rw [h0]
    refine .inr ⟨fun z => ?_, e, by rfl, by rfl⟩
    obtain ⟨i, hi, h⟩ := List.mem_iff_getElem.mp z
    exact no i (at_one.mpr (by rw [List.getElem?_eq_getElem hi, h]))
  · rw [h0]
    dsimp only
    have hc := at_one.mp hi
    obtain ⟨hl, hv⟩ := List.getElem?_eq_some_iff.mp hc
    have p1 : (strSub (mkS a) 0 i).cps.toList = a.take i := by rw [sub_list, e]; simp
    have p3 : (strSub (mkS a) (i + (mkS [c]).length) (mkS a).length).cps.toList = a.drop (i + 1) := by rw [sub_list, e, l1, mkS_length]; rw [List.take_of_length_le (by simp)]
    refine .inl ⟨?_, by simp [mkS], fun z => ?_⟩
    · rw [p1, p3]
      conv => lhs; rw [← List.take_append_drop i a, List.drop_eq_getElem_cons hl, hv]
    · rw [p1] at z
      obtain ⟨j, hj, h⟩ := List.mem_iff_getElem.mp z
      rw [List.length_take] at hj
      rw [List.getElem_take] at h
      exact no j (by omega) (at_one.mpr (by rw [List.getElem?_eq_getElem (by omega), h]))
theorem str_rw {H : Hp} (y : Str) : RW K H h (.str y) (.str y.cps.toList) := by
  have e : y = mkS y.cps.toList := by cases y; rfl
  conv => enter [4]; rw [e]
  exact .str _
theorem lf_part : LfM K rPart partW := fun x xs H Q w ws h R r rs hr t k => by
  unfold partW at t
  split at t
  · obtain ⟨hz, t⟩ := t
    obtain ⟨u, rfl, ru⟩ := rs.one
    cases r; cases ru
    exact ⟨_, _, rfl, rfl, ne_len (by simp), by rw [mkS_length]; exact sz_big hz, fun p hp => k.tup hr (.cons (str_rw _) (.cons (str_rw _) (.cons (str_rw _) .nil))) (t _ _ _ (part_mk _ _)) hp⟩
  · exact t.elim
theorem go_split {a b : List Nat} (hn : b ≠ []) (hb : ∀ c ∈ b, c < 256) (hz : a.length ≤ 16000000) (k : ∀ ys, SplitOk b a ys → R (.lst (ys.map W.str)) h) : splitW (.str a) [.str b] h R := ⟨hn, hb, hz, k⟩
theorem go_splitO {a b : List Nat} (hn : b ≠ []) (hb : ∀ c ∈ b, c < 256) (hz : a.length ≤ 16000000) (k : ∀ ys, SplitOk b a ys → ∀ p, h p = none → R (.ref p) (updW h p (.lst (ys.map W.str)))) : splitOW (.str a) [.str b] h R := ⟨hn, hb, hz, k⟩
theorem go_partS {a : List Nat} {c : Nat} (hz : a.length ≤ 16000000) (k : ∀ p q r, PartOk c a p q r → R (.tup [.str p, .str q, .str r]) h) : partW (.str a) [.str [c]] h R := ⟨hz, k⟩
end
/-! ## sorted(xs), ints, any number -/
section
variable {K : PySem.W.Frag} {h : HW} {R : KW}
def sortedIW : List W → HW → KW → Prop := fun ws h R => ∃ x ns, ws = [x] ∧ (match x with | .lst us => us = ns.map W.int | .ref p => h p = some (.lst (ns.map W.int)) | _ => False) ∧ ∀ ys : List Int, ys.Perm ns → ys.Pairwise (· ≤ ·) → R (.lst (ys.map W.int)) h
theorem ints_eq {H : Hp} : ∀ {vs : List V} {ns : List Int}, RWs K H h vs (ns.map W.int) → vs = ns.map V.int
  | _, [], .nil => rfl
  | _, n :: ns, .cons r t => by cases r; rw [ints_eq t]; rfl
theorem lf_sortedI : LfC K (rSortedI K) sortedIW := fun xs H Q ws h R r hr ⟨x, ns, e, hx, t⟩ k => by
  subst e
  obtain ⟨v, rfl, q⟩ := r.one
  have : ∃ a, v = .ref a ∧ SqL K H a (ns.map V.int) := by
    split at hx
    · subst hx
      cases q with
      | lst f q => rw [ints_eq q] at f; exact ⟨_, rfl, f.sq⟩
    · cases q
      obtain ⟨vs, hv, q⟩ := hr _ _ hx
      rw [ints_eq q] at hv
      exact ⟨_, rfl, SqL.of hv⟩
    · exact hx.elim
  obtain ⟨a, rfl, sq⟩ := this
  exact ⟨a, ns, rfl, sq, fun ys p pm so hp => k.lst hr (ints_rws ys) (t ys pm so) hp⟩
end
end Wl

set_option Elab.async false
set_option linter.all false
set_option maxRecDepth 100000
namespace Wl
open PySem PySem.Spec PyProof.Rows L2
/-! ## d[k] of a dict that may be locked -/
def dWr (x : W) (h : HW) : Option (List (L2.Key × W)) := match x with
  | .dic kws => some kws
  | .ref p => (match h p with | some (.dic kws) => some kws | some (.fdic _ _ kws) => some kws | _ => none)
  | _ => none
def dgrW (x y : W) (h : HW) : Option (Option W) := match dWr x h, keyW y with | some kws, some k => some (valW kws k) | _, _ => none
section
variable {K : PySem.W.Frag} {H : Hp} {h : HW}
theorem dicr_at {v : V} {x : W} {kws : List (L2.Key × W)} (hr : HR K H h) (r : RW K H h v x) (e : dWr x h = some kws) : ∃ a kvs, v = .ref a ∧ Rd H a (.dK kvs) ∧ RKs K H h kvs kws := by
  unfold dWr at e
  split at e
  · cases e
    cases r with
    | dic f q => exact ⟨_, _, rfl, .inl f.1, q⟩
  · split at e
    · rename_i hp
      cases e
      cases r
      obtain ⟨kvs, a, b⟩ := hr _ _ hp
      exact ⟨_, _, rfl, .inl a, b⟩
    · rename_i hp
      cases e
      cases r
      obtain ⟨a, b⟩ := hr _ _ hp
      exact ⟨_, _, rfl, .inr ⟨_, a⟩, b⟩
    · cases e
  · cases e
theorem dgr_at {v u : V} {x y : W} {o : Option W} (hr : HR K H h) (rx : RW K H h v x) (ry : RW K H h u y) (e : dgrW x y h = some o) :
    ∃ a ov, v = .ref a ∧ DGet H a u ov ∧ ((ov = none ∧ o = none) ∨ ∃ v1 w1, ov = some v1 ∧ o = some w1 ∧ RW K H h v1 w1) := by
  unfold dgrW at e
  split at e
  · rename_i e1 e2
    cases e
    obtain ⟨a, kvs, rfl, ha, rk⟩ := dicr_at hr rx e1
    cases key_at ry e2
    exact ⟨a, _, rfl, .inl ⟨kvs, _, ha, rfl, rfl⟩, rk.val⟩
  · cases e
end
section
variable {X : Cx} {L : Lk} {a b : Expr} {ta tb : TEW} {pos : Pos}
def dgetRW : W → W → HW → KW → Prop := fun x y h R => match dgrW x y h with | some (some w) => R w h | _ => False
theorem w_dgetR (hu : X.A.units + 1 < cLine) (ha : WE X L a ta) (hb : WE X L b tb) (hs : NoSl b := by exact fun _ _ => rfl) : WE X L (.Subscript a b pos) (oOp dgetRW ta tb) := (pe_dget hu ha hb hs).imp fun σ H Q ⟨ρ, h, R, S, t, k⟩ =>
  ⟨ρ, h, _, S, t, fun w1 h1 v1 H1 t1 s1 r1 q1 => ⟨ρ, h1, _, S.to s1 r1, t1, fun w2 h2 v2 H2 t2 s2 r2 q2 => by
    unfold dgetRW at t2
    split at t2
    · rename_i w e
      obtain ⟨a, ov, rfl, g, z⟩ := dgr_at r2 (q1.mono s2) q2 e
      rcases z with ⟨_, z⟩ | ⟨v3, w3, rfl, e3, r3⟩
      · cases z
      · cases e3; exact ⟨a, v3, rfl, g, k _ h2 _ H2 t2 (s1.trans s2) r2 r3⟩
    · exact t2.elim⟩⟩
theorem go_dgetR {x y w : W} {h : HW} {R : KW} (e : dgrW x y h = some (some w)) (k : R w h) : dgetRW x y h R := by unfold dgetRW; rw [e]; exact k
end
/-! ## [elt for k in d]: d is locked meanwhile, and may be read -/
section
variable {X : Cx} {L : Lk}
def oLcK (te : TEW) (j : Nat) (tt : TTW) (tb : TEW) : TEW := fun ρ h R => ∃ (d : Addr) (kws : List (L2.Key × W)), h d = some (.dic kws) ∧ kws.length ≤ 16000000 ∧ ∀ (o : Obj) (kvs : List (L2.Key × V)), te ρ (updW h d (.fdic o kvs kws)) fun x h1 => x = .ref d ∧ h1 = updW h d (.fdic o kvs kws) ∧
  ∀ p, h1 p = none → ∃ Pv : Nat → List W → HW → Prop, Pv 0 [] h1 ∧ (∀ i acc h', Pv i acc h' → h' d = some (.fdic o kvs kws)) ∧
  (∀ (i : Nat) (kk : L2.Key) (w : W) acc h', kws[i]? = some (kk, w) → h' p = none → acc.length ≤ i → Pv i acc h' → tt (ρ.set j (some (wKey kk))) (updW h' p (.lst acc)) fun b h3 => if b = true then tb (ρ.set j (some (wKey kk))) h3 fun y h4 => ∃ h5, Sub (updW h5 p (.lst acc)) h4 ∧ h5 p = none ∧ Pv (i + 1) (acc ++ [y]) h5
    else ∃ h5, Sub (updW h5 p (.lst acc)) h3 ∧ h5 p = none ∧ Pv (i + 1) acc h5) ∧ ∀ acc h', h' p = none → Pv kws.length acc h' → R (.lst acc) (updW h' d (.dic kws))
theorem lcK_imp {K : PySem.W.Frag} {te : TEW} {j : Nat} {tt : TTW} {tb : TEW} : ∀ σ H Q, lE K L (oLcK te j tt tb) σ H Q → tLockE (tLc (iKeys (lE K L te)) (gName j) (lT K L tt) (lE K L tb) [j]) σ H Q := fun σ H Q ⟨ρ, h, R, S, ⟨d, kws, hd, hz, t⟩, k⟩ => by
  obtain ⟨kvs, hH, rk⟩ := S.hr d _ hd
  refine ⟨d, .dK kvs, hH, trivial, fun od => ?_⟩
  have sl : ST H h (upd H d (.frz od (.dK kvs))) (updW h d (.fdic od kvs kws)) := .mut hd _ _
  have rl : HR K (upd H d (.frz od (.dK kvs))) (updW h d (.fdic od kvs kws)) := S.hr.mut hd ⟨upd_same, rk.mono sl⟩
  refine ⟨ρ, _, _, ⟨S.sr.mono sl, rl, L.mono S.el sl⟩, t od kvs, fun w1 h1 v1 H1 ⟨ex, eh, t1⟩ s1 r1 q1 => ?_⟩
  subst ex eh
  cases q1
  have st1 := sl.trans s1
  refine ⟨d, od, rfl, .inl ⟨kvs, (r1 d _ updW_same).1, fun D hD => ?_⟩⟩
  have nD := r1.fresh hD
  have Dd : D ≠ d := fun z => by rw [z, updW_same] at nD; cases nD
  obtain ⟨h0, eh0⟩ : ∃ h0, h0 = updW h d (.fdic od kvs kws) := ⟨_, rfl⟩
  rw [← eh0] at r1 st1 nD t1 s1
  obtain ⟨Pv, p0, keep, turn, fin⟩ := t1 D nD
  refine ⟨fun i m H2 => m = kws.length - i ∧ i ≤ kws.length ∧ ∃ acc h', Pv i acc h' ∧ h' D = none ∧ acc.length ≤ i ∧ HR K H2 (updW h' D (.lst acc)) ∧ ST H h H2 (updW h' D (.lst acc)), ⟨_, rfl, Nat.zero_le _, [], h0, p0, nD, Nat.le_refl _, r1.newO hD ⟨[], upd_same, .nil⟩, st1.trans (.newO hD _ _)⟩, ?_⟩
  rintro i m H2 ⟨rfl, hi, acc, h2, pv, n2, ha, hr2, st2⟩
  have hd2 := keep i acc h2 pv
  have hd2' : updW h2 D (.lst acc) d = some (.fdic od kvs kws) := by rw [updW_ne Dd.symm]; exact hd2
  have hH2 := (hr2 d _ hd2').1
  by_cases hlt : i < kws.length
  · obtain ⟨k', w, ekw⟩ : ∃ k' w, kws[i]? = some (k', w) := ⟨_, _, List.getElem?_eq_getElem hlt⟩
    refine .inr ⟨⟨hH2, by rw [rk.length]; exact hlt⟩, fun H3 => ∃ acc h', Pv (i + 1) acc h' ∧ h' D = none ∧ acc.length ≤ i + 1 ∧ HR K H3 (updW h' D (.lst acc)) ∧ ST H h H3 (updW h' D (.lst acc)), fun H3 p' => ⟨kws.length - (i + 1), by omega, rfl, hlt, p'⟩, fun x H3 ⟨eH, k2, v, ev, ex⟩ => ?_⟩
    subst eH ex
    obtain ⟨w', ew', _⟩ := rk.getp ev
    rw [ekw] at ew'
    cases ew'
    show wipe ((wipe σ [j]).set j (some (kV k'))) [j] = wipe σ [j] ∧ _
    refine ⟨by show ((σ.set j none).set j (some (kV k'))).set j none = σ.set j none; rw [List.set_set, List.set_set], ρ.set j (some (wKey k')), _, _, ⟨?_, hr2, L.mono S.el st2⟩, turn i k' w acc h2 ekw n2 ha pv, ?_⟩
    · show SR K H3 _ ((σ.set j none).set j (some (kV k'))) _
      rw [List.set_set]
      exact (S.sr.mono st2).set (key_rw k') j
    · intro b h4 H4 t4 s4 r4
      have tot : ST H h H4 h4 := st2.trans s4
      cases b with
      | false =>
        obtain ⟨h5, sub, n5, p5⟩ := t4
        exact ⟨acc, h5, p5, n5, Nat.le_succ_of_le ha, r4.drop sub, tot.trans (.drop sub)⟩
      | true =>
        refine ⟨_, h4, _, ⟨?_, r4, L.mono (L.mono S.el st2) s4⟩, t4, fun z h5 v5 H5 ⟨h6, sub, n6, p6⟩ s5 r5 q5 => ?_⟩
        · show SR K H4 _ ((σ.set j none).set j (some (kV k'))) _
          rw [List.set_set]
          exact ((S.sr.mono st2).mono s4).set (key_rw k') j
        · have hp : h5 D = some (.lst acc) := sub D _ updW_same
          obtain ⟨us, hu, qu⟩ := r5 D _ hp
          have s6 : ST H5 h5 (upd H5 D (.lst (us ++ [v5]))) (updW h5 D (.lst (acc ++ [z]))) := .mut hp _ _
          have r6 : HR K (upd H5 D (.lst (us ++ [v5]))) (updW h5 D (.lst (acc ++ [z]))) := r5.mut hp ⟨_, upd_same, ((qu.mono s6).append (.cons (q5.mono s6) .nil))⟩
          have sub6 : Sub (updW h6 D (.lst (acc ++ [z]))) (updW h5 D (.lst (acc ++ [z]))) := fun b o e => by
            by_cases hb : b = D
            · subst hb; rw [updW_same] at e ⊢; exact e
            · rw [updW_ne hb] at e ⊢
              exact sub b o (by rw [updW_ne hb]; exact e)
          exact ⟨us, hu, by rw [qu.length]; exact Nat.lt_of_le_of_lt (Nat.le_trans ha hi) (sz_lt hz), acc ++ [z], h6, p6, n6, by rw [List.length_append]; exact Nat.succ_le_succ ha, r6.drop sub6, ((tot.trans s5).trans s6).trans (.drop sub6)⟩
  · have e : i = kws.length := by omega
    subst e
    obtain ⟨us, hu, qu⟩ := hr2 D _ updW_same
    have sub : Sub h2 (updW h2 D (.lst acc)) := .new n2
    have r2 := hr2.drop sub
    have st3 : ST H h H2 h2 := st2.trans (.drop sub)
    have s4 : ST H2 h2 (upd H2 d (.dK kvs)) (updW h2 d (.dic kws)) := .mut hd2 _ _
    refine .inl ⟨⟨hH2, by rw [rk.length]; exact Nat.le_refl _⟩, hH2, k _ _ _ _ (fin acc h2 n2 pv) (st3.trans s4) (r2.mut hd2 ⟨kvs, upd_same, rk.mono (st3.trans s4)⟩) (.lst ⟨by rw [upd_ne Dd]; exact hu, by rw [updW_ne Dd]; exact n2⟩ ((qu.mono (.drop sub)).mono s4))⟩
theorem w_lcK {elt tg iter : Expr} {ifs : List Expr} {scope : Scope} {x : Str} {j : Nat} {pos : Pos} {ti : TEW} {tt : TTW} {te : TEW} (hc : X.calm = true) (hN : X.N.Nodup) (hi : WE X L iter ti) (ok : BlkOk X.N X.env.scope scope [(x, j)])
    (hg : ∀ (s : Shared) (H : Hp) (C : Addr) (cl : List (Str × Addr)) (fp : List Addr), PG (X.blk s H scope (compEnvC scope cl C X.env) fp) tg (gName j)) (ht : ∀ (s : Shared) (H : Hp) (C : Addr) (cl : List (Str × Addr)) (fp : List Addr), WTs (X.blk s H scope (compEnvC scope cl C X.env) fp) L ifs tt)
    (he : ∀ (s : Shared) (H : Hp) (C : Addr) (cl : List (Str × Addr)) (fp : List Addr), WE (X.blk s H scope (compEnvC scope cl C X.env) fp) L elt te) (hs : ∀ x, foldedSetIterable iter X.env x = pure x := by intro _; rfl) :
    WE X L (.ListComp elt [⟨tg, iter, ifs, 0⟩] scope pos) (oLcK ti j tt te) := (pe_lock (pe_lc hc hN (pi_keys hi) ok hg ht he hs)).imp lcK_imp
/-- .. whose elements change nothing -/
theorem go_lcK {ti : TEW} {j : Nat} {te : TEW} {ρ : SlW} {h : HW} {R : KW} {d : Addr} (kws : List (L2.Key × W)) (fs : List W) (hd : h d = some (.dic kws)) (hz : kws.length ≤ 16000000) (ev : ∀ o (R : KW), R (.ref d) (updW h d o) → ti ρ (updW h d o) R) (hl : fs.length = kws.length)
    (el : ∀ (o : Obj) (kvs : List (L2.Key × V)) (i : Nat) (kk : L2.Key) (w y : W) (p : Addr) (acc : List W) (R' : KW), kws[i]? = some (kk, w) → fs[i]? = some y → updW h d (.fdic o kvs kws) p = none → R' y (updW (updW h d (.fdic o kvs kws)) p (.lst acc)) → te (ρ.set j (some (wKey kk))) (updW (updW h d (.fdic o kvs kws)) p (.lst acc)) R') (k : R (.lst fs) h) : oLcK ti j oYes te ρ h R := by
  refine ⟨d, kws, hd, hz, fun o kvs => ev _ _ ⟨rfl, rfl, fun p hp => ⟨fun i acc h' => acc = fs.take i ∧ h' = updW h d (.fdic o kvs kws), ⟨rfl, rfl⟩, fun i acc h' ⟨_, e⟩ => by rw [e, updW_same], ?_, ?_⟩⟩⟩
  · rintro i kk w acc h' e n la ⟨rfl, rfl⟩
    have lt : i < fs.length := by rw [hl]; exact (List.getElem?_eq_some_iff.mp e).1
    refine go_yes ?_
    rw [if_pos rfl]
    refine el o kvs i kk w _ p _ _ e (List.getElem?_eq_getElem lt) hp ⟨_, .refl _, hp, ?_, rfl⟩
    rw [List.take_add_one, List.getElem?_eq_getElem lt]; rfl
  · rintro acc h' n ⟨rfl, rfl⟩
    rw [updW_upd, ← hl, List.take_length]
    rw [show updW h d (.dic kws) = h by funext b; by_cases e : b = d; · subst e; rw [updW_same, hd]
                                        · rw [updW_ne e]]
    exact k
end
theorem go_isNone {n : String} {b : Bool} {h : HW} {R : KW} (e : kitB "NoneType" n = some b) (k : R (.bl b) h) : isW [.non, .ty n] h R := by unfold isW; dsimp only; rw [e]; exact k
end Wl

set_option Elab.async false
set_option linter.all false
set_option maxRecDepth 100000
namespace Wl
open PySem PySem.Spec PyProof.Rows L2
/-! ## s in D, s not in D: D a dict that is written once and known whole -/
structure KFull (w : World) (K : PySem.W.Frag) (p : Addr) (tbl : List (List Nat × W)) : Prop where
  ex : ∃ es n, K.lookup p = some ⟨.type "dict", none, .dict es n, #[]⟩ ∧ PySem.W.KeysLit w.params es.toList ∧ es.size = tbl.length
  yes : KYes K p tbl
  nd : (tbl.map Prod.fst).Nodup
theorem pigeon {α : Type} [DecidableEq α] : ∀ (a b : List α), a.Nodup → (∀ x ∈ a, x ∈ b) → b.length ≤ a.length → ∀ y ∈ b, y ∈ a
  | [], b, _, _, l, y, hy => by
    have := List.length_pos_of_mem hy
    rw [List.length_nil] at l
    omega
  | x :: a, b, nd, h, l, y, hy => by
    obtain ⟨n1, n2⟩ := List.nodup_cons.mp nd
    have hx := h x List.mem_cons_self
    by_cases e : y = x
    · rw [e]; exact List.mem_cons_self
    · refine List.mem_cons_of_mem _ (pigeon a (b.erase x) n2 (fun z hz => ?_) ?_ y ((List.mem_erase_of_ne e).mpr hy))
      · exact (List.mem_erase_of_ne (fun q => n1 (by rw [← q]; exact hz))).mpr (h z (List.mem_cons_of_mem _ hz))
      · rw [List.length_erase_of_mem hx]
        rw [List.length_cons] at l
        omega
theorem isStr_key {x s : Str} {t : Tok} : (Value.str x t).isStr s = true ↔ x = s := by
  rw [PySem.W.isStr_of]
  simp [Value.isStrOf]
theorem KYes.keys {K : PySem.W.Frag} {p : Addr} {tbl : List (List Nat × W)} (y : KYes K p tbl) : ∀ s ∈ tbl.map Prod.fst, ∃ u, PySem.W.nsIn K p (mkS s) = some (some u) := by
  induction y with
  | nil => intro s h; cases h
  | cons n q t ih =>
    intro s h
    rcases List.mem_cons.mp h with rfl | h
    · exact ⟨_, n⟩
    · exact ih s h
theorem tab_none {tbl : List (List Nat × W)} {s : List Nat} (h : tabW tbl s = none) : s ∉ tbl.map Prod.fst := by
  induction tbl with
  | nil => simp
  | cons a r ih =>
    obtain ⟨k, w⟩ := a
    unfold tabW at h
    split at h
    · cases h
    · rename_i e
      intro z
      rcases List.mem_cons.mp z with z | z
      · exact e z.symm
      · exact ih h z
theorem KFull.no {w : World} {K : PySem.W.Frag} {p : Addr} {tbl : List (List Nat × W)} (F : KFull w K p tbl) {s : List Nat} (h : tabW tbl s = none) : PySem.W.nsIn K p (mkS s) = some none := by
  obtain ⟨es, n, hl, hk, hz⟩ := F.ex
  have all := hk.all
  have keyOf : ∀ e ∈ es.toList, ∃ x t, e.key = .str x t := fun e he => by obtain ⟨x, t, a, _⟩ := all e he; exact ⟨x, t, a⟩
  have found : ∀ (x : Str) (u : Value), PySem.W.nsIn K p x = some (some u) → ∃ e ∈ es.toList, ∃ t, e.key = .str x t := fun x u hn => by
    unfold PySem.W.nsIn at hn
    rw [hl] at hn
    dsimp only at hn
    split at hn
    · rename_i e he
      obtain ⟨y, t, ek⟩ := keyOf e (List.mem_of_find?_eq_some he)
      have := List.find?_some he
      rw [ek, isStr_key] at this
      exact ⟨e, List.mem_of_find?_eq_some he, t, by rw [ek, this]⟩
    · split at hn <;> cases hn
  obtain ⟨kl, ekl⟩ : ∃ kl : List (List Nat), kl = es.toList.map fun e => match e.key with | .str x _ => x.cps.toList | _ => [] := ⟨_, rfl⟩
  have mem : ∀ {x : Str} {t : Tok} {e : DictEntry}, e ∈ es.toList → e.key = .str x t → x.cps.toList ∈ kl := fun {x t e} he ek => by
    rw [ekl]
    exact List.mem_map.mpr ⟨e, he, by rw [ek]⟩
  have sub : ∀ k ∈ tbl.map Prod.fst, k ∈ kl := fun k hk => by
    obtain ⟨u, hu⟩ := F.yes.keys k hk
    obtain ⟨e, he, t, ek⟩ := found _ u hu
    have := mem he ek
    simpa [mkS] using this
  have len : kl.length ≤ (tbl.map Prod.fst).length := by rw [ekl]; simp only [List.length_map, Array.length_toList]; omega
  have nin : s ∉ kl := fun z => tab_none h (pigeon _ _ F.nd sub len s z)
  have fnone : es.toList.find? (·.key.isStr (mkS s)) = none := by
    rw [List.find?_eq_none]
    intro e he z
    obtain ⟨x, t, ek⟩ := keyOf e he
    rw [ek, isStr_key] at z
    have := mem he ek
    rw [z] at this
    exact nin (by simpa [mkS] using this)
  have norf : es.toList.any (·.refKey) = false := by
    rw [List.any_eq_false]
    intro e he z
    obtain ⟨x, t, ek⟩ := keyOf e he
    unfold DictEntry.refKey at z
    rw [ek] at z
    cases z
  unfold PySem.W.nsIn
  rw [hl]
  dsimp only
  rw [fnone]
  dsimp only
  rw [norf]
  rfl
section
variable {X : Cx} {L : Lk}
def kinFW (neg : Bool) (p : Addr) (tbl : List (List Nat × W)) : RW2 := fun x y h R => y = .ref p ∧ match x with | .str s => R (.bl (if neg then !(tabW tbl s).isSome else (tabW tbl s).isSome)) h | _ => False
theorem lf_kinF {w : World} {K : PySem.W.Frag} {p : Addr} {tbl : List (List Nat × W)} {neg : Bool} (F : KFull w K p tbl) : Lf2 K (rKin neg K p) (kinFW neg p tbl) := fun x y H Q w1 w2 h R r1 r2 hr t k => by
  obtain ⟨e1, t⟩ := t
  subst e1
  split at t
  · rename_i s
    cases r1; cases r2
    cases e : tabW tbl s with
    | some w1 =>
      rw [e] at t
      obtain ⟨u, n, q⟩ := F.yes.at e
      refine ⟨_, _, rfl, rfl, n, ?_⟩
      cases neg <;> exact k.go hr t (.bl _)
    | none =>
      rw [e] at t
      refine ⟨_, _, rfl, rfl, F.no e, ?_⟩
      cases neg <;> exact k.go hr t (.bl _)
  · exact t.elim
theorem go_kinF {neg : Bool} {p : Addr} {tbl : List (List Nat × W)} {h : HW} {R : KW} {s : List Nat} (k : R (.bl (if neg then !(tabW tbl s).isSome else (tabW tbl s).isSome)) h) : kinFW neg p tbl (.str s) (.ref p) h R := ⟨rfl, k⟩
end
/-! ## a, b = x, y -/
section
variable {X : Cx} {L : Lk}
def sPar (i j : Nat) (t : TAW) : TSW := fun D ρ h => t ρ h fun ws h1 => ∃ v w, ws = [v, w] ∧ D.nx ((ρ.set i (some v)).set j (some w)) h1
theorem ws_par {i j : Nat} {x y : Str} {a b : Expr} {t : TAW} {px py pt pos : Pos} {kt k2 : Nat} {pt2 : Pos} (hc : X.calm = true) (hN : X.N.Nodup) (hi : X.N[i]? = some x) (hj : X.N[j]? = some y) (hij : i ≠ j)
    (hx : X.env.scope.names.lookup x = some .local) (hy : X.env.scope.names.lookup y = some .local) (ha : WA X L [a, b] t)
    (hw : swappedStores [.Tuple [.Name x px, .Name y py] kt pt] (.Tuple [a, b] k2 pt2) X.env = pure (some [x, y]))
    (hs : swapsWithSole [.Tuple [.Name x px, .Name y py] kt pt] (.Tuple [a, b] k2 pt2) pos.line X.env = pure false := by rfl) :
    WS X L (.Assign [.Tuple [.Name x px, .Name y py] kt pt] (.Tuple [a, b] k2 pt2) pos) (sPar i j t) := (ps_par hc hN hi hj hij hx hy ha hw hs).imp fun D σ H ⟨ρ, h, DW, S, t1, k⟩ =>
  ⟨ρ, h, _, S, t1, fun ws h1 vs H1 ⟨v, w, e, q⟩ s1 r1 rw => by
    subst e
    obtain ⟨v', w', rfl, q1, q2⟩ := rw.two
    exact ⟨v', w', rfl, k.nx _ h1 _ H1 q s1 r1 (((S.sr.mono s1).set q1 i).set q2 j)⟩⟩
theorem go_par {i j : Nat} {t : TAW} {D : EndsW} {ρ : SlW} {h : HW} (k : t ρ h fun ws h1 => ∃ v w, ws = [v, w] ∧ D.nx ((ρ.set i (some v)).set j (some w)) h1) : sPar i j t D ρ h := k
end
end Wl

set_option Elab.async false
set_option linter.all false
set_option maxRecDepth 100000
set_option maxHeartbeats 4000000
namespace Lw
open PySem PySem.Spec PyProof.Rows L2 Wl
abbrev digitsS : List Nat := [48, 49, 50, 51, 52, 53, 54, 55, 56, 57]
abbrev lettersS : List Nat := [97, 98, 99, 100, 101, 102, 103, 104, 105, 106, 107, 108, 109, 110, 111, 112, 113, 114, 115, 116, 117, 118, 119, 120, 121, 122]
abbrev signsS : List Nat := [92, 58, 46, 61, 43, 45, 42, 33, 40, 41, 59, 44]
abbrev upperS : List Nat := [65, 66, 67, 68, 69, 70, 71, 72, 73, 74, 75, 76, 77, 78, 79, 80, 81, 82, 83, 84, 85, 86, 87, 88, 89, 90]
abbrev wDef : List Nat := [100, 101, 102]
abbrev wIn : List Nat := [105, 110]
abbrev wInt : List Nat := [73, 110, 116]
abbrev wLet : List Nat := [108, 101, 116]
abbrev z_ : List Nat := []
abbrev z_0 : List Nat := [48]
abbrev z_01x2e0 : List Nat := [48, 49, 46, 48]
abbrev z_0x2e0 : List Nat := [48, 46, 48]
abbrev z_1x2e0 : List Nat := [49, 46, 48]
abbrev z_1x2e0x3b : List Nat := [49, 46, 48, 59]
abbrev z_2x2e1 : List Nat := [50, 46, 49]
abbrev z_anx20agentx20isx20notx20ofx20thex20formx20thatx20itsx20kindx20asksx20for : List Nat := [97, 110, 32, 97, 103, 101, 110, 116, 32, 105, 115, 32, 110, 111, 116, 32, 111, 102, 32, 116, 104, 101, 32, 102, 111, 114, 109, 32, 116, 104, 97, 116, 32, 105, 116, 115, 32, 107, 105, 110, 100, 32, 97, 115, 107, 115, 32, 102, 111, 114]
abbrev z_app : List Nat := [97, 112, 112]
abbrev z_ax20portx20isx20notx20writtenx20asx20twox20numbersx20withx20ax20dotx20betweenx20them : List Nat := [97, 32, 112, 111, 114, 116, 32, 105, 115, 32, 110, 111, 116, 32, 119, 114, 105, 116, 116, 101, 110, 32, 97, 115, 32, 116, 119, 111, 32, 110, 117, 109, 98, 101, 114, 115, 32, 119, 105, 116, 104, 32, 97, 32, 100, 111, 116, 32, 98, 101, 116, 119, 101, 101, 110, 32, 116, 104, 101, 109]
abbrev z_ax20portx20isx20thex20endx20ofx20nox20wire : List Nat := [97, 32, 112, 111, 114, 116, 32, 105, 115, 32, 116, 104, 101, 32, 101, 110, 100, 32, 111, 102, 32, 110, 111, 32, 119, 105, 114, 101]
abbrev z_ax20wirex20doesx20notx20endx20atx20twox20portsx20withoutx20anotherx20wire : List Nat := [97, 32, 119, 105, 114, 101, 32, 100, 111, 101, 115, 32, 110, 111, 116, 32, 101, 110, 100, 32, 97, 116, 32, 116, 119, 111, 32, 112, 111, 114, 116, 115, 32, 119, 105, 116, 104, 111, 117, 116, 32, 97, 110, 111, 116, 104, 101, 114, 32, 119, 105, 114, 101]
abbrev z_ax20wirex20doesx20notx20havex20twox20ends : List Nat := [97, 32, 119, 105, 114, 101, 32, 100, 111, 101, 115, 32, 110, 111, 116, 32, 104, 97, 118, 101, 32, 116, 119, 111, 32, 101, 110, 100, 115]
abbrev z_bang : List Nat := [98, 97, 110, 103]
abbrev z_box : List Nat := [98, 111, 120]
abbrev z_fan : List Nat := [102, 97, 110]
abbrev z_fun : List Nat := [102, 117, 110]
abbrev z_int : List Nat := [105, 110, 116]
abbrev z_lam : List Nat := [108, 97, 109]
abbrev z_lamx2f0 : List Nat := [108, 97, 109, 47, 48]
abbrev z_num : List Nat := [110, 117, 109]
abbrev z_numx3d05 : List Nat := [110, 117, 109, 61, 48, 53]
abbrev z_numx3d5x3b : List Nat := [110, 117, 109, 61, 53, 59]
abbrev z_op : List Nat := [111, 112]
abbrev z_op1 : List Nat := [111, 112, 49]
abbrev z_opx2f0x3dx2b : List Nat := [111, 112, 47, 48, 61, 43]
abbrev z_pair : List Nat := [112, 97, 105, 114]
abbrev z_root : List Nat := [114, 111, 111, 116]
abbrev z_split : List Nat := [115, 112, 108, 105, 116]
abbrev z_therex20arex20 : List Nat := [116, 104, 101, 114, 101, 32, 97, 114, 101, 32]
abbrev z_thex20rootx20doesx20notx20reachx20allx20agents : List Nat := [116, 104, 101, 32, 114, 111, 111, 116, 32, 100, 111, 101, 115, 32, 110, 111, 116, 32, 114, 101, 97, 99, 104, 32, 97, 108, 108, 32, 97, 103, 101, 110, 116, 115]
abbrev z_thex20textx20isx20notx20thex20canonicalx20textx20ofx20thex20netx20thatx20itx20describes : List Nat := [116, 104, 101, 32, 116, 101, 120, 116, 32, 105, 115, 32, 110, 111, 116, 32, 116, 104, 101, 32, 99, 97, 110, 111, 110, 105, 99, 97, 108, 32, 116, 101, 120, 116, 32, 111, 102, 32, 116, 104, 101, 32, 110, 101, 116, 32, 116, 104, 97, 116, 32, 105, 116, 32, 100, 101, 115, 99, 114, 105, 98, 101, 115]
abbrev z_var : List Nat := [118, 97, 114]
abbrev z_x : List Nat := [120]
abbrev z_x20 : List Nat := [32]
abbrev z_x20roots : List Nat := [32, 114, 111, 111, 116, 115]
abbrev z_x2a : List Nat := [42]
abbrev z_x2b : List Nat := [43]
abbrev z_x2bx2dx2a : List Nat := [43, 45, 42]
abbrev z_x2d : List Nat := [45]
abbrev z_x2d1x2e0 : List Nat := [45, 49, 46, 48]
abbrev z_x2e : List Nat := [46]
abbrev z_x2f : List Nat := [47]
abbrev z_x3bx20 : List Nat := [59, 32]
abbrev z_x3d : List Nat := [61]
abbrev tb_PORTS : List (List Nat × W) := [(z_root, .int 1), (z_lam, .int 3), (z_app, .int 3), (z_fan, .int 3), (z_pair, .int 3), (z_split, .int 3), (z_num, .int 1), (z_op, .int 3), (z_op1, .int 2)]
abbrev no_PORTS : List (List Nat) := []
def topS (i : Nat) : Stmt := PySem.Challenge.pw_sharenet_k17_canonical_texts.main.body.getD i (.Pass ⟨0, 0, 0, 0⟩)
abbrev s_add_pair : Stmt := topS 5
abbrev N_add_pair : List Str := ["pairs", "pair", "at"]
theorem sc_add_pair : FnScope N_add_pair ["pairs", "pair"] (defScope s_add_pair) := ⟨rfl, rfl, rfl, by decide +kernel, rfl, by decide +kernel, by decide +kernel⟩
abbrev s__place_of : Stmt := topS 6
abbrev N__place_of : List Str := ["pairs", "pair", "low", "high", "middle"]
theorem sc__place_of : FnScope N__place_of ["pairs", "pair"] (defScope s__place_of) := ⟨rfl, rfl, rfl, by decide +kernel, rfl, by decide +kernel, by decide +kernel⟩
abbrev s_Net___init__ : Stmt := inClass (topS 10) 0
abbrev N_Net___init__ : List Str := ["self", "agents", "wires", "name", "peers", "agent"]
theorem sc_Net___init__ : FnScope N_Net___init__ ["self", "agents", "wires"] (defScope s_Net___init__) := ⟨rfl, rfl, rfl, by decide +kernel, rfl, by decide +kernel, by decide +kernel⟩
abbrev s_Net_names : Stmt := inClass (topS 10) 1
abbrev N_Net_names : List Str := ["self"]
theorem sc_Net_names : FnScope N_Net_names ["self"] (defScope s_Net_names) := ⟨rfl, rfl, rfl, by decide +kernel, rfl, by decide +kernel, by decide +kernel⟩
abbrev s_Net_agent : Stmt := inClass (topS 10) 2
abbrev N_Net_agent : List Str := ["self", "name"]
theorem sc_Net_agent : FnScope N_Net_agent ["self", "name"] (defScope s_Net_agent) := ⟨rfl, rfl, rfl, by decide +kernel, rfl, by decide +kernel, by decide +kernel⟩
abbrev s_Net_peer : Stmt := inClass (topS 10) 3
abbrev N_Net_peer : List Str := ["self", "name", "port"]
theorem sc_Net_peer : FnScope N_Net_peer ["self", "name", "port"] (defScope s_Net_peer) := ⟨rfl, rfl, rfl, by decide +kernel, rfl, by decide +kernel, by decide +kernel⟩
abbrev s_Net_pairs : Stmt := inClass (topS 10) 4
abbrev N_Net_pairs : List Str := ["self"]
theorem sc_Net_pairs : FnScope N_Net_pairs ["self"] (defScope s_Net_pairs) := ⟨rfl, rfl, rfl, by decide +kernel, rfl, by decide +kernel, by decide +kernel⟩
abbrev s_Net___len__ : Stmt := inClass (topS 10) 6
abbrev N_Net___len__ : List Str := ["self"]
theorem sc_Net___len__ : FnScope N_Net___len__ ["self"] (defScope s_Net___len__) := ⟨rfl, rfl, rfl, by decide +kernel, rfl, by decide +kernel, by decide +kernel⟩
abbrev s_Net_reached : Stmt := inClass (topS 10) 7
abbrev N_Net_reached : List Str := ["self", "names", "known", "at", "other", "_"]
theorem sc_Net_reached : FnScope N_Net_reached ["self"] (defScope s_Net_reached) := ⟨rfl, rfl, rfl, by decide +kernel, rfl, by decide +kernel, by decide +kernel⟩
abbrev s_Net_note_pair : Stmt := inClass (topS 10) 10
abbrev N_Net_note_pair : List Str := ["self", "one", "other"]
theorem sc_Net_note_pair : FnScope N_Net_note_pair ["self", "one", "other"] (defScope s_Net_note_pair) := ⟨rfl, rfl, rfl, by decide +kernel, rfl, by decide +kernel, by decide +kernel⟩
abbrev s__refuse_agents : Stmt := topS 11
abbrev N__refuse_agents : List Str := ["agents", "agent", "roots"]
theorem sc__refuse_agents : FnScope N__refuse_agents ["agents"] (defScope s__refuse_agents) := ⟨rfl, rfl, rfl, by decide +kernel, rfl, by decide +kernel, by decide +kernel⟩
abbrev s__is_agent : Stmt := topS 12
abbrev N__is_agent : List Str := ["agent", "kind", "level", "data"]
theorem sc__is_agent : FnScope N__is_agent ["agent"] (defScope s__is_agent) := ⟨rfl, rfl, rfl, by decide +kernel, rfl, by decide +kernel, by decide +kernel⟩
abbrev s__is_integer : Stmt := topS 13
abbrev N__is_integer : List Str := ["value"]
theorem sc__is_integer : FnScope N__is_integer ["value"] (defScope s__is_integer) := ⟨rfl, rfl, rfl, by decide +kernel, rfl, by decide +kernel, by decide +kernel⟩
abbrev s__ends_of : Stmt := topS 14
abbrev N__ends_of : List Str := ["agents", "wires", "ends", "wire", "one", "other", "name", "agent", "peers", "peer"]
theorem sc__ends_of : FnScope N__ends_of ["agents", "wires"] (defScope s__ends_of) := ⟨rfl, rfl, rfl, by decide +kernel, rfl, by decide +kernel, by decide +kernel⟩
abbrev s__is_open : Stmt := topS 15
abbrev N__is_open : List Str := ["ends", "port", "name", "number"]
theorem sc__is_open : FnScope N__is_open ["ends", "port"] (defScope s__is_open) := ⟨rfl, rfl, rfl, by decide +kernel, rfl, by decide +kernel, by decide +kernel⟩
abbrev s_decimal : Stmt := topS 20
abbrev N_decimal : List Str := ["number", "rest", "chunks", "chunk"]
theorem sc_decimal : FnScope N_decimal ["number"] (defScope s_decimal) := ⟨rfl, rfl, rfl, by decide +kernel, rfl, by decide +kernel, by decide +kernel⟩
abbrev s_integer_from : Stmt := topS 21
abbrev N_integer_from : List Str := ["text", "digits", "at", "number", "sign"]
theorem sc_integer_from : FnScope N_integer_from ["text"] (defScope s_integer_from) := ⟨rfl, rfl, rfl, by decide +kernel, rfl, by decide +kernel, by decide +kernel⟩
abbrev s_canonical_order : Stmt := topS 23
abbrev N_canonical_order : List Str := ["net"]
theorem sc_canonical_order : FnScope N_canonical_order ["net"] (defScope s_canonical_order) := ⟨rfl, rfl, rfl, by decide +kernel, rfl, by decide +kernel, by decide +kernel⟩
abbrev s_canonical_numbers : Stmt := topS 24
abbrev N_canonical_numbers : List Str := ["net", "number", "name"]
theorem sc_canonical_numbers : FnScope N_canonical_numbers ["net"] (defScope s_canonical_numbers) := ⟨rfl, rfl, rfl, by decide +kernel, rfl, by decide +kernel, by decide +kernel⟩
abbrev s_canonical_text : Stmt := topS 25
abbrev N_canonical_text : List Str := ["net", "numbers", "name"]
theorem sc_canonical_text : FnScope N_canonical_text ["net"] (defScope s_canonical_text) := ⟨rfl, rfl, rfl, by decide +kernel, rfl, by decide +kernel, by decide +kernel⟩
abbrev s_same_net : Stmt := topS 26
abbrev N_same_net : List Str := ["first", "second"]
theorem sc_same_net : FnScope N_same_net ["first", "second"] (defScope s_same_net) := ⟨rfl, rfl, rfl, by decide +kernel, rfl, by decide +kernel, by decide +kernel⟩
abbrev s_read_net : Stmt := topS 27
abbrev N_read_net : List Str := ["text", "agents", "wires", "net", "name", "part", "words", "port", "word", "peer"]
theorem sc_read_net : FnScope N_read_net ["text"] (defScope s_read_net) := ⟨rfl, rfl, rfl, by decide +kernel, rfl, by decide +kernel, by decide +kernel⟩
abbrev s__part_text : Stmt := topS 28
abbrev N__part_text : List Str := ["net", "name", "numbers", "head", "peers", "kind", "level", "data", "port", "peer"]
theorem sc__part_text : FnScope N__part_text ["net", "name", "numbers"] (defScope s__part_text) := ⟨rfl, rfl, rfl, by decide +kernel, rfl, by decide +kernel, by decide +kernel⟩
abbrev s__data_text : Stmt := topS 29
abbrev N__data_text : List Str := ["data"]
theorem sc__data_text : FnScope N__data_text ["data"] (defScope s__data_text) := ⟨rfl, rfl, rfl, by decide +kernel, rfl, by decide +kernel, by decide +kernel⟩
abbrev s__agent_from : Stmt := topS 30
abbrev N__agent_from : List Str := ["word", "left", "_", "data", "kind", "level"]
theorem sc__agent_from : FnScope N__agent_from ["word"] (defScope s__agent_from) := ⟨rfl, rfl, rfl, by decide +kernel, rfl, by decide +kernel, by decide +kernel⟩
abbrev s__port_from : Stmt := topS 31
abbrev N__port_from : List Str := ["word", "left", "_", "right", "name", "port"]
theorem sc__port_from : FnScope N__port_from ["word"] (defScope s__port_from) := ⟨rfl, rfl, rfl, by decide +kernel, rfl, by decide +kernel, by decide +kernel⟩
abbrev s__law_cell : Stmt := topS 34
abbrev N__law_cell : List Str := ["script", "k"]
theorem sc__law_cell : FnScope N__law_cell ["script", "k"] (defScope s__law_cell) := ⟨rfl, rfl, rfl, by decide +kernel, rfl, by decide +kernel, by decide +kernel⟩
abbrev s__law_numbers : Stmt := topS 35
abbrev N__law_numbers : List Str := ["script", "first", "most", "found", "at", "cell", "k", "mixed"]
theorem sc__law_numbers : FnScope N__law_numbers ["script", "first", "most"] (defScope s__law_numbers) := ⟨rfl, rfl, rfl, by decide +kernel, rfl, by decide +kernel, by decide +kernel⟩
abbrev s__law_ports : Stmt := topS 36
abbrev N__law_ports : List Str := ["kind"]
theorem sc__law_ports : FnScope N__law_ports ["kind"] (defScope s__law_ports) := ⟨rfl, rfl, rfl, by decide +kernel, rfl, by decide +kernel, by decide +kernel⟩
abbrev s__law_any_net : Stmt := topS 37
abbrev N__law_any_net : List Str := ["numbers", "agents", "number", "odd", "ports", "name", "wires", "seed", "while_left", "k", "kind", "level", "data", "first", "second", "agent", "port"]
theorem sc__law_any_net : FnScope N__law_any_net ["numbers"] (defScope s__law_any_net) := ⟨rfl, rfl, rfl, by decide +kernel, rfl, by decide +kernel, by decide +kernel⟩
abbrev s__law_reach : Stmt := topS 38
abbrev N__law_reach : List Str := ["agents", "wires", "found", "at", "k", "here", "port", "wire"]
theorem sc__law_reach : FnScope N__law_reach ["agents", "wires"] (defScope s__law_reach) := ⟨rfl, rfl, rfl, by decide +kernel, rfl, by decide +kernel, by decide +kernel⟩
abbrev s__law_peer : Stmt := topS 39
abbrev N__law_peer : List Str := ["wires", "end", "wire"]
theorem sc__law_peer : FnScope N__law_peer ["wires", "end"] (defScope s__law_peer) := ⟨rfl, rfl, rfl, by decide +kernel, rfl, by decide +kernel, by decide +kernel⟩
abbrev s__law_data_text : Stmt := topS 40
abbrev N__law_data_text : List Str := ["agent"]
theorem sc__law_data_text : FnScope N__law_data_text ["agent"] (defScope s__law_data_text) := ⟨rfl, rfl, rfl, by decide +kernel, rfl, by decide +kernel, by decide +kernel⟩
abbrev s__law_net_text : Stmt := topS 41
abbrev N__law_net_text : List Str := ["agents", "wires", "order", "parts", "name", "agent", "head", "words", "port", "end"]
theorem sc__law_net_text : FnScope N__law_net_text ["agents", "wires"] (defScope s__law_net_text) := ⟨rfl, rfl, rfl, by decide +kernel, rfl, by decide +kernel, by decide +kernel⟩
abbrev s__law_only : Stmt := topS 42
abbrev N__law_only : List Str := ["agents", "wires", "order", "kept", "moved", "wire", "name"]
theorem sc__law_only : FnScope N__law_only ["agents", "wires", "order"] (defScope s__law_only) := ⟨rfl, rfl, rfl, by decide +kernel, rfl, by decide +kernel, by decide +kernel⟩
abbrev s_law : Stmt := topS 43
abbrev N_law : List Str := ["script", "drawn", "reached", "first", "mixed", "digit", "left", "k", "second", "net", "text", "other", "back", "words", "place", "changed", "e", "found"]
theorem sc_law : FnScope N_law ["script"] (defScope s_law) := ⟨rfl, rfl, rfl, by decide +kernel, rfl, by decide +kernel, by decide +kernel⟩
structure Tx (P : Program) (w : World) (K : PySem.W.Frag) (mg : Str → Option Value) where
  aC_Net : Addr
  a_add_pair : Addr
  fd_add_pair : FuncData
  F_add_pair : Fun K "add_pair" "add_pair" s_add_pair a_add_pair fd_add_pair
  b_add_pair : L2.Binds K fd_add_pair ["pairs", "pair"] []
  g_add_pair : mg "add_pair" = some (.ref a_add_pair)
  a__place_of : Addr
  fd__place_of : FuncData
  F__place_of : Fun K "_place_of" "_place_of" s__place_of a__place_of fd__place_of
  b__place_of : L2.Binds K fd__place_of ["pairs", "pair"] []
  g__place_of : mg "_place_of" = some (.ref a__place_of)
  a_Net___init__ : Addr
  fd_Net___init__ : FuncData
  F_Net___init__ : Fun K "__init__" "Net.__init__" s_Net___init__ a_Net___init__ fd_Net___init__
  b_Net___init__ : L2.Binds K fd_Net___init__ ["self", "agents", "wires"] []
  a_Net_names : Addr
  fd_Net_names : FuncData
  F_Net_names : Fun K "names" "Net.names" s_Net_names a_Net_names fd_Net_names
  b_Net_names : L2.Binds K fd_Net_names ["self"] []
  a_Net_agent : Addr
  fd_Net_agent : FuncData
  F_Net_agent : Fun K "agent" "Net.agent" s_Net_agent a_Net_agent fd_Net_agent
  b_Net_agent : L2.Binds K fd_Net_agent ["self", "name"] []
  a_Net_peer : Addr
  fd_Net_peer : FuncData
  F_Net_peer : Fun K "peer" "Net.peer" s_Net_peer a_Net_peer fd_Net_peer
  b_Net_peer : L2.Binds K fd_Net_peer ["self", "name", "port"] []
  a_Net_pairs : Addr
  fd_Net_pairs : FuncData
  F_Net_pairs : Fun K "pairs" "Net.pairs" s_Net_pairs a_Net_pairs fd_Net_pairs
  b_Net_pairs : L2.Binds K fd_Net_pairs ["self"] []
  a_Net___len__ : Addr
  fd_Net___len__ : FuncData
  F_Net___len__ : Fun K "__len__" "Net.__len__" s_Net___len__ a_Net___len__ fd_Net___len__
  b_Net___len__ : L2.Binds K fd_Net___len__ ["self"] []
  a_Net_reached : Addr
  fd_Net_reached : FuncData
  F_Net_reached : Fun K "reached" "Net.reached" s_Net_reached a_Net_reached fd_Net_reached
  b_Net_reached : L2.Binds K fd_Net_reached ["self"] []
  a_Net_note_pair : Addr
  fd_Net_note_pair : FuncData
  F_Net_note_pair : Fun K "note_pair" "Net.note_pair" s_Net_note_pair a_Net_note_pair fd_Net_note_pair
  b_Net_note_pair : L2.Binds K fd_Net_note_pair ["self", "one", "other"] []
  a__refuse_agents : Addr
  fd__refuse_agents : FuncData
  F__refuse_agents : Fun K "_refuse_agents" "_refuse_agents" s__refuse_agents a__refuse_agents fd__refuse_agents
  b__refuse_agents : L2.Binds K fd__refuse_agents ["agents"] []
  g__refuse_agents : mg "_refuse_agents" = some (.ref a__refuse_agents)
  a__is_agent : Addr
  fd__is_agent : FuncData
  F__is_agent : Fun K "_is_agent" "_is_agent" s__is_agent a__is_agent fd__is_agent
  b__is_agent : L2.Binds K fd__is_agent ["agent"] []
  g__is_agent : mg "_is_agent" = some (.ref a__is_agent)
  a__is_integer : Addr
  fd__is_integer : FuncData
  F__is_integer : Fun K "_is_integer" "_is_integer" s__is_integer a__is_integer fd__is_integer
  b__is_integer : L2.Binds K fd__is_integer ["value"] []
  g__is_integer : mg "_is_integer" = some (.ref a__is_integer)
  a__ends_of : Addr
  fd__ends_of : FuncData
  F__ends_of : Fun K "_ends_of" "_ends_of" s__ends_of a__ends_of fd__ends_of
  b__ends_of : L2.Binds K fd__ends_of ["agents", "wires"] []
  g__ends_of : mg "_ends_of" = some (.ref a__ends_of)
  a__is_open : Addr
  fd__is_open : FuncData
  F__is_open : Fun K "_is_open" "_is_open" s__is_open a__is_open fd__is_open
  b__is_open : L2.Binds K fd__is_open ["ends", "port"] []
  g__is_open : mg "_is_open" = some (.ref a__is_open)
  a_decimal : Addr
  fd_decimal : FuncData
  F_decimal : Fun K "decimal" "decimal" s_decimal a_decimal fd_decimal
  b_decimal : L2.Binds K fd_decimal ["number"] []
  g_decimal : mg "decimal" = some (.ref a_decimal)
  a_integer_from : Addr
  fd_integer_from : FuncData
  F_integer_from : Fun K "integer_from" "integer_from" s_integer_from a_integer_from fd_integer_from
  b_integer_from : L2.Binds K fd_integer_from ["text"] []
  g_integer_from : mg "integer_from" = some (.ref a_integer_from)
  a_canonical_order : Addr
  fd_canonical_order : FuncData
  F_canonical_order : Fun K "canonical_order" "canonical_order" s_canonical_order a_canonical_order fd_canonical_order
  b_canonical_order : L2.Binds K fd_canonical_order ["net"] []
  g_canonical_order : mg "canonical_order" = some (.ref a_canonical_order)
  a_canonical_numbers : Addr
  fd_canonical_numbers : FuncData
  F_canonical_numbers : Fun K "canonical_numbers" "canonical_numbers" s_canonical_numbers a_canonical_numbers fd_canonical_numbers
  b_canonical_numbers : L2.Binds K fd_canonical_numbers ["net"] []
  g_canonical_numbers : mg "canonical_numbers" = some (.ref a_canonical_numbers)
  a_canonical_text : Addr
  fd_canonical_text : FuncData
  F_canonical_text : Fun K "canonical_text" "canonical_text" s_canonical_text a_canonical_text fd_canonical_text
  b_canonical_text : L2.Binds K fd_canonical_text ["net"] []
  g_canonical_text : mg "canonical_text" = some (.ref a_canonical_text)
  a_same_net : Addr
  fd_same_net : FuncData
  F_same_net : Fun K "same_net" "same_net" s_same_net a_same_net fd_same_net
  b_same_net : L2.Binds K fd_same_net ["first", "second"] []
  g_same_net : mg "same_net" = some (.ref a_same_net)
  a_read_net : Addr
  fd_read_net : FuncData
  F_read_net : Fun K "read_net" "read_net" s_read_net a_read_net fd_read_net
  b_read_net : L2.Binds K fd_read_net ["text"] []
  g_read_net : mg "read_net" = some (.ref a_read_net)
  a__part_text : Addr
  fd__part_text : FuncData
  F__part_text : Fun K "_part_text" "_part_text" s__part_text a__part_text fd__part_text
  b__part_text : L2.Binds K fd__part_text ["net", "name", "numbers"] []
  g__part_text : mg "_part_text" = some (.ref a__part_text)
  a__data_text : Addr
  fd__data_text : FuncData
  F__data_text : Fun K "_data_text" "_data_text" s__data_text a__data_text fd__data_text
  b__data_text : L2.Binds K fd__data_text ["data"] []
  g__data_text : mg "_data_text" = some (.ref a__data_text)
  a__agent_from : Addr
  fd__agent_from : FuncData
  F__agent_from : Fun K "_agent_from" "_agent_from" s__agent_from a__agent_from fd__agent_from
  b__agent_from : L2.Binds K fd__agent_from ["word"] []
  g__agent_from : mg "_agent_from" = some (.ref a__agent_from)
  a__port_from : Addr
  fd__port_from : FuncData
  F__port_from : Fun K "_port_from" "_port_from" s__port_from a__port_from fd__port_from
  b__port_from : L2.Binds K fd__port_from ["word"] []
  g__port_from : mg "_port_from" = some (.ref a__port_from)
  a__law_cell : Addr
  fd__law_cell : FuncData
  F__law_cell : Fun K "_law_cell" "_law_cell" s__law_cell a__law_cell fd__law_cell
  b__law_cell : L2.Binds K fd__law_cell ["script", "k"] []
  g__law_cell : mg "_law_cell" = some (.ref a__law_cell)
  a__law_numbers : Addr
  fd__law_numbers : FuncData
  F__law_numbers : Fun K "_law_numbers" "_law_numbers" s__law_numbers a__law_numbers fd__law_numbers
  b__law_numbers : L2.Binds K fd__law_numbers ["script", "first", "most"] []
  g__law_numbers : mg "_law_numbers" = some (.ref a__law_numbers)
  a__law_ports : Addr
  fd__law_ports : FuncData
  F__law_ports : Fun K "_law_ports" "_law_ports" s__law_ports a__law_ports fd__law_ports
  b__law_ports : L2.Binds K fd__law_ports ["kind"] []
  g__law_ports : mg "_law_ports" = some (.ref a__law_ports)
  a__law_any_net : Addr
  fd__law_any_net : FuncData
  F__law_any_net : Fun K "_law_any_net" "_law_any_net" s__law_any_net a__law_any_net fd__law_any_net
  b__law_any_net : L2.Binds K fd__law_any_net ["numbers"] []
  g__law_any_net : mg "_law_any_net" = some (.ref a__law_any_net)
  a__law_reach : Addr
  fd__law_reach : FuncData
  F__law_reach : Fun K "_law_reach" "_law_reach" s__law_reach a__law_reach fd__law_reach
  b__law_reach : L2.Binds K fd__law_reach ["agents", "wires"] []
  g__law_reach : mg "_law_reach" = some (.ref a__law_reach)
  a__law_peer : Addr
  fd__law_peer : FuncData
  F__law_peer : Fun K "_law_peer" "_law_peer" s__law_peer a__law_peer fd__law_peer
  b__law_peer : L2.Binds K fd__law_peer ["wires", "end"] []
  g__law_peer : mg "_law_peer" = some (.ref a__law_peer)
  a__law_data_text : Addr
  fd__law_data_text : FuncData
  F__law_data_text : Fun K "_law_data_text" "_law_data_text" s__law_data_text a__law_data_text fd__law_data_text
  b__law_data_text : L2.Binds K fd__law_data_text ["agent"] []
  g__law_data_text : mg "_law_data_text" = some (.ref a__law_data_text)
  a__law_net_text : Addr
  fd__law_net_text : FuncData
  F__law_net_text : Fun K "_law_net_text" "_law_net_text" s__law_net_text a__law_net_text fd__law_net_text
  b__law_net_text : L2.Binds K fd__law_net_text ["agents", "wires"] []
  g__law_net_text : mg "_law_net_text" = some (.ref a__law_net_text)
  a__law_only : Addr
  fd__law_only : FuncData
  F__law_only : Fun K "_law_only" "_law_only" s__law_only a__law_only fd__law_only
  b__law_only : L2.Binds K fd__law_only ["agents", "wires", "order"] []
  g__law_only : mg "_law_only" = some (.ref a__law_only)
  a_law : Addr
  fd_law : FuncData
  F_law : Fun K "law" "law" s_law a_law fd_law
  b_law : L2.Binds K fd_law ["script"] []
  g_law : mg "law" = some (.ref a_law)
  cls_Net : Cls K aC_Net
  gC_Net : mg "Net" = some (.ref aC_Net)
  mk_Net : Mk K aC_Net a_Net___init__
  na_Net_active : NoAttr K aC_Net "active"
  na_Net_agents : NoAttr K aC_Net "agents"
  na_Net_ends : NoAttr K aC_Net "ends"
  na_Net_next_name : NoAttr K aC_Net "next_name"
  na_Net_root : NoAttr K aC_Net "root"
  m_Net_agent : Meth K aC_Net "agent" a_Net_agent
  m_Net_names : Meth K aC_Net "names" a_Net_names
  m_Net_note_pair : Meth K aC_Net "note_pair" a_Net_note_pair
  m_Net_peer : Meth K aC_Net "peer" a_Net_peer
  m_Net_reached : Meth K aC_Net "reached" a_Net_reached
  aC_InvalidNet : Addr
  gC_InvalidNet : mg "InvalidNet" = some (.ref aC_InvalidNet)
  x_InvalidNet : PySem.W.excIn K aC_InvalidNet [.type "ValueError", .type "Exception", .type "BaseException", .type "object"] "ValueError.__new__" = true
  k_InvalidNet : PySem.W.keepIn K (.ref aC_InvalidNet) = true
  b_InvalidNet : PySem.W.subIn K (.ref aC_InvalidNet) (.type "BaseException") = some true
  t_InvalidNet : PySem.W.typeIn K (.ref aC_InvalidNet) = some (.type "type")
  aC_SharenetError : Addr
  gC_SharenetError : mg "SharenetError" = some (.ref aC_SharenetError)
  ec_InvalidNet : ExcC K aC_InvalidNet
  xm_InvalidNet_SharenetError : PySem.W.exmOne K (.ref aC_InvalidNet) (.ref aC_SharenetError) = some true
  is_InvalidNet_InvalidNet : PySem.W.kitOne K (.ref aC_InvalidNet) (.ref aC_InvalidNet) = some true
  c_DIGITS : ∃ t, mg "DIGITS" = some (.str (mkS digitsS) t)
  p_PORTS : Addr
  gk_PORTS : mg "PORTS" = some (.ref p_PORTS)
  t_PORTS : KTab w K p_PORTS tb_PORTS no_PORTS
  f_PORTS : KFull w K p_PORTS tb_PORTS
  c__CHUNK : ∃ t, mg "_CHUNK" = some (.int 10000000000000000000000000000000000000000000000000000000000000000 t)
  c__CHUNK_DIGITS : ∃ t, mg "_CHUNK_DIGITS" = some (.int 64 t)
  u__SIGNS : Value
  c__SIGNS : mg "_SIGNS" = some u__SIGNS
  s__SIGNS : Sk K u__SIGNS (.tup [.str z_x2b, .str z_x2d, .str z_x2a])
  m_abs : mg "abs" = none
  m_all : mg "all" = none
  m_bool : mg "bool" = none
  m_dict : mg "dict" = none
  m_enumerate : mg "enumerate" = none
  m_int : mg "int" = none
  m_isinstance : mg "isinstance" = none
  m_len : mg "len" = none
  m_list : mg "list" = none
  m_max : mg "max" = none
  m_min : mg "min" = none
  m_range : mg "range" = none
  m_sorted : mg "sorted" = none
  m_str : mg "str" = none
  m_sum : mg "sum" = none
  m_tuple : mg "tuple" = none



local macro_rules | `(tactic| walk_at "rm") => `(tactic| omega)
local macro_rules | `(tactic| walk_at "rm") => `(tactic| decide)
local macro_rules | `(tactic| walk_at "sz") => `(tactic| (simp; omega))
local macro_rules | `(tactic| walk_at "sz") => `(tactic| (simp only [List.length_append, List.length_map, List.length_cons, List.length_nil, List.length_range]; omega))
local macro_rules | `(tactic| walk_at "sz") => `(tactic| omega)
local macro_rules | `(tactic| walk_at "sz") => `(tactic| exact Nat.le_of_ble_eq_true rfl)
local macro_rules | `(tactic| walk_at "hp") => `(tactic| (rw [updW_ne (by assumption)]; walk_at "hp"))
local macro_rules | `(tactic| walk_at "hp") => `(tactic| assumption)
local macro_rules | `(tactic| walk_at "hp") => `(tactic| exact updW_same)
local macro_rules | `(tactic| walk_at "st1") => `(tactic| with_reducible refine go_lstZip ?_)
local macro_rules | `(tactic| walk_at "st1") => `(tactic| with_reducible refine go_slAT ?_)
local macro_rules | `(tactic| walk_at "st1") => `(tactic| with_reducible refine go_slA ?_)
local macro_rules | `(tactic| walk_at "st1") => `(tactic| with_reducible refine go_makeB ?_)
local macro_rules | `(tactic| walk_at "st1") => `(tactic| ((with_reducible show delFK (.ref _) (.int _) _ _); refine go_delFK (by walk_at "hp") ?a ?b ?_; (case a => omega); (case b => walk_at "sz")))
local macro_rules | `(tactic| walk_at "st1") => `(tactic| with_reducible refine go_sdelF ?_)
local macro_rules | `(tactic| walk_at "st1") => `(tactic| with_reducible refine go_notNT ?_)
local macro_rules | `(tactic| walk_at "st1") => `(tactic| ((with_reducible show tupleW [.ref _] _ _); refine go_tupleO (by walk_at "hp") ?_))
local macro_rules | `(tactic| walk_at "st1") => `(tactic| with_reducible refine go_tupleL ?_)
local macro_rules | `(tactic| walk_at "st1") => `(tactic| ((with_reducible show lixK _ (.ref _) (.int _) _ _); refine go_lixK (by walk_at "hp") (by first | assumption | exact rfl) ?_))
local macro_rules | `(tactic| walk_at "st1") => `(tactic| with_reducible refine go_lix ?_)
local macro_rules | `(tactic| walk_at "st1") => `(tactic| with_reducible refine go_raiseNK ?_)
local macro_rules | `(tactic| walk_at "st1") => `(tactic| with_reducible refine go_raiseN ?_)
local macro_rules | `(tactic| walk_at "st1") => `(tactic| with_reducible refine go_tupleT ?_)
local macro_rules | `(tactic| walk_at "st1") => `(tactic| with_reducible refine go_notNN ?_)
local macro_rules | `(tactic| walk_at "st1") => `(tactic| with_reducible refine go_isNT ?_)
local macro_rules | `(tactic| walk_at "st1") => `(tactic| with_reducible refine go_isNN ?_)
local macro_rules | `(tactic| walk_at "st1") => `(tactic| with_reducible refine go_yes ?_)
local macro_rules | `(tactic| walk_at "st1") => `(tactic| with_reducible refine go_nnff ?_)
local macro_rules | `(tactic| walk_at "st1") => `(tactic| with_reducible refine go_nntt ?_)
local macro_rules | `(tactic| walk_at "st1") => `(tactic| with_reducible refine go_ntt ?_)
local macro_rules | `(tactic| walk_at "st1") => `(tactic| with_reducible refine go_min2 ?_)
local macro_rules | `(tactic| walk_at "st1") => `(tactic| ((with_reducible show inSW _ _ _ (.str _) (.ref _) _ _); first | refine go_inSetF (by walk_at "hp") ?_ | refine go_inSetT (by walk_at "hp") ?_))
local macro_rules | `(tactic| walk_at "st1") => `(tactic| ((with_reducible show sFrz _ _ _ _ _); refine go_frz rfl (by walk_at "hp") ?_))
local macro_rules | `(tactic| walk_at "st1") => `(tactic| ((with_reducible show leSW (.str [_]) (.str [_]) _ _); refine go_leS1 ?_))
local macro_rules | `(tactic| walk_at "st1") => `(tactic| with_reducible refine go_lstRev ?_)
local macro_rules | `(tactic| walk_at "st1") => `(tactic| with_reducible refine go_sadd ?_)
local macro_rules | `(tactic| walk_at "st1") => `(tactic| with_reducible refine go_set0 ?_)
local macro_rules | `(tactic| walk_at "st1") => `(tactic| with_reducible refine go_max2 ?_)
local macro_rules | `(tactic| walk_at "st1") => `(tactic| with_reducible refine go_itL ?_)
local macro_rules | `(tactic| walk_at "st1") => `(tactic| with_reducible refine go_nff ?_)
local macro_rules | `(tactic| walk_at "st1") => `(tactic| with_reducible refine go_ff ?_)
local macro_rules | `(tactic| walk_at "st1") => `(tactic| with_reducible refine go_tt ?_)
local macro_rules | `(tactic| walk_at "st1") => `(tactic| with_reducible refine go_make ?_)
local macro_rules | `(tactic| walk_at "st1") => `(tactic| ((with_reducible show methK _ _ (.ref _) _ _); refine go_methK (by walk_at "hp") (by first | exact rfl | assumption) ?_))
local macro_rules | `(tactic| walk_at "st1") => `(tactic| with_reducible refine go_meth ?_)
local macro_rules | `(tactic| walk_at "st1") => `(tactic| ((with_reducible show putK _ _ (.ref _) _ _ _); refine go_putK (by walk_at "hp") (by exact Nat.le_of_ble_eq_true rfl) ?_))
local macro_rules | `(tactic| walk_at "st1") => `(tactic| with_reducible refine go_sfldaug ?_)
local macro_rules | `(tactic| walk_at "st1") => `(tactic| with_reducible refine go_sfld ?_)
local macro_rules | `(tactic| walk_at "st1") => `(tactic| ((with_reducible show fldK _ _ (.ref _) _ _); refine go_fldK (by walk_at "hp") (by first | exact rfl | assumption) ?_))
local macro_rules | `(tactic| walk_at "st1") => `(tactic| with_reducible refine go_fld ?_)
local macro_rules | `(tactic| walk_at "st1") => `(tactic| ((with_reducible show dictOW [.dic _] _ _); refine go_dictO rfl ?_))
local macro_rules | `(tactic| walk_at "st1") => `(tactic| ((with_reducible show dictW [.dic _] _ _); refine go_dict rfl ?_))
local macro_rules | `(tactic| walk_at "st1") => `(tactic| ((with_reducible show dputK (.ref _) _ _ _ _); refine go_dputK (by walk_at "hp") ?l ?_; (case l => walk_at "sz")))
local macro_rules | `(tactic| walk_at "st1") => `(tactic| with_reducible refine go_dput ?_)
local macro_rules | `(tactic| walk_at "st1") => `(tactic| with_reducible refine go_eqq ?_)
local macro_rules | `(tactic| walk_at "st1") => `(tactic| ((with_reducible show kget2K _ _ (.str _) _ _ _); first | refine go_kget2Y rfl ?_ | refine go_kget2N rfl (by decide) ?_))
local macro_rules | `(tactic| walk_at "st1") => `(tactic| with_reducible refine go_kget2 ?_)
local macro_rules | `(tactic| walk_at "st1") => `(tactic| ((with_reducible show kgetW _ _ _ _ _ _); refine go_kget rfl ?_))
local macro_rules | `(tactic| walk_at "st1") => `(tactic| ((with_reducible show truK (truW (.ref _) _) _ _); refine go_truO (by walk_at "hp") ?_))
local macro_rules | `(tactic| walk_at "st1") => `(tactic| with_reducible refine go_starT ?_)
local macro_rules | `(tactic| walk_at "st1") => `(tactic| with_reducible refine go_starL ?_)
local macro_rules | `(tactic| walk_at "st1") => `(tactic| with_reducible refine go_star ?_)
local macro_rules | `(tactic| walk_at "st1") => `(tactic| with_reducible refine go_truB ?_)
local macro_rules | `(tactic| walk_at "st1") => `(tactic| with_reducible refine go_truI ?_)
local macro_rules | `(tactic| walk_at "st1") => `(tactic| with_reducible refine go_truT ?_)
local macro_rules | `(tactic| walk_at "st1") => `(tactic| with_reducible refine go_truL ?_)
local macro_rules | `(tactic| walk_at "st1") => `(tactic| with_reducible refine go_truth ?_)
local macro_rules | `(tactic| walk_at "st1") => `(tactic| with_reducible refine go_d0O ?_)
local macro_rules | `(tactic| walk_at "st1") => `(tactic| with_reducible refine go_d0 ?_)
local macro_rules | `(tactic| walk_at "st1") => `(tactic| with_reducible refine go_retN ?_)
local macro_rules | `(tactic| walk_at "st1") => `(tactic| with_reducible refine go_break ?_)
local macro_rules | `(tactic| walk_at "st1") => `(tactic| with_reducible refine go_cont ?_)
local macro_rules | `(tactic| walk_at "st1") => `(tactic| with_reducible refine go_raise ?_)
local macro_rules | `(tactic| walk_at "st1") => `(tactic| ((with_reducible show sAug _ _ _ _ _ _); refine go_aug rfl ?_))
local macro_rules | `(tactic| walk_at "st1") => `(tactic| with_reducible refine go_gCons ?_)
local macro_rules | `(tactic| walk_at "st1") => `(tactic| with_reducible refine go_gNil ?_)
local macro_rules | `(tactic| walk_at "st1") => `(tactic| ((with_reducible refine go_gT ?e ?k); (case e => rfl)))
local macro_rules | `(tactic| walk_at "st1") => `(tactic| ((with_reducible refine go_fmtS ?e ?k); (case e => walk_at "sz")))
local macro_rules | `(tactic| walk_at "st1") => `(tactic| ((with_reducible refine ⟨?e, go_js0 ?k⟩); (case e => walk_at "sz")))
local macro_rules | `(tactic| walk_at "st1") => `(tactic| ((with_reducible refine ⟨?e, go_js1 ?k⟩); (case e => walk_at "sz")))
local macro_rules | `(tactic| walk_at "st1") => `(tactic| with_reducible refine go_js0 ?_)
local macro_rules | `(tactic| walk_at "st1") => `(tactic| with_reducible refine go_js1 ?_)
local macro_rules | `(tactic| walk_at "st1") => `(tactic| with_reducible refine go_join0 ?_)
local macro_rules | `(tactic| walk_at "st1") => `(tactic| with_reducible refine go_isalnum ?_)
local macro_rules | `(tactic| walk_at "st1") => `(tactic| ((with_reducible show appendW (.ref _) [_] _ _); refine go_append (by walk_at "hp") ?l ?_; (case l => walk_at "sz")))
local macro_rules | `(tactic| walk_at "st1") => `(tactic| ((with_reducible show tyL (.ref _) _ ∧ _); refine go_tyL (by walk_at "hp") ?_))
local macro_rules | `(tactic| walk_at "st1") => `(tactic| with_reducible refine go_tyS ?_)
local macro_rules | `(tactic| walk_at "st1") => `(tactic| ((with_reducible show isW [.tup _, .ty _] _ _); refine go_isT rfl ?_))
local macro_rules | `(tactic| walk_at "st1") => `(tactic| ((with_reducible show isW [.str _, .ty _] _ _); refine go_isS rfl ?_))
local macro_rules | `(tactic| walk_at "st1") => `(tactic| ((with_reducible show isW [.bl _, .ty _] _ _); refine go_isB rfl ?_))
local macro_rules | `(tactic| walk_at "st1") => `(tactic| ((with_reducible show isW [.int _, .ty _] _ _); refine go_isI rfl ?_))
local macro_rules | `(tactic| walk_at "st1") => `(tactic| with_reducible refine go_listC ?_)
local macro_rules | `(tactic| walk_at "st1") => `(tactic| with_reducible refine go_listL ?_)
local macro_rules | `(tactic| walk_at "st1") => `(tactic| with_reducible refine go_listT ?_)
local macro_rules | `(tactic| walk_at "st1") => `(tactic| with_reducible refine go_toIntB ?_)
local macro_rules | `(tactic| walk_at "st1") => `(tactic| with_reducible refine go_toInt ?_)
local macro_rules | `(tactic| walk_at "st1") => `(tactic| with_reducible refine go_abs ?_)
local macro_rules | `(tactic| walk_at "st1") => `(tactic| ((with_reducible show lenW [.ref _] _ _); refine go_lenO (by walk_at "hp") ?_))
local macro_rules | `(tactic| walk_at "st1") => `(tactic| ((with_reducible refine go_lenS ?e ?k); (case e => walk_at "sz")))
local macro_rules | `(tactic| walk_at "st1") => `(tactic| with_reducible refine go_lenC ?_)
local macro_rules | `(tactic| walk_at "st1") => `(tactic| with_reducible refine go_lenL ?_)
local macro_rules | `(tactic| walk_at "st1") => `(tactic| with_reducible refine go_lenT ?_)
local macro_rules | `(tactic| walk_at "st1") => `(tactic| with_reducible refine go_revL ?_)
local macro_rules | `(tactic| walk_at "st1") => `(tactic| ((with_reducible refine go_slS ?e ?k); (case e => walk_at "sz")))
local macro_rules | `(tactic| walk_at "st1") => `(tactic| with_reducible refine go_slC ?_)
local macro_rules | `(tactic| walk_at "st1") => `(tactic| with_reducible refine go_slL ?_)
local macro_rules | `(tactic| walk_at "st1") => `(tactic| ((with_reducible refine go_slT ?e ?k); (case e => exact of_decide_eq_true rfl)))
local macro_rules | `(tactic| walk_at "st1") => `(tactic| with_reducible refine go_part ?_)
local macro_rules | `(tactic| walk_at "st1") => `(tactic| with_reducible refine go_noPart ?_)
local macro_rules | `(tactic| walk_at "st1") => `(tactic| with_reducible refine go_sl ?_)
local macro_rules | `(tactic| walk_at "st1") => `(tactic| ((with_reducible show ixW (.ref _) (.int _) _ _); refine go_ixO (by walk_at "hp") (by first | assumption | exact rfl) ?_))
local macro_rules | `(tactic| walk_at "st1") => `(tactic| ((with_reducible show ixW (.str _) (.int _) _ _); refine go_ixS (by first | assumption | exact rfl) ?e ?_; (case e => walk_at "sz")))
local macro_rules | `(tactic| walk_at "st1") => `(tactic| ((with_reducible show ixW (.scr _) (.int _) _ _); refine go_ixC (by assumption) ?_))
local macro_rules | `(tactic| walk_at "st1") => `(tactic| ((with_reducible show ixW (.lst _) (.int _) _ _); refine go_ixL (by first | assumption | exact rfl) ?_))
local macro_rules | `(tactic| walk_at "st1") => `(tactic| ((with_reducible show ixW (.tup _) (.int _) _ _); refine go_ixT (by first | exact rfl | assumption) ?_))
local macro_rules | `(tactic| walk_at "st1") => `(tactic| with_reducible refine go_notInS ?_)
local macro_rules | `(tactic| walk_at "st1") => `(tactic| ((with_reducible refine go_notInT ?f ?g ?k); (case f => rfl); (case g => rfl)))
local macro_rules | `(tactic| walk_at "st1") => `(tactic| with_reducible refine go_inS ?_)
local macro_rules | `(tactic| walk_at "st1") => `(tactic| ((with_reducible refine go_inT ?f ?g ?k); (case f => rfl); (case g => rfl)))
local macro_rules | `(tactic| walk_at "st1") => `(tactic| with_reducible refine go_neS ?_)
local macro_rules | `(tactic| walk_at "st1") => `(tactic| with_reducible refine go_neI ?_)
local macro_rules | `(tactic| walk_at "st1") => `(tactic| with_reducible refine go_eqS ?_)
local macro_rules | `(tactic| walk_at "st1") => `(tactic| with_reducible refine go_eqI ?_)
local macro_rules | `(tactic| walk_at "st1") => `(tactic| with_reducible refine go_ge ?_)
local macro_rules | `(tactic| walk_at "st1") => `(tactic| with_reducible refine go_gt ?_)
local macro_rules | `(tactic| walk_at "st1") => `(tactic| with_reducible refine go_le ?_)
local macro_rules | `(tactic| walk_at "st1") => `(tactic| with_reducible refine go_lt ?_)
local macro_rules | `(tactic| walk_at "st1") => `(tactic| with_reducible refine go_int0 ?_)
local macro_rules | `(tactic| walk_at "st1") => `(tactic| with_reducible refine go_neg ?_)
local macro_rules | `(tactic| walk_at "st1") => `(tactic| ((with_reducible refine go_fdiv ?e ?k); (case e => exact cdiv_ok (by omega) (by omega))))
local macro_rules | `(tactic| walk_at "st1") => `(tactic| ((with_reducible refine go_mod ?e ?k); (case e => first | decide | omega)))
local macro_rules | `(tactic| walk_at "st1") => `(tactic| ((with_reducible refine go_mul ?e ?k); (case e => first | exact Wl.CMul.r ⟨by omega, by omega⟩ | exact Wl.CMul.l ⟨by omega, by omega⟩)))
local macro_rules | `(tactic| walk_at "st1") => `(tactic| with_reducible refine go_sub ?_)
local macro_rules | `(tactic| walk_at "st1") => `(tactic| ((with_reducible refine go_addL ?e ?k); (case e => walk_at "sz")))
local macro_rules | `(tactic| walk_at "st1") => `(tactic| ((with_reducible refine go_addT ?n ?e ?k); (case n => exact List.cons_ne_nil _ _); (case e => walk_at "sz")))
local macro_rules | `(tactic| walk_at "st1") => `(tactic| ((with_reducible refine go_addS ?e ?k); (case e => walk_at "sz")))
local macro_rules | `(tactic| walk_at "st1") => `(tactic| with_reducible refine go_addI ?_)
local macro_rules | `(tactic| walk_at "st1") => `(tactic| with_reducible refine go_bm0 ?_)
local macro_rules | `(tactic| walk_at "st1") => `(tactic| with_reducible refine go_bm ?_)
local macro_rules | `(tactic| walk_at "st1") => `(tactic| with_reducible refine go_call ?_)
local macro_rules | `(tactic| walk_at "st1") => `(tactic| with_reducible refine go_cb ?_)
local macro_rules | `(tactic| walk_at "st1") => `(tactic| with_reducible refine go_gN ?_)
local macro_rules | `(tactic| walk_at "st1") => `(tactic| ((with_reducible refine go_lstOK ?e ?k); (case e => exact Nat.le_of_ble_eq_true rfl)))
local macro_rules | `(tactic| walk_at "st1") => `(tactic| ((with_reducible refine go_lstK ?e ?k); (case e => exact Nat.le_of_ble_eq_true rfl)))
local macro_rules | `(tactic| walk_at "st1") => `(tactic| ((with_reducible refine go_tupK ?e ?k); (case e => exact Nat.le_of_ble_eq_true rfl)))
local macro_rules | `(tactic| walk_at "st1") => `(tactic| with_reducible refine go_lstO ?_)
local macro_rules | `(tactic| walk_at "st1") => `(tactic| with_reducible refine go_lst ?_)
local macro_rules | `(tactic| walk_at "st1") => `(tactic| with_reducible refine go_tup ?_)
local macro_rules | `(tactic| walk_at "st1") => `(tactic| with_reducible refine go_cons ?_)
local macro_rules | `(tactic| walk_at "st1") => `(tactic| with_reducible refine go_nil ?_)
local macro_rules | `(tactic| walk_at "st1") => `(tactic| with_reducible refine go_ifE ?_)
local macro_rules | `(tactic| walk_at "st1") => `(tactic| with_reducible refine go_notV ?_)
local macro_rules | `(tactic| walk_at "st1") => `(tactic| with_reducible refine go_orV ?_)
local macro_rules | `(tactic| walk_at "st1") => `(tactic| with_reducible refine go_andV ?_)
local macro_rules | `(tactic| walk_at "st1") => `(tactic| with_reducible refine go_not ?_)
local macro_rules | `(tactic| walk_at "st1") => `(tactic| with_reducible refine go_or ?_)
local macro_rules | `(tactic| walk_at "st1") => `(tactic| with_reducible refine go_and ?_)
local macro_rules | `(tactic| walk_at "st1") => `(tactic| with_reducible refine go_chain ?_)
local macro_rules | `(tactic| walk_at "st1") => `(tactic| with_reducible refine go_test ?_)
local macro_rules | `(tactic| walk_at "st1") => `(tactic| with_reducible refine go_un ?_)
local macro_rules | `(tactic| walk_at "st1") => `(tactic| with_reducible refine go_op ?_)
local macro_rules | `(tactic| walk_at "st1") => `(tactic| with_reducible refine go_c ?_)
local macro_rules | `(tactic| walk_at "st1") => `(tactic| ((with_reducible show oVar _ _ _ _); refine go_var rfl ?_))
local macro_rules | `(tactic| walk_at "st1") => `(tactic| with_reducible refine go_drop ?_)
local macro_rules | `(tactic| walk_at "st1") => `(tactic| with_reducible refine go_if ?_)
local macro_rules | `(tactic| walk_at "st1") => `(tactic| with_reducible refine go_asg ?_)
local macro_rules | `(tactic| walk_at "st1") => `(tactic| with_reducible refine go_ret ?_)
local macro_rules | `(tactic| walk_at "st1") => `(tactic| with_reducible refine go_next ?_)
local macro_rules | `(tactic| walk_at "st1") => `(tactic| with_reducible refine go_seq ?_)
local macro_rules | `(tactic| walk_at "st") => `(tactic| repeat (walk_at "st1"))
local macro_rules | `(tactic| walk_at "stc1") => `(tactic| refine go_isF' (by exact rfl) ?_)
local macro_rules | `(tactic| walk_at "stc1") => `(tactic| refine go_isT' (by exact rfl) ?_)
local macro_rules | `(tactic| walk_at "stc1") => `(tactic| walk_at "st1")
local macro_rules | `(tactic| walk_at "stc") => `(tactic| repeat (walk_at "stc1"))

local macro_rules | `(tactic| walk_at "st1") => `(tactic| with_reducible refine go_dictEnum ?_)
local macro_rules | `(tactic| walk_at "st1") => `(tactic| with_reducible refine go_dictEnumK ?_)
local macro_rules | `(tactic| walk_at "st1") => `(tactic| with_reducible refine go_ltT rfl rfl ?_)
local macro_rules | `(tactic| walk_at "st1") => `(tactic| with_reducible refine go_disp1O ?_)
local macro_rules | `(tactic| walk_at "sub") => `(tactic| repeat (first | exact SubS.nil | refine SubS.same ?_ | refine SubS.no ?_))

/-! ## what the law's own helpers promise -/
section
variable {P : Program} {w : World} {K : PySem.W.Frag} {mg : Str → Option Value} {base : Heap}
theorem atI_nat' {α : Type} {xs : List α} {k : Nat} {x : α} (e : xs[k]? = some x) : atI xs (k : Int) = some x := atI_nat e
/-- script[k], or 0 -/
def spCell : SpW := fun ws h R _ => ∃ (ns : List Int) (k : Nat), ws = [.scr (ns.map W.int), .int (k : Nat)] ∧ R (.int (ns.getD k 0)) h
theorem ok__law_cell (T : Tx P w K mg) : FnOk P w K mg base CX0 1 T.a__law_cell T.fd__law_cell ["script", "k"] (lSp K spCell) := by
  refine fnW T.F__law_cell sc__law_cell (fun ws h R ex ⟨_, _, e, _⟩ => by rw [e]; rfl) fun cdv A outer s H E hr => ⟨_, (wss_cons (ws_if (wt_cmp (rw := ltW) op_lt lf_cmp (w_var 1) (w_callB call_len lf_len (by rfl) T.m_len (by decide +kernel) (wa_cons (w_var 0) wa_nil)) (nomark _)) (wss_one (ws_ret (w_ix (w_var 0) (w_var 1)))) wss_nil)
    (wss_one (ws_ret w_int))), fun ws h R ex ⟨ns, k, e, q⟩ => ?_⟩
  subst e
  walk_at "st"
  refine go_dec (fun hk => ?_) (fun hk => ?_)
  · have hk' : k < ns.length := by simp at hk; omega
    have e : atI (ns.map W.int) (k : Int) = some (.int ns[k]) := atI_nat (by rw [List.getElem?_map, List.getElem?_eq_getElem hk']; rfl)
    walk_at "st"
    rw [List.getD_eq_getElem?_getD, List.getElem?_eq_getElem hk'] at q
    exact .of q
  · have hk' : ns.length ≤ k := by simp at hk; omega
    walk_at "st"
    rw [List.getD_eq_getElem?_getD, List.getElem?_eq_none hk'] at q
    exact .of q
/-- some numbers below 4096, at most so many -/
def spNumbers : SpW := fun ws h R _ => ∃ (ns : List Int) (i m : Nat), ws = [.scr (ns.map W.int), .int (i : Nat), .int (m : Nat)] ∧ ns.length ≤ 63 ∧ i ≤ 20 ∧ m ≤ 1000 ∧
  ∀ ms : List Nat, (∀ x ∈ ms, x < 4096) → ms.length ≤ m → R (.lst (ms.map fun x => .int (x : Nat))) h
abbrev natsW (ms : List Nat) : List W := ms.map fun x => .int (x : Nat)
def strsW (ts : List (List Nat)) : List W := ts.map W.str
theorem natsW_snoc (ms : List Nat) (x : Nat) : natsW ms ++ [.int (x : Nat)] = natsW (ms ++ [x]) := by simp [natsW]
theorem snocI {h : HW} {p : Addr} (ms : List Nat) (i : Int) (P : HW → Prop) (k : ∀ x : Nat, x < 4096 → P (updW h p (.lst (natsW (ms ++ [x]))))) : P (updW (updW h p (.lst (natsW ms))) p (.lst (natsW ms ++ [.int (i % 4096)]))) := by
  have q := k (i % 4096).toNat (by omega)
  rw [updW_upd]
  have e : (((i % 4096).toNat : Nat) : Int) = i % 4096 := by omega
  rw [← natsW_snoc, e] at q
  exact q
theorem ok__law_numbers (T : Tx P w K mg) : FnOk P w K mg base CX0 1 T.a__law_numbers T.fd__law_numbers ["script", "first", "most"] (lSp K spNumbers) := by
  refine fnW T.F__law_numbers sc__law_numbers (fun ws h R ex ⟨_, _, _, e, _⟩ => by rw [e]; rfl) fun cdv A outer s H E hr => ⟨_, (wss_cons (ws_set (i := 3) sc__law_numbers.nd (w_lstO wa_nil))
    (wss_cons (ws_for PassesOwn.never rfl (wi_range2 (by rfl) T.m_range (wa_cons (w_var 1) (wa_cons (w_callB call_len lf_len (by rfl) T.m_len (by decide +kernel) (wa_cons (w_var 0) wa_nil)) wa_nil))) (wg_name (i := 4) sc__law_numbers.nd) (wss_cons (ws_set (i := 5) sc__law_numbers.nd (w_callB call_abs lf_abs (by rfl) T.m_abs (by decide +kernel) (wa_cons (w_ix (w_var 0) (w_var 4)) wa_nil)))
    (wss_one (ws_if (wt_cmp (rw := geW) op_ge lf_cmp (w_var 5) w_int (nomark _)) (wss_one (ws_for PassesOwn.never rfl (wi_range1 (by rfl) T.m_range (wa_cons w_int wa_nil)) (wg_name (i := 6) sc__law_numbers.nd) (wss_one (ws_if (wt_bool (ww_and (wt_cmp (rw := gtW) op_gt lf_cmp (w_var 5) w_int (nomark _)) (ww_and1 (wt_cmp (rw := ltW) op_lt lf_cmp (w_callB call_len lf_len (by rfl) T.m_len (by decide +kernel) (wa_cons (w_var 3) wa_nil)) (w_var 2) (nomark _))))) (wss_cons (ws_expr (w_bm PySem.F.plainAttrs_list PySem.F.slot_list_append PySem.F.type_list_append mt_append tyL_ok lf_append (w_var 3) (wa_cons (w_op (rw := modW) op_mod lf_int (w_callTy call_int1 lf_toInt (by rfl) T.m_int (by decide +kernel) (wa_cons (w_var 5) wa_nil)) w_int) wa_nil)))
    (wss_one (ws_set (i := 5) sc__law_numbers.nd (w_op (rw := fdivW) op_fdiv lf_int (w_var 5) w_int)))) wss_nil)))) (wss_one (ws_if (wt_cmp (rw := ltW) op_lt lf_cmp (w_callB call_len lf_len (by rfl) T.m_len (by decide +kernel) (wa_cons (w_var 3) wa_nil)) (w_var 2) (nomark _)) (wss_cons (ws_set (i := 7) sc__law_numbers.nd (w_op (rw := modW) op_mod lf_int (w_callTy call_int1 lf_toInt (by rfl) T.m_int (by decide +kernel) (wa_cons (w_op ow_add lf_add (w_op ow_add lf_add (w_op (rw := mulW) op_mul lf_int (w_var 5) w_int) (w_op (rw := mulW) op_mul lf_int (w_var 4) w_int)) w_int) wa_nil)) w_int))
    (wss_cons (ws_set (i := 7) sc__law_numbers.nd (w_op (rw := modW) op_mod lf_int (w_callTy call_int1 lf_toInt (by rfl) T.m_int (by decide +kernel) (wa_cons (w_op ow_add lf_add (w_op (rw := mulW) op_mul lf_int (w_var 7) w_int) (w_op (rw := fdivW) op_fdiv lf_int (w_var 7) w_int)) wa_nil)) w_int))
    (wss_one (ws_expr (w_bm PySem.F.plainAttrs_list PySem.F.slot_list_append PySem.F.type_list_append mt_append tyL_ok lf_append (w_var 3) (wa_cons (w_op (rw := modW) op_mod lf_int (w_callTy call_int1 lf_toInt (by rfl) T.m_int (by decide +kernel) (wa_cons (w_var 7) wa_nil)) w_int) wa_nil)))))) wss_nil))))))
    (wss_one (ws_ret (w_var 3))))), fun ws h R ex ⟨ns, i, m, e, hl, hi, hm, q⟩ => ?_⟩
  subst e
  walk_at "st"
  intro p hp
  walk_at "st"
  refine go_forR2 (i : Nat) ns.length (fun RA q => by walk_at "st"; rw [List.length_map]; exact q) (by omega)
    (fun _ ρ' h' => ∃ ms : List Nat, (∀ x ∈ ms, x < 4096) ∧ ms.length ≤ m ∧ ρ' = [some (.scr (ns.map W.int)), some (.int i), some (.int m), some (.ref p), none, none, none, none] ∧ h' = updW h p (.lst (natsW ms)))
    (.of ⟨[], by simp, by simp, rfl, rfl⟩) ?_ ?_
  · rintro j ρ' h' hj ⟨ms, gm, lm, rfl, rfl⟩
    have hk' : i + j < ns.length := by omega
    have e : atI (ns.map W.int) ((i : Int) + (j : Nat)) = some (.int ns[i + j]) := by
      rw [show ((i : Int) + (j : Nat)) = ((i + j : Nat) : Int) by omega]
      exact atI_nat (by rw [List.getElem?_map, List.getElem?_eq_getElem hk']; rfl)
    walk_at "st"
    generalize (ns[i + j]).natAbs = cell
    have fin : ∀ ρ'' h'' (ms : List Nat), (∀ x ∈ ms, x < 4096) → ms.length ≤ m → SubS [some (.scr (ns.map W.int)), some (.int i), some (.int m), some (.ref p), none, none, none, none] ρ'' → h'' = updW h p (.lst (natsW ms)) → CN (fun ρ' h' => ∃ ms : List Nat, (∀ x ∈ ms, x < 4096) ∧ ms.length ≤ m ∧ ρ' = [some (.scr (ns.map W.int)), some (.int i), some (.int m), some (.ref p), none, none, none, none] ∧ h' = updW h p (.lst (natsW ms))) ρ'' h'' := fun ρ'' h'' ms a b s e => ⟨_, _, ⟨ms, a, b, rfl, e⟩, s, .refl _⟩
    refine go_dec (fun hc => ?_) (fun hc => ?_)
    · refine go_forR1 60 (fun RA q => by walk_at "st"; exact q) (by decide)
        (fun _ ρ' h' => ∃ (ms : List Nat) (c : Nat), (∀ x ∈ ms, x < 4096) ∧ ms.length ≤ m ∧ ρ' = [some (.scr (ns.map W.int)), some (.int i), some (.int m), some (.ref p), none, some (.int (c : Nat)), none, none] ∧ h' = updW h p (.lst (natsW ms)))
        ⟨_, _, ⟨ms, cell, gm, lm, rfl, rfl⟩, .same (.same (.same (.same (.no (.same (.no (.no .nil))))))), .refl _⟩ ?_ ?_
      · rintro k ρ' h' hk ⟨ms, c, gm, lm, rfl, rfl⟩
        walk_at "st"
        refine go_dec (fun h1 => ?_) (fun h1 => ?_)
        · walk_at "st"
          rw [List.length_map]
          refine go_dec (fun h2 => ?_) (fun h2 => ?_)
          · walk_at "st"
            refine ⟨_, _, ⟨ms ++ [c % 4096], c / 4096, ?_, ?_, rfl, rfl⟩, ?_, ?_⟩
            · intro x hx
              rcases List.mem_append.mp hx with hx | hx
              · exact gm x hx
              · simp at hx; omega
            · simp; omega
            · exact .same (.same (.same (.same (.no (.cons (fun _ e => by cases e; simp) (.no (.no .nil)))))))
            · rw [updW_upd, ← natsW_snoc]
              exact .refl _
          · walk_at "st"
            exact ⟨_, _, ⟨ms, c, gm, lm, rfl, rfl⟩, .same (.same (.same (.same (.no (.same (.no (.no .nil))))))), .refl _⟩
        · walk_at "st"
          exact ⟨_, _, ⟨ms, c, gm, lm, rfl, rfl⟩, .same (.same (.same (.same (.no (.same (.no (.no .nil))))))), .refl _⟩
      · rintro ρ' h' ⟨ms, c, gm, lm, rfl, rfl⟩
        exact fin _ _ ms gm lm (.same (.same (.same (.same (.no (.no (.no (.no .nil)))))))) rfl
    · walk_at "st"
      rw [List.length_map]
      refine go_dec (fun h2 => ?_) (fun h2 => ?_)
      · walk_at "st"
        show CN _ _ _
        refine snocI ms _ (CN _ _) fun x hx => ?_
        refine fin _ _ (ms ++ [x]) ?_ ?_ (.same (.same (.same (.same (.no (.no (.no (.no .nil)))))))) rfl
        · intro y hy
          rcases List.mem_append.mp hy with hy | hy
          · exact gm y hy
          · simp at hy; omega
        · simp; omega
      · walk_at "st"
        exact fin _ _ ms gm lm (.same (.same (.same (.same (.no (.no (.no (.no .nil)))))))) rfl
  · rintro ρ' h' ⟨ms, gm, lm, rfl, rfl⟩
    walk_at "st"
    exact .frL updW_same (q ms gm lm) hp (.new hp)
/-! ### names -/
abbrev lowC (c : Nat) : Prop := 97 ≤ c ∧ c ≤ 122
abbrev digC (c : Nat) : Prop := 48 ≤ c ∧ c ≤ 57
/-- letters and digits, a letter first, at most so many -/
structure NmL (s : List Nat) (n : Nat) : Prop where
  len : s.length ≤ n
  hd : ∃ c r, s = c :: r ∧ lowC c
  all : ∀ c ∈ s, lowC c ∨ digC c
structure IsNm (s : List Nat) : Prop where
  nm : NmL s 8
  nl : s ≠ wLet
  ni : s ≠ wIn
  nd : s ≠ wDef
theorem NmL.snoc {s : List Nat} {n c : Nat} (x : NmL s n) (hc : lowC c ∨ digC c) : NmL (s ++ [c]) (n + 1) := by
  obtain ⟨a, ⟨d, r, e, l⟩, b⟩ := x
  refine ⟨by simp; omega, ⟨d, r ++ [c], by rw [e]; rfl, l⟩, fun y hy => ?_⟩
  rcases List.mem_append.mp hy with hy | hy
  · exact b y hy
  · simp at hy; subst hy; exact hc
theorem cut_nat {α : Type} (s : List α) (a b : Nat) : cut s (some (a : Int)) (some (b : Int)) = (s.drop a).take (b - a) := by
  unfold cut HT.sIx
  have ha : ¬ ((a : Int) < 0) := by omega
  have hb : ¬ ((b : Int) < 0) := by omega
  simp only [ha, hb, if_false, Int.toNat_natCast]
  by_cases h : a ≤ s.length
  · rw [Nat.min_eq_left h]
    by_cases h2 : b ≤ s.length
    · rw [Nat.min_eq_left h2]
    · rw [Nat.min_eq_right (by omega), List.take_of_length_le (by simp), List.take_of_length_le (by simp; omega)]
  · have e1 : min a s.length = s.length := by omega
    rw [e1, List.drop_of_length_le (Nat.le_refl s.length), List.drop_of_length_le (by omega : s.length ≤ a)]
    simp
theorem cut_to {α : Type} (s : List α) (b : Nat) : cut s none (some (b : Int)) = s.take b := by
  unfold cut HT.sIx
  have hb : ¬ ((b : Int) < 0) := by omega
  simp only [hb, if_false, Int.toNat_natCast, List.drop_zero, Nat.sub_zero]
  by_cases h : b ≤ s.length
  · rw [Nat.min_eq_left h]
  · rw [Nat.min_eq_right (by omega), List.take_of_length_le (Nat.le_refl _), List.take_of_length_le (by omega)]
theorem cut_from {α : Type} (s : List α) (a : Nat) : cut s (some (a : Int)) none = s.drop a := by
  unfold cut HT.sIx
  have ha : ¬ ((a : Int) < 0) := by omega
  simp only [ha, if_false, Int.toNat_natCast]
  by_cases h : a ≤ s.length
  · rw [Nat.min_eq_left h, List.take_of_length_le (by simp)]
  · rw [Nat.min_eq_right (by omega), List.drop_of_length_le (Nat.le_refl s.length), List.drop_of_length_le (by omega : s.length ≤ a)]; simp
theorem atW {P : W → Prop} {l : List W} (hp : ∀ w ∈ l, P w) (i : Int) (h0 : 0 ≤ i) (h1 : i < l.length) : ∃ w, atI l i = some w ∧ P w := by
  obtain ⟨k, rfl⟩ := Int.eq_ofNat_of_zero_le h0
  have h3 : k < l.length := by omega
  exact ⟨l[k], atI_nat (List.getElem?_eq_getElem h3), hp _ (List.getElem_mem h3)⟩
theorem at_lt {l : List Nat} {P : Nat → Prop} (n : Nat) (hl : l.length = n) (h0 : 0 < n) (hp : ∀ c ∈ l, P c) (i : Int) : ∃ c, atI l (i % (n : Int)) = some c ∧ P c := by
  have h1 : 0 ≤ i % (n : Int) := Int.emod_nonneg _ (by omega)
  have h2 : i % (n : Int) < n := Int.emod_lt_of_pos _ (by omega)
  obtain ⟨k, hk⟩ := Int.eq_ofNat_of_zero_le h1
  rw [hk]
  have h3 : k < l.length := by omega
  exact ⟨l[k], atI_nat (List.getElem?_eq_getElem h3), hp _ (List.getElem_mem h3)⟩
/-- the law's name of a number -/
abbrev moreS : List Nat := lettersS ++ digitsS
def lnmC (m k : Nat) : Nat := moreS.getD ((m / 8 ^ (k + 1) * 31 + k * 7) % 36) 0
def lnm0 (n : Nat) : List Nat := lettersS.getD (n % 26) 0 :: (List.range (n / 26 % 8)).map (lnmC (n / 26))
def lnm (n : Nat) : List Nat := if lnm0 n = wLet ∨ lnm0 n = wIn ∨ lnm0 n = wDef then lnm0 n ++ [120] else lnm0 n
theorem lettersS_low : ∀ i < 26, lowC (lettersS.getD i 0) := by decide
theorem moreS_ok : ∀ i < 36, lowC (moreS.getD i 0) ∨ digC (moreS.getD i 0) := by decide
theorem lnm0_nm (n : Nat) : NmL (lnm0 n) 8 := by
  refine ⟨by simp only [lnm0, List.length_cons, List.length_map, List.length_range]; omega, ⟨_, _, rfl, lettersS_low _ (by omega)⟩, fun c hc => ?_⟩
  rcases List.mem_cons.mp hc with rfl | hc
  · exact .inl (lettersS_low _ (by omega))
  · obtain ⟨k, _, rfl⟩ := List.mem_map.mp hc
    exact moreS_ok _ (Nat.mod_lt _ (by decide))
theorem lnm_nm (n : Nat) : IsNm (lnm n) := by
  have hs := lnm0_nm n
  unfold lnm
  generalize lnm0 n = s at hs ⊢
  split
  · rename_i c3
    have l4 : (s ++ [120]).length ≤ 8 := by rcases c3 with e | e | e <;> subst e <;> decide
    refine ⟨⟨l4, ?_, ?_⟩, ?_, ?_, ?_⟩
    · obtain ⟨d, r, e, l⟩ := hs.hd
      exact ⟨d, r ++ [120], by rw [e]; rfl, l⟩
    · intro y hy
      rcases List.mem_append.mp hy with hy | hy
      · exact hs.all y hy
      · simp at hy; subst hy; decide
    all_goals rcases c3 with e | e | e <;> subst e <;> decide
  · rename_i c3
    simp only [not_or] at c3
    exact ⟨hs, c3.1, c3.2.1, c3.2.2⟩
def spNameX : SpW := fun ws h R _ => ∃ n : Nat, ws = [.int (n : Nat)] ∧ R (.str (lnm n)) h
/-- some name -/
def spName : SpW := fun ws h R _ => ∃ n : Nat, ws = [.int (n : Nat)] ∧ ∀ s, IsNm s → R (.str s) h
end

/-! ## == of plain data -/
mutual
def plW : W → Bool
  | .non => true | .int _ => true | .str _ => true | .tup ws => plsW ws | .lst ws => plsW ws | _ => false
def plsW : List W → Bool
  | [] => true
  | w :: ws => plW w && plsW ws
end
mutual
theorem eqD_iff : ∀ x y : W, plW x = true → plW y = true → (eqD x y = true ↔ x = y)
  | .non, y, _, h => by cases y <;> simp_all [eqD, toD, PyData.eqv, plW]
  | .int i, y, _, h => by cases y <;> simp_all [eqD, toD, PyData.eqv, plW]
  | .str s, y, _, h => by cases y <;> simp_all [eqD, toD, PyData.eqv, plW, mkS_inj]
  | .tup ws, y, g, h => by
    cases y with
    | tup us =>
      have := eqDs_iff ws us (by simpa [plW] using g) (by simpa [plW] using h)
      unfold eqD; rw [toD, toD, PyData.eqv, this]
      exact ⟨fun e => by rw [e], fun e => by injection e⟩
    | _ => simp_all [eqD, toD, PyData.eqv, plW]
  | .lst ws, y, g, h => by
    cases y with
    | lst us =>
      have := eqDs_iff ws us (by simpa [plW] using g) (by simpa [plW] using h)
      unfold eqD; rw [toD, toD, PyData.eqv, this]
      exact ⟨fun e => by rw [e], fun e => by injection e⟩
    | _ => simp_all [eqD, toD, PyData.eqv, plW]
  | .bl _, _, h, _ => by simp [plW] at h
  | .scr _, _, h, _ => by simp [plW] at h
  | .dic _, _, h, _ => by simp [plW] at h
  | .ref _, _, h, _ => by simp [plW] at h
  | .ty _, _, h, _ => by simp [plW] at h
theorem eqDs_iff : ∀ ws us : List W, plsW ws = true → plsW us = true → (PyData.eqvAll (toDs ws) (toDs us) = true ↔ ws = us)
  | [], us, _, _ => by cases us <;> simp [toDs, PyData.eqvAll]
  | w :: ws, us, g, h => by
    cases us with
    | nil => simp [toDs, PyData.eqvAll]
    | cons u us =>
      rw [plsW, Bool.and_eq_true] at g h
      have h1 := eqD_iff w u g.1 h.1
      have h2 := eqDs_iff ws us g.2 h.2
      unfold eqD at h1
      rw [toDs, toDs, PyData.eqvAll, Bool.and_eq_true, h1, h2]
      exact ⟨fun e => by rw [e.1, e.2], fun e => by injection e with a b; exact ⟨a, b⟩⟩
end
theorem eqD_dec {x y : W} (hx : plW x = true) (hy : plW y = true) (p : Prop) [Decidable p] (h : x = y ↔ p) : eqD x y = decide p := by
  rw [Bool.eq_iff_iff, eqD_iff x y hx hy, h, decide_eq_true_eq]

/-! ## pairs of numbers in their order -/
abbrev NP := Nat × Nat
def NP.w (p : NP) : W := .tup [.int (p.1 : Nat), .int (p.2 : Nat)]
def ltP (p q : NP) : Bool := decide (p.1 < q.1) || (decide (p.1 = q.1) && decide (p.2 < q.2))
def SortedP (ps : List NP) : Prop := ps.Pairwise fun p q => ltP p q = true
theorem lex_ltP (p q : NP) : HT.lexLt [(p.1 : Int), (p.2 : Int)] [(q.1 : Int), (q.2 : Int)] = ltP p q := by
  unfold ltP
  simp only [HT.lexLt]
  by_cases e : p.1 = q.1
  · rw [if_pos (by omega)]
    by_cases e2 : p.2 = q.2
    · rw [if_pos (by omega)]; simp [e, e2]
    · rw [if_neg (by omega)]; simp [e]
  · rw [if_neg (by omega)]; simp [e]
theorem ltP_trans {p q r : NP} (a : ltP p q = true) (b : ltP q r = true) : ltP p r = true := by
  simp only [ltP, Bool.or_eq_true, Bool.and_eq_true, decide_eq_true_eq] at *; omega
theorem ltP_tri (p q : NP) (a : ltP p q = false) (b : p ≠ q) : ltP q p = true := by
  have : ¬ (p.1 = q.1 ∧ p.2 = q.2) := fun ⟨x, y⟩ => b (Prod.ext x y)
  simp only [ltP, Bool.or_eq_false_iff, Bool.and_eq_false_iff, Bool.or_eq_true, Bool.and_eq_true, decide_eq_true_eq, decide_eq_false_iff_not] at *; omega
theorem ltP_irr (p : NP) : ltP p p = false := by simp [ltP]
/-- where p stands, or would stand -/
def placeP (ps : List NP) (p : NP) : Nat := (ps.takeWhile fun q => ltP q p).length
theorem placeP_lo {ps : List NP} (so : SortedP ps) {p : NP} {i : Nat} {q : NP} (e : ps[i]? = some q) : i < placeP ps p ↔ ltP q p = true := by
  induction ps generalizing i with
  | nil => simp at e
  | cons r ps ih =>
    obtain ⟨h1, h2⟩ := List.pairwise_cons.mp so
    unfold placeP at ih ⊢
    rw [List.takeWhile_cons]
    by_cases c : ltP r p = true
    · rw [if_pos c, List.length_cons]
      cases i with
      | zero => simp at e; subst e; simp [c]
      | succ i => rw [Nat.succ_lt_succ_iff]; exact ih h2 (by simpa using e)
    · rw [if_neg c, List.length_nil]
      cases i with
      | zero => simp at e; subst e; simp [c]
      | succ i =>
        have : ltP r q = true := h1 q (List.mem_of_getElem? (by simpa using e))
        constructor
        · intro z; omega
        · intro z; exact absurd (ltP_trans this z) c
theorem placeP_le (ps : List NP) (p : NP) : placeP ps p ≤ ps.length := by
  unfold placeP
  exact (List.takeWhile_sublist _).length_le
def spPlace : SpW := fun ws h R _ => ∃ (a : Addr) (ps : List NP) (p : NP), ws = [.ref a, p.w] ∧ h a = some (.lst (ps.map NP.w)) ∧ SortedP ps ∧ ps.length ≤ 100000 ∧ R (.int (placeP ps p : Nat)) h
section
variable {P : Program} {w : World} {K : PySem.W.Frag} {mg : Str → Option Value} {base : Heap}
theorem ok__place_of (T : Tx P w K mg) : FnOk P w K mg base CX0 1 T.a__place_of T.fd__place_of ["pairs", "pair"] (lSp K spPlace) := by
  refine fnW T.F__place_of sc__place_of (fun ws h R ex ⟨_, _, _, e, _⟩ => by rw [e]; rfl) fun cdv A outer s H E hr => ⟨_, (wss_cons (ws_set (i := 2) sc__place_of.nd w_int)
    (wss_cons (ws_set (i := 3) sc__place_of.nd (w_callB call_len lf_len (by rfl) T.m_len (by decide +kernel) (wa_cons (w_var 0) wa_nil)))
    (wss_cons (ws_while PassesOwn.never (wt_cmp (rw := ltW) op_lt lf_cmp (w_var 2) (w_var 3) (nomark _)) (wss_cons (ws_set (i := 4) sc__place_of.nd (w_op (rw := fdivW) op_fdiv lf_int (w_op ow_add lf_add (w_var 2) (w_var 3)) w_int))
    (wss_one (ws_if (wt_cmp (rw := ltTW) (op_ltT hr.units0) lf_ltT (w_ix (w_var 0) (w_var 4)) (w_var 1) (nomark _)) (wss_one (ws_set (i := 2) sc__place_of.nd (w_op ow_add lf_add (w_var 4) w_int))) (wss_one (ws_set (i := 3) sc__place_of.nd (w_var 4)))))))
    (wss_one (ws_ret (w_var 2)))))), fun ws h R ex ⟨a, ps, p, e, ha, so, hl, q⟩ => ?_⟩
  subst e
  have ll : (ps.map NP.w).length = ps.length := by simp
  have pl := placeP_le ps p
  walk_at "st"
  refine go_while (fun m ρ' h' => ∃ lo hi : Nat, m = hi - lo ∧ lo ≤ placeP ps p ∧ placeP ps p ≤ hi ∧ hi ≤ ps.length ∧ ρ' = [some (.ref a), some p.w, some (.int (lo : Nat)), some (.int (hi : Nat)), none] ∧ h' = h)
    ⟨_, .of ⟨0, ps.length, rfl, Nat.zero_le _, pl, Nat.le_refl _, by rw [ll]; rfl, rfl⟩⟩ ?_
  rintro m ρ' h' ⟨lo, hi, rfl, h1, h2, h3, rfl, rfl⟩
  walk_at "st"
  refine go_dec (fun hp => ?_) fun hp => ?_
  · have hlt : lo < hi := by omega
    have em : ((lo : Nat) : Int) + (hi : Nat) = ((lo + hi : Nat) : Int) := by omega
    have em2 : (((lo + hi : Nat) : Int)) / 2 = (((lo + hi) / 2 : Nat) : Int) := by omega
    have hm : (lo + hi) / 2 < ps.length := by omega
    have e0 : atI (ps.map NP.w) (((lo + hi) / 2 : Nat) : Int) = some (ps[(lo + hi) / 2]).w := atI_nat (by rw [List.getElem?_map, List.getElem?_eq_getElem hm]; rfl)
    have lo2 := placeP_lo so (p := p) (List.getElem?_eq_getElem hm)
    rw [← em2, ← em] at e0
    walk_at "st"
    refine go_ltT (xs := [.int _, .int _]) (ys := [.int _, .int _]) rfl rfl ?_
    rw [lex_ltP]
    rw [em, em2]
    cases c : ltP ps[(lo + hi) / 2] p with
    | true =>
      have := lo2.mpr c
      walk_at "stc"
      exact ⟨_, _, ⟨_, by omega, (lo + hi) / 2 + 1, hi, rfl, by omega, h2, h3, rfl, rfl⟩, .same (.same (.same (.same (.no .nil)))), .refl _⟩
    | false =>
      have : ¬ (lo + hi) / 2 < placeP ps p := fun z => by rw [lo2.mp z] at c; cases c
      walk_at "stc"
      exact ⟨_, _, ⟨_, by omega, lo, (lo + hi) / 2, rfl, h1, by omega, by omega, rfl, rfl⟩, .same (.same (.same (.same (.no .nil)))), .refl _⟩
  · walk_at "st"
    rw [show placeP ps p = lo by omega] at q
    exact .base q (.refl _)
theorem placeP_mem {ps : List NP} (so : SortedP ps) (p : NP) : p ∈ ps ↔ ps[placeP ps p]? = some p := by
  constructor
  · intro h
    obtain ⟨i, hi, e⟩ := List.mem_iff_getElem.mp h
    have ei : ps[i]? = some p := by rw [List.getElem?_eq_getElem hi, e]
    have a := placeP_lo so (p := p) ei
    have n : ¬ i < placeP ps p := fun z => by have := a.mp z; rw [ltP_irr] at this; cases this
    have n2 : ¬ placeP ps p < i := fun z => by
      have hl : placeP ps p < ps.length := by omega
      have b := placeP_lo so (p := p) (List.getElem?_eq_getElem hl)
      have lt := (List.pairwise_iff_getElem.mp so) _ _ hl hi z
      rw [e] at lt
      exact absurd (b.mpr lt) (Nat.lt_irrefl _)
    rw [show placeP ps p = i by omega]; exact ei
  · intro h; exact List.mem_of_getElem? h
theorem updW_selfN {h : HW} {c : Addr} {o : OW} (e : h c = some o) : updW h c o = h := by
  funext b
  by_cases q : b = c
  · subst q; rw [updW_same, e]
  · rw [updW_ne q]
theorem NP.plain (p : NP) : plW p.w = true := rfl
theorem NP.w_inj {p q : NP} : p.w = q.w ↔ p = q := by
  constructor
  · intro h
    simp only [NP.w, W.tup.injEq, List.cons.injEq, W.int.injEq] at h
    exact Prod.ext (by omega) (by omega)
  · intro h; rw [h]
theorem NP.data (p : NP) : dataW p.w = true := rfl
theorem NPs.data : ∀ ps : List NP, datasW (ps.map NP.w) = true ∧ depsW (ps.map NP.w) ≤ 1 ∧ plsW (ps.map NP.w) = true
  | [] => ⟨rfl, Nat.zero_le _, rfl⟩
  | p :: ps => by
    obtain ⟨a, b, c⟩ := NPs.data ps
    refine ⟨?_, ?_, ?_⟩
    · simp only [List.map_cons, datasW, a, NP.data]; rfl
    · simp only [List.map_cons, depsW]
      have : depW p.w ≤ 1 := by simp [NP.w, depW, depsW]
      omega
    · simp only [List.map_cons, plsW, c, NP.plain]; rfl
/-- ps with p at its place -/
def addP (ps : List NP) (p : NP) : List NP := if p ∈ ps then ps else ps.take (placeP ps p) ++ p :: ps.drop (placeP ps p)
def spAdd : SpW := fun ws h R _ => ∃ (a : Addr) (ps : List NP) (p : NP), ws = [.ref a, p.w] ∧ h a = some (.lst (ps.map NP.w)) ∧ SortedP ps ∧ ps.length ≤ 90000 ∧ R .non (updW h a (.lst ((addP ps p).map NP.w)))
theorem ok_add_pair (T : Tx P w K mg) : FnOk P w K mg base CX0 2 T.a_add_pair T.fd_add_pair ["pairs", "pair"] (lSp K spAdd) := by
  refine fnW T.F_add_pair sc_add_pair (fun ws h R ex ⟨_, _, _, e, _⟩ => by rw [e]; rfl) fun cdv A outer s H E hr => ⟨_, (wss_cons (ws_set (i := 2) sc_add_pair.nd (w_call (ok__place_of T) (hr.mono (by walk_at "rm")) (by rfl) T.g__place_of T.F__place_of.kp T.b__place_of (wa_cons (w_var 0) (wa_cons (w_var 1) wa_nil))))
    (wss_one (ws_if (wt_cmp (ow_ne hr.units) lf_ne (w_slice (w_var 0) (wo_some (w_var 2)) (wo_some (w_op ow_add lf_add (w_var 2) w_int))) (w_lst (wa_cons (w_var 1) wa_nil)) (nomark _)) (wss_one (ws_expr (w_bm PySem.F.plainAttrs_list PySem.F.slot_list_insert PySem.F.type_list_insert mt_insert tyL_ok lf_insert (w_var 0) (wa_cons (w_var 2) (wa_cons (w_var 1) wa_nil))))) wss_nil))), fun ws h R ex ⟨a, ps, p, e, ha, so, hl, q⟩ => ?_⟩
  subst e
  have ll : (ps.map NP.w).length = ps.length := by simp
  have pl := placeP_le ps p
  walk_at "st"
  refine ⟨a, ps, p, rfl, ha, so, by omega, ?_⟩
  walk_at "st"
  dsimp only
  refine go_slO ha ?_
  rw [show ((placeP ps p : Nat) : Int) + 1 = ((placeP ps p + 1 : Nat) : Int) by omega, cut_nat, ← List.map_drop, ← List.map_take, show placeP ps p + 1 - placeP ps p = 1 by omega]
  walk_at "st"
  have d1 := NPs.data ((ps.drop (placeP ps p)).take 1)
  have d2 := NPs.data [p]
  refine go_neD (by simp only [dataW]; exact d1.1) d2.1 (by simp only [depW]; omega) (by simp only [depW]; have := d2.2.1; simp only [List.map_cons, List.map_nil] at this; omega) ?_
  have pl1 : plW (.lst (((ps.drop (placeP ps p)).take 1).map NP.w)) = true := by simp only [plW]; exact d1.2.2
  have pl2 : plW (.lst [p.w]) = true := rfl
  have key : (W.lst (((ps.drop (placeP ps p)).take 1).map NP.w) = .lst [p.w]) ↔ p ∈ ps := by
    rw [placeP_mem so p]
    cases e : ps[placeP ps p]? with
    | none =>
      rw [List.drop_eq_nil_of_le (List.getElem?_eq_none_iff.mp e)]
      simp
    | some r =>
      have hl2 := (List.getElem?_eq_some_iff.mp e).1
      have er := (List.getElem?_eq_some_iff.mp e).2
      rw [List.drop_eq_getElem_cons hl2, er]
      simp only [List.take_succ_cons, List.take_zero, List.map_cons, List.map_nil, W.lst.injEq, List.cons.injEq, and_true, Option.some.injEq]
      exact NP.w_inj
  rw [eqD_dec pl1 pl2 (p ∈ ps) key]
  unfold addP at q
  refine go_ndec (fun c => ?_) fun c => ?_
  · rw [if_neg c] at q
    walk_at "st"
    refine go_insert ha (by omega) (by omega) (by omega) ?_
    rw [Int.toNat_natCast, ← List.map_take, ← List.map_drop, show (ps.take (placeP ps p)).map NP.w ++ [p.w] ++ (ps.drop (placeP ps p)).map NP.w = (ps.take (placeP ps p) ++ p :: ps.drop (placeP ps p)).map NP.w by simp]
    walk_at "st"
    exact .base q (.refl _)
  · rw [if_pos c, updW_selfN ha] at q
    walk_at "st"
    exact .base q (.refl _)
end

/-! ## agents -/
inductive AK where
  | root | lam | app | fan | pair | split | num | op | op1
  deriving DecidableEq
def AK.s : AK → List Nat
  | .root => z_root | .lam => z_lam | .app => z_app | .fan => z_fan | .pair => z_pair | .split => z_split | .num => z_num | .op => z_op | .op1 => z_op1
def AK.ports : AK → Nat
  | .root => 1 | .lam => 3 | .app => 3 | .fan => 3 | .pair => 3 | .split => 3 | .num => 1 | .op => 3 | .op1 => 2
inductive AD where
  | non | int (i : Int) | str (c : Nat) | tup (c : Nat) (i : Int)
def AD.w : AD → W
  | .non => .non | .int i => .int i | .str c => .str [c] | .tup c i => .tup [.str [c], .int i]
structure Ag where
  k : AK
  lv : Int
  dt : AD
def Ag.w (a : Ag) : W := .tup [.str a.k.s, .int a.lv, a.dt.w]
def sgn (c : Nat) : Bool := decide (c = 43 ∨ c = 45 ∨ c = 42)
def Ag.dok (a : Ag) : Bool := match a.k, a.dt with
  | .num, .int _ => true
  | .num, _ => false
  | .op, .str c => sgn c
  | .op, _ => false
  | .op1, .tup c _ => sgn c
  | .op1, _ => false
  | _, .non => true
  | _, _ => false
def Ag.ok (a : Ag) : Bool := !(decide (a.lv < 0) || (decide (0 < a.lv) && decide (a.k = .root ∨ a.k = .num))) && a.dok
theorem tab_ports (k : AK) : tabW tb_PORTS k.s = some (.int (k.ports : Nat)) := by cases k <;> rfl
theorem sgn_any (c : Nat) : ([W.str z_x2b, W.str z_x2d, W.str z_x2a].any fun w => eqF w (W.str [c])) = sgn c := by
  simp only [List.any_cons, List.any_nil, eqF, z_x2b, z_x2d, z_x2a, sgn, List.cons.injEq, and_true]
  rw [Bool.eq_iff_iff]
  simp only [Bool.or_eq_true, decide_eq_true_eq, Bool.false_eq_true, or_false]
  omega
/-- the data that are met -/
def Ag.Dr (a : Ag) : Prop := match a.k, a.dt with
  | .num, .int _ => True | .num, .str _ => True | .num, _ => False
  | .op, .str _ => True | .op, _ => False
  | .op1, .str _ => True | .op1, .tup _ _ => True | .op1, _ => False
  | _, .non => True | _, .str _ => True | _, _ => False

/-! ## what is handed in as an agent -/
def optI : Option Int → W | none => .non | some i => .int i
inductive RD where
  | non | int (i : Int) | str (s : List Nat) | tup (s : List Nat) (o : Option Int)
def RD.w : RD → W
  | .non => .non | .int i => .int i | .str s => .str s | .tup s o => .tup [.str s, optI o]
structure RA where
  k : List Nat
  lv : Option Int
  dt : RD
def RA.w (r : RA) : W := .tup [.str r.k, optI r.lv, r.dt.w]
def AK.all : List AK := [.root, .lam, .app, .fan, .pair, .split, .num, .op, .op1]
def kOf (s : List Nat) : Option AK := AK.all.find? fun k => decide (k.s = s)
def toAD : RD → Option AD
  | .non => some .non
  | .int i => some (.int i)
  | .str [c] => some (.str c)
  | .tup [c] (some i) => some (.tup c i)
  | _ => none
def RA.ag (r : RA) : Option Ag := match kOf r.k, r.lv, toAD r.dt with
  | some k, some lv, some dt => if Ag.ok ⟨k, lv, dt⟩ = true then some ⟨k, lv, dt⟩ else none
  | _, _, _ => none
/-- the forms that are met -/
def RA.Dr (r : RA) : Prop := match kOf r.k, r.dt with
  | some .num, .int _ => True | some .num, .non => True | some .num, _ => False
  | some .op, .str _ => True | some .op, _ => False
  | some .op1, .tup _ _ => True | some .op1, _ => False
  | _, .non => True | _, _ => False
theorem kOf_s (k : AK) : kOf k.s = some k := by cases k <;> rfl
theorem kOf_of {s : List Nat} {k : AK} (h : kOf s = some k) : s = k.s := by
  unfold kOf at h
  have := List.find?_some h
  exact (of_decide_eq_true this).symm
theorem kOf_tab {s : List Nat} : (tabW tb_PORTS s).isSome = (kOf s).isSome := by
  cases e : kOf s with
  | some k => rw [kOf_of e, tab_ports]; rfl
  | none =>
    unfold kOf at e
    rw [List.find?_eq_none] at e
    have no : ∀ k : AK, k.s ≠ s := fun k z => e k (by cases k <;> decide) (decide_eq_true z)
    have := no .root; have := no .lam; have := no .app; have := no .fan; have := no .pair; have := no .split; have := no .num; have := no .op; have := no .op1
    simp only [AK.s] at *
    simp [tabW, tb_PORTS, *]
theorem toAD_w {d : RD} {a : AD} (h : toAD d = some a) : d.w = a.w := by
  unfold toAD at h
  split at h <;> cases h <;> rfl
theorem RA.ag_w {r : RA} {a : Ag} (h : r.ag = some a) : r.w = a.w ∧ a.ok = true := by
  unfold RA.ag at h
  split at h
  · rename_i k lv dt e1 e2 e3
    split at h
    · rename_i ok
      cases h
      refine ⟨?_, ok⟩
      unfold RA.w Ag.w
      rw [kOf_of e1, e2, toAD_w e3]; rfl
    · cases h
  · cases h
def sgnS (s : List Nat) : Bool := decide (s = z_x2b ∨ s = z_x2d ∨ s = z_x2a)
theorem sgnS_any (s : List Nat) : ([W.str z_x2b, W.str z_x2d, W.str z_x2a].any fun w => eqF w (W.str s)) = sgnS s := by
  simp only [List.any_cons, List.any_nil, eqF, sgnS, Bool.or_false]
  rw [Bool.eq_iff_iff]
  simp only [Bool.or_eq_true, decide_eq_true_eq]
  constructor
  · rintro (h | h | h)
    · exact .inl h.symm
    · exact .inr (.inl h.symm)
    · exact .inr (.inr h.symm)
  · rintro (h | h | h)
    · exact .inl h.symm
    · exact .inr (.inl h.symm)
    · exact .inr (.inr h.symm)
theorem sgnS_one (c : Nat) : sgnS [c] = sgn c := by
  unfold sgnS sgn z_x2b z_x2d z_x2a
  rw [Bool.eq_iff_iff, decide_eq_true_eq, decide_eq_true_eq]
  simp
theorem sgnS_no {s : List Nat} (h : s.length ≠ 1) : sgnS s = false := by
  unfold sgnS
  refine decide_eq_false fun z => h ?_
  rcases z with rfl | rfl | rfl <;> rfl
def rdok (k : AK) (d : RD) : Bool := match k, d with
  | .num, .int _ => true | .num, _ => false
  | .op, .str s => sgnS s | .op, _ => false
  | .op1, .tup s o => sgnS s && o.isSome | .op1, _ => false
  | _, .non => true | _, _ => false
def agK (k : AK) (lv : Int) (dt : RD) : Option Ag := match toAD dt with | some d => if Ag.ok ⟨k, lv, d⟩ = true then some ⟨k, lv, d⟩ else none | none => none
theorem agK_some (k : AK) (lv : Int) (dt : RD) (c : ¬ lv < 0) : (agK k lv dt).isSome = (!(decide (0 < lv) && decide (k = .root ∨ k = .num)) && rdok k dt) := by
  have ok : ∀ d : AD, Ag.ok ⟨k, lv, d⟩ = (!(decide (0 < lv) && decide (k = .root ∨ k = .num)) && Ag.dok ⟨k, lv, d⟩) := fun d => by
    unfold Ag.ok
    dsimp only
    rw [decide_eq_false c, Bool.false_or]
  have sm : ∀ d : AD, toAD dt = some d → (agK k lv dt).isSome = Ag.ok ⟨k, lv, d⟩ := fun d e => by
    unfold agK
    rw [e]
    dsimp only
    cases Ag.ok ⟨k, lv, d⟩ <;> rfl
  have no : toAD dt = none → (agK k lv dt).isSome = false := fun e => by unfold agK; rw [e]; rfl
  have key : ∀ d : AD, toAD dt = some d → Ag.dok ⟨k, lv, d⟩ = rdok k dt := fun d e => by
    unfold toAD at e
    split at e <;> cases e
    · cases k <;> rfl
    · cases k <;> rfl
    · cases k <;> first | rfl | exact (sgnS_one _).symm
    · rename_i c' i'
      cases k <;> first | rfl | (show sgn c' = (sgnS [c'] && true); rw [sgnS_one, Bool.and_true])
  cases e : toAD dt with
  | some d => rw [sm d e, ok, key d e]
  | none =>
    rw [no e]
    have : rdok k dt = false := by
      unfold toAD at e
      cases dt with
      | non => cases e
      | int i => cases e
      | str s =>
        cases k <;> first | rfl | (refine sgnS_no fun z => ?_)
        match s, z with
        | [c], _ => cases e
      | tup s o =>
        cases k <;> first | rfl | skip
        show (sgnS s && o.isSome) = false
        cases o with
        | none => rw [Option.isSome_none, Bool.and_false]
        | some i =>
          rw [sgnS_no fun z => by
            match s, z with
            | [c], _ => cases e]
          rfl
    rw [this, Bool.and_false]
def spIsIntR : SpW := fun ws h R _ => ∃ w, ws = [w] ∧ ((∃ i, w = .int i ∧ R (.bl true) h) ∨ ((w = .non ∨ (∃ s, w = .str s) ∨ (∃ us, w = .tup us)) ∧ R (.bl false) h))
def spIsAgentR : SpW := fun ws h R _ => ∃ r : RA, ws = [r.w] ∧ r.Dr ∧ R (.bl r.ag.isSome) h
section
variable {P : Program} {w : World} {K : PySem.W.Frag} {mg : Str → Option Value} {base : Heap}
theorem ok__is_integer (T : Tx P w K mg) : FnOk P w K mg base CX0 1 T.a__is_integer T.fd__is_integer ["value"] (lSp K spIsIntR) := by
  refine fnW T.F__is_integer sc__is_integer (fun ws h R ex ⟨_, e, _⟩ => by rw [e]; rfl) fun cdv A outer s H E hr => ⟨_, (wss_one (ws_ret (w_and (w_callB call_isi lf_is (by rfl) T.m_isinstance (by decide +kernel) (wa_cons (w_var 0) (wa_cons (w_bltn (n := "int") rfl T.m_int (by decide +kernel)) wa_nil))) (w_one (w_not (w_callB call_isi lf_is (by rfl) T.m_isinstance (by decide +kernel) (wa_cons (w_var 0) (wa_cons (w_bltn (n := "bool") rfl T.m_bool (by decide +kernel)) wa_nil)))))))), fun ws h R ex ⟨v, e, q⟩ => ?_⟩
  subst e
  rcases q with ⟨i, rfl, q⟩ | ⟨rfl | ⟨t, rfl⟩ | ⟨us, rfl⟩, q⟩
  · walk_at "stc"
    exact .base q (.refl _)
  · walk_at "stc"
    refine go_isNone rfl ?_
    walk_at "stc"
    exact .base q (.refl _)
  · walk_at "stc"
    exact .base q (.refl _)
  · walk_at "stc"
    exact .base q (.refl _)
theorem ok__is_agent (T : Tx P w K mg) : FnOk P w K mg base CX0 2 T.a__is_agent T.fd__is_agent ["agent"] (lSp K spIsAgentR) := by
  refine fnW T.F__is_agent sc__is_agent (fun ws h R ex ⟨_, e, _⟩ => by rw [e]; rfl) fun cdv A outer s H E hr => ⟨_, (wss_cons (ws_if (wt_bool (ww_or (wt_not (wt_val (w_callB call_isi lf_is (by rfl) T.m_isinstance (by decide +kernel) (wa_cons (w_var 0) (wa_cons (w_bltn (n := "tuple") rfl T.m_tuple (by decide +kernel)) wa_nil))))) (ww_or1 (wt_cmp (ow_ne hr.units) lf_ne (w_callB call_len lf_len (by rfl) T.m_len (by decide +kernel) (wa_cons (w_var 0) wa_nil)) w_int (nomark _))))) (wss_one (ws_ret w_bl)) wss_nil)
    (wss_cons (ws_asg (w_var 0) (wg_tup rfl (wgs_cons (wg_name (i := 1) sc__is_agent.nd) (wgs_cons (wg_name (i := 2) sc__is_agent.nd) (wgs_cons (wg_name (i := 3) sc__is_agent.nd) wgs_nil)))))
    (wss_cons (ws_if (wt_bool (ww_or (wt_not (wt_val (w_callB call_isi lf_is (by rfl) T.m_isinstance (by decide +kernel) (wa_cons (w_var 1) (wa_cons (w_bltn (n := "str") rfl T.m_str (by decide +kernel)) wa_nil))))) (ww_or (wt_cmp (rw := kinFW true T.p_PORTS tb_PORTS) (or_knotin T.t_PORTS) (lf_kinF T.f_PORTS) (w_var 1) (w_glob rfl T.gk_PORTS) (by rfl)) (ww_or1 (wt_not (wt_val (w_call (ok__is_integer T) (hr.mono (by walk_at "rm")) (by rfl) T.g__is_integer T.F__is_integer.kp T.b__is_integer (wa_cons (w_var 2) wa_nil)))))))) (wss_one (ws_ret w_bl)) wss_nil)
    (wss_cons (ws_if (wt_bool (ww_or (wt_cmp (rw := ltW) op_lt lf_cmp (w_var 2) w_int (nomark _)) (ww_or1 (wt_bool (ww_and (wt_cmp (rw := gtW) op_gt lf_cmp (w_var 2) w_int (nomark _)) (ww_and1 (wt_cmp ow_in lf_in (w_var 1) (w_tup (wa_cons (w_str z_root) (wa_cons (w_str z_num) wa_nil))) (by rfl)))))))) (wss_one (ws_ret w_bl)) wss_nil)
    (wss_cons (ws_if (wt_cmp (ow_eq hr.units) lf_eq (w_var 1) (w_str z_num) (nomark _)) (wss_one (ws_ret (w_call (ok__is_integer T) (hr.mono (by walk_at "rm")) (by rfl) T.g__is_integer T.F__is_integer.kp T.b__is_integer (wa_cons (w_var 3) wa_nil)))) wss_nil)
    (wss_cons (ws_if (wt_cmp (ow_eq hr.units) lf_eq (w_var 1) (w_str z_op) (nomark _)) (wss_one (ws_ret (w_cmp ow_in lf_in (w_var 3) (w_globW rfl T.c__SIGNS T.s__SIGNS) (by rfl)))) wss_nil)
    (wss_cons (ws_if (wt_cmp (ow_eq hr.units) lf_eq (w_var 1) (w_str z_op1) (nomark _)) (wss_one (ws_ret (w_and (w_callB call_isi lf_is (by rfl) T.m_isinstance (by decide +kernel) (wa_cons (w_var 3) (wa_cons (w_bltn (n := "tuple") rfl T.m_tuple (by decide +kernel)) wa_nil))) (w_and (w_cmp (ow_eq hr.units) lf_eq (w_callB call_len lf_len (by rfl) T.m_len (by decide +kernel) (wa_cons (w_var 3) wa_nil)) w_int (nomark _)) (w_and (w_cmp ow_in lf_in (w_ix (w_var 3) w_int) (w_globW rfl T.c__SIGNS T.s__SIGNS) (by rfl)) (w_one (w_call (ok__is_integer T) (hr.mono (by walk_at "rm")) (by rfl) T.g__is_integer T.F__is_integer.kp T.b__is_integer (wa_cons (w_ix (w_var 3) w_int) wa_nil)))))))) wss_nil)
    (wss_one (ws_ret (w_cmp op_isN lf_isN (w_var 3) w_non (nomark _))))))))))), fun ws h R ex ⟨r, e, dr, q⟩ => ?_⟩
  subst e
  obtain ⟨ks, lv, dt⟩ := r
  unfold RA.w
  dsimp only
  walk_at "stc"
  refine go_kinF ?_
  rw [kOf_tab]
  cases ek : kOf ks with
  | none =>
    rw [show RA.ag ⟨ks, lv, dt⟩ = none by unfold RA.ag; rw [ek]] at q
    walk_at "stc"
    exact .base q (.refl _)
  | some k =>
  have eks := kOf_of ek
  walk_at "stc"
  cases lv with
  | none =>
    rw [show RA.ag ⟨ks, none, dt⟩ = none by unfold RA.ag; rw [ek]] at q
    simp only [optI]
    refine ⟨_, rfl, .inr ⟨.inl rfl, ?_⟩⟩
    walk_at "stc"
    exact .base q (.refl _)
  | some lv =>
  simp only [optI]
  refine ⟨_, rfl, .inl ⟨lv, rfl, ?_⟩⟩
  walk_at "stc"
  have qe : RA.ag ⟨ks, some lv, dt⟩ = match toAD dt with | some d => if Ag.ok ⟨k, lv, d⟩ = true then some ⟨k, lv, d⟩ else none | none => none := by
    unfold RA.ag
    dsimp only
    rw [ek]
    cases toAD dt <;> rfl
  rw [qe] at q
  rw [show (match toAD dt with | some d => if Ag.ok ⟨k, lv, d⟩ = true then some (⟨k, lv, d⟩ : Ag) else none | none => none) = agK k lv dt from rfl] at q
  refine go_dec (fun c => ?_) fun c => ?_
  · have c : lv < 0 := c
    have : ∀ d, Ag.ok ⟨k, lv, d⟩ = false := fun d => by simp [Ag.ok, c]
    rw [show agK k lv dt = none by
      unfold agK
      cases toAD dt with
      | none => rfl
      | some d => dsimp only; rw [this d]; rfl] at q
    walk_at "stc"
    exact .base q (.refl _)
  have c : ¬ lv < 0 := c
  rw [agK_some k lv dt c] at q
  subst eks
  unfold RA.Dr at dr
  dsimp only at dr
  rw [ek] at dr
  cases k <;> cases dt <;> (try exact dr.elim) <;> (simp only [RD.w]; skip) <;> (
    refine go_dec (fun c2 => ?_) fun c2 => ?_
    · have c2 : 0 < lv := c2
      rw [decide_eq_true c2] at q
      walk_at "stc"
      first
        | exact .base q (.refl _)
        | (rw [sgnS_any]; exact .base q (.refl _))
        | (rename_i s2 o2 _ _
           rw [sgnS_any]
           change R (.bl (sgnS s2 && o2.isSome)) _ at q
           revert q; generalize sgnS s2 = bb; intro q
           cases bb with
           | false => walk_at "stc"; exact .base q (.refl _)
           | true =>
             walk_at "stc"
             cases o2 with
             | none => exact ⟨_, rfl, .inr ⟨.inl rfl, by walk_at "stc"; exact .base q (.refl _)⟩⟩
             | some i2 => exact ⟨_, rfl, .inl ⟨i2, rfl, by walk_at "stc"; exact .base q (.refl _)⟩⟩)
    · have c2 : ¬ 0 < lv := c2
      rw [decide_eq_false c2] at q
      walk_at "stc"
      first
        | exact .base q (.refl _)
        | exact ⟨_, rfl, .inl ⟨_, rfl, by walk_at "stc"; exact .base q (.refl _)⟩⟩
        | exact ⟨_, rfl, .inr ⟨.inl rfl, by walk_at "stc"; exact .base q (.refl _)⟩⟩
        | (rw [sgnS_any]; exact .base q (.refl _))
        | (rename_i s2 o2 _ _
           rw [sgnS_any]
           change R (.bl (sgnS s2 && o2.isSome)) _ at q
           revert q; generalize sgnS s2 = bb; intro q
           cases bb with
           | false => walk_at "stc"; exact .base q (.refl _)
           | true =>
             walk_at "stc"
             cases o2 with
             | none => exact ⟨_, rfl, .inr ⟨.inl rfl, by walk_at "stc"; exact .base q (.refl _)⟩⟩
             | some i2 => exact ⟨_, rfl, .inl ⟨i2, rfl, by walk_at "stc"; exact .base q (.refl _)⟩⟩))
end

/-! ## the ends of the wires -/
theorem eK_val {α : Type} : ∀ (xs : List α) (i j : Nat), valW (eK i xs) (.inl ((j : Nat) : Int)) = if i ≤ j then xs[j - i]? else none
  | [], i, j => by simp [eK, valW]
  | x :: xs, i, j => by
    have ih := eK_val xs (i + 1) j
    unfold valW at ih ⊢
    simp only [eK, List.find?_cons]
    by_cases e : i = j
    · subst e; simp
    · rw [decide_eq_false (fun z => e (by have := Sum.inl.inj z; omega))]
      dsimp only
      rw [ih]
      by_cases c : i ≤ j
      · rw [if_pos c, if_pos (by omega), show j - i = (j - (i + 1)) + 1 by omega, List.getElem?_cons_succ]
      · rw [if_neg c, if_neg (by omega)]
theorem eK_val0 {α : Type} (xs : List α) (j : Nat) : valW (eK 0 xs) (.inl ((j : Nat) : Int)) = xs[j]? := by rw [eK_val, if_pos (Nat.zero_le _), Nat.sub_zero]
abbrev Es := List (List (Option NP))
def opW : Option NP → W
  | none => .non
  | some p => p.w
def asW (as : List Addr) : List W := as.map W.ref
structure EndsAt (d : Addr) (as : List Addr) (es : Es) (h : HW) : Prop where
  n : as.length = es.length
  d : h d = some (.dic (eK 0 (asW as)))
  nd : as.Nodup
  l : ∀ (i : Nat) (a : Addr) (l : List (Option NP)), as[i]? = some a → es[i]? = some l → h a = some (.lst (l.map opW)) ∧ l.length ≤ 10
def opnE (es : Es) (p : NP) : Bool := match es[p.1]? with
  | some l => decide (l[p.2]? = some none)
  | none => false

/-- a port as it is handed in: its number may be negative -/
abbrev RP := Nat × Int
def RP.w (p : RP) : W := .tup [.int (p.1 : Nat), .int p.2]
theorem RP.data (p : RP) : dataW p.w = true := rfl
theorem RP.plain (p : RP) : plW p.w = true := rfl
theorem RP.dep (p : RP) : depW p.w ≤ 64 := by simp [RP.w, depW, depsW]
def opnR (es : Es) (p : RP) : Bool := if 0 ≤ p.2 then opnE es (p.1, p.2.toNat) else false
def spIsOpen : SpW := fun ws h R _ => ∃ (d : Addr) (as : List Addr) (es : Es) (p : RP), ws = [.ref d, p.w] ∧ EndsAt d as es h ∧ es.length ≤ 1000 ∧ R (.bl (opnR es p)) h
section
variable {P : Program} {w : World} {K : PySem.W.Frag} {mg : Str → Option Value} {base : Heap}
theorem ok__is_open (T : Tx P w K mg) : FnOk P w K mg base CX0 2 T.a__is_open T.fd__is_open ["ends", "port"] (lSp K spIsOpen) := by
  refine fnW T.F__is_open sc__is_open (fun ws h R ex ⟨_, _, _, _, e, _⟩ => by rw [e]; rfl) fun cdv A outer s H E hr => ⟨_, (wss_cons (ws_if (wt_bool (ww_or (wt_not (wt_val (w_callB call_isi lf_is (by rfl) T.m_isinstance (by decide +kernel) (wa_cons (w_var 1) (wa_cons (w_bltn (n := "tuple") rfl T.m_tuple (by decide +kernel)) wa_nil))))) (ww_or (wt_cmp (ow_ne hr.units) lf_ne (w_callB call_len lf_len (by rfl) T.m_len (by decide +kernel) (wa_cons (w_var 1) wa_nil)) w_int (nomark _)) (ww_or (wt_not (wt_val (w_call (ok__is_integer T) (hr.mono (by walk_at "rm")) (by rfl) T.g__is_integer T.F__is_integer.kp T.b__is_integer (wa_cons (w_ix (w_var 1) w_int) wa_nil)))) (ww_or1 (wt_not (wt_val (w_call (ok__is_integer T) (hr.mono (by walk_at "rm")) (by rfl) T.g__is_integer T.F__is_integer.kp T.b__is_integer (wa_cons (w_ix (w_var 1) w_int) wa_nil))))))))) (wss_one (ws_ret w_bl)) wss_nil)
    (wss_cons (ws_asg (w_var 1) (wg_tup rfl (wgs_cons (wg_name (i := 2) sc__is_open.nd) (wgs_cons (wg_name (i := 3) sc__is_open.nd) wgs_nil))))
    (wss_one (ws_ret (w_and (w_din (hu_of hr) (w_var 2) (w_var 0)) (w_and (w_chain (rw := leW) (rw' := ltW) op_le lf_cmp op_lt lf_cmp w_int (w_var 3) (w_callB call_len lf_len (by rfl) T.m_len (by decide +kernel) (wa_cons (w_dget (hu_of hr) (w_var 0) (w_var 2)) wa_nil))) (w_one (w_cmp op_isN lf_isN (w_ix (w_dget (hu_of hr) (w_var 0) (w_var 2)) (w_var 3)) w_non (nomark _))))))))), fun ws h R ex ⟨d, as, es, p0, e, ea, hl, q⟩ => ?_⟩
  subst e
  by_cases r0 : 0 ≤ p0.2
  rotate_left
  · rw [show opnR es p0 = false by unfold opnR; rw [if_neg r0]] at q
    have dw : dW (.ref d) h = some (eK 0 (asW as)) := by unfold dW; dsimp only; rw [ea.d]
    have dg : dgW (.ref d) (.int (p0.1 : Nat)) h = some ((asW as)[p0.1]?) := by unfold dgW; rw [dw]; dsimp only [keyW]; rw [← eK_val0]
    unfold RP.w
    walk_at "stc"
    refine ⟨_, rfl, .inl ⟨_, rfl, ?_⟩⟩
    walk_at "stc"
    refine ⟨_, rfl, .inl ⟨_, rfl, ?_⟩⟩
    walk_at "stc"
    refine go_din dg ?_
    cases ei : (asW as)[p0.1]? with
    | none =>
      walk_at "stc"
      exact .base q (.refl _)
    | some a =>
      walk_at "stc"
      rw [decide_eq_false r0]
      walk_at "stc"
      exact .base q (.refl _)
  obtain ⟨p, ep⟩ : ∃ p : NP, p = (p0.1, p0.2.toNat) := ⟨_, rfl⟩
  have ep2 : p0 = (p.1, ((p.2 : Nat) : Int)) := by rw [ep]; exact Prod.ext rfl (Int.toNat_of_nonneg r0).symm
  rw [show opnR es p0 = opnE es p by unfold opnR; rw [if_pos r0, ep]] at q
  rw [ep2]
  unfold RP.w
  dsimp only
  have dw : dW (.ref d) h = some (eK 0 (asW as)) := by unfold dW; dsimp only; rw [ea.d]
  have dg : dgW (.ref d) (.int (p.1 : Nat)) h = some ((asW as)[p.1]?) := by unfold dgW; rw [dw]; dsimp only [keyW]; rw [← eK_val0]
  walk_at "stc"
  refine ⟨_, rfl, .inl ⟨_, rfl, ?_⟩⟩
  walk_at "stc"
  refine ⟨_, rfl, .inl ⟨_, rfl, ?_⟩⟩
  walk_at "stc"
  refine go_din dg ?_
  cases ei : as[p.1]? with
  | none =>
    have e2 : es[p.1]? = none := by rw [List.getElem?_eq_none_iff] at ei ⊢; have := ea.n; omega
    have e3 : (asW as)[p.1]? = none := by unfold asW; rw [List.getElem?_map, ei]; rfl
    rw [show opnE es p = false by unfold opnE; rw [e2]] at q
    rw [e3]
    walk_at "stc"
    exact .base q (.refl _)
  | some a =>
    have hi : p.1 < es.length := by have := (List.getElem?_eq_some_iff.mp ei).1; have := ea.n; omega
    have e2 : es[p.1]? = some es[p.1] := List.getElem?_eq_getElem hi
    have e3 : (asW as)[p.1]? = some (.ref a) := by unfold asW; rw [List.getElem?_map, ei]; rfl
    obtain ⟨la, l10⟩ := ea.l _ _ _ ei e2
    rw [show opnE es p = decide ((es[p.1])[p.2]? = some none) by unfold opnE; rw [e2]] at q
    rw [e3] at dg ⊢
    generalize es[p.1] = l at la l10 q
    have ll : (l.map opW).length = l.length := by simp
    walk_at "stc"
    refine go_dget dg ?_
    walk_at "stc"
    refine go_dec (fun c => ?_) fun c => ?_
    · have hp : p.2 < l.length := by omega
      have e4 : atI (l.map opW) ((p.2 : Nat) : Int) = some (opW l[p.2]) := atI_nat (by rw [List.getElem?_map, List.getElem?_eq_getElem hp]; rfl)
      walk_at "stc"
      refine go_dget dg ?_
      walk_at "stc"
      rw [List.getElem?_eq_getElem hp] at q
      generalize l[p.2] = o at e4 q ⊢
      cases o with
      | none =>
        simp only [opW]
        walk_at "stc"
        exact .base q (.refl _)
      | some r =>
        simp only [opW, NP.w]
        walk_at "stc"
        exact .base q (.refl _)
    · rw [show decide (l[p.2]? = some none) = false by rw [List.getElem?_eq_none (by omega)]; rfl] at q
      walk_at "stc"
      exact .base q (.refl _)
end

/-! ## the wires are laid one after another -/
abbrev Wr := NP × NP
def setE (es : Es) (p q : NP) : Es := match es[p.1]? with
  | some l => es.set p.1 (l.set p.2 (some q))
  | none => es
def wireE (es : Es) (w : NP × NP) : Option Es := if decide (w.1 = w.2) || (!opnE es w.1 || !opnE es w.2) then none else some (setE (setE es w.1 w.2) w.2 w.1)
def wiresE : Es → List (NP × NP) → Option Es
  | es, [] => some es
  | es, w :: ws => (wireE es w).bind fun e => wiresE e ws
def initE (ags : List Ag) : Es := ags.map fun a => List.replicate a.k.ports none
def fullE (es : Es) : Bool := es.all fun l => !l.contains none
def endsE (ags : List Ag) (ws : List (NP × NP)) : Option Es := (wiresE (initE ags) ws).bind fun e => if fullE e = true then some e else none
def wrW (w : NP × NP) : W := .tup [w.1.w, w.2.w]
def OwnE (d : Addr) (as : List Addr) : Addr → Prop := fun a => a = d ∨ a ∈ as
theorem wiresE_app : ∀ (a b : List (NP × NP)) (e : Es), wiresE e (a ++ b) = (wiresE e a).bind fun e => wiresE e b
  | [], b, e => rfl
  | w :: a, b, e => by
    simp only [List.cons_append, wiresE]
    cases wireE e w with
    | none => rfl
    | some e2 => exact wiresE_app a b e2
theorem datasW_app : ∀ a b : List W, datasW a = true → datasW b = true → datasW (a ++ b) = true
  | [], b, _, h => h
  | x :: a, b, g, h => by
    simp only [datasW, Bool.and_eq_true, List.cons_append] at g ⊢
    exact ⟨g.1, datasW_app a b g.2 h⟩
theorem ops_data : ∀ l : List (Option NP), datasW (l.map opW) = true
  | [] => rfl
  | none :: l => by simp only [List.map_cons, opW, datasW, dataW, ops_data l]; rfl
  | some p :: l => by simp only [List.map_cons, opW, datasW, ops_data l, NP.data p]; rfl
theorem es_data : ∀ es : Es, datasW ((es.map fun l => l.map opW).flatten) = true
  | [] => rfl
  | l :: es => by rw [List.map_cons, List.flatten_cons]; exact datasW_app _ _ (ops_data l) (es_data es)
theorem es_any (es : Es) : (((es.map fun l => l.map opW).flatten).any fun z => eqD z .non) = !fullE es := by
  have o : ∀ l : List (Option NP), ((l.map opW).any fun z => eqD z .non) = l.contains none := fun l => by
    induction l with
    | nil => rfl
    | cons a l ih =>
      rw [List.map_cons, List.any_cons, ih, List.contains_cons]
      congr 1
      cases a with
      | none => exact eqv_of _ rfl
      | some p => rfl
  unfold fullE
  induction es with
  | nil => rfl
  | cons l es ih =>
    rw [List.map_cons, List.flatten_cons, List.any_append, ih, o, List.all_cons, Bool.not_and, Bool.not_not]
theorem es_len : ∀ es : Es, (∀ l ∈ es, l.length ≤ 10) → ((es.map fun l => l.map opW).flatten).length ≤ 10 * es.length
  | [], _ => Nat.le_refl _
  | l :: es, h => by
    rw [List.map_cons, List.flatten_cons, List.length_append, List.length_map, List.length_cons]
    have := h l List.mem_cons_self
    have := es_len es fun m hm => h m (List.mem_cons_of_mem _ hm)
    omega
theorem setE_at {es : Es} {p q r : NP} {l : List (Option NP)} (h : es[r.1]? = some l) : ∃ m, (setE es p q)[r.1]? = some m ∧ m.length = l.length := by
  unfold setE
  split
  · rename_i k hk
    by_cases c : p.1 = r.1
    · have hlt := (List.getElem?_eq_some_iff.mp hk).1
      rw [c] at hk
      rw [h] at hk
      cases hk
      rw [← c, List.getElem?_set_self hlt]
      exact ⟨_, rfl, by rw [List.length_set]⟩
    · rw [List.getElem?_set_ne c]; exact ⟨_, h, rfl⟩
  · exact ⟨_, h, rfl⟩
theorem listAt_sub {x : W} {h h' : HW} {ws : List W} (s : Sub h h') (e : Wl.listAt x h ws) : Wl.listAt x h' ws := by
  unfold Wl.listAt at *
  split at e
  · exact e
  · exact s _ _ e
  · exact e
theorem EndsAt.set {d : Addr} {as : List Addr} {es : Es} {h : HW} (k : EndsAt d as es h) {p q : NP} {a : Addr} {l : List (Option NP)} (ha : as[p.1]? = some a) (hl : es[p.1]? = some l) : EndsAt d as (setE es p q) (updW h a (.lst ((l.map opW).set p.2 q.w))) := by
  have e : setE es p q = es.set p.1 (l.set p.2 (some q)) := by unfold setE; rw [hl]
  rw [e]
  have da : d ≠ a := fun z => by have := (k.l _ _ _ ha hl).1; rw [← z, k.d] at this; cases this
  refine ⟨by rw [List.length_set]; exact k.n, by rw [updW_ne da]; exact k.d, k.nd, fun i b m hb hm => ?_⟩
  by_cases c : p.1 = i
  · subst c
    rw [ha] at hb
    cases hb
    have hlt : p.1 < es.length := (List.getElem?_eq_some_iff.mp hl).1
    rw [List.getElem?_set_self hlt] at hm
    cases hm
    rw [updW_same, List.map_set, List.length_set]
    exact ⟨rfl, (k.l _ _ _ ha hl).2⟩
  · rw [List.getElem?_set_ne c] at hm
    have ne : b ≠ a := fun z => by
      subst z
      have h1 := (List.getElem?_eq_some_iff.mp ha)
      have h2 := (List.getElem?_eq_some_iff.mp hb)
      rcases Nat.lt_or_gt_of_ne c with z | z
      · exact (List.pairwise_iff_getElem.mp k.nd _ _ h1.1 h2.1 z) (by rw [h1.2, h2.2])
      · exact (List.pairwise_iff_getElem.mp k.nd _ _ h2.1 h1.1 z) (by rw [h1.2, h2.2])
    rw [updW_ne ne]
    exact k.l i b m hb hm

abbrev RWr := NP × RP
def rwW (w : RWr) : W := .tup [w.1.w, w.2.w]
def cvtW (w : RWr) : Option Wr := if 0 ≤ w.2.2 then some (w.1, (w.2.1, w.2.2.toNat)) else none
def wireR (es : Es) (w : RWr) : Option Es := (cvtW w).bind (wireE es)
def wiresR : Es → List RWr → Option Es
  | es, [] => some es
  | es, w :: ws => (wireR es w).bind fun e => wiresR e ws
theorem wiresR_app : ∀ (a b : List RWr) (e : Es), wiresR e (a ++ b) = (wiresR e a).bind fun e => wiresR e b
  | [], b, e => rfl
  | w :: a, b, e => by
    simp only [List.cons_append, wiresR]
    cases wireR e w with
    | none => rfl
    | some e2 => exact wiresR_app a b e2
def endsR (ags : List Ag) (ws : List RWr) : Option Es := (wiresR (initE ags) ws).bind fun e => if fullE e = true then some e else none
def rawW (w : Wr) : RWr := (w.1, (w.2.1, ((w.2.2 : Nat) : Int)))
theorem rawW_w (w : Wr) : rwW (rawW w) = wrW w := rfl
theorem cvt_raw (w : Wr) : cvtW (rawW w) = some w := by
  unfold cvtW rawW
  dsimp only
  rw [if_pos (by omega)]
  simp
theorem wiresR_raw : ∀ (ws : List Wr) (es : Es), wiresR es (ws.map rawW) = wiresE es ws
  | [], _ => rfl
  | w :: ws, es => by
    rw [List.map_cons, wiresR, wiresE]
    unfold wireR
    rw [cvt_raw, Option.bind_some]
    cases wireE es w with
    | none => rfl
    | some e => exact wiresR_raw ws e
theorem endsR_raw (ags : List Ag) (ws : List Wr) : endsR ags (ws.map rawW) = endsE ags ws := by unfold endsR endsE; rw [wiresR_raw]
theorem wiresR_some : ∀ (ws : List RWr) (es e : Es), wiresR es ws = some e → ∃ us : List Wr, us.map rawW = ws
  | [], _, _, _ => ⟨[], rfl⟩
  | w :: ws, es, e, h => by
    rw [wiresR] at h
    obtain ⟨e1, h1, h2⟩ := Option.bind_eq_some_iff.mp h
    obtain ⟨us, hu⟩ := wiresR_some ws e1 e h2
    unfold wireR at h1
    obtain ⟨v, hv, _⟩ := Option.bind_eq_some_iff.mp h1
    refine ⟨v :: us, ?_⟩
    rw [List.map_cons, hu]
    congr 1
    unfold cvtW at hv
    split at hv
    · cases hv
      obtain ⟨p, a, b⟩ := w
      unfold rawW
      dsimp only at *
      rw [Int.toNat_of_nonneg (by assumption)]
    · cases hv
theorem endsR_some {ags : List Ag} {ws : List RWr} {es : Es} (h : endsR ags ws = some es) : ∃ us : List Wr, us.map rawW = ws := by
  unfold endsR at h
  obtain ⟨e, h1, _⟩ := Option.bind_eq_some_iff.mp h
  exact wiresR_some _ _ _ h1
def spEndsOf (IN : Addr) : SpW := fun ws h R ex => ∃ (ags : List Ag) (x : W) (wrs : List RWr), ws = [.lst (ags.map Ag.w), x] ∧ Wl.listAt x h (wrs.map rwW) ∧ ags.length ≤ 1000 ∧ wrs.length ≤ 100000 ∧
  match endsR ags wrs with
  | none => ∀ h', Sub h h' → ex ⟨IN, none⟩ h'
  | some es => ∀ d as h', EndsAt d as es h' → Sub h h' → (∀ a, OwnE d as a → h a = none) → R (.ref d) h'
section
variable {P : Program} {w : World} {K : PySem.W.Frag} {mg : Str → Option Value} {base : Heap}
theorem ok__ends_of (T : Tx P w K mg) : FnOk P w K mg base (L2.CX P w) 3 T.a__ends_of T.fd__ends_of ["agents", "wires"] (lSp K (spEndsOf T.aC_InvalidNet)) := by
  refine fnWX T.F__ends_of sc__ends_of (fun ws h R ex ⟨_, _, _, e, _⟩ => by rw [e]; rfl) fun cdv A outer s H E ex hr => ⟨_, (wss_cons (ws_setDcT (i := 2) (own := [("name", 6), ("agent", 7)]) rfl sc__ends_of.nd rfl rfl (sw_trueD rfl rfl rfl (by decide +kernel)) (tgT (n := 2) (tgCons (tgN (by decide)) (tgCons (tgN (by decide)) tgNil))) (wi_enum (by rfl) T.m_enumerate (wa_cons (w_var 0) wa_nil)) (blkOk_by (N := N__ends_of) (sc := defScope s__ends_of) (by decide +kernel)) (fun _ _ _ _ _ => (pg_tup (n := 2) rfl (pgs_cons (pg_name (i := 6) sc__ends_of.nd rfl (Or.inl rfl)) (pgs_cons (pg_name (i := 7) sc__ends_of.nd rfl (Or.inl rfl)) pgs_nil)))) (fun _ _ _ _ _ => wts_nil) (fun _ _ _ _ _ => (w_var 6)) (fun _ _ _ _ _ => (w_op (rw := repOW) op_rep lf_repO (w_lst (wa_cons w_non wa_nil)) (w_kget (T.t_PORTS) (w_glob rfl T.gk_PORTS) (w_ix (w_var 7) w_int)))))
    (wss_cons (ws_forO (passes_of rfl) rfl (w_var 1) (wg_name (i := 3) sc__ends_of.nd) (wss_cons (ws_if (wt_bool (ww_or (wt_not (wt_val (w_callB call_isi lf_is (by rfl) T.m_isinstance (by decide +kernel) (wa_cons (w_var 3) (wa_cons (w_bltn (n := "tuple") rfl T.m_tuple (by decide +kernel)) wa_nil))))) (ww_or1 (wt_cmp (ow_ne hr.units) lf_ne (w_callB call_len lf_len (by rfl) T.m_len (by decide +kernel) (wa_cons (w_var 3) wa_nil)) w_int (nomark _))))) (wss_one (ws_raise rfl (takes_of rfl rfl rfl rfl) T.x_InvalidNet T.gC_InvalidNet T.k_InvalidNet T.b_InvalidNet T.t_InvalidNet (by rfl) (w_str z_ax20wirex20doesx20notx20havex20twox20ends))) wss_nil)
    (wss_cons (ws_asg (w_var 3) (wg_tup rfl (wgs_cons (wg_name (i := 4) sc__ends_of.nd) (wgs_cons (wg_name (i := 5) sc__ends_of.nd) wgs_nil))))
    (wss_cons (ws_if (wt_bool (ww_or (wt_cmp (ow_eq hr.units) lf_eq (w_var 4) (w_var 5) (nomark _)) (ww_or (wt_not (wt_val (w_call (ok__is_open T) (hr.mono (by walk_at "rm")) (by rfl) T.g__is_open T.F__is_open.kp T.b__is_open (wa_cons (w_var 2) (wa_cons (w_var 4) wa_nil))))) (ww_or1 (wt_not (wt_val (w_call (ok__is_open T) (hr.mono (by walk_at "rm")) (by rfl) T.g__is_open T.F__is_open.kp T.b__is_open (wa_cons (w_var 2) (wa_cons (w_var 5) wa_nil))))))))) (wss_one (ws_raise rfl (takes_of rfl rfl rfl rfl) T.x_InvalidNet T.gC_InvalidNet T.k_InvalidNet T.b_InvalidNet T.t_InvalidNet (by rfl) (w_str z_ax20wirex20doesx20notx20endx20atx20twox20portsx20withoutx20anotherx20wire))) wss_nil)
    (wss_cons (ws_asg (w_var 5) (wg_lix (w_dget (hu_of hr) (w_var 2) (w_ix (w_var 4) w_int)) (w_ix (w_var 4) w_int)))
    (wss_one (ws_asg (w_var 4) (wg_lix (w_dget (hu_of hr) (w_var 2) (w_ix (w_var 5) w_int)) (w_ix (w_var 5) w_int)))))))))
    (wss_cons (ws_if (wt_cmp (ow_inM (n := 100) (roomE hr (by walk_at "rm"))) lf_inM w_non (w_flatV (x := "peers") (x2 := "peer") (j := 8) (j2 := 9) rfl sc__ends_of.nd (w_var 2) (blkOk_by (N := N__ends_of) (sc := defScope s__ends_of) (by decide +kernel)) (fun _ _ _ _ _ => pg_name (i := 8) sc__ends_of.nd rfl (Or.inl rfl)) (fun _ _ _ _ _ => (w_var 8)) (fun _ _ _ _ _ => pg_name (i := 9) sc__ends_of.nd rfl (Or.inl rfl)) (fun _ _ _ _ _ => (w_var 9))) (by rfl)) (wss_one (ws_raise rfl (takes_of rfl rfl rfl rfl) T.x_InvalidNet T.gC_InvalidNet T.k_InvalidNet T.b_InvalidNet T.t_InvalidNet (by rfl) (w_str z_ax20portx20isx20thex20endx20ofx20nox20wire))) wss_nil)
    (wss_one (ws_ret (w_var 2)))))), fun ws h R ⟨ags, x, wrs, e, hx, hl, hw, q⟩ => ?_⟩
  subst e
  walk_at "st"
  refine go_dcT (enumW (ags.map Ag.w)) (fun P q => by unfold oItE; walk_at "st"; exact q) (by rw [enumW_len]; simp; omega) fun d hd => ⟨fun i acc h' => ∃ as : List Addr, as.length = i ∧ acc = eK 0 (asW as) ∧ as.Nodup ∧ Sub h h' ∧ (∀ (j : Nat) (a : Addr), as[j]? = some a → h a = none ∧ ∃ ag : Ag, ags[j]? = some ag ∧ h' a = some (.lst (List.replicate ag.k.ports .non))), ?_, ?_, ?_⟩
  · exact ⟨[], rfl, rfl, List.nodup_nil, .refl _, fun j a e => by simp at e⟩
  · rintro i w acc h' hw hn la ⟨as, la2, rfl, nd, sb, hA⟩
    obtain ⟨y, hy, rfl⟩ := enumW_get hw
    rw [List.getElem?_map] at hy
    obtain ⟨ag, hag, rfl⟩ := Option.map_eq_some_iff.mp hy
    refine ⟨_, rfl, go_yes ?_⟩
    rw [if_pos rfl]
    unfold Ag.w
    walk_at "st"
    refine go_kget (tab_ports ag.k) ?_
    walk_at "st"
    have p10 : ag.k.ports ≤ 3 := by cases ag.k <;> decide
    refine go_repO (by simp; omega) (by omega) fun p2 hp2 => ?_
    have n2 : p2 ≠ d := fun z => by rw [z, updW_same] at hp2; cases hp2
    have hp2' : h' p2 = none := by rw [updW_ne n2] at hp2; exact hp2
    have fl : (List.replicate ag.k.ports [W.non]).flatten = List.replicate ag.k.ports W.non := by simp
    have nin : p2 ∉ as := fun z => by
      obtain ⟨j, hj, e⟩ := List.mem_iff_getElem.mp z
      obtain ⟨_, ag2, _, e3⟩ := hA j p2 (by rw [List.getElem?_eq_getElem hj, e])
      rw [hp2'] at e3; cases e3
    rw [fl]
    refine ⟨.inl (i : Nat), updW h' p2 (.lst (List.replicate ag.k.ports .non)), rfl, fun b o e => ?_, by rw [updW_ne n2.symm]; exact hn, as ++ [p2], by simp [la2], ?_, ?_, sb.trans (.new hp2'), fun j a e => ?_⟩
    · by_cases b1 : b = p2
      · subst b1; rw [updW_ne n2, updW_same] at e; rw [updW_same]; exact e
      · rw [updW_ne b1]
        by_cases b2 : b = d
        · subst b2; rw [updW_same] at e ⊢; exact e
        · rw [updW_ne b2, updW_ne b1] at e; rw [updW_ne b2]; exact e
    · have := putW_eK (xs := asW as) (x := .ref p2)
      rw [show (asW as).length = i by simp [asW, la2]] at this
      rw [this]; simp [asW]
    · rw [List.nodup_append]
      exact ⟨nd, by simp, fun a ha b hb => by rw [List.mem_singleton.mp hb]; exact fun z => nin (z ▸ ha)⟩
    · by_cases c : j < as.length
      · rw [List.getElem?_append_left c] at e
        obtain ⟨h1, ag2, h2, h3⟩ := hA j a e
        refine ⟨h1, ag2, h2, ?_⟩
        rw [updW_ne (show a ≠ p2 from fun z => nin (by rw [← z]; exact List.mem_of_getElem? e))]; exact h3
      · rw [List.getElem?_append_right (by omega)] at e
        have j0 : j - as.length = 0 := by have := (List.getElem?_eq_some_iff.mp e).1; simpa using this
        rw [j0] at e
        cases e
        refine ⟨?_, ag, by rw [show j = i by omega]; exact hag, updW_same⟩
        cases hh : h p2 with
        | none => rfl
        | some o => have := sb p2 o hh; rw [hp2'] at this; cases this
  · rintro acc h' hn ⟨as, la2, rfl, nd, sb, hA⟩
    rw [enumW_len, List.length_map] at la2
    obtain ⟨h0, eh0⟩ : ∃ h0, h0 = updW h' d (.dic (eK 0 (asW as))) := ⟨_, rfl⟩
    rw [← eh0]
    have own : ∀ a, OwnE d as a → h a = none := fun a ha => by
      rcases ha with rfl | ha
      · exact hd
      · obtain ⟨j, hj, e⟩ := List.mem_iff_getElem.mp ha
        exact (hA j a (by rw [List.getElem?_eq_getElem hj, e])).1
    have sb0 : Sub h h0 := by rw [eh0]; exact sb.trans (.new hn)
    have ea0 : EndsAt d as (initE ags) h0 := by
      refine ⟨by rw [la2]; simp [initE], by rw [eh0, updW_same], nd, fun i a l ha hl2 => ?_⟩
      obtain ⟨_, ag, h2, h3⟩ := hA i a ha
      unfold initE at hl2
      rw [List.getElem?_map, h2] at hl2
      cases hl2
      have ad : a ≠ d := fun z => by rw [z, hn] at h3; cases h3
      refine ⟨by rw [eh0, updW_ne ad, h3, List.map_replicate]; rfl, ?_⟩
      rw [List.length_replicate]
      cases ag.k <;> decide
    clear hA
    walk_at "st"
    refine go_forO (x := x) (wrs.map rwW) (fun R q => by walk_at "st"; exact q) (listAt_sub sb0 hx)
      (fun i ρ' h' => ∃ es, wiresR (initE ags) (wrs.take i) = some es ∧ EndsAt d as es h' ∧ Sub h h' ∧ ρ' = [some (.lst (ags.map Ag.w)), some x, some (.ref d), none, none, none, none, none, none, none])
      (.of ⟨initE ags, rfl, ea0, sb0, rfl⟩) (fun i ρ' h' _ ⟨es, _, _, s2, _⟩ => listAt_sub s2 hx) ?_ ?_
    · rintro i w ρ' h2 hw2 ⟨es, e1, ea, s2, rfl⟩
      rw [List.getElem?_map] at hw2
      obtain ⟨⟨o1, r2⟩, hwr, rfl⟩ := Option.map_eq_some_iff.mp hw2
      have tk : wrs.take (i + 1) = wrs.take i ++ [(o1, r2)] := by rw [List.take_add_one, hwr]; rfl
      have sp : wrs = wrs.take i ++ (o1, r2) :: wrs.drop (i + 1) := by
        have hi := (List.getElem?_eq_some_iff.mp hwr)
        conv => lhs; rw [← List.take_append_drop i wrs]
        rw [List.drop_eq_getElem_cons hi.1, hi.2]
      have all : wiresR (initE ags) wrs = (wireR es (o1, r2)).bind fun e => wiresR e (wrs.drop (i + 1)) := by
        conv => lhs; rw [sp, wiresR_app, e1]
        rfl
      have les : es.length ≤ 1000 := by have := ea.n; omega
      have badR : wireR es (o1, r2) = none → ∀ h', Sub h h' → ex ⟨T.aC_InvalidNet, none⟩ h' := fun z => by
        have : endsR ags wrs = none := by unfold endsR; rw [all, z]; rfl
        rw [this] at q; exact q
      by_cases r0 : 0 ≤ r2.2
      rotate_left
      · have bd : wireR es (o1, r2) = none := by unfold wireR cvtW; rw [if_neg r0]; rfl
        have opf : opnR es r2 = false := by unfold opnR; rw [if_neg r0]
        rw [show rwW (o1, r2) = .tup [o1.w, r2.w] from rfl]
        walk_at "stc"
        refine go_eqD (NP.data o1) r2.data (by show depW o1.w ≤ 64; simp [NP.w, depW, depsW]) r2.dep ?_
        rw [eqD_dec (NP.plain o1) r2.plain (False) ⟨fun z => by
          unfold NP.w RP.w at z
          injection z with z
          injection z with _ z
          injection z with z _
          injection z with z
          omega, False.elim⟩, decide_eq_false id]
        walk_at "stc"
        refine ⟨d, as, es, (o1.1, ((o1.2 : Nat) : Int)), rfl, ea, les, ?_⟩
        cases opnR es (o1.1, ((o1.2 : Nat) : Int)) with
        | false =>
          walk_at "stc"
          exact badR bd _ s2
        | true =>
        walk_at "stc"
        refine ⟨d, as, es, r2, rfl, ea, les, ?_⟩
        rw [opf]
        walk_at "stc"
        exact badR bd _ s2
      obtain ⟨o2, eo2⟩ : ∃ o2 : NP, o2 = (r2.1, r2.2.toNat) := ⟨_, rfl⟩
      have er2 : r2 = (o2.1, ((o2.2 : Nat) : Int)) := by rw [eo2]; exact Prod.ext rfl (Int.toNat_of_nonneg r0).symm
      have wre : wireR es (o1, r2) = wireE es (o1, o2) := by unfold wireR cvtW; rw [if_pos r0, eo2]; rfl
      have opr : ∀ p : NP, opnR es (p.1, ((p.2 : Nat) : Int)) = opnE es p := fun p => by unfold opnR; dsimp only; rw [if_pos (by omega)]; simp
      rw [show rwW (o1, r2) = .tup [o1.w, o2.w] by rw [er2]; rfl]
      walk_at "stc"
      refine go_eqD (NP.data o1) (NP.data o2) (by show depW o1.w ≤ 64; simp [NP.w, depW, depsW]) (by show depW o2.w ≤ 64; simp [NP.w, depW, depsW]) ?_
      rw [eqD_dec (NP.plain o1) (NP.plain o2) (o1 = o2) NP.w_inj]
      have bad : wireE es (o1, o2) = none → ∀ h', Sub h h' → ex ⟨T.aC_InvalidNet, none⟩ h' := fun z => badR (by rw [wre]; exact z)
      refine go_dec (fun c => ?_) fun c => ?_
      · walk_at "stc"
        exact bad (by unfold wireE; simp [c]) _ s2
      walk_at "stc"
      refine ⟨d, as, es, (o1.1, ((o1.2 : Nat) : Int)), rfl, ea, les, ?_⟩
      rw [opr]
      cases c1 : opnE es o1 with
      | false =>
        walk_at "stc"
        exact bad (by unfold wireE; simp [c1]) _ s2
      | true =>
      walk_at "stc"
      refine ⟨d, as, es, (o2.1, ((o2.2 : Nat) : Int)), rfl, ea, les, ?_⟩
      rw [opr]
      cases c2 : opnE es o2 with
      | false =>
        walk_at "stc"
        exact bad (by unfold wireE; simp [c2]) _ s2
      | true =>
      have opn : ∀ {es : Es} {h : HW} {p : NP}, EndsAt d as es h → opnE es p = true → ∃ l a, es[p.1]? = some l ∧ l[p.2]? = some none ∧ as[p.1]? = some a ∧ h a = some (.lst (l.map opW)) ∧ dgW (.ref d) (.int (p.1 : Nat)) h = some (some (.ref a)) := fun {es h p} ea z => by
        unfold opnE at z
        split at z
        · rename_i l hl
          have hlt := (List.getElem?_eq_some_iff.mp hl).1
          have hlt2 : p.1 < as.length := by have := ea.n; omega
          have ha : as[p.1]? = some as[p.1] := List.getElem?_eq_getElem hlt2
          have dw : dW (.ref d) h = some (eK 0 (asW as)) := by unfold dW; dsimp only; rw [ea.d]
          refine ⟨l, _, hl, of_decide_eq_true z, ha, (ea.l _ _ _ ha hl).1, ?_⟩
          unfold dgW
          rw [dw]
          dsimp only [keyW]
          rw [eK_val0]
          unfold asW
          rw [List.getElem?_map, ha]; rfl
        · cases z
      obtain ⟨l1, a1, hl1, hn1, ha1, hh1, dg1⟩ := opn ea c1
      have ix : ∀ (l : List (Option NP)) (j : Nat), j < l.length → ixN (l.map opW).length ((j : Nat) : Int) = some j := fun l j hj => by unfold ixN; rw [if_pos (by omega), if_pos (by rw [List.length_map]; omega)]; simp
      have lt1 : o1.2 < l1.length := (List.getElem?_eq_some_iff.mp hn1).1
      walk_at "stc"
      dsimp only [NP.w]
      walk_at "stc"
      refine go_dget dg1 ?_
      walk_at "stc"
      refine go_lixK hh1 (ix _ _ lt1) ?_
      have ea1 := ea.set (q := o2) ha1 hl1
      obtain ⟨l2, a2, hl2, hn2, ha2, _, _⟩ := opn ea c2
      obtain ⟨l3, hl3, len3⟩ := setE_at (p := o1) (q := o2) hl2
      have lt3 : o2.2 < l3.length := by rw [len3]; exact (List.getElem?_eq_some_iff.mp hn2).1
      have hh3 := (ea1.l _ _ _ ha2 hl3).1
      have ea2 := ea1.set (q := o1) ha2 hl3
      have dg3 : dgW (.ref d) (.int (o2.1 : Nat)) (updW h2 a1 (.lst ((l1.map opW).set o1.2 o2.w))) = some (some (.ref a2)) := by
        have dw : dW (.ref d) (updW h2 a1 (.lst ((l1.map opW).set o1.2 o2.w))) = some (eK 0 (asW as)) := by unfold dW; dsimp only; rw [ea1.d]
        unfold dgW
        rw [dw]
        dsimp only [keyW]
        rw [eK_val0]
        unfold asW
        rw [List.getElem?_map, ha2]; rfl
      have keepS : ∀ {g : HW} {a : Addr} {o : OW}, Sub h g → a ∈ as → Sub h (updW g a o) := fun {g a o} sg ha b u e => by
        have ne : b ≠ a := fun z => by have := own a (.inr ha); rw [← z, e] at this; cases this
        rw [updW_ne ne]; exact sg b u e
      have s3 := keepS (o := .lst ((l1.map opW).set o1.2 o2.w)) s2 (List.mem_of_getElem? ha1)
      rw [show W.tup [W.int (o2.1 : Nat), W.int (o2.2 : Nat)] = o2.w from rfl]
      generalize updW h2 a1 (.lst ((l1.map opW).set o1.2 o2.w)) = h3 at ea1 ea2 hh3 dg3 s3 ⊢
      walk_at "stc"
      dsimp only [NP.w]
      walk_at "stc"
      refine go_dget dg3 ?_
      walk_at "stc"
      refine go_lixK hh3 (ix _ _ lt3) ?_
      refine ⟨_, _, ⟨setE (setE es o1 o2) o2 o1, ?_, ea2, keepS s3 (List.mem_of_getElem? ha2), rfl⟩, .same (.same (.same (.no (.no (.no (.no (.no (.no (.no .nil))))))))), .refl _⟩
      rw [tk, wiresR_app, e1]
      show (wireR es (o1, r2)).bind _ = _
      rw [wre]
      have : wireE es (o1, o2) = some (setE (setE es o1 o2) o2 o1) := by unfold wireE; simp [c, c1, c2]
      rw [this]; rfl
    · rintro ρ' h2 ⟨es, e1, ea, s2, rfl⟩
      rw [List.length_map, List.take_length] at e1
      walk_at "st"
      have fin : ∀ R' : KW, R' (.lst ((es.map fun l => l.map opW).flatten)) h2 → oFlatV (oVar 2) 8 (oVar 8) 9 (oVar 9) [some (.lst (ags.map Ag.w)), some x, some (.ref d), none, none, none, none, none, none, none] h2 R' := fun R' r => by
        refine ⟨d, eK 0 (asW as), es.map fun l => l.map opW, ea.d, by rw [eK_len]; simp [asW, ea.n], fun i k w hk => ?_, ?_, fun o => ⟨rfl, rfl⟩, fun w h' => ⟨rfl, rfl⟩, fun w y h' => ⟨rfl, rfl⟩, r⟩
        · have hv := eK_get (asW as) 0
          have hi : i < (asW as).length := by have := (List.getElem?_eq_some_iff.mp hk).1; rwa [eK_len] at this
          have := hv i _ (List.getElem?_eq_getElem hi)
          rw [hk] at this
          cases this
          have hi2 : i < as.length := by simpa [asW] using hi
          have hi3 : i < es.length := by have := ea.n; omega
          refine ⟨as[i], es[i].map opW, by simp [asW], by rw [List.getElem?_map, List.getElem?_eq_getElem hi3]; rfl, (ea.l i _ _ (List.getElem?_eq_getElem hi2) (List.getElem?_eq_getElem hi3)).1⟩
        · refine Nat.le_trans (es_len es fun l hl2 => ?_) (by have := ea.n; omega)
          obtain ⟨j, hj, e⟩ := List.mem_iff_getElem.mp hl2
          have hj2 : j < as.length := by have := ea.n; omega
          exact (ea.l j _ l (List.getElem?_eq_getElem hj2) (by rw [List.getElem?_eq_getElem hj, e])).2
      refine fin _ ?_
      walk_at "st"
      refine go_inML rfl (es_data es) (by decide) ?_
      rw [es_any]
      have due : endsR ags wrs = if fullE es = true then some es else none := by unfold endsR; rw [e1]; rfl
      rw [due] at q
      cases fe : fullE es with
      | true =>
        rw [fe, if_pos rfl] at q
        walk_at "stc"
        exact .base (q d as h2 ea s2 own) (.refl _)
      | false =>
        rw [fe, if_neg Bool.false_ne_true] at q
        walk_at "stc"
        exact q h2 s2
end

/-! ## the agents of a net -/
theorem go_lcG {α : Type} {ρ : SlW} {h h2 : HW} {R : KW} {ti : TIW} {j : Nat} {tt : TTW} {te : TEW} (ts : List α) (rep : α → W) (f : α → Bool) (ev : ∀ P : List W → HW → Prop, P (ts.map rep) h2 → ti ρ h P) (hz : ts.length ≤ 16000000)
    (el : ∀ (t : α) (p : Addr) (acc : List W) (RB : Bool → HW → Prop), t ∈ ts → h2 p = none → RB (f t) (updW h2 p (.lst acc)) → tt (ρ.set j (some (rep t))) (updW h2 p (.lst acc)) RB)
    (et : ∀ (t : α) (p : Addr) (acc : List W) (R' : KW), t ∈ ts → f t = true → R' (rep t) (updW h2 p (.lst acc)) → te (ρ.set j (some (rep t))) (updW h2 p (.lst acc)) R') (k : R (.lst ((ts.filter f).map rep)) h2) : oLc ti j tt te ρ h R := by
  refine ev _ ⟨by rw [List.length_map]; exact hz, fun p hp => ⟨fun i acc h' => acc = ((ts.take i).filter f).map rep ∧ h' = h2, ⟨rfl, rfl⟩, ?_, ?_⟩⟩
  · rintro i w acc h' e n hla ⟨rfl, rfl⟩
    rw [List.getElem?_map] at e
    obtain ⟨t, e2, rfl⟩ := Option.map_eq_some_iff.mp e
    have tm := List.mem_of_getElem? e2
    have et2 : ((ts.take (i + 1)).filter f).map rep = ((ts.take i).filter f).map rep ++ (if f t = true then [rep t] else []) := by
      rw [List.take_add_one, e2, List.filter_append, List.map_append]
      congr 1
      show (([t] : List α).filter f).map rep = _
      rw [List.filter_cons]
      split <;> rfl
    refine el t p _ _ tm hp ?_
    cases ef : f t with
    | true =>
      rw [if_pos rfl]
      refine et t p _ _ tm ef ⟨_, .refl _, hp, ?_, rfl⟩
      rw [et2, ef, if_pos rfl]
    | false =>
      rw [if_neg Bool.false_ne_true]
      refine ⟨_, .refl _, hp, ?_, rfl⟩
      rw [et2, ef, if_neg Bool.false_ne_true, List.append_nil]
  · rintro acc h' n ⟨rfl, rfl⟩
    rw [List.length_map, List.take_length]; exact k
def rootsN (ags : List Ag) : Nat := (ags.filter fun a => decide (a.k = .root)).length
def agsOk (ags : List Ag) : Bool := (ags.all fun a => a.ok) && decide (rootsN ags = 1)

def allAg : List RA → Option (List Ag)
  | [] => some []
  | r :: rs => match r.ag, allAg rs with | some a, some as => some (a :: as) | _, _ => none
theorem allAg_w : ∀ {rs : List RA} {ags : List Ag}, allAg rs = some ags → rs.map RA.w = ags.map Ag.w ∧ ∀ a ∈ ags, a.ok = true
  | [], ags, h => by cases h; exact ⟨rfl, fun a h => nomatch h⟩
  | r :: rs, ags, h => by
    unfold allAg at h
    split at h
    · rename_i a as e1 e2
      cases h
      obtain ⟨h1, h2⟩ := allAg_w e2
      obtain ⟨g1, g2⟩ := RA.ag_w e1
      refine ⟨by rw [List.map_cons, List.map_cons, g1, h1], fun b hb => ?_⟩
      rcases List.mem_cons.mp hb with rfl | hb
      · exact g2
      · exact h2 b hb
    · cases h
theorem allAg_none {rs : List RA} {r : RA} (h : r ∈ rs) (e : r.ag = none) : allAg rs = none := by
  induction rs with
  | nil => cases h
  | cons a rs ih =>
    unfold allAg
    rcases List.mem_cons.mp h with rfl | h
    · rw [e]
    · rw [ih h]
      cases a.ag <;> rfl
theorem allAg_some : ∀ {rs : List RA}, (∀ r ∈ rs, r.ag.isSome = true) → ∃ ags, allAg rs = some ags
  | [], _ => ⟨[], rfl⟩
  | r :: rs, h => by
    obtain ⟨as, e⟩ := allAg_some fun x hx => h x (List.mem_cons_of_mem _ hx)
    obtain ⟨a, e2⟩ := Option.isSome_iff_exists.mp (h r List.mem_cons_self)
    exact ⟨a :: as, by unfold allAg; rw [e2, e]⟩
def spRefuseR (IN : Addr) : SpW := fun ws h R ex => ∃ rs : List RA, ws = [.lst (rs.map RA.w)] ∧ rs.length ≤ 1000 ∧ (∀ r ∈ rs, r.Dr) ∧ match allAg rs with
  | some ags => if rootsN ags = 1 then R .non h else ∀ h', Sub h h' → ex ⟨IN, none⟩ h'
  | none => ∀ h', Sub h h' → ex ⟨IN, none⟩ h'
section
variable {P : Program} {w : World} {K : PySem.W.Frag} {mg : Str → Option Value} {base : Heap}
theorem ok__refuse_agents (T : Tx P w K mg) : FnOk P w K mg base (L2.CX P w) 3 T.a__refuse_agents T.fd__refuse_agents ["agents"] (lSp K (spRefuseR T.aC_InvalidNet)) := by
  refine fnWX T.F__refuse_agents sc__refuse_agents (fun ws h R ex ⟨_, e, _⟩ => by rw [e]; rfl) fun cdv A outer s H E ex hr => ⟨_, (wss_cons (ws_for (passes_of rfl) rfl (wi_list (w_var 0)) (wg_name (i := 1) sc__refuse_agents.nd) (wss_one (ws_if (wt_not (wt_val (w_call (ok__is_agent T) (hr.mono (by walk_at "rm")) (by rfl) T.g__is_agent T.F__is_agent.kp T.b__is_agent (wa_cons (w_var 1) wa_nil)))) (wss_one (ws_raise rfl (takes_of rfl rfl rfl rfl) T.x_InvalidNet T.gC_InvalidNet T.k_InvalidNet T.b_InvalidNet T.t_InvalidNet (by rfl) (w_str z_anx20agentx20isx20notx20ofx20thex20formx20thatx20itsx20kindx20asksx20for))) wss_nil)))
    (wss_cons (ws_setLc (i := 2) (x := "agent") (j := 1) rfl sc__refuse_agents.nd rfl rfl (sw_true rfl rfl rfl (by decide +kernel)) (wi_list (w_var 0)) (blkOk_by (N := N__refuse_agents) (sc := defScope s__refuse_agents) (by decide +kernel)) (fun _ _ _ _ _ => pg_name (i := 1) sc__refuse_agents.nd rfl (Or.inl rfl)) (fun _ _ _ _ _ => (wts_one (wt_cmp (ow_eq hr.units) lf_eq (w_ix (w_var 1) w_int) (w_str z_root) (nomark _)))) (fun _ _ _ _ _ => (w_var 1)))
    (wss_one (ws_if (wt_cmp (ow_ne hr.units) lf_ne (w_callB call_len lf_len (by rfl) T.m_len (by decide +kernel) (wa_cons (w_var 2) wa_nil)) w_int (nomark _)) (wss_one (ws_raise rfl (takes_of rfl rfl rfl rfl) T.x_InvalidNet T.gC_InvalidNet T.k_InvalidNet T.b_InvalidNet T.t_InvalidNet (by rfl) (w_joined (.cons (w_str z_therex20arex20) (.cons (w_fmt (w_callB call_len lf_len (by rfl) T.m_len (by decide +kernel) (wa_cons (w_var 2) wa_nil))) (.cons (w_str z_x20roots) .nil)))))) wss_nil)))), fun ws h R ⟨rs, e, hl, dr, q⟩ => ?_⟩
  subst e
  walk_at "st"
  refine go_forL (rs.map RA.w) (fun R q => by walk_at "st"; exact q)
    (fun i ρ' h' => (∀ (j : Nat) (r : RA), j < i → rs[j]? = some r → r.ag.isSome = true) ∧ ρ' = [some (.lst (rs.map RA.w)), none, none] ∧ h' = h)
    (.of ⟨fun j a z => absurd z (Nat.not_lt_zero _), rfl, rfl⟩) ?_ ?_
  · rintro i w ρ' h' hw ⟨inv, rfl, rfl⟩
    rw [List.getElem?_map] at hw
    obtain ⟨r, hr2, rfl⟩ := Option.map_eq_some_iff.mp hw
    walk_at "st"
    refine ⟨r, rfl, dr r (List.mem_of_getElem? hr2), ?_⟩
    cases c : r.ag.isSome with
    | true =>
      walk_at "stc"
      refine ⟨_, _, ⟨fun j b hj hb => ?_, rfl, rfl⟩, .same (.no (.no .nil)), .refl _⟩
      rcases Nat.lt_or_ge j i with z | z
      · exact inv j b z hb
      · rw [show j = i by omega, hr2] at hb; cases hb; exact c
    | false =>
      walk_at "stc"
      rw [allAg_none (List.mem_of_getElem? hr2) (by cases e : r.ag with | none => rfl | some _ => rw [e] at c; cases c)] at q
      exact q _ (.refl _)
  · rintro ρ' h' ⟨inv, rfl, rfl⟩
    obtain ⟨ags, ea⟩ := allAg_some (rs := rs) fun r hr => by
      obtain ⟨j, hj, e⟩ := List.mem_iff_getElem.mp hr
      exact inv j r (by simpa using hj) (by rw [List.getElem?_eq_getElem hj, e])
    obtain ⟨ew, _⟩ := allAg_w ea
    have hl2 : ags.length ≤ 1000 := by have := congrArg List.length ew; simp at this; omega
    rw [ea] at q
    rw [ew]
    dsimp only at q
    walk_at "st"
    refine go_lcG ags Ag.w (fun a => decide (a.k = .root)) (fun P q => by walk_at "st"; exact q) (by omega) (fun a p acc RB _ hp r => ?_) (fun a p acc R' _ _ r => ?_) ?_
    · unfold Ag.w
      walk_at "st"
      rw [show decide (a.k.s = z_root) = decide (a.k = .root) by cases a.k <;> rfl]
      exact r
    · walk_at "st"
      exact r
    · have ln : ((ags.filter fun a => decide (a.k = .root)).map Ag.w).length = rootsN ags := by rw [List.length_map]; rfl
      have lr : rootsN ags ≤ 1000 := Nat.le_trans (List.length_filter_le _ _) hl2
      walk_at "st"
      rw [ln]
      refine go_ndec (fun c => ?_) fun c => ?_
      · rw [if_neg (by omega)] at q
        walk_at "st"
        rw [ln]
        refine go_fmtI (l2 (by omega)) ?_
        have := decS_len' (i := ((rootsN ags : Nat) : Int)) (by omega)
        walk_at "st"
        exact q _ (.refl _)
      · rw [if_pos (by omega)] at q
        walk_at "st"
        exact .base q (.refl _)
end

/-! ## a net -/
structure NG where
  a1 : Addr
  d : Addr
  a3 : Addr
  as : List Addr
structure NS where
  ags : List Ag
  es : Es
  root : Nat
  act : List NP
abbrev netF (g : NG) (s : NS) : List (Str × W) := [("agents", .ref g.a1), ("ends", .ref g.d), ("root", .int (s.root : Nat)), ("active", .ref g.a3), ("next_name", .int (s.ags.length : Nat))]
structure NetAt (C v : Addr) (g : NG) (s : NS) (h : HW) : Prop where
  c : h v = some (.ins C (netF g s))
  ag : h g.a1 = some (.dic (eK 0 (s.ags.map Ag.w)))
  en : EndsAt g.d g.as s.es h
  ac : h g.a3 = some (.lst (s.act.map NP.w))
  n : s.es.length = s.ags.length
  l : s.ags.length ≤ 60
def spNames (C : Addr) : SpW := fun ws h R _ => ∃ (v : Addr) (g : NG) (s : NS), ws = [.ref v] ∧ NetAt C v g s h ∧ R (.lst ((List.range s.ags.length).map fun i => .int (i : Nat))) h
def spLenN (C : Addr) : SpW := fun ws h R _ => ∃ (v : Addr) (g : NG) (s : NS), ws = [.ref v] ∧ NetAt C v g s h ∧ R (.int (s.ags.length : Nat)) h
def spPairs (C : Addr) : SpW := fun ws h R _ => ∃ (v : Addr) (g : NG) (s : NS), ws = [.ref v] ∧ NetAt C v g s h ∧ s.act.length ≤ 1000 ∧ R (.lst (s.act.map NP.w)) h
def spAgentN (C : Addr) : SpW := fun ws h R _ => ∃ (v : Addr) (g : NG) (s : NS) (i : Nat) (a : Ag), ws = [.ref v, .int (i : Nat)] ∧ NetAt C v g s h ∧ s.ags[i]? = some a ∧ R a.w h
section
variable {P : Program} {w : World} {K : PySem.W.Frag} {mg : Str → Option Value} {base : Heap}
theorem ok_Net_agent (T : Tx P w K mg) : FnOk P w K mg base CX0 1 T.a_Net_agent T.fd_Net_agent ["self", "name"] (lSp K (spAgentN T.aC_Net)) := by
  refine fnW T.F_Net_agent sc_Net_agent (fun ws h R ex ⟨_, _, _, _, _, e, _⟩ => by rw [e]; rfl) fun cdv A outer s H E hr => ⟨_, (wss_one (ws_ret (w_dget (hu_of hr) (w_fld T.cls_Net T.na_Net_agents (w_var 0)) (w_var 1)))), fun ws h R ex ⟨v, g, s, i, a, e, k, hi, q⟩ => ?_⟩
  subst e
  have hv := k.c
  have ha := k.ag
  have dg : dgW (.ref g.a1) (.int (i : Nat)) h = some (some a.w) := by
    have dw : dW (.ref g.a1) h = some (eK 0 (s.ags.map Ag.w)) := by unfold dW; dsimp only; rw [ha]
    unfold dgW
    rw [dw]
    dsimp only [keyW]
    rw [eK_val0, List.getElem?_map, hi]; rfl
  walk_at "st"
  refine go_dget dg ?_
  walk_at "st"
  exact .base q (.refl _)
theorem ok_Net___len__ (T : Tx P w K mg) : FnOk P w K mg base CX0 1 T.a_Net___len__ T.fd_Net___len__ ["self"] (lSp K (spLenN T.aC_Net)) := by
  refine fnW T.F_Net___len__ sc_Net___len__ (fun ws h R ex ⟨_, _, _, e, _⟩ => by rw [e]; rfl) fun cdv A outer s H E hr => ⟨_, (wss_one (ws_ret (w_callB call_lenD lf_lenD (by rfl) T.m_len (by decide +kernel) (wa_cons (w_fld T.cls_Net T.na_Net_agents (w_var 0)) wa_nil)))), fun ws h R ex ⟨v, g, s, e, k, q⟩ => ?_⟩
  subst e
  have hv := k.c
  have ha := k.ag
  walk_at "st"
  refine go_lenD (kws := eK 0 (s.ags.map Ag.w)) (by unfold dW; dsimp only; rw [ha]) ?_
  rw [eK_len, List.length_map]
  walk_at "st"
  exact .base q (.refl _)
theorem ok_Net_pairs (T : Tx P w K mg) : FnOk P w K mg base CX0 1 T.a_Net_pairs T.fd_Net_pairs ["self"] (lSp K (spPairs T.aC_Net)) := by
  refine fnW T.F_Net_pairs sc_Net_pairs (fun ws h R ex ⟨_, _, _, e, _⟩ => by rw [e]; rfl) fun cdv A outer s H E hr => ⟨_, (wss_one (ws_ret (w_callTy call_list_of lf_list (by rfl) T.m_list (by decide +kernel) (wa_cons (w_fld T.cls_Net T.na_Net_active (w_var 0)) wa_nil)))), fun ws h R ex ⟨v, g, s, e, k, hl, q⟩ => ?_⟩
  subst e
  have hv := k.c
  have ha := k.ac
  walk_at "st"
  refine go_listO ha ?_
  exact .base q (.refl _)
theorem ok_Net_names (T : Tx P w K mg) : FnOk P w K mg base CX0 1 T.a_Net_names T.fd_Net_names ["self"] (lSp K (spNames T.aC_Net)) := by
  refine fnW T.F_Net_names sc_Net_names (fun ws h R ex ⟨_, _, _, e, _⟩ => by rw [e]; rfl) fun cdv A outer s H E hr => ⟨_, (wss_one (ws_ret (w_callB (call_sortedDI rfl) lf_sortedDI (by rfl) T.m_sorted (by decide +kernel) (wa_cons (w_fld T.cls_Net T.na_Net_agents (w_var 0)) wa_nil)))), fun ws h R ex ⟨v, g, s, e, k, q⟩ => ?_⟩
  subst e
  have hv := k.c
  have ha := k.ag
  have l60 := k.l
  have keys : ∀ (xs : List W) (i : Nat), keyI (eK i xs) = some ((List.range' i xs.length).map fun j => ((j : Nat) : Int)) := fun xs => by
    induction xs with
    | nil => intro i; rfl
    | cons x xs ih => intro i; simp only [eK, keyI, ih (i + 1), List.length_cons, List.range'_succ, List.map_cons, Option.map_some]
  walk_at "st"
  refine go_sortedDI (kws := eK 0 (s.ags.map Ag.w)) (by unfold dW; dsimp only; rw [ha]) (keys _ 0) (by simp; omega) fun ys pm so => ?_
  have : ys = (List.range s.ags.length).map fun j => ((j : Nat) : Int) := by
    rw [List.length_map, ← List.range_eq_range'] at pm
    refine pm.eq_of_pairwise (fun a b _ _ x y => Int.le_antisymm x y) so ?_
    rw [List.pairwise_map]
    exact List.pairwise_lt_range.imp fun {a b} z => by omega
  subst this
  rw [List.map_map]
  walk_at "st"
  exact .base q (.refl _)
end

def spPeer (C : Addr) : SpW := fun ws h R _ => ∃ (v : Addr) (g : NG) (s : NS) (p : NP) (l : List (Option NP)) (o : Option NP), ws = [.ref v, .int (p.1 : Nat), .int (p.2 : Nat)] ∧ NetAt C v g s h ∧ s.es[p.1]? = some l ∧ l[p.2]? = some o ∧ R (opW o) h
section
variable {P : Program} {w : World} {K : PySem.W.Frag} {mg : Str → Option Value} {base : Heap}
theorem ok_Net_peer (T : Tx P w K mg) : FnOk P w K mg base CX0 1 T.a_Net_peer T.fd_Net_peer ["self", "name", "port"] (lSp K (spPeer T.aC_Net)) := by
  refine fnW T.F_Net_peer sc_Net_peer (fun ws h R ex ⟨_, _, _, _, _, _, e, _⟩ => by rw [e]; rfl) fun cdv A outer s H E hr => ⟨_, (wss_one (ws_ret (w_ix (w_dget (hu_of hr) (w_fld T.cls_Net T.na_Net_ends (w_var 0)) (w_var 1)) (w_var 2)))), fun ws h R ex ⟨v, g, s, p, l, o, e, k, hl, ho, q⟩ => ?_⟩
  subst e
  have hv := k.c
  have lt := (List.getElem?_eq_some_iff.mp hl).1
  have lt2 : p.1 < g.as.length := by have := k.en.n; omega
  have ha : g.as[p.1]? = some g.as[p.1] := List.getElem?_eq_getElem lt2
  have hh := (k.en.l _ _ _ ha hl).1
  have dg : dgW (.ref g.d) (.int (p.1 : Nat)) h = some (some (.ref g.as[p.1])) := by
    have dw : dW (.ref g.d) h = some (eK 0 (asW g.as)) := by unfold dW; dsimp only; rw [k.en.d]
    unfold dgW
    rw [dw]
    dsimp only [keyW]
    rw [eK_val0]
    unfold asW
    rw [List.getElem?_map, ha]; rfl
  have e4 : atI (l.map opW) ((p.2 : Nat) : Int) = some (opW o) := atI_nat (by rw [List.getElem?_map, ho]; rfl)
  walk_at "st"
  refine go_dget dg ?_
  walk_at "st"
  exact .base q (.refl _)
end

def noteP (root : Nat) (act : List NP) (p q : NP) : List NP := if 0 < p.2 ∨ 0 < q.2 ∨ root = p.1 ∨ root = q.1 then act else addP act (min p.1 q.1, max p.1 q.1)
def spNote (C : Addr) : SpW := fun ws h R _ => ∃ (v a3 : Addr) (x1 x2 : W) (rest : List (Str × W)) (root : Nat) (act : List NP) (p q : NP), ws = [.ref v, p.w, q.w] ∧ h v = some (.ins C ((("agents" : Str), x1) :: (("ends" : Str), x2) :: (("root" : Str), .int (root : Nat)) :: (("active" : Str), .ref a3) :: rest)) ∧ h a3 = some (.lst (act.map NP.w)) ∧ SortedP act ∧ act.length ≤ 80000 ∧ R .non (updW h a3 (.lst ((noteP root act p q).map NP.w)))
section
variable {P : Program} {w : World} {K : PySem.W.Frag} {mg : Str → Option Value} {base : Heap}
theorem ok_Net_note_pair (T : Tx P w K mg) : FnOk P w K mg base CX0 3 T.a_Net_note_pair T.fd_Net_note_pair ["self", "one", "other"] (lSp K (spNote T.aC_Net)) := by
  refine fnW T.F_Net_note_pair sc_Net_note_pair (fun ws h R ex ⟨_, _, _, _, _, _, _, _, _, e, _⟩ => by rw [e]; rfl) fun cdv A outer s H E hr => ⟨_, (wss_cons (ws_if (wt_bool (ww_or (wt_cmp (rw := gtW) op_gt lf_cmp (w_ix (w_var 1) w_int) w_int (nomark _)) (ww_or (wt_cmp (rw := gtW) op_gt lf_cmp (w_ix (w_var 2) w_int) w_int (nomark _)) (ww_or1 (wt_cmp ow_in lf_in (w_fld T.cls_Net T.na_Net_root (w_var 0)) (w_tup (wa_cons (w_ix (w_var 1) w_int) (wa_cons (w_ix (w_var 2) w_int) wa_nil))) (by rfl)))))) (wss_one ws_retN) wss_nil)
    (wss_one (ws_expr (w_call (ok_add_pair T) (hr.mono (by walk_at "rm")) (by rfl) T.g_add_pair T.F_add_pair.kp T.b_add_pair (wa_cons (w_fld T.cls_Net T.na_Net_active (w_var 0)) (wa_cons (w_tup (wa_cons (w_callB (call_min2 rfl) lf_min2 (by rfl) T.m_min (by decide +kernel) (wa_cons (w_ix (w_var 1) w_int) (wa_cons (w_ix (w_var 2) w_int) wa_nil))) (wa_cons (w_callB (call_max2 rfl) lf_max2 (by rfl) T.m_max (by decide +kernel) (wa_cons (w_ix (w_var 1) w_int) (wa_cons (w_ix (w_var 2) w_int) wa_nil))) wa_nil))) wa_nil)))))), fun ws h R ex ⟨v, a3, x1, x2, rest, root, act, p, q, e, hv, hh, so, hl, r⟩ => ?_⟩
  subst e
  unfold NP.w
  have early : ∀ {z : Prop}, (0 < p.2 ∨ 0 < q.2 ∨ root = p.1 ∨ root = q.1) → R .non h := fun z => by
    unfold noteP at r
    rw [if_pos z, updW_selfN hh] at r
    exact r
  walk_at "st"
  refine go_dec (fun c => ?_) fun c => ?_
  · walk_at "st"
    exact .base (early (z := True) (.inl (by omega))) (.refl _)
  walk_at "st"
  refine go_dec (fun c2 => ?_) fun c2 => ?_
  · walk_at "st"
    exact .base (early (z := True) (.inr (.inl (by omega)))) (.refl _)
  walk_at "st"
  rw [show ([W.int (p.1 : Nat), W.int (q.1 : Nat)].any fun w => eqF w (W.int (root : Nat))) = decide (root = p.1 ∨ root = q.1) by
    simp only [List.any_cons, List.any_nil, eqF, Bool.or_false]
    rw [Bool.eq_iff_iff]
    simp only [Bool.or_eq_true, decide_eq_true_eq]
    omega]
  refine go_dec (fun c3 => ?_) fun c3 => ?_
  · walk_at "st"
    exact .base (early (z := True) (.inr (.inr c3))) (.refl _)
  have rr : R .non (updW h a3 (.lst ((addP act (min p.1 q.1, max p.1 q.1)).map NP.w))) := by
    unfold noteP at r
    rw [if_neg (fun z => by rcases z with z | z | z; exact c (by omega); exact c2 (by omega); exact c3 z)] at r
    exact r
  walk_at "st"
  refine ⟨a3, act, (min p.1 q.1, max p.1 q.1), ?_, hh, so, by omega, .base rr (.refl _)⟩
  rw [show (min ((p.1 : Nat) : Int) ((q.1 : Nat) : Int)) = ((min p.1 q.1 : Nat) : Int) by omega, show (max ((p.1 : Nat) : Int) ((q.1 : Nat) : Int)) = ((max p.1 q.1 : Nat) : Int) by omega]
  rfl
end

/-! ## what the root reaches -/
def rowN (ns : List Nat) : List (Option NP) → List Nat
  | [] => ns
  | none :: l => rowN ns l
  | some p :: l => rowN (if p.1 ∈ ns then ns else ns ++ [p.1]) l
def reachN (es : Es) : Nat → Nat → List Nat → List Nat
  | 0, _, ns => ns
  | f + 1, i, ns => match ns[i]? with
    | some n => reachN es f (i + 1) (rowN ns ((es[n]?).getD []))
    | none => ns
def reachE (es : Es) (root : Nat) : List Nat := reachN es es.length 0 [root]
def natW (ns : List Nat) : List W := ns.map fun n => .int (n : Nat)
def knW (ns : List Nat) : List (L2.Key × W) := ns.map fun n => (.inl ((n : Nat) : Int), .bl true)
structure GoodE (es : Es) : Prop where
  f : ∀ l ∈ es, none ∉ l
  r : ∀ l ∈ es, ∀ p, some p ∈ l → p.1 < es.length
theorem rowN_app : ∀ (a b : List (Option NP)) (ns : List Nat), rowN ns (a ++ b) = rowN (rowN ns a) b
  | [], _, _ => rfl
  | none :: a, b, ns => rowN_app a b ns
  | some p :: a, b, ns => rowN_app a b _
theorem nodup_lt : ∀ (n : Nat) (ns : List Nat), ns.Nodup → (∀ x ∈ ns, x < n) → ns.length ≤ n
  | 0, ns, _, h => by
    cases ns with
    | nil => exact Nat.le_refl _
    | cons x ns => exact absurd (h x List.mem_cons_self) (Nat.not_lt_zero _)
  | n + 1, ns, nd, h => by
    have := nodup_lt n (ns.erase n) (nd.erase n) fun x hx => by
      have h1 := h x (List.mem_of_mem_erase hx)
      have h2 : x ≠ n := fun z => by subst z; exact (nd.not_mem_erase) hx
      omega
    rw [List.length_erase] at this
    split at this <;> omega
structure RowOk (es : Es) (ns : List Nat) : Prop where
  nd : ns.Nodup
  lt : ∀ x ∈ ns, x < es.length
theorem RowOk.add {es : Es} {ns : List Nat} (k : RowOk es ns) {x : Nat} (h : x < es.length) (c : x ∉ ns) : RowOk es (ns ++ [x]) :=
  ⟨by rw [List.nodup_append]; exact ⟨k.nd, by simp, fun a ha b hb => by rw [List.mem_singleton.mp hb]; exact fun z => c (z ▸ ha)⟩, fun y hy => by
    rcases List.mem_append.mp hy with z | z
    · exact k.lt y z
    · rw [List.mem_singleton.mp z]; exact h⟩
theorem RowOk.row {es : Es} : ∀ (l : List (Option NP)) (ns : List Nat), RowOk es ns → (∀ p, some p ∈ l → p.1 < es.length) → RowOk es (rowN ns l)
  | [], _, k, _ => k
  | none :: l, ns, k, h => RowOk.row l ns k fun p hp => h p (List.mem_cons_of_mem _ hp)
  | some p :: l, ns, k, h => RowOk.row l _ (by
      split
      · exact k
      · rename_i c; exact k.add (h p List.mem_cons_self) c) fun p hp => h p (List.mem_cons_of_mem _ hp)
theorem rowN_pre : ∀ (l : List (Option NP)) (ns : List Nat), ∃ t, rowN ns l = ns ++ t
  | [], ns => ⟨[], (List.append_nil _).symm⟩
  | none :: l, ns => rowN_pre l ns
  | some p :: l, ns => by
    obtain ⟨t, e⟩ := rowN_pre l (if p.1 ∈ ns then ns else ns ++ [p.1])
    unfold rowN
    rw [e]
    split
    · exact ⟨t, rfl⟩
    · exact ⟨[p.1] ++ t, by rw [List.append_assoc]⟩
theorem knW_val (ns : List Nat) (x : Nat) : valW (knW ns) (.inl ((x : Nat) : Int)) = if x ∈ ns then some (.bl true) else none := by
  induction ns with
  | nil => rfl
  | cons n ns ih =>
    unfold valW knW at ih ⊢
    rw [List.map_cons, List.find?_cons]
    by_cases e : n = x
    · subst e; simp
    · rw [decide_eq_false (fun z => e (by have := Sum.inl.inj z; omega))]
      dsimp only
      rw [ih]
      simp [show x ≠ n from fun z => e z.symm]
theorem knW_put (ns : List Nat) (x : Nat) (c : x ∉ ns) : putW (knW ns) (.inl ((x : Nat) : Int)) (.bl true) = knW (ns ++ [x]) := by
  have : ((knW ns).any fun kv => decide (kv.1 = (.inl ((x : Nat) : Int)))) = false := by
    rw [List.any_eq_false]
    intro kv hkv
    unfold knW at hkv
    obtain ⟨n, hn, rfl⟩ := List.mem_map.mp hkv
    exact fun z => c (by have := Sum.inl.inj (of_decide_eq_true z); rw [show x = n by omega]; exact hn)
  unfold putW
  rw [this]
  simp [knW]
theorem go_dputI {P : HW → Prop} {i : Int} {h : HW} {p : Addr} {kws : List (L2.Key × W)} {w : W} (hp : h p = some (.dic kws)) (e : kws.length ≤ 16000000) (k : P (updW h p (.dic (putW kws (.inl i) w)))) : dputK (.ref p) (keyW (.int i)) w P h := by unfold dputK keyW; dsimp only; rw [hp]; exact ⟨e, k⟩
theorem Sub.updN {h h' : HW} {p : Addr} {o : OW} (s : Sub h h') (e : h p = none) : Sub h (updW h' p o) := fun b u q => by
  rw [updW_ne (fun z => by rw [z, e] at q; cases q)]; exact s b u q
theorem EndsAt.mono {d : Addr} {as : List Addr} {es : Es} {h h' : HW} (k : EndsAt d as es h) (s : Sub h h') : EndsAt d as es h' :=
  ⟨k.n, s _ _ k.d, k.nd, fun i a l ha hl => ⟨s _ _ (k.l i a l ha hl).1, (k.l i a l ha hl).2⟩⟩
theorem EndsAt.dg {d : Addr} {as : List Addr} {es : Es} {h : HW} (k : EndsAt d as es h) {n : Nat} {a : Addr} (ha : as[n]? = some a) : dgW (.ref d) (.int (n : Nat)) h = some (some (.ref a)) := by
  have dw : dW (.ref d) h = some (eK 0 (asW as)) := by unfold dW; dsimp only; rw [k.d]
  unfold dgW
  rw [dw]
  dsimp only [keyW]
  rw [eK_val0]
  unfold asW
  rw [List.getElem?_map, ha]; rfl
def spReached (C : Addr) : SpW := fun ws h R _ => ∃ (v d : Addr) (as : List Addr) (es : Es) (x1 : W) (root : Nat) (rest : List (Str × W)), ws = [.ref v] ∧
  h v = some (.ins C ((("agents" : Str), x1) :: (("ends" : Str), .ref d) :: (("root" : Str), .int (root : Nat)) :: rest)) ∧ EndsAt d as es h ∧ es.length ≤ 1000 ∧ GoodE es ∧ root < es.length ∧
  R (.lst (natW (reachE es root))) h
section
variable {P : Program} {w : World} {K : PySem.W.Frag} {mg : Str → Option Value} {base : Heap}
theorem ok_Net_reached (T : Tx P w K mg) : FnOk P w K mg base CX0 1 T.a_Net_reached T.fd_Net_reached ["self"] (lSp K (spReached T.aC_Net)) := by
  refine fnW T.F_Net_reached sc_Net_reached (fun ws h R ex ⟨_, _, _, _, _, _, _, e, _⟩ => by rw [e]; rfl) fun cdv A outer s H E hr => ⟨_, (wss_cons (ws_set (i := 1) sc_Net_reached.nd (w_lstO (wa_cons (w_fld T.cls_Net T.na_Net_root (w_var 0)) wa_nil)))
    (wss_cons (ws_set (i := 2) sc_Net_reached.nd (w_disp1O (w_fld T.cls_Net T.na_Net_root (w_var 0)) w_bl))
    (wss_cons (ws_set (i := 3) sc_Net_reached.nd w_int)
    (wss_cons (ws_while PassesOwn.never (wt_cmp (rw := ltW) op_lt lf_cmp (w_var 3) (w_callB call_len lf_len (by rfl) T.m_len (by decide +kernel) (wa_cons (w_var 1) wa_nil)) (nomark _)) (wss_cons (ws_forO PassesOwn.never rfl (w_dget (hu_of hr) (w_fld T.cls_Net T.na_Net_ends (w_var 0)) (w_ix (w_var 1) (w_var 3))) (wg_tup rfl (wgs_cons (wg_name (i := 4) sc_Net_reached.nd) (wgs_cons (wg_name (i := 5) sc_Net_reached.nd) wgs_nil))) (wss_one (ws_if (wt_dnotin (hu_of hr) (w_var 4) (w_var 2)) (wss_cons (ws_dput (hu_of hr) (w_var 2) (w_var 4) w_bl)
    (wss_one (ws_expr (w_bm PySem.F.plainAttrs_list PySem.F.slot_list_append PySem.F.type_list_append mt_append tyL_ok lf_append (w_var 1) (wa_cons (w_var 4) wa_nil))))) wss_nil)))
    (wss_one (ws_aug (i := 3) (rw := intW0 fun i j => i + j) sc_Net_reached.nd w_int iop_add lf_int0))))
    (wss_one (ws_ret (w_var 1))))))), fun ws h R ex ⟨v, d, as, es, x1, root, rest, e, hv, ea, hl, ge, hr0, q⟩ => ?_⟩
  subst e
  walk_at "st"
  intro p1 hp1
  walk_at "st"
  have n1v : v ≠ p1 := fun z => by rw [z, hp1] at hv; cases hv
  intro p2 hp2
  have n21 : p2 ≠ p1 := fun z => by rw [z, updW_same] at hp2; cases hp2
  have n12 := n21.symm
  have hp2' : h p2 = none := by rw [updW_ne n21] at hp2; exact hp2
  have n2v : v ≠ p2 := fun z => by rw [z, hp2'] at hv; cases hv
  walk_at "st"
  refine ⟨_, rfl, updW_same, ?_⟩
  rw [updW_upd]
  walk_at "st"
  obtain ⟨h0, eh0⟩ : ∃ h0, h0 = updW (updW h p1 (.lst [.int (root : Nat)])) p2 (.dic [(.inl (root : Nat), .bl true)]) := ⟨_, rfl⟩
  rw [← eh0]
  have s0 : Sub h h0 := by rw [eh0]; exact Sub.updN (Sub.updN (Sub.refl h) hp1) hp2'
  have e1 : h0 p1 = some (.lst (natW [root])) := by rw [eh0, updW_ne n12, updW_same]; rfl
  have e2 : h0 p2 = some (.dic (knW [root])) := by rw [eh0, updW_same]; rfl
  clear eh0
  refine go_while (fun m ρ' h' => ∃ (i : Nat) (ns : List Nat), m = es.length - i ∧ i ≤ ns.length ∧ RowOk es ns ∧ reachN es (es.length - i) i ns = reachE es root ∧ ρ' = [some (.ref v), some (.ref p1), some (.ref p2), some (.int (i : Nat)), none, none] ∧ Sub h h' ∧ h' p1 = some (.lst (natW ns)) ∧ h' p2 = some (.dic (knW ns)))
    ⟨_, .of ⟨0, [root], rfl, Nat.zero_le _, ⟨by simp, by simpa using hr0⟩, rfl, rfl, s0, e1, e2⟩⟩ ?_
  rintro m ρ' h' ⟨i, ns, rfl, hi, rk, er, rfl, sb, f1, f2⟩
  have hv' := sb _ _ hv
  have ea' := ea.mono sb
  have ln : (natW ns).length = ns.length := by unfold natW; rw [List.length_map]
  have lb := nodup_lt _ ns rk.nd rk.lt
  walk_at "st"
  rw [ln]
  refine go_dec (fun c => ?_) fun c => ?_
  · have hin : i < ns.length := by omega
    have en : ns[i]? = some ns[i] := List.getElem?_eq_getElem hin
    have hlt : ns[i] < es.length := rk.lt _ (List.getElem_mem hin)
    have el : es[ns[i]]? = some es[ns[i]] := List.getElem?_eq_getElem hlt
    have hlt2 : ns[i] < as.length := by have := ea.n; omega
    have ea2 : as[ns[i]]? = some as[ns[i]] := List.getElem?_eq_getElem hlt2
    have dg := ea'.dg ea2
    obtain ⟨la, l10⟩ := ea'.l _ _ _ ea2 el
    have gf : ∀ q, some q ∈ es[ns[i]] → q.1 < es.length := ge.r _ (List.getElem_mem hlt)
    have gn : none ∉ es[ns[i]] := ge.f _ (List.getElem_mem hlt)
    have e4 : atI (natW ns) ((i : Nat) : Int) = some (.int (ns[i] : Nat)) := atI_nat (by unfold natW; rw [List.getElem?_map, en]; rfl)
    have er2 : reachN es (es.length - (i + 1)) (i + 1) (rowN ns es[ns[i]]) = reachE es root := by
      rw [← er, show es.length - i = (es.length - (i + 1)) + 1 by omega]
      conv => rhs; unfold reachN
      rw [en]
      dsimp only
      rw [el]; rfl
    obtain ⟨l, hl2⟩ : ∃ l, l = es[ns[i]] := ⟨_, rfl⟩
    rw [← hl2] at la l10 gf gn er2
    walk_at "st"
    refine go_forO (x := .ref as[ns[i]]) (l.map opW) (fun R q => by walk_at "st"; refine go_dget dg ?_; exact q) la
      (fun j ρ' h' => ∃ ms, ms = rowN ns (l.take j) ∧ ρ' = [some (.ref v), some (.ref p1), some (.ref p2), some (.int (i : Nat)), none, none] ∧ Sub h h' ∧ h' p1 = some (.lst (natW ms)) ∧ h' p2 = some (.dic (knW ms)))
      (.of ⟨ns, rfl, rfl, sb, f1, f2⟩) (fun j ρ' h' _ ⟨ms, _, _, s2, _⟩ => (ea.mono s2).l _ _ _ ea2 (by rw [el, ← hl2]) |>.1) ?_ ?_
    · rintro j w ρ' h2 hw ⟨ms, ems, rfl, s2, g1, g2⟩
      rw [List.getElem?_map] at hw
      obtain ⟨o, ho, rfl⟩ := Option.map_eq_some_iff.mp hw
      have mem := List.mem_of_getElem? ho
      cases o with
      | none => exact absurd mem gn
      | some q0 =>
        have hq := gf q0 mem
        have tk : rowN ns (l.take (j + 1)) = if q0.1 ∈ ms then ms else ms ++ [q0.1] := by
          rw [List.take_add_one, ho, rowN_app, ← ems]; rfl
        have rm : RowOk es ms := by rw [ems]; exact rk.row _ _ fun p hp => gf p (List.mem_of_mem_take hp)
        have lm := nodup_lt _ ms rm.nd rm.lt
        have dk : dgW (.ref p2) (.int (q0.1 : Nat)) h2 = some (if q0.1 ∈ ms then some (.bl true) else none) := by
          unfold dgW dW; dsimp only; rw [g2]; dsimp only [keyW]; rw [knW_val]
        simp only [opW, NP.w]
        walk_at "st"
        refine go_dnotin dk ?_
        by_cases c2 : q0.1 ∈ ms
        · rw [if_pos c2] at tk ⊢
          walk_at "stc"
          exact ⟨_, _, ⟨ms, tk.symm, rfl, s2, g1, g2⟩, .same (.same (.same (.same (.no (.no .nil))))), .refl _⟩
        · rw [if_neg c2] at tk ⊢
          walk_at "stc"
          refine go_dputI g2 (by unfold knW; rw [List.length_map]; omega) ?_
          rw [knW_put ms q0.1 c2]
          have g3 : updW h2 p2 (.dic (knW (ms ++ [q0.1]))) p1 = some (.lst (natW ms)) := by rw [updW_ne n12]; exact g1
          walk_at "stc"
          refine go_append g3 (by unfold natW; rw [List.length_map]; omega) ?_
          refine ⟨_, _, ⟨ms ++ [q0.1], tk.symm, rfl, Sub.updN (Sub.updN s2 hp2') hp1, ?_, ?_⟩, .same (.same (.same (.same (.no (.no .nil))))), .refl _⟩
          · rw [updW_same]; unfold natW; rw [List.map_append]; rfl
          · rw [updW_ne n21, updW_same]
    · rintro ρ' h2 ⟨ms, ems, rfl, s2, g1, g2⟩
      rw [List.length_map, List.take_length] at ems
      walk_at "stc"
      subst ems
      refine ⟨_, _, ⟨_, by omega, i + 1, _, rfl, ?_, rk.row _ _ gf, er2, rfl, s2, g1, g2⟩, .same (.same (.same (.same (.no (.no .nil))))), .refl _⟩
      obtain ⟨t, et⟩ := rowN_pre l ns
      rw [et, List.length_append]; omega
  · walk_at "st"
    have fin : reachN es (es.length - i) i ns = ns := by
      cases es.length - i with
      | zero => rfl
      | succ f => unfold reachN; rw [List.getElem?_eq_none (by omega)]
    rw [← er, fin] at q
    exact .frL f1 q hp1 sb
end

/-! ## the peers that the wires give -/
def getE (es : Es) (p : NP) : Option (Option NP) := (es[p.1]?).bind fun l => l[p.2]?
def peerL : List Wr → NP → Option NP
  | [], _ => none
  | w :: ws, p => if w.1 = p then some w.2 else if w.2 = p then some w.1 else peerL ws p
def endsW (ws : List Wr) : List NP := ws.flatMap fun w => [w.1, w.2]
theorem endsW_cons (w : Wr) (ws : List Wr) : endsW (w :: ws) = w.1 :: w.2 :: endsW ws := rfl
theorem endsW_app (a b : List Wr) : endsW (a ++ b) = endsW a ++ endsW b := by simp [endsW]
theorem peerL_app : ∀ (a b : List Wr) (p : NP), peerL (a ++ b) p = match peerL a p with | some q => some q | none => peerL b p
  | [], _, _ => rfl
  | w :: a, b, p => by
    simp only [List.cons_append, peerL]
    by_cases c : w.1 = p
    · rw [if_pos c, if_pos c]
    · rw [if_neg c, if_neg c]
      by_cases d : w.2 = p
      · rw [if_pos d, if_pos d]
      · rw [if_neg d, if_neg d]; exact peerL_app a b p
theorem peerL_none {p : NP} : ∀ {ws : List Wr}, peerL ws p = none ↔ p ∉ endsW ws
  | [] => by simp [peerL, endsW]
  | w :: ws => by
    rw [endsW_cons, peerL]
    by_cases c : w.1 = p
    · simp [c]
    · rw [if_neg c]
      by_cases d : w.2 = p
      · simp [d]
      · rw [if_neg d, peerL_none (ws := ws)]
        simp [show p ≠ w.1 from fun z => c z.symm, show p ≠ w.2 from fun z => d z.symm]
theorem peerL_mem {p q : NP} : ∀ {ws : List Wr}, peerL ws p = some q → q ∈ endsW ws
  | [], e => by simp [peerL] at e
  | w :: ws, e => by
    rw [endsW_cons]
    rw [peerL] at e
    by_cases c : w.1 = p
    · rw [if_pos c] at e; cases e; simp
    · rw [if_neg c] at e
      by_cases d : w.2 = p
      · rw [if_pos d] at e; cases e; simp
      · rw [if_neg d] at e
        exact List.mem_cons_of_mem _ (List.mem_cons_of_mem _ (peerL_mem e))
/-- a peer's peer -/
theorem peerL_sym {p q : NP} : ∀ {ws : List Wr}, (endsW ws).Nodup → peerL ws p = some q → peerL ws q = some p
  | [], _, e => by simp [peerL] at e
  | w :: ws, nd, e => by
    rw [endsW_cons, List.nodup_cons, List.nodup_cons] at nd
    obtain ⟨n1, n2, n3⟩ := nd
    rw [peerL] at e
    by_cases c : w.1 = p
    · rw [if_pos c] at e; cases e
      rw [peerL, if_neg (fun z => n1 (by rw [z]; simp)), if_pos rfl, c]
    · rw [if_neg c] at e
      by_cases d : w.2 = p
      · rw [if_pos d] at e; cases e
        rw [peerL, if_pos rfl, d]
      · rw [if_neg d] at e
        have m := peerL_mem e
        rw [peerL, if_neg (fun z => n1 (by rw [z]; exact List.mem_cons_of_mem _ m)), if_neg (fun z => n2 (by rw [z]; exact m))]
        exact peerL_sym n3 e
theorem opnE_iff {es : Es} {p : NP} : opnE es p = true ↔ getE es p = some none := by
  unfold opnE getE
  cases es[p.1]? with
  | none => simp
  | some l => simp
theorem getE_setE {es : Es} {p q : NP} {o : Option NP} (h : getE es p = some o) (r : NP) : getE (setE es p q) r = if r = p then some (some q) else getE es r := by
  unfold getE at h
  obtain ⟨l, hl, ho⟩ := Option.bind_eq_some_iff.mp h
  unfold setE
  rw [hl]
  dsimp only
  unfold getE
  have lt1 := (List.getElem?_eq_some_iff.mp hl).1
  have lt2 := (List.getElem?_eq_some_iff.mp ho).1
  by_cases c : p.1 = r.1
  · rw [← c, List.getElem?_set_self lt1, Option.bind_some]
    by_cases d : p.2 = r.2
    · rw [← d, List.getElem?_set_self lt2, if_pos (Prod.ext c.symm d.symm)]
    · rw [List.getElem?_set_ne d, if_neg (fun z => d (by rw [z])), hl, Option.bind_some]
  · rw [List.getElem?_set_ne c, if_neg (fun z => c (by rw [z]))]
theorem lenE_setE (es : Es) (p q : NP) : (setE es p q).map List.length = es.map List.length := by
  unfold setE
  split
  · rename_i l hl
    rw [List.map_set, List.length_set]
    have lt := (List.getElem?_eq_some_iff.mp hl).1
    have e := (List.getElem?_eq_some_iff.mp hl).2
    apply List.ext_getElem?
    intro i
    by_cases c : p.1 = i
    · subst c
      rw [List.getElem?_set_self (by simpa using lt), List.getElem?_map, hl]; rfl
    · rw [List.getElem?_set_ne c]
  · rfl
/-- what stands when the wires ws are laid -/
structure WInv (es0 es : Es) (ws : List Wr) : Prop where
  n : es.map List.length = es0.map List.length
  g : ∀ p, getE es0 p = some none → getE es p = some (peerL ws p)
  z : ∀ p, getE es0 p = none → getE es p = none
  t : ∀ p ∈ endsW ws, getE es0 p = some none
def CleanE (es : Es) : Prop := ∀ p, getE es p = none ∨ getE es p = some none
theorem WInv.nil (es : Es) : WInv es es [] := ⟨rfl, fun p h => by rw [h]; rfl, fun _ h => h, fun p h => by simp [endsW] at h⟩
theorem WInv.opn {es0 es : Es} {ws : List Wr} (k : WInv es0 es ws) (cl : CleanE es0) {p : NP} : opnE es p = true ↔ getE es0 p = some none ∧ p ∉ endsW ws := by
  rw [opnE_iff]
  constructor
  · intro h
    rcases cl p with c | c
    · rw [k.z p c] at h; cases h
    · rw [k.g p c] at h
      exact ⟨c, peerL_none.mp (by injection h)⟩
  · rintro ⟨a, b⟩
    rw [k.g p a, peerL_none.mpr b]
theorem wireE_some {es es2 : Es} {w : Wr} (h : wireE es w = some es2) : w.1 ≠ w.2 ∧ opnE es w.1 = true ∧ opnE es w.2 = true ∧ es2 = setE (setE es w.1 w.2) w.2 w.1 := by
  unfold wireE at h
  split at h
  · cases h
  · rename_i c
    cases h
    simp only [Bool.or_eq_true, Bool.not_eq_true', decide_eq_true_eq, not_or, Bool.not_eq_false] at c
    exact ⟨c.1, c.2.1, c.2.2, rfl⟩
theorem wireE_ok {es : Es} {w : Wr} (a : w.1 ≠ w.2) (b : opnE es w.1 = true) (c : opnE es w.2 = true) : wireE es w = some (setE (setE es w.1 w.2) w.2 w.1) := by
  unfold wireE; rw [b, c, decide_eq_false a]; rfl
theorem WInv.snoc {es0 es es2 : Es} {ws : List Wr} {w : Wr} (k : WInv es0 es ws) (cl : CleanE es0) (h : wireE es w = some es2) : WInv es0 es2 (ws ++ [w]) := by
  obtain ⟨ne, o1, o2, rfl⟩ := wireE_some h
  have g1 := opnE_iff.mp o1
  have g2 := opnE_iff.mp o2
  obtain ⟨a1, b1⟩ := (k.opn cl).mp o1
  obtain ⟨a2, b2⟩ := (k.opn cl).mp o2
  have g3 : getE (setE es w.1 w.2) w.2 = some none := by rw [getE_setE g1, if_neg ne.symm]; exact g2
  refine ⟨by rw [lenE_setE, lenE_setE]; exact k.n, fun p hp => ?_, fun p hp => ?_, fun p hp => ?_⟩
  · rw [getE_setE g3, getE_setE g1, peerL_app, k.g p hp]
    by_cases c2 : p = w.2
    · rw [if_pos c2]
      subst c2
      rw [peerL_none.mpr b2]
      simp [peerL, ne]
    · rw [if_neg c2]
      by_cases c1 : p = w.1
      · rw [if_pos c1]
        subst c1
        rw [peerL_none.mpr b1]
        simp [peerL]
      · rw [if_neg c1]
        cases peerL ws p with
        | some q => rfl
        | none => simp [peerL, show w.1 ≠ p from fun z => c1 z.symm, show w.2 ≠ p from fun z => c2 z.symm]
  · rw [getE_setE g3, getE_setE g1, if_neg (fun z => by subst z; rw [hp] at a2; cases a2), if_neg (fun z => by subst z; rw [hp] at a1; cases a1)]
    exact k.z p hp
  · rw [endsW_app] at hp
    rcases List.mem_append.mp hp with z | z
    · exact k.t p z
    · simp only [endsW, List.flatMap_cons, List.flatMap_nil, List.append_nil, List.mem_cons, List.not_mem_nil, or_false] at z
      rcases z with rfl | rfl
      · exact a1
      · exact a2
theorem WInv.all {es0 : Es} (cl : CleanE es0) : ∀ (ws' : List Wr) {es es' : Es} {ws : List Wr}, WInv es0 es ws → wiresE es ws' = some es' → WInv es0 es' (ws ++ ws')
  | [], es, es', ws, k, h => by cases h; rw [List.append_nil]; exact k
  | w :: ws', es, es', ws, k, h => by
    rw [wiresE] at h
    obtain ⟨e2, h1, h2⟩ := Option.bind_eq_some_iff.mp h
    have := WInv.all cl ws' (k.snoc cl h1) h2
    rw [List.append_assoc] at this
    exact this
theorem wires_go {es0 : Es} (cl : CleanE es0) : ∀ (ws' : List Wr) {es : Es} {ws : List Wr}, WInv es0 es ws → (endsW (ws ++ ws')).Nodup → (∀ p ∈ endsW ws', getE es0 p = some none) → ∃ es', wiresE es ws' = some es'
  | [], es, ws, _, _, _ => ⟨es, rfl⟩
  | w :: ws', es, ws, k, nd, h => by
    rw [endsW_app, endsW_cons] at nd
    obtain ⟨_, nd2, nd3⟩ := List.nodup_append.mp nd
    rw [List.nodup_cons, List.nodup_cons] at nd2
    have m1 : w.1 ∉ endsW ws := fun z => nd3 _ z _ List.mem_cons_self rfl
    have m2 : w.2 ∉ endsW ws := fun z => nd3 _ z _ (List.mem_cons_of_mem _ List.mem_cons_self) rfl
    have o1 := (k.opn cl).mpr ⟨h w.1 (by rw [endsW_cons]; exact List.mem_cons_self), m1⟩
    have o2 := (k.opn cl).mpr ⟨h w.2 (by rw [endsW_cons]; exact List.mem_cons_of_mem _ List.mem_cons_self), m2⟩
    have hw := wireE_ok (fun z => nd2.1 (by rw [z]; exact List.mem_cons_self)) o1 o2
    rw [wiresE, hw, Option.bind_some]
    exact wires_go cl ws' (k.snoc cl hw) (by rw [List.append_assoc, endsW_app]; exact nd) fun p hp => h p (by rw [endsW_cons]; exact List.mem_cons_of_mem _ (List.mem_cons_of_mem _ hp))
/-! ports of agents -/
def portN (ags : List Ag) (i : Nat) : Nat := match ags[i]? with | some a => a.k.ports | none => 0
def portsK (ags : List Ag) (k : Nat) : List NP := (List.range k).flatMap fun i => (List.range (portN ags i)).map fun j => (i, j)
def portsL (ags : List Ag) : List NP := portsK ags ags.length
theorem portsK_succ (ags : List Ag) (k : Nat) : portsK ags (k + 1) = portsK ags k ++ (List.range (portN ags k)).map fun j => (k, j) := by
  unfold portsK; rw [List.range_succ, List.flatMap_append]; simp
theorem mem_portsK {ags : List Ag} {k : Nat} {p : NP} : p ∈ portsK ags k ↔ p.1 < k ∧ p.2 < portN ags p.1 := by
  unfold portsK
  simp only [List.mem_flatMap, List.mem_range, List.mem_map]
  constructor
  · rintro ⟨i, hi, j, hj, rfl⟩; exact ⟨hi, hj⟩
  · rintro ⟨a, b⟩; exact ⟨p.1, a, p.2, b, rfl⟩
theorem portN_lt {ags : List Ag} {i j : Nat} (h : j < portN ags i) : i < ags.length := by
  unfold portN at h
  split at h
  · rename_i e; exact (List.getElem?_eq_some_iff.mp e).1
  · omega
theorem mem_portsL {ags : List Ag} {p : NP} : p ∈ portsL ags ↔ p.2 < portN ags p.1 := by
  unfold portsL; rw [mem_portsK]
  exact ⟨fun h => h.2, fun h => ⟨portN_lt h, h⟩⟩
theorem portsK_nodup (ags : List Ag) : ∀ k, (portsK ags k).Nodup
  | 0 => by simp [portsK]
  | k + 1 => by
    rw [portsK_succ, List.nodup_append]
    refine ⟨portsK_nodup ags k, ?_, fun a ha b hb => ?_⟩
    · refine List.Pairwise.map _ (fun a b h => fun z => h (congrArg Prod.snd z)) List.nodup_range
    · obtain ⟨j, _, rfl⟩ := List.mem_map.mp hb
      have := (mem_portsK.mp ha).1
      exact fun z => by rw [z] at this; exact Nat.lt_irrefl _ this
theorem getE_init {ags : List Ag} {p : NP} : getE (initE ags) p = if p.2 < portN ags p.1 then some none else none := by
  unfold getE initE portN
  rw [List.getElem?_map]
  cases ags[p.1]? with
  | none => simp
  | some a =>
    simp only [Option.map_some, Option.bind_some, List.getElem?_replicate]
theorem clean_init (ags : List Ag) : CleanE (initE ags) := fun p => by
  rw [getE_init]; split
  · exact .inr rfl
  · exact .inl rfl
theorem fullE_iff {es : Es} : fullE es = true ↔ ∀ p, getE es p ≠ some none := by
  unfold fullE getE
  simp only [List.all_eq_true, Bool.not_eq_true', List.contains_eq_mem, decide_eq_false_iff_not]
  constructor
  · intro h p z
    obtain ⟨l, hl, hn⟩ := Option.bind_eq_some_iff.mp z
    exact h l (List.mem_of_getElem? hl) (List.mem_of_getElem? hn)
  · intro h l hl z
    obtain ⟨i, hi, e⟩ := List.mem_iff_getElem.mp hl
    obtain ⟨j, hj, e2⟩ := List.mem_iff_getElem.mp z
    exact h (i, j) (by dsimp only; rw [List.getElem?_eq_getElem hi, e, Option.bind_some, List.getElem?_eq_getElem hj, e2])
/-- what endsE gives -/
structure EndsOk (ags : List Ag) (wrs : List Wr) (es : Es) : Prop where
  n : es.map List.length = ags.map fun a => a.k.ports
  g : ∀ p, p.2 < portN ags p.1 → getE es p = some (peerL wrs p) ∧ peerL wrs p ≠ none
  t : ∀ p ∈ endsW wrs, p.2 < portN ags p.1
theorem endsE_some {ags : List Ag} {wrs : List Wr} {es : Es} (h : endsE ags wrs = some es) : EndsOk ags wrs es := by
  unfold endsE at h
  obtain ⟨e, h1, h2⟩ := Option.bind_eq_some_iff.mp h
  split at h2
  · rename_i f
    cases h2
    have k := WInv.all (clean_init ags) wrs (.nil _) h1
    rw [List.nil_append] at k
    refine ⟨by rw [k.n]; simp [initE], fun p hp => ?_, fun p hp => ?_⟩
    · have := k.g p (by rw [getE_init, if_pos hp])
      exact ⟨this, fun z => by rw [z] at this; exact fullE_iff.mp f p this⟩
    · have := k.t p hp
      rw [getE_init] at this
      split at this
      · assumption
      · cases this
  · cases h2
theorem endsE_ok {ags : List Ag} {wrs : List Wr} (h : (endsW wrs).Perm (portsL ags)) : ∃ es, endsE ags wrs = some es := by
  have nd : (endsW wrs).Nodup := h.nodup_iff.mpr (portsK_nodup _ _)
  obtain ⟨es, he⟩ := wires_go (clean_init ags) wrs (.nil _) (by simpa using nd) fun p hp => by
    rw [getE_init, if_pos (mem_portsL.mp (h.mem_iff.mp hp))]
  have k := WInv.all (clean_init ags) wrs (.nil _) he
  rw [List.nil_append] at k
  refine ⟨es, ?_⟩
  unfold endsE
  rw [he, Option.bind_some, if_pos]
  rw [fullE_iff]
  intro p z
  rcases clean_init ags p with c | c
  · rw [k.z p c] at z; cases z
  · rw [k.g p c] at z
    have hp : p.2 < portN ags p.1 := by
      rw [getE_init] at c
      split at c
      · assumption
      · cases c
    exact absurd (h.mem_iff.mpr (mem_portsL.mpr hp)) (peerL_none.mp (by injection z))

/-! ## a net is made -/
theorem SortedP.add {ps : List NP} (so : SortedP ps) (p : NP) : SortedP (addP ps p) := by
  unfold addP
  split
  · exact so
  · rename_i np
    unfold SortedP
    have lo : ∀ q ∈ ps.take (placeP ps p), ltP q p = true := fun q hq => by
      obtain ⟨i, hi, e⟩ := List.mem_iff_getElem.mp hq
      rw [List.length_take] at hi
      rw [List.getElem_take] at e
      have hi2 : i < ps.length := by omega
      exact (placeP_lo so (q := q) (by rw [List.getElem?_eq_getElem hi2, e])).mp (by omega)
    have up : ∀ q ∈ ps.drop (placeP ps p), ltP p q = true := fun q hq => by
      obtain ⟨i, hi, e⟩ := List.mem_iff_getElem.mp hq
      rw [List.length_drop] at hi
      rw [List.getElem_drop] at e
      have z := placeP_lo so (p := p) (List.getElem?_eq_getElem (show placeP ps p + i < ps.length by omega))
      rw [e] at z
      refine ltP_tri q p ?_ ?_
      · cases c : ltP q p with
        | false => rfl
        | true => have := z.mpr c; omega
      · exact fun z => np (by rw [← z]; exact List.mem_of_mem_drop hq)
    rw [List.pairwise_append]
    refine ⟨so.sublist (List.take_sublist _ _), List.pairwise_cons.mpr ⟨up, so.sublist (List.drop_sublist _ _)⟩, fun a ha b hb => ?_⟩
    rcases List.mem_cons.mp hb with rfl | hb
    · exact lo a ha
    · exact ltP_trans (lo a ha) (up b hb)
theorem addP_len (ps : List NP) (p : NP) : (addP ps p).length ≤ ps.length + 1 := by
  unfold addP
  split
  · omega
  · have := placeP_le ps p
    simp only [List.length_append, List.length_take, List.length_cons, List.length_drop]; omega
theorem SortedP.note {act : List NP} (so : SortedP act) (root : Nat) (p q : NP) : SortedP (noteP root act p q) := by
  unfold noteP; split
  · exact so
  · exact so.add _
theorem noteP_len (root : Nat) (act : List NP) (p q : NP) : (noteP root act p q).length ≤ act.length + 1 := by
  unfold noteP; split
  · omega
  · exact addP_len _ _
def headP (l : Option (List (Option NP))) : Option NP := match l with | some (some q :: _) => some q | _ => none
def actN (root : Nat) (es : Es) : Nat → List NP
  | 0 => []
  | k + 1 => match headP es[k]? with | some q => noteP root (actN root es k) (k, 0) q | none => actN root es k
theorem actN_ok (root : Nat) (es : Es) : ∀ k, SortedP (actN root es k) ∧ (actN root es k).length ≤ k
  | 0 => ⟨List.Pairwise.nil, Nat.le_refl _⟩
  | k + 1 => by
    obtain ⟨a, b⟩ := actN_ok root es k
    unfold actN
    split
    · rename_i q _
      have := noteP_len root (actN root es k) (k, 0) q
      exact ⟨a.note _ _ _, by omega⟩
    · exact ⟨a, by omega⟩
def rootIx (ags : List Ag) : Nat := ags.findIdx fun a => decide (a.k = .root)
def netE (ags : List Ag) (wrs : List Wr) : Option NS := if agsOk ags = true then match endsE ags wrs with
  | none => none
  | some es => if (reachE es (rootIx ags)).length < ags.length then none else some ⟨ags, es, rootIx ags, actN (rootIx ags) es es.length⟩
  else none
theorem EndsOk.len {ags : List Ag} {wrs : List Wr} {es : Es} (k : EndsOk ags wrs es) : es.length = ags.length := by
  have := congrArg List.length k.n
  simpa using this
theorem EndsOk.at {ags : List Ag} {wrs : List Wr} {es : Es} (k : EndsOk ags wrs es) {i : Nat} {l : List (Option NP)} (h : es[i]? = some l) : l.length = portN ags i := by
  have := congrArg (fun x => x[i]?) k.n
  simp only [List.getElem?_map, h, Option.map_some] at this
  unfold portN
  cases e : ags[i]? with
  | none => rw [e] at this; cases this
  | some a => rw [e] at this; exact Option.some.inj this
theorem EndsOk.good {ags : List Ag} {wrs : List Wr} {es : Es} (k : EndsOk ags wrs es) : GoodE es := by
  have key : ∀ l ∈ es, ∀ o ∈ l, ∃ p, o = some p ∧ p.1 < es.length := fun l hl o ho => by
    obtain ⟨i, hi, e⟩ := List.mem_iff_getElem.mp hl
    obtain ⟨j, hj, e2⟩ := List.mem_iff_getElem.mp ho
    have el : es[i]? = some l := by rw [List.getElem?_eq_getElem hi, e]
    have hp : j < portN ags i := by rw [← k.at el]; exact hj
    obtain ⟨g1, g2⟩ := k.g (i, j) hp
    have g3 : getE es (i, j) = some o := by
      unfold getE; dsimp only; rw [el, Option.bind_some, List.getElem?_eq_getElem hj, e2]
    rw [g3] at g1
    cases q : peerL wrs (i, j) with
    | none => exact absurd q g2
    | some p =>
      refine ⟨p, by rw [Option.some.inj g1, q], ?_⟩
      rw [k.len]; exact portN_lt (k.t p (peerL_mem q))
  refine ⟨fun l hl hn => ?_, fun l hl p hp => ?_⟩
  · obtain ⟨p, e, _⟩ := key l hl _ hn
    cases e
  · obtain ⟨q, e, h⟩ := key l hl _ hp
    cases e
    exact h
theorem EndsOk.head {ags : List Ag} {wrs : List Wr} {es : Es} (k : EndsOk ags wrs es) {i : Nat} {l : List (Option NP)} (h : es[i]? = some l) : ∃ q r, l = some q :: r := by
  have hl := k.at h
  have hi : i < ags.length := by rw [← k.len]; exact (List.getElem?_eq_some_iff.mp h).1
  have hp : 0 < portN ags i := by
    unfold portN; rw [List.getElem?_eq_getElem hi]; dsimp only
    cases (ags[i]).k <;> decide
  cases l with
  | nil => rw [List.length_nil] at hl; omega
  | cons o r =>
    cases o with
    | some q => exact ⟨q, r, rfl⟩
    | none => exact absurd List.mem_cons_self (k.good.f _ (List.mem_of_getElem? h))
theorem rootIx_ok {ags : List Ag} (h : agsOk ags = true) : ∃ a, ags[rootIx ags]? = some a ∧ a.k = .root := by
  unfold agsOk rootsN at h
  rw [Bool.and_eq_true, decide_eq_true_eq] at h
  obtain ⟨_, h⟩ := h
  have : rootIx ags < ags.length := by
    unfold rootIx
    rw [List.findIdx_lt_length]
    cases e : ags.filter fun a => decide (a.k = .root) with
    | nil => rw [e] at h; cases h
    | cons a r =>
      have : a ∈ ags.filter fun a => decide (a.k = .root) := by rw [e]; exact List.mem_cons_self
      rw [List.mem_filter] at this
      exact ⟨a, this⟩
  refine ⟨_, List.getElem?_eq_getElem this, ?_⟩
  have := List.findIdx_getElem (p := fun a : Ag => decide (a.k = .root)) (w := this)
  exact of_decide_eq_true this
/-- what is at another place than v stays -/
def KeepBut (v : Addr) (h h' : HW) : Prop := ∀ a o, a ≠ v → h a = some o → h' a = some o
theorem KeepBut.refl (v : Addr) (h : HW) : KeepBut v h h := fun _ _ _ e => e
theorem KeepBut.sub {v : Addr} {h h1 h2 : HW} (k : KeepBut v h h1) (s : Sub h1 h2) : KeepBut v h h2 := fun a o n e => s _ _ (k a o n e)
theorem KeepBut.upd {v : Addr} {h h1 : HW} (k : KeepBut v h h1) (o : OW) : KeepBut v h (updW h1 v o) := fun a u n e => by rw [updW_ne n]; exact k a u n e
theorem KeepBut.new {v p : Addr} {h h1 : HW} (k : KeepBut v h h1) (e : h p = none) (o : OW) : KeepBut v h (updW h1 p o) := fun a u n e2 => by
  rw [updW_ne (fun z => by rw [z, e] at e2; cases e2)]; exact k a u n e2
theorem KeepBut.list {v : Addr} {h h1 : HW} (k : KeepBut v h h1) {C : Addr} {fs : List (Str × W)} (hv : h v = some (.ins C fs)) {x : W} {ws : List W} (e : Wl.listAt x h ws) : Wl.listAt x h1 ws := by
  unfold Wl.listAt at e ⊢
  split at e
  · exact e
  · exact k _ _ (fun z => by rw [z, hv] at e; cases e) e
  · exact e
def OwnG (g : NG) (a : Addr) : Prop := a = g.a1 ∨ a = g.d ∨ a = g.a3 ∨ a ∈ g.as

def netR (rs : List RA) (rws : List RWr) : Option NS := match allAg rs with
  | none => none
  | some ags => if rootsN ags = 1 then match endsR ags rws with
    | none => none
    | some es => if (reachE es (rootIx ags)).length < ags.length then none else some ⟨ags, es, rootIx ags, actN (rootIx ags) es es.length⟩
    else none
def spInitR (C IN : Addr) : SpW := fun ws h R ex => ∃ (v : Addr) (rs : List RA) (x : W) (rws : List RWr), ws = [.ref v, .lst (rs.map RA.w), x] ∧ h v = some (.ins C []) ∧ Wl.listAt x h (rws.map rwW) ∧ rs.length ≤ 60 ∧ rws.length ≤ 100000 ∧ (∀ r ∈ rs, r.Dr) ∧
  match netR rs rws with
  | none => ∀ h', KeepBut v h h' → ex ⟨IN, none⟩ h'
  | some s => ∀ g h', NetAt C v g s h' → KeepBut v h h' → (∀ a, OwnG g a → h a = none) → R .non h'
def Ag.raw (a : Ag) : RA := ⟨a.k.s, some a.lv, match a.dt with | .non => .non | .int i => .int i | .str c => .str [c] | .tup c i => .tup [c] (some i)⟩
theorem Ag.raw_w (a : Ag) : a.raw.w = a.w := by
  obtain ⟨k, lv, dt⟩ := a
  cases dt <;> rfl
theorem Ag.raw_ag {a : Ag} (h : a.ok = true) : a.raw.ag = some a := by
  obtain ⟨k, lv, dt⟩ := a
  unfold RA.ag Ag.raw
  dsimp only
  rw [kOf_s]
  cases dt <;> simp only [toAD] <;> rw [if_pos h]
theorem Ag.raw_dr {a : Ag} (h : a.dok = true) : a.raw.Dr := by
  obtain ⟨k, lv, dt⟩ := a
  unfold RA.Dr Ag.raw
  dsimp only
  rw [kOf_s]
  cases k <;> cases dt <;> first | exact trivial | exact nomatch h
theorem allAg_raw : ∀ {ags : List Ag}, (∀ a ∈ ags, a.ok = true) → allAg (ags.map Ag.raw) = some ags
  | [], _ => rfl
  | a :: ags, h => by
    rw [List.map_cons]
    unfold allAg
    rw [Ag.raw_ag (h a List.mem_cons_self), allAg_raw fun b hb => h b (List.mem_cons_of_mem _ hb)]
theorem netR_raw {ags : List Ag} (h : ∀ a ∈ ags, a.ok = true) (wrs : List Wr) : netR (ags.map Ag.raw) (wrs.map rawW) = netE ags wrs := by
  unfold netR netE
  rw [allAg_raw h]
  dsimp only
  rw [endsR_raw]
  have : agsOk ags = decide (rootsN ags = 1) := by unfold agsOk; rw [List.all_eq_true.mpr h]; rfl
  rw [this]
  by_cases c : rootsN ags = 1
  · rw [if_pos c, if_pos (decide_eq_true c)]
    all_goals (cases endsE ags wrs <;> rfl)
  · rw [if_neg c, if_neg (by rw [decide_eq_true_eq]; exact c)]
section
variable {P : Program} {w : World} {K : PySem.W.Frag} {mg : Str → Option Value} {base : Heap}
theorem ok_Net___init__ (T : Tx P w K mg) : FnOk P w K mg base (L2.CX P w) 4 T.a_Net___init__ T.fd_Net___init__ ["self", "agents", "wires"] (lSp K (spInitR T.aC_Net T.aC_InvalidNet)) := by
  refine fnWX T.F_Net___init__ sc_Net___init__ (fun ws h R ex ⟨_, _, _, _, e, _⟩ => by rw [e]; rfl) fun cdv A outer s H E ex hr => ⟨_, (wss_cons (ws_expr (w_callX (ok__refuse_agents T) (hr.mono (by walk_at "rm")) (by rfl) T.g__refuse_agents T.F__refuse_agents.kp T.b__refuse_agents (takes_of rfl rfl rfl rfl) (wa_cons (w_var 1) wa_nil)))
    (wss_cons (ws_fld T.cls_Net T.na_Net_agents (w_var 0) (w_dictEnum rfl (by rfl) T.m_dict (by rfl) T.m_enumerate (wa_cons (w_var 1) wa_nil)))
    (wss_cons (ws_fld T.cls_Net T.na_Net_ends (w_var 0) (w_callX (ok__ends_of T) (hr.mono (by walk_at "rm")) (by rfl) T.g__ends_of T.F__ends_of.kp T.b__ends_of (takes_of rfl rfl rfl rfl) (wa_cons (w_var 1) (wa_cons (w_var 2) wa_nil))))
    (wss_cons (ws_fld T.cls_Net T.na_Net_root (w_var 0) (w_bm PySem.F.plainAttrs_list PySem.F.slot_list_index PySem.F.type_list_index mt_index tyLl_ok lf_indexL (w_lc (x := "agent") (j := 5) rfl sc_Net___init__.nd (wi_list (w_var 1)) (blkOk_by (N := N_Net___init__) (sc := defScope s_Net___init__) (by decide +kernel)) (fun _ _ _ _ _ => pg_name (i := 5) sc_Net___init__.nd rfl (Or.inl rfl)) (fun _ _ _ _ _ => wts_nil) (fun _ _ _ _ _ => (w_ix (w_var 5) w_int))) (wa_cons (w_str z_root) wa_nil)))
    (wss_cons (ws_if (wt_cmp (rw := ltW) op_lt lf_cmp (w_callB call_len lf_len (by rfl) T.m_len (by decide +kernel) (wa_cons (w_meth0G T.cls_Net T.m_Net_reached (ok_Net_reached T) (hr.mono (by walk_at "rm")) T.b_Net_reached pass0 (fun _ _ _ => el_no) (w_var 0)) wa_nil)) (w_callB call_len lf_len (by rfl) T.m_len (by decide +kernel) (wa_cons (w_var 1) wa_nil)) (nomark _)) (wss_one (ws_raise rfl (takes_of rfl rfl rfl rfl) T.x_InvalidNet T.gC_InvalidNet T.k_InvalidNet T.b_InvalidNet T.t_InvalidNet (by rfl) (w_str z_thex20rootx20doesx20notx20reachx20allx20agents))) wss_nil)
    (wss_cons (ws_fld T.cls_Net T.na_Net_active (w_var 0) (w_lstO wa_nil))
    (wss_cons (ws_forIt (passes_of rfl) rfl (w_fld T.cls_Net T.na_Net_ends (w_var 0)) (wg_tup rfl (wgs_cons (wg_name (i := 3) sc_Net___init__.nd) (wgs_cons (wg_name (i := 4) sc_Net___init__.nd) wgs_nil))) (wss_one (ws_expr (w_methG T.cls_Net T.m_Net_note_pair (ok_Net_note_pair T) (hr.mono (by walk_at "rm")) T.b_Net_note_pair pass0 (fun _ _ _ => el_no) (w_var 0) (wa_cons (w_tup (wa_cons (w_var 3) (wa_cons w_int wa_nil))) (wa_cons (w_ix (w_var 4) w_int) wa_nil))))))
    (wss_one (ws_fld T.cls_Net T.na_Net_next_name (w_var 0) (w_callB call_len lf_len (by rfl) T.m_len (by decide +kernel) (wa_cons (w_var 1) wa_nil))))))))))), fun ws h R ⟨v, rs, x, rws, e, hv, hx, hl0, hw, dr, q⟩ => ?_⟩
  subst e
  walk_at "st"
  refine ⟨rs, rfl, by omega, dr, ?_⟩
  cases ea : allAg rs with
  | none =>
    rw [show netR rs rws = none by unfold netR; rw [ea]] at q
    exact fun h' s => q h' ((KeepBut.refl v h).sub s)
  | some ags =>
  dsimp only
  by_cases rn : rootsN ags = 1
  rotate_left
  · rw [if_neg rn]
    rw [show netR rs rws = none by unfold netR; rw [ea]; dsimp only; rw [if_neg rn]] at q
    exact fun h' s => q h' ((KeepBut.refl v h).sub s)
  rw [if_pos rn]
  obtain ⟨ew, oks⟩ := allAg_w ea
  have hl : ags.length ≤ 60 := by have := congrArg List.length ew; simp at this; omega
  have ao : agsOk ags = true := by unfold agsOk; rw [List.all_eq_true.mpr oks, decide_eq_true rn]; rfl
  rw [ew]
  walk_at "st"
  intro p1 hp1
  have n1 : v ≠ p1 := fun z => by rw [z, hp1] at hv; cases hv
  have n1' := n1.symm
  walk_at "st"
  obtain ⟨h1, eh1⟩ : ∃ h1, h1 = updW (updW h p1 (.dic (eK 0 (ags.map Ag.w)))) v (.ins T.aC_Net (putFW (Str.ofString "agents") (.ref p1) [])) := ⟨_, rfl⟩
  rw [← eh1]
  have k1 : KeepBut v h h1 := by rw [eh1]; exact ((KeepBut.refl v h).new hp1 _).upd _
  have hv1 : h1 v = some (.ins T.aC_Net [("agents", .ref p1)]) := by rw [eh1, updW_same]; rfl
  have ha1 : h1 p1 = some (.dic (eK 0 (ags.map Ag.w))) := by rw [eh1, updW_ne n1', updW_same]
  clear eh1
  refine ⟨ags, x, rws, rfl, k1.list hv hx, by omega, hw, ?_⟩
  cases ee : endsR ags rws with
  | none =>
    rw [show netR rs rws = none by unfold netR; rw [ea]; dsimp only; rw [if_pos rn, ee]] at q
    exact fun h' s => q h' (k1.sub s)
  | some es =>
  obtain ⟨wrs, erw⟩ := endsR_some ee
  have ee2 : endsE ags wrs = some es := by rw [← endsR_raw, erw]; exact ee
  have eo := endsE_some ee2
  have ge := eo.good
  have ln := eo.len
  obtain ⟨ra, hra, rk⟩ := rootIx_ok ao
  have rlt : rootIx ags < ags.length := (List.getElem?_eq_some_iff.mp hra).1
  have key : netR rs rws = if (reachE es (rootIx ags)).length < ags.length then none else some ⟨ags, es, rootIx ags, actN (rootIx ags) es es.length⟩ := by unfold netR; rw [ea]; dsimp only; rw [if_pos rn, ee]
  dsimp only
  intro d as h2 ea s2 own
  have nd : v ≠ d := fun z => by have := own d (.inl rfl); rw [← z, hv1] at this; cases this
  have hv2 := s2 _ _ hv1
  have ha2 := s2 _ _ ha1
  have k2 := k1.sub s2
  have keepE : ∀ {g : HW} {o : OW}, EndsAt d as es g → EndsAt d as es (updW g v o) := fun {g o} e => by
    refine ⟨e.n, by rw [updW_ne nd.symm]; exact e.d, e.nd, fun i a l ha hl => ?_⟩
    have : a ≠ v := fun z => by have := own a (.inr (List.mem_of_getElem? ha)); rw [z, hv1] at this; cases this
    rw [updW_ne this]; exact e.l i a l ha hl
  have dp1 : d ≠ p1 := fun z => by have := own d (.inl rfl); rw [z, ha1] at this; cases this
  walk_at "st"
  obtain ⟨h3, eh3⟩ : ∃ h3, h3 = updW h2 v (.ins T.aC_Net (putFW (Str.ofString "ends") (.ref d) [("agents", .ref p1)])) := ⟨_, rfl⟩
  rw [← eh3]
  have k3 : KeepBut v h h3 := by rw [eh3]; exact k2.upd _
  have hv3 : h3 v = some (.ins T.aC_Net [("agents", .ref p1), ("ends", .ref d)]) := by rw [eh3, updW_same]; rfl
  have ha3 : h3 p1 = some (.dic (eK 0 (ags.map Ag.w))) := by rw [eh3, updW_ne n1']; exact ha2
  have ea3 : EndsAt d as es h3 := by rw [eh3]; exact keepE ea
  clear eh3
  walk_at "st"
  refine go_lcI (ags.map Ag.w) (ags.map fun a => W.str a.k.s) (fun P q => by walk_at "st"; exact q) (by simp) (by simp; omega) ?_ ?_
  · intro i w y h' R' e1 e2 r
    rw [List.getElem?_map] at e1 e2
    obtain ⟨a, ha, rfl⟩ := Option.map_eq_some_iff.mp e1
    rw [ha] at e2
    cases e2
    unfold Ag.w
    walk_at "st"
    exact r
  refine ⟨trivial, ?_⟩
  walk_at "st"
  have eqk : ∀ a : Ag, eqF (.str a.k.s) (.str z_root) = decide (a.k = .root) := fun a => by
    show decide (a.k.s = z_root) = _
    cases a.k <;> rfl
  refine ⟨rootIx ags, .str ra.k.s, rfl, ?_, by rw [List.getElem?_map, hra]; rfl, by rw [eqk, rk]; rfl, fun m z' hm ez => ?_, ?_⟩
  · rw [List.all_map]; exact List.all_eq_true.mpr fun a _ => rfl
  · rw [List.getElem?_map] at ez
    obtain ⟨a, ha, rfl⟩ := Option.map_eq_some_iff.mp ez
    rw [eqk]
    have lt := (List.getElem?_eq_some_iff.mp ha).1
    have := List.not_of_lt_findIdx (p := fun a : Ag => decide (a.k = .root)) (xs := ags) (i := m) hm
    rw [(List.getElem?_eq_some_iff.mp ha).2] at this
    simpa using this
  walk_at "st"
  obtain ⟨h4, eh4⟩ : ∃ h4, h4 = updW h3 v (.ins T.aC_Net (putFW (Str.ofString "root") (.int (rootIx ags : Nat)) [("agents", .ref p1), ("ends", .ref d)])) := ⟨_, rfl⟩
  rw [← eh4]
  have k4 : KeepBut v h h4 := by rw [eh4]; exact k3.upd _
  have hv4 : h4 v = some (.ins T.aC_Net [("agents", .ref p1), ("ends", .ref d), ("root", .int (rootIx ags : Nat))]) := by rw [eh4, updW_same]; rfl
  have ha4 : h4 p1 = some (.dic (eK 0 (ags.map Ag.w))) := by rw [eh4, updW_ne n1']; exact ha3
  have ea4 : EndsAt d as es h4 := by rw [eh4]; exact keepE ea3
  clear eh4
  walk_at "st"
  refine ⟨v, d, as, es, .ref p1, rootIx ags, [], rfl, hv4, ea4, by omega, ge, by omega, ?_⟩
  walk_at "st"
  rw [show (natW (reachE es (rootIx ags))).length = (reachE es (rootIx ags)).length by unfold natW; rw [List.length_map], List.length_map]
  refine go_dec (fun c => ?_) fun c => ?_
  · rw [key, if_pos (by omega)] at q
    walk_at "st"
    exact q _ k4
  rw [key, if_neg (by omega)] at q
  walk_at "st"
  intro p3 hp3
  have n3 : v ≠ p3 := fun z => by rw [← z, hv4] at hp3; cases hp3
  have n3' := n3.symm
  have n31 : p1 ≠ p3 := fun z => by rw [← z, ha4] at hp3; cases hp3
  have n3d : d ≠ p3 := fun z => by have := ea4.d; rw [z, hp3] at this; cases this
  have hp3h : h p3 = none := by
    cases z : h p3 with
    | none => rfl
    | some o => have := k4 p3 o n3' z; rw [hp3] at this; cases this
  have hp1d : d ≠ v := nd.symm
  walk_at "st"
  obtain ⟨h5, eh5⟩ : ∃ h5, h5 = updW (updW h4 p3 (.lst [])) v (.ins T.aC_Net (putFW (Str.ofString "active") (.ref p3) [("agents", .ref p1), ("ends", .ref d), ("root", .int (rootIx ags : Nat))])) := ⟨_, rfl⟩
  rw [← eh5]
  have k5 : KeepBut v h h5 := by rw [eh5]; exact (k4.new hp3h _).upd _
  have hv5 : h5 v = some (.ins T.aC_Net [("agents", .ref p1), ("ends", .ref d), ("root", .int (rootIx ags : Nat)), ("active", .ref p3)]) := by rw [eh5, updW_same]; rfl
  have ha5 : h5 p1 = some (.dic (eK 0 (ags.map Ag.w))) := by rw [eh5, updW_ne n1', updW_ne n31]; exact ha4
  have ea5 : EndsAt d as es h5 := by rw [eh5]; exact keepE (ea4.mono (.new hp3))
  have hc5 : h5 p3 = some (.lst []) := by rw [eh5, updW_ne n3', updW_same]
  clear eh5
  walk_at "st"
  refine ⟨d, eK 0 (asW as), ea5.d, fun o => ?_⟩
  obtain ⟨h6, eh6⟩ : ∃ h6, h6 = updW h5 d (.raw o) := ⟨_, rfl⟩
  rw [← eh6]
  have hv6 : h6 v = some (.ins T.aC_Net [("agents", .ref p1), ("ends", .ref d), ("root", .int (rootIx ags : Nat)), ("active", .ref p3)]) := by rw [eh6, updW_ne nd]; exact hv5
  have hc6 : h6 p3 = some (.lst []) := by rw [eh6, updW_ne n3d.symm]; exact hc5
  have hd6 : h6 d = some (.raw o) := by rw [eh6, updW_same]
  have hl6 : ∀ (i : Nat) (a : Addr) (l : List (Option NP)), as[i]? = some a → es[i]? = some l → a ≠ p3 ∧ h6 a = some (.lst (l.map opW)) := fun i a l ha hl => by
    obtain ⟨z, _⟩ := ea5.l i a l ha hl
    have ad : a ≠ d := fun e => by rw [e, ea5.d] at z; cases z
    refine ⟨fun e => ?_, by rw [eh6, updW_ne ad]; exact z⟩
    obtain ⟨y, _⟩ := ea4.l i a l ha hl
    rw [e, hp3] at y; cases y
  walk_at "st"
  refine ⟨hd6, fun i ρ' h' => ρ' = [some (.ref v), some (.lst (ags.map Ag.w)), some x, none, none, none] ∧ h' = updW h6 p3 (.lst ((actN (rootIx ags) es i).map NP.w)), ⟨_, _, ⟨rfl, rfl⟩, .same (.same (.same (.no (.no (.no .nil))))), ?_⟩, ?_, ?_⟩
  · intro a u e
    by_cases z : a = p3
    · subst z; rw [updW_same] at e; rw [hc6, ← e]; rfl
    · rw [updW_ne z] at e; exact e
  · rintro i kk ww ρ' h' ekw ⟨rfl, rfl⟩
    have hi : i < as.length := by
      have := (List.getElem?_eq_some_iff.mp ekw).1
      rw [eK_len] at this
      unfold asW at this
      rwa [List.length_map] at this
    have ei : as[i]? = some as[i] := List.getElem?_eq_getElem hi
    have := eK_get (asW as) 0 i (.ref as[i]) (by unfold asW; rw [List.getElem?_map, ei]; rfl)
    rw [ekw, Nat.zero_add] at this
    cases this
    have hie : i < es.length := by have := ea.n; omega
    have el : es[i]? = some es[i] := List.getElem?_eq_getElem hie
    obtain ⟨q0, r0, el2⟩ := eo.head el
    obtain ⟨ap3, la⟩ := hl6 _ _ _ ei el
    obtain ⟨so, le⟩ := actN_ok (rootIx ags) es i
    refine ⟨by rw [updW_ne n3d]; exact hd6, ?_⟩
    have st : actN (rootIx ags) es (i + 1) = noteP (rootIx ags) (actN (rootIx ags) es i) (i, 0) q0 := by
      conv => lhs; unfold actN
      rw [el, el2]; rfl
    have e4 : atI (es[i].map opW) ((0 : Nat) : Int) = some q0.w := atI_nat (by rw [el2]; rfl)
    walk_at "st"
    refine ⟨v, p3, .ref p1, .ref d, [], rootIx ags, actN (rootIx ags) es i, (i, 0), q0, rfl, by rw [updW_ne n3]; exact hv6, updW_same, so, by omega, ?_⟩
    rw [updW_upd, ← st]
    exact ⟨_, _, ⟨rfl, rfl⟩, .same (.same (.same (.no (.no (.no .nil))))), .refl _⟩
  · rintro ρ' h' ⟨rfl, rfl⟩
    rw [eK_len, show (asW as).length = es.length by unfold asW; rw [List.length_map]; exact ea.n]
    refine ⟨by rw [updW_ne n3d]; exact hd6, ?_⟩
    obtain ⟨act, hact⟩ : ∃ act, act = actN (rootIx ags) es es.length := ⟨_, rfl⟩
    rw [← hact] at q ⊢
    have hv7 : updW (updW h6 p3 (.lst (act.map NP.w))) d (.dic (eK 0 (asW as))) v = some (.ins T.aC_Net [("agents", .ref p1), ("ends", .ref d), ("root", .int (rootIx ags : Nat)), ("active", .ref p3)]) := by rw [updW_ne nd, updW_ne n3]; exact hv6
    walk_at "st"
    rw [List.length_map]
    have back : ∀ a, a ≠ v → h1 a = none → h a = none := fun a na z => by
      cases e : h a with
      | none => rfl
      | some o => have := k1 a o na e; rw [z] at this; cases this
    refine .base (q ⟨p1, d, p3, as⟩ _ ⟨?_, ?_, ?_, ?_, ln, hl⟩ ?_ fun a oa => ?_) (.refl _)
    · rw [updW_same]; rfl
    · rw [updW_ne n1', updW_ne dp1.symm, updW_ne n31, eh6, updW_ne dp1.symm]; exact ha5
    · refine ⟨ea.n, by rw [updW_ne hp1d, updW_same], ea.nd, fun i a l ha hl2 => ?_⟩
      obtain ⟨z, z10⟩ := ea5.l i a l ha hl2
      obtain ⟨y1, y2⟩ := hl6 i a l ha hl2
      have ad : a ≠ d := fun e => by rw [e, ea5.d] at z; cases z
      have av : a ≠ v := fun e => by rw [e, hv5] at z; cases z
      refine ⟨?_, z10⟩
      rw [updW_ne av, updW_ne ad, updW_ne y1]; exact y2
    · rw [updW_ne n3', updW_ne n3d.symm, updW_same]
    · refine KeepBut.upd (fun a u na e => ?_) _
      have a3 : a ≠ p3 := fun z => by rw [z, hp3h] at e; cases e
      have z := k5 a u na e
      by_cases ad : a = d
      · subst ad; rw [updW_same, ← z, ea5.d]
      · rw [updW_ne ad, updW_ne a3, eh6, updW_ne ad]; exact z
    · rcases oa with rfl | rfl | rfl | oa
      · exact hp1
      · exact back _ hp1d (own _ (.inl rfl))
      · exact hp3h
      · have z := own a (.inr oa)
        exact back a (fun y => by rw [y, hv1] at z; cases z) z
end

/-! ## a copy -/
theorem NetAt.mono {C v : Addr} {g : NG} {s : NS} {h h' : HW} (k : NetAt C v g s h) (sb : Sub h h') : NetAt C v g s h' := ⟨sb _ _ k.c, sb _ _ k.ag, k.en.mono sb, sb _ _ k.ac, k.n, k.l⟩
def spCopied (C : Addr) : SpW := fun ws h R _ => ∃ (v : Addr) (g : NG) (s : NS), ws = [.ref v] ∧ NetAt C v g s h ∧ ∀ v2 g2 h', NetAt C v2 g2 s h' → Sub h h' → (∀ a, a = v2 ∨ OwnG g2 a → h a = none) → R (.ref v2) h'
def ags0 : List Ag := [⟨.root, 0, .non⟩, ⟨.num, 0, .int 0⟩]
def wrs0 : List Wr := [((0, 0), (1, 0))]
theorem netE0 : netE ags0 wrs0 = some ⟨ags0, [[some (1, 0)], [some (0, 0)]], 0, []⟩ := rfl
section
variable {P : Program} {w : World} {K : PySem.W.Frag} {mg : Str → Option Value} {base : Heap}
end

/-! ## what the law draws -/
theorem go_rng1 {ta : TAW} {ρ : SlW} {h : HW} {P : List W → HW → Prop} (n : Nat) (ev : ∀ RA : List W → HW → Prop, RA [.int (n : Nat)] h → ta ρ h RA) (hn : n ≤ 1000000) (k : P (natW (List.range n)) h) : oRng1 ta ρ h P := by
  refine ev _ ⟨⟨by omega, by omega⟩, ?_⟩
  rw [Int.toNat_natCast, show rngW 0 n = natW (List.range n) by simp [rngW, natW]]
  exact k
def spLawPorts : SpW := fun ws h R _ => ∃ k : AK, ws = [.str k.s] ∧ R (.int (k.ports : Nat)) h
def sgC (r : Nat) : Nat := match r with | 0 => 43 | 1 => 45 | _ => 42
def knd8 (r : Nat) : AK := match r with | 0 => .lam | 1 => .app | 2 => .fan | 3 => .num | 4 => .op | 5 => .op1 | 6 => .pair | _ => .split
def agOf (n : Nat) : Ag := ⟨knd8 (n % 8), match n % 8 with | 3 => 0 | _ => ((n / 8 % 3 : Nat) : Int), match n % 8 with | 3 => .int (((n / 24 % 9 : Nat) : Int) - 4) | 4 => .str (sgC (n / 24 % 3)) | 5 => .tup (sgC (n / 24 % 3)) (((n / 72 % 9 : Nat) : Int) - 4) | _ => .non⟩
/-- a number of which no text is long -/
def SmI (i : Int) : Prop := i.natAbs ≤ 1000000000000000
def Ag.Sm (a : Ag) : Prop := 0 ≤ a.lv ∧ SmI a.lv ∧ match a.dt with | .int i => SmI i | .tup _ i => SmI i | _ => True
def dt64 : AD → Prop
  | .int i => i.natAbs ≤ 64
  | .tup _ i => i.natAbs ≤ 64
  | _ => True
/-- agents and wires that are a net but for what the root may not reach -/
structure DrN (ags : List Ag) (wrs : List Wr) : Prop where
  hd : ags[0]? = some ⟨.root, 0, .non⟩
  tl : ∀ i a, 0 < i → ags[i]? = some a → a.k ≠ .root
  ok : ∀ a ∈ ags, a.ok = true ∧ a.Dr ∧ a.lv ≤ 2
  l2 : 2 ≤ ags.length
  l14 : ags.length ≤ 14
  pm : (endsW wrs).Perm (portsL ags)
  sm : ∀ a ∈ ags, a.Sm
  d64 : ∀ a ∈ ags, dt64 a.dt
structure DrA (ags : List Ag) : Prop where
  hd : ags[0]? = some ⟨.root, 0, .non⟩
  tl : ∀ i a, 0 < i → ags[i]? = some a → a.k ≠ .root
  ok : ∀ a ∈ ags, a.ok = true ∧ a.Dr ∧ a.lv ≤ 2
  l2 : 2 ≤ ags.length
  l14 : ags.length ≤ 14
  ev : (ags.map fun a => a.k.ports).sum % 2 = 0
  sm : ∀ a ∈ ags, a.Sm
  d64 : ∀ a ∈ ags, dt64 a.dt
def spAnyNet : SpW := fun ws h R _ => ∃ ms : List Nat, ws = [.lst (natsW ms)] ∧ ms.length ≤ 12 ∧ ∀ ags wrs, DrN ags wrs → R (.tup [.lst (ags.map Ag.w), .lst (wrs.map wrW)]) h
theorem perm_erase {α : Type} : ∀ (l : List α) (j : Nat) (h : j < l.length), (l[j] :: l.eraseIdx j).Perm l
  | [], _, h => absurd h (Nat.not_lt_zero _)
  | a :: l, 0, _ => .refl _
  | a :: l, j + 1, h => (List.Perm.swap _ _ _).trans (.cons _ (perm_erase l j (Nat.lt_of_succ_lt_succ h)))
theorem map_erase {α β : Type} (f : α → β) : ∀ (l : List α) (j : Nat), (l.map f).eraseIdx j = (l.eraseIdx j).map f
  | [], _ => by simp
  | a :: l, 0 => rfl
  | a :: l, j + 1 => by
    show f a :: (l.map f).eraseIdx j = f a :: (l.eraseIdx j).map f
    rw [map_erase f l j]
theorem portsK_len (ags : List Ag) : ∀ k, (portsK ags k).length = ((ags.take k).map fun a => a.k.ports).sum
  | 0 => by simp [portsK]
  | k + 1 => by
    rw [portsK_succ, List.length_append, portsK_len ags k, List.length_map, List.length_range, List.take_add_one, List.map_append, List.sum_append]
    congr 1
    unfold portN
    cases ags[k]? with
    | none => rfl
    | some a => simp
theorem portsL_len (ags : List Ag) : (portsL ags).length = (ags.map fun a => a.k.ports).sum := by
  unfold portsL; rw [portsK_len, List.take_length]
theorem agOf_ok (n : Nat) : (agOf n).k ≠ .root ∧ (agOf n).ok = true ∧ (agOf n).Dr ∧ (agOf n).lv ≤ 2 := by
  have h : n % 8 < 8 := Nat.mod_lt _ (by decide)
  have h3 : n / 8 % 3 < 3 := Nat.mod_lt _ (by decide)
  have lt : ∀ j : Nat, ¬ ((j : Nat) : Int) < 0 := fun j => by omega
  have sg : sgn (sgC (n / 24 % 3)) = true := by
    have h : n / 24 % 3 < 3 := Nat.mod_lt _ (by decide)
    have : n / 24 % 3 = 0 ∨ n / 24 % 3 = 1 ∨ n / 24 % 3 = 2 := by omega
    rcases this with e | e | e <;> rw [e] <;> decide
  have : n % 8 = 0 ∨ n % 8 = 1 ∨ n % 8 = 2 ∨ n % 8 = 3 ∨ n % 8 = 4 ∨ n % 8 = 5 ∨ n % 8 = 6 ∨ n % 8 = 7 := by omega
  rcases this with e | e | e | e | e | e | e | e <;> simp [agOf, e, knd8, Ag.ok, Ag.dok, Ag.Dr, lt, sg] <;> omega
theorem agOf_sm (n : Nat) : (agOf n).Sm := by
  have h : n % 8 < 8 := Nat.mod_lt _ (by decide)
  have h3 : n / 8 % 3 < 3 := Nat.mod_lt _ (by decide)
  have h9 : n / 24 % 9 < 9 := Nat.mod_lt _ (by decide)
  have h7 : n / 72 % 9 < 9 := Nat.mod_lt _ (by decide)
  have : n % 8 = 0 ∨ n % 8 = 1 ∨ n % 8 = 2 ∨ n % 8 = 3 ∨ n % 8 = 4 ∨ n % 8 = 5 ∨ n % 8 = 6 ∨ n % 8 = 7 := by omega
  rcases this with e | e | e | e | e | e | e | e <;> simp only [agOf, e, Ag.Sm, SmI] <;> (refine ⟨?_, ?_, ?_⟩) <;> first | exact trivial | omega
theorem agOf_d64 (n : Nat) : dt64 (agOf n).dt := by
  have h : n % 8 < 8 := Nat.mod_lt _ (by decide)
  have h9 : n / 24 % 9 < 9 := Nat.mod_lt _ (by decide)
  have h7 : n / 72 % 9 < 9 := Nat.mod_lt _ (by decide)
  have : n % 8 = 0 ∨ n % 8 = 1 ∨ n % 8 = 2 ∨ n % 8 = 3 ∨ n % 8 = 4 ∨ n % 8 = 5 ∨ n % 8 = 6 ∨ n % 8 = 7 := by omega
  rcases this with e | e | e | e | e | e | e | e <;> simp only [agOf, e, dt64] <;> omega
section
variable {P : Program} {w : World} {K : PySem.W.Frag} {mg : Str → Option Value} {base : Heap}
theorem ok__law_ports (T : Tx P w K mg) : FnOk P w K mg base CX0 1 T.a__law_ports T.fd__law_ports ["kind"] (lSp K spLawPorts) := by
  refine fnW T.F__law_ports sc__law_ports (fun ws h R ex ⟨_, e, _⟩ => by rw [e]; rfl) fun cdv A outer s H E hr => ⟨_, (wss_one (ws_ret (w_dget (hu_of hr) (w_disp (pps_si z_root (pps_si z_lam (pps_si z_app (pps_si z_fan (pps_si z_num (pps_si z_op (pps_si z_op1 (pps_si z_pair (pps_si z_split pps_si0))))))))) (by rfl)) (w_var 0)))), fun ws h R ex ⟨k, e, q⟩ => ?_⟩
  subst e
  walk_at "st"
  refine go_dget (w := .int (k.ports : Nat)) (by cases k <;> rfl) ?_
  walk_at "st"
  exact .base q (.refl _)
theorem ok__law_any_net (T : Tx P w K mg) : FnOk P w K mg base CX0 2 T.a__law_any_net T.fd__law_any_net ["numbers"] (lSp K spAnyNet) := by
  refine fnW T.F__law_any_net sc__law_any_net (fun ws h R ex ⟨_, e, _⟩ => by rw [e]; rfl) fun cdv A outer s H E hr => ⟨_, (wss_cons (ws_set (i := 1) sc__law_any_net.nd (w_lstO (wa_cons (w_tup (wa_cons (w_str z_root) (wa_cons w_int (wa_cons w_non wa_nil)))) wa_nil)))
    (wss_cons (ws_for PassesOwn.never rfl (wi_list (w_var 0)) (wg_name (i := 2) sc__law_any_net.nd) (wss_cons (ws_set (i := 10) sc__law_any_net.nd (w_ix (w_lst (wa_cons (w_str z_lam) (wa_cons (w_str z_app) (wa_cons (w_str z_fan) (wa_cons (w_str z_num) (wa_cons (w_str z_op) (wa_cons (w_str z_op1) (wa_cons (w_str z_pair) (wa_cons (w_str z_split) wa_nil))))))))) (w_op (rw := modW) op_mod lf_int (w_callTy call_int1 lf_toInt (by rfl) T.m_int (by decide +kernel) (wa_cons (w_var 2) wa_nil)) w_int)))
    (wss_cons (ws_set (i := 11) sc__law_any_net.nd (w_op (rw := modW) op_mod lf_int (w_callTy call_int1 lf_toInt (by rfl) T.m_int (by decide +kernel) (wa_cons (w_op (rw := fdivW) op_fdiv lf_int (w_var 2) w_int) wa_nil)) w_int))
    (wss_cons (ws_set (i := 12) sc__law_any_net.nd w_non)
    (wss_cons (ws_if (wt_cmp (ow_eq hr.units) lf_eq (w_var 10) (w_str z_num) (nomark _)) (wss_cons (ws_set (i := 11) sc__law_any_net.nd w_int)
    (wss_one (ws_set (i := 12) sc__law_any_net.nd (w_op (rw := subW) op_sub lf_int0 (w_op (rw := modW) op_mod lf_int (w_callTy call_int1 lf_toInt (by rfl) T.m_int (by decide +kernel) (wa_cons (w_op (rw := fdivW) op_fdiv lf_int (w_var 2) w_int) wa_nil)) w_int) w_int)))) (wss_one (ws_if (wt_cmp (ow_eq hr.units) lf_eq (w_var 10) (w_str z_op) (nomark _)) (wss_one (ws_set (i := 12) sc__law_any_net.nd (w_ix (w_str z_x2bx2dx2a) (w_op (rw := modW) op_mod lf_int (w_callTy call_int1 lf_toInt (by rfl) T.m_int (by decide +kernel) (wa_cons (w_op (rw := fdivW) op_fdiv lf_int (w_var 2) w_int) wa_nil)) w_int)))) (wss_one (ws_if (wt_cmp (ow_eq hr.units) lf_eq (w_var 10) (w_str z_op1) (nomark _)) (wss_one (ws_set (i := 12) sc__law_any_net.nd (w_tup (wa_cons (w_ix (w_str z_x2bx2dx2a) (w_op (rw := modW) op_mod lf_int (w_callTy call_int1 lf_toInt (by rfl) T.m_int (by decide +kernel) (wa_cons (w_op (rw := fdivW) op_fdiv lf_int (w_var 2) w_int) wa_nil)) w_int)) (wa_cons (w_op (rw := subW) op_sub lf_int0 (w_op (rw := modW) op_mod lf_int (w_callTy call_int1 lf_toInt (by rfl) T.m_int (by decide +kernel) (wa_cons (w_op (rw := fdivW) op_fdiv lf_int (w_var 2) w_int) wa_nil)) w_int) w_int) wa_nil))))) wss_nil)))))
    (wss_one (ws_expr (w_bm PySem.F.plainAttrs_list PySem.F.slot_list_append PySem.F.type_list_append mt_append tyL_ok lf_append (w_var 1) (wa_cons (w_tup (wa_cons (w_var 10) (wa_cons (w_var 11) (wa_cons (w_var 12) wa_nil)))) wa_nil)))))))))
    (wss_cons (ws_set (i := 3) sc__law_any_net.nd (w_op (rw := oddW) op_odd lf_odd (w_callB (cr_sum rfl) lf_sum (by rfl) T.m_sum (by decide +kernel) (wa_cons (w_lcO (x := "agent") (j := 15) rfl sc__law_any_net.nd (w_var 1) (blkOk_by (N := N__law_any_net) (sc := defScope s__law_any_net) (by decide +kernel)) (fun _ _ _ _ _ => pg_name (i := 15) sc__law_any_net.nd rfl (Or.inl rfl)) (fun _ _ _ _ _ => wts_nil) (fun _ _ _ _ _ => (w_call (ok__law_ports T) (hr.mono (by walk_at "rm")) (by rfl) T.g__law_ports T.F__law_ports.kp T.b__law_ports (wa_cons (w_ix (w_var 15) w_int) wa_nil)))) wa_nil)) w_int))
    (wss_cons (ws_if (wt_cmp (ow_eq hr.units) lf_eq (w_var 3) w_int (nomark _)) (wss_one (ws_expr (w_bm PySem.F.plainAttrs_list PySem.F.slot_list_append PySem.F.type_list_append mt_append tyL_ok lf_append (w_var 1) (wa_cons (w_tup (wa_cons (w_str z_num) (wa_cons w_int (wa_cons w_int wa_nil)))) wa_nil)))) wss_nil)
    (wss_cons (ws_set (i := 4) sc__law_any_net.nd (w_lstO wa_nil))
    (wss_cons (ws_for PassesOwn.never rfl (wi_range1 (by rfl) T.m_range (wa_cons (w_callB call_len lf_len (by rfl) T.m_len (by decide +kernel) (wa_cons (w_var 1) wa_nil)) wa_nil)) (wg_name (i := 5) sc__law_any_net.nd) (wss_one (ws_set (i := 4) sc__law_any_net.nd (w_op (rw := catOW) op_cat lf_catO (w_var 4) (w_lc (x := "port") (j := 16) rfl sc__law_any_net.nd (wi_range1 (by rfl) T.m_range (wa_cons (w_call (ok__law_ports T) (hr.mono (by walk_at "rm")) (by rfl) T.g__law_ports T.F__law_ports.kp T.b__law_ports (wa_cons (w_ix (w_ix (w_var 1) (w_var 5)) w_int) wa_nil)) wa_nil)) (blkOk_by (N := N__law_any_net) (sc := defScope s__law_any_net) (by decide +kernel)) (fun _ _ _ _ _ => pg_name (i := 16) sc__law_any_net.nd rfl (Or.inl rfl)) (fun _ _ _ _ _ => wts_nil) (fun _ _ _ _ _ => (w_tup (wa_cons (w_var 5) (wa_cons (w_var 16) wa_nil)))))))))
    (wss_cons (ws_set (i := 6) sc__law_any_net.nd (w_lstO wa_nil))
    (wss_cons (ws_set (i := 7) sc__law_any_net.nd (w_op ow_add lf_add (w_callB call_len lf_len (by rfl) T.m_len (by decide +kernel) (wa_cons (w_var 0) wa_nil)) (w_callB (cr_sum rfl) lf_sum (by rfl) T.m_sum (by decide +kernel) (wa_cons (w_var 0) wa_nil))))
    (wss_cons (ws_set (i := 8) sc__law_any_net.nd (w_op (rw := fdivW) op_fdiv lf_int (w_callB call_len lf_len (by rfl) T.m_len (by decide +kernel) (wa_cons (w_var 4) wa_nil)) w_int))
    (wss_cons (ws_for PassesOwn.never rfl (wi_range1 (by rfl) T.m_range (wa_cons (w_var 8) wa_nil)) (wg_name (i := 9) sc__law_any_net.nd) (wss_cons (ws_set (i := 13) sc__law_any_net.nd (w_bm PySem.F.plainAttrs_list PySem.F.slot_list_pop PySem.F.type_list_pop mt_popAt tyL_ok lf_popAt (w_var 4) (wa_cons w_int wa_nil)))
    (wss_cons (ws_set (i := 7) sc__law_any_net.nd (w_op (rw := modW) op_mod lf_int (w_callTy call_int1 lf_toInt (by rfl) T.m_int (by decide +kernel) (wa_cons (w_op ow_add lf_add (w_op ow_add lf_add (w_op (rw := mulW) op_mul lf_int (w_var 7) w_int) w_int) (w_var 9)) wa_nil)) w_int))
    (wss_cons (ws_set (i := 14) sc__law_any_net.nd (w_bm PySem.F.plainAttrs_list PySem.F.slot_list_pop PySem.F.type_list_pop mt_popAt tyL_ok lf_popAt (w_var 4) (wa_cons (w_op (rw := modW) op_mod lf_int (w_var 7) (w_callB call_len lf_len (by rfl) T.m_len (by decide +kernel) (wa_cons (w_var 4) wa_nil))) wa_nil)))
    (wss_one (ws_expr (w_bm PySem.F.plainAttrs_list PySem.F.slot_list_append PySem.F.type_list_append mt_append tyL_ok lf_append (w_var 6) (wa_cons (w_tup (wa_cons (w_var 13) (wa_cons (w_var 14) wa_nil))) wa_nil))))))))
    (wss_one (ws_ret (w_tup (wa_cons (w_var 1) (wa_cons (w_var 6) wa_nil))))))))))))))), fun ws h R ex ⟨ms, e, hl, q⟩ => ?_⟩
  subst e
  walk_at "st"
  intro p1 hp1
  walk_at "st"
  obtain ⟨a0, ea0⟩ : ∃ a0, a0 = Ag.w ⟨.root, 0, .non⟩ := ⟨_, rfl⟩
  rw [show W.tup [.str z_root, .int 0, .non] = a0 by rw [ea0]; rfl]
  refine go_forL (natsW ms) (fun R q => by walk_at "st"; exact q)
    (fun i ρ' h' => ρ' = [some (.lst (natsW ms)), some (.ref p1), none, none, none, none, none, none, none, none, none, none, none, none, none, none, none] ∧ h' = updW h p1 (.lst (a0 :: ((ms.take i).map agOf).map Ag.w)))
    ?_ ?_ ?_
  · exact .of ⟨rfl, rfl⟩
  · rintro i w ρ' h' hw ⟨rfl, rfl⟩
    rw [List.getElem?_map] at hw
    obtain ⟨n, hn, rfl⟩ := Option.map_eq_some_iff.mp hw
    obtain ⟨xs, exs⟩ : ∃ xs, xs = a0 :: ((ms.take i).map agOf).map Ag.w := ⟨_, rfl⟩
    have lxs : xs.length ≤ 20 := by rw [exs]; simp; omega
    rw [← exs]
    have nx : a0 :: ((ms.take (i + 1)).map agOf).map Ag.w = xs ++ [(agOf n).w] := by rw [exs, List.take_add_one, hn]; simp
    have fin : ∀ (x : W) (ρ2 : SlW), x = (agOf n).w → SubS [some (.lst (natsW ms)), some (.ref p1), none, none, none, none, none, none, none, none, none, none, none, none, none, none, none] ρ2 → CN (fun ρ' h' => ρ' = [some (.lst (natsW ms)), some (.ref p1), none, none, none, none, none, none, none, none, none, none, none, none, none, none, none] ∧ h' = updW h p1 (.lst (a0 :: ((ms.take (i + 1)).map agOf).map Ag.w))) ρ2 (updW (updW h p1 (.lst xs)) p1 (.lst (xs ++ [x]))) := fun x ρ2 ex sub => by
      refine ⟨_, _, ⟨rfl, rfl⟩, sub, ?_⟩
      rw [updW_upd, nx, ex]
      exact .refl _
    have l1 : (n : Int) / 8 % 3 = ((n / 8 % 3 : Nat) : Int) := by omega
    have l2 : (n : Int) / 24 % 9 = ((n / 24 % 9 : Nat) : Int) := by omega
    have l3 : (n : Int) / 72 % 9 = ((n / 72 % 9 : Nat) : Int) := by omega
    have sg : atI z_x2bx2dx2a ((n : Int) / 24 % 3) = some (sgC (n / 24 % 3)) := by
      rw [show (n : Int) / 24 % 3 = ((n / 24 % 3 : Nat) : Int) by omega]
      have : n / 24 % 3 = 0 ∨ n / 24 % 3 = 1 ∨ n / 24 % 3 = 2 := by omega
      rcases this with e | e | e <;> rw [e] <;> rfl
    have : n % 8 = 0 ∨ n % 8 = 1 ∨ n % 8 = 2 ∨ n % 8 = 3 ∨ n % 8 = 4 ∨ n % 8 = 5 ∨ n % 8 = 6 ∨ n % 8 = 7 := by omega
    rcases this with e | e | e | e | e | e | e | e
    all_goals
      have ei : (n : Int) % 8 = ((n % 8 : Nat) : Int) := by omega
      rw [e] at ei
      walk_at "st"
      rw [ei]
      walk_at "stc"
      show CN _ _ _
      refine fin _ _ ?_ (by walk_at "sub")
      simp only [agOf, Ag.w, e, knd8, AK.s, AD.w, l1, l2, l3]
  · rintro ρ' h' ⟨rfl, rfl⟩
    rw [show (natsW ms).length = ms.length by simp [natsW], List.take_length]
    obtain ⟨ags, eags⟩ : ∃ ags : List Ag, ags = ⟨.root, 0, .non⟩ :: ms.map agOf := ⟨_, rfl⟩
    rw [show a0 :: (ms.map agOf).map Ag.w = ags.map Ag.w by rw [eags, ea0]; rfl]
    have lag : ags.length = ms.length + 1 := by rw [eags]; simp
    walk_at "st"
    refine go_lcO (x := .ref p1) (ags.map Ag.w) (ags.map fun a => W.int (a.k.ports : Nat)) (fun R q => by walk_at "st"; exact q) updW_same (by simp) (by simp; omega) (fun i w y p acc R' e1 e2 hp r => ?_) ?_
    · rw [List.getElem?_map] at e1 e2
      obtain ⟨a, ha, rfl⟩ := Option.map_eq_some_iff.mp e1
      rw [ha] at e2
      cases e2
      unfold Ag.w
      walk_at "st"
      exact ⟨a.k, rfl, r⟩
    walk_at "st"
    have inS : ∀ l : List Ag, intsOf (l.map fun a => W.int (a.k.ports : Nat)) = some (l.map fun a => ((a.k.ports : Nat) : Int)) := fun l => by
      induction l with
      | nil => rfl
      | cons a l ih => simp only [List.map_cons, intsOf, ih]; rfl
    have sums : ∀ l : List Ag, (l.map fun a => ((a.k.ports : Nat) : Int)).sum = (((l.map fun a => a.k.ports).sum : Nat) : Int) := fun l => by
      induction l with
      | nil => rfl
      | cons a l ih => simp only [List.map_cons, List.sum_cons, ih]; omega
    refine go_sum (inS ags) ?_
    rw [sums]
    walk_at "st"
    refine go_odd ?_
    walk_at "st"
    obtain ⟨s0, es0⟩ : ∃ s0, s0 = (ags.map fun a => a.k.ports).sum := ⟨_, rfl⟩
    rw [← es0]
    obtain ⟨ags1, ea1⟩ : ∃ ags1 : List Ag, ags1 = if s0 % 2 = 1 then ags ++ [⟨.num, 0, .int 7⟩] else ags := ⟨_, rfl⟩
    have big : DrA ags1 := by
      have i0 : ∀ (i : Nat) (a : Ag), 0 < i → ags[i]? = some a → a.k ≠ .root := fun i a hi e => by
        rw [eags] at e
        obtain ⟨j, rfl⟩ := Nat.exists_eq_add_of_lt hi
        rw [Nat.zero_add, List.getElem?_cons_succ, List.getElem?_map] at e
        obtain ⟨n, _, rfl⟩ := Option.map_eq_some_iff.mp e
        exact (agOf_ok n).1
      have i1 : ∀ a ∈ ags, a.ok = true ∧ a.Dr ∧ a.lv ≤ 2 := fun a ha => by
        rw [eags] at ha
        rcases List.mem_cons.mp ha with rfl | ha
        · exact ⟨rfl, trivial, by decide⟩
        · obtain ⟨n, _, rfl⟩ := List.mem_map.mp ha
          exact (agOf_ok n).2
      have h0 : ags[0]? = some ⟨.root, 0, .non⟩ := by rw [eags]; rfl
      have i2 : ∀ a ∈ ags, a.Sm := fun a ha => by
        rw [eags] at ha
        rcases List.mem_cons.mp ha with rfl | ha
        · exact ⟨by decide, by unfold SmI; decide, trivial⟩
        · obtain ⟨n, _, rfl⟩ := List.mem_map.mp ha
          exact agOf_sm n
      have i3 : ∀ a ∈ ags, dt64 a.dt := fun a ha => by
        rw [eags] at ha
        rcases List.mem_cons.mp ha with rfl | ha
        · exact trivial
        · obtain ⟨n, _, rfl⟩ := List.mem_map.mp ha
          exact agOf_d64 n
      rw [ea1]
      by_cases c : s0 % 2 = 1
      · rw [if_pos c]
        refine ⟨by rw [List.getElem?_append_left (by omega)]; exact h0, fun i a hi e => ?_, fun a ha => ?_, by rw [List.length_append, List.length_singleton]; omega, by rw [List.length_append, List.length_singleton]; omega, ?_, fun a ha => ?_, fun a ha => ?_⟩
        · by_cases l : i < ags.length
          · rw [List.getElem?_append_left l] at e; exact i0 i a hi e
          · rw [List.getElem?_append_right (by omega)] at e
            have := (List.getElem?_eq_some_iff.mp e).1
            rw [List.length_singleton] at this
            rw [show i - ags.length = 0 by omega] at e
            cases e
            exact fun z => by cases z
        · rcases List.mem_append.mp ha with ha | ha
          · exact i1 a ha
          · rw [List.mem_singleton.mp ha]; exact ⟨rfl, trivial, by decide⟩
        · rw [List.map_append, List.sum_append, ← es0]; simp [AK.ports]; omega
        · rcases List.mem_append.mp ha with ha | ha
          · exact i2 a ha
          · rw [List.mem_singleton.mp ha]; exact ⟨by decide, by unfold SmI; decide, by unfold SmI; decide⟩
        · rcases List.mem_append.mp ha with ha | ha
          · exact i3 a ha
          · rw [List.mem_singleton.mp ha]; show (7 : Int).natAbs ≤ 64; decide
      · rw [if_neg c]
        have : 2 ≤ ags.length := by
          cases ms with
          | nil => exact absurd (by rw [es0, eags]; rfl) c
          | cons m r => rw [lag, List.length_cons]; omega
        exact ⟨h0, i0, i1, this, by omega, by rw [← es0]; omega, i2, i3⟩
    have l14 := big.l14
    show if _ = true then _ else _
    refine go_meet (fun ρ' h' => ρ' = [some (.lst (natsW ms)), some (.ref p1), none, some (.int ((s0 % 2 : Nat) : Int)), none, none, none, none, none, none, none, none, none, none, none, none, none] ∧ h' = updW h p1 (.lst (ags1.map Ag.w))) ?_ (fun N' hN => ?_)
    rotate_left
    · refine go_dec (fun c => ?_) fun c => ?_
      · rw [if_pos (by omega)] at ea1
        walk_at "st"
        refine hN _ _ ⟨rfl, ?_⟩
        rw [updW_upd, ea1, List.map_append]; rfl
      · rw [if_neg (by omega)] at ea1
        walk_at "st"
        refine hN _ _ ⟨rfl, by rw [ea1]⟩
    rintro ρ' h' ⟨rfl, rfl⟩
    obtain ⟨h1, eh1⟩ : ∃ h1, h1 = updW h p1 (.lst (ags1.map Ag.w)) := ⟨_, rfl⟩
    rw [← eh1]
    have hp11 : h1 p1 = some (.lst (ags1.map Ag.w)) := by rw [eh1, updW_same]
    have sb1 : Sub h h1 := by rw [eh1]; exact .new hp1
    walk_at "st"
    intro p4 hp4
    walk_at "st"
    refine go_forR1 ags1.length (fun RA q => by have hz : updW h1 p4 (.lst []) p1 = some (.lst (ags1.map Ag.w)) := by { rw [updW_ne (fun z => by rw [z, hp4] at hp11; cases hp11)]; exact hp11 }; walk_at "st"; rw [List.length_map]; exact q) (by omega)
      (fun i ρ' h' => ∃ p4, h1 p4 = none ∧ ρ' = [some (.lst (natsW ms)), some (.ref p1), none, none, some (.ref p4), none, none, none, none, none, none, none, none, none, none, none, none] ∧ h' = updW h1 p4 (.lst ((portsK ags1 i).map NP.w)))
      ⟨_, _, ⟨p4, hp4, rfl, rfl⟩, by walk_at "sub", .refl _⟩ ?_ ?_
    · rintro i ρ' h' hi ⟨p4, hp4, rfl, rfl⟩
      have hi2 : i < ags1.length := by omega
      have ei : ags1[i]? = some ags1[i] := List.getElem?_eq_getElem hi2
      have n41 : p1 ≠ p4 := fun z => by rw [← z, hp11] at hp4; cases hp4
      have hz : ∀ o, updW h1 p4 o p1 = some (.lst (ags1.map Ag.w)) := fun o => by rw [updW_ne n41]; exact hp11
      have e5 : atI (ags1.map Ag.w) ((i : Nat) : Int) = some (ags1[i]).w := atI_nat (by rw [List.getElem?_map, ei]; rfl)
      have pn : portN ags1 i = (ags1[i]).k.ports := by unfold portN; rw [ei]
      have p3 : portN ags1 i ≤ 3 := by rw [pn]; cases (ags1[i]).k <;> decide
      have hz1 := hz (.lst ((portsK ags1 i).map NP.w))
      have l3 : (portsK ags1 i).length ≤ 60 := by
        have : (portsK ags1 i).length ≤ 3 * i := by
          clear hi hi2 ei e5 pn p3 hz1
          induction i with
          | zero => simp [portsK]
          | succ i ih =>
            rw [portsK_succ, List.length_append, List.length_map, List.length_range]
            have : portN ags1 i ≤ 3 := by
              unfold portN
              split
              · rename_i a _; cases a.k <;> decide
              · omega
            omega
        omega
      walk_at "st"
      refine go_lcI (natW (List.range (portN ags1 i))) (((List.range (portN ags1 i)).map fun j => ((i, j) : NP)).map NP.w) (fun P q => go_rng1 (portN ags1 i) (fun RA q => by walk_at "st"; unfold Ag.w; walk_at "st"; exact ⟨_, rfl, by walk_at "st"; rw [← pn]; exact q⟩) (by omega) q) (by simp [natW]) (by simp [natW]; omega) ?_ ?_
      · intro j w y h' R' e1 e2 r
        unfold natW at e1
        rw [List.getElem?_map] at e1 e2
        obtain ⟨m, hm, rfl⟩ := Option.map_eq_some_iff.mp e1
        rw [List.getElem?_map, hm] at e2
        cases e2
        walk_at "st"
        exact r
      · refine go_catOL updW_same (by simp only [List.length_map, List.length_range]; omega) fun p5 hp5 => ?_
        have n5 : p5 ≠ p4 := fun z => by rw [z, updW_same] at hp5; cases hp5
        have hp5' : h1 p5 = none := by rw [updW_ne n5] at hp5; exact hp5
        refine ⟨_, _, ⟨p5, hp5', rfl, rfl⟩, by walk_at "sub", fun a o e => ?_⟩
        by_cases a5 : a = p5
        · subst a5; rw [updW_same] at e ⊢; rw [← e, portsK_succ, List.map_append]
        · rw [updW_ne a5] at e ⊢
          rw [updW_ne (fun z => by rw [z, hp4] at e; cases e)]; exact e
    · rintro ρ' h' ⟨p4, hp4, rfl, rfl⟩
      have n41 : p1 ≠ p4 := fun z => by rw [← z, hp11] at hp4; cases hp4
      rw [Int.toNat_natCast]
      rw [show portsK ags1 ags1.length = portsL ags1 from rfl]
      obtain ⟨hf, ehf⟩ : ∃ hf, hf = (portsL ags1).length / 2 := ⟨_, rfl⟩
      have hev : (portsL ags1).length = 2 * hf := by rw [ehf, portsL_len]; have := big.ev; omega
      have lp : (portsL ags1).length ≤ 60 := by
        have : ∀ l : List Ag, (l.map fun a => a.k.ports).sum ≤ 3 * l.length := fun l => by
          induction l with
          | nil => exact Nat.le_refl _
          | cons a l ih =>
            rw [List.map_cons, List.sum_cons, List.length_cons]
            have : a.k.ports ≤ 3 := by cases a.k <;> decide
            omega
        have := this ags1
        rw [portsL_len]; omega
      walk_at "st"
      intro p6 hp6
      have n64 : p6 ≠ p4 := fun z => by rw [z, updW_same] at hp6; cases hp6
      have n46 := n64.symm
      have hp6' : h1 p6 = none := by rw [updW_ne n64] at hp6; exact hp6
      have n61 : p1 ≠ p6 := fun z => by rw [← z, hp11] at hp6'; cases hp6'
      walk_at "st"
      have inN : ∀ l : List Nat, intsOf (natsW l) = some (l.map fun n => ((n : Nat) : Int)) := fun l => by
        induction l with
        | nil => rfl
        | cons a l ih => unfold natsW at ih ⊢; simp only [List.map_cons, intsOf, ih]; rfl
      refine go_sum (inN ms) ?_
      walk_at "st"
      rw [show (((List.map NP.w (portsL ags1)).length : Nat) : Int) / 2 = ((hf : Nat) : Int) by rw [List.length_map, hev]; omega]
      generalize ((natsW ms).length : Int) + (ms.map fun n => ((n : Nat) : Int)).sum = sd0
      refine go_forR1 hf (fun RA q => by walk_at "st"; exact q) (by omega)
        (fun k ρ' h' => ∃ (ps : List NP) (wrs : List Wr) (sd : Int), ps.length = 2 * (hf - k) ∧ wrs.length = k ∧ (endsW wrs ++ ps).Perm (portsL ags1) ∧
          ρ' = [some (.lst (natsW ms)), some (.ref p1), none, none, some (.ref p4), none, some (.ref p6), some (.int sd), some (.int (hf : Nat)), none, none, none, none, none, none, none, none] ∧ h' = updW (updW h1 p4 (.lst (ps.map NP.w))) p6 (.lst (wrs.map wrW)))
        ⟨_, _, ⟨portsL ags1, [], sd0, hev, rfl, List.Perm.refl _, rfl, rfl⟩, by walk_at "sub", .refl _⟩ ?_ ?_
      · rintro k ρ' h' hk ⟨ps, wrs, sd, l1, l2, pm, rfl, rfl⟩
        cases ps with
        | nil => rw [List.length_nil] at l1; omega
        | cons f rest =>
          rw [List.length_cons] at l1
          have lr : 0 < rest.length := by omega
          walk_at "st"
          refine go_popAt (xs := (f :: rest).map NP.w) (y := f.w) (by rw [updW_ne n46, updW_same]) (by decide) (by decide) rfl ?_
          rw [show (((f :: rest).map NP.w).eraseIdx (Int.toNat 0)) = rest.map NP.w from rfl]
          obtain ⟨g1, eg1⟩ : ∃ g1, g1 = updW (updW h1 p4 (.lst (rest.map NP.w))) p6 (.lst (wrs.map wrW)) := ⟨_, rfl⟩
          have eg2 : updW (updW (updW h1 p4 (.lst ((f :: rest).map NP.w))) p6 (.lst (wrs.map wrW))) p4 (.lst (rest.map NP.w)) = g1 := by
            rw [eg1]
            funext b
            by_cases b4 : b = p4
            · subst b4; rw [updW_same, updW_ne n46, updW_same]
            · rw [updW_ne b4]
              by_cases b6 : b = p6
              · subst b6; rw [updW_same, updW_same]
              · rw [updW_ne b6, updW_ne b4, updW_ne b6, updW_ne b4]
          rw [eg2]
          have q4 : g1 p4 = some (.lst (rest.map NP.w)) := by rw [eg1, updW_ne n46, updW_same]
          have q6 : g1 p6 = some (.lst (wrs.map wrW)) := by rw [eg1, updW_same]
          walk_at "st"
          rw [show ((rest.map NP.w).length : Int) = ((rest.length : Nat) : Int) by rw [List.length_map]]
          refine go_mod (by omega) ?_
          obtain ⟨j, ej⟩ : ∃ j : Nat, ((sd * 69621 + 12345 + ((k : Nat) : Int)) % 1000003 % ((rest.length : Nat) : Int)) = (j : Nat) := ⟨((sd * 69621 + 12345 + ((k : Nat) : Int)) % 1000003 % ((rest.length : Nat) : Int)).toNat, by
            have := Int.emod_nonneg ((sd * 69621 + 12345 + ((k : Nat) : Int)) % 1000003) (show ((rest.length : Nat) : Int) ≠ 0 by omega)
            omega⟩
          have hj : j < rest.length := by
            have := Int.emod_lt_of_pos ((sd * 69621 + 12345 + ((k : Nat) : Int)) % 1000003) (show (0 : Int) < ((rest.length : Nat) : Int) by omega)
            omega
          rw [ej]
          walk_at "st"
          refine go_popAt (y := (rest[j]).w) q4 (by omega) (by omega) (by rw [Int.toNat_natCast, List.getElem?_map, List.getElem?_eq_getElem hj]; rfl) ?_
          rw [Int.toNat_natCast]
          walk_at "st"
          refine ⟨_, _, ⟨rest.eraseIdx j, wrs ++ [(f, rest[j])], _, ?_, by rw [List.length_append, l2]; rfl, ?_, rfl, rfl⟩, by walk_at "sub", ?_⟩
          · rw [List.length_eraseIdx_of_lt hj]; omega
          · refine List.Perm.trans ?_ pm
            rw [endsW_app, List.append_assoc]
            refine List.Perm.append_left _ ?_
            show (f :: rest[j] :: rest.eraseIdx j).Perm (f :: rest)
            exact List.Perm.cons _ (perm_erase rest j hj)
          · intro a o e
            by_cases a6 : a = p6
            · subst a6; rw [updW_same] at e ⊢; rw [← e, List.map_append]; rfl
            · rw [updW_ne a6] at e ⊢
              by_cases a4 : a = p4
              · subst a4; rw [updW_same] at e ⊢
                rw [← e]
                congr 2
                exact map_erase _ _ _
              · rw [updW_ne a4] at e ⊢
                rw [eg1, updW_ne a6, updW_ne a4]; exact e
      · rintro ρ' h' ⟨ps, wrs, sd, l1, l2, pm, rfl, rfl⟩
        rw [Int.toNat_natCast, Nat.sub_self, Nat.mul_zero] at l1
        have := List.eq_nil_of_length_eq_zero l1
        subst this
        rw [List.append_nil] at pm
        walk_at "st"
        have r := q ags1 wrs ⟨big.hd, big.tl, big.ok, big.l2, big.l14, pm, big.sm, big.d64⟩
        refine .mk r (.tup (.cons (.lst (ws := ags1.map Ag.w) ?_ hp1 (.same _)) (.cons (.lst (ws := wrs.map wrW) ?_ ?_ (.same _)) .nil))) ?_
        · rw [updW_ne n61, updW_ne n41]; exact hp11
        · rw [updW_same]
        · exact sb1.none hp6'
        · exact Sub.updN (Sub.updN sb1 (sb1.none hp4)) (sb1.none hp6')
end

/-! ## the law's peers, what it reaches -/
def spLawPeer : SpW := fun ws h R _ => ∃ (wrs : List Wr) (p : NP), ws = [.lst (wrs.map wrW), p.w] ∧ R (opW (peerL wrs p)) h
def spLawReach : SpW := fun ws h R _ => ∃ (ags : List Ag) (wrs : List Wr) (es : Es), ws = [.lst (ags.map Ag.w), .lst (wrs.map wrW)] ∧ DrN ags wrs ∧ endsE ags wrs = some es ∧ R (.lst (natW (reachE es 0))) h
theorem NP.dep (p : NP) : depW p.w ≤ 64 := by simp [NP.w, depW, depsW]
def addO (ns : List Nat) (o : Option NP) : List Nat := match o with | some q => if q.1 ∈ ns then ns else ns ++ [q.1] | none => ns
theorem rowN_snoc (ns : List Nat) (l : List (Option NP)) (o : Option NP) : rowN ns (l ++ [o]) = addO (rowN ns l) o := by
  rw [rowN_app]
  cases o <;> rfl
theorem nat_any (ns : List Nat) (x : Nat) : ((natW ns).any fun z => eqF z (.int ((x : Nat) : Int))) = decide (x ∈ ns) := by
  unfold natW
  rw [List.any_map, Bool.eq_iff_iff, List.any_eq_true, decide_eq_true_eq]
  constructor
  · rintro ⟨y, hy, e⟩
    have : ((y : Nat) : Int) = (x : Nat) := of_decide_eq_true e
    rw [show x = y by omega]; exact hy
  · exact fun h => ⟨x, h, decide_eq_true rfl⟩
theorem nat_flat (ns : List Nat) : (natW ns).all flatW = true := by
  unfold natW; rw [List.all_map]; exact List.all_eq_true.mpr fun _ _ => rfl
section
variable {P : Program} {w : World} {K : PySem.W.Frag} {mg : Str → Option Value} {base : Heap}
theorem ok__law_peer (T : Tx P w K mg) : FnOk P w K mg base CX0 1 T.a__law_peer T.fd__law_peer ["wires", "end"] (lSp K spLawPeer) := by
  refine fnW T.F__law_peer sc__law_peer (fun ws h R ex ⟨_, _, e, _⟩ => by rw [e]; rfl) fun cdv A outer s H E hr => ⟨_, (wss_cons (ws_for PassesOwn.never rfl (wi_list (w_var 0)) (wg_name (i := 2) sc__law_peer.nd) (wss_cons (ws_if (wt_cmp (ow_eq hr.units) lf_eq (w_ix (w_var 2) w_int) (w_var 1) (nomark _)) (wss_one (ws_ret (w_ix (w_var 2) w_int))) wss_nil)
    (wss_one (ws_if (wt_cmp (ow_eq hr.units) lf_eq (w_ix (w_var 2) w_int) (w_var 1) (nomark _)) (wss_one (ws_ret (w_ix (w_var 2) w_int))) wss_nil))))
    (wss_one (ws_ret w_non))), fun ws h R ex ⟨wrs, p, e, q⟩ => ?_⟩
  subst e
  walk_at "st"
  refine go_forL (wrs.map wrW) (fun R q => by walk_at "st"; exact q)
    (fun i ρ' h' => peerL wrs p = peerL (wrs.drop i) p ∧ ρ' = [some (.lst (wrs.map wrW)), some p.w, none] ∧ h' = h) (.of ⟨rfl, rfl, rfl⟩) ?_ ?_
  · rintro i w ρ' h' hw ⟨ep, rfl, rfl⟩
    rw [List.getElem?_map] at hw
    obtain ⟨⟨a, b⟩, hwr, rfl⟩ := Option.map_eq_some_iff.mp hw
    have hd : wrs.drop i = (a, b) :: wrs.drop (i + 1) := by
      obtain ⟨l, e⟩ := List.getElem?_eq_some_iff.mp hwr
      rw [List.drop_eq_getElem_cons l, e]
    rw [hd, peerL] at ep
    unfold wrW
    walk_at "st"
    refine go_eqD (NP.data a) (NP.data p) (NP.dep a) (NP.dep p) ?_
    rw [eqD_dec (NP.plain a) (NP.plain p) (a = p) NP.w_inj]
    refine go_dec (fun c => ?_) fun c => ?_
    · rw [if_pos c] at ep
      rw [ep] at q
      walk_at "st"
      exact .base q (.refl _)
    rw [if_neg c] at ep
    walk_at "st"
    refine go_eqD (NP.data b) (NP.data p) (NP.dep b) (NP.dep p) ?_
    rw [eqD_dec (NP.plain b) (NP.plain p) (b = p) NP.w_inj]
    refine go_dec (fun c => ?_) fun c => ?_
    · rw [if_pos c] at ep
      rw [ep] at q
      walk_at "st"
      exact .base q (.refl _)
    rw [if_neg c] at ep
    walk_at "st"
    exact ⟨_, _, ⟨ep, rfl, rfl⟩, by walk_at "sub", .refl _⟩
  · rintro ρ' h' ⟨ep, rfl, rfl⟩
    rw [List.length_map, List.drop_length] at ep
    rw [ep] at q
    walk_at "st"
    exact .base q (.refl _)
theorem ok__law_reach (T : Tx P w K mg) : FnOk P w K mg base CX0 2 T.a__law_reach T.fd__law_reach ["agents", "wires"] (lSp K spLawReach) := by
  refine fnW T.F__law_reach sc__law_reach (fun ws h R ex ⟨_, _, _, e, _⟩ => by rw [e]; rfl) fun cdv A outer s H E hr => ⟨_, (wss_cons (ws_setLcN (i := 2) (x := "k") (j := 4) rfl sc__law_reach.nd rfl rfl (sw_true rfl rfl rfl (by decide +kernel)) (wi_range1 (by rfl) T.m_range (wa_cons (w_callB call_len lf_len (by rfl) T.m_len (by decide +kernel) (wa_cons (w_var 0) wa_nil)) wa_nil)) (blkOk_by (N := N__law_reach) (sc := defScope s__law_reach) (by decide +kernel)) (fun _ _ _ _ _ => pg_name (i := 4) sc__law_reach.nd rfl (Or.inl rfl)) (fun _ _ _ _ _ => (wts_one (wt_cmp (ow_eq hr.units) lf_eq (w_ix (w_ix (w_var 0) (w_var 4)) w_int) (w_str z_root) (nomark _)))) (fun _ _ _ _ _ => (w_var 4)))
    (wss_cons (ws_for PassesOwn.never rfl (wi_range1 (by rfl) T.m_range (wa_cons (w_callB call_len lf_len (by rfl) T.m_len (by decide +kernel) (wa_cons (w_var 0) wa_nil)) wa_nil)) (wg_name (i := 3) sc__law_reach.nd) (wss_one (ws_if (wt_cmp (rw := ltW) op_lt lf_cmp (w_var 3) (w_callB call_len lf_len (by rfl) T.m_len (by decide +kernel) (wa_cons (w_var 2) wa_nil)) (nomark _)) (wss_cons (ws_set (i := 5) sc__law_reach.nd (w_ix (w_var 2) (w_var 3)))
    (wss_one (ws_for PassesOwn.never rfl (wi_range1 (by rfl) T.m_range (wa_cons (w_call (ok__law_ports T) (hr.mono (by walk_at "rm")) (by rfl) T.g__law_ports T.F__law_ports.kp T.b__law_ports (wa_cons (w_ix (w_ix (w_var 0) (w_var 5)) w_int) wa_nil)) wa_nil)) (wg_name (i := 6) sc__law_reach.nd) (wss_one (ws_for PassesOwn.never rfl (wi_list (w_var 1)) (wg_name (i := 7) sc__law_reach.nd) (wss_cons (ws_if (wt_bool (ww_and (wt_cmp (ow_eq hr.units) lf_eq (w_ix (w_var 7) w_int) (w_tup (wa_cons (w_var 5) (wa_cons (w_var 6) wa_nil))) (nomark _)) (ww_and1 (wt_cmp ow_notIn lf_notIn (w_ix (w_ix (w_var 7) w_int) w_int) (w_var 2) (by rfl))))) (wss_one (ws_expr (w_bm PySem.F.plainAttrs_list PySem.F.slot_list_append PySem.F.type_list_append mt_append tyL_ok lf_append (w_var 2) (wa_cons (w_ix (w_ix (w_var 7) w_int) w_int) wa_nil)))) wss_nil)
    (wss_one (ws_if (wt_bool (ww_and (wt_cmp (ow_eq hr.units) lf_eq (w_ix (w_var 7) w_int) (w_tup (wa_cons (w_var 5) (wa_cons (w_var 6) wa_nil))) (nomark _)) (ww_and1 (wt_cmp ow_notIn lf_notIn (w_ix (w_ix (w_var 7) w_int) w_int) (w_var 2) (by rfl))))) (wss_one (ws_expr (w_bm PySem.F.plainAttrs_list PySem.F.slot_list_append PySem.F.type_list_append mt_append tyL_ok lf_append (w_var 2) (wa_cons (w_ix (w_ix (w_var 7) w_int) w_int) wa_nil)))) wss_nil)))))))) wss_nil)))
    (wss_one (ws_ret (w_var 2))))), fun ws h R ex ⟨ags, wrs, es, e, dn, ee, q⟩ => ?_⟩
  subst e
  have l14 := dn.l14
  have l2 := dn.l2
  have nd : (endsW wrs).Nodup := dn.pm.nodup_iff.mpr (portsK_nodup _ _)
  have eo := endsE_some ee
  have ge := eo.good
  have ln := eo.len
  have tm : ∀ p ∈ endsW wrs, p.1 < ags.length := fun p hp => portN_lt (eo.t p hp)
  walk_at "st"
  refine go_lcNG (List.range ags.length) (fun k => W.int ((k : Nat) : Int)) (fun k => decide (k = 0)) (fun P q => go_rng1 ags.length (fun RA q => by walk_at "st"; rw [List.length_map]; exact q) (by omega) q) (by simp; omega) (fun k p acc RB hk _ r => ?_) (fun k p acc R' _ _ r => ?_) fun p1 hp1 => ?_
  · have hk2 : k < ags.length := List.mem_range.mp hk
    have ek : ags[k]? = some ags[k] := List.getElem?_eq_getElem hk2
    have e5 : atI (ags.map Ag.w) ((k : Nat) : Int) = some (ags[k]).w := atI_nat (by rw [List.getElem?_map, ek]; rfl)
    walk_at "st"
    unfold Ag.w
    walk_at "st"
    have : decide ((ags[k]).k.s = z_root) = decide (k = 0) := by
      rw [Bool.eq_iff_iff, decide_eq_true_eq, decide_eq_true_eq]
      have s : (ags[k]).k.s = z_root ↔ (ags[k]).k = .root := by cases (ags[k]).k <;> decide
      rw [s]
      constructor
      · intro z
        rcases Nat.eq_zero_or_pos k with y | y
        · exact y
        · exact absurd z (dn.tl k _ y ek)
      · rintro rfl
        have := dn.hd
        rw [ek] at this
        rw [Option.some.inj this]
    rw [this]
    exact r
  · walk_at "st"
    exact r
  rw [show (List.range ags.length).filter (fun k => decide (k = 0)) = [0] by
    obtain ⟨m, hm⟩ : ∃ m, ags.length = m + 1 := ⟨ags.length - 1, by omega⟩
    rw [hm, List.range_succ_eq_map, List.filter_cons]
    simp]
  walk_at "st"
  refine go_forR1 ags.length (fun RA q => by walk_at "st"; rw [List.length_map]; exact q) (by omega)
    (fun i ρ' h' => ∃ ns, RowOk es ns ∧ reachN es (es.length - i) i ns = reachE es 0 ∧ ρ' = [some (.lst (ags.map Ag.w)), some (.lst (wrs.map wrW)), some (.ref p1), none, none, none, none, none] ∧ h' = updW h p1 (.lst (natW ns)))
    (.of ⟨[0], ⟨by simp, by intro x hx; rw [List.mem_singleton.mp hx]; omega⟩, rfl, rfl, rfl⟩) ?_ ?_
  · rintro i ρ' h' hi ⟨ns, rk, er, rfl, rfl⟩
    rw [Int.toNat_natCast] at hi
    have lb := nodup_lt _ ns rk.nd rk.lt
    have lnn : (natW ns).length = ns.length := by unfold natW; rw [List.length_map]
    walk_at "st"
    rw [lnn]
    refine go_dec (fun c => ?_) fun c => ?_
    · have hin : i < ns.length := by omega
      obtain ⟨hre, en⟩ : ∃ hre, ns[i]? = some hre := ⟨_, List.getElem?_eq_getElem hin⟩
      have hlt : hre < es.length := rk.lt _ (List.mem_of_getElem? en)
      obtain ⟨l, el⟩ : ∃ l, es[hre]? = some l := ⟨_, List.getElem?_eq_getElem hlt⟩
      obtain ⟨ag, ea⟩ : ∃ ag, ags[hre]? = some ag := ⟨_, List.getElem?_eq_getElem (by omega)⟩
      have e4 : atI (natW ns) ((i : Nat) : Int) = some (.int (hre : Nat)) := atI_nat (by unfold natW; rw [List.getElem?_map, en]; rfl)
      have e5 : atI (ags.map Ag.w) ((hre : Nat) : Int) = some ag.w := atI_nat (by rw [List.getElem?_map, ea]; rfl)
      have gf : ∀ q, some q ∈ l → q.1 < es.length := ge.r _ (List.mem_of_getElem? el)
      have pn : portN ags hre = ag.k.ports := by unfold portN; rw [ea]
      have ll := eo.at el
      have p3 : portN ags hre ≤ 3 := by rw [pn]; cases ag.k <;> decide
      have pl : ∀ j, j < portN ags hre → l[j]? = some (peerL wrs (hre, j)) := fun j hj => by
        have := (eo.g (hre, j) hj).1
        unfold getE at this
        rw [el] at this
        exact this
      have er2 : reachN es (es.length - (i + 1)) (i + 1) (rowN ns l) = reachE es 0 := by
        rw [← er, show es.length - i = (es.length - (i + 1)) + 1 by omega]
        conv => rhs; unfold reachN
        rw [en]
        dsimp only
        rw [el]; rfl
      walk_at "st"
      dsimp only [EndsW.wn]
      refine go_forR1 (portN ags hre) (fun RA q => by walk_at "st"; unfold Ag.w; walk_at "st"; exact ⟨_, rfl, by walk_at "st"; rw [← pn]; exact q⟩) (by omega)
        (fun j ρ' h' => ∃ ms, ms = rowN ns (l.take j) ∧ ρ' = [some (.lst (ags.map Ag.w)), some (.lst (wrs.map wrW)), some (.ref p1), none, none, some (.int (hre : Nat)), none, none] ∧ h' = updW h p1 (.lst (natW ms)))
        ⟨_, _, ⟨ns, rfl, rfl, rfl⟩, by walk_at "sub", .refl _⟩ ?_ ?_
      · rintro j ρ' h' hj ⟨ms, ems, rfl, rfl⟩
        rw [Int.toNat_natCast] at hj
        have rm : RowOk es ms := by rw [ems]; exact rk.row _ _ fun p hp => gf p (List.mem_of_mem_take hp)
        have lm := nodup_lt _ ms rm.nd rm.lt
        have st : rowN ns (l.take (j + 1)) = addO ms (peerL wrs (hre, j)) := by
          rw [List.take_add_one, pl j hj, ems]; exact rowN_snoc _ _ _
        walk_at "st"
        refine go_forL (wrs.map wrW) (fun R q => by walk_at "st"; exact q)
          (fun k ρ' h' => ρ' = [some (.lst (ags.map Ag.w)), some (.lst (wrs.map wrW)), some (.ref p1), none, none, some (.int (hre : Nat)), some (.int (j : Nat)), none] ∧ h' = updW h p1 (.lst (natW (addO ms (peerL (wrs.take k) (hre, j))))))
          ⟨_, _, ⟨rfl, rfl⟩, by walk_at "sub", .refl _⟩ ?_ ?_
        · rintro k w ρ' h' hw ⟨rfl, rfl⟩
          rw [List.getElem?_map] at hw
          obtain ⟨⟨a, b⟩, hwr, rfl⟩ := Option.map_eq_some_iff.mp hw
          have tk : wrs.take (k + 1) = wrs.take k ++ [(a, b)] := by rw [List.take_add_one, hwr]; rfl
          have nd2 : (endsW (wrs.take k ++ [(a, b)])).Nodup := by
            rw [← tk]
            have nd5 := nd
            rw [← List.take_append_drop (k + 1) wrs, endsW_app] at nd5
            exact (List.nodup_append.mp nd5).1
          rw [endsW_app] at nd2
          obtain ⟨_, nd3, nd4⟩ := List.nodup_append.mp nd2
          have ab : a ≠ b := fun z => by simp [endsW, z] at nd3
          have na : a ∉ endsW (wrs.take k) := fun z => nd4 a z a (by simp [endsW]) rfl
          have nb : b ∉ endsW (wrs.take k) := fun z => nd4 b z b (by simp [endsW]) rfl
          obtain ⟨xs, exs⟩ : ∃ xs, xs = addO ms (peerL (wrs.take k) (hre, j)) := ⟨_, rfl⟩
          have nxt : addO ms (peerL (wrs.take (k + 1)) (hre, j)) = if a = (hre, j) then addO ms (some b) else if b = (hre, j) then addO ms (some a) else xs := by
            rw [tk, peerL_app, exs]
            by_cases c : a = (hre, j)
            · rw [if_pos c, peerL_none.mpr (by rw [← c]; exact na)]
              simp [peerL, c]
            · rw [if_neg c]
              by_cases d : b = (hre, j)
              · rw [if_pos d, peerL_none.mpr (by rw [← d]; exact nb)]
                simp [peerL, c, d]
              · rw [if_neg d]
                cases peerL (wrs.take k) (hre, j) with
                | some q => rfl
                | none => simp [peerL, c, d]
          have xs0 : (a = (hre, j) ∨ b = (hre, j)) → xs = ms := fun z => by
            rw [exs, peerL_none.mpr]
            · rfl
            · rcases z with z | z
              · rw [← z]; exact na
              · rw [← z]; exact nb
          rw [← exs]
          rw [show wrW (a, b) = .tup [a.w, b.w] from rfl]
          walk_at "st"
          rw [show W.tup [.int ((hre : Nat) : Int), .int ((j : Nat) : Int)] = NP.w (hre, j) from rfl]
          refine go_eqD (NP.data a) (NP.data (hre, j)) (NP.dep a) (NP.dep (hre, j)) ?_
          rw [eqD_dec (NP.plain a) (NP.plain (hre, j)) (a = (hre, j)) NP.w_inj]
          have xf := nat_flat xs
          have hxs : updW h p1 (.lst (natW xs)) p1 = some (.lst (natW xs)) := updW_same
          have lxs : (natW xs).length ≤ 16000000 := by
            have : xs.length ≤ ms.length + 1 := by
              rw [exs]; unfold addO
              split
              · split
                · omega
                · rw [List.length_append, List.length_singleton]; omega
              · omega
            unfold natW; rw [List.length_map]; omega
          refine go_dec (fun c => ?_) fun c => ?_
          · rw [if_pos c] at nxt
            have e0 := xs0 (.inl c)
            have bn : ¬ b = (hre, j) := fun z => ab (by rw [c, z])
            walk_at "st"
            refine go_ixT (xs := [.int (b.1 : Nat), .int (b.2 : Nat)]) rfl ?_
            walk_at "st"
            refine go_notInO hxs rfl xf ?_
            rw [nat_any]
            refine go_ndec (fun c2 => ?_) fun c2 => ?_
            · walk_at "st"
              refine go_ixT (xs := [.int (b.1 : Nat), .int (b.2 : Nat)]) rfl ?_
              walk_at "st"
              rw [show W.tup [.int ((hre : Nat) : Int), .int ((j : Nat) : Int)] = NP.w (hre, j) from rfl]
              refine go_eqD (NP.data b) (NP.data (hre, j)) (NP.dep b) (NP.dep (hre, j)) ?_
              rw [eqD_dec (NP.plain b) (NP.plain (hre, j)) (b = (hre, j)) NP.w_inj, decide_eq_false bn]
              walk_at "stc"
              refine ⟨_, _, ⟨rfl, rfl⟩, by walk_at "sub", ?_⟩
              rw [updW_upd, nxt, show addO ms (some b) = xs ++ [b.1] by unfold addO; dsimp only; rw [← e0, if_neg c2], show natW (xs ++ [b.1]) = natW xs ++ [.int (b.1 : Nat)] by unfold natW; rw [List.map_append]; rfl]
              exact .refl _
            · walk_at "st"
              rw [show W.tup [.int ((hre : Nat) : Int), .int ((j : Nat) : Int)] = NP.w (hre, j) from rfl]
              refine go_eqD (NP.data b) (NP.data (hre, j)) (NP.dep b) (NP.dep (hre, j)) ?_
              rw [eqD_dec (NP.plain b) (NP.plain (hre, j)) (b = (hre, j)) NP.w_inj, decide_eq_false bn]
              walk_at "stc"
              refine ⟨_, _, ⟨rfl, rfl⟩, by walk_at "sub", ?_⟩
              rw [nxt, show addO ms (some b) = xs by unfold addO; dsimp only; rw [← e0, if_pos c2]]
              exact .refl _
          · rw [if_neg c] at nxt
            walk_at "st"
            rw [show W.tup [.int ((hre : Nat) : Int), .int ((j : Nat) : Int)] = NP.w (hre, j) from rfl]
            refine go_eqD (NP.data b) (NP.data (hre, j)) (NP.dep b) (NP.dep (hre, j)) ?_
            rw [eqD_dec (NP.plain b) (NP.plain (hre, j)) (b = (hre, j)) NP.w_inj]
            refine go_dec (fun d => ?_) fun d => ?_
            · rw [if_pos d] at nxt
              have e0 := xs0 (.inr d)
              walk_at "st"
              refine go_ixT (xs := [.int (a.1 : Nat), .int (a.2 : Nat)]) rfl ?_
              walk_at "st"
              refine go_notInO hxs rfl xf ?_
              rw [nat_any]
              refine go_ndec (fun c2 => ?_) fun c2 => ?_
              · walk_at "st"
                refine go_ixT (xs := [.int (a.1 : Nat), .int (a.2 : Nat)]) rfl ?_
                walk_at "st"
                refine ⟨_, _, ⟨rfl, rfl⟩, by walk_at "sub", ?_⟩
                rw [updW_upd, nxt, show addO ms (some a) = xs ++ [a.1] by unfold addO; dsimp only; rw [← e0, if_neg c2], show natW (xs ++ [a.1]) = natW xs ++ [.int (a.1 : Nat)] by unfold natW; rw [List.map_append]; rfl]
                exact .refl _
              · walk_at "st"
                refine ⟨_, _, ⟨rfl, rfl⟩, by walk_at "sub", ?_⟩
                rw [nxt, show addO ms (some a) = xs by unfold addO; dsimp only; rw [← e0, if_pos c2]]
                exact .refl _
            · rw [if_neg d] at nxt
              walk_at "st"
              refine ⟨_, _, ⟨rfl, rfl⟩, by walk_at "sub", ?_⟩
              rw [nxt]
              exact .refl _
        · rintro ρ' h' ⟨rfl, rfl⟩
          rw [List.length_map, List.take_length]
          exact ⟨_, _, ⟨_, st.symm, rfl, rfl⟩, by walk_at "sub", .refl _⟩
      · rintro ρ' h' ⟨ms, ems, rfl, rfl⟩
        rw [Int.toNat_natCast, ← ll, List.take_length] at ems
        subst ems
        exact ⟨_, _, ⟨_, rk.row _ _ gf, er2, rfl, rfl⟩, by walk_at "sub", .refl _⟩
    · walk_at "st"
      refine ⟨_, _, ⟨ns, rk, ?_, rfl, rfl⟩, by walk_at "sub", .refl _⟩
      rw [← er, show es.length - i = (es.length - (i + 1)) + 1 by omega]
      conv => rhs; unfold reachN
      rw [List.getElem?_eq_none (by omega)]
      dsimp only
      cases es.length - (i + 1) with
      | zero => rfl
      | succ f => unfold reachN; rw [List.getElem?_eq_none (by omega)]
  · rintro ρ' h' ⟨ns, rk, er, rfl, rfl⟩
    rw [Int.toNat_natCast, ← ln, Nat.sub_self] at er
    walk_at "st"
    refine .frL updW_same ?_ hp1 (.new hp1)
    rw [show ns = reachE es 0 from er]
    exact q
end

/-! ## a net with a fault -/
def Flt (ags : List Ag) (wrs : List Wr) (d : Nat) (ags' : List Ag) (wrs' : List Wr) : Prop :=
  (if 1 ≤ d % 16 ∧ d % 16 ≤ 8 then netE ags' wrs' = none else ags' = ags ∧ wrs' = wrs) ∧ ags'.length ≤ 60 ∧ wrs'.length ≤ 100000 ∧ ∀ a ∈ ags', a.Dr
def spFaulty : SpW := fun ws h R _ => ∃ (ags : List Ag) (wrs : List Wr) (d : Nat), ws = [.lst (ags.map Ag.w), .lst (wrs.map wrW), .int (d : Nat)] ∧ DrN ags wrs ∧
  ∀ ags' wrs', Flt ags wrs d ags' wrs' → R (.tup [.lst (ags'.map Ag.w), .lst (wrs'.map wrW)]) h
theorem netE_ends {ags : List Ag} {wrs : List Wr} (h : endsE ags wrs = none) : netE ags wrs = none := by
  unfold netE; rw [h]; split <;> rfl
theorem netE_ags {ags : List Ag} {wrs : List Wr} (h : agsOk ags = false) : netE ags wrs = none := by
  unfold netE; rw [h]; rfl
theorem agsOk_bad {ags : List Ag} {a : Ag} (h : a ∈ ags) (b : a.ok = false) : agsOk ags = false := by
  unfold agsOk
  cases c : ags.all fun a => a.ok with
  | false => rfl
  | true => have := List.all_eq_true.mp c a h; rw [b] at this; cases this
theorem agsOk_roots {ags : List Ag} (h : rootsN ags ≠ 1) : agsOk ags = false := by
  unfold agsOk; rw [decide_eq_false h, Bool.and_false]
theorem rootsN_app (a b : List Ag) : rootsN (a ++ b) = rootsN a + rootsN b := by
  unfold rootsN; rw [List.filter_append, List.length_append]
theorem rootsN_zero {ags : List Ag} (h : ∀ a ∈ ags, a.k ≠ .root) : rootsN ags = 0 := by
  unfold rootsN
  rw [List.length_eq_zero_iff, List.filter_eq_nil_iff]
  exact fun a ha z => h a ha (of_decide_eq_true z)
section
variable {ags : List Ag} {wrs : List Wr}
theorem DrN.split (k : DrN ags wrs) : ∃ r, ags = ⟨.root, 0, .non⟩ :: r ∧ r ≠ [] ∧ ∀ a ∈ r, a.k ≠ .root := by
  cases ags with
  | nil => have := k.l2; simp at this
  | cons a r =>
    have := k.hd
    rw [List.getElem?_cons_zero] at this
    refine ⟨r, by rw [Option.some.inj this], fun z => ?_, fun b hb => ?_⟩
    · subst z; have := k.l2; simp at this
    · obtain ⟨i, hi, e⟩ := List.mem_iff_getElem.mp hb
      exact k.tl (i + 1) b (Nat.succ_pos _) (by rw [List.getElem?_cons_succ, List.getElem?_eq_getElem hi, e])
theorem DrN.good (k : DrN ags wrs) : agsOk ags = true := by
  obtain ⟨r, e, _, hr⟩ := k.split
  unfold agsOk
  rw [Bool.and_eq_true, List.all_eq_true, decide_eq_true_eq]
  refine ⟨fun a ha => (k.ok a ha).1, ?_⟩
  rw [e, show (⟨.root, 0, .non⟩ : Ag) :: r = [⟨.root, 0, .non⟩] ++ r from rfl, rootsN_app, rootsN_zero hr]
  rfl
theorem DrN.wl (k : DrN ags wrs) : wrs.length ≤ 30 ∧ 0 < wrs.length := by
  have e := k.pm.length_eq
  have : (endsW wrs).length = 2 * wrs.length := by
    clear e k
    induction wrs with
    | nil => rfl
    | cons w ws ih => rw [endsW_cons, List.length_cons, List.length_cons, ih, List.length_cons]; omega
  rw [this, portsL_len] at e
  have up : ∀ l : List Ag, (l.map fun a => a.k.ports).sum ≤ 3 * l.length ∧ l.length ≤ (l.map fun a => a.k.ports).sum := fun l => by
    induction l with
    | nil => exact ⟨Nat.le_refl _, Nat.le_refl _⟩
    | cons a l ih =>
      rw [List.map_cons, List.sum_cons, List.length_cons]
      have : a.k.ports ≤ 3 ∧ 1 ≤ a.k.ports := by cases a.k <;> decide
      omega
  have := up ags
  have := k.l14
  have := k.l2
  omega
/-- a port that no wire ends at, one that two end at, one that is none -/
theorem ends_less (k : DrN ags wrs) {at_ : Nat} (h : at_ < wrs.length) : endsE ags (wrs.take at_ ++ wrs.drop (at_ + 1)) = none := by
  cases e : endsE ags (wrs.take at_ ++ wrs.drop (at_ + 1)) with
  | none => rfl
  | some es =>
    have eo := endsE_some e
    have nd : (endsW wrs).Nodup := k.pm.nodup_iff.mpr (portsK_nodup _ _)
    have sp : wrs = wrs.take at_ ++ wrs[at_] :: wrs.drop (at_ + 1) := by
      conv => lhs; rw [← List.take_append_drop at_ wrs]
      rw [List.drop_eq_getElem_cons h]
    have mem : wrs[at_].1 ∈ endsW wrs := by
      unfold endsW
      rw [List.mem_flatMap]
      exact ⟨wrs[at_], List.getElem_mem h, List.mem_cons_self⟩
    have hp := mem_portsL.mp (k.pm.mem_iff.mp mem)
    have := (eo.g _ hp).2
    rw [Ne, peerL_none] at this
    refine absurd (fun z => ?_) this
    rw [sp, endsW_app, endsW_cons] at nd
    rw [endsW_app] at z
    obtain ⟨n1, n2, n3⟩ := List.nodup_append.mp nd
    rcases List.mem_append.mp z with z | z
    · exact n3 _ z _ List.mem_cons_self rfl
    · exact (List.nodup_cons.mp n2).1 (List.mem_cons_of_mem _ z)
theorem ends_more {w : Wr} (h : ∀ es, WInv (initE ags) es wrs → opnE es w.1 = false) : endsE ags (wrs ++ [w]) = none := by
  unfold endsE
  rw [wiresE_app]
  cases e : wiresE (initE ags) wrs with
  | none => rfl
  | some es =>
    have := WInv.all (clean_init ags) wrs (.nil _) e
    rw [List.nil_append] at this
    have := h es this
    rw [Option.bind_some, wiresE]
    unfold wireE
    rw [this]
    simp
theorem flt1 (k : DrN ags wrs) {d : Nat} (e : d % 16 = 1) : Flt ags wrs d ags (wrs.take (d / 16 % wrs.length) ++ wrs.drop (d / 16 % wrs.length + 1)) := by
  have wl := k.wl
  have := k.l14
  refine ⟨by rw [if_pos (by omega)]; exact netE_ends (ends_less k (Nat.mod_lt _ wl.2)), by omega, ?_, fun a ha => (k.ok a ha).2.1⟩
  rw [List.length_append, List.length_take, List.length_drop]; omega
theorem flt2 (k : DrN ags wrs) {d : Nat} {w : Wr} (hw : w ∈ wrs) (e : d % 16 = 2) : Flt ags wrs d ags (wrs ++ [w]) := by
  have wl := k.wl
  have := k.l14
  refine ⟨by
    rw [if_pos (by omega)]
    refine netE_ends (ends_more fun es inv => ?_)
    cases c : opnE es w.1 with
    | false => rfl
    | true =>
      refine absurd ?_ ((inv.opn (clean_init ags)).mp c).2
      unfold endsW
      rw [List.mem_flatMap]
      exact ⟨w, hw, List.mem_cons_self⟩, by omega, ?_, fun a ha => (k.ok a ha).2.1⟩
  rw [List.length_append, List.length_singleton]; omega
theorem flt3 (k : DrN ags wrs) {d : Nat} (e : d % 16 = 3) : Flt ags wrs d ags (wrs ++ [((ags.length, 0), (0, 5))]) := by
  have wl := k.wl
  have := k.l14
  have no : ∀ es, WInv (initE ags) es wrs → opnE es (ags.length, 0) = false := fun es inv => by
    cases c : opnE es (ags.length, 0) with
    | false => rfl
    | true =>
      have z := ((inv.opn (clean_init ags)).mp c).1
      rw [getE_init] at z
      split at z
      · rename_i q
        exact absurd (portN_lt q) (Nat.lt_irrefl _)
      · exact nomatch z
  refine ⟨by rw [if_pos (by omega)]; exact netE_ends (ends_more no), by omega, ?_, fun a ha => (k.ok a ha).2.1⟩
  rw [List.length_append, List.length_singleton]; omega
theorem flt4 (k : DrN ags wrs) {d : Nat} (e : d % 16 = 4) : Flt ags wrs d (⟨.lam, 0, .non⟩ :: ags.drop 1) wrs := by
  have wl := k.wl
  have := k.l14
  obtain ⟨r, er, _, hr⟩ := k.split
  refine ⟨by
    rw [if_pos (by omega)]
    refine netE_ags (agsOk_roots ?_)
    rw [rootsN_zero]
    · decide
    · intro a ha
      rw [er] at ha
      rcases List.mem_cons.mp ha with rfl | ha
      · exact fun z => by cases z
      · exact hr a ha, by rw [List.length_cons, List.length_drop]; omega, by omega, fun a ha => ?_⟩
  rcases List.mem_cons.mp ha with rfl | ha
  · exact trivial
  · exact (k.ok a (List.mem_of_mem_drop ha)).2.1
theorem flt5 (k : DrN ags wrs) {d : Nat} (e : d % 16 = 5) : Flt ags wrs d (ags ++ [⟨.root, 0, .non⟩, ⟨.num, 0, .int 1⟩]) (wrs ++ [((ags.length, 0), (ags.length + 1, 0))]) := by
  have wl := k.wl
  have := k.l14
  obtain ⟨r, er, _, hr⟩ := k.split
  refine ⟨by
    rw [if_pos (by omega)]
    refine netE_ags (agsOk_roots ?_)
    rw [rootsN_app, er, show (⟨.root, 0, .non⟩ : Ag) :: r = [⟨.root, 0, .non⟩] ++ r from rfl, rootsN_app, rootsN_zero hr]
    decide, by simp; omega, by simp; omega, fun a ha => ?_⟩
  rcases List.mem_append.mp ha with ha | ha
  · exact (k.ok a ha).2.1
  · simp only [List.mem_cons, List.not_mem_nil, or_false] at ha
    rcases ha with rfl | rfl <;> exact trivial
theorem flt6 (k : DrN ags wrs) {d : Nat} (e : d % 16 = 6) : Flt ags wrs d (ags ++ [⟨.num, 1, .int 1⟩, ⟨.num, 0, .int 1⟩]) (wrs ++ [((ags.length, 0), (ags.length + 1, 0))]) := by
  have wl := k.wl
  have := k.l14
  refine ⟨by
    rw [if_pos (by omega)]
    exact netE_ags (agsOk_bad (a := ⟨.num, 1, .int 1⟩) (by simp) rfl), by simp; omega, by simp; omega, fun a ha => ?_⟩
  rcases List.mem_append.mp ha with ha | ha
  · exact (k.ok a ha).2.1
  · simp only [List.mem_cons, List.not_mem_nil, or_false] at ha
    rcases ha with rfl | rfl <;> exact trivial
theorem flt7 (k : DrN ags wrs) {d : Nat} {a0 : Ag} (h0 : a0 ∈ ags) (e : d % 16 = 7) : Flt ags wrs d (a0 :: (ags.drop 1).map fun a => ⟨a.k, a.lv - 3, a.dt⟩) wrs := by
  have wl := k.wl
  have := k.l14
  obtain ⟨r, er, rn, hr⟩ := k.split
  refine ⟨by
    rw [if_pos (by omega)]
    cases r with
    | nil => exact absurd rfl rn
    | cons b r =>
      have hb : b ∈ ags := by rw [er]; simp
      refine netE_ags (agsOk_bad (a := ⟨b.k, b.lv - 3, b.dt⟩) (by rw [er]; simp) ?_)
      have lv := (k.ok b hb).2.2
      unfold Ag.ok
      rw [decide_eq_true (show b.lv - 3 < 0 by omega)]
      rfl, by rw [List.length_cons, List.length_map, List.length_drop]; omega, by omega, fun a ha => ?_⟩
  rcases List.mem_cons.mp ha with rfl | ha
  · exact (k.ok _ h0).2.1
  · obtain ⟨b, hb, rfl⟩ := List.mem_map.mp ha
    exact (k.ok b (List.mem_of_mem_drop hb)).2.1
theorem flt8 (k : DrN ags wrs) {d : Nat} (e : d % 16 = 8) : Flt ags wrs d (ags.take 1 ++ (ags.drop 1).map fun a => ⟨a.k, a.lv, .str 47⟩) wrs := by
  have wl := k.wl
  have := k.l14
  obtain ⟨r, er, rn, hr⟩ := k.split
  refine ⟨by
    rw [if_pos (by omega)]
    cases r with
    | nil => exact absurd rfl rn
    | cons b r =>
      refine netE_ags (agsOk_bad (a := ⟨b.k, b.lv, .str 47⟩) (by rw [er]; simp) ?_)
      have : Ag.dok ⟨b.k, b.lv, .str 47⟩ = false := by unfold Ag.dok; cases b.k <;> rfl
      unfold Ag.ok
      rw [this, Bool.and_false], by rw [List.length_append, List.length_take, List.length_map, List.length_drop]; omega, by omega, fun a ha => ?_⟩
  rcases List.mem_append.mp ha with ha | ha
  · exact (k.ok a (List.mem_of_mem_take ha)).2.1
  · obtain ⟨b, hb, rfl⟩ := List.mem_map.mp ha
    show Ag.Dr ⟨b.k, b.lv, .str 47⟩
    unfold Ag.Dr
    cases b.k <;> exact trivial
theorem flt0 (k : DrN ags wrs) {d : Nat} (e : ¬ (1 ≤ d % 16 ∧ d % 16 ≤ 8)) : Flt ags wrs d ags wrs := by
  have wl := k.wl
  have := k.l14
  exact ⟨by rw [if_neg e]; exact ⟨rfl, rfl⟩, by omega, by omega, fun a ha => (k.ok a ha).2.1⟩
end
section
variable {P : Program} {w : World} {K : PySem.W.Frag} {mg : Str → Option Value} {base : Heap}
end

/-! ## the pairs, what the root reaches: as the law has it -/
theorem peerL_ne {p q : NP} : ∀ {ws : List Wr}, (endsW ws).Nodup → peerL ws p = some q → p ≠ q
  | [], _, e => by simp [peerL] at e
  | w :: ws, nd, e => by
    rw [endsW_cons, List.nodup_cons, List.nodup_cons] at nd
    obtain ⟨n1, n2, n3⟩ := nd
    have ne : w.1 ≠ w.2 := fun z => n1 (by rw [z]; exact List.mem_cons_self)
    rw [peerL] at e
    by_cases c : w.1 = p
    · rw [if_pos c] at e; cases e; rw [← c]; exact ne
    · rw [if_neg c] at e
      by_cases d : w.2 = p
      · rw [if_pos d] at e; cases e; rw [← d]; exact ne.symm
      · rw [if_neg d] at e; exact peerL_ne n3 e
def prL (es : Es) : Nat → List NP
  | 0 => []
  | k + 1 => prL es k ++ (match headP es[k]? with | some q => if q.2 = 0 ∧ k < q.1 ∧ k ≠ 0 then [(k, q.1)] else [] | none => [])
theorem headP_get {es : Es} {k : Nat} {q : NP} : headP es[k]? = some q ↔ getE es (k, 0) = some (some q) := by
  unfold headP getE
  cases es[k]? with
  | none => simp
  | some l =>
    cases l with
    | nil => simp
    | cons o r => cases o <;> simp
theorem addP_end {ps : List NP} {p : NP} (h : ∀ q ∈ ps, ltP q p = true) : addP ps p = ps ++ [p] := by
  unfold addP
  rw [if_neg (fun z => by have := h p z; rw [ltP_irr] at this; cases this)]
  have e : placeP ps p = ps.length := by
    unfold placeP
    have : ∀ l : List NP, (∀ q ∈ l, ltP q p = true) → l.takeWhile (fun q => ltP q p) = l := fun l => by
      induction l with
      | nil => intro _; rfl
      | cons a l ih =>
        intro h
        rw [List.takeWhile_cons, if_pos (h a List.mem_cons_self), ih fun q hq => h q (List.mem_cons_of_mem _ hq)]
    rw [this ps h]
  rw [e, List.take_length, List.drop_length]
theorem prL_ok {ags : List Ag} {wrs : List Wr} {es : Es} (eo : EndsOk ags wrs es) (nd : (endsW wrs).Nodup) : ∀ k, k ≤ es.length →
    actN 0 es k = prL es k ∧ (∀ p ∈ prL es k, p.1 < k) ∧ ∀ a b, a < k → a ≠ 0 → a < b → getE es (a, 0) = some (some (b, 0)) → (a, b) ∈ prL es k
  | 0, _ => by
    refine ⟨rfl, ?_, fun a b h => absurd h (Nat.not_lt_zero _)⟩
    intro p hp
    exact nomatch hp
  | k + 1, hk => by
    obtain ⟨e, lt, cp⟩ := prL_ok eo nd k (by omega)
    have el : es[k]? = some es[k] := List.getElem?_eq_getElem (by omega)
    obtain ⟨q, r, el2⟩ := eo.head el
    have hq : headP es[k]? = some q := by rw [el, el2]; rfl
    have gq := headP_get.mp hq
    have st : actN 0 es (k + 1) = noteP 0 (actN 0 es k) (k, 0) q := by
      conv => lhs; unfold actN
      rw [hq]
    have st2 : prL es (k + 1) = prL es k ++ if q.2 = 0 ∧ k < q.1 ∧ k ≠ 0 then [(k, q.1)] else [] := by
      conv => lhs; unfold prL
      rw [hq]
    have port : ∀ {a : Nat} {b : NP}, getE es (a, 0) = some (some b) → peerL wrs (a, 0) = some b := fun {a b} z => by
      have : 0 < portN ags a := by
        unfold getE at z
        obtain ⟨l, hl, ho⟩ := Option.bind_eq_some_iff.mp z
        rw [← eo.at hl]
        exact (List.getElem?_eq_some_iff.mp ho).1
      have g := (eo.g (a, 0) this).1
      rw [z] at g
      exact (Option.some.inj g).symm
    have pq := port gq
    rw [st, st2, e]
    have last : ∀ a b, a < k + 1 → a ≠ 0 → a < b → getE es (a, 0) = some (some (b, 0)) → (a < k ∨ q = (b, 0) ∧ a = k) := fun a b h1 h2 h3 h4 => by
      by_cases c : a = k
      · subst c; rw [gq] at h4; exact .inr ⟨by injection h4 with h4; injection h4, rfl⟩
      · exact .inl (by omega)
    by_cases c : q.2 = 0 ∧ k < q.1 ∧ k ≠ 0
    · obtain ⟨c1, c2, c3⟩ := c
      rw [if_pos ⟨c1, c2, c3⟩]
      refine ⟨?_, fun p hp => ?_, fun a b h1 h2 h3 h4 => ?_⟩
      · unfold noteP
        rw [if_neg (by omega), Nat.min_eq_left (by omega), Nat.max_eq_right (by omega)]
        refine addP_end fun p hp => ?_
        have := lt p hp
        simp only [ltP, Bool.or_eq_true, decide_eq_true_eq]
        exact .inl this
      · rcases List.mem_append.mp hp with z | z
        · have := lt p z; omega
        · rw [List.mem_singleton.mp z]; exact Nat.lt_succ_self _
      · rcases last a b h1 h2 h3 h4 with z | ⟨z, rfl⟩
        · exact List.mem_append_left _ (cp a b z h2 h3 h4)
        · rw [z]; simp
    · rw [if_neg c, List.append_nil]
      refine ⟨?_, fun p hp => by have := lt p hp; omega, fun a b h1 h2 h3 h4 => ?_⟩
      · unfold noteP
        by_cases d : 0 < (k, 0).2 ∨ 0 < q.2 ∨ 0 = (k, 0).1 ∨ 0 = q.1
        · rw [if_pos d]
        · rw [if_neg d]
          have c1 : q.2 = 0 := by omega
          have qe : q = (q.1, 0) := Prod.ext rfl c1
          have k0 : k ≠ 0 := fun z => d (.inr (.inr (.inl z.symm)))
          have q0 : q.1 ≠ 0 := fun z => d (.inr (.inr (.inr z.symm)))
          have nk : q.1 ≠ k := fun z => peerL_ne nd pq (by rw [qe, z])
          have lt2 : q.1 < k := by omega
          have sy := peerL_sym nd pq
          rw [qe] at sy
          have pq0 : 0 < portN ags q.1 := by
            have : q ∈ endsW wrs := peerL_mem pq
            have := eo.t q this
            rw [c1] at this
            exact this
          have g2 := (eo.g (q.1, 0) pq0).1
          rw [sy] at g2
          have mem := cp q.1 k lt2 q0 lt2 g2
          unfold addP
          rw [if_pos (by rw [Nat.min_eq_right (by dsimp only; omega), Nat.max_eq_left (by dsimp only; omega)]; exact mem)]
      · rcases last a b h1 h2 h3 h4 with z | ⟨z, rfl⟩
        · exact cp a b z h2 h3 h4
        · exact absurd ⟨by rw [z], by rw [z]; exact h3, h2⟩ c
theorem reachN_ok {es : Es} (ge : GoodE es) : ∀ (f i : Nat) (ns : List Nat), RowOk es ns → RowOk es (reachN es f i ns)
  | 0, _, _, k => k
  | f + 1, i, ns, k => by
    unfold reachN
    cases e : ns[i]? with
    | none => exact k
    | some n =>
      dsimp only
      have hn := k.lt n (List.mem_of_getElem? e)
      rw [List.getElem?_eq_getElem hn]
      exact reachN_ok ge f (i + 1) _ (k.row _ _ (ge.r _ (List.getElem_mem hn)))
theorem reachE_len {es : Es} (ge : GoodE es) {root : Nat} (h : root < es.length) : (reachE es root).length ≤ es.length := by
  have := reachN_ok ge es.length 0 [root] ⟨by simp, by intro x hx; rw [List.mem_singleton.mp hx]; exact h⟩
  exact nodup_lt _ _ this.nd this.lt
theorem DrN.root {ags : List Ag} {wrs : List Wr} (k : DrN ags wrs) : rootIx ags = 0 := by
  obtain ⟨r, e, _, _⟩ := k.split
  rw [e]; rfl
theorem Ag.dok_of {a : Ag} (h : a.ok = true) : a.dok = true := by
  unfold Ag.ok at h
  rw [Bool.and_eq_true] at h
  exact h.2
theorem sgn_cases {c : Nat} (h : sgn c = true) : c = 43 ∨ c = 45 ∨ c = 42 := of_decide_eq_true h
theorem sk (s : List Nat) : PyData.strOk (mkS s) = s.all fun c => decide (c < 0x110000) := by
  unfold PyData.strOk
  rw [← Array.all_toList]; rfl
theorem str_data {s : List Nat} (h : ∀ c ∈ s, c < 1114112) : dataW (.str s) = true := by
  simp only [dataW]; rw [sk]; exact List.all_eq_true.mpr fun c hc => decide_eq_true (h c hc)
theorem AK.data (k : AK) : dataW (.str k.s) = true := str_data (by cases k <;> decide)
theorem Ag.data {a : Ag} (h : a.dok = true) : dataW a.w = true ∧ depW a.w ≤ 64 := by
  obtain ⟨k, lv, dt⟩ := a
  have ks := k.data
  have dd : dataW dt.w = true ∧ depW dt.w ≤ 1 := by
    cases dt with
    | non => exact ⟨rfl, by simp [AD.w, depW]⟩
    | int i => exact ⟨rfl, by simp [AD.w, depW]⟩
    | str c =>
      have hc : sgn c = true := by cases k <;> first | exact h | exact nomatch h
      exact ⟨str_data (by intro d hd; rw [List.mem_singleton.mp hd]; rcases sgn_cases hc with rfl | rfl | rfl <;> decide), by simp [AD.w, depW]⟩
    | tup c i =>
      have hc : sgn c = true := by cases k <;> first | exact h | exact nomatch h
      have := str_data (s := [c]) (by intro d hd; rw [List.mem_singleton.mp hd]; rcases sgn_cases hc with rfl | rfl | rfl <;> decide)
      refine ⟨?_, by simp [AD.w, depW, depsW]⟩
      simp only [AD.w, dataW, datasW, Bool.and_true] at this ⊢
      exact this
  refine ⟨?_, ?_⟩
  · simp only [Ag.w, dataW, datasW, dd.1, Bool.and_true] at ks ⊢
    exact ks
  · simp only [Ag.w, depW, depsW]; have := dd.2; omega

/-! ## the texts of numbers, data and agents -/
theorem decS_neg (n : Nat) (h : 0 < n) : decS (-((n : Nat) : Int)) = 45 :: decS ((n : Nat) : Int) := by
  obtain ⟨m, rfl⟩ : ∃ m, n = m + 1 := ⟨n - 1, by omega⟩
  have e : -(((m + 1 : Nat)) : Int) = Int.negSucc m := by omega
  rw [e]
  unfold decS
  rw [PyProof.Rows.signs_ofString, PyProof.Rows.signs_ofString]
  show (("-" ++ toString (m + 1) : String)).toList.map Char.toNat = 45 :: (toString (m + 1) : String).toList.map Char.toNat
  rw [String.toList_append, List.map_append]
  rfl
def spDecimal : SpW := fun ws h R _ => ∃ n : Int, ws = [.int n] ∧ n.natAbs ≤ 1000000000000000 ∧ R (.str (decS n)) h
section
variable {P : Program} {w : World} {K : PySem.W.Frag} {mg : Str → Option Value} {base : Heap}
theorem ok_decimal (T : Tx P w K mg) : FnOk P w K mg base CX0 1 T.a_decimal T.fd_decimal ["number"] (lSp K spDecimal) := by
  refine fnW T.F_decimal sc_decimal (fun ws h R ex ⟨_, e, _⟩ => by rw [e]; rfl) fun cdv A outer s H E hr => ⟨_, (wss_cons (ws_set (i := 1) sc_decimal.nd (w_callB call_abs lf_abs (by rfl) T.m_abs (by decide +kernel) (wa_cons (w_var 0) wa_nil)))
    (wss_cons (ws_set (i := 2) sc_decimal.nd (w_lstO wa_nil))
    (wss_cons (ws_while PassesOwn.never (wt_cmp (rw := geW) op_ge lf_cmp (w_var 1) (w_globI rfl T.c__CHUNK) (nomark _)) wss_never)
    (wss_cons (ws_expr (w_bm PySem.F.plainAttrs_list PySem.F.slot_list_append PySem.F.type_list_append mt_append tyL_ok lf_append (w_var 2) (wa_cons (w_callTy call_str_int lf_str (by rfl) T.m_str (by decide +kernel) (wa_cons (w_var 1) wa_nil)) wa_nil)))
    (wss_cons (ws_if (wt_cmp (rw := ltW) op_lt lf_cmp (w_var 0) w_int (nomark _)) (wss_one (ws_expr (w_bm PySem.F.plainAttrs_list PySem.F.slot_list_append PySem.F.type_list_append mt_append tyL_ok lf_append (w_var 2) (wa_cons (w_str z_x2d) wa_nil)))) wss_nil)
    (wss_one (ws_ret (w_bm PySem.F.plainAttrs_str PySem.F.slot_str_join PySem.F.type_str_join mt_join tyS_ok lf_join (w_str z_) (wa_cons (w_rev (w_var 2)) wa_nil))))))))), fun ws h R ex ⟨n, e, l1, q⟩ => ?_⟩
  subst e
  walk_at "st"
  intro p hp
  walk_at "st"
  refine go_while (fun m ρ' h' => ρ' = [some (.int n), some (.int (n.natAbs : Nat)), some (.ref p), none] ∧ h' = updW h p (.lst [])) ⟨0, .of ⟨rfl, rfl⟩⟩ ?_
  rintro m ρ' h' ⟨rfl, rfl⟩
  walk_at "st"
  refine go_dec (fun c => absurd c (by omega)) (fun _ => ?_)
  walk_at "st"
  refine go_str (l2 (by omega)) ?_
  have ln := decS_len' (i := ((n.natAbs : Nat) : Int)) (by omega)
  walk_at "st"
  rw [updW_upd]
  refine go_dec (fun c => ?_) (fun c => ?_)
  · walk_at "st"
    rw [updW_upd]
    refine go_revO updW_same ?_
    walk_at "st"
    refine go_join (ss := [z_x2d, decS ((n.natAbs : Nat) : Int)]) rfl (by simp; omega) ?_
    have : joinS z_ [z_x2d, decS ((n.natAbs : Nat) : Int)] = decS n := by
      have := decS_neg n.natAbs (by omega)
      rw [show -((n.natAbs : Nat) : Int) = n by omega] at this
      rw [this]; rfl
    rw [this]
    exact .base q (.new hp)
  · walk_at "st"
    refine go_revO updW_same ?_
    walk_at "st"
    refine go_join (ss := [decS ((n.natAbs : Nat) : Int)]) rfl (by simp; omega) ?_
    rw [show ((n.natAbs : Nat) : Int) = n by omega]
    exact .base q (.new hp)
end

def spOrder (C : Addr) : SpW := fun ws h R _ => ∃ (v : Addr) (g : NG) (s : NS), ws = [.ref v] ∧ NetAt C v g s h ∧ GoodE s.es ∧ s.root < s.es.length ∧ R (.lst (natW (reachE s.es s.root))) h
/-- the names with their numbers -/
def nums (ns : List Nat) : List (L2.Key × W) := (ns.zipIdx).map fun p => (.inl ((p.1 : Nat) : Int), .int ((p.2 : Nat) : Int))
def spNumbersOf (C : Addr) : SpW := fun ws h R _ => ∃ (v : Addr) (g : NG) (s : NS), ws = [.ref v] ∧ NetAt C v g s h ∧ GoodE s.es ∧ s.root < s.es.length ∧ ∀ d h', Sub h h' → h d = none → h' d = some (.dic (nums (reachE s.es s.root))) → R (.ref d) h'
def dataT : AD → List Nat
  | .non => [] | .int i => decS i | .str c => [c] | .tup c i => c :: decS i
def kindT (a : Ag) : List Nat := if a.k = .root ∨ a.k = .num then a.k.s else a.k.s ++ 47 :: decS a.lv
def eqT (d : AD) : List Nat := match d with | .non => [] | d => 61 :: dataT d
def headT (a : Ag) : List Nat := kindT a ++ eqT a.dt
def spDataText : SpW := fun ws h R _ => ∃ d : AD, ws = [d.w] ∧ d ≠ .non ∧ (match d with | .int i => SmI i | .tup _ i => SmI i | _ => True) ∧ R (.str (dataT d)) h
def wordT (num : Nat → Nat) (o : Option NP) : List Nat := match o with | some q => decS ((num q.1 : Nat) : Int) ++ 46 :: decS ((q.2 : Nat) : Int) | none => []
def partT (num : Nat → Nat) (a : Ag) (l : List (Option NP)) : List Nat := joinS [32] (headT a :: l.map (wordT num))
theorem nums_val (ns : List Nat) (nd : ns.Nodup) (x : Nat) (h : x ∈ ns) : valW (nums ns) (.inl ((x : Nat) : Int)) = some (.int ((ns.idxOf x : Nat) : Int)) := by
  have : ∀ (ns : List Nat) (i : Nat), x ∈ ns → valW ((ns.zipIdx i).map fun p => ((.inl ((p.1 : Nat) : Int) : L2.Key), W.int ((p.2 : Nat) : Int))) (.inl ((x : Nat) : Int)) = some (.int ((i + ns.idxOf x : Nat) : Int)) := fun ns => by
    induction ns with
    | nil => intro i h; cases h
    | cons n ns ih =>
      intro i h
      rw [List.zipIdx_cons, List.map_cons]
      unfold valW
      rw [List.find?_cons]
      by_cases e : n = x
      · subst e
        simp
      · have ih := ih (i + 1) (by rcases List.mem_cons.mp h with z | z; exact absurd z.symm e; exact z)
        unfold valW at ih
        rw [decide_eq_false (fun z => e (by have := Sum.inl.inj z; omega))]
        dsimp only
        rw [ih, List.idxOf_cons, beq_eq_false_iff_ne.mpr e]
        simp only [cond_false]
        congr 3
        omega
  have := this ns 0 h
  rw [Nat.zero_add] at this
  exact this
section
variable {P : Program} {w : World} {K : PySem.W.Frag} {mg : Str → Option Value} {base : Heap}
theorem ok_canonical_order (T : Tx P w K mg) : FnOk P w K mg base CX0 2 T.a_canonical_order T.fd_canonical_order ["net"] (lSp K (spOrder T.aC_Net)) := by
  refine fnW T.F_canonical_order sc_canonical_order (fun ws h R ex ⟨_, _, _, e, _⟩ => by rw [e]; rfl) fun cdv A outer s H E hr => ⟨_, (wss_one (ws_ret (w_meth0G T.cls_Net T.m_Net_reached (ok_Net_reached T) (hr.mono (by walk_at "rm")) T.b_Net_reached pass0 (fun _ _ _ => el_no) (w_var 0)))), fun ws h R ex ⟨v, g, s, e, k, ge, hr0, q⟩ => ?_⟩
  subst e
  have hv := k.c
  walk_at "st"
  refine ⟨v, g.d, g.as, s.es, .ref g.a1, s.root, _, rfl, hv, k.en, by have := k.n; have := k.l; omega, ge, hr0, ?_⟩
  exact .base q (.refl _)
theorem ok_canonical_numbers (T : Tx P w K mg) : FnOk P w K mg base CX0 3 T.a_canonical_numbers T.fd_canonical_numbers ["net"] (lSp K (spNumbersOf T.aC_Net)) := by
  refine fnW T.F_canonical_numbers sc_canonical_numbers (fun ws h R ex ⟨_, _, _, e, _⟩ => by rw [e]; rfl) fun cdv A outer s H E hr => ⟨_, (wss_one (ws_ret (w_dcT (own := [("number", 1), ("name", 2)]) rfl sc_canonical_numbers.nd (tgT (n := 2) (tgCons (tgN (by decide)) (tgCons (tgN (by decide)) tgNil))) (wi_enum (by rfl) T.m_enumerate (wa_cons (w_call (ok_canonical_order T) (hr.mono (by walk_at "rm")) (by rfl) T.g_canonical_order T.F_canonical_order.kp T.b_canonical_order (wa_cons (w_var 0) wa_nil)) wa_nil)) (blkOk_by (N := N_canonical_numbers) (sc := defScope s_canonical_numbers) (by decide +kernel)) (fun _ _ _ _ _ => (pg_tup (n := 2) rfl (pgs_cons (pg_name (i := 1) sc_canonical_numbers.nd rfl (Or.inl rfl)) (pgs_cons (pg_name (i := 2) sc_canonical_numbers.nd rfl (Or.inl rfl)) pgs_nil)))) (fun _ _ _ _ _ => wts_nil) (fun _ _ _ _ _ => (w_var 2)) (fun _ _ _ _ _ => (w_var 1))))), fun ws h R ex ⟨v, g, s, e, k, ge, hr0, q⟩ => ?_⟩
  subst e
  have rk := reachN_ok ge s.es.length 0 [s.root] ⟨by simp, by intro x hx; rw [List.mem_singleton.mp hx]; exact hr0⟩
  have ln := nodup_lt _ _ rk.nd rk.lt
  have l60 := k.l
  have en := k.n
  obtain ⟨ns, ens⟩ : ∃ ns, ns = reachE s.es s.root := ⟨_, rfl⟩
  rw [show reachN s.es s.es.length 0 [s.root] = ns from ens.symm] at rk ln
  walk_at "st"
  refine go_dcT (enumW (natW ns)) (fun P q => by unfold oItE; walk_at "st"; exact ⟨v, g, s, rfl, k, ge, hr0, by rw [← ens]; exact q⟩) (by rw [enumW_len]; unfold natW; rw [List.length_map]; omega) fun d hd => ⟨fun i acc h' => acc = nums (ns.take i) ∧ h' = h, ⟨rfl, rfl⟩, ?_, ?_⟩
  · rintro i w acc h' hw hn la ⟨rfl, rfl⟩
    obtain ⟨y, hy, rfl⟩ := enumW_get hw
    unfold natW at hy
    rw [List.getElem?_map] at hy
    obtain ⟨n, hn2, rfl⟩ := Option.map_eq_some_iff.mp hy
    refine ⟨_, rfl, go_yes ?_⟩
    rw [if_pos rfl]
    walk_at "st"
    refine ⟨.inl (n : Nat), h', rfl, .refl _, hn, ?_, rfl⟩
    have tk : ns.take (i + 1) = ns.take i ++ [n] := by rw [List.take_add_one, hn2]; rfl
    have li : i < ns.length := (List.getElem?_eq_some_iff.mp hn2).1
    have nin : n ∉ ns.take i := by
      have := rk.nd.sublist (List.take_sublist (i + 1) ns)
      rw [tk, List.nodup_append] at this
      exact fun z => this.2.2 n z n (by simp) rfl
    rw [tk]
    unfold putW
    rw [if_neg]
    · unfold nums
      rw [List.zipIdx_append, List.map_append, List.length_take, Nat.min_eq_left (by omega)]
      simp
    · rw [Bool.not_eq_true, List.any_eq_false]
      intro kv hkv z
      unfold nums at hkv
      obtain ⟨p, hp, rfl⟩ := List.mem_map.mp hkv
      have := Sum.inl.inj (of_decide_eq_true z)
      have e : p.1 = n := by omega
      exact nin (by rw [← e]; exact List.fst_mem_of_mem_zipIdx hp)
  · rintro acc h' hn ⟨rfl, rfl⟩
    rw [enumW_len, show (natW ns).length = ns.length by unfold natW; rw [List.length_map], List.take_length]
    exact .base (q d _ (.new hd) hd (by rw [← ens, updW_same])) (.refl _)
end

def spPartText (C : Addr) : SpW := fun ws h R _ => ∃ (v d : Addr) (g : NG) (s : NS) (n : Nat) (ns : List Nat) (a : Ag) (l : List (Option NP)), ws = [.ref v, .int (n : Nat), .ref d] ∧ NetAt C v g s h ∧ dWr (.ref d) h = some (nums ns) ∧ ns.Nodup ∧ ns.length ≤ 60 ∧
  s.ags[n]? = some a ∧ s.es[n]? = some l ∧ l.length = a.k.ports ∧ (∀ o ∈ l, ∃ q, o = some q ∧ q.1 ∈ ns ∧ q.2 ≤ 1000) ∧ a.Sm ∧ a.dok = true ∧ R (.str (partT (fun x => ns.idxOf x) a l)) h
theorem smI_len {i : Int} (h : SmI i) : (decS i).length ≤ 1921 := decS_len' (by unfold SmI at h; omega)
theorem dataT_len {d : AD} (h : match d with | .int i => SmI i | .tup _ i => SmI i | _ => True) : (dataT d).length ≤ 2000 := by
  cases d with
  | non => simp [dataT]
  | int i => have := smI_len h; simp only [dataT]; omega
  | str c => simp [dataT]
  | tup c i => have := smI_len h; simp only [dataT, List.length_cons]; omega
theorem AK.len (k : AK) : k.s.length ≤ 5 := by cases k <;> decide
theorem headT_len {a : Ag} (h : a.Sm) : (headT a).length ≤ 4000 := by
  have h1 := smI_len h.2.1
  have h2 := dataT_len h.2.2
  have h3 := a.k.len
  have h4 : (eqT a.dt).length ≤ 2001 := by
    unfold eqT
    split <;> simp only [List.length_cons, List.length_nil] <;> omega
  unfold headT kindT
  rw [List.length_append]
  split
  · omega
  · rw [List.length_append, List.length_cons]; omega
theorem wordT_len (num : Nat → Nat) (o : Option NP) (h : ∀ q, o = some q → num q.1 ≤ 1000000 ∧ q.2 ≤ 1000000) : (wordT num o).length ≤ 4000 := by
  cases o with
  | none => simp [wordT]
  | some q =>
    obtain ⟨a, b⟩ := h q rfl
    have h1 := decS_len' (i := ((num q.1 : Nat) : Int)) (by omega)
    have h2 := decS_len' (i := ((q.2 : Nat) : Int)) (by omega)
    simp only [wordT, List.length_append, List.length_cons]
    omega
theorem kin_eq (k : AK) : ([W.str z_root, .str z_num].any fun w => eqF w (.str k.s)) = decide (k = .root ∨ k = .num) := by cases k <;> rfl
theorem go_lcH {ρ : SlW} {h h2 : HW} {R : KW} {ti : TIW} {j : Nat} {tb : TEW} (ws fs : List W) (ev : ∀ P : List W → HW → Prop, P ws h2 → ti ρ h P) (hl : fs.length = ws.length) (hz : ws.length ≤ 16000000)
    (el : ∀ (i : Nat) (w y : W) (p : Addr) (acc : List W) (R' : KW), ws[i]? = some w → fs[i]? = some y → h2 p = none → R' y (updW h2 p (.lst acc)) → tb (ρ.set j (some w)) (updW h2 p (.lst acc)) R') (k : R (.lst fs) h2) : oLc ti j oYes tb ρ h R := by
  refine ev _ ⟨hz, fun p hp => ⟨fun i acc h' => acc = fs.take i ∧ h' = h2, ⟨rfl, rfl⟩, ?_, ?_⟩⟩
  · rintro i w acc h' e n hla ⟨rfl, rfl⟩
    refine go_yes ?_
    rw [if_pos rfl]
    have hi : i < fs.length := by rw [hl]; exact (List.getElem?_eq_some_iff.mp e).1
    refine el i w fs[i] p _ _ e (List.getElem?_eq_getElem hi) hp ⟨_, .refl _, hp, ?_, rfl⟩
    rw [List.take_add_one, List.getElem?_eq_getElem hi]; rfl
  · rintro acc h' n ⟨rfl, rfl⟩
    rw [← hl, List.take_length]; exact k
theorem eqT_of {d : AD} (h : d ≠ .non) : eqT d = 61 :: dataT d := by
  cases d with
  | non => exact absurd rfl h
  | int i => rfl
  | str c => rfl
  | tup c i => rfl
theorem dWr_new {d p : Addr} {h : HW} {o : OW} {kws : List (L2.Key × W)} (e : dWr (.ref d) h = some kws) (n : h p = none) : dWr (.ref d) (updW h p o) = some kws := by
  unfold dWr at e ⊢
  dsimp only at e ⊢
  rw [updW_ne (fun z => by rw [z, n] at e; cases e)]
  exact e
theorem go_iteM {b : Bool} {A B : KW → Prop} {K : KW} (v : W) (h : HW) (hA : ∀ K' : KW, K' v h → b = true → A K') (hB : ∀ K' : KW, K' v h → b = false → B K') (k : K v h) : match W.bl b with | .bl c => if c = true then A K else B K | _ => False := by
  cases b with
  | true => exact hA K k rfl
  | false => exact hB K k rfl
section
variable {P : Program} {w : World} {K : PySem.W.Frag} {mg : Str → Option Value} {base : Heap}
theorem ok__data_text (T : Tx P w K mg) : FnOk P w K mg base CX0 2 T.a__data_text T.fd__data_text ["data"] (lSp K spDataText) := by
  refine fnW T.F__data_text sc__data_text (fun ws h R ex ⟨_, e, _⟩ => by rw [e]; rfl) fun cdv A outer s H E hr => ⟨_, (wss_cons (ws_if (wt_val (w_callB call_isi lf_is (by rfl) T.m_isinstance (by decide +kernel) (wa_cons (w_var 0) (wa_cons (w_bltn (n := "int") rfl T.m_int (by decide +kernel)) wa_nil)))) (wss_one (ws_ret (w_call (ok_decimal T) (hr.mono (by walk_at "rm")) (by rfl) T.g_decimal T.F_decimal.kp T.b_decimal (wa_cons (w_var 0) wa_nil)))) wss_nil)
    (wss_one (ws_ret (w_ifExp (wt_val (w_callB call_isi lf_is (by rfl) T.m_isinstance (by decide +kernel) (wa_cons (w_var 0) (wa_cons (w_bltn (n := "str") rfl T.m_str (by decide +kernel)) wa_nil)))) (w_var 0) (w_op ow_add lf_add (w_ix (w_var 0) w_int) (w_call (ok_decimal T) (hr.mono (by walk_at "rm")) (by rfl) T.g_decimal T.F_decimal.kp T.b_decimal (wa_cons (w_ix (w_var 0) w_int) wa_nil))))))), fun ws h R ex ⟨d, e, dn, sm, q⟩ => ?_⟩
  subst e
  cases d with
  | non => exact absurd rfl dn
  | int i =>
    simp only [AD.w]
    walk_at "stc"
    refine ⟨i, rfl, sm, ?_⟩
    exact .base q (.refl _)
  | str c =>
    simp only [AD.w]
    walk_at "stc"
    exact .base q (.refl _)
  | tup c i =>
    simp only [AD.w]
    walk_at "stc"
    refine ⟨i, rfl, sm, ?_⟩
    have := smI_len sm
    walk_at "stc"
    exact .base q (.refl _)
theorem ok__part_text (T : Tx P w K mg) : FnOk P w K mg base CX0 3 T.a__part_text T.fd__part_text ["net", "name", "numbers"] (lSp K (spPartText T.aC_Net)) := by
  refine fnW T.F__part_text sc__part_text (fun ws h R ex ⟨_, _, _, _, _, _, _, _, e, _⟩ => by rw [e]; rfl) fun cdv A outer s H E hr => ⟨_, (wss_cons (ws_asg (w_methG T.cls_Net T.m_Net_agent (ok_Net_agent T) (hr.mono (by walk_at "rm")) T.b_Net_agent pass0 (fun _ _ _ => el_no) (w_var 0) (wa_cons (w_var 1) wa_nil)) (wg_tup rfl (wgs_cons (wg_name (i := 5) sc__part_text.nd) (wgs_cons (wg_name (i := 6) sc__part_text.nd) (wgs_cons (wg_name (i := 7) sc__part_text.nd) wgs_nil)))))
    (wss_cons (ws_set (i := 3) sc__part_text.nd (w_ifExp (wt_cmp ow_in lf_in (w_var 5) (w_tup (wa_cons (w_str z_root) (wa_cons (w_str z_num) wa_nil))) (by rfl)) (w_var 5) (w_joined (.cons (w_fmt (w_var 5)) (.cons (w_str z_x2f) (.cons (w_fmt (w_call (ok_decimal T) (hr.mono (by walk_at "rm")) (by rfl) T.g_decimal T.F_decimal.kp T.b_decimal (wa_cons (w_var 6) wa_nil))) .nil))))))
    (wss_cons (ws_if (wt_cmp op_notN lf_notN (w_var 7) w_non (nomark _)) (wss_one (ws_set (i := 3) sc__part_text.nd (w_joined (.cons (w_fmt (w_var 3)) (.cons (w_str z_x3d) (.cons (w_fmt (w_call (ok__data_text T) (hr.mono (by walk_at "rm")) (by rfl) T.g__data_text T.F__data_text.kp T.b__data_text (wa_cons (w_var 7) wa_nil))) .nil)))))) wss_nil)
    (wss_cons (ws_setLc (i := 4) (x := "port") (j := 8) rfl sc__part_text.nd rfl rfl (sw_true rfl rfl rfl (by decide +kernel)) (wi_range1 (by rfl) T.m_range (wa_cons (w_kget (T.t_PORTS) (w_glob rfl T.gk_PORTS) (w_var 5)) wa_nil)) (blkOk_by (N := N__part_text) (sc := defScope s__part_text) (by decide +kernel)) (fun _ _ _ _ _ => pg_name (i := 8) sc__part_text.nd rfl (Or.inl rfl)) (fun _ _ _ _ _ => wts_nil) (fun _ _ _ _ _ => (w_methG T.cls_Net T.m_Net_peer (ok_Net_peer T) (hr.mono (by walk_at "rm")) T.b_Net_peer pass0 (fun _ _ _ => el_no) (w_var 0) (wa_cons (w_var 1) (wa_cons (w_var 8) wa_nil)))))
    (wss_one (ws_ret (w_bm PySem.F.plainAttrs_str PySem.F.slot_str_join PySem.F.type_str_join mt_join tyS_ok lf_join (w_str z_x20) (wa_cons (w_lst (wa_cons (w_var 3) (wa_star (w_lc (x := "peer") (j := 9) rfl sc__part_text.nd (wi_list (w_var 4)) (blkOk_by (N := N__part_text) (sc := defScope s__part_text) (by decide +kernel)) (fun _ _ _ _ _ => pg_name (i := 9) sc__part_text.nd rfl (Or.inl rfl)) (fun _ _ _ _ _ => wts_nil) (fun _ _ _ _ _ => (w_joined (.cons (w_fmt (w_dgetR (hu_of hr) (w_var 2) (w_ix (w_var 9) w_int))) (.cons (w_str z_x2e) (.cons (w_fmt (w_ix (w_var 9) w_int)) .nil)))))) wa_nil))) wa_nil)))))))), fun ws h R ex ⟨v, d, g, s, n, ns, a, l, e, k, dd, nd, l60, ea, el, ll, lo, sm, dk, q⟩ => ?_⟩
  subst e
  have hv := k.c
  have hs := smI_len sm.2.1
  have ks := a.k.len
  walk_at "st"
  refine ⟨v, g, s, n, a, rfl, k, ea, ?_⟩
  unfold Ag.w
  walk_at "st"
  rw [kin_eq]
  have kl : (kindT a).length ≤ 1927 := by
    unfold kindT
    split
    · omega
    · rw [List.length_append, List.length_cons]; omega
  refine go_iteM (A := fun K => oVar 5 _ _ K) (B := fun K => oJoin _ _ _ K) (.str (kindT a)) h (fun K' k' c => ?_) (fun K' k' c => ?_) ?_
  · walk_at "st"
    rw [show a.k.s = kindT a by unfold kindT; rw [if_pos (of_decide_eq_true c)]]
    exact k'
  · have c := of_decide_eq_false c
    walk_at "st"
    refine ⟨a.lv, rfl, by have := sm.2.1; unfold SmI at this; omega, ?_⟩
    walk_at "st"
    rw [show ([] : List Nat) ++ a.k.s ++ z_x2f ++ decS a.lv = kindT a by unfold kindT; rw [if_neg c]; simp [z_x2f]]
    exact k'
  walk_at "st"
  obtain ⟨bn, ebn⟩ : ∃ bn, bn = isNon a.dt.w := ⟨_, rfl⟩
  refine go_notN ebn.symm ?_
  dsimp only
  have dl := dataT_len sm.2.2
  refine go_meet (fun ρ' h' => ρ' = [some (.ref v), some (.int (n : Nat)), some (.ref d), some (.str (headT a)), none, some (.str a.k.s), some (.int a.lv), some a.dt.w, none, none] ∧ h' = h) ?_ (fun N' hN => ?_)
  rotate_left
  · cases bn with
    | true =>
      have dn : a.dt = .non := by
        revert ebn
        cases a.dt <;> intro ebn <;> first | rfl | exact nomatch ebn
      rw [if_neg (by decide)]
      walk_at "st"
      refine hN _ _ ⟨?_, rfl⟩
      rw [show headT a = kindT a by unfold headT; rw [dn]; simp [eqT]]
      rfl
    | false =>
      have dn : a.dt ≠ .non := fun z => by rw [z] at ebn; exact nomatch ebn
      rw [if_pos (by decide)]
      walk_at "st"
      refine ⟨a.dt, rfl, dn, sm.2.2, ?_⟩
      walk_at "st"
      refine hN _ _ ⟨?_, rfl⟩
      rw [show headT a = [] ++ kindT a ++ z_x3d ++ dataT a.dt by unfold headT; rw [eqT_of dn]; simp [z_x3d]]
      rfl
  rintro ρ' h' ⟨rfl, rfl⟩
  walk_at "st"
  have hlen := headT_len sm
  have p3 : a.k.ports ≤ 3 := by cases a.k <;> decide
  refine go_lcH (h2 := h') (natW (List.range a.k.ports)) (l.map opW) (fun P q => go_rng1 a.k.ports (fun RA q => by walk_at "st"; exact go_kget (tab_ports a.k) (by walk_at "st"; exact q)) (by omega) q) (by simp [natW, ll]) (by simp [natW]; omega) ?_ ?_
  · intro j w y p acc R' e1 e2 hp r
    unfold natW at e1
    rw [List.getElem?_map] at e1 e2
    obtain ⟨m, hm, rfl⟩ := Option.map_eq_some_iff.mp e1
    obtain ⟨o, ho, rfl⟩ := Option.map_eq_some_iff.mp e2
    have jm : m = j := by
      have := (List.getElem?_eq_some_iff.mp hm).2
      rw [List.getElem_range] at this
      exact this.symm
    subst jm
    have k2 := k.mono (Sub.new hp (o := .lst acc))
    have hv2 := k2.c
    walk_at "st"
    exact ⟨v, g, s, (n, m), l, o, rfl, k2, el, ho, r⟩
  walk_at "st"
  refine go_lcH (h2 := h') (l.map opW) ((l.map (wordT fun x => ns.idxOf x)).map W.str) (fun P q => by walk_at "st"; exact q) (by simp) (by simp; omega) ?_ ?_
  · intro j w y p acc R' e1 e2 hp r
    rw [List.getElem?_map] at e1 e2
    obtain ⟨o, ho, rfl⟩ := Option.map_eq_some_iff.mp e1
    rw [List.getElem?_map, ho] at e2
    cases e2
    obtain ⟨q0, rfl, hq, hq2⟩ := lo o (List.mem_of_getElem? ho)
    have dd2 := dWr_new (o := .lst acc) dd hp
    have dg : dgrW (.ref d) (.int (q0.1 : Nat)) (updW h' p (.lst acc)) = some (some (.int ((ns.idxOf q0.1 : Nat) : Int))) := by
      unfold dgrW
      rw [dd2]
      dsimp only [keyW]
      rw [nums_val ns nd q0.1 hq]
    have ix := List.idxOf_le_length (a := q0.1) (l := ns)
    have n1 := decS_len' (i := ((ns.idxOf q0.1 : Nat) : Int)) (by omega)
    have n2 := decS_len' (i := ((q0.2 : Nat) : Int)) (by omega)
    simp only [opW, NP.w]
    walk_at "st"
    refine go_dgetR dg ?_
    refine go_fmtI (l2 (by omega)) ?_
    walk_at "st"
    refine go_fmtI (l2 (by omega)) ?_
    walk_at "st"
    rw [show ([] : List Nat) ++ decS ((ns.idxOf q0.1 : Nat) : Int) ++ z_x2e ++ decS ((q0.2 : Nat) : Int) = wordT (fun x => ns.idxOf x) (some q0) by simp [wordT, z_x2e]]
    exact r
  walk_at "st"
  rw [List.append_nil]
  refine go_lstK (by simp; omega) ?_
  walk_at "st"
  have wl : ∀ l2 : List (Option NP), (∀ o ∈ l2, o ∈ l) → ((l2.map (wordT fun x => ns.idxOf x)).map List.length).sum ≤ 4000 * l2.length := fun l2 => by
    induction l2 with
    | nil => intro _; exact Nat.le_refl _
    | cons o l2 ih =>
      intro hs
      have h1 := ih fun x hx => hs x (List.mem_cons_of_mem _ hx)
      have h2 := wordT_len (fun x => ns.idxOf x) o fun q e => by
        obtain ⟨q', e', _, e3⟩ := lo o (hs o List.mem_cons_self)
        rw [e] at e'
        cases e'
        have := List.idxOf_le_length (a := q.1) (l := ns)
        omega
      simp only [List.map_cons, List.sum_cons, List.length_cons]
      omega
  have wl2 := wl l fun _ h => h
  refine go_join (ss := headT a :: l.map (wordT fun x => ns.idxOf x)) (strsOf_map (headT a :: l.map (wordT fun x => ns.idxOf x))) (by simp only [List.map_cons, List.sum_cons, List.length_cons, List.length_map, List.length_nil] at wl2 ⊢; omega) ?_
  exact .base q (.refl _)
end

/-! ## canonical texts -/
structure CanOk (s : NS) : Prop where
  good : GoodE s.es
  rt : s.root < s.es.length
  ag : ∀ a ∈ s.ags, a.Sm ∧ a.dok = true
  ln : ∀ (i : Nat) (a : Ag) (l : List (Option NP)), s.ags[i]? = some a → s.es[i]? = some l → l.length = a.k.ports
  pt : ∀ l ∈ s.es, ∀ q, some q ∈ l → q.2 ≤ 1000
  all : ∀ x, x < s.es.length → x ∈ reachE s.es s.root
def partOf (s : NS) (ns : List Nat) (n : Nat) : List Nat := match s.ags[n]?, s.es[n]? with
  | some a, some l => partT (fun x => ns.idxOf x) a l
  | _, _ => []
def canonT (s : NS) : List Nat := joinS [59, 32] ((reachE s.es s.root).map (partOf s (reachE s.es s.root)))
def spCanon (C : Addr) : SpW := fun ws h R _ => ∃ (v : Addr) (g : NG) (s : NS), ws = [.ref v] ∧ NetAt C v g s h ∧ CanOk s ∧ R (.str (canonT s)) h
def spSame (C : Addr) : SpW := fun ws h R _ => ∃ (v1 v2 : Addr) (g1 g2 : NG) (s1 s2 : NS), ws = [.ref v1, .ref v2] ∧ NetAt C v1 g1 s1 h ∧ NetAt C v2 g2 s2 h ∧ CanOk s1 ∧ CanOk s2 ∧ R (.bl (decide (canonT s1 = canonT s2))) h
theorem join_len (b : List Nat) : ∀ ss : List (List Nat), (joinS b ss).length ≤ (ss.map List.length).sum + ss.length * b.length
  | [] => Nat.zero_le _
  | [x] => by simp [joinS]
  | x :: y :: r => by
    have := join_len b (y :: r)
    simp only [joinS, List.length_append, List.map_cons, List.sum_cons, List.length_cons] at this ⊢
    rw [Nat.add_mul] at this ⊢
    rw [Nat.add_mul]
    omega
theorem partT_len {ns : List Nat} {a : Ag} {l : List (Option NP)} (sm : a.Sm) (l60 : ns.length ≤ 60) (l3 : l.length ≤ 3) (h : ∀ q, some q ∈ l → q.2 ≤ 1000) : (partT (fun x => ns.idxOf x) a l).length ≤ 17000 := by
  have h1 := headT_len sm
  have h2 := join_len [32] (headT a :: l.map (wordT fun x => ns.idxOf x))
  have h3 : ∀ l2 : List (Option NP), (∀ o ∈ l2, o ∈ l) → ((l2.map (wordT fun x => ns.idxOf x)).map List.length).sum ≤ 4000 * l2.length := fun l2 => by
    induction l2 with
    | nil => intro _; exact Nat.le_refl _
    | cons o l2 ih =>
      intro hs
      have h1 := ih fun x hx => hs x (List.mem_cons_of_mem _ hx)
      have h2 := wordT_len (fun x => ns.idxOf x) o fun q e => by
        have := h q (by rw [← e]; exact hs o List.mem_cons_self)
        have := List.idxOf_le_length (a := q.1) (l := ns)
        omega
      simp only [List.map_cons, List.sum_cons, List.length_cons]
      omega
  have h4 := h3 l fun _ h => h
  unfold partT
  simp only [List.map_cons, List.sum_cons, List.length_cons, List.length_map, List.length_nil] at h2 h4 ⊢
  omega
section
variable {P : Program} {w : World} {K : PySem.W.Frag} {mg : Str → Option Value} {base : Heap}
theorem ok_canonical_text (T : Tx P w K mg) : FnOk P w K mg base CX0 4 T.a_canonical_text T.fd_canonical_text ["net"] (lSp K (spCanon T.aC_Net)) := by
  refine fnW T.F_canonical_text sc_canonical_text (fun ws h R ex ⟨_, _, _, e, _⟩ => by rw [e]; rfl) fun cdv A outer s H E hr => ⟨_, (wss_cons (ws_set (i := 1) sc_canonical_text.nd (w_call (ok_canonical_numbers T) (hr.mono (by walk_at "rm")) (by rfl) T.g_canonical_numbers T.F_canonical_numbers.kp T.b_canonical_numbers (wa_cons (w_var 0) wa_nil)))
    (wss_one (ws_ret (w_bm PySem.F.plainAttrs_str PySem.F.slot_str_join PySem.F.type_str_join mt_join tyS_ok lf_join (w_str z_x3bx20) (wa_cons (w_lcK (x := "name") (j := 2) rfl sc_canonical_text.nd (w_var 1) (blkOk_by (N := N_canonical_text) (sc := defScope s_canonical_text) (by decide +kernel)) (fun _ _ _ _ _ => pg_name (i := 2) sc_canonical_text.nd rfl (Or.inl rfl)) (fun _ _ _ _ _ => wts_nil) (fun _ _ _ _ _ => (w_call (ok__part_text T) (hr.mono (by walk_at "rm")) (by rfl) T.g__part_text T.F__part_text.kp T.b__part_text (wa_cons (w_var 0) (wa_cons (w_var 2) (wa_cons (w_var 1) wa_nil)))))) wa_nil))))), fun ws h R ex ⟨v, g, s, e, k, ck, q⟩ => ?_⟩
  subst e
  have ln := k.n
  have l60 := k.l
  have rk := reachN_ok ck.good s.es.length 0 [s.root] ⟨by simp, by intro x hx; rw [List.mem_singleton.mp hx]; exact ck.rt⟩
  have lr := nodup_lt _ _ rk.nd rk.lt
  obtain ⟨ns, ens⟩ : ∃ ns, ns = reachE s.es s.root := ⟨_, rfl⟩
  rw [show reachN s.es s.es.length 0 [s.root] = ns from ens.symm] at rk lr
  have al := ck.all
  unfold canonT at q
  rw [← ens] at q al
  walk_at "st"
  refine ⟨v, g, s, rfl, k, ck.good, ck.rt, fun d h1 sb hd hd1 => ?_⟩
  rw [← ens] at hd1
  have k1 := k.mono sb
  have ndv : v ≠ d := fun z => by have := k.c; rw [z, hd] at this; cases this
  have lk : (nums ns).length = ns.length := by unfold nums; rw [List.length_map, List.length_zipIdx]
  walk_at "st"
  have pl : ∀ n ∈ ns, (partOf s ns n).length ≤ 17000 := fun n hn => by
    have hlt := rk.lt n hn
    unfold partOf
    rw [List.getElem?_eq_getElem (show n < s.ags.length by omega), List.getElem?_eq_getElem hlt]
    dsimp only
    have e1 := List.getElem?_eq_getElem (show n < s.ags.length by omega)
    have e2 := List.getElem?_eq_getElem hlt
    have := ck.ln n _ _ e1 e2
    refine partT_len (ck.ag _ (List.mem_of_getElem? e1)).1 (by omega) ?_ (ck.pt _ (List.mem_of_getElem? e2))
    rw [this]; cases (s.ags[n]).k <;> decide
  refine go_lcK (d := d) (nums ns) ((ns.map (partOf s ns)).map W.str) hd1 (by omega) (fun o R q => by walk_at "st"; exact q) (by simp [lk]) ?_ ?_
  · intro o kvs i kk w y p acc R' e1 e2 hp r
    unfold nums at e1
    rw [List.getElem?_map] at e1
    obtain ⟨⟨n, j⟩, hz, e1⟩ := Option.map_eq_some_iff.mp e1
    cases e1
    have hn : ns[i]? = some n := by
      rw [List.getElem?_zipIdx] at hz
      obtain ⟨m, hm, e⟩ := Option.map_eq_some_iff.mp hz
      cases e
      exact hm
    rw [List.getElem?_map, List.getElem?_map, hn] at e2
    cases e2
    have mem := List.mem_of_getElem? hn
    have hlt := rk.lt n mem
    have ea := List.getElem?_eq_getElem (show n < s.ags.length by omega)
    have el := List.getElem?_eq_getElem hlt
    have npd : p ≠ d := fun z => by rw [z, updW_same] at hp; cases hp
    have hp1 : h1 p = none := by rw [updW_ne npd] at hp; exact hp
    have no : ∀ a, a = v ∨ OwnG g a → a ≠ d := fun a oa z => by
      have nn : h a ≠ none := by
        rcases oa with rfl | rfl | rfl | rfl | oa
        · rw [k.c]; exact fun z => nomatch z
        · rw [k.ag]; exact fun z => nomatch z
        · rw [k.en.d]; exact fun z => nomatch z
        · rw [k.ac]; exact fun z => nomatch z
        · obtain ⟨j, hj, e⟩ := List.mem_iff_getElem.mp oa
          have hj2 : j < s.es.length := by have := k.en.n; omega
          rw [(k.en.l j a _ (by rw [List.getElem?_eq_getElem hj, e]) (List.getElem?_eq_getElem hj2)).1]
          exact fun z => nomatch z
      rw [z, hd] at nn
      exact nn rfl
    have k2 : NetAt T.aC_Net v g s (updW (updW h1 d (.fdic o kvs (nums ns))) p (.lst acc)) := by
      refine NetAt.mono (h := updW h1 d (.fdic o kvs (nums ns))) ?_ (.new hp)
      refine ⟨by rw [updW_ne (no v (.inl rfl))]; exact k1.c, by rw [updW_ne (no _ (.inr (.inl rfl)))]; exact k1.ag, ⟨k1.en.n, by rw [updW_ne (no _ (.inr (.inr (.inl rfl))))]; exact k1.en.d, k1.en.nd, fun i a l e1 e2 => ?_⟩, by rw [updW_ne (no _ (.inr (.inr (.inr (.inl rfl)))))]; exact k1.ac, k1.n, k1.l⟩
      rw [updW_ne (no _ (.inr (.inr (.inr (.inr (List.mem_of_getElem? e1))))))]
      exact k1.en.l i a l e1 e2
    have dd : dWr (.ref d) (updW (updW h1 d (.fdic o kvs (nums ns))) p (.lst acc)) = some (nums ns) := dWr_new (by unfold dWr; dsimp only; rw [updW_same]) hp
    have agk := ck.ag _ (List.mem_of_getElem? ea)
    have r2 : R' (.str (partT (fun x => ns.idxOf x) s.ags[n] s.es[n])) (updW (updW h1 d (.fdic o kvs (nums ns))) p (.lst acc)) := by
      have e : partOf s ns n = partT (fun x => ns.idxOf x) s.ags[n] s.es[n] := by unfold partOf; rw [ea, el]
      rw [← e]; exact r
    walk_at "st"
    refine ⟨v, d, g, s, n, ns, _, _, rfl, k2, dd, rk.nd, by omega, ea, el, ck.ln n _ _ ea el, fun o ho => ?_, agk.1, agk.2, r2⟩
    cases o with
    | none => exact absurd ho (ck.good.f _ (List.mem_of_getElem? el))
    | some q0 => exact ⟨q0, rfl, al _ (ck.good.r _ (List.mem_of_getElem? el) _ ho), ck.pt _ (List.mem_of_getElem? el) _ ho⟩
  walk_at "st"
  have sl : ∀ l : List Nat, (∀ n ∈ l, n ∈ ns) → ((l.map (partOf s ns)).map List.length).sum ≤ 17000 * l.length := fun l => by
    induction l with
    | nil => intro _; exact Nat.le_refl _
    | cons n l ih =>
      intro hs
      have h1 := ih fun x hx => hs x (List.mem_cons_of_mem _ hx)
      have h2 := pl n (hs n List.mem_cons_self)
      simp only [List.map_cons, List.sum_cons, List.length_cons]
      omega
  have sl2 := sl ns fun _ h => h
  refine go_join (ss := ns.map (partOf s ns)) (strsOf_map _) (by rw [List.length_map]; simp only [z_x3bx20, List.length_cons, List.length_nil]; omega) ?_
  exact .base q sb
theorem ok_same_net (T : Tx P w K mg) : FnOk P w K mg base CX0 5 T.a_same_net T.fd_same_net ["first", "second"] (lSp K (spSame T.aC_Net)) := by
  refine fnW T.F_same_net sc_same_net (fun ws h R ex ⟨_, _, _, _, _, _, e, _⟩ => by rw [e]; rfl) fun cdv A outer s H E hr => ⟨_, (wss_one (ws_ret (w_cmp (ow_eq hr.units) lf_eq (w_call (ok_canonical_text T) (hr.mono (by walk_at "rm")) (by rfl) T.g_canonical_text T.F_canonical_text.kp T.b_canonical_text (wa_cons (w_var 0) wa_nil)) (w_call (ok_canonical_text T) (hr.mono (by walk_at "rm")) (by rfl) T.g_canonical_text T.F_canonical_text.kp T.b_canonical_text (wa_cons (w_var 1) wa_nil)) (nomark _)))), fun ws h R ex ⟨v1, v2, g1, g2, s1, s2, e, k1, k2, c1, c2, q⟩ => ?_⟩
  subst e
  walk_at "st"
  refine ⟨v1, g1, s1, rfl, k1, c1, ?_⟩
  walk_at "st"
  refine ⟨v2, g2, s2, rfl, k2, c2, ?_⟩
  walk_at "st"
  exact .base q (.refl _)
end

/-! ## the law's texts -/
def spLawData : SpW := fun ws h R _ => ∃ a : Ag, ws = [a.w] ∧ a.Sm ∧ a.dok = true ∧ R (.str (eqT a.dt)) h
def spLawText : SpW := fun ws h R _ => ∃ (ags : List Ag) (wrs : List Wr) (es : Es), ws = [.lst (ags.map Ag.w), .lst (wrs.map wrW)] ∧ DrN ags wrs ∧ endsE ags wrs = some es ∧ (reachE es 0).length = ags.length ∧ R (.str (canonT ⟨ags, es, 0, []⟩)) h
section
variable {P : Program} {w : World} {K : PySem.W.Frag} {mg : Str → Option Value} {base : Heap}
theorem ok__law_data_text (T : Tx P w K mg) : FnOk P w K mg base CX0 1 T.a__law_data_text T.fd__law_data_text ["agent"] (lSp K spLawData) := by
  refine fnW T.F__law_data_text sc__law_data_text (fun ws h R ex ⟨_, e, _⟩ => by rw [e]; rfl) fun cdv A outer s H E hr => ⟨_, (wss_cons (ws_if (wt_cmp (ow_eq hr.units) lf_eq (w_ix (w_var 0) w_int) (w_str z_num) (nomark _)) (wss_one (ws_ret (w_op ow_add lf_add (w_str z_x3d) (w_callTy call_str_int lf_str (by rfl) T.m_str (by decide +kernel) (wa_cons (w_ix (w_var 0) w_int) wa_nil))))) wss_nil)
    (wss_cons (ws_if (wt_cmp (ow_eq hr.units) lf_eq (w_ix (w_var 0) w_int) (w_str z_op) (nomark _)) (wss_one (ws_ret (w_op ow_add lf_add (w_str z_x3d) (w_ix (w_var 0) w_int)))) wss_nil)
    (wss_cons (ws_if (wt_cmp (ow_eq hr.units) lf_eq (w_ix (w_var 0) w_int) (w_str z_op1) (nomark _)) (wss_one (ws_ret (w_op ow_add lf_add (w_op ow_add lf_add (w_str z_x3d) (w_ix (w_ix (w_var 0) w_int) w_int)) (w_callTy call_str_int lf_str (by rfl) T.m_str (by decide +kernel) (wa_cons (w_ix (w_ix (w_var 0) w_int) w_int) wa_nil))))) wss_nil)
    (wss_one (ws_ret (w_str z_)))))), fun ws h R ex ⟨a, e, sm, dk, q⟩ => ?_⟩
  subst e
  obtain ⟨k, lv, dt⟩ := a
  obtain ⟨_, _, sm⟩ := sm
  dsimp only at sm q
  unfold Ag.w
  cases k <;> cases dt <;> (try (simp [Ag.dok] at dk; done)) <;> (simp only [AD.w])
  case num.int i =>
    have := smI_len sm
    walk_at "stc"
    refine go_str (l2 (by unfold SmI at sm; omega)) ?_
    walk_at "stc"
    exact .base q (.refl _)
  case op.str c =>
    walk_at "stc"
    exact .base q (.refl _)
  case op1.tup c i =>
    have := smI_len sm
    walk_at "stc"
    refine go_str (l2 (by unfold SmI at sm; omega)) ?_
    walk_at "stc"
    exact .base q (.refl _)
  all_goals
    walk_at "stc"
    exact .base q (.refl _)
theorem ok__law_net_text (T : Tx P w K mg) : FnOk P w K mg base CX0 3 T.a__law_net_text T.fd__law_net_text ["agents", "wires"] (lSp K spLawText) := by
  refine fnW T.F__law_net_text sc__law_net_text (fun ws h R ex ⟨_, _, _, e, _⟩ => by rw [e]; rfl) fun cdv A outer s H E hr => ⟨_, (wss_cons (ws_set (i := 2) sc__law_net_text.nd (w_call (ok__law_reach T) (hr.mono (by walk_at "rm")) (by rfl) T.g__law_reach T.F__law_reach.kp T.b__law_reach (wa_cons (w_var 0) (wa_cons (w_var 1) wa_nil))))
    (wss_cons (ws_set (i := 3) sc__law_net_text.nd (w_lstO wa_nil))
    (wss_cons (ws_for PassesOwn.never rfl (wi_list (w_var 2)) (wg_name (i := 4) sc__law_net_text.nd) (wss_cons (ws_set (i := 5) sc__law_net_text.nd (w_ix (w_var 0) (w_var 4)))
    (wss_cons (ws_set (i := 6) sc__law_net_text.nd (w_ix (w_var 5) w_int))
    (wss_cons (ws_if (wt_cmp ow_notIn lf_notIn (w_var 6) (w_tup (wa_cons (w_str z_root) (wa_cons (w_str z_num) wa_nil))) (by rfl)) (wss_one (ws_set (i := 6) sc__law_net_text.nd (w_op ow_add lf_add (w_op ow_add lf_add (w_var 6) (w_str z_x2f)) (w_callTy call_str_int lf_str (by rfl) T.m_str (by decide +kernel) (wa_cons (w_ix (w_var 5) w_int) wa_nil))))) wss_nil)
    (wss_cons (ws_set (i := 7) sc__law_net_text.nd (w_lstO (wa_cons (w_op ow_add lf_add (w_var 6) (w_call (ok__law_data_text T) (hr.mono (by walk_at "rm")) (by rfl) T.g__law_data_text T.F__law_data_text.kp T.b__law_data_text (wa_cons (w_var 5) wa_nil))) wa_nil)))
    (wss_cons (ws_for PassesOwn.never rfl (wi_range1 (by rfl) T.m_range (wa_cons (w_call (ok__law_ports T) (hr.mono (by walk_at "rm")) (by rfl) T.g__law_ports T.F__law_ports.kp T.b__law_ports (wa_cons (w_ix (w_var 5) w_int) wa_nil)) wa_nil)) (wg_name (i := 8) sc__law_net_text.nd) (wss_cons (ws_set (i := 9) sc__law_net_text.nd (w_call (ok__law_peer T) (hr.mono (by walk_at "rm")) (by rfl) T.g__law_peer T.F__law_peer.kp T.b__law_peer (wa_cons (w_var 1) (wa_cons (w_tup (wa_cons (w_var 4) (wa_cons (w_var 8) wa_nil))) wa_nil))))
    (wss_one (ws_expr (w_bm PySem.F.plainAttrs_list PySem.F.slot_list_append PySem.F.type_list_append mt_append tyL_ok lf_append (w_var 7) (wa_cons (w_op ow_add lf_add (w_op ow_add lf_add (w_callTy call_str_int lf_str (by rfl) T.m_str (by decide +kernel) (wa_cons (w_bm PySem.F.plainAttrs_list PySem.F.slot_list_index PySem.F.type_list_index mt_index tyLl_ok lf_indexL (w_var 2) (wa_cons (w_ix (w_var 9) w_int) wa_nil)) wa_nil)) (w_str z_x2e)) (w_callTy call_str_int lf_str (by rfl) T.m_str (by decide +kernel) (wa_cons (w_ix (w_var 9) w_int) wa_nil))) wa_nil))))))
    (wss_one (ws_expr (w_bm PySem.F.plainAttrs_list PySem.F.slot_list_append PySem.F.type_list_append mt_append tyL_ok lf_append (w_var 3) (wa_cons (w_bm PySem.F.plainAttrs_str PySem.F.slot_str_join PySem.F.type_str_join mt_join tyS_ok lf_join2 (w_str z_x20) (wa_cons (w_var 7) wa_nil)) wa_nil))))))))))
    (wss_one (ws_ret (w_bm PySem.F.plainAttrs_str PySem.F.slot_str_join PySem.F.type_str_join mt_join tyS_ok lf_join2 (w_str z_x3bx20) (wa_cons (w_var 3) wa_nil))))))), fun ws h R ex ⟨ags, wrs, es, e, dn, ee, al, q⟩ => ?_⟩
  subst e
  have l14 := dn.l14
  have l2' := dn.l2
  have sm := dn.sm
  have eo := endsE_some ee
  have ge := eo.good
  have ln := eo.len
  have rk := reachN_ok ge es.length 0 [0] ⟨by simp, by intro x hx; rw [List.mem_singleton.mp hx]; omega⟩
  unfold canonT at q
  dsimp only at q
  obtain ⟨ns, ens⟩ : ∃ ns, ns = reachE es 0 := ⟨_, rfl⟩
  rw [show reachN es es.length 0 [0] = ns from ens.symm] at rk
  rw [← ens] at q al
  walk_at "st"
  refine ⟨ags, wrs, es, rfl, dn, ee, ?_⟩
  rw [← ens]
  walk_at "st"
  intro pp hpp
  walk_at "st"
  refine go_forL (natW ns) (fun R q => by walk_at "st"; exact q)
    (fun i ρ' h' => ρ' = [some (.lst (ags.map Ag.w)), some (.lst (wrs.map wrW)), some (.lst (natW ns)), some (.ref pp), none, none, none, none, none, none] ∧ h' = updW h pp (.lst (((ns.take i).map (partOf ⟨ags, es, 0, []⟩ ns)).map W.str)))
    (.of ⟨rfl, rfl⟩) ?_ ?_
  · rintro i w ρ' h' hw ⟨rfl, rfl⟩
    unfold natW at hw
    rw [List.getElem?_map] at hw
    obtain ⟨n, hn, rfl⟩ := Option.map_eq_some_iff.mp hw
    have hlt := rk.lt n (List.mem_of_getElem? hn)
    obtain ⟨a, ea⟩ : ∃ a, ags[n]? = some a := ⟨_, List.getElem?_eq_getElem (by omega)⟩
    obtain ⟨l, el⟩ : ∃ l, es[n]? = some l := ⟨_, List.getElem?_eq_getElem hlt⟩
    have e5 : atI (ags.map Ag.w) ((n : Nat) : Int) = some a.w := atI_nat (by rw [List.getElem?_map, ea]; rfl)
    have am := List.mem_of_getElem? ea
    have sma := sm a am
    have dk := Ag.dok_of (dn.ok a am).1
    walk_at "st"
    refine go_ixT (xs := [.str a.k.s, .int a.lv, a.dt.w]) rfl ?_
    walk_at "st"
    rw [kin_eq]
    show if _ = true then _ else _
    have hs := smI_len sma.2.1
    have ks := a.k.len
    have kl : (kindT a).length ≤ 1927 := by
      unfold kindT
      split
      · omega
      · rw [List.length_append, List.length_cons]; omega
    obtain ⟨h1, eh1⟩ : ∃ h1, h1 = updW h pp (.lst (((ns.take i).map (partOf ⟨ags, es, 0, []⟩ ns)).map W.str)) := ⟨_, rfl⟩
    have hp1 : h1 pp = some (.lst (((ns.take i).map (partOf ⟨ags, es, 0, []⟩ ns)).map W.str)) := by rw [eh1, updW_same]
    rw [← eh1]
    refine go_meet (fun ρ' h' => ρ' = [some (.lst (ags.map Ag.w)), some (.lst (wrs.map wrW)), some (.lst (natW ns)), some (.ref pp), some (.int (n : Nat)), some a.w, some (.str (kindT a)), none, none, none] ∧ h' = h1) ?_ (fun N' hN => ?_)
    rotate_left
    · refine go_ndec (fun c => ?_) fun c => ?_
      · walk_at "st"
        refine go_ixT (xs := [.str a.k.s, .int a.lv, a.dt.w]) rfl ?_
        walk_at "st"
        refine go_str (l2 (by have := sma.2.1; unfold SmI at this; omega)) ?_
        walk_at "st"
        refine hN _ _ ⟨?_, rfl⟩
        rw [show a.k.s ++ z_x2f ++ decS a.lv = kindT a by unfold kindT; rw [if_neg c]; simp [z_x2f]]
        rfl
      · walk_at "st"
        refine hN _ _ ⟨?_, rfl⟩
        rw [show a.k.s = kindT a by unfold kindT; rw [if_pos c]]
        rfl
    rintro ρ' h' ⟨rfl, rfl⟩
    have dl := dataT_len sma.2.2
    have eql : (eqT a.dt).length ≤ 2001 := by
      unfold eqT
      split <;> simp only [List.length_cons, List.length_nil] <;> omega
    have pn : portN ags n = a.k.ports := by unfold portN; rw [ea]
    have p3 : portN ags n ≤ 3 := by rw [pn]; cases a.k <;> decide
    have ll := eo.at el
    have pl : ∀ j, j < portN ags n → l[j]? = some (peerL wrs (n, j)) := fun j hj => by
      have := (eo.g (n, j) hj).1
      unfold getE at this
      rw [el] at this
      exact this
    walk_at "st"
    refine ⟨a, rfl, sma, dk, ?_⟩
    walk_at "st"
    rw [show kindT a ++ eqT a.dt = headT a from rfl]
    intro pw hpw
    have npw : pp ≠ pw := fun z => by rw [z, hpw] at hp1; cases hp1
    walk_at "st"
    refine go_forR1 (portN ags n) (fun RA q => by walk_at "st"; refine go_ixT (xs := [.str a.k.s, .int a.lv, a.dt.w]) rfl ?_; walk_at "st"; exact ⟨_, rfl, by walk_at "st"; rw [← pn]; exact q⟩) (by omega)
      (fun j ρ' h2 => ρ' = [some (.lst (ags.map Ag.w)), some (.lst (wrs.map wrW)), some (.lst (natW ns)), some (.ref pp), some (.int (n : Nat)), some a.w, none, some (.ref pw), none, none] ∧ h2 = updW h' pw (.lst ((headT a :: (l.take j).map (wordT fun x => ns.idxOf x)).map W.str)))
      ⟨_, _, ⟨rfl, rfl⟩, by walk_at "sub", .refl _⟩ ?_ ?_
    · rintro j ρ' h2 hj ⟨rfl, rfl⟩
      rw [Int.toNat_natCast] at hj
      have pj := pl j hj
      obtain ⟨q0, hq0⟩ : ∃ q0, peerL wrs (n, j) = some q0 := Option.ne_none_iff_exists'.mp (eo.g (n, j) hj).2
      have mq := List.mem_of_getElem? pj
      rw [hq0] at mq
      have hq1 := ge.r l (List.mem_of_getElem? el) q0 mq
      have inn : q0.1 ∈ ns := by
        cases Classical.em (q0.1 ∈ ns) with
        | inl z => exact z
        | inr z =>
          have := nodup_lt es.length (q0.1 :: ns) (List.nodup_cons.mpr ⟨z, rk.nd⟩) fun x hx => by
            rcases List.mem_cons.mp hx with rfl | hx
            · exact hq1
            · exact rk.lt x hx
          rw [List.length_cons] at this
          omega
      have pq2 : q0.2 ≤ 3 := by
        have := eo.t q0 (peerL_mem hq0)
        have : portN ags q0.1 ≤ 3 := by
          unfold portN
          split
          · rename_i b _; cases b.k <;> decide
          · omega
        omega
      have ix := List.idxOf_lt_length_of_mem inn
      have nl : ns.length ≤ 14 := by omega
      walk_at "st"
      refine ⟨wrs, (n, j), rfl, ?_⟩
      rw [hq0]
      simp only [opW]
      walk_at "st"
      refine ⟨trivial, ?_⟩
      walk_at "st"
      refine go_ixT (xs := [.int (q0.1 : Nat), .int (q0.2 : Nat)]) rfl ?_
      walk_at "st"
      refine ⟨ns.idxOf q0.1, .int (q0.1 : Nat), rfl, nat_flat ns, by unfold natW; rw [List.getElem?_map, List.getElem?_eq_getElem ix, List.getElem_idxOf]; rfl, decide_eq_true rfl, fun m z' hm ez => ?_, ?_⟩
      · unfold natW at ez
        rw [List.getElem?_map] at ez
        obtain ⟨y, hy, rfl⟩ := Option.map_eq_some_iff.mp ez
        refine decide_eq_false fun z => ?_
        have e : y = q0.1 := by omega
        obtain ⟨hml, hmv⟩ := List.getElem?_eq_some_iff.mp hy
        have e2 : ns[ns.idxOf q0.1] = q0.1 := List.getElem_idxOf ix
        have := (List.pairwise_iff_getElem.mp rk.nd) m (ns.idxOf q0.1) hml ix hm
        exact this (by rw [hmv, e2, e])
      have n1 := decS_len' (i := ((ns.idxOf q0.1 : Nat) : Int)) (by omega)
      have n2 := decS_len' (i := ((q0.2 : Nat) : Int)) (by omega)
      walk_at "st"
      refine go_str (l2 (by omega)) ?_
      walk_at "st"
      refine go_ixT (xs := [.int (q0.1 : Nat), .int (q0.2 : Nat)]) rfl ?_
      walk_at "st"
      refine go_str (l2 (by omega)) ?_
      walk_at "st"
      refine ⟨_, _, ⟨rfl, rfl⟩, by walk_at "sub", ?_⟩
      rw [updW_upd, List.take_add_one, pj, hq0]
      rw [show headT a :: (l.take j ++ (some (some q0)).toList).map (wordT fun x => ns.idxOf x) = (headT a :: (l.take j).map (wordT fun x => ns.idxOf x)) ++ [decS ((ns.idxOf q0.1 : Nat) : Int) ++ z_x2e ++ decS ((q0.2 : Nat) : Int)] by simp [wordT, z_x2e], List.map_append]
      exact .refl _
    · rintro ρ' h2 ⟨rfl, rfl⟩
      rw [Int.toNat_natCast, ← ll, List.take_length]
      dsimp only [EndsW.wn]
      have hpp2 : updW h' pw (.lst ((headT a :: l.map (wordT fun x => ns.idxOf x)).map W.str)) pp = some (.lst (((ns.take i).map (partOf ⟨ags, es, 0, []⟩ ns)).map W.str)) := by rw [updW_ne npw]; exact hp1
      have hpw2 : updW h' pw (.lst ((headT a :: l.map (wordT fun x => ns.idxOf x)).map W.str)) pw = some (.lst ((headT a :: l.map (wordT fun x => ns.idxOf x)).map W.str)) := updW_same
      walk_at "st"
      have sm2 : ((headT a :: l.map (wordT fun x => ns.idxOf x)).map List.length).sum + (headT a :: l.map (wordT fun x => ns.idxOf x)).length * z_x20.length ≤ 16000000 := by
        have h1 := headT_len sma
        have h3 : ∀ l2 : List (Option NP), (∀ o ∈ l2, o ∈ l) → ((l2.map (wordT fun x => ns.idxOf x)).map List.length).sum ≤ 4000 * l2.length := fun l2 => by
          induction l2 with
          | nil => intro _; exact Nat.le_refl _
          | cons o l2 ih =>
            intro hs
            have h1 := ih fun x hx => hs x (List.mem_cons_of_mem _ hx)
            have h2 := wordT_len (fun x => ns.idxOf x) o fun q e => by
              have hq := hs o List.mem_cons_self
              rw [e] at hq
              obtain ⟨jj, hjj, ej⟩ := List.mem_iff_getElem.mp hq
              have pj := pl jj (by omega)
              rw [List.getElem?_eq_getElem hjj, ej] at pj
              have := eo.t q (peerL_mem (Option.some.inj pj).symm)
              have : portN ags q.1 ≤ 3 := by
                unfold portN
                split
                · rename_i b _; cases b.k <;> decide
                · omega
              have := List.idxOf_le_length (a := q.1) (l := ns)
              omega
            simp only [List.map_cons, List.sum_cons, List.length_cons]
            omega
        have h4 := h3 l fun _ h => h
        simp only [List.map_cons, List.sum_cons, List.length_cons, List.length_map, z_x20, List.length_nil] at h4 ⊢
        omega
      refine go_join2 (items_ref hpw2) (strsOf_map _) sm2 ?_
      walk_at "st"
      refine ⟨_, _, ⟨rfl, rfl⟩, by walk_at "sub", fun b o e => ?_⟩
      have tk : ns.take (i + 1) = ns.take i ++ [n] := by rw [List.take_add_one, hn]; rfl
      have pt : partOf ⟨ags, es, 0, []⟩ ns n = joinS z_x20 (headT a :: l.map (wordT fun x => ns.idxOf x)) := by unfold partOf; dsimp only; rw [ea, el]; rfl
      by_cases b1 : b = pp
      · subst b1
        rw [updW_same] at e ⊢
        rw [← e, tk, List.map_append, List.map_append, ← pt]; rfl
      · rw [updW_ne b1] at e ⊢
        have b2 : b ≠ pw := fun z => by
          have hw : h pw = none := by
            rw [eh1, updW_ne npw.symm] at hpw; exact hpw
          rw [z, hw] at e; cases e
        rw [updW_ne b2, eh1, updW_ne b1]; exact e
  · rintro ρ' h' ⟨rfl, rfl⟩
    rw [show (natW ns).length = ns.length by unfold natW; rw [List.length_map], List.take_length]
    walk_at "st"
    have sl : ∀ l : List Nat, (∀ n ∈ l, n ∈ ns) → ((l.map (partOf ⟨ags, es, 0, []⟩ ns)).map List.length).sum ≤ 17000 * l.length := fun l => by
      induction l with
      | nil => intro _; exact Nat.le_refl _
      | cons n l ih =>
        intro hs
        have h1 := ih fun x hx => hs x (List.mem_cons_of_mem _ hx)
        have hlt := rk.lt n (hs n List.mem_cons_self)
        have ea := List.getElem?_eq_getElem (show n < ags.length by omega)
        have el := List.getElem?_eq_getElem hlt
        have h2 : (partOf ⟨ags, es, 0, []⟩ ns n).length ≤ 17000 := by
          unfold partOf
          dsimp only
          rw [ea, el]
          refine partT_len (sm _ (List.mem_of_getElem? ea)) (by omega) ?_ fun q hq => ?_
          · rw [eo.at el]
            unfold portN
            rw [ea]
            dsimp only
            cases (ags[n]).k <;> decide
          · obtain ⟨jj, hjj, ej⟩ := List.mem_iff_getElem.mp hq
            have gj : getE es (n, jj) = some (some q) := by unfold getE; dsimp only; rw [el, Option.bind_some, List.getElem?_eq_getElem hjj, ej]
            have pj := (eo.g (n, jj) (by rw [← eo.at el]; exact hjj)).1
            rw [gj] at pj
            have := eo.t q (peerL_mem (Option.some.inj pj).symm)
            have : portN ags q.1 ≤ 3 := by
              unfold portN
              split
              · rename_i b _; cases b.k <;> decide
              · omega
            omega
        simp only [List.map_cons, List.sum_cons, List.length_cons]
        omega
    have sl2 := sl ns fun _ h => h
    refine go_join2 (items_ref updW_same) (strsOf_map (ns.map (partOf ⟨ags, es, 0, []⟩ ns))) (by rw [List.length_map]; simp only [z_x3bx20, List.length_cons, List.length_nil]; omega) ?_
    exact .base q (.new hpp)
end

/-! ## other names for the agents -/
def mvP (σ : List Nat) (q : NP) : NP := (σ.idxOf q.1, q.2)
structure Rel (σ : List Nat) (ags ags' : List Ag) (es es' : Es) : Prop where
  nd : σ.Nodup
  la : ags'.length = σ.length
  le : es'.length = σ.length
  a : ∀ (i n : Nat), σ[i]? = some n → ags'[i]? = ags[n]?
  e : ∀ (i n : Nat) (l : List (Option NP)), σ[i]? = some n → es[n]? = some l → es'[i]? = some (l.map fun o => o.map (mvP σ))
  c : ∀ (n : Nat) (l : List (Option NP)), n ∈ σ → es[n]? = some l → ∀ q, some q ∈ l → q.1 ∈ σ
  d : ∀ n ∈ σ, n < es.length
theorem idx_get {σ : List Nat} {n : Nat} (h : n ∈ σ) : σ[σ.idxOf n]? = some n := by
  have := List.idxOf_lt_length_of_mem h
  rw [List.getElem?_eq_getElem this, List.getElem_idxOf]
theorem idx_inj {σ : List Nat} {n m : Nat} (h : n ∈ σ) (g : m ∈ σ) (e : σ.idxOf n = σ.idxOf m) : n = m := by
  have a := idx_get h
  rw [e, idx_get g] at a
  exact (Option.some.inj a).symm
theorem idx_at {σ : List Nat} (nd : σ.Nodup) {i n : Nat} (h : σ[i]? = some n) : σ.idxOf n = i := by
  have m := List.mem_of_getElem? h
  have lt := List.idxOf_lt_length_of_mem m
  have hi := (List.getElem?_eq_some_iff.mp h)
  have e := List.getElem_idxOf lt
  rcases Nat.lt_trichotomy (σ.idxOf n) i with z | z | z
  · exact absurd (by rw [e, hi.2]) ((List.pairwise_iff_getElem.mp nd) _ _ lt hi.1 z)
  · exact z
  · exact absurd (by rw [e, hi.2]) ((List.pairwise_iff_getElem.mp nd) _ _ hi.1 lt z)
theorem rowN_sub {σ : List Nat} : ∀ (l : List (Option NP)) (ns : List Nat), (∀ n ∈ ns, n ∈ σ) → (∀ q, some q ∈ l → q.1 ∈ σ) → ∀ n ∈ rowN ns l, n ∈ σ
  | [], _, h, _ => h
  | none :: l, ns, h, g => rowN_sub l ns h fun q hq => g q (List.mem_cons_of_mem _ hq)
  | some p :: l, ns, h, g => rowN_sub l _ (fun n hn => by
      split at hn
      · exact h n hn
      · rcases List.mem_append.mp hn with z | z
        · exact h n z
        · rw [List.mem_singleton.mp z]; exact g p List.mem_cons_self) fun q hq => g q (List.mem_cons_of_mem _ hq)
theorem rowN_nodup : ∀ (l : List (Option NP)) (ns : List Nat), ns.Nodup → (rowN ns l).Nodup
  | [], _, h => h
  | none :: l, ns, h => rowN_nodup l ns h
  | some p :: l, ns, h => rowN_nodup l _ (by
      split
      · exact h
      · rename_i c
        rw [List.nodup_append]
        exact ⟨h, by simp, fun a ha b hb => by rw [List.mem_singleton.mp hb]; exact fun z => c (z ▸ ha)⟩)
theorem rowN_rel {σ : List Nat} : ∀ (l : List (Option NP)) (ns : List Nat), (∀ n ∈ ns, n ∈ σ) → (∀ q, some q ∈ l → q.1 ∈ σ) →
    rowN (ns.map fun n => σ.idxOf n) (l.map fun o => o.map (mvP σ)) = (rowN ns l).map fun n => σ.idxOf n
  | [], _, _, _ => rfl
  | none :: l, ns, h, g => rowN_rel l ns h fun q hq => g q (List.mem_cons_of_mem _ hq)
  | some p :: l, ns, h, g => by
    have hp := g p List.mem_cons_self
    have ih := rowN_rel l (if p.1 ∈ ns then ns else ns ++ [p.1]) (fun n hn => by
      split at hn
      · exact h n hn
      · rcases List.mem_append.mp hn with z | z
        · exact h n z
        · rw [List.mem_singleton.mp z]; exact hp) fun q hq => g q (List.mem_cons_of_mem _ hq)
    show rowN (if σ.idxOf p.1 ∈ (ns.map fun n => σ.idxOf n) then (ns.map fun n => σ.idxOf n) else (ns.map fun n => σ.idxOf n) ++ [σ.idxOf p.1]) (l.map fun o => o.map (mvP σ)) = (rowN (if p.1 ∈ ns then ns else ns ++ [p.1]) l).map fun n => σ.idxOf n
    have key : (σ.idxOf p.1 ∈ (ns.map fun n => σ.idxOf n)) ↔ p.1 ∈ ns := by
      constructor
      · intro z
        obtain ⟨n, hn, e⟩ := List.mem_map.mp z
        rw [← idx_inj (h n hn) hp e]; exact hn
      · exact fun z => List.mem_map.mpr ⟨_, z, rfl⟩
    by_cases c : p.1 ∈ ns
    · rw [if_pos c] at ih
      rw [if_pos (key.mpr c), if_pos c]
      exact ih
    · rw [if_neg c] at ih
      rw [if_neg (fun z => c (key.mp z)), if_neg c, ← ih, List.map_append]
      rfl
theorem sub_len {σ ns : List Nat} (nd : ns.Nodup) (h : ∀ n ∈ ns, n ∈ σ) : ns.length ≤ σ.length := by
  have := nodup_lt σ.length (ns.map fun n => σ.idxOf n) (by
    rw [List.nodup_iff_pairwise_ne, List.pairwise_map]
    exact (List.nodup_iff_pairwise_ne.mp nd).imp_of_mem fun {a b} ha hb z e => z (idx_inj (h a ha) (h b hb) e)) fun x hx => by
      obtain ⟨n, hn, rfl⟩ := List.mem_map.mp hx
      exact List.idxOf_lt_length_of_mem (h n hn)
  rwa [List.length_map] at this
section
variable {σ : List Nat} {ags ags' : List Ag} {es es' : Es}
theorem Rel.reachN (k : Rel σ ags ags' es es') : ∀ (f i : Nat) (ns : List Nat), (∀ n ∈ ns, n ∈ σ) → Lw.reachN es' f i (ns.map fun n => σ.idxOf n) = (Lw.reachN es f i ns).map fun n => σ.idxOf n
  | 0, _, _, _ => rfl
  | f + 1, i, ns, h => by
    unfold Lw.reachN
    rw [List.getElem?_map]
    cases e : ns[i]? with
    | none => rfl
    | some n =>
      have hn := h n (List.mem_of_getElem? e)
      obtain ⟨l, el⟩ : ∃ l, es[n]? = some l := ⟨_, List.getElem?_eq_getElem (k.d n hn)⟩
      have ee := k.e _ n l (idx_get hn) el
      simp only [Option.map_some]
      rw [ee, el]
      simp only [Option.getD_some]
      rw [rowN_rel l ns h (k.c n l hn el)]
      exact Rel.reachN k f (i + 1) _ (rowN_sub l ns h (k.c n l hn el))
theorem Rel.fuel (k : Rel σ ags ags' es es') (m : Nat) : ∀ (f i : Nat) (ns : List Nat), ns.Nodup → (∀ n ∈ ns, n ∈ σ) → σ.length ≤ f + i → Lw.reachN es (f + m) i ns = Lw.reachN es f i ns
  | 0, i, ns, nd, h, hl => by
    have := sub_len nd h
    rw [Nat.zero_add]
    cases m with
    | zero => rfl
    | succ m => unfold Lw.reachN; rw [List.getElem?_eq_none (by omega)]
  | f + 1, i, ns, nd, h, hl => by
    rw [show f + 1 + m = (f + m) + 1 by omega]
    unfold Lw.reachN
    cases e : ns[i]? with
    | none => rfl
    | some n =>
      have hn := h n (List.mem_of_getElem? e)
      obtain ⟨l, el⟩ : ∃ l, es[n]? = some l := ⟨_, List.getElem?_eq_getElem (k.d n hn)⟩
      simp only [el, Option.getD_some]
      exact Rel.fuel k m f (i + 1) _ (rowN_nodup l ns nd) (rowN_sub l ns h (k.c n l hn el)) (by omega)
theorem Rel.reachE (k : Rel σ ags ags' es es') {r : Nat} (hr : r ∈ σ) : Lw.reachE es' (σ.idxOf r) = (Lw.reachE es r).map fun n => σ.idxOf n := by
  have ls : σ.length ≤ es.length := nodup_lt _ _ k.nd k.d
  have h1 := k.fuel (es.length - σ.length) σ.length 0 [r] (by simp) (by intro n hn; rw [List.mem_singleton.mp hn]; exact hr) (by omega)
  rw [show σ.length + (es.length - σ.length) = es.length by omega] at h1
  have h2 := k.reachN σ.length 0 [r] (by intro n hn; rw [List.mem_singleton.mp hn]; exact hr)
  unfold Lw.reachE
  rw [k.le, h1]
  exact h2
theorem reachN_sub (c : ∀ (n : Nat) (l : List (Option NP)), n ∈ σ → es[n]? = some l → ∀ q, some q ∈ l → q.1 ∈ σ) : ∀ (f i : Nat) (ns : List Nat), (∀ n ∈ ns, n ∈ σ) → ∀ n ∈ Lw.reachN es f i ns, n ∈ σ
  | 0, _, _, h => h
  | f + 1, i, ns, h => by
    unfold Lw.reachN
    cases e : ns[i]? with
    | none => exact h
    | some n =>
      dsimp only
      cases el : es[n]? with
      | none => exact reachN_sub c f (i + 1) _ (by simpa [rowN] using h)
      | some l => exact reachN_sub c f (i + 1) _ (rowN_sub l ns h (c n l (h n (List.mem_of_getElem? e)) el))
theorem idxOf_map {f : Nat → Nat} : ∀ (ns : List Nat) (x : Nat), (∀ n ∈ ns, f n = f x → n = x) → (ns.map f).idxOf (f x) = ns.idxOf x
  | [], _, _ => rfl
  | n :: ns, x, h => by
    rw [List.map_cons, List.idxOf_cons, List.idxOf_cons, idxOf_map ns x fun m hm => h m (List.mem_cons_of_mem _ hm)]
    by_cases e : n = x
    · subst e; simp
    · rw [beq_eq_false_iff_ne.mpr e, beq_eq_false_iff_ne.mpr (fun z => e (h n List.mem_cons_self z))]
/-- the canonical text stays -/
theorem Rel.text (k : Rel σ ags ags' es es') {r : Nat} (hr : r ∈ σ) (p1 p2 : List NP) : canonT ⟨ags', es', σ.idxOf r, p1⟩ = canonT ⟨ags, es, r, p2⟩ := by
  have sub : ∀ n ∈ Lw.reachE es r, n ∈ σ := reachN_sub k.c es.length 0 [r] (by intro n hn; rw [List.mem_singleton.mp hn]; exact hr)
  unfold canonT
  dsimp only
  rw [k.reachE hr, List.map_map]
  congr 1
  refine List.map_congr_left fun n hn => ?_
  have hs := sub n hn
  obtain ⟨l, el⟩ : ∃ l, es[n]? = some l := ⟨_, List.getElem?_eq_getElem (k.d n hs)⟩
  have ee := k.e _ n l (idx_get hs) el
  have ea := k.a _ n (idx_get hs)
  show partOf ⟨ags', es', σ.idxOf r, p1⟩ ((Lw.reachE es r).map fun n => σ.idxOf n) (σ.idxOf n) = partOf ⟨ags, es, r, p2⟩ (Lw.reachE es r) n
  unfold partOf
  dsimp only
  rw [ea, ee, el]
  cases ags[n]? with
  | none => rfl
  | some a =>
    dsimp only
    unfold partT
    rw [List.map_map]
    congr 2
    refine List.map_congr_left fun o ho => ?_
    cases o with
    | none => rfl
    | some q =>
      have hq := k.c n l hs el q ho
      show decS ((((Lw.reachE es r).map fun n => σ.idxOf n).idxOf (σ.idxOf q.1) : Nat) : Int) ++ 46 :: decS ((q.2 : Nat) : Int) = _
      rw [idxOf_map (f := fun n => σ.idxOf n) (Lw.reachE es r) q.1 fun m hm e => idx_inj (sub m hm) hq e]
      rfl
end
/-- wires that give the peers es -/
theorem peerL_in {p q : NP} : ∀ {ws : List Wr}, peerL ws p = some q → ∃ w ∈ ws, (w.1 = p ∧ w.2 = q) ∨ (w.2 = p ∧ w.1 = q)
  | [], e => by simp [peerL] at e
  | w :: ws, e => by
    rw [peerL] at e
    by_cases c : w.1 = p
    · rw [if_pos c] at e; exact ⟨w, List.mem_cons_self, .inl ⟨c, Option.some.inj e⟩⟩
    · rw [if_neg c] at e
      by_cases d : w.2 = p
      · rw [if_pos d] at e; exact ⟨w, List.mem_cons_self, .inr ⟨d, Option.some.inj e⟩⟩
      · rw [if_neg d] at e
        obtain ⟨v, hv, z⟩ := peerL_in e
        exact ⟨v, List.mem_cons_of_mem _ hv, z⟩
theorem endsE_of {ags : List Ag} {wrs : List Wr} {es : Es} (pm : (endsW wrs).Perm (portsL ags)) (ln : es.map List.length = ags.map fun a => a.k.ports) (g : ∀ w ∈ wrs, getE es w.1 = some (some w.2) ∧ getE es w.2 = some (some w.1)) : endsE ags wrs = some es := by
  obtain ⟨es1, h1⟩ := endsE_ok pm
  have eo := endsE_some h1
  rw [h1]
  congr 1
  have lens : es1.map List.length = es.map List.length := by rw [eo.n, ln]
  have len : es1.length = es.length := by have := congrArg List.length lens; simpa using this
  apply List.ext_getElem? 
  intro i
  by_cases hi : i < es1.length
  · have e1 := List.getElem?_eq_getElem hi
    have e2 := List.getElem?_eq_getElem (show i < es.length by omega)
    rw [e1, e2]
    congr 1
    have ll : es1[i].length = es[i].length := by
      have := congrArg (fun x => x[i]?) lens
      simp only [List.getElem?_map, e1, e2, Option.map_some] at this
      exact Option.some.inj this
    apply List.ext_getElem?
    intro j
    by_cases hj : j < es1[i].length
    · have f1 := List.getElem?_eq_getElem hj
      have f2 := List.getElem?_eq_getElem (show j < es[i].length by omega)
      rw [f1, f2]
      congr 1
      have hp : j < portN ags i := by rw [← eo.at e1]; exact hj
      obtain ⟨g1, g2⟩ := eo.g (i, j) hp
      have g3 : getE es1 (i, j) = some (es1[i])[j] := by unfold getE; dsimp only; rw [e1, Option.bind_some, f1]
      have g4 : getE es (i, j) = some (es[i])[j] := by unfold getE; dsimp only; rw [e2, Option.bind_some, f2]
      obtain ⟨q, hq⟩ := Option.ne_none_iff_exists'.mp g2
      obtain ⟨w, hw, z⟩ := peerL_in hq
      have gw := g w hw
      have : getE es (i, j) = some (some q) := by
        rcases z with ⟨z1, z2⟩ | ⟨z1, z2⟩
        · rw [← z1, ← z2]; exact gw.1
        · rw [← z1, ← z2]; exact gw.2
      rw [g4] at this
      rw [g3, hq] at g1
      rw [Option.some.inj g1, Option.some.inj this]
    · rw [List.getElem?_eq_none (by omega), List.getElem?_eq_none (by omega)]
  · rw [List.getElem?_eq_none (by omega), List.getElem?_eq_none (by omega)]

/-! ## the part of a net that the root reaches, in any order -/
theorem rowN_has : ∀ (l : List (Option NP)) (ns : List Nat), (∀ n ∈ ns, n ∈ rowN ns l) ∧ ∀ q, some q ∈ l → q.1 ∈ rowN ns l
  | [], ns => ⟨fun n h => h, fun q h => nomatch h⟩
  | none :: l, ns => by
    obtain ⟨a, b⟩ := rowN_has l ns
    exact ⟨a, fun q h => b q (by simpa using h)⟩
  | some p :: l, ns => by
    obtain ⟨a, b⟩ := rowN_has l (if p.1 ∈ ns then ns else ns ++ [p.1])
    have sub : ∀ n ∈ ns, n ∈ (if p.1 ∈ ns then ns else ns ++ [p.1]) := fun n h => by
      split
      · exact h
      · exact List.mem_append_left _ h
    have hp : p.1 ∈ (if p.1 ∈ ns then ns else ns ++ [p.1]) := by
      split
      · assumption
      · simp
    refine ⟨fun n h => a n (sub n h), fun q h => ?_⟩
    rcases List.mem_cons.mp h with z | z
    · rw [Option.some.inj z]; exact a _ hp
    · exact b q z
theorem reachN_closed {es : Es} (ge : GoodE es) : ∀ (f i : Nat) (ns : List Nat), RowOk es ns → es.length ≤ f + i → (∀ j n l, j < i → ns[j]? = some n → es[n]? = some l → ∀ q, some q ∈ l → q.1 ∈ ns) →
    ∀ n ∈ reachN es f i ns, ∀ l, es[n]? = some l → ∀ q, some q ∈ l → q.1 ∈ reachN es f i ns
  | 0, i, ns, rk, hl, inv, n, hn, l, el, q, hq => by
    have := nodup_lt _ _ rk.nd rk.lt
    obtain ⟨j, hj, e⟩ := List.mem_iff_getElem.mp (show n ∈ ns from hn)
    exact inv j n l (by omega) (by rw [List.getElem?_eq_getElem hj, e]) el q hq
  | f + 1, i, ns, rk, hl, inv, n, hn, l, el, q, hq => by
    unfold reachN at hn ⊢
    cases e : ns[i]? with
    | none =>
      rw [e] at hn
      have hi := List.getElem?_eq_none_iff.mp e
      obtain ⟨j, hj, e2⟩ := List.mem_iff_getElem.mp (show n ∈ ns from hn)
      exact inv j n l (by omega) (by rw [List.getElem?_eq_getElem hj, e2]) el q hq
    | some m =>
      rw [e] at hn
      dsimp only at hn ⊢
      have hm := rk.lt m (List.mem_of_getElem? e)
      rw [List.getElem?_eq_getElem hm] at hn ⊢
      simp only [Option.getD_some] at hn ⊢
      have hg : ∀ p, some p ∈ es[m] → p.1 < es.length := ge.r _ (List.getElem_mem hm)
      obtain ⟨h1, h2⟩ := rowN_has es[m] ns
      obtain ⟨t, et⟩ := rowN_pre es[m] ns
      refine reachN_closed ge f (i + 1) _ (rk.row _ _ hg) (by omega) (fun j k l' hj ek el' p hp => ?_) n hn l el q hq
      have lt : i < ns.length := (List.getElem?_eq_some_iff.mp e).1
      have ek2 : ns[j]? = some k := by rw [et, List.getElem?_append_left (by omega)] at ek; exact ek
      by_cases c : j = i
      · subst c
        rw [e] at ek2
        cases ek2
        rw [List.getElem?_eq_getElem hm] at el'
        cases el'
        exact h2 p hp
      · exact h1 _ (inv j k l' (by omega) ek2 el' p hp)
theorem reachE_closed {es : Es} (ge : GoodE es) {r : Nat} (h : r < es.length) : ∀ n ∈ reachE es r, ∀ l, es[n]? = some l → ∀ q, some q ∈ l → q.1 ∈ reachE es r :=
  reachN_closed ge es.length 0 [r] ⟨by simp, by intro x hx; rw [List.mem_singleton.mp hx]; exact h⟩ (by omega) fun j n l hj => absurd hj (Nat.not_lt_zero _)
theorem reachN_mem {es : Es} : ∀ (f i : Nat) (ns : List Nat), ∀ n ∈ ns, n ∈ reachN es f i ns
  | 0, _, _, n, h => h
  | f + 1, i, ns, n, h => by
    unfold reachN
    cases ns[i]? with
    | none => exact h
    | some m => exact reachN_mem f (i + 1) _ n ((rowN_has _ ns).1 n h)
def onlyA (σ : List Nat) (ags : List Ag) : List Ag := σ.map fun n => (ags[n]?).getD ⟨.root, 0, .non⟩
def relE (σ : List Nat) (es : Es) : Es := σ.map fun n => ((es[n]?).getD []).map fun o => o.map (mvP σ)
def mvW (σ : List Nat) (w : Wr) : Wr := (mvP σ w.1, mvP σ w.2)
def onlyW (σ : List Nat) (wrs : List Wr) : List Wr := (wrs.filter fun w => decide (w.1.1 ∈ σ)).map (mvW σ)
theorem rel_only {σ : List Nat} {ags : List Ag} {es : Es} (nd : σ.Nodup) (d : ∀ n ∈ σ, n < es.length) (ln : es.length = ags.length) (c : ∀ (n : Nat) (l : List (Option NP)), n ∈ σ → es[n]? = some l → ∀ q, some q ∈ l → q.1 ∈ σ) : Rel σ ags (onlyA σ ags) es (relE σ es) := by
  refine ⟨nd, by simp [onlyA], by simp [relE], fun i n h => ?_, fun i n l h el => ?_, c, d⟩
  · have := d n (List.mem_of_getElem? h)
    unfold onlyA
    rw [List.getElem?_map, h, Option.map_some, List.getElem?_eq_getElem (show n < ags.length by omega), Option.getD_some]
  · unfold relE
    rw [List.getElem?_map, h, Option.map_some, el, Option.getD_some]
theorem endsW_map (σ : List Nat) : ∀ ws : List Wr, endsW (ws.map (mvW σ)) = (endsW ws).map (mvP σ)
  | [] => rfl
  | w :: ws => by rw [List.map_cons, endsW_cons, endsW_map σ ws, endsW_cons]; rfl
theorem mvP_inj {σ : List Nat} {p q : NP} (hp : p.1 ∈ σ) (hq : q.1 ∈ σ) (e : mvP σ p = mvP σ q) : p = q := by
  have e1 : (mvP σ p).1 = (mvP σ q).1 := by rw [e]
  have e2 : (mvP σ p).2 = (mvP σ q).2 := by rw [e]
  exact Prod.ext (idx_inj hp hq e1) e2
theorem endsW_sub {a b : List Wr} (h : a.Sublist b) : (endsW a).Sublist (endsW b) := by
  induction h with
  | slnil => exact List.Sublist.slnil
  | cons w _ ih => rw [endsW_cons]; exact (ih.cons _).cons _
  | cons_cons w _ ih => rw [endsW_cons, endsW_cons]; exact (ih.cons_cons _).cons_cons _
theorem perm_mem {α : Type} [DecidableEq α] {a b : List α} (h1 : a.Nodup) (h2 : b.Nodup) (h : ∀ x, x ∈ a ↔ x ∈ b) : a.Perm b := by
  rw [List.perm_iff_count]
  intro x
  by_cases c : x ∈ a
  · rw [h1.count, if_pos c, h2.count, if_pos ((h x).mp c)]
  · rw [List.count_eq_zero_of_not_mem c, List.count_eq_zero_of_not_mem fun z => c ((h x).mpr z)]
section
variable {ags : List Ag} {wrs : List Wr} {es : Es} {σ : List Nat}
theorem getE_mv (k : Rel σ ags (onlyA σ ags) es (relE σ es)) {p : NP} (hp : p.1 ∈ σ) {o : Option NP} (h : getE es p = some o) : getE (relE σ es) (mvP σ p) = some (o.map (mvP σ)) := by
  unfold getE at h ⊢
  obtain ⟨l, hl, ho⟩ := Option.bind_eq_some_iff.mp h
  have := k.e _ p.1 l (idx_get hp) hl
  show ((relE σ es)[σ.idxOf p.1]?).bind (fun l => l[p.2]?) = _
  rw [this, Option.bind_some, List.getElem?_map, ho]; rfl
theorem only_ends (dn : DrN ags wrs) (ee : endsE ags wrs = some es) (k : Rel σ ags (onlyA σ ags) es (relE σ es)) : (endsW (onlyW σ wrs)).Perm (portsL (onlyA σ ags)) ∧ endsE (onlyA σ ags) (onlyW σ wrs) = some (relE σ es) := by
  have nd : (endsW wrs).Nodup := dn.pm.nodup_iff.mpr (portsK_nodup _ _)
  have eo := endsE_some ee
  have ge := eo.good
  have ln := eo.len
  have wport : ∀ w ∈ wrs, w.1.2 < portN ags w.1.1 ∧ w.2.2 < portN ags w.2.1 := fun w hw => by
    have m1 : w.1 ∈ endsW wrs := by unfold endsW; rw [List.mem_flatMap]; exact ⟨w, hw, List.mem_cons_self⟩
    have m2 : w.2 ∈ endsW wrs := by unfold endsW; rw [List.mem_flatMap]; exact ⟨w, hw, List.mem_cons_of_mem _ List.mem_cons_self⟩
    exact ⟨eo.t _ m1, eo.t _ m2⟩
  have wg : ∀ w ∈ wrs, getE es w.1 = some (some w.2) ∧ getE es w.2 = some (some w.1) := fun w hw => by
    obtain ⟨a, b⟩ := wport w hw
    have p1 : ∀ ws : List Wr, (endsW ws).Nodup → w ∈ ws → peerL ws w.1 = some w.2 := fun ws => by
      induction ws with
      | nil => intro _ h; cases h
      | cons v ws ih =>
        intro nd hm
        rw [endsW_cons, List.nodup_cons, List.nodup_cons] at nd
        rcases List.mem_cons.mp hm with rfl | hm
        · simp [peerL]
        · have m1 : w.1 ∈ endsW ws := by unfold endsW; rw [List.mem_flatMap]; exact ⟨w, hm, List.mem_cons_self⟩
          rw [peerL, if_neg (fun z => nd.1 (by rw [z]; exact List.mem_cons_of_mem _ m1)), if_neg (fun z => nd.2.1 (by rw [z]; exact m1))]
          exact ih nd.2.2 hm
    have q1 := p1 wrs nd hw
    have q2 := peerL_sym nd q1
    exact ⟨by rw [(eo.g _ a).1, q1], by rw [(eo.g _ b).1, q2]⟩
  have clo : ∀ w ∈ wrs, w.1.1 ∈ σ ↔ w.2.1 ∈ σ := fun w hw => by
    obtain ⟨a, b⟩ := wg w hw
    have step : ∀ {p q : NP}, getE es p = some (some q) → p.1 ∈ σ → q.1 ∈ σ := fun {p q} g hp => by
      unfold getE at g
      obtain ⟨l, hl, ho⟩ := Option.bind_eq_some_iff.mp g
      exact k.c p.1 l hp hl q (List.mem_of_getElem? ho)
    exact ⟨step a, step b⟩
  have fin : ∀ p ∈ endsW (wrs.filter fun w => decide (w.1.1 ∈ σ)), p.1 ∈ σ ∧ p ∈ endsW wrs := fun p hp => by
    unfold endsW at hp
    rw [List.mem_flatMap] at hp
    obtain ⟨w, hw, z⟩ := hp
    rw [List.mem_filter, decide_eq_true_eq] at hw
    have hm : p ∈ endsW wrs := by unfold endsW; rw [List.mem_flatMap]; exact ⟨w, hw.1, z⟩
    simp only [List.mem_cons, List.not_mem_nil, or_false] at z
    rcases z with rfl | rfl
    · exact ⟨hw.2, hm⟩
    · exact ⟨(clo w hw.1).mp hw.2, hm⟩
  have pn : ∀ (i n : Nat), σ[i]? = some n → portN (onlyA σ ags) i = portN ags n := fun i n h => by unfold portN; rw [k.a i n h]
  have pm : (endsW (onlyW σ wrs)).Perm (portsL (onlyA σ ags)) := by
    unfold onlyW
    rw [endsW_map]
    refine perm_mem ?_ (portsK_nodup _ _) fun p => ?_
    · rw [List.nodup_iff_pairwise_ne, List.pairwise_map]
      have := nd.sublist (endsW_sub (List.filter_sublist (p := fun w : Wr => decide (w.1.1 ∈ σ)) (l := wrs)))
      exact (List.nodup_iff_pairwise_ne.mp this).imp_of_mem fun {a b} ha hb z e => z (mvP_inj (fin a ha).1 (fin b hb).1 e)
    · rw [mem_portsL]
      constructor
      · intro z
        obtain ⟨q, hq, rfl⟩ := List.mem_map.mp z
        obtain ⟨a, b⟩ := fin q hq
        show q.2 < portN (onlyA σ ags) (σ.idxOf q.1)
        rw [pn _ _ (idx_get a)]
        exact eo.t q b
      · intro z
        have hi := portN_lt z
        rw [k.la] at hi
        have ei := List.getElem?_eq_getElem hi
        rw [pn _ _ ei] at z
        have mem : (σ[p.1], p.2) ∈ endsW wrs := dn.pm.mem_iff.mpr (mem_portsL.mpr z)
        refine List.mem_map.mpr ⟨(σ[p.1], p.2), ?_, Prod.ext (idx_at k.nd ei) rfl⟩
        unfold endsW at mem ⊢
        rw [List.mem_flatMap] at mem ⊢
        obtain ⟨w, hw, zz⟩ := mem
        refine ⟨w, List.mem_filter.mpr ⟨hw, decide_eq_true ?_⟩, zz⟩
        simp only [List.mem_cons, List.not_mem_nil, or_false] at zz
        rcases zz with z1 | z1
        · rw [← z1]; exact List.getElem_mem hi
        · exact (clo w hw).mpr (by rw [← z1]; exact List.getElem_mem hi)
  refine ⟨pm, endsE_of pm ?_ fun w hw => ?_⟩
  · unfold relE onlyA
    rw [List.map_map, List.map_map]
    refine List.map_congr_left fun n hn => ?_
    have hd := k.d n hn
    have el := List.getElem?_eq_getElem hd
    have := eo.at el
    show (((es[n]?).getD []).map fun o => o.map (mvP σ)).length = ((ags[n]?).getD ⟨.root, 0, .non⟩).k.ports
    rw [el, Option.getD_some, List.length_map, this]
    unfold portN
    rw [List.getElem?_eq_getElem (show n < ags.length by omega)]; rfl
  · unfold onlyW at hw
    obtain ⟨v, hv, rfl⟩ := List.mem_map.mp hw
    rw [List.mem_filter, decide_eq_true_eq] at hv
    obtain ⟨g1, g2⟩ := wg v hv.1
    exact ⟨getE_mv k hv.2 g1, getE_mv k ((clo v hv.1).mp hv.2) g2⟩
end

theorem all_in {n : Nat} {ns : List Nat} (nd : ns.Nodup) (lt : ∀ x ∈ ns, x < n) (l : n ≤ ns.length) : ∀ x, x < n → x ∈ ns := fun x hx => by
  cases Classical.em (x ∈ ns) with
  | inl z => exact z
  | inr z =>
    have := nodup_lt n (x :: ns) (List.nodup_cons.mpr ⟨z, nd⟩) fun y hy => by
      rcases List.mem_cons.mp hy with rfl | hy
      · exact hx
      · exact lt y hy
    rw [List.length_cons] at this
    omega
/-- a whole net's canonical text may be asked -/
theorem can_of {ags : List Ag} {wrs : List Wr} {es : Es} {r : Nat} {act : List NP} (ee : endsE ags wrs = some es) (ok : ∀ a ∈ ags, a.Sm ∧ a.dok = true) (hr : r < es.length) (hl : es.length ≤ (reachE es r).length) : CanOk ⟨ags, es, r, act⟩ := by
  have eo := endsE_some ee
  have ge := eo.good
  have rk := reachN_ok ge es.length 0 [r] ⟨by simp, by intro x hx; rw [List.mem_singleton.mp hx]; exact hr⟩
  refine ⟨ge, hr, ok, fun i a l ha hl => ?_, fun l hl q hq => ?_, all_in rk.nd rk.lt hl⟩
  · dsimp only at ha hl
    rw [eo.at hl]; unfold portN; rw [ha]
  · dsimp only at hl
    obtain ⟨i, hi, e⟩ := List.mem_iff_getElem.mp hl
    obtain ⟨j, hj, e2⟩ := List.mem_iff_getElem.mp hq
    have el := List.getElem?_eq_getElem hi
    rw [e] at el
    have gj : getE es (i, j) = some (some q) := by unfold getE; dsimp only; rw [el, Option.bind_some, List.getElem?_eq_getElem hj, e2]
    have pj := (eo.g (i, j) (by rw [← eo.at el]; exact hj)).1
    rw [gj] at pj
    have := eo.t q (peerL_mem (Option.some.inj pj).symm)
    have : portN ags q.1 ≤ 3 := by
      unfold portN
      split
      · rename_i b _; cases b.k <;> decide
      · omega
    omega
structure PartN (ags : List Ag) (wrs : List Wr) (es : Es) (σ : List Nat) : Prop where
  dn : DrN ags wrs
  ee : endsE ags wrs = some es
  pm : σ.Perm (reachE es 0)
section
variable {ags : List Ag} {wrs : List Wr} {es : Es} {σ : List Nat}
theorem PartN.len (p : PartN ags wrs es σ) : es.length = ags.length := (endsE_some p.ee).len
theorem PartN.rk (p : PartN ags wrs es σ) : RowOk es (reachE es 0) := by
  have := p.len
  have := p.dn.l2
  exact reachN_ok (endsE_some p.ee).good es.length 0 [0] ⟨by simp, by intro x hx; rw [List.mem_singleton.mp hx]; omega⟩
theorem PartN.zero (p : PartN ags wrs es σ) : 0 ∈ σ := p.pm.mem_iff.mpr (reachN_mem _ _ _ 0 (by simp))
theorem PartN.rel (p : PartN ags wrs es σ) : Rel σ ags (onlyA σ ags) es (relE σ es) := by
  have h0 : 0 < es.length := by have := p.len; have := p.dn.l2; omega
  exact rel_only (p.pm.nodup_iff.mpr p.rk.nd) (fun n hn => p.rk.lt n (p.pm.mem_iff.mp hn)) p.len fun n l hn hl q hq => p.pm.mem_iff.mpr (reachE_closed (endsE_some p.ee).good h0 n (p.pm.mem_iff.mp hn) l hl q hq)
theorem only_at (p : PartN ags wrs es σ) {i n : Nat} (h : σ[i]? = some n) : ∃ a, ags[n]? = some a ∧ (onlyA σ ags)[i]? = some a ∧ (a.k = .root ↔ n = 0) := by
  have hn := p.rel.d n (List.mem_of_getElem? h)
  have := p.len
  have ea := List.getElem?_eq_getElem (show n < ags.length by omega)
  refine ⟨_, ea, by rw [p.rel.a i n h, ea], fun z => ?_, ?_⟩
  · rcases Nat.eq_zero_or_pos n with y | y
    · exact y
    · exact absurd z (p.dn.tl n _ y ea)
  · rintro rfl
    have := p.dn.hd
    rw [ea] at this
    rw [Option.some.inj this]
theorem only_mem (p : PartN ags wrs es σ) : ∀ a ∈ onlyA σ ags, a ∈ ags := fun a ha => by
  obtain ⟨i, hi, e⟩ := List.mem_iff_getElem.mp ha
  have hi2 : i < σ.length := by rw [← p.rel.la]; exact hi
  obtain ⟨b, h1, h2, _⟩ := only_at p (List.getElem?_eq_getElem hi2)
  rw [List.getElem?_eq_getElem hi, e] at h2
  rw [Option.some.inj h2]; exact List.mem_of_getElem? h1
theorem only_agsOk (p : PartN ags wrs es σ) : agsOk (onlyA σ ags) = true := by
  unfold agsOk
  rw [Bool.and_eq_true, List.all_eq_true, decide_eq_true_eq]
  refine ⟨fun a ha => (p.dn.ok a (only_mem p a ha)).1, ?_⟩
  unfold rootsN onlyA
  rw [List.filter_map, List.length_map]
  have : σ.filter ((fun a : Ag => decide (a.k = .root)) ∘ fun n => (ags[n]?).getD ⟨.root, 0, .non⟩) = σ.filter fun n => decide (n = 0) := by
    refine List.filter_congr fun n hn => ?_
    obtain ⟨i, hi, e⟩ := List.mem_iff_getElem.mp hn
    obtain ⟨a, h1, _, h3⟩ := only_at p (show σ[i]? = some n by rw [List.getElem?_eq_getElem hi, e])
    show decide (((ags[n]?).getD ⟨.root, 0, .non⟩).k = .root) = decide (n = 0)
    rw [h1, Option.getD_some, Bool.eq_iff_iff, decide_eq_true_eq, decide_eq_true_eq]; exact h3
  rw [this]
  have c := p.rel.nd.count (a := 0)
  rw [if_pos p.zero, List.count_eq_countP, List.countP_eq_length_filter] at c
  rw [← c]
  congr 1
theorem only_root (p : PartN ags wrs es σ) : rootIx (onlyA σ ags) = σ.idxOf 0 := by
  obtain ⟨a, h1, h2⟩ := rootIx_ok (only_agsOk p)
  have hi : rootIx (onlyA σ ags) < σ.length := by rw [← p.rel.la]; exact (List.getElem?_eq_some_iff.mp h1).1
  have ei := List.getElem?_eq_getElem hi
  obtain ⟨b, _, h3, h4⟩ := only_at p ei
  rw [h1] at h3
  rw [Option.some.inj h3] at h2
  exact (idx_at p.rel.nd (by rw [ei, h4.mp h2])).symm
/-- the net of the part -/
def onlyS (ags : List Ag) (es : Es) (σ : List Nat) : NS := ⟨onlyA σ ags, relE σ es, σ.idxOf 0, actN (σ.idxOf 0) (relE σ es) (relE σ es).length⟩
theorem only_reach (p : PartN ags wrs es σ) : reachE (relE σ es) (σ.idxOf 0) = (reachE es 0).map fun n => σ.idxOf n := p.rel.reachE p.zero
theorem only_net (p : PartN ags wrs es σ) : netE (onlyA σ ags) (onlyW σ wrs) = some (onlyS ags es σ) ∧ CanOk (onlyS ags es σ) ∧ canonT (onlyS ags es σ) = canonT ⟨ags, es, 0, []⟩ := by
  obtain ⟨_, e2⟩ := only_ends p.dn p.ee p.rel
  have rl : (reachE (relE σ es) (σ.idxOf 0)).length = σ.length := by rw [only_reach p, List.length_map, p.pm.length_eq]
  refine ⟨?_, can_of e2 (fun a ha => ?_) ?_ ?_, p.rel.text p.zero _ _⟩
  · unfold netE
    rw [only_agsOk p, e2, only_root p]
    simp only [if_true]
    rw [if_neg (by rw [rl, p.rel.la]; exact Nat.lt_irrefl _)]
    rfl
  · have := p.dn.ok a (only_mem p a ha)
    exact ⟨p.dn.sm a (only_mem p a ha), Ag.dok_of this.1⟩
  · rw [p.rel.le]; exact List.idxOf_lt_length_of_mem p.zero
  · rw [rl, p.rel.le]; exact Nat.le_refl _
/-- the whole net, in the order of the names -/
theorem only_drn (p : PartN ags wrs es σ) (so : σ.Pairwise (· ≤ ·)) : DrN (onlyA σ ags) (onlyW σ wrs) ∧ σ.idxOf 0 = 0 := by
  have h0 : σ[0]? = some 0 := by
    have z := idx_get p.zero
    cases hs : σ with
    | nil => rw [hs] at z; cases z
    | cons a r =>
      rw [hs] at so
      have m : 0 ∈ a :: r := by rw [← hs]; exact p.zero
      rcases List.mem_cons.mp m with y | y
      · rw [← y]; rfl
      · have := (List.pairwise_cons.mp so).1 0 y
        rw [show a = 0 by omega]; rfl
  have i0 := idx_at p.rel.nd h0
  refine ⟨⟨?_, fun i a hi ha => ?_, fun a ha => p.dn.ok a (only_mem p a ha), ?_, ?_, (only_ends p.dn p.ee p.rel).1, fun a ha => p.dn.sm a (only_mem p a ha), fun a ha => p.dn.d64 a (only_mem p a ha)⟩, i0⟩
  · rw [p.rel.a 0 0 h0]; exact p.dn.hd
  · have hl : i < σ.length := by rw [← p.rel.la]; exact (List.getElem?_eq_some_iff.mp ha).1
    have ei := List.getElem?_eq_getElem hl
    obtain ⟨b, _, h3, h4⟩ := only_at p ei
    rw [ha] at h3
    rw [Option.some.inj h3]
    intro z
    have := idx_at p.rel.nd (show σ[i]? = some 0 by rw [ei, h4.mp z])
    omega
  · rw [p.rel.la, p.pm.length_eq]
    have hlen := p.len
    have hl2 := p.dn.l2
    have eo := endsE_some p.ee
    obtain ⟨l, el⟩ : ∃ l, es[0]? = some l := ⟨_, List.getElem?_eq_getElem (by omega)⟩
    obtain ⟨q, r, eq⟩ := eo.head el
    have pn : portN ags 0 = 1 := by unfold portN; rw [p.dn.hd]; rfl
    have pq : peerL wrs (0, 0) = some q := by
      have := (eo.g (0, 0) (by show 0 < portN ags 0; omega)).1
      unfold getE at this
      rw [el, eq] at this
      exact (Option.some.inj this).symm
    have ne := peerL_ne (p.dn.pm.nodup_iff.mpr (portsK_nodup _ _)) pq
    have q0 : q.1 ≠ 0 := fun z => by
      have := eo.t q (peerL_mem pq)
      rw [z, pn] at this
      exact ne (Prod.ext z.symm (by show 0 = q.2; omega))
    have m1 : q.1 ∈ reachE es 0 := reachE_closed eo.good (by omega) 0 (p.pm.mem_iff.mp p.zero) l el q (by rw [eq]; exact List.mem_cons_self)
    have := sub_len (σ := reachE es 0) (ns := [0, q.1]) (by simp [q0.symm]) fun n hn => by
      simp only [List.mem_cons, List.not_mem_nil, or_false] at hn
      rcases hn with rfl | rfl
      · exact p.pm.mem_iff.mp p.zero
      · exact m1
    simpa using this
  · rw [p.rel.la, p.pm.length_eq]
    have := nodup_lt _ _ p.rk.nd p.rk.lt
    have := p.len
    have := p.dn.l14
    omega
end
def spOnly : SpW := fun ws h R _ => ∃ (ags : List Ag) (wrs : List Wr) (σ : List Nat), ws = [.lst (ags.map Ag.w), .lst (wrs.map wrW), .lst (natW σ)] ∧ σ.Nodup ∧ (∀ n ∈ σ, n < ags.length) ∧ σ.length ≤ 60 ∧ wrs.length ≤ 60 ∧ (∀ w ∈ wrs, w.1.1 ∈ σ → w.2.1 ∈ σ) ∧ R (.tup [.lst ((onlyA σ ags).map Ag.w), .lst ((onlyW σ wrs).map wrW)]) h
section
variable {P : Program} {w : World} {K : PySem.W.Frag} {mg : Str → Option Value} {base : Heap}
theorem ok__law_only (T : Tx P w K mg) : FnOk P w K mg base CX0 1 T.a__law_only T.fd__law_only ["agents", "wires", "order"] (lSp K spOnly) := by
  refine fnW T.F__law_only sc__law_only (fun ws h R ex ⟨_, _, _, e, _⟩ => by rw [e]; rfl) fun cdv A outer s H E hr => ⟨_, (wss_cons (ws_setLc (i := 3) (x := "name") (j := 6) rfl sc__law_only.nd rfl rfl (sw_true rfl rfl rfl (by decide +kernel)) (wi_list (w_var 2)) (blkOk_by (N := N__law_only) (sc := defScope s__law_only) (by decide +kernel)) (fun _ _ _ _ _ => pg_name (i := 6) sc__law_only.nd rfl (Or.inl rfl)) (fun _ _ _ _ _ => wts_nil) (fun _ _ _ _ _ => (w_ix (w_var 0) (w_var 6))))
    (wss_cons (ws_set (i := 4) sc__law_only.nd (w_lstO wa_nil))
    (wss_cons (ws_for PassesOwn.never rfl (wi_list (w_var 1)) (wg_name (i := 5) sc__law_only.nd) (wss_one (ws_if (wt_cmp ow_in lf_in (w_ix (w_ix (w_var 5) w_int) w_int) (w_var 2) (by rfl)) (wss_one (ws_expr (w_bm PySem.F.plainAttrs_list PySem.F.slot_list_append PySem.F.type_list_append mt_append tyL_ok lf_append (w_var 4) (wa_cons (w_tup (wa_cons (w_tup (wa_cons (w_bm PySem.F.plainAttrs_list PySem.F.slot_list_index PySem.F.type_list_index mt_index tyLl_ok lf_indexL (w_var 2) (wa_cons (w_ix (w_ix (w_var 5) w_int) w_int) wa_nil)) (wa_cons (w_ix (w_ix (w_var 5) w_int) w_int) wa_nil))) (wa_cons (w_tup (wa_cons (w_bm PySem.F.plainAttrs_list PySem.F.slot_list_index PySem.F.type_list_index mt_index tyLl_ok lf_indexL (w_var 2) (wa_cons (w_ix (w_ix (w_var 5) w_int) w_int) wa_nil)) (wa_cons (w_ix (w_ix (w_var 5) w_int) w_int) wa_nil))) wa_nil))) wa_nil)))) wss_nil)))
    (wss_one (ws_ret (w_tup (wa_cons (w_var 3) (wa_cons (w_var 4) wa_nil)))))))), fun ws h R ex ⟨ags, wrs, σ, e, nd, lt, l60, w60, cl, q⟩ => ?_⟩
  subst e
  have ixOf : ∀ (x : Nat) (h : HW) (R : KW), x ∈ σ → R (.int ((σ.idxOf x : Nat) : Int)) h → indexLW (.lst (natW σ)) [.int ((x : Nat) : Int)] h R := fun x h R m r => by
    have ix := List.idxOf_lt_length_of_mem m
    refine ⟨σ.idxOf x, .int (x : Nat), rfl, nat_flat σ, by unfold natW; rw [List.getElem?_map, List.getElem?_eq_getElem ix, List.getElem_idxOf]; rfl, decide_eq_true rfl, fun k z' hm ez => ?_, r⟩
    unfold natW at ez
    rw [List.getElem?_map] at ez
    obtain ⟨y, hy, rfl⟩ := Option.map_eq_some_iff.mp ez
    refine decide_eq_false fun z => ?_
    have e : y = x := by omega
    have e2 := idx_at nd hy
    rw [e] at e2
    omega
  walk_at "st"
  refine go_lcI (natW σ) ((onlyA σ ags).map Ag.w) (fun P q => by walk_at "st"; exact q) (by simp [onlyA, natW]) (by simp [natW]; omega) (fun i w y h' R' e1 e2 r => ?_) ?_
  · unfold natW at e1
    rw [List.getElem?_map] at e1
    obtain ⟨n, hn, rfl⟩ := Option.map_eq_some_iff.mp e1
    have hlt := lt n (List.mem_of_getElem? hn)
    have ea := List.getElem?_eq_getElem hlt
    unfold onlyA at e2
    rw [List.getElem?_map, List.getElem?_map, hn] at e2
    simp only [Option.map_some, ea, Option.getD_some] at e2
    cases e2
    have e5 : atI (ags.map Ag.w) ((n : Nat) : Int) = some (ags[n]).w := atI_nat (by rw [List.getElem?_map, ea]; rfl)
    walk_at "st"
    exact r
  walk_at "st"
  intro pm hpm
  walk_at "st"
  refine go_forL (wrs.map wrW) (fun R q => by walk_at "st"; exact q)
    (fun i ρ' h' => ρ' = [some (.lst (ags.map Ag.w)), some (.lst (wrs.map wrW)), some (.lst (natW σ)), some (.lst ((onlyA σ ags).map Ag.w)), some (.ref pm), none, none] ∧ h' = updW h pm (.lst ((onlyW σ (wrs.take i)).map wrW)))
    (.of ⟨rfl, rfl⟩) ?_ ?_
  · rintro i w ρ' h' hw ⟨rfl, rfl⟩
    rw [List.getElem?_map] at hw
    obtain ⟨⟨a, b⟩, hwr, rfl⟩ := Option.map_eq_some_iff.mp hw
    have tk : wrs.take (i + 1) = wrs.take i ++ [(a, b)] := by rw [List.take_add_one, hwr]; rfl
    have lo : ((onlyW σ (wrs.take i)).map wrW).length ≤ 60 := by
      unfold onlyW
      rw [List.length_map, List.length_map]
      have := List.length_filter_le (fun w : Wr => decide (w.1.1 ∈ σ)) (wrs.take i)
      rw [List.length_take] at this
      omega
    have hpm2 : updW h pm (.lst ((onlyW σ (wrs.take i)).map wrW)) pm = some (.lst ((onlyW σ (wrs.take i)).map wrW)) := updW_same
    rw [show wrW (a, b) = .tup [.tup [.int (a.1 : Nat), .int (a.2 : Nat)], .tup [.int (b.1 : Nat), .int (b.2 : Nat)]] from rfl]
    walk_at "st"
    refine go_inL rfl (nat_flat σ) ?_
    rw [nat_any]
    refine go_dec (fun c => ?_) fun c => ?_
    · have c2 := cl _ (List.mem_of_getElem? hwr) c
      walk_at "st"
      refine ⟨trivial, ?_⟩
      walk_at "st"
      refine ixOf _ _ _ c ?_
      walk_at "st"
      refine ⟨trivial, ?_⟩
      walk_at "st"
      refine ixOf _ _ _ c2 ?_
      walk_at "st"
      refine ⟨_, _, ⟨rfl, rfl⟩, by walk_at "sub", ?_⟩
      rw [updW_upd, tk, show onlyW σ (wrs.take i ++ [(a, b)]) = onlyW σ (wrs.take i) ++ [mvW σ (a, b)] by unfold onlyW; rw [List.filter_append, List.map_append]; simp [c], List.map_append]
      exact .refl _
    · walk_at "st"
      refine ⟨_, _, ⟨rfl, rfl⟩, by walk_at "sub", ?_⟩
      rw [tk, show onlyW σ (wrs.take i ++ [(a, b)]) = onlyW σ (wrs.take i) by unfold onlyW; rw [List.filter_append, List.map_append]; simp [c]]
      exact .refl _
  · rintro ρ' h' ⟨rfl, rfl⟩
    rw [List.length_map, List.take_length]
    walk_at "st"
    exact .mk q (.tup (.cons (.same _) (.cons (.lst updW_same hpm (.same _)) .nil))) (.new hpm)
end

/-! ## numbers read -/
def dgs (s : List Nat) : List Nat := if s.take 1 = [45] then s.drop 1 else s
def parseI (s : List Nat) : Option Int := if dgs s = [] ∨ ¬ (∀ c ∈ dgs s, c ∈ digitsS) then none else some (if dgs s = s then ((PySem.NumText.digitsVal (dgs s) : Nat) : Int) else -((PySem.NumText.digitsVal (dgs s) : Nat) : Int))

def spIntFrom : SpW := fun ws h R _ => ∃ s : List Nat, ws = [.str s] ∧ s.length ≤ 63 ∧ R (optI (parseI s)) h
theorem dg_mem {c : Nat} (h : c ∈ digitsS) : 48 ≤ c ∧ c ≤ 57 := by
  simp only [digitsS, List.mem_cons, List.not_mem_nil, or_false] at h
  omega
theorem dgs_len (s : List Nat) : (dgs s).length ≤ s.length := by
  unfold dgs; split
  · rw [List.length_drop]; omega
  · omega
theorem dv_lt : ∀ (s : List Nat) (a : Nat), (∀ c ∈ s, c ≤ 57) → s.foldl (fun acc c => acc * 10 + (c - 48)) a < (a + 1) * 10 ^ s.length
  | [], a, _ => by simp
  | c :: s, a, h => by
    have ih := dv_lt s (a * 10 + (c - 48)) fun d hd => h d (List.mem_cons_of_mem _ hd)
    have hc := h c List.mem_cons_self
    rw [List.foldl_cons, List.length_cons, Nat.pow_succ]
    refine Nat.lt_of_lt_of_le ih ?_
    rw [Nat.mul_comm (10 ^ s.length) 10, ← Nat.mul_assoc]
    exact Nat.mul_le_mul_right _ (by omega)
theorem parseI_sm {s : List Nat} {i : Int} (h : parseI s = some i) (l : s.length ≤ 12) : SmI i := by
  unfold parseI at h
  split at h
  · cases h
  · rename_i c
    have c2 : ∀ c ∈ dgs s, c ∈ digitsS := Classical.byContradiction fun z => c (.inr z)
    have lt := dv_lt (dgs s) 0 fun d hd => (dg_mem (c2 d hd)).2
    have lt2 : (0 + 1) * 10 ^ (dgs s).length ≤ 10 ^ 12 := by
      rw [Nat.zero_add, Nat.one_mul]
      exact Nat.pow_le_pow_right (by decide) (Nat.le_trans (dgs_len s) l)
    have lt3 : PySem.NumText.digitsVal (dgs s) < 10 ^ 12 := Nat.lt_of_lt_of_le lt lt2
    unfold SmI
    split at h <;> cases h <;> omega
theorem go_lcHs {α : Type} {ρ : SlW} {h : HW} {R : KW} {ti : TIW} {j : Nat} {te : TEW} (xs : List α) (rep g : α → W) (ev : ∀ P : List W → HW → Prop, P (xs.map rep) h → ti ρ h P) (hz : xs.length ≤ 16000000)
    (el : ∀ (x : α) (h' : HW) (R' : KW), x ∈ xs → R' (g x) h' → te (ρ.set j (some (rep x))) h' R') (k : R (.lst (xs.map g)) h) : oLc ti j oYes te ρ h R := by
  refine go_lcI (xs.map rep) (xs.map g) ev (by simp) (by simpa using hz) (fun i w y h' R' e1 e2 r => ?_) k
  rw [List.getElem?_map] at e1 e2
  obtain ⟨x, hx, rfl⟩ := Option.map_eq_some_iff.mp e1
  rw [hx] at e2
  cases e2
  exact el x h' R' (List.mem_of_getElem? hx) r
section
variable {P : Program} {w : World} {K : PySem.W.Frag} {mg : Str → Option Value} {base : Heap}
theorem ok_integer_from (T : Tx P w K mg) : FnOk P w K mg base CX0 1 T.a_integer_from T.fd_integer_from ["text"] (lSp K spIntFrom) := by
  refine fnW T.F_integer_from sc_integer_from (fun ws h R ex ⟨_, e, _⟩ => by rw [e]; rfl) fun cdv A outer s H E hr => ⟨_, (wss_cons (ws_set (i := 1) sc_integer_from.nd (w_ifExp (wt_cmp (ow_eq hr.units) lf_eq (w_slice (w_var 0) wo_none (wo_some w_int)) (w_str z_x2d) (nomark _)) (w_slice (w_var 0) (wo_some w_int) wo_none) (w_var 0)))
    (wss_cons (ws_if (wt_bool (ww_or (wt_cmp (ow_eq hr.units) lf_eq (w_var 1) (w_str z_) (nomark _)) (ww_or1 (wt_not (wt_val (w_callB (cr_all rfl) lf_all (by rfl) T.m_all (by decide +kernel) (wa_cons (w_lc (x := "sign") (j := 4) rfl sc_integer_from.nd (wi_str (w_var 1)) (blkOk_by (N := N_integer_from) (sc := defScope s_integer_from) (by decide +kernel)) (fun _ _ _ _ _ => pg_name (i := 4) sc_integer_from.nd rfl (Or.inl rfl)) (fun _ _ _ _ _ => wts_nil) (fun _ _ _ _ _ => (w_cmp ow_in lf_in (w_var 4) (w_globS digitsS rfl T.c_DIGITS) (by rfl)))) wa_nil))))))) (wss_one (ws_ret w_non)) wss_nil)
    (wss_cons (ws_set (i := 2) sc_integer_from.nd (w_op (rw := modW) op_mod lf_int (w_callB call_len lf_len (by rfl) T.m_len (by decide +kernel) (wa_cons (w_var 1) wa_nil)) (w_globI rfl T.c__CHUNK_DIGITS)))
    (wss_cons (ws_set (i := 3) sc_integer_from.nd (w_callTy call_int_str lf_intStr (by rfl) T.m_int (by decide +kernel) (wa_cons (w_op ow_add lf_add (w_str z_0) (w_slice (w_var 1) wo_none (wo_some (w_var 2)))) wa_nil)))
    (wss_cons (ws_while PassesOwn.never (wt_cmp (rw := ltW) op_lt lf_cmp (w_var 2) (w_callB call_len lf_len (by rfl) T.m_len (by decide +kernel) (wa_cons (w_var 1) wa_nil)) (nomark _)) wss_never)
    (wss_one (ws_ret (w_ifExp (wt_cmp (ow_eq hr.units) lf_eq (w_var 1) (w_var 0) (nomark _)) (w_var 3) (w_un un_neg lf_neg (w_var 3)))))))))), fun ws h R ex ⟨s, e, l, q⟩ => ?_⟩
  subst e
  have dl := dgs_len s
  have c1 : cut s none (some 1) = s.take 1 := cut_to s 1
  have c2 : cut s (some 1) none = s.drop 1 := cut_from s 1
  walk_at "st"
  rw [c1]
  refine go_iteM (A := fun K => oSl _ _ _ _ _ K) (B := fun K => oVar 0 _ _ K) (.str (dgs s)) h (fun K' k' c => ?_) (fun K' k' c => ?_) ?_
  · have c := of_decide_eq_true c
    walk_at "st"
    rw [c2, show s.drop 1 = dgs s by unfold dgs; rw [if_pos c]]
    exact k'
  · have c := of_decide_eq_false c
    walk_at "st"
    rw [show s = dgs s by unfold dgs; rw [if_neg c]] at k' ⊢
    rw [show dgs (dgs s) = dgs s by rw [show dgs s = s by unfold dgs; rw [if_neg c]]; unfold dgs; rw [if_neg c]] at k'
    exact k'
  walk_at "st"
  obtain ⟨d, ed⟩ : ∃ d, d = dgs s := ⟨_, rfl⟩
  unfold parseI at q
  rw [← ed] at q dl ⊢
  refine go_dec (fun c => ?_) fun c => ?_
  · rw [if_pos (.inl c)] at q
    walk_at "st"
    exact .base q (.refl _)
  walk_at "st"
  refine go_lcHs d (fun c => .str [c]) (fun c => .bl (decide (c ∈ digitsS))) (fun P q => by walk_at "st"; exact q) (by omega) (fun x h' R' _ r => ?_) ?_
  · walk_at "st"
    exact r
  walk_at "st"
  refine go_all (bs := d.map fun c => decide (c ∈ digitsS)) ?_ ?_
  · have : ∀ l : List Nat, blsOf (l.map fun c => W.bl (decide (c ∈ digitsS))) = some (l.map fun c => decide (c ∈ digitsS)) := fun l => by
      induction l with
      | nil => rfl
      | cons a l ih => simp only [List.map_cons, blsOf, ih]; rfl
    exact this d
  rw [show ((d.map fun c => decide (c ∈ digitsS)).all id) = decide (∀ c ∈ d, c ∈ digitsS) by rw [Bool.eq_iff_iff, List.all_map, List.all_eq_true, decide_eq_true_eq]; simp]
  walk_at "st"
  refine go_ndec (fun c2 => ?_) fun c2 => ?_
  · rw [if_pos (.inr c2)] at q
    walk_at "st"
    exact .base q (.refl _)
  rw [if_neg (fun z => by rcases z with z | z; exact c z; exact z c2)] at q
  walk_at "st"
  rw [show ((d.length : Nat) : Int) % 64 = ((d.length : Nat) : Int) by omega, cut_to, List.take_length]
  have dv : PySem.NumText.digitsVal (z_0 ++ d) = PySem.NumText.digitsVal d := rfl
  have all : PySem.NumText.AllDigits (z_0 ++ d) := fun c hc => by
    rcases List.mem_append.mp hc with z | z
    · rw [List.mem_singleton.mp (show c ∈ [48] from z)]; decide
    · exact dg_mem (c2 c z)
  have it : PySem.intText? (mkS (z_0 ++ d)) = some ((PySem.NumText.digitsVal d : Nat) : Int) := by
    have e : (mkS (z_0 ++ d)).cps.toList = z_0 ++ d := by simp [mkS]
    have := PySem.intText_digits (x := mkS (z_0 ++ d)) (by rw [e]; exact all) (by rw [e]; simp [z_0]) (by rw [mkS_length, List.length_append]; simp [z_0]; omega)
    rw [e, dv] at this
    exact this
  refine go_addS (by simp [z_0]; omega) ?_
  walk_at "st"
  refine go_intStr it (by rw [List.length_append]; simp [z_0]; omega) ?_
  walk_at "st"
  refine go_while (fun m ρ' h' => ρ' = [some (.str s), some (.str d), some (.int (d.length : Nat)), some (.int ((PySem.NumText.digitsVal d : Nat) : Int)), none] ∧ h' = h) ⟨0, .of ⟨rfl, rfl⟩⟩ ?_
  rintro m ρ' h' ⟨rfl, rfl⟩
  walk_at "st"
  refine go_dec (fun z => absurd z (by omega)) fun _ => ?_
  walk_at "st"
  refine go_dec (fun z => ?_) fun z => ?_
  · rw [if_pos z] at q
    walk_at "st"
    exact .base q (.refl _)
  · rw [if_neg z] at q
    walk_at "st"
    exact .base q (.refl _)
end

/-! ## agents and ports read -/
def pf (c : Nat) (s : List Nat) : List Nat := s.takeWhile fun d => decide (d ≠ c)
def pb (c : Nat) (s : List Nat) : List Nat := (s.dropWhile fun d => decide (d ≠ c)).drop 1
theorem part_eq {c : Nat} {a p q r : List Nat} (h : PartOk c a p q r) : p = pf c a ∧ r = pb c a := by
  rcases h with ⟨rfl, _, no⟩ | ⟨no, rfl, _, rfl⟩
  · have tw : (p ++ c :: r).takeWhile (fun d => decide (d ≠ c)) = p := by
      rw [List.takeWhile_append_of_pos fun x hx => decide_eq_true (show x ≠ c from fun z => no (by rw [← z]; exact hx)), List.takeWhile_cons, if_neg (by simp), List.append_nil]
    have dw : (p ++ c :: r).dropWhile (fun d => decide (d ≠ c)) = c :: r := by
      rw [List.dropWhile_append_of_pos fun x hx => decide_eq_true (show x ≠ c from fun z => no (by rw [← z]; exact hx)), List.dropWhile_cons, if_neg (by simp)]
    exact ⟨tw.symm, by unfold pb; rw [dw]; rfl⟩
  · have : ∀ l : List Nat, c ∉ l → l.takeWhile (fun d => decide (d ≠ c)) = l ∧ l.dropWhile (fun d => decide (d ≠ c)) = [] := fun l => by
      induction l with
      | nil => intro _; exact ⟨rfl, rfl⟩
      | cons x l ih =>
        intro h
        have hx : x ≠ c := fun z => h (by rw [z]; exact List.mem_cons_self)
        obtain ⟨a, b⟩ := ih fun z => h (List.mem_cons_of_mem _ z)
        rw [List.takeWhile_cons, List.dropWhile_cons, if_pos (decide_eq_true hx), if_pos (decide_eq_true hx), a, b]
        exact ⟨rfl, rfl⟩
    obtain ⟨a, b⟩ := this p no
    exact ⟨a.symm, by unfold pb; rw [b]; rfl⟩
theorem pf_len (c : Nat) (s : List Nat) : (pf c s).length ≤ s.length := (List.takeWhile_sublist _).length_le
theorem pb_len (c : Nat) (s : List Nat) : (pb c s).length ≤ s.length := by
  unfold pb
  have := (List.dropWhile_sublist (fun d => decide (d ≠ c)) (l := s)).length_le
  rw [List.length_drop]; omega
def agentP (s : List Nat) : RA :=
  if pf 47 (pf 61 s) = z_num then ⟨pf 47 (pf 61 s), some 0, match parseI (pb 61 s) with | some i => .int i | none => .non⟩
  else if pf 47 (pf 61 s) = z_root then ⟨pf 47 (pf 61 s), some 0, .non⟩
  else if pf 47 (pf 61 s) = z_op then ⟨pf 47 (pf 61 s), parseI (pb 47 (pf 61 s)), .str (pb 61 s)⟩
  else if pf 47 (pf 61 s) = z_op1 then ⟨pf 47 (pf 61 s), parseI (pb 47 (pf 61 s)), .tup ((pb 61 s).take 1) (parseI ((pb 61 s).drop 1))⟩
  else ⟨pf 47 (pf 61 s), parseI (pb 47 (pf 61 s)), .non⟩
theorem agentP_dr (s : List Nat) : (agentP s).Dr := by
  unfold agentP
  split
  · rename_i c
    unfold RA.Dr
    dsimp only
    rw [c, show kOf z_num = some .num from rfl]
    cases parseI (pb 61 s) <;> exact trivial
  · split
    · rename_i c
      unfold RA.Dr
      dsimp only
      rw [c, show kOf z_root = some .root from rfl]
      exact trivial
    · split
      · rename_i c
        unfold RA.Dr
        dsimp only
        rw [c, show kOf z_op = some .op from rfl]
        exact trivial
      · split
        · rename_i c
          unfold RA.Dr
          dsimp only
          rw [c, show kOf z_op1 = some .op1 from rfl]
          exact trivial
        · rename_i c1 c2 c3 c4
          unfold RA.Dr
          dsimp only
          cases e : kOf (pf 47 (pf 61 s)) with
          | none => exact trivial
          | some k =>
            have := kOf_of e
            cases k <;> first | exact trivial | exact absurd this c1 | exact absurd this c3 | exact absurd this c4
def spAgentFrom : SpW := fun ws h R _ => ∃ s : List Nat, ws = [.str s] ∧ s.length ≤ 63 ∧ R (agentP s).w h
def spPortFrom (IN : Addr) : SpW := fun ws h R ex => ∃ s : List Nat, ws = [.str s] ∧ s.length ≤ 63 ∧ match parseI (pf 46 s), parseI (pb 46 s) with
  | some a, some b => R (.tup [.int a, .int b]) h
  | _, _ => ∀ h', Sub h h' → ex ⟨IN, none⟩ h'
section
variable {P : Program} {w : World} {K : PySem.W.Frag} {mg : Str → Option Value} {base : Heap}
theorem ok__agent_from (T : Tx P w K mg) : FnOk P w K mg base CX0 2 T.a__agent_from T.fd__agent_from ["word"] (lSp K spAgentFrom) := by
  refine fnW T.F__agent_from sc__agent_from (fun ws h R ex ⟨_, e, _⟩ => by rw [e]; rfl) fun cdv A outer s H E hr => ⟨_, (wss_cons (ws_asg (w_bm PySem.F.plainAttrs_str PySem.F.slot_str_partition PySem.F.type_str_partition mt_partition tyS_ok lf_part (w_var 0) (wa_cons (w_str z_x3d) wa_nil)) (wg_tup rfl (wgs_cons (wg_name (i := 1) sc__agent_from.nd) (wgs_cons (wg_name (i := 2) sc__agent_from.nd) (wgs_cons (wg_name (i := 3) sc__agent_from.nd) wgs_nil)))))
    (wss_cons (ws_asg (w_bm PySem.F.plainAttrs_str PySem.F.slot_str_partition PySem.F.type_str_partition mt_partition tyS_ok lf_part (w_var 1) (wa_cons (w_str z_x2f) wa_nil)) (wg_tup rfl (wgs_cons (wg_name (i := 4) sc__agent_from.nd) (wgs_cons (wg_name (i := 2) sc__agent_from.nd) (wgs_cons (wg_name (i := 5) sc__agent_from.nd) wgs_nil)))))
    (wss_cons (ws_if (wt_cmp (ow_eq hr.units) lf_eq (w_var 4) (w_str z_num) (nomark _)) (wss_one (ws_ret (w_tup (wa_cons (w_var 4) (wa_cons w_int (wa_cons (w_call (ok_integer_from T) (hr.mono (by walk_at "rm")) (by rfl) T.g_integer_from T.F_integer_from.kp T.b_integer_from (wa_cons (w_var 3) wa_nil)) wa_nil)))))) wss_nil)
    (wss_cons (ws_if (wt_cmp (ow_eq hr.units) lf_eq (w_var 4) (w_str z_root) (nomark _)) (wss_one (ws_ret (w_tup (wa_cons (w_var 4) (wa_cons w_int (wa_cons w_non wa_nil)))))) wss_nil)
    (wss_cons (ws_if (wt_cmp (ow_eq hr.units) lf_eq (w_var 4) (w_str z_op) (nomark _)) (wss_one (ws_ret (w_tup (wa_cons (w_var 4) (wa_cons (w_call (ok_integer_from T) (hr.mono (by walk_at "rm")) (by rfl) T.g_integer_from T.F_integer_from.kp T.b_integer_from (wa_cons (w_var 5) wa_nil)) (wa_cons (w_var 3) wa_nil)))))) wss_nil)
    (wss_cons (ws_if (wt_cmp (ow_eq hr.units) lf_eq (w_var 4) (w_str z_op1) (nomark _)) (wss_one (ws_ret (w_tup (wa_cons (w_var 4) (wa_cons (w_call (ok_integer_from T) (hr.mono (by walk_at "rm")) (by rfl) T.g_integer_from T.F_integer_from.kp T.b_integer_from (wa_cons (w_var 5) wa_nil)) (wa_cons (w_tup (wa_cons (w_slice (w_var 3) wo_none (wo_some w_int)) (wa_cons (w_call (ok_integer_from T) (hr.mono (by walk_at "rm")) (by rfl) T.g_integer_from T.F_integer_from.kp T.b_integer_from (wa_cons (w_slice (w_var 3) (wo_some w_int) wo_none) wa_nil)) wa_nil))) wa_nil)))))) wss_nil)
    (wss_one (ws_ret (w_tup (wa_cons (w_var 4) (wa_cons (w_call (ok_integer_from T) (hr.mono (by walk_at "rm")) (by rfl) T.g_integer_from T.F_integer_from.kp T.b_integer_from (wa_cons (w_var 5) wa_nil)) (wa_cons w_non wa_nil)))))))))))), fun ws h R ex ⟨s, e, l, q⟩ => ?_⟩
  subst e
  have l1 := pf_len 61 s
  have l2' := pb_len 61 s
  have l3 := pf_len 47 (pf 61 s)
  have l4 := pb_len 47 (pf 61 s)
  walk_at "st"
  refine go_partS (by omega) fun p0 q0 r0 po => ?_
  obtain ⟨rfl, rfl⟩ := part_eq po
  clear po
  walk_at "st"
  refine go_partS (by omega) fun p1 q1 r1 po => ?_
  obtain ⟨rfl, rfl⟩ := part_eq po
  clear po
  walk_at "st"
  unfold agentP at q
  refine go_dec (fun c => ?_) fun c1 => ?_
  · rw [if_pos c] at q
    walk_at "st"
    refine ⟨pb 61 s, rfl, by omega, ?_⟩
    walk_at "st"
    refine .base (show R (.tup [.str (pf 47 (pf 61 s)), .int 0, optI (parseI (pb 61 s))]) h from ?_) (.refl _)
    unfold RA.w at q
    dsimp only at q
    cases e : parseI (pb 61 s) with
    | none => rw [e] at q; exact q
    | some i => rw [e] at q; exact q
  rw [if_neg c1] at q
  walk_at "st"
  refine go_dec (fun c => ?_) fun c2 => ?_
  · rw [if_pos c] at q
    walk_at "st"
    exact .base q (.refl _)
  rw [if_neg c2] at q
  walk_at "st"
  refine go_dec (fun c => ?_) fun c3 => ?_
  · rw [if_pos c] at q
    walk_at "st"
    refine ⟨pb 47 (pf 61 s), rfl, by omega, ?_⟩
    walk_at "st"
    exact .base q (.refl _)
  rw [if_neg c3] at q
  walk_at "st"
  refine go_dec (fun c => ?_) fun c4 => ?_
  · rw [if_pos c] at q
    walk_at "st"
    refine ⟨pb 47 (pf 61 s), rfl, by omega, ?_⟩
    walk_at "st"
    rw [show cut (pb 61 s) none (some 1) = (pb 61 s).take 1 from cut_to _ 1, show cut (pb 61 s) (some 1) none = (pb 61 s).drop 1 from cut_from _ 1]
    refine ⟨(pb 61 s).drop 1, rfl, by rw [List.length_drop]; omega, ?_⟩
    walk_at "st"
    exact .base q (.refl _)
  rw [if_neg c4] at q
  walk_at "st"
  refine ⟨pb 47 (pf 61 s), rfl, by omega, ?_⟩
  walk_at "st"
  exact .base q (.refl _)
theorem ok__port_from (T : Tx P w K mg) : FnOk P w K mg base (L2.CX P w) 2 T.a__port_from T.fd__port_from ["word"] (lSp K (spPortFrom T.aC_InvalidNet)) := by
  refine fnWX T.F__port_from sc__port_from (fun ws h R ex ⟨_, e, _⟩ => by rw [e]; rfl) fun cdv A outer s H E ex hr => ⟨_, (wss_cons (ws_asg (w_bm PySem.F.plainAttrs_str PySem.F.slot_str_partition PySem.F.type_str_partition mt_partition tyS_ok lf_part (w_var 0) (wa_cons (w_str z_x2e) wa_nil)) (wg_tup rfl (wgs_cons (wg_name (i := 1) sc__port_from.nd) (wgs_cons (wg_name (i := 2) sc__port_from.nd) (wgs_cons (wg_name (i := 3) sc__port_from.nd) wgs_nil)))))
    (wss_cons (ws_par (i := 4) (j := 5) rfl sc__port_from.nd rfl rfl (by decide) rfl rfl (wa_cons (w_call (ok_integer_from T) (hr.mono (by walk_at "rm")) (by rfl) T.g_integer_from T.F_integer_from.kp T.b_integer_from (wa_cons (w_var 1) wa_nil)) (wa_cons (w_call (ok_integer_from T) (hr.mono (by walk_at "rm")) (by rfl) T.g_integer_from T.F_integer_from.kp T.b_integer_from (wa_cons (w_var 3) wa_nil)) wa_nil)) (by rfl))
    (wss_cons (ws_if (wt_bool (ww_or (wt_cmp op_isN lf_isN (w_var 4) w_non (nomark _)) (ww_or1 (wt_cmp op_isN lf_isN (w_var 5) w_non (nomark _))))) (wss_one (ws_raise rfl (takes_of rfl rfl rfl rfl) T.x_InvalidNet T.gC_InvalidNet T.k_InvalidNet T.b_InvalidNet T.t_InvalidNet (by rfl) (w_str z_ax20portx20isx20notx20writtenx20asx20twox20numbersx20withx20ax20dotx20betweenx20them))) wss_nil)
    (wss_one (ws_ret (w_tup (wa_cons (w_var 4) (wa_cons (w_var 5) wa_nil)))))))), fun ws h R ⟨s, e, l, q⟩ => ?_⟩
  subst e
  have l1 := pf_len 46 s
  have l2' := pb_len 46 s
  walk_at "st"
  refine go_partS (by omega) fun p0 q0 r0 po => ?_
  obtain ⟨rfl, rfl⟩ := part_eq po
  clear po
  walk_at "st"
  refine go_par ?_
  walk_at "st"
  refine ⟨pf 46 s, rfl, by omega, ?_⟩
  walk_at "st"
  refine ⟨pb 46 s, rfl, by omega, ?_⟩
  walk_at "st"
  refine ⟨_, _, rfl, ?_⟩
  walk_at "st"
  cases e1 : parseI (pf 46 s) with
  | none =>
    rw [e1] at q
    simp only [optI]
    walk_at "stc"
    exact q _ (.refl _)
  | some a =>
    rw [e1] at q
    simp only [optI]
    refine go_isN (b := false) rfl ?_
    walk_at "stc"
    cases e2 : parseI (pb 46 s) with
    | none =>
      rw [e2] at q
      simp only [optI]
      walk_at "stc"
      exact q _ (.refl _)
    | some b =>
      rw [e2] at q
      simp only [optI]
      refine go_isN (b := false) rfl ?_
      walk_at "stc"
      exact .base q (.refl _)
end

/-! ## a text is split in one way -/
theorem joinS_cons (b y : List Nat) (ys : List (List Nat)) : joinS b (y :: ys) = if ys = [] then y else y ++ (b ++ joinS b ys) := by
  cases ys with
  | nil => rfl
  | cons z r => rfl
theorem noIn_one {c : Nat} {y : List Nat} : NoIn [c] y ↔ c ∉ y := by
  constructor
  · intro h z
    obtain ⟨i, hi, e⟩ := List.mem_iff_getElem.mp z
    refine h i (show i + 1 ≤ y.length by omega) ?_
    rw [List.drop_eq_getElem_cons hi, e]; rfl
  · intro h p hp e
    have hi : p < y.length := by
      have : p + 1 ≤ y.length := hp
      omega
    rw [List.drop_eq_getElem_cons hi] at e
    simp only [List.length_cons, List.length_nil, List.take_succ_cons, List.take_zero, List.cons.injEq, and_true] at e
    exact h (by rw [← e]; exact List.getElem_mem hi)
theorem noIn_two {c d : Nat} {a b : List Nat} (h : NoIn [c, d] (a ++ c :: d :: b)) : False := by
  refine h a.length (by simp) ?_
  rw [List.drop_append_of_le_length (Nat.le_refl _), List.drop_length]
  rfl
/-- y ahead of the separator, z longer: what z holds -/
theorem longer {y z r s : List Nat} (e : y ++ r = z ++ s) (l : y.length < z.length) : ∃ x u, z = y ++ x :: u ∧ r = x :: u ++ s := by
  have h1 : z = y ++ z.drop y.length := by
    have := congrArg (List.take y.length) e
    rw [List.take_left' rfl, List.take_append_of_le_length (by omega)] at this
    conv => lhs; rw [← List.take_append_drop y.length z, ← this]
  cases hz : z.drop y.length with
  | nil => rw [List.drop_eq_nil_iff] at hz; omega
  | cons x u =>
    rw [hz] at h1
    refine ⟨x, u, h1, ?_⟩
    rw [h1, List.append_assoc] at e
    exact List.append_cancel_left e
theorem split_one {c : Nat} : ∀ (ys zs : List (List Nat)), ys ≠ [] → zs ≠ [] → joinS [c] ys = joinS [c] zs → (∀ y ∈ ys, NoIn [c] y) → (∀ z ∈ zs, NoIn [c] z) → ys = zs
  | [], _, h, _, _, _, _ => absurd rfl h
  | _, [], _, h, _, _, _ => absurd rfl h
  | y :: ys, z :: zs, _, _, e, hy, hz => by
    have key : ∀ (y z : List Nat) (ys zs : List (List Nat)), joinS [c] (y :: ys) = joinS [c] (z :: zs) → NoIn [c] z → ¬ y.length < z.length := fun y z ys zs e hz l => by
      rw [joinS_cons, joinS_cons] at e
      obtain ⟨s, es⟩ : ∃ s, (if zs = [] then z else z ++ ([c] ++ joinS [c] zs)) = z ++ s := by
        split
        · exact ⟨[], (List.append_nil _).symm⟩
        · exact ⟨_, rfl⟩
      rw [es] at e
      split at e
      · have := congrArg List.length e
        rw [List.length_append] at this
        omega
      · obtain ⟨x, u, e1, e2⟩ := longer e l
        injection e2 with e2 _
        exact noIn_one.mp hz (by rw [e1, ← e2]; simp)
    have n1 := key y z ys zs e (hz z List.mem_cons_self)
    have n2 := key z y zs ys e.symm (hy y List.mem_cons_self)
    have l : y.length = z.length := by omega
    rw [joinS_cons, joinS_cons] at e
    have ey : y = z := by
      have := congrArg (List.take y.length) e
      split at this <;> split at this
      · rw [List.take_length, l, List.take_length] at this; exact this
      · rw [List.take_length, l, List.take_left' rfl] at this; exact this
      · rw [List.take_left' rfl, l, List.take_length] at this; exact this
      · rw [List.take_left' rfl, l, List.take_left' rfl] at this; exact this
    subst ey
    congr 1
    split at e <;> split at e
    · rename_i a b; rw [a, b]
    · have := congrArg List.length e
      simp at this
    · have := congrArg List.length e
      simp at this
    · rename_i a b
      have := List.append_cancel_left e
      exact split_one ys zs a b (List.append_cancel_left this) (fun v hv => hy v (List.mem_cons_of_mem _ hv)) (fun v hv => hz v (List.mem_cons_of_mem _ hv))
theorem split_two {c d : Nat} (cd : c ≠ d) : ∀ (ys zs : List (List Nat)), ys ≠ [] → zs ≠ [] → joinS [c, d] ys = joinS [c, d] zs → (∀ y ∈ ys, NoIn [c, d] y) → (∀ z ∈ zs, NoIn [c, d] z) → ys = zs
  | [], _, h, _, _, _, _ => absurd rfl h
  | _, [], _, h, _, _, _ => absurd rfl h
  | y :: ys, z :: zs, _, _, e, hy, hz => by
    have key : ∀ (y z : List Nat) (ys zs : List (List Nat)), joinS [c, d] (y :: ys) = joinS [c, d] (z :: zs) → NoIn [c, d] z → ¬ y.length < z.length := fun y z ys zs e hz l => by
      rw [joinS_cons, joinS_cons] at e
      obtain ⟨s, es, hs⟩ : ∃ s, (if zs = [] then z else z ++ ([c, d] ++ joinS [c, d] zs)) = z ++ s ∧ (s = [] ∨ ∃ v, s = c :: v) := by
        split
        · exact ⟨[], (List.append_nil _).symm, .inl rfl⟩
        · exact ⟨_, rfl, .inr ⟨_, rfl⟩⟩
      rw [es] at e
      split at e
      · have := congrArg List.length e
        rw [List.length_append] at this
        omega
      · obtain ⟨x, u, e1, e2⟩ := longer e l
        injection e2 with e2 e3
        cases u with
        | nil =>
          rcases hs with rfl | ⟨v, rfl⟩
          · exact nomatch e3
          · injection e3 with e3 _
            exact cd e3.symm
        | cons x2 u =>
          injection e3 with e3 _
          rw [e1, ← e2, ← e3] at hz
          exact noIn_two hz
    have n1 := key y z ys zs e (hz z List.mem_cons_self)
    have n2 := key z y zs ys e.symm (hy y List.mem_cons_self)
    have l : y.length = z.length := by omega
    rw [joinS_cons, joinS_cons] at e
    have ey : y = z := by
      have := congrArg (List.take y.length) e
      split at this <;> split at this
      · rw [List.take_length, l, List.take_length] at this; exact this
      · rw [List.take_length, l, List.take_left' rfl] at this; exact this
      · rw [List.take_left' rfl, l, List.take_length] at this; exact this
      · rw [List.take_left' rfl, l, List.take_left' rfl] at this; exact this
    subst ey
    congr 1
    split at e <;> split at e
    · rename_i a b; rw [a, b]
    · have := congrArg List.length e
      simp at this
    · have := congrArg List.length e
      simp at this
    · rename_i a b
      have := List.append_cancel_left e
      exact split_two cd ys zs a b (List.append_cancel_left this) (fun v hv => hy v (List.mem_cons_of_mem _ hv)) (fun v hv => hz v (List.mem_cons_of_mem _ hv))
theorem splitOk_uniq1 {c : Nat} {a : List Nat} {ys zs : List (List Nat)} (h : SplitOk [c] a ys) (g : SplitOk [c] a zs) : ys = zs := split_one ys zs h.2.1 g.2.1 (h.1.trans g.1.symm) h.2.2 g.2.2
theorem splitOk_uniq2 {c d : Nat} (cd : c ≠ d) {a : List Nat} {ys zs : List (List Nat)} (h : SplitOk [c, d] a ys) (g : SplitOk [c, d] a zs) : ys = zs := split_two cd ys zs h.2.1 g.2.1 (h.1.trans g.1.symm) h.2.2 g.2.2
/-! ## what is read -/
def portP (w : List Nat) : Option (Int × Int) := match parseI (pf 46 w), parseI (pb 46 w) with
  | some a, some b => some (a, b)
  | _, _ => none
def wireP (n p : Nat) (q : Int × Int) : List RWr := if HT.lexLt [((n : Nat) : Int), ((p : Nat) : Int)] [q.1, q.2] = true then [((n, p), (q.1.toNat, q.2))] else []
def rowsP (n : Nat) : Nat → List (List Nat) → Option (List RWr)
  | _, [] => some []
  | p, w :: ws => match portP w, rowsP n (p + 1) ws with
    | some q, some r => some (wireP n p q ++ r)
    | _, _ => none
theorem rowsP_snoc (n : Nat) (w : List Nat) : ∀ (ws : List (List Nat)) (p : Nat), rowsP n p (ws ++ [w]) = match rowsP n p ws, portP w with
    | some r, some q => some (r ++ wireP n (p + ws.length) q)
    | _, _ => none
  | [], p => by
    simp only [List.nil_append, rowsP, List.length_nil, Nat.add_zero]
    cases portP w <;> simp
  | v :: ws, p => by
    rw [List.cons_append, rowsP, rowsP_snoc n w ws (p + 1), rowsP]
    cases portP v with
    | none => simp
    | some q =>
      cases rowsP n (p + 1) ws with
      | none => simp
      | some r =>
        cases portP w with
        | none => simp
        | some q2 => simp [Nat.add_assoc, Nat.add_comm 1]
def allP : Nat → List (List (List Nat)) → Option (List RWr)
  | _, [] => some []
  | n, ws :: wss => match rowsP n 0 (ws.drop 1), allP (n + 1) wss with
    | some r, some rs => some (r ++ rs)
    | _, _ => none
theorem allP_snoc (ws : List (List Nat)) : ∀ (wss : List (List (List Nat))) (n : Nat), allP n (wss ++ [ws]) = match allP n wss, rowsP (n + wss.length) 0 (ws.drop 1) with
    | some r, some q => some (r ++ q)
    | _, _ => none
  | [], n => by
    simp only [List.nil_append, allP, List.length_nil, Nat.add_zero]
    cases rowsP n 0 (ws.drop 1) <;> simp
  | v :: wss, n => by
    rw [List.cons_append, allP, allP_snoc ws wss (n + 1), allP]
    cases rowsP n 0 (v.drop 1) with
    | none => simp
    | some q =>
      cases allP (n + 1) wss with
      | none => simp
      | some r =>
        rw [show n + 1 + wss.length = n + (v :: wss).length by rw [List.length_cons]; omega]
        cases rowsP (n + (v :: wss).length) 0 (ws.drop 1) <;> simp
/-- the words of a text -/
structure Words (t : List Nat) (wss : List (List (List Nat))) : Prop where
  ex : ∃ parts, SplitOk [59, 32] t parts ∧ parts.length = wss.length ∧ ∀ (i : Nat) (p : List Nat) (ws : List (List Nat)), parts[i]? = some p → wss[i]? = some ws → SplitOk [32] p ws
theorem Words.uniq {t : List Nat} {a b : List (List (List Nat))} (h : Words t a) (g : Words t b) : a = b := by
  obtain ⟨p, h1, h2, h3⟩ := h.ex
  obtain ⟨q, g1, g2, g3⟩ := g.ex
  have e := splitOk_uniq2 (by decide) h1 g1
  subst e
  apply List.ext_getElem?
  intro i
  by_cases hi : i < a.length
  · have ea := List.getElem?_eq_getElem hi
    have eb := List.getElem?_eq_getElem (show i < b.length by omega)
    have ep := List.getElem?_eq_getElem (show i < p.length by omega)
    rw [ea, eb]
    congr 1
    exact splitOk_uniq1 (h3 i _ _ ep ea) (g3 i _ _ ep eb)
  · rw [List.getElem?_eq_none (by omega), List.getElem?_eq_none (by omega)]
def readS (wss : List (List (List Nat))) : Option NS := match allP 0 wss with
  | some rws => netR (wss.map fun ws => agentP (ws.headD [])) rws
  | none => none

/-! ## a text read -/
structure RdOk (t : List Nat) : Prop where
  l : t.length ≤ 100000
  p : ∀ parts, SplitOk [59, 32] t parts → parts.length ≤ 41 ∧ ∀ p ∈ parts, ∀ ws, SplitOk [32] p ws → ws.length ≤ 1000 ∧ ∀ w ∈ ws, w.length ≤ 12
def GoodT (t : List Nat) (s : NS) : Prop := ∃ wss, Words t wss ∧ readS wss = some s ∧ canonT s = t
def spReadNet (C IN : Addr) : SpW := fun ws h R ex => ∃ t : List Nat, ws = [.str t] ∧ RdOk t ∧
  (∀ s v g h', GoodT t s → CanOk s → NetAt C v g s h' → Sub h h' → (∀ a, a = v ∨ OwnG g a → h a = none) → R (.ref v) h') ∧
  ((∀ s, ¬ GoodT t s) → ∀ h', Sub h h' → ex ⟨IN, none⟩ h')
theorem rowsP_none (n : Nat) {w : List Nat} (e : portP w = none) : ∀ (ws : List (List Nat)) (p : Nat), w ∈ ws → rowsP n p ws = none
  | v :: ws, p, m => by
    rw [rowsP]
    rcases List.mem_cons.mp m with rfl | m
    · rw [e]
    · rw [rowsP_none n e ws (p + 1) m]
      cases portP v <;> rfl
theorem allP_none {ws : List (List Nat)} : ∀ (wss : List (List (List Nat))) (n i : Nat), wss[i]? = some ws → rowsP (n + i) 0 (ws.drop 1) = none → allP n wss = none
  | v :: wss, n, 0, m, e => by
    cases m
    rw [Nat.add_zero] at e
    rw [allP, e]
  | v :: wss, n, i + 1, m, e => by
    rw [List.getElem?_cons_succ] at m
    rw [allP, allP_none wss (n + 1) i m (by rw [show n + 1 + i = n + (i + 1) by omega]; exact e)]
    cases rowsP n 0 (v.drop 1) <;> rfl
theorem rowsP_len (n : Nat) : ∀ (ws : List (List Nat)) (p : Nat) (q : List RWr), rowsP n p ws = some q → q.length ≤ ws.length
  | [], p, q, e => by cases e; exact Nat.le_refl _
  | w :: ws, p, q, e => by
    rw [rowsP] at e
    split at e
    · rename_i a b _ e2
      cases e
      have := rowsP_len n ws (p + 1) _ e2
      rw [List.length_append, List.length_cons]
      have : (wireP n p a).length ≤ 1 := by unfold wireP; split <;> simp
      omega
    · cases e
theorem not_good {t : List Nat} {parts : List (List Nat)} {i : Nat} {p : List Nat} {ws : List (List Nat)} (sp : SplitOk [59, 32] t parts) (hp : parts[i]? = some p) (hw : SplitOk [32] p ws) (e : rowsP i 0 (ws.drop 1) = none) (s : NS) : ¬ GoodT t s := by
  rintro ⟨wss, hW, r, _⟩
  obtain ⟨ps, h1, h2, h3⟩ := hW.ex
  have := splitOk_uniq2 (by decide) h1 sp
  subst this
  have li := (List.getElem?_eq_some_iff.mp hp).1
  have ew := List.getElem?_eq_getElem (show i < wss.length by omega)
  have := splitOk_uniq1 (h3 i _ _ hp ew) hw
  rw [this] at ew
  unfold readS at r
  rw [allP_none wss 0 i ew (by rw [Nat.zero_add]; exact e)] at r
  cases r
theorem ag_parts {r : RA} {a : Ag} (h : r.ag = some a) : r.lv = some a.lv ∧ toAD r.dt = some a.dt ∧ a.ok = true := by
  unfold RA.ag at h
  split at h
  · rename_i k lv dt e1 e2 e3
    split at h
    · rename_i ok
      cases h
      exact ⟨e2, e3, ok⟩
    · cases h
  · cases h
theorem agentP_lv {w : List Nat} (l : w.length ≤ 12) {i : Int} (h : (agentP w).lv = some i) : SmI i := by
  have l1 := pf_len 61 w
  have l4 := pb_len 47 (pf 61 w)
  have z0 : SmI 0 := by unfold SmI; decide
  unfold agentP at h
  split at h
  · cases h; exact z0
  · split at h
    · cases h; exact z0
    · split at h
      · exact parseI_sm h (by omega)
      · split at h <;> exact parseI_sm h (by omega)
def dtSm : AD → Prop
  | .int i => SmI i
  | .tup _ i => SmI i
  | _ => True
theorem agentP_dt {w : List Nat} (l : w.length ≤ 12) {d : AD} (h : toAD (agentP w).dt = some d) : dtSm d := by
  have l1 := pb_len 61 w
  unfold agentP at h
  split at h
  · dsimp only at h
    cases e : parseI (pb 61 w) with
    | none => rw [e] at h; cases h; exact trivial
    | some i => rw [e] at h; cases h; exact parseI_sm e (by omega)
  · split at h
    · cases h; exact trivial
    · split at h
      · dsimp only at h
        unfold toAD at h
        split at h <;> first | (cases h; exact trivial) | (rename_i e; cases e) | cases h
      · split at h
        · dsimp only at h
          cases e : parseI ((pb 61 w).drop 1) with
          | none =>
            rw [e] at h
            unfold toAD at h
            split at h
            · rename_i e2; cases e2
            · rename_i e2; cases e2
            · rename_i e2; cases e2
            · rename_i e2; injection e2 with _ e3; cases e3
            · cases h
          | some i =>
            rw [e] at h
            have si : SmI i := parseI_sm e (by rw [List.length_drop]; omega)
            unfold toAD at h
            split at h
            · rename_i e2; cases e2
            · rename_i e2; cases e2
            · rename_i e2; cases e2
            · rename_i e2; injection e2 with _ e3; cases e3; cases h; exact si
            · cases h
        · cases h; exact trivial
theorem agentP_sm {w : List Nat} (l : w.length ≤ 12) {a : Ag} (h : (agentP w).ag = some a) : a.Sm ∧ a.dok = true := by
  obtain ⟨h1, h2, h3⟩ := ag_parts h
  unfold Ag.ok at h3
  rw [Bool.and_eq_true, Bool.not_eq_true', Bool.or_eq_false_iff] at h3
  have := of_decide_eq_false h3.1.1
  have dt := agentP_dt l h2
  refine ⟨⟨by omega, agentP_lv l h1, ?_⟩, h3.2⟩
  cases e : a.dt <;> rw [e] at dt <;> exact dt
theorem allAg_mem : ∀ {rs : List RA} {ags : List Ag}, allAg rs = some ags → ∀ a ∈ ags, ∃ r ∈ rs, r.ag = some a
  | [], ags, h, a, m => by cases h; cases m
  | r :: rs, ags, h, a, m => by
    unfold allAg at h
    split at h
    · rename_i b as e1 e2
      cases h
      rcases List.mem_cons.mp m with rfl | m
      · exact ⟨r, List.mem_cons_self, e1⟩
      · obtain ⟨x, hx, e⟩ := allAg_mem e2 a m
        exact ⟨x, List.mem_cons_of_mem _ hx, e⟩
    · cases h
theorem netR_can {rs : List RA} {rws : List RWr} {s : NS} (h : netR rs rws = some s) (sm : ∀ r ∈ rs, ∀ a, r.ag = some a → a.Sm ∧ a.dok = true) : CanOk s := by
  unfold netR at h
  split at h
  · cases h
  · rename_i ags ea
    split at h
    · rename_i rn
      split at h
      · cases h
      · rename_i es ee
        split at h
        · cases h
        · rename_i hl
          cases h
          obtain ⟨us, rfl⟩ := endsR_some ee
          rw [endsR_raw] at ee
          have le : es.length = ags.length := by
            have := congrArg List.length (endsE_some ee).n
            rw [List.length_map, List.length_map] at this
            exact this
          have ao : agsOk ags = true := by
            unfold agsOk
            rw [List.all_eq_true.mpr (allAg_w ea).2, decide_eq_true rn]; rfl
          obtain ⟨ra, hra, _⟩ := rootIx_ok ao
          have := (List.getElem?_eq_some_iff.mp hra).1
          exact can_of ee (fun a ha => by obtain ⟨r, hr, e⟩ := allAg_mem ea a ha; exact sm r hr a e) (by omega) (by omega)
    · cases h
theorem joinS_mem_len (b : List Nat) {y : List Nat} : ∀ ys : List (List Nat), y ∈ ys → y.length ≤ (joinS b ys).length
  | x :: ys, m => by
    rw [joinS_cons]
    rcases List.mem_cons.mp m with rfl | m
    · split
      · exact Nat.le_refl _
      · rw [List.length_append]; omega
    · have := joinS_mem_len b ys m
      rw [if_neg (fun z => by rw [z] at m; cases m), List.length_append, List.length_append]
      omega
section
variable {P : Program} {w : World} {K : PySem.W.Frag} {mg : Str → Option Value} {base : Heap}
theorem ok_read_net (T : Tx P w K mg) : FnOk P w K mg base (L2.CX P w) 6 T.a_read_net T.fd_read_net ["text"] (lSp K (spReadNet T.aC_Net T.aC_InvalidNet)) := by
  refine fnWX T.F_read_net sc_read_net (fun ws h R ex ⟨_, e, _⟩ => by rw [e]; rfl) fun cdv A outer s H E ex hr => ⟨_, (wss_cons (ws_set (i := 1) sc_read_net.nd (w_lstO wa_nil))
    (wss_cons (ws_set (i := 2) sc_read_net.nd (w_lstO wa_nil))
    (wss_cons (ws_for (passes_of rfl) rfl (wi_enum (by rfl) T.m_enumerate (wa_cons (w_bm PySem.F.plainAttrs_str PySem.F.slot_str_split PySem.F.type_str_split mt_split tyS_ok lf_split (w_var 0) (wa_cons (w_str z_x3bx20) wa_nil)) wa_nil)) (wg_tup rfl (wgs_cons (wg_name (i := 4) sc_read_net.nd) (wgs_cons (wg_name (i := 5) sc_read_net.nd) wgs_nil))) (wss_cons (ws_set (i := 6) sc_read_net.nd (w_bm PySem.F.plainAttrs_str PySem.F.slot_str_split PySem.F.type_str_split mt_split tyS_ok lf_split (w_var 5) (wa_cons (w_str z_x20) wa_nil)))
    (wss_cons (ws_expr (w_bm PySem.F.plainAttrs_list PySem.F.slot_list_append PySem.F.type_list_append mt_append tyL_ok lf_append (w_var 1) (wa_cons (w_call (ok__agent_from T) (hr.mono (by walk_at "rm")) (by rfl) T.g__agent_from T.F__agent_from.kp T.b__agent_from (wa_cons (w_ix (w_var 6) w_int) wa_nil)) wa_nil)))
    (wss_one (ws_for (passes_of rfl) rfl (wi_enum (by rfl) T.m_enumerate (wa_cons (w_slice (w_var 6) (wo_some w_int) wo_none) wa_nil)) (wg_tup rfl (wgs_cons (wg_name (i := 7) sc_read_net.nd) (wgs_cons (wg_name (i := 8) sc_read_net.nd) wgs_nil))) (wss_cons (ws_set (i := 9) sc_read_net.nd (w_callX (ok__port_from T) (hr.mono (by walk_at "rm")) (by rfl) T.g__port_from T.F__port_from.kp T.b__port_from (takes_of rfl rfl rfl rfl) (wa_cons (w_var 8) wa_nil)))
    (wss_one (ws_if (wt_cmp (rw := ltTW) (op_ltT hr.units0) lf_ltT (w_tup (wa_cons (w_var 4) (wa_cons (w_var 7) wa_nil))) (w_var 9) (nomark _)) (wss_one (ws_expr (w_bm PySem.F.plainAttrs_list PySem.F.slot_list_append PySem.F.type_list_append mt_append tyL_ok lf_append (w_var 2) (wa_cons (w_tup (wa_cons (w_tup (wa_cons (w_var 4) (wa_cons (w_var 7) wa_nil))) (wa_cons (w_var 9) wa_nil))) wa_nil)))) wss_nil))))))))
    (wss_cons (ws_frz (i := 1) (ws_set (i := 3) sc_read_net.nd (w_makeG T.mk_Net (ok_Net___init__ T) (hr.mono (by walk_at "rm")) (by rfl) T.gC_Net T.b_Net___init__ (passes_call (takes_of rfl rfl rfl rfl) fun _ _ _ _ z => z) (fun _ _ z => z) (wa_cons (w_var 1) (wa_cons (w_var 2) wa_nil)))))
    (wss_cons (ws_if (wt_cmp (ow_ne hr.units) lf_ne (w_call (ok_canonical_text T) (hr.mono (by walk_at "rm")) (by rfl) T.g_canonical_text T.F_canonical_text.kp T.b_canonical_text (wa_cons (w_var 3) wa_nil)) (w_var 0) (nomark _)) (wss_one (ws_raise rfl (takes_of rfl rfl rfl rfl) T.x_InvalidNet T.gC_InvalidNet T.k_InvalidNet T.b_InvalidNet T.t_InvalidNet (by rfl) (w_str z_thex20textx20isx20notx20thex20canonicalx20textx20ofx20thex20netx20thatx20itx20describes))) wss_nil)
    (wss_one (ws_ret (w_var 3)))))))), fun ws h R ⟨t, e, rd, q1, q2⟩ => ?_⟩
  subst e
  have tl := rd.l
  walk_at "st"
  intro p1 hp1
  walk_at "st"
  intro p2 hp2
  have p21 : p2 ≠ p1 := fun z => by rw [z, updW_same] at hp2; cases hp2
  have p12 := Ne.symm p21
  have h2n : h p2 = none := by rw [updW_ne p21] at hp2; exact hp2
  have sub : ∀ a b, Sub h (updW (updW h p1 a) p2 b) := fun a b => (Sub.new hp1).trans (Sub.new (by rw [updW_ne p21]; exact h2n))
  walk_at "st"
  obtain ⟨parts, sp⟩ : ∃ parts, SplitOk [59, 32] t parts := ⟨_, split_mk (by decide) (by decide)⟩
  obtain ⟨l41, rdp⟩ := rd.p parts sp
  refine go_forE (parts.map W.str) (fun P q => by walk_at "st"; refine go_split (by decide) (by decide) (by omega) fun ys y => ?_; rw [splitOk_uniq2 (by decide) y sp]; exact q)
    (fun i ρ' h' => ∃ (wss : List (List (List Nat))) (rws : List RWr) (a b c d e f : Option W), wss.length = i ∧ (∀ (j : Nat) (p : List Nat) (ws : List (List Nat)), parts[j]? = some p → wss[j]? = some ws → SplitOk [32] p ws) ∧ allP 0 wss = some rws ∧ rws.length ≤ 1000 * i ∧
      h' = updW (updW h p1 (.lst ((wss.map fun ws => agentP (ws.headD [])).map RA.w))) p2 (.lst (rws.map rwW)) ∧ ρ' = [some (.str t), some (.ref p1), some (.ref p2), none, a, b, c, d, e, f]) ?_ ?_ ?_
  · exact .of ⟨[], [], none, none, none, none, none, none, rfl, fun j p ws _ e => by simp at e, rfl, Nat.zero_le _, rfl, rfl⟩
  · rintro i x ρ' h' hx ⟨wss, rws, a, b, c, d, e, f, li, wk, ap, rl, rfl, rfl⟩
    rw [List.getElem?_map] at hx
    obtain ⟨part, hpt, rfl⟩ := Option.map_eq_some_iff.mp hx
    walk_at "st"
    refine go_split (by decide) (by decide) ?_ fun words hwd => ?_
    · have := joinS_mem_len [59, 32] parts (List.mem_of_getElem? hpt)
      rw [sp.1] at this
      omega
    obtain ⟨lw, w12⟩ := rdp part (List.mem_of_getElem? hpt) words hwd
    have i41 := (List.getElem?_eq_some_iff.mp hpt).1
    walk_at "st"
    refine go_ixL (w := .str (words.headD [])) ?_ ?_
    · cases words with
      | nil => exact absurd rfl hwd.2.1
      | cons y ys => exact atI_nat (j := 0) rfl
    walk_at "st"
    refine ⟨words.headD [], rfl, ?_, ?_⟩
    · cases words with
      | nil => exact absurd rfl hwd.2.1
      | cons y ys => exact Nat.le_trans (w12 y List.mem_cons_self) (by decide)
    have la : (((wss.map fun ws => agentP (ws.headD [])).map RA.w)).length ≤ 41 := by rw [List.length_map, List.length_map]; omega
    walk_at "st"
    rw [updW_mid (Ne.symm p21)]
    dsimp only
    refine go_forE ((words.drop 1).map W.str) (fun P q => by walk_at "st"; rw [show cut (words.map W.str) (some 1) none = (words.map W.str).drop 1 from cut_from _ 1, ← List.map_drop]; exact q)
      (fun j ρ' h' => ∃ (q : List RWr) (a b c : Option W), rowsP i 0 ((words.drop 1).take j) = some q ∧ q.length ≤ j ∧
        h' = updW (updW h p1 (.lst (((wss ++ [words]).map fun ws => agentP (ws.headD [])).map RA.w))) p2 (.lst ((rws ++ q).map rwW)) ∧ ρ' = [some (.str t), some (.ref p1), some (.ref p2), none, some (.int (i : Nat)), some (.str part), some (.lst (words.map W.str)), a, b, c]) ?_ ?_ ?_
    · refine .of ⟨[], d, e, f, rfl, Nat.zero_le _, ?_, rfl⟩
      simp
    · rintro j x ρ' h' hx ⟨q, a, b, c, rq, ql, rfl, rfl⟩
      rw [List.getElem?_map] at hx
      obtain ⟨word, hwo, rfl⟩ := Option.map_eq_some_iff.mp hx
      have mw : word ∈ words.drop 1 := List.mem_of_getElem? hwo
      have l12 := w12 word (List.mem_of_mem_drop mw)
      have jl := (List.getElem?_eq_some_iff.mp hwo).1
      have tk : (words.drop 1).take (j + 1) = (words.drop 1).take j ++ [word] := by rw [List.take_add_one, hwo]; rfl
      have tl2 : ((words.drop 1).take j).length = j := by rw [List.length_take]; omega
      have rs := rowsP_snoc i word ((words.drop 1).take j) 0
      rw [← tk, rq, tl2, Nat.zero_add] at rs
      walk_at "st"
      refine ⟨word, rfl, by omega, ?_⟩
      cases e1 : parseI (pf 46 word) with
      | none => exact fun h' sb => q2 (not_good sp hpt hwd (rowsP_none i (by unfold portP; rw [e1]) _ 0 mw)) h' ((sub _ _).trans sb)
      | some x =>
      cases e2 : parseI (pb 46 word) with
      | none => exact fun h' sb => q2 (not_good sp hpt hwd (rowsP_none i (by unfold portP; rw [e1, e2]) _ 0 mw)) h' ((sub _ _).trans sb)
      | some y =>
      have po : portP word = some (x, y) := by unfold portP; rw [e1, e2]
      rw [po] at rs
      dsimp only
      walk_at "st"
      change (if HT.lexLt [((i : Nat) : Int), ((j : Nat) : Int)] [x, y] = true then _ else _)
      unfold wireP at rs
      dsimp only at rs
      by_cases c : HT.lexLt [((i : Nat) : Int), ((j : Nat) : Int)] [x, y] = true
      · have x0 : 0 ≤ x := by
          by_cases z : ((i : Nat) : Int) = x
          · omega
          · simp only [HT.lexLt] at c
            rw [if_neg z] at c
            have := of_decide_eq_true c
            omega
        rw [if_pos c] at rs ⊢
        have j1000 : j ≤ 1000 := by rw [List.length_drop] at jl; omega
        have lq : ((rws ++ q).map rwW).length ≤ 41000 + 1000 := by rw [List.length_map, List.length_append]; omega
        walk_at "st"
        refine .of ⟨q ++ [((i, j), (x.toNat, y))], _, _, _, rs, by rw [List.length_append]; simp; omega, ?_, rfl⟩
        rw [updW_upd, ← List.append_assoc, List.map_append]
        have rw1 : rwW ((i, j), (x.toNat, y)) = .tup [.tup [.int (i : Nat), .int (j : Nat)], .tup [.int x, .int y]] := by
          unfold rwW NP.w RP.w
          simp only [Int.toNat_of_nonneg x0]
        have e3 : (rws ++ q ++ [((i, j), (x.toNat, y))]).map rwW = (rws ++ q).map rwW ++ [.tup [.tup [.int (i : Nat), .int (j : Nat)], .tup [.int x, .int y]]] := by rw [List.map_append, List.map_cons, List.map_nil, rw1]
        rw [e3]
      · rw [if_neg c] at rs ⊢
        walk_at "st"
        exact .of ⟨q, _, _, _, by rw [List.append_nil] at rs; exact rs, by omega, rfl, rfl⟩
    · rintro ρ' h' ⟨q, a, b, c, rq, ql, rfl, rfl⟩
      rw [List.length_map] at rq ql
      rw [List.take_length] at rq
      have ap2 := allP_snoc words wss 0
      rw [ap, Nat.zero_add, li, rq] at ap2
      rw [List.length_drop] at ql
      refine .of ⟨wss ++ [words], rws ++ q, _, _, _, _, _, _, by rw [List.length_append, li]; rfl, fun k p ws e1 e2 => ?_, ap2, by rw [List.length_append]; omega, rfl, rfl⟩
      by_cases kc : k < wss.length
      · rw [List.getElem?_append_left kc] at e2
        exact wk k p ws e1 e2
      · rw [List.getElem?_append_right (by omega)] at e2
        have k0 : k - wss.length = 0 := by have := (List.getElem?_eq_some_iff.mp e2).1; simpa using this
        rw [k0] at e2
        cases e2
        rw [show k = i by omega, hpt] at e1
        cases e1
        exact hwd
  · rintro ρ' h' ⟨wss, rws, a, b, c, d, e, f, li, wk, ap, rl, rfl, rfl⟩
    rw [List.length_map] at li rl
    walk_at "st"
    have hW : Words t wss := ⟨parts, sp, li.symm, wk⟩
    have rS : readS wss = netR (wss.map fun ws => agentP (ws.headD [])) rws := by unfold readS; rw [ap]
    obtain ⟨rs, ers⟩ : ∃ rs, rs = wss.map fun ws => agentP (ws.headD []) := ⟨_, rfl⟩
    rw [← ers] at rS ⊢
    have lrs : rs.length = wss.length := by rw [ers, List.length_map]
    refine go_makeK fun v hv => ?_
    have v2 : v ≠ p2 := fun z => by
      rw [z] at hv
      unfold delW at hv
      rw [if_neg p21, updW_same] at hv
      cases hv
    have hh : ∀ x o, h x = some o → delW (updW (updW h p1 (.lst (rs.map RA.w))) p2 (.lst (rws.map rwW))) p1 x = some o := fun x o e => by
      unfold delW
      rw [if_neg (fun z => by rw [z, hp1] at e; cases e), updW_ne (fun z => by rw [z, h2n] at e; cases e), updW_ne (fun z => by rw [z, hp1] at e; cases e)]
      exact e
    have kpS : ∀ h', KeepBut v (updW (delW (updW (updW h p1 (.lst (rs.map RA.w))) p2 (.lst (rws.map rwW))) p1) v (.ins T.aC_Net [])) h' → Sub h h' := fun h' kb x o e => by
      have xv : x ≠ v := fun z => by
        have := hh x o e
        rw [z, hv] at this
        cases this
      exact kb x o xv (by rw [updW_ne xv]; exact hh x o e)
    refine ⟨v, rs, .ref p2, rws, rfl, updW_same, ?_, by omega, by omega, fun r hr => ?_, ?_⟩
    · show updW _ v _ p2 = _
      rw [updW_ne v2.symm]
      unfold delW
      rw [if_neg p21, updW_same]
    · rw [ers] at hr
      obtain ⟨ws, _, rfl⟩ := List.mem_map.mp hr
      exact agentP_dr _
    cases en : netR rs rws with
    | none =>
      intro h' kb
      refine q2 (fun s gt => ?_) h' (kpS h' kb)
      obtain ⟨wss2, hW2, r2, _⟩ := gt
      rw [hW2.uniq hW, rS, en] at r2
      cases r2
    | some s =>
      intro g h' na kb fr
      have ck : CanOk s := netR_can en fun r hr a ha => by
        rw [ers] at hr
        obtain ⟨ws, hws, rfl⟩ := List.mem_map.mp hr
        refine agentP_sm ?_ ha
        obtain ⟨k, hk, ek⟩ := List.mem_iff_getElem.mp hws
        have e1 := List.getElem?_eq_getElem (show k < parts.length by omega)
        have sk := wk k _ _ e1 (by rw [List.getElem?_eq_getElem hk, ek])
        cases ws with
        | nil => simp
        | cons y ys => exact (rdp _ (List.mem_of_getElem? e1) _ sk).2 y List.mem_cons_self
      refine ⟨rfl, ?_⟩
      walk_at "st"
      refine ⟨v, g, s, rfl, na, ck, ?_⟩
      walk_at "st"
      have frh : ∀ a, a = v ∨ OwnG g a → h a = none := fun a ha => by
        cases e : h a with
        | none => rfl
        | some o =>
          have e2 := hh a o e
          have av : a ≠ v := fun z => by rw [z, hv] at e2; cases e2
          rcases ha with z | ha
          · exact absurd z av
          · have := fr a ha
            rw [updW_ne av, e2] at this
            cases this
      refine go_ndec (fun c => ?_) fun c => ?_
      · walk_at "stc"
        refine q2 (fun s2 gt => ?_) h' (kpS h' kb)
        obtain ⟨wss2, hW2, r2, c2⟩ := gt
        rw [hW2.uniq hW, rS, en] at r2
        cases r2
        exact c c2
      · walk_at "st"
        exact .base (q1 s v g h' ⟨wss, hW, rS.trans en, c⟩ ck na (kpS h' kb) frh) (.refl _)
end

/-! ## small numbers, written and read -/
theorem parseI_p : ∀ n < 65, parseI (decS ((n : Nat) : Int)) = some ((n : Nat) : Int) := by decide +kernel
theorem parseI_n : ∀ n < 65, parseI (decS (-((n : Nat) : Int))) = some (-((n : Nat) : Int)) := by decide +kernel
theorem parseI_dec {i : Int} (h : i.natAbs ≤ 64) : parseI (decS i) = some i := by
  rcases Int.natAbs_eq i with e | e
  · rw [e]; exact parseI_p _ (by omega)
  · rw [e]; exact parseI_n _ (by omega)
theorem decS_p : ∀ n < 65, (decS ((n : Nat) : Int)).length ≤ 3 ∧ ∀ c ∈ decS ((n : Nat) : Int), c ∈ 45 :: digitsS := by decide +kernel
theorem decS_n : ∀ n < 65, (decS (-((n : Nat) : Int))).length ≤ 3 ∧ ∀ c ∈ decS (-((n : Nat) : Int)), c ∈ 45 :: digitsS := by decide +kernel
theorem decS_sig {i : Int} (h : i.natAbs ≤ 64) : (decS i).length ≤ 3 ∧ ∀ c ∈ decS i, c ∈ 45 :: digitsS := by
  rcases Int.natAbs_eq i with e | e
  · rw [e]; exact decS_p _ (by omega)
  · rw [e]; exact decS_n _ (by omega)
/-- a text of one word before a sign, another behind it -/
theorem pf_app {c : Nat} {a b : List Nat} (h : c ∉ a) : pf c (a ++ c :: b) = a ∧ pb c (a ++ c :: b) = b := by
  have p : PartOk c (a ++ c :: b) a [c] b := .inl ⟨rfl, rfl, h⟩
  obtain ⟨h1, h2⟩ := part_eq p
  exact ⟨h1.symm, h2.symm⟩
theorem pf_none {c : Nat} {a : List Nat} (h : c ∉ a) : pf c a = a ∧ pb c a = [] := by
  have p : PartOk c a a [] [] := .inr ⟨h, rfl, rfl, rfl⟩
  obtain ⟨h1, h2⟩ := part_eq p
  exact ⟨h1.symm, h2.symm⟩
theorem not_dec {i : Int} (h : i.natAbs ≤ 64) {c : Nat} (hc : c ∉ 45 :: digitsS) : c ∉ decS i := fun z => hc ((decS_sig h).2 c z)
theorem portP_word {num : Nat → Nat} {q : NP} (h1 : num q.1 ≤ 64) (h2 : q.2 ≤ 64) : portP (wordT num (some q)) = some (((num q.1 : Nat) : Int), ((q.2 : Nat) : Int)) := by
  unfold portP wordT
  dsimp only
  obtain ⟨e1, e2⟩ := pf_app (c := 46) (b := decS ((q.2 : Nat) : Int)) (not_dec (i := ((num q.1 : Nat) : Int)) (by omega) (by decide))
  rw [e1, e2, parseI_dec (by omega), parseI_dec (by omega)]

/-! ## agents, written and read -/
theorem ks_no (k : AK) : 61 ∉ k.s ∧ 47 ∉ k.s := by cases k <;> decide
theorem kind_no {a : Ag} (h : a.lv.natAbs ≤ 64) : 61 ∉ kindT a := by
  unfold kindT
  split
  · exact (ks_no a.k).1
  · intro z
    rcases List.mem_append.mp z with z | z
    · exact (ks_no a.k).1 z
    · rcases List.mem_cons.mp z with z | z
      · cases z
      · exact not_dec h (by decide) z
theorem head_pf {a : Ag} (h : a.lv.natAbs ≤ 64) : pf 61 (headT a) = kindT a ∧ pb 61 (headT a) = dataT a.dt := by
  have no := kind_no h
  obtain ⟨k, lv, dt⟩ := a
  unfold headT eqT
  cases dt with
  | non => rw [List.append_nil]; exact pf_none no
  | int i => exact pf_app no
  | str c => exact pf_app no
  | tup c i => exact pf_app no
theorem kind_pf {a : Ag} : pf 47 (kindT a) = a.k.s ∧ (¬ (a.k = .root ∨ a.k = .num) → pb 47 (kindT a) = decS a.lv) := by
  unfold kindT
  split
  · rename_i c
    exact ⟨(pf_none (ks_no a.k).2).1, fun z => absurd c z⟩
  · exact ⟨(pf_app (ks_no a.k).2).1, fun _ => (pf_app (ks_no a.k).2).2⟩
theorem agentP_head {a : Ag} (ok : a.ok = true) (h : a.lv.natAbs ≤ 64) (hd : dt64 a.dt) : agentP (headT a) = a.raw := by
  obtain ⟨e1, e2⟩ := head_pf h
  obtain ⟨e3, e4⟩ := kind_pf (a := a)
  unfold Ag.ok at ok
  rw [Bool.and_eq_true, Bool.not_eq_true', Bool.or_eq_false_iff] at ok
  obtain ⟨⟨o1, o2⟩, o3⟩ := ok
  have l0 := of_decide_eq_false o1
  unfold agentP Ag.raw
  rw [e1, e2, e3]
  obtain ⟨k, lv, dt⟩ := a
  dsimp only at *
  have pl := parseI_dec h
  have z : (k = .root ∨ k = .num) → lv = 0 := fun z => by
    rw [Bool.and_eq_false_iff] at o2
    rcases o2 with o2 | o2
    · have := of_decide_eq_false o2; omega
    · exact absurd z (of_decide_eq_false o2)
  cases k <;> cases dt <;> first | (exact absurd o3 Bool.false_ne_true) | skip
  case root.non => rw [if_neg (by decide), if_pos (by rfl), z (.inl rfl)]
  case num.int i =>
    rw [if_pos (by rfl), z (.inr rfl)]
    have : parseI (dataT (.int i)) = some i := parseI_dec hd
    rw [this]
  case op.str c => rw [if_neg (by decide), if_neg (by decide), if_pos (by rfl), e4 (by decide), pl]; rfl
  case op1.tup c i =>
    rw [if_neg (by decide), if_neg (by decide), if_neg (by decide), if_pos (by rfl), e4 (by decide), pl]
    have : parseI ((dataT (.tup c i)).drop 1) = some i := parseI_dec hd
    rw [this]; rfl
  all_goals rw [if_neg (by decide), if_neg (by decide), if_neg (by decide), if_neg (by decide), e4 (by decide), pl]

/-! ## what may be asked to be read -/
theorem joinS_count (c : Nat) (r : List Nat) : ∀ ys : List (List Nat), ys.length ≤ (joinS (c :: r) ys).count c + 1
  | [] => Nat.zero_le _
  | y :: ys => by
    have ih := joinS_count c r ys
    rw [joinS_cons]
    split
    · rename_i e; rw [e]; simp
    · rw [List.count_append, List.count_append, List.count_cons_self, List.length_cons]
      omega
theorem joinS_in (b : List Nat) {y : List Nat} : ∀ ys : List (List Nat), y ∈ ys → ∃ u v, joinS b ys = u ++ y ++ v
  | x :: ys, m => by
    rw [joinS_cons]
    rcases List.mem_cons.mp m with rfl | m
    · split
      · exact ⟨[], [], by simp⟩
      · exact ⟨[], _, rfl⟩
    · obtain ⟨u, v, e⟩ := joinS_in b ys m
      rw [if_neg (fun z => by rw [z] at m; cases m), e]
      exact ⟨x ++ (b ++ u), v, by simp⟩
theorem rdOk_of {t : List Nat} (l : t.length ≤ 900) (c : t.count 59 ≤ 40) (w : ∀ a u b, t = a ++ u ++ b → 32 ∉ u → u.length ≤ 12) : RdOk t := by
  refine ⟨by omega, fun parts sp => ⟨?_, fun p hp ws hw => ⟨?_, fun x hx => ?_⟩⟩⟩
  · have := joinS_count 59 [32] parts
    rw [sp.1] at this
    omega
  · have h1 := joinS_count 32 [] ws
    rw [hw.1] at h1
    have h2 := joinS_mem_len [59, 32] parts hp
    rw [sp.1] at h2
    have := List.count_le_length (a := 32) (l := p)
    omega
  · obtain ⟨u, v, e⟩ := joinS_in [59, 32] parts hp
    obtain ⟨u2, v2, e2⟩ := joinS_in [32] ws hx
    rw [sp.1] at e
    rw [hw.1] at e2
    exact w (u ++ u2) x (v2 ++ v) (by rw [e, e2]; simp) (noIn_one.mp (hw.2.2 x hx))

/-! ## the round trip -/
/-- the wire that a port's word gives -/
def wF (es : Es) (p : NP) : Option Wr := match getE es p with
  | some (some q) => if ltP p q = true then some (p, q) else none
  | _ => none
theorem wF_some {es : Es} {p : NP} {w : Wr} (h : wF es p = some w) : w.1 = p ∧ getE es p = some (some w.2) ∧ ltP p w.2 = true := by
  unfold wF at h
  split at h
  · rename_i q e
    split at h
    · rename_i c; cases h; exact ⟨rfl, e, c⟩
    · cases h
  · cases h
theorem ltP_asym {p q : NP} (a : ltP p q = true) (b : ltP q p = true) : False := by
  have := ltP_trans a b
  rw [ltP_irr] at this; cases this
theorem endsW_mem {ws : List Wr} {p : NP} : p ∈ endsW ws ↔ ∃ w ∈ ws, w.1 = p ∨ w.2 = p := by
  unfold endsW
  rw [List.mem_flatMap]
  constructor
  · rintro ⟨w, hw, z⟩
    simp only [List.mem_cons, List.not_mem_nil, or_false] at z
    exact ⟨w, hw, z.imp Eq.symm Eq.symm⟩
  · rintro ⟨w, hw, z⟩
    refine ⟨w, hw, ?_⟩
    simp only [List.mem_cons, List.not_mem_nil, or_false]
    exact z.imp Eq.symm Eq.symm
/-- a peer's peer, once more -/
def SymE (es : Es) : Prop := ∀ p q, getE es p = some (some q) → getE es q = some (some p) ∧ p ≠ q
theorem wF_nodup {es : Es} (sy : SymE es) : ∀ L : List NP, L.Nodup → (endsW (L.filterMap (wF es))).Nodup
  | [], _ => by simp [endsW]
  | p :: L, nd => by
    obtain ⟨n1, n2⟩ := List.nodup_cons.mp nd
    have ih := wF_nodup sy L n2
    rw [List.filterMap_cons]
    cases e : wF es p with
    | none => exact ih
    | some w =>
      obtain ⟨e1, e2, e3⟩ := wF_some e
      obtain ⟨e4, e5⟩ := sy _ _ e2
      show (endsW (w :: L.filterMap (wF es))).Nodup
      rw [endsW_cons, List.nodup_cons, List.nodup_cons, e1]
      have key : ∀ v ∈ L.filterMap (wF es), v.1 ∈ L ∧ getE es v.1 = some (some v.2) ∧ ltP v.1 v.2 = true := fun v hv => by
        obtain ⟨x, hx, ex⟩ := List.mem_filterMap.mp hv
        obtain ⟨a, b, c⟩ := wF_some ex
        rw [a]
        exact ⟨hx, b, c⟩
      refine ⟨fun z => ?_, fun z => ?_, ih⟩
      · rcases List.mem_cons.mp z with z | z
        · exact e5 z
        · obtain ⟨v, hv, y⟩ := endsW_mem.mp z
          obtain ⟨a, b, c⟩ := key v hv
          rcases y with y | y
          · exact n1 (y ▸ a)
          · have h1 := (sy _ _ b).1
            rw [y, e2] at h1
            have h2 := Option.some.inj (Option.some.inj h1)
            rw [y, ← h2] at c
            exact ltP_asym e3 c
      · obtain ⟨v, hv, y⟩ := endsW_mem.mp z
        obtain ⟨a, b, c⟩ := key v hv
        rcases y with y | y
        · rw [y, e4] at b
          have h2 := Option.some.inj (Option.some.inj b)
          rw [y, ← h2] at c
          exact ltP_asym e3 c
        · have h1 := (sy _ _ b).1
          rw [y, e4] at h1
          have h2 := Option.some.inj (Option.some.inj h1)
          exact n1 (h2 ▸ a)
section
variable {ags : List Ag} {wrs : List Wr} {es : Es}
theorem getE_port (eo : EndsOk ags wrs es) {p : NP} {o : Option NP} (h : getE es p = some o) : p.2 < portN ags p.1 := by
  unfold getE at h
  obtain ⟨l, hl, ho⟩ := Option.bind_eq_some_iff.mp h
  rw [← eo.at hl]
  exact (List.getElem?_eq_some_iff.mp ho).1
theorem symE_of (eo : EndsOk ags wrs es) (nd : (endsW wrs).Nodup) : SymE es := fun p q h => by
  have hp := getE_port eo h
  have g := (eo.g p hp).1
  rw [h] at g
  have e := (Option.some.inj g).symm
  have t := eo.t q (peerL_mem e)
  refine ⟨?_, peerL_ne nd e⟩
  rw [(eo.g q t).1, peerL_sym nd e]
theorem wF_ends (eo : EndsOk ags wrs es) (nd : (endsW wrs).Nodup) : endsE ags ((portsL ags).filterMap (wF es)) = some es := by
  have sy := symE_of eo nd
  have pn : (portsL ags).Nodup := portsK_nodup ags ags.length
  have mp : ∀ p o, getE es p = some o → p ∈ portsL ags := fun p o h => mem_portsL.mpr (getE_port eo h)
  refine endsE_of (perm_mem (wF_nodup sy _ pn) pn fun x => ?_) eo.n fun w hw => ?_
  · rw [endsW_mem]
    constructor
    · rintro ⟨w, hw, z⟩
      obtain ⟨y, hy, e⟩ := List.mem_filterMap.mp hw
      obtain ⟨a, b, _⟩ := wF_some e
      rcases z with z | z
      · rw [← z, a]; exact hy
      · rw [← z]; exact mp _ _ (sy _ _ b).1
    · intro hx
      obtain ⟨g1, g2⟩ := eo.g x (mem_portsL.mp hx)
      obtain ⟨q, hq⟩ := Option.ne_none_iff_exists'.mp g2
      rw [hq] at g1
      obtain ⟨s1, s2⟩ := sy _ _ g1
      cases c : ltP x q with
      | true => exact ⟨(x, q), List.mem_filterMap.mpr ⟨x, hx, by unfold wF; rw [g1]; dsimp only; rw [if_pos c]⟩, .inl rfl⟩
      | false =>
        have c2 := ltP_tri x q c s2
        exact ⟨(q, x), List.mem_filterMap.mpr ⟨q, mp _ _ s1, by unfold wF; rw [s1]; dsimp only; rw [if_pos c2]⟩, .inr rfl⟩
  · obtain ⟨y, hy, e⟩ := List.mem_filterMap.mp hw
    obtain ⟨a, b, _⟩ := wF_some e
    obtain ⟨s1, _⟩ := sy _ _ b
    rw [a]
    exact ⟨b, s1⟩
end
/-! ### words without blanks -/
def Cl (s : List Nat) : Prop := 32 ∉ s ∧ 59 ∉ s
theorem Cl.app {a b : List Nat} (h : Cl a) (g : Cl b) : Cl (a ++ b) := ⟨fun z => (List.mem_append.mp z).elim h.1 g.1, fun z => (List.mem_append.mp z).elim h.2 g.2⟩
theorem Cl.cons {c : Nat} {b : List Nat} (h : c ≠ 32 ∧ c ≠ 59) (g : Cl b) : Cl (c :: b) := ⟨fun z => (List.mem_cons.mp z).elim (fun y => h.1 y.symm) g.1, fun z => (List.mem_cons.mp z).elim (fun y => h.2 y.symm) g.2⟩
theorem Cl.nil : Cl [] := by unfold Cl; decide
theorem Cl.dec {i : Int} (h : i.natAbs ≤ 64) : Cl (decS i) := ⟨not_dec h (by decide), not_dec h (by decide)⟩
theorem ks_cl (k : AK) : Cl k.s := by unfold Cl; cases k <;> decide
theorem sgn_cl {c : Nat} (h : sgn c = true) : c ≠ 32 ∧ c ≠ 59 := by
  unfold sgn at h
  have := of_decide_eq_true h
  omega
theorem decS_lv : ∀ n < 10, (decS ((n : Nat) : Int)).length ≤ 1 := by decide +kernel
structure SmA (a : Ag) : Prop where
  ok : a.ok = true
  lv : a.lv ≤ 2
  d : dt64 a.dt
theorem SmA.nn {a : Ag} (h : SmA a) : 0 ≤ a.lv := by
  have ok := h.ok
  unfold Ag.ok at ok
  rw [Bool.and_eq_true, Bool.not_eq_true', Bool.or_eq_false_iff] at ok
  have := of_decide_eq_false ok.1.1
  omega
theorem SmA.lvt {a : Ag} (h : SmA a) : Cl (decS a.lv) ∧ (decS a.lv).length ≤ 1 := by
  have := h.nn
  have := h.lv
  refine ⟨Cl.dec (by omega), ?_⟩
  rw [show a.lv = ((a.lv.toNat : Nat) : Int) by omega]
  exact decS_lv _ (by omega)
theorem SmA.kt {a : Ag} (h : SmA a) : Cl (kindT a) ∧ (kindT a).length ≤ a.k.s.length + 2 := by
  obtain ⟨c, l⟩ := h.lvt
  unfold kindT
  split
  · exact ⟨ks_cl _, by omega⟩
  · exact ⟨(ks_cl _).app (.cons (by decide) c), by rw [List.length_append, List.length_cons]; omega⟩
theorem SmA.head {a : Ag} (h : SmA a) : Cl (headT a) ∧ (headT a).length ≤ 11 := by
  obtain ⟨kc, kl⟩ := h.kt
  have hd := h.d
  have dk : a.dok = true := by
    have ok := h.ok
    unfold Ag.ok at ok
    rw [Bool.and_eq_true] at ok
    exact ok.2
  have k5 := a.k.len
  unfold headT
  rw [List.length_append]
  obtain ⟨k, lv, dt⟩ := a
  dsimp only at *
  cases dt with
  | non => exact ⟨by rw [show eqT .non = [] from rfl, List.append_nil]; exact kc, by show _ + 0 ≤ 11; omega⟩
  | int i =>
    have i64 : i.natAbs ≤ 64 := hd
    have := (decS_sig i64).1
    cases k <;> first | (exact absurd dk Bool.false_ne_true) | skip
    refine ⟨kc.app (.cons (by decide) (.dec i64)), ?_⟩
    show _ + (decS i).length.succ ≤ 11
    have : (AK.num).s.length = 3 := rfl
    omega
  | str c =>
    cases k <;> first | (exact absurd dk Bool.false_ne_true) | skip
    refine ⟨kc.app (.cons (by decide) (.cons (sgn_cl dk) .nil)), ?_⟩
    show _ + 2 ≤ 11
    omega
  | tup c i =>
    have i64 : i.natAbs ≤ 64 := hd
    have := (decS_sig i64).1
    cases k <;> first | (exact absurd dk Bool.false_ne_true) | skip
    refine ⟨kc.app (.cons (by decide) (.cons (sgn_cl dk) (.dec i64))), ?_⟩
    show _ + (decS i).length.succ.succ ≤ 11
    have : (AK.op1).s.length = 3 := rfl
    omega
def wId (o : Option NP) : List Nat := wordT (fun x => x) o
theorem wId_cl {q : NP} (h1 : q.1 ≤ 64) (h2 : q.2 ≤ 64) : Cl (wId (some q)) ∧ (wId (some q)).length ≤ 11 := by
  have a := decS_sig (i := ((q.1 : Nat) : Int)) (by omega)
  have b := decS_sig (i := ((q.2 : Nat) : Int)) (by omega)
  have e : wId (some q) = decS ((q.1 : Nat) : Int) ++ 46 :: decS ((q.2 : Nat) : Int) := rfl
  rw [e]
  refine ⟨(Cl.dec (by omega)).app (.cons (by decide) (.dec (by omega))), ?_⟩
  rw [List.length_append, List.length_cons]
  omega
def wds (a : Ag) (l : List (Option NP)) : List (List Nat) := headT a :: l.map wId
/-- a net as its text names it -/
structure TxtN (ags : List Ag) (wrs : List Wr) (es : Es) : Prop where
  eo : EndsOk ags wrs es
  nd : (endsW wrs).Nodup
  sa : ∀ a ∈ ags, SmA a
  l0 : 0 < ags.length
  l14 : ags.length ≤ 14
  rc : reachE es 0 = List.range ags.length
section
variable {ags : List Ag} {wrs : List Wr} {es : Es}
theorem TxtN.len (k : TxtN ags wrs es) : es.length = ags.length := by
  have := congrArg List.length k.eo.n
  rw [List.length_map, List.length_map] at this
  exact this
theorem TxtN.row (k : TxtN ags wrs es) {i : Nat} (h : i < ags.length) : ∃ a l, ags[i]? = some a ∧ es[i]? = some l ∧ SmA a ∧ l.length = portN ags i ∧ l.length ≤ 3 ∧ ∀ o ∈ l, ∃ q : NP, o = some q ∧ q.1 < ags.length ∧ q.2 < 3 := by
  have le := k.len
  have ea := List.getElem?_eq_getElem h
  have el := List.getElem?_eq_getElem (show i < es.length by omega)
  have ll := k.eo.at el
  have p3 : ∀ j, portN ags j ≤ 3 := fun j => by
    unfold portN
    split
    · rename_i b _; cases b.k <;> decide
    · omega
  refine ⟨_, _, ea, el, k.sa _ (List.getElem_mem h), ll, by rw [ll]; exact p3 i, fun o ho => ?_⟩
  obtain ⟨j, hj, e⟩ := List.mem_iff_getElem.mp ho
  have g : getE es (i, j) = some o := by unfold getE; dsimp only; rw [el, Option.bind_some, List.getElem?_eq_getElem hj, e]
  obtain ⟨g1, g2⟩ := k.eo.g (i, j) (getE_port k.eo g)
  obtain ⟨q, hq⟩ := Option.ne_none_iff_exists'.mp g2
  rw [g1, hq] at g
  have t := k.eo.t q (peerL_mem hq)
  exact ⟨q, (Option.some.inj g).symm, portN_lt t, Nat.lt_of_lt_of_le t (p3 _)⟩
def wssOf (ags : List Ag) (es : Es) : List (List (List Nat)) := (List.range ags.length).map fun i => match ags[i]?, es[i]? with
  | some a, some l => wds a l
  | _, _ => []
theorem TxtN.wss (k : TxtN ags wrs es) {i : Nat} {ws : List (List Nat)} (h : (wssOf ags es)[i]? = some ws) : ∃ a l, i < ags.length ∧ ags[i]? = some a ∧ es[i]? = some l ∧ ws = wds a l := by
  unfold wssOf at h
  rw [List.getElem?_map] at h
  obtain ⟨j, hj, e⟩ := Option.map_eq_some_iff.mp h
  have hi : i < ags.length := by have := (List.getElem?_eq_some_iff.mp hj).1; simpa using this
  rw [List.getElem?_range hi] at hj
  cases hj
  obtain ⟨a, l, ea, el, _⟩ := k.row hi
  rw [ea, el] at e
  exact ⟨a, l, hi, ea, el, e.symm⟩
theorem TxtN.part (k : TxtN ags wrs es) {i : Nat} {a : Ag} {l : List (Option NP)} (h : i < ags.length) (ea : ags[i]? = some a) (el : es[i]? = some l) (act : List NP) : partOf ⟨ags, es, 0, act⟩ (List.range ags.length) i = joinS [32] (wds a l) := by
  obtain ⟨a2, l2, ea2, el2, _, _, _, ho⟩ := k.row h
  rw [ea] at ea2; cases ea2
  rw [el] at el2; cases el2
  unfold partOf
  dsimp only
  rw [ea, el]
  dsimp only
  unfold partT wds
  congr 2
  refine List.map_congr_left fun o hm => ?_
  obtain ⟨q, rfl, q1, _⟩ := ho o hm
  unfold wId wordT
  dsimp only
  rw [idx_at List.nodup_range (List.getElem?_range q1)]
theorem joinS_no {c : Nat} {b : List Nat} (hb : c ∉ b) : ∀ ys : List (List Nat), (∀ y ∈ ys, c ∉ y) → c ∉ joinS b ys
  | [], _ => fun z => nomatch z
  | y :: ys, h => by
    have ih := joinS_no hb ys fun x hx => h x (List.mem_cons_of_mem _ hx)
    have hy := h y List.mem_cons_self
    rw [joinS_cons]
    split
    · exact hy
    · intro z
      rcases List.mem_append.mp z with z | z
      · exact hy z
      · rcases List.mem_append.mp z with z | z
        · exact hb z
        · exact ih z
theorem noIn_of {c d : Nat} {y : List Nat} (h : c ∉ y) : NoIn [c, d] y := fun p hp e => by
  have hi : p < y.length := by
    have : p + 2 ≤ y.length := hp
    omega
  rw [List.drop_eq_getElem_cons hi] at e
  simp only [List.length_cons, List.length_nil, List.take_succ_cons, List.cons.injEq] at e
  exact h (by rw [← e.1]; exact List.getElem_mem hi)
theorem TxtN.wcl (k : TxtN ags wrs es) {i : Nat} {a : Ag} {l : List (Option NP)} (h : i < ags.length) (ea : ags[i]? = some a) (el : es[i]? = some l) : ∀ x ∈ wds a l, Cl x ∧ x.length ≤ 11 := by
  obtain ⟨a2, l2, ea2, el2, sa, _, _, ho⟩ := k.row h
  rw [ea] at ea2; cases ea2
  rw [el] at el2; cases el2
  have l14 := k.l14
  intro x hx
  rcases List.mem_cons.mp hx with rfl | hx
  · exact sa.head
  · obtain ⟨o, hm, rfl⟩ := List.mem_map.mp hx
    obtain ⟨q, rfl, q1, q2⟩ := ho o hm
    exact wId_cl (by omega) (by omega)
theorem TxtN.words (k : TxtN ags wrs es) (act : List NP) : Words (canonT ⟨ags, es, 0, act⟩) (wssOf ags es) := by
  have l0 := k.l0
  have e0 : canonT ⟨ags, es, 0, act⟩ = joinS [59, 32] ((List.range ags.length).map (partOf ⟨ags, es, 0, act⟩ (List.range ags.length))) := by
    unfold canonT; dsimp only; rw [k.rc]
  refine ⟨_, ⟨e0.symm, ?_, fun p hp => ?_⟩, by unfold wssOf; rw [List.length_map, List.length_map], fun i p ws hp hw => ?_⟩
  · intro z
    have := congrArg List.length z
    rw [List.length_map, List.length_range, List.length_nil] at this
    omega
  · obtain ⟨i, hi, rfl⟩ := List.mem_map.mp hp
    rw [List.mem_range] at hi
    obtain ⟨a, l, ea, el, _⟩ := k.row hi
    rw [k.part hi ea el]
    exact noIn_of (joinS_no (by decide) _ fun x hx => (k.wcl hi ea el x hx).1.2)
  · obtain ⟨a, l, hi, ea, el, rfl⟩ := k.wss hw
    rw [List.getElem?_map, List.getElem?_range hi] at hp
    cases hp
    rw [k.part hi ea el]
    exact ⟨rfl, by unfold wds; exact List.cons_ne_nil _ _, fun x hx => noIn_one.mpr (k.wcl hi ea el x hx).1.1⟩
theorem TxtN.rows (k : TxtN ags wrs es) {i : Nat} {l : List (Option NP)} (h : i < ags.length) (el : es[i]? = some l) : ∀ j, j ≤ l.length → rowsP i 0 ((l.take j).map wId) = some ((((List.range j).map fun j => (i, j)).filterMap (wF es)).map rawW)
  | 0, _ => by simp [rowsP]
  | j + 1, hj => by
    obtain ⟨a2, l2, _, el2, _, _, _, ho⟩ := k.row h
    rw [el] at el2; cases el2
    have l14 := k.l14
    have ej := List.getElem?_eq_getElem (show j < l.length by omega)
    obtain ⟨q, hq, q1, q2⟩ := ho _ (List.getElem_mem (show j < l.length by omega))
    rw [hq] at ej
    have g : getE es (i, j) = some (some q) := by unfold getE; dsimp only; rw [el, Option.bind_some, ej]
    rw [List.take_add_one, ej, List.map_append]
    show rowsP i 0 (_ ++ [wId (some q)]) = _
    rw [rowsP_snoc, k.rows h el j (by omega)]
    have pw : portP (wId (some q)) = some (((q.1 : Nat) : Int), ((q.2 : Nat) : Int)) := portP_word (num := fun x => x) (by omega) (by omega)
    rw [pw]
    dsimp only
    rw [List.length_map, List.length_take, Nat.min_eq_left (by omega), Nat.zero_add, List.range_succ, List.map_append, List.filterMap_append, List.map_append]
    congr 2
    unfold wireP
    dsimp only
    rw [show HT.lexLt [((i : Nat) : Int), ((j : Nat) : Int)] [((q.1 : Nat) : Int), ((q.2 : Nat) : Int)] = ltP (i, j) q from lex_ltP (i, j) q]
    simp only [List.map_cons, List.map_nil, List.filterMap_cons, List.filterMap_nil]
    unfold wF
    rw [g]
    dsimp only
    cases ltP (i, j) q with
    | true => rfl
    | false => rfl
theorem TxtN.allW (k : TxtN ags wrs es) : ∀ m, m ≤ ags.length → allP 0 ((wssOf ags es).take m) = some (((portsK ags m).filterMap (wF es)).map rawW)
  | 0, _ => by simp [allP, portsK]
  | m + 1, hm => by
    have lw : (wssOf ags es).length = ags.length := by unfold wssOf; rw [List.length_map, List.length_range]
    have ew := List.getElem?_eq_getElem (show m < (wssOf ags es).length by omega)
    obtain ⟨a, l, hi, ea, el, e⟩ := k.wss ew
    obtain ⟨_, l2, _, el2, _, ll, _, _⟩ := k.row hi
    rw [el] at el2; cases el2
    rw [e] at ew
    rw [List.take_add_one, ew]
    show allP 0 (_ ++ [wds a l]) = _
    rw [allP_snoc, k.allW m (by omega), List.length_take, Nat.min_eq_left (by omega), Nat.zero_add]
    have r := k.rows hi el l.length (Nat.le_refl _)
    rw [List.take_length] at r
    rw [show (wds a l).drop 1 = l.map wId from rfl, r]
    dsimp only
    rw [portsK_succ, ← ll, List.filterMap_append, List.map_append]
theorem TxtN.heads (k : TxtN ags wrs es) : ((wssOf ags es).map fun ws => agentP (ws.headD [])) = ags.map Ag.raw := by
  unfold wssOf
  rw [List.map_map]
  apply List.ext_getElem?
  intro i
  rw [List.getElem?_map, List.getElem?_map]
  by_cases hi : i < ags.length
  · obtain ⟨a, l, ea, el, sa, _⟩ := k.row hi
    rw [List.getElem?_range hi, ea]
    simp only [Option.map_some, Function.comp_apply]
    rw [ea, el]
    show some (agentP (headT a)) = some a.raw
    have := sa.nn
    have := sa.lv
    rw [agentP_head sa.ok (by omega) sa.d]
  · rw [List.getElem?_eq_none (by simpa using hi), List.getElem?_eq_none (by omega)]; rfl
theorem TxtN.good (k : TxtN ags wrs es) {s : NS} (h : netE ags wrs = some s) (ee : endsE ags wrs = some es) (hc : canonT s = canonT ⟨ags, es, 0, []⟩) : GoodT (canonT ⟨ags, es, 0, []⟩) s := by
  have a := k.allW ags.length (Nat.le_refl _)
  have lw : (wssOf ags es).length = ags.length := by unfold wssOf; rw [List.length_map, List.length_range]
  rw [← lw, List.take_length, lw] at a
  have r : readS (wssOf ags es) = netE ags wrs := by
    unfold readS
    rw [a]
    dsimp only
    rw [k.heads, netR_raw (fun b hb => (k.sa b hb).ok)]
    unfold netE
    rw [show endsE ags ((portsK ags ags.length).filterMap (wF es)) = some es from wF_ends k.eo k.nd, ee]
  exact ⟨_, k.words [], r.trans h, hc⟩
/-! ### what may be read of it -/
def RunB (m : Nat) (t : List Nat) : Prop := ∀ a u b, t = a ++ u ++ b → 32 ∉ u → u.length ≤ m
theorem RunB.mono {m n : Nat} {t : List Nat} (h : RunB m t) (l : m ≤ n) : RunB n t := fun a u b e no => Nat.le_trans (h a u b e no) l
theorem RunB.of_len {m : Nat} {t : List Nat} (l : t.length ≤ m) : RunB m t := fun a u b e _ => by
  have := congrArg List.length e
  rw [List.length_append, List.length_append] at this
  omega
theorem RunB.one {m c : Nat} {t : List Nat} (h : RunB m t) : RunB (m + 1) (t ++ [c]) := fun a u b e no => by
  rcases List.eq_nil_or_concat b with rfl | ⟨b', x, rfl⟩
  · rw [List.append_nil] at e
    rcases List.eq_nil_or_concat u with rfl | ⟨u', x, rfl⟩
    · simp
    · have e2 : t ++ [c] = (a ++ u') ++ [x] := by rw [e]; simp
      have := List.append_inj_left' e2 rfl
      have l := h a u' [] (by rw [this]; simp) fun z => no (by simp [z])
      simp only [List.concat_eq_append, List.length_append, List.length_singleton] at *
      omega
  · have e2 : t ++ [c] = (a ++ u ++ b') ++ [x] := by rw [e]; simp
    have := List.append_inj_left' e2 rfl
    have l := h a u b' this no
    omega
theorem RunB.join2 {m : Nat} {x y : List Nat} (h : RunB m x) (g : RunB m y) : RunB m (x ++ 32 :: y) := fun a u b e no => by
  by_cases c1 : x.length < a.length
  · -- u lies in y
    have e2 : x ++ 32 :: y = a ++ (u ++ b) := by rw [e, List.append_assoc]
    obtain ⟨z, v, e3, e4⟩ := longer e2 c1
    injection e4 with e5 e6
    exact g v u b (by rw [e6, List.append_assoc]; rfl) no
  · by_cases c2 : (a ++ u).length ≤ x.length
    · have e3 := congrArg (List.take (a ++ u).length) e
      rw [List.take_append_of_le_length c2, List.take_left' rfl] at e3
      have e4 := List.take_append_drop (a ++ u).length x
      rw [e3] at e4
      exact h a u _ e4.symm no
    · obtain ⟨z, v, e3, e4⟩ := longer (y := x) (z := a ++ u) (r := 32 :: y) (s := b) e (by omega)
      injection e4 with e5 _
      exfalso
      have e6 := congrArg (List.drop a.length) e3
      rw [List.drop_left' rfl, List.drop_append_of_le_length (by omega)] at e6
      exact no (by rw [e6, ← e5]; simp)
theorem RunB.joins {m : Nat} : ∀ ys : List (List Nat), (∀ y ∈ ys, y.length ≤ m) → RunB m (joinS [32] ys)
  | [], _ => .of_len (Nat.zero_le _)
  | y :: ys, h => by
    rw [joinS_cons]
    split
    · exact .of_len (h y List.mem_cons_self)
    · exact RunB.join2 (.of_len (h y List.mem_cons_self)) (RunB.joins ys fun z hz => h z (List.mem_cons_of_mem _ hz))
theorem RunB.parts {m : Nat} : ∀ ps : List (List Nat), (∀ p ∈ ps, RunB m p) → RunB (m + 1) (joinS [59, 32] ps)
  | [], _ => .of_len (Nat.zero_le _)
  | y :: ys, h => by
    have hy := h y List.mem_cons_self
    rw [joinS_cons]
    split
    · exact hy.mono (Nat.le_succ _)
    · have := RunB.join2 (hy.one (c := 59)) (RunB.parts ys fun z hz => h z (List.mem_cons_of_mem _ hz))
      rw [List.append_assoc] at this
      exact this
theorem joinS_cnt {c : Nat} {b : List Nat} (m n : Nat) (hb : b.count c ≤ n) : ∀ ys : List (List Nat), (∀ y ∈ ys, y.count c ≤ m) → (joinS b ys).count c ≤ (m + n) * ys.length
  | [], _ => Nat.zero_le _
  | y :: ys, h => by
    have ih := joinS_cnt m n hb ys fun x hx => h x (List.mem_cons_of_mem _ hx)
    have hy := h y List.mem_cons_self
    rw [joinS_cons, List.length_cons, Nat.mul_succ]
    split
    · omega
    · rw [List.count_append, List.count_append]; omega
/-- a first text: short, few parts, short words -/
structure Sh (t : List Nat) : Prop where
  l : t.length ≤ 700
  c : t.count 59 ≤ 14
  r : RunB 12 t
theorem TxtN.sh (k : TxtN ags wrs es) (act : List NP) : Sh (canonT ⟨ags, es, 0, act⟩) := by
  have l14 := k.l14
  have e0 : canonT ⟨ags, es, 0, act⟩ = joinS [59, 32] ((List.range ags.length).map (partOf ⟨ags, es, 0, act⟩ (List.range ags.length))) := by
    unfold canonT; dsimp only; rw [k.rc]
  have pt : ∀ p ∈ (List.range ags.length).map (partOf ⟨ags, es, 0, act⟩ (List.range ags.length)), RunB 11 p ∧ 59 ∉ p ∧ p.length ≤ 48 := fun p hp => by
    obtain ⟨i, hi, rfl⟩ := List.mem_map.mp hp
    rw [List.mem_range] at hi
    obtain ⟨a, l, ea, el, _, _, l3, _⟩ := k.row hi
    rw [k.part hi ea el]
    have w := k.wcl hi ea el
    refine ⟨.joins _ fun x hx => (w x hx).2, joinS_no (by decide) _ fun x hx => (w x hx).1.2, ?_⟩
    have := join_len [32] (wds a l)
    have wl : (wds a l).length ≤ 4 := by unfold wds; rw [List.length_cons, List.length_map]; omega
    have sm : ∀ ws : List (List Nat), (∀ x ∈ ws, x.length ≤ 11) → (ws.map List.length).sum ≤ 11 * ws.length := fun ws => by
      induction ws with
      | nil => intro _; exact Nat.le_refl _
      | cons y ys ih =>
        intro h
        have := ih fun x hx => h x (List.mem_cons_of_mem _ hx)
        have := h y List.mem_cons_self
        simp only [List.map_cons, List.sum_cons, List.length_cons]; omega
    have := sm (wds a l) fun x hx => (w x hx).2
    simp only [List.length_cons, List.length_nil] at *
    omega
  rw [e0]
  refine ⟨?_, ?_, .parts _ fun p hp => (pt p hp).1⟩
  · have := join_len [59, 32] ((List.range ags.length).map (partOf ⟨ags, es, 0, act⟩ (List.range ags.length)))
    have sm : ∀ ws : List (List Nat), (∀ x ∈ ws, x.length ≤ 48) → (ws.map List.length).sum ≤ 48 * ws.length := fun ws => by
      induction ws with
      | nil => intro _; exact Nat.le_refl _
      | cons y ys ih =>
        intro h
        have := ih fun x hx => h x (List.mem_cons_of_mem _ hx)
        have := h y List.mem_cons_self
        simp only [List.map_cons, List.sum_cons, List.length_cons]; omega
    have := sm _ fun x hx => (pt x hx).2.2
    rw [List.length_map, List.length_range] at *
    simp only [List.length_cons, List.length_nil] at *
    omega
  · have := joinS_cnt (c := 59) (b := [59, 32]) 0 1 (by decide) _ fun y hy => Nat.le_of_eq (List.count_eq_zero_of_not_mem (pt y hy).2.1)
    rw [List.length_map, List.length_range] at this
    omega
end
theorem Sh.rd {t : List Nat} (h : Sh t) : RdOk t := rdOk_of (by have := h.l; omega) (by have := h.c; omega) h.r
/-- one word of a text is another one -/
theorem Sh.set {t z : List Nat} {ys : List (List Nat)} (h : Sh t) (sp : SplitOk [32] t ys) (j : Nat) (l : z.length ≤ 12) : RdOk (joinS [32] (ys.set j z)) := by
  have y12 : ∀ y ∈ ys, y.length ≤ 12 := fun y hy => by
    obtain ⟨u, v, e⟩ := joinS_in [32] ys hy
    rw [sp.1] at e
    exact h.r u y v e (noIn_one.mp (sp.2.2 y hy))
  have z12 : ∀ y ∈ ys.set j z, y.length ≤ 12 := fun y hy => by
    rcases List.mem_or_eq_of_mem_set hy with m | rfl
    · exact y12 y m
    · exact l
  have sums : ∀ (f : List Nat → Nat) (ys : List (List Nat)) (j : Nat), ((ys.set j z).map f).sum ≤ (ys.map f).sum + f z := fun f ys => by
    induction ys with
    | nil => intro j; simp
    | cons y ys ih =>
      intro j
      cases j with
      | zero => simp only [List.set_cons_zero, List.map_cons, List.sum_cons]; omega
      | succ j =>
        have := ih j
        simp only [List.set_cons_succ, List.map_cons, List.sum_cons]; omega
  have cnt : ∀ ys : List (List Nat), (joinS [32] ys).count 59 = (ys.map (List.count 59)).sum := fun ys => by
    induction ys with
    | nil => rfl
    | cons y ys ih =>
      rw [joinS_cons, List.map_cons, List.sum_cons, ← ih]
      split
      · rename_i e; rw [e]; simp [joinS]
      · rw [List.count_append, List.count_append]; simp
  have len : ∀ ys : List (List Nat), (joinS [32] ys).length + 1 = (ys.map List.length).sum + ys.length + if ys = [] then 1 else 0 := fun ys => by
    induction ys with
    | nil => rfl
    | cons y ys ih =>
      rw [joinS_cons, List.map_cons, List.sum_cons, if_neg (List.cons_ne_nil _ _)]
      split
      · rename_i e; rw [e]; simp
      · rename_i e
        rw [if_neg e] at ih
        rw [List.length_append, List.length_append, List.length_cons]
        simp only [List.length_cons, List.length_nil]; omega
  refine rdOk_of ?_ ?_ (RunB.joins _ z12)
  · have a := len ys
    have b := len (ys.set j z)
    rw [if_neg sp.2.1, sp.1] at a
    rw [if_neg (fun e => sp.2.1 (by cases ys with | nil => rfl | cons y ys => cases j <;> cases e)), List.length_set] at b
    have := sums List.length ys j
    have := h.l
    omega
  · have a := cnt ys
    have b := cnt (ys.set j z)
    rw [sp.1] at a
    have := sums (List.count 59) ys j
    have := h.c
    have := List.count_le_length (a := 59) (l := z)
    omega
/-! ### the part that the root reaches, named in the text's order -/
theorem reachN_pre {es : Es} : ∀ (f i : Nat) (ns : List Nat), ∃ t, reachN es f i ns = ns ++ t
  | 0, _, ns => ⟨[], (List.append_nil _).symm⟩
  | f + 1, i, ns => by
    unfold reachN
    cases ns[i]? with
    | none => exact ⟨[], (List.append_nil _).symm⟩
    | some n =>
      dsimp only
      obtain ⟨t, e⟩ := rowN_pre ((es[n]?).getD []) ns
      obtain ⟨u, e2⟩ := reachN_pre (es := es) f (i + 1) (rowN ns ((es[n]?).getD []))
      exact ⟨t ++ u, by rw [e2, e, List.append_assoc]⟩
theorem reachE_head (es : Es) (r : Nat) : (reachE es r)[0]? = some r := by
  obtain ⟨t, e⟩ := reachN_pre (es := es) es.length 0 [r]
  show (reachN es es.length 0 [r])[0]? = some r
  rw [e]; rfl
section
variable {ags : List Ag} {wrs : List Wr} {es : Es}
theorem idx_range {ns : List Nat} (nd : ns.Nodup) : (ns.map fun n => ns.idxOf n) = List.range ns.length := by
  apply List.ext_getElem?
  intro i
  rw [List.getElem?_map]
  by_cases hi : i < ns.length
  · rw [List.getElem?_range hi, List.getElem?_eq_getElem hi, Option.map_some, idx_at nd (List.getElem?_eq_getElem hi)]
  · rw [List.getElem?_eq_none (by omega), List.getElem?_eq_none (by simpa using hi)]; rfl
theorem PartN.txt (p : PartN ags wrs es (reachE es 0)) : TxtN (onlyA (reachE es 0) ags) (onlyW (reachE es 0) wrs) (relE (reachE es 0) es) := by
  obtain ⟨e1, e2⟩ := only_ends p.dn p.ee p.rel
  have i0 := idx_at p.rel.nd (reachE_head es 0)
  have rc := only_reach p
  rw [i0, idx_range p.rel.nd] at rc
  refine ⟨endsE_some e2, e1.nodup_iff.mpr (portsK_nodup _ _), fun a ha => ?_, ?_, ?_, ?_⟩
  · have m := only_mem p a ha
    exact ⟨(p.dn.ok a m).1, (p.dn.ok a m).2.2, p.dn.d64 a m⟩
  · rw [p.rel.la]; exact List.length_pos_of_mem p.zero
  · rw [p.rel.la]
    have := nodup_lt _ _ p.rk.nd p.rk.lt
    have := p.len
    have := p.dn.l14
    omega
  · rw [rc, p.rel.la]
theorem PartN.good (p : PartN ags wrs es (reachE es 0)) : GoodT (canonT ⟨ags, es, 0, []⟩) (onlyS ags es (reachE es 0)) ∧ Sh (canonT ⟨ags, es, 0, []⟩) := by
  obtain ⟨h1, h2, h3⟩ := only_net p
  obtain ⟨_, e2⟩ := only_ends p.dn p.ee p.rel
  have i0 := idx_at p.rel.nd (reachE_head es 0)
  have e : canonT (onlyS ags es (reachE es 0)) = canonT ⟨onlyA (reachE es 0) ags, relE (reachE es 0) es, 0, []⟩ := by
    unfold onlyS canonT
    rw [i0]; rfl
  have g := p.txt.good h1 e2 e
  have s := p.txt.sh []
  rw [← e, h3] at g s
  exact ⟨g, s⟩
theorem GoodT.same {t : List Nat} {a b : NS} (h : GoodT t a) (g : GoodT t b) : a = b := by
  obtain ⟨w1, h1, h2, _⟩ := h
  obtain ⟨w2, g1, g2, _⟩ := g
  rw [h1.uniq g1, g2] at h2
  exact (Option.some.inj h2).symm
end

/-! ## the law -/
def spLaw : SpW := fun ws h R _ => ∃ ns : List Int, ws = [.scr (ns.map W.int)] ∧ ns.length ≤ 63 ∧ R (.bl true) h
abbrev lawK : Nat := 230
theorem law_sp (h : HW) (ns : List Int) (l : ns.length ≤ 63) : spLaw [.scr (ns.map W.int)] h (fun w _ => w = .bl true) noX := ⟨ns, rfl, l, rfl⟩
theorem raws_w (ags : List Ag) : (ags.map Ag.raw).map RA.w = ags.map Ag.w := by
  rw [List.map_map]; exact List.map_congr_left fun a _ => Ag.raw_w a
theorem rawWs_w (wrs : List Wr) : (wrs.map rawW).map rwW = wrs.map wrW := by
  rw [List.map_map]; exact List.map_congr_left fun a _ => rawW_w a
theorem sorted_nat {ns : List Nat} {ys : List Int} (pm : ys.Perm (ns.map fun n => ((n : Nat) : Int))) (so : ys.Pairwise (· ≤ ·)) : ∃ σ : List Nat, σ.Perm ns ∧ σ.Pairwise (· ≤ ·) ∧ ys.map W.int = natW σ := by
  have nn : ∀ y ∈ ys, ((y.toNat : Nat) : Int) = y := fun y hy => by
    obtain ⟨n, _, rfl⟩ := List.mem_map.mp (pm.mem_iff.mp hy)
    simp
  refine ⟨ys.map Int.toNat, ?_, ?_, ?_⟩
  · have := pm.map Int.toNat
    rw [List.map_map] at this
    have e : ns.map (Int.toNat ∘ fun n : Nat => ((n : Nat) : Int)) = ns := by
      conv => rhs; rw [← List.map_id ns]
      exact List.map_congr_left fun n _ => by simp
    rw [e] at this; exact this
  · rw [List.pairwise_map]
    exact so.imp fun {a b} h => by omega
  · unfold natW
    rw [List.map_map]
    refine List.map_congr_left fun y hy => ?_
    show W.int y = W.int ((y.toNat : Nat) : Int)
    rw [nn y hy]
theorem join_low (c : Nat) : ∀ ss : List (List Nat), (ss.map List.length).sum + ss.length ≤ (joinS [c] ss).length + 1
  | [] => Nat.zero_le _
  | y :: ys => by
    have ih := join_low c ys
    rw [joinS_cons, List.map_cons, List.sum_cons, List.length_cons]
    split
    · rename_i e; rw [e]; simp
    · rw [List.length_append, List.length_append]
      simp only [List.length_cons, List.length_nil]; omega
section
variable {ags : List Ag} {wrs : List Wr} {es : Es} {σ : List Nat}
theorem PartN.clo (p : PartN ags wrs es σ) : ∀ w ∈ wrs, w.1.1 ∈ σ → w.2.1 ∈ σ := fun w hw h => by
  have nd : (endsW wrs).Nodup := p.dn.pm.nodup_iff.mpr (portsK_nodup _ _)
  have eo := endsE_some p.ee
  have p1 : ∀ ws : List Wr, (endsW ws).Nodup → w ∈ ws → peerL ws w.1 = some w.2 := fun ws => by
    induction ws with
    | nil => intro _ h; cases h
    | cons v ws ih =>
      intro nd hm
      rw [endsW_cons, List.nodup_cons, List.nodup_cons] at nd
      rcases List.mem_cons.mp hm with rfl | hm
      · simp [peerL]
      · have m1 : w.1 ∈ endsW ws := endsW_mem.mpr ⟨w, hm, .inl rfl⟩
        rw [peerL, if_neg (fun z => nd.1 (by rw [z]; exact List.mem_cons_of_mem _ m1)), if_neg (fun z => nd.2.1 (by rw [z]; exact m1))]
        exact ih nd.2.2 hm
  have g := (eo.g w.1 (eo.t _ (endsW_mem.mpr ⟨w, hw, .inl rfl⟩))).1
  rw [p1 wrs nd hw] at g
  unfold getE at g
  obtain ⟨l, hl, ho⟩ := Option.bind_eq_some_iff.mp g
  exact p.rel.c w.1.1 l h hl w.2 (List.mem_of_getElem? ho)
theorem PartN.lim (p : PartN ags wrs es σ) : σ.Nodup ∧ (∀ n ∈ σ, n < ags.length) ∧ σ.length ≤ 60 := by
  have nd := p.rel.nd
  have lt : ∀ n ∈ σ, n < ags.length := fun n hn => by have := p.rel.d n hn; have := p.len; omega
  have := nodup_lt _ _ nd lt
  have := p.dn.l14
  exact ⟨nd, lt, by omega⟩
theorem PartN.oks (p : PartN ags wrs es σ) : (∀ a ∈ onlyA σ ags, a.ok = true) ∧ (onlyA σ ags).length ≤ 60 ∧ (onlyW σ wrs).length ≤ 60 := by
  refine ⟨fun a ha => (p.dn.ok a (only_mem p a ha)).1, ?_, ?_⟩
  · rw [p.rel.la]; exact p.lim.2.2
  · unfold onlyW
    rw [List.length_map]
    have := List.length_filter_le (fun w : Wr => decide (w.1.1 ∈ σ)) wrs
    have := p.dn.wl
    omega
end
section
variable {P : Program} {w : World} {K : PySem.W.Frag} {mg : Str → Option Value} {base : Heap}
theorem ok_law (T : Tx P w K mg) : FnOk P w K mg base CX0 230 T.a_law T.fd_law ["script"] (lSp K spLaw) := by
  refine fnW T.F_law sc_law (fun ws h R ex ⟨_, e, _⟩ => by rw [e]; rfl) fun cdv A outer s H E hr => ⟨_, (wss_cons (ws_set (i := 1) sc_law.nd (w_call (ok__law_any_net T) (hr.mono (by walk_at "rm")) (by rfl) T.g__law_any_net T.F__law_any_net.kp T.b__law_any_net (wa_cons (w_call (ok__law_numbers T) (hr.mono (by walk_at "rm")) (by rfl) T.g__law_numbers T.F__law_numbers.kp T.b__law_numbers (wa_cons (w_var 0) (wa_cons w_int (wa_cons w_int wa_nil)))) wa_nil)))
    (wss_cons (ws_set (i := 2) sc_law.nd (w_call (ok__law_reach T) (hr.mono (by walk_at "rm")) (by rfl) T.g__law_reach T.F__law_reach.kp T.b__law_reach (wa_cons (w_ix (w_var 1) w_int) (wa_cons (w_ix (w_var 1) w_int) wa_nil))))
    (wss_cons (ws_set (i := 3) sc_law.nd (w_call (ok__law_only T) (hr.mono (by walk_at "rm")) (by rfl) T.g__law_only T.F__law_only.kp T.b__law_only (wa_cons (w_ix (w_var 1) w_int) (wa_cons (w_ix (w_var 1) w_int) (wa_cons (w_callB cr_sortedI lf_sortedI (by rfl) T.m_sorted (by decide +kernel) (wa_cons (w_var 2) wa_nil)) wa_nil)))))
    (wss_cons (ws_set (i := 4) sc_law.nd (w_lstO wa_nil))
    (wss_cons (ws_set (i := 5) sc_law.nd (w_callB call_abs lf_abs (by rfl) T.m_abs (by decide +kernel) (wa_cons (w_call (ok__law_cell T) (hr.mono (by walk_at "rm")) (by rfl) T.g__law_cell T.F__law_cell.kp T.b__law_cell (wa_cons (w_var 0) (wa_cons w_int wa_nil))) wa_nil)))
    (wss_cons (ws_set (i := 6) sc_law.nd (w_callTy call_list_of lf_listO (by rfl) T.m_list (by decide +kernel) (wa_cons (w_var 2) wa_nil)))
    (wss_cons (ws_for PassesOwn.never rfl (wi_range1 (by rfl) T.m_range (wa_cons (w_callB call_len lf_len (by rfl) T.m_len (by decide +kernel) (wa_cons (w_var 2) wa_nil)) wa_nil)) (wg_name (i := 7) sc_law.nd) (wss_one (ws_expr (w_bm PySem.F.plainAttrs_list PySem.F.slot_list_append PySem.F.type_list_append mt_append tyL_ok lf_append (w_var 4) (wa_cons (w_bm PySem.F.plainAttrs_list PySem.F.slot_list_pop PySem.F.type_list_pop mt_popAt tyL_ok lf_popAt (w_var 6) (wa_cons (w_op (rw := modW) op_mod lf_int (w_callTy call_int1 lf_toInt (by rfl) T.m_int (by decide +kernel) (wa_cons (w_op (rw := fdivW) op_fdiv lf_int (w_var 5) (w_op ow_add lf_add (w_var 7) w_int)) wa_nil)) (w_callB call_len lf_len (by rfl) T.m_len (by decide +kernel) (wa_cons (w_var 6) wa_nil))) wa_nil)) wa_nil)))))
    (wss_cons (ws_frz (i := 4) (ws_set (i := 8) sc_law.nd (w_call (ok__law_only T) (hr.mono (by walk_at "rm")) (by rfl) T.g__law_only T.F__law_only.kp T.b__law_only (wa_cons (w_ix (w_var 1) w_int) (wa_cons (w_ix (w_var 1) w_int) (wa_cons (w_var 4) wa_nil))))))
    (wss_cons (ws_set (i := 9) sc_law.nd (w_makeG T.mk_Net (ok_Net___init__ T) (hr.mono (by walk_at "rm")) (by rfl) T.gC_Net T.b_Net___init__ passL (fun _ _ _ => el_no) (wa_cons (w_ix (w_var 3) w_int) (wa_cons (w_ix (w_var 3) w_int) wa_nil))))
    (wss_cons (ws_set (i := 10) sc_law.nd (w_call (ok__law_net_text T) (hr.mono (by walk_at "rm")) (by rfl) T.g__law_net_text T.F__law_net_text.kp T.b__law_net_text (wa_cons (w_ix (w_var 3) w_int) (wa_cons (w_ix (w_var 3) w_int) wa_nil))))
    (wss_cons (ws_if (wt_bool (ww_or (wt_cmp (ow_ne hr.units) lf_ne (w_call (ok_canonical_text T) (hr.mono (by walk_at "rm")) (by rfl) T.g_canonical_text T.F_canonical_text.kp T.b_canonical_text (wa_cons (w_var 9) wa_nil)) (w_var 10) (nomark _)) (ww_or1 (wt_cmp (ow_ne hr.units) lf_ne (w_call (ok_canonical_order T) (hr.mono (by walk_at "rm")) (by rfl) T.g_canonical_order T.F_canonical_order.kp T.b_canonical_order (wa_cons (w_var 9) wa_nil)) (w_call (ok__law_reach T) (hr.mono (by walk_at "rm")) (by rfl) T.g__law_reach T.F__law_reach.kp T.b__law_reach (wa_cons (w_ix (w_var 3) w_int) (wa_cons (w_ix (w_var 3) w_int) wa_nil))) (nomark _))))) (wss_one (ws_ret w_bl)) wss_nil)
    (wss_cons (ws_set (i := 11) sc_law.nd (w_makeG T.mk_Net (ok_Net___init__ T) (hr.mono (by walk_at "rm")) (by rfl) T.gC_Net T.b_Net___init__ passL (fun _ _ _ => el_no) (wa_cons (w_ix (w_var 8) w_int) (wa_cons (w_ix (w_var 8) w_int) wa_nil))))
    (wss_cons (ws_if (wt_bool (ww_or (wt_cmp op_isnot_bl lf_isnotB (w_call (ok_same_net T) (hr.mono (by walk_at "rm")) (by rfl) T.g_same_net T.F_same_net.kp T.b_same_net (wa_cons (w_var 9) (wa_cons (w_var 11) wa_nil))) w_bl (nomark _)) (ww_or1 (wt_cmp (ow_ne hr.units) lf_ne (w_call (ok_canonical_text T) (hr.mono (by walk_at "rm")) (by rfl) T.g_canonical_text T.F_canonical_text.kp T.b_canonical_text (wa_cons (w_var 11) wa_nil)) (w_var 10) (nomark _))))) (wss_one (ws_ret w_bl)) wss_nil)
    (wss_cons (ws_set (i := 12) sc_law.nd (w_callN (ok_read_net T) (hr.mono (by walk_at "rm")) (by rfl) T.g_read_net T.F_read_net.kp T.b_read_net (wa_cons (w_var 10) wa_nil)))
    (wss_cons (ws_if (wt_bool (ww_or (wt_cmp (ow_ne hr.units) lf_ne (w_call (ok_canonical_text T) (hr.mono (by walk_at "rm")) (by rfl) T.g_canonical_text T.F_canonical_text.kp T.b_canonical_text (wa_cons (w_var 12) wa_nil)) (w_var 10) (nomark _)) (ww_or (wt_cmp (ow_ne hr.units) lf_ne (w_meth0G T.cls_Net T.m_Net_names (ok_Net_names T) (hr.mono (by walk_at "rm")) T.b_Net_names pass0 (fun _ _ _ => el_no) (w_var 12)) (w_lstRg1 rfl (by rfl) T.m_list (by rfl) T.m_range (w_callB call_len lf_len (by rfl) T.m_len (by decide +kernel) (wa_cons (w_var 2) wa_nil))) (nomark _)) (ww_or1 (wt_cmp (ow_ne hr.units) lf_ne (w_call (ok_canonical_order T) (hr.mono (by walk_at "rm")) (by rfl) T.g_canonical_order T.F_canonical_order.kp T.b_canonical_order (wa_cons (w_var 12) wa_nil)) (w_meth0G T.cls_Net T.m_Net_names (ok_Net_names T) (hr.mono (by walk_at "rm")) T.b_Net_names pass0 (fun _ _ _ => el_no) (w_var 12)) (nomark _)))))) (wss_one (ws_ret w_bl)) wss_nil)
    (wss_cons (ws_set (i := 13) sc_law.nd (w_bm PySem.F.plainAttrs_str PySem.F.slot_str_split PySem.F.type_str_split mt_split tyS_ok lf_splitO (w_var 10) (wa_cons (w_str z_x20) wa_nil)))
    (wss_cons (ws_set (i := 14) sc_law.nd (w_op (rw := modW) op_mod lf_int (w_callB call_abs lf_abs (by rfl) T.m_abs (by decide +kernel) (wa_cons (w_call (ok__law_cell T) (hr.mono (by walk_at "rm")) (by rfl) T.g__law_cell T.F__law_cell.kp T.b__law_cell (wa_cons (w_var 0) (wa_cons w_int wa_nil))) wa_nil)) (w_callB call_len lf_len (by rfl) T.m_len (by decide +kernel) (wa_cons (w_var 13) wa_nil))))
    (wss_cons (ws_asg (w_ix (w_lst (wa_cons (w_str z_1x2e0) (wa_cons (w_str z_0x2e0) (wa_cons (w_str z_lamx2f0) (wa_cons (w_str z_numx3d5x3b) (wa_cons (w_str z_2x2e1) (wa_cons (w_str z_x) (wa_cons (w_str z_) (wa_cons (w_str z_opx2f0x3dx2b) (wa_cons (w_str z_1x2e0x3b) (wa_cons (w_str z_x2d1x2e0) (wa_cons (w_str z_01x2e0) (wa_cons (w_str z_numx3d05) wa_nil))))))))))))) (w_op (rw := modW) op_mod lf_int (w_op (rw := fdivW) op_fdiv lf_int (w_callB call_abs lf_abs (by rfl) T.m_abs (by decide +kernel) (wa_cons (w_call (ok__law_cell T) (hr.mono (by walk_at "rm")) (by rfl) T.g__law_cell T.F__law_cell.kp T.b__law_cell (wa_cons (w_var 0) (wa_cons w_int wa_nil))) wa_nil)) w_int) w_int)) (wg_lix (w_var 13) (w_var 14)))
    (wss_cons (ws_set (i := 15) sc_law.nd (w_bm PySem.F.plainAttrs_str PySem.F.slot_str_join PySem.F.type_str_join mt_join tyS_ok lf_join2 (w_str z_x20) (wa_cons (w_var 13) wa_nil)))
    (wss_cons (ws_tryA (i := 16) (j := 17) rfl rfl sc_law.nd rfl rfl ⟨rfl, by decide, .inl T.gC_SharenetError⟩ rfl rfl (ok_read_net T) (hr.mono (by walk_at "rm")) (by rfl) T.g_read_net T.F_read_net.kp T.b_read_net (fun _ _ => (wa_cons (w_var 15) wa_nil)) (fun C a oe pn ec hz hf => (wss_one (ws_ret (w_and (w_callB (rw := isEW K C a) (call_isE ec hz hf) (lf_isE (K := K) (D := C) (a := a)) (by rfl) T.m_isinstance (by decide +kernel) (wa_cons (w_var 16) (wa_cons (w_glob rfl T.gC_InvalidNet) wa_nil))) (w_one (w_cmp (ow_ne hr.units) lf_ne (w_var 15) (w_var 10) (nomark _))))))))
    (wss_one (ws_ret (w_and (w_cmp (ow_eq hr.units) lf_eq (w_call (ok_canonical_text T) (hr.mono (by walk_at "rm")) (by rfl) T.g_canonical_text T.F_canonical_text.kp T.b_canonical_text (wa_cons (w_var 17) wa_nil)) (w_var 15) (nomark _)) (w_one (w_cmp (ow_eq hr.units) lf_eq (w_call (ok_same_net T) (hr.mono (by walk_at "rm")) (by rfl) T.g_same_net T.F_same_net.kp T.b_same_net (wa_cons (w_var 17) (wa_cons (w_var 9) wa_nil))) (w_cmp (ow_eq hr.units) lf_eq (w_var 15) (w_var 10) (nomark _)) (nomark _)))))))))))))))))))))))))), fun ws h R ex ⟨ns, e, l, q⟩ => ?_⟩
  subst e
  walk_at "st"
  refine ⟨ns, 2, 12, rfl, l, by omega, by decide, fun ms gm lm => ?_⟩
  walk_at "st"
  refine ⟨ms, rfl, lm, fun ags wrs dn => ?_⟩
  walk_at "st"
  obtain ⟨es, ee⟩ := endsE_ok dn.pm
  refine ⟨ags, wrs, es, rfl, dn, ee, ?_⟩
  obtain ⟨ro, ero⟩ : ∃ ro, ro = reachE es 0 := ⟨_, rfl⟩
  have p0 : PartN ags wrs es ro := ⟨dn, ee, by rw [ero]⟩
  have wl := dn.wl
  rw [← ero]
  walk_at "st"
  refine ⟨_, ro.map fun n => ((n : Nat) : Int), rfl, by show natW ro = _; unfold natW; rw [List.map_map]; rfl, fun ys pm so => ?_⟩
  obtain ⟨σ1, pm1, so1, e1⟩ := sorted_nat pm so
  rw [e1]
  clear pm so e1
  have p1 : PartN ags wrs es σ1 := ⟨dn, ee, by rw [← ero]; exact pm1⟩
  obtain ⟨nd1, lt1, l601⟩ := p1.lim
  refine ⟨ags, wrs, σ1, rfl, nd1, lt1, l601, by omega, p1.clo, ?_⟩
  walk_at "st"
  intro p4 hp4
  walk_at "st"
  refine ⟨ns, 0, rfl, ?_⟩
  walk_at "st"
  generalize (ns.getD 0 0).natAbs = d
  intro p6 hp6
  have n64 : p6 ≠ p4 := fun z => by rw [z, updW_same] at hp6; cases hp6
  have n46 := n64.symm
  have hp6' : h p6 = none := by rw [updW_ne n64] at hp6; exact hp6
  walk_at "st"
  have lro : (natW ro).length = ro.length := by unfold natW; rw [List.length_map]
  have l60 : ro.length ≤ 60 := by rw [← pm1.length_eq]; exact l601
  refine go_forR1 ro.length (fun RA q => by walk_at "st"; rw [lro]; exact q) (by omega)
    (fun k ρ' h' => ∃ (m r : List Nat), m.length = k ∧ (m ++ r).Perm ro ∧ ρ' = [some (.scr (ns.map W.int)), some (.tup [.lst (ags.map Ag.w), .lst (wrs.map wrW)]), some (.lst (natW ro)), some (.tup [.lst ((onlyA σ1 ags).map Ag.w), .lst ((onlyW σ1 wrs).map wrW)]), some (.ref p4), some (.int (d : Nat)), some (.ref p6), none, none, none, none, none, none, none, none, none, none, none] ∧ h' = updW (updW h p4 (.lst (natW m))) p6 (.lst (natW r)))
    ⟨_, _, ⟨[], ro, rfl, .refl _, rfl, rfl⟩, by walk_at "sub", .refl _⟩ ?_ ?_
  · rintro k ρ' h' hk ⟨m, r, lm, pm, rfl, rfl⟩
    rw [Int.toNat_natCast] at hk
    have lr : m.length + r.length = ro.length := by have := pm.length_eq; rw [List.length_append] at this; exact this
    have hr0 : 0 < r.length := by omega
    have lnr : (natW r).length = r.length := by unfold natW; rw [List.length_map]
    walk_at "st"
    rw [lnr]
    obtain ⟨j, ej⟩ : ∃ j, j = d / (k + 1) % r.length := ⟨_, rfl⟩
    have hj : j < r.length := by rw [ej]; exact Nat.mod_lt _ hr0
    rw [show ((d : Nat) : Int) / (((k : Nat) : Int) + 1) % ((r.length : Nat) : Int) = ((j : Nat) : Int) by rw [ej, Int.natCast_emod, Int.natCast_ediv]; rfl]
    have er := List.getElem?_eq_getElem hj
    refine go_popAt (xs := natW r) (y := .int (r[j] : Nat)) updW_same (by omega) (by omega) (by rw [Int.toNat_natCast]; unfold natW; rw [List.getElem?_map, er]; rfl) ?_
    rw [Int.toNat_natCast]
    have lmw : (natW m).length ≤ 60 := by unfold natW; rw [List.length_map]; omega
    walk_at "st"
    refine ⟨_, _, ⟨m ++ [r[j]], r.eraseIdx j, by rw [List.length_append, lm]; rfl, ?_, rfl, rfl⟩, by walk_at "sub", ?_⟩
    · refine List.Perm.trans ?_ pm
      rw [List.append_assoc]
      exact List.Perm.append_left _ (perm_erase r j hj)
    · intro a o e
      by_cases a6 : a = p6
      · subst a6
        rw [updW_same] at e
        rw [updW_ne n64, updW_same, ← e]
        congr 2
        exact map_erase _ _ _
      · rw [updW_ne a6] at e
        by_cases a4 : a = p4
        · subst a4
          rw [updW_same] at e ⊢
          rw [← e]; unfold natW; rw [List.map_append]; rfl
        · rw [updW_ne a4] at e
          rw [updW_ne a4, updW_ne a6, updW_ne a6, updW_ne a4]; exact e
  · rintro ρ' h' ⟨m, r, lm, pm, rfl, rfl⟩
    rw [Int.toNat_natCast] at lm
    have lr : m.length + r.length = ro.length := by have := pm.length_eq; rw [List.length_append] at this; exact this
    have := List.eq_nil_of_length_eq_zero (show r.length = 0 by omega)
    subst this
    rw [List.append_nil] at pm
    have p2 : PartN ags wrs es m := ⟨dn, ee, by rw [← ero]; exact pm⟩
    obtain ⟨nd2, lt2, l602⟩ := p2.lim
    walk_at "st"
    refine ⟨ags, wrs, m, rfl, nd2, lt2, l602, by omega, p2.clo, ?_⟩
    walk_at "st"
    obtain ⟨h1, eh1⟩ : ∃ h1, h1 = delW (updW (updW h p4 (.lst (natW m))) p6 (.lst (natW []))) p4 := ⟨_, rfl⟩
    have sb1 : Sub h h1 := fun a o e => by
      have a4 : a ≠ p4 := fun z => by rw [z, hp4] at e; cases e
      have a6 : a ≠ p6 := fun z => by rw [z, hp6'] at e; cases e
      rw [eh1]
      unfold delW
      rw [if_neg a4, updW_ne a6, updW_ne a4]; exact e
    rw [← eh1]
    clear eh1
    refine go_makeK fun x1 hx1 => ⟨x1, (onlyA σ1 ags).map Ag.raw, .lst ((onlyW σ1 wrs).map wrW), (onlyW σ1 wrs).map rawW, by rw [raws_w], updW_same, (rawWs_w _).symm, by rw [List.length_map]; exact p1.oks.2.1, by rw [List.length_map]; have := p1.oks.2.2; omega, fun r hr => ?_, ?_⟩
    · obtain ⟨a, ha, rfl⟩ := List.mem_map.mp hr
      exact Ag.raw_dr (Ag.dok_of (p1.oks.1 a ha))
    obtain ⟨ne1, ck1, ct1⟩ := only_net p1
    obtain ⟨de1, z1⟩ := only_drn p1 so1
    obtain ⟨_, en1⟩ := only_ends p1.dn p1.ee p1.rel
    rw [netR_raw p1.oks.1, ne1]
    intro g1 h2 na1 kb1 own1
    refine ⟨rfl, ?_⟩
    have sb2 : Sub h1 h2 := fun a o e => kb1 a o (fun z => by rw [z, hx1] at e; cases e) (by rw [updW_ne (fun z => by rw [z, hx1] at e; cases e)]; exact e)
    clear kb1 own1
    walk_at "st"
    have rl1 : (reachE (relE σ1 es) 0).length = (onlyA σ1 ags).length := by
      have := only_reach p1
      rw [z1] at this
      rw [this, List.length_map, p1.rel.la, p1.pm.length_eq]
    refine ⟨onlyA σ1 ags, onlyW σ1 wrs, relE σ1 es, rfl, de1, en1, rl1, ?_⟩
    obtain ⟨t, et⟩ : ∃ t, t = canonT ⟨ags, es, 0, []⟩ := ⟨_, rfl⟩
    have t1 : canonT ⟨onlyA σ1 ags, relE σ1 es, 0, []⟩ = t := by
      rw [et, ← ct1]
      unfold onlyS canonT
      rw [z1]; rfl
    rw [t1]
    have c1 : canonT (onlyS ags es σ1) = t := by rw [ct1, et]
    walk_at "st"
    refine ⟨x1, g1, onlyS ags es σ1, rfl, na1, ck1, ?_⟩
    rw [c1]
    walk_at "st"
    have tt : (!decide (t = t)) = false := by simp
    rw [tt]
    walk_at "st"
    have dN : ∀ k, datasW (natW k) = true ∧ depsW (natW k) ≤ 1 := fun k => by
      induction k with
      | nil => exact ⟨rfl, Nat.zero_le _⟩
      | cons a k ih => exact ⟨by unfold natW at ih ⊢; simp only [List.map_cons, datasW, dataW, ih.1]; rfl, by unfold natW at ih ⊢; simp only [List.map_cons, depsW, depW]; have := ih.2; omega⟩
    have dL : ∀ k, dataW (.lst (natW k)) = true ∧ depW (.lst (natW k)) ≤ 64 := fun k => ⟨by simp only [dataW]; exact (dN _).1, by simp only [depW]; have := (dN k).2; omega⟩
    refine ⟨x1, g1, onlyS ags es σ1, rfl, na1, ck1.good, ck1.rt, ?_⟩
    rw [show reachE (onlyS ags es σ1).es (onlyS ags es σ1).root = reachE (relE σ1 es) 0 by show reachE (relE σ1 es) (σ1.idxOf 0) = _; rw [z1]]
    walk_at "st"
    refine ⟨onlyA σ1 ags, onlyW σ1 wrs, relE σ1 es, rfl, de1, en1, ?_⟩
    refine go_neD (dL _).1 (dL _).1 (dL _).2 (dL _).2 ?_
    rw [eqv_of _ (dL _).1]
    walk_at "stc"
    refine go_makeK fun x2 hx2 => ⟨x2, (onlyA m ags).map Ag.raw, .lst ((onlyW m wrs).map wrW), (onlyW m wrs).map rawW, by rw [raws_w], updW_same, (rawWs_w _).symm, by rw [List.length_map]; exact p2.oks.2.1, by rw [List.length_map]; have := p2.oks.2.2; omega, fun r hr => ?_, ?_⟩
    · obtain ⟨a, ha, rfl⟩ := List.mem_map.mp hr
      exact Ag.raw_dr (Ag.dok_of (p2.oks.1 a ha))
    obtain ⟨ne2, ck2, ct2⟩ := only_net p2
    rw [netR_raw p2.oks.1, ne2]
    intro g2 h3 na2 kb2 own2
    refine ⟨rfl, ?_⟩
    have sb3 : Sub h2 h3 := fun a o e => kb2 a o (fun z => by rw [z, hx2] at e; cases e) (by rw [updW_ne (fun z => by rw [z, hx2] at e; cases e)]; exact e)
    clear kb2 own2
    have na1 := na1.mono sb3
    have c2 : canonT (onlyS ags es m) = t := by rw [ct2, et]
    walk_at "st"
    refine ⟨x1, x2, g1, g2, onlyS ags es σ1, onlyS ags es m, rfl, na1, na2, ck1, ck2, ?_⟩
    rw [c1, c2]
    walk_at "st"
    refine go_isnotBB ?_
    rw [show (!decide (decide (t = t) = true)) = false by simp]
    walk_at "st"
    refine ⟨x2, g2, onlyS ags es m, rfl, na2, ck2, ?_⟩
    rw [c2]
    walk_at "st"
    rw [tt]
    walk_at "stc"
    have p00 : PartN ags wrs es (reachE es 0) := ⟨dn, ee, .refl _⟩
    obtain ⟨gd, sh⟩ := p00.good
    obtain ⟨_, ck0, ct0⟩ := only_net p00
    obtain ⟨s0, es0⟩ : ∃ s0, s0 = onlyS ags es (reachE es 0) := ⟨_, rfl⟩
    have l0 : s0.ags.length = ro.length := by rw [es0]; show (onlyA (reachE es 0) ags).length = _; rw [p00.rel.la, ero]
    have r0 : reachE s0.es s0.root = List.range ro.length := by
      rw [es0]
      show reachE (relE (reachE es 0) es) ((reachE es 0).idxOf 0) = _
      rw [only_reach p00, idx_range p00.rel.nd, ero]
    rw [← es0] at gd ck0 ct0
    rw [← et] at gd sh ct0
    clear es0
    refine ⟨t, rfl, sh.rd, fun s v g h4 gt ck na sb4 fr => ?_, fun no => absurd gd (no _)⟩
    obtain rfl := gt.same gd
    clear gt ck fr
    have na1 := na1.mono sb4
    have nmL : ((List.range s.ags.length).map fun i => W.int ((i : Nat) : Int)) = natW (List.range ro.length) := by rw [l0]; rfl
    walk_at "st"
    refine ⟨v, g, s, rfl, na, ck0, ?_⟩
    rw [ct0]
    walk_at "st"
    rw [tt]
    have hv4 := na.c
    walk_at "st"
    refine ⟨v, g, s, rfl, na, ?_⟩
    rw [nmL]
    walk_at "st"
    refine go_lstRg1 ?_
    walk_at "st"
    rw [lro]
    refine ⟨⟨by omega, by omega⟩, ?_⟩
    rw [Int.toNat_natCast, show rngW 0 ro.length = natW (List.range ro.length) by simp [rngW, natW]]
    refine go_neD (dL _).1 (dL _).1 (dL _).2 (dL _).2 ?_
    rw [eqv_of _ (dL _).1]
    walk_at "stc"
    refine ⟨v, g, s, rfl, na, ck0.good, ck0.rt, ?_⟩
    rw [r0]
    walk_at "st"
    refine ⟨v, g, s, rfl, na, ?_⟩
    rw [nmL]
    refine go_neD (dL _).1 (dL _).1 (dL _).2 (dL _).2 ?_
    rw [eqv_of _ (dL _).1]
    walk_at "stc"
    refine go_splitO (by decide) (by decide) (by have := sh.l; omega) fun ys sp p8 hp8 => ?_
    walk_at "st"
    refine ⟨ns, 1, rfl, ?_⟩
    walk_at "st"
    generalize (ns.getD 1 0).natAbs = d1
    have ly : 0 < ys.length := List.length_pos_iff.mpr sp.2.1
    have lyw : (ys.map W.str).length = ys.length := by rw [List.length_map]
    rw [lyw]
    refine go_mod (by omega) ?_
    obtain ⟨j, ej⟩ : ∃ j, j = d1 % ys.length := ⟨_, rfl⟩
    have hj : j < ys.length := by rw [ej]; exact Nat.mod_lt _ ly
    rw [show ((d1 : Nat) : Int) % ((ys.length : Nat) : Int) = ((j : Nat) : Int) by rw [ej, Int.natCast_emod]]
    clear ej
    walk_at "st"
    refine ⟨ns, 1, rfl, ?_⟩
    walk_at "st"
    generalize (ns.getD 1 0).natAbs = d2
    obtain ⟨i, ei⟩ : ∃ i, i = d2 / 256 % 12 := ⟨_, rfl⟩
    have hi : i < 12 := by omega
    rw [show ((d2 : Nat) : Int) / 256 % 12 = ((i : Nat) : Int) by omega]
    clear ei
    obtain ⟨z, z12, ez⟩ : ∃ z : List Nat, z.length ≤ 12 ∧ atI [W.str z_1x2e0, .str z_0x2e0, .str z_lamx2f0, .str z_numx3d5x3b, .str z_2x2e1, .str z_x, .str z_, .str z_opx2f0x3dx2b, .str z_1x2e0x3b, .str z_x2d1x2e0, .str z_01x2e0, .str z_numx3d05] ((i : Nat) : Int) = some (.str z) := by
      match i, hi with
      | 0, _ => exact ⟨_, by decide, rfl⟩
      | 1, _ => exact ⟨_, by decide, rfl⟩
      | 2, _ => exact ⟨_, by decide, rfl⟩
      | 3, _ => exact ⟨_, by decide, rfl⟩
      | 4, _ => exact ⟨_, by decide, rfl⟩
      | 5, _ => exact ⟨_, by decide, rfl⟩
      | 6, _ => exact ⟨_, by decide, rfl⟩
      | 7, _ => exact ⟨_, by decide, rfl⟩
      | 8, _ => exact ⟨_, by decide, rfl⟩
      | 9, _ => exact ⟨_, by decide, rfl⟩
      | 10, _ => exact ⟨_, by decide, rfl⟩
      | 11, _ => exact ⟨_, by decide, rfl⟩
    have hix : ixN (ys.map W.str).length ((j : Nat) : Int) = some j := by rw [lyw]; unfold ixN; simp; omega
    walk_at "st"
    rw [updW_upd]
    have rd := sh.set sp j z12
    rw [← List.map_set]
    have jl := join_low 32 (ys.set j z)
    have rl := rd.l
    refine go_join2 (items_ref updW_same) (strsOf_map _) (by show _ + _ * 1 ≤ _; omega) ?_
    obtain ⟨u, eu⟩ : ∃ u, u = joinS [32] (ys.set j z) := ⟨_, rfl⟩
    rw [show joinS z_x20 (ys.set j z) = u from eu.symm]
    rw [← eu] at rd
    have sb5 : Sub h (updW h4 p8 (.lst ((ys.set j z).map W.str))) := (((sb1.trans sb2).trans sb3).trans sb4).trans (.new hp8)
    have na1 := na1.mono (.new hp8 (o := .lst ((ys.set j z).map W.str)))
    generalize updW h4 p8 (.lst ((ys.set j z).map W.str)) = h5 at sb5 na1 ⊢
    clear jl rl eu
    walk_at "st"
    refine go_try1 ?_
    walk_at "st"
    refine ⟨u, rfl, rd, fun s2 v2 g4 h6 gt ck2 na4 sb6 _ => ?_, fun no h6 sb6 => ?_⟩
    · have na1 := na1.mono sb6
      have c4 : canonT s2 = u := by obtain ⟨_, _, _, e⟩ := gt; exact e
      walk_at "st"
      refine ⟨v2, g4, s2, rfl, na4, ck2, ?_⟩
      rw [c4]
      walk_at "st"
      rw [decide_eq_true (show u = u from rfl)]
      walk_at "stc"
      refine ⟨v2, x1, g4, g1, s2, onlyS ags es σ1, rfl, na4, na1, ck2, ck1, ?_⟩
      rw [c4, c1]
      walk_at "st"
      refine go_eqD rfl rfl (by simp [depW]) (by simp [depW]) ?_
      rw [eqv_of _ rfl]
      exact .base q (sb5.trans sb6)
    · refine ⟨rfl, T.ec_InvalidNet, T.xm_InvalidNet_SharenetError, fun a => ?_⟩
      have ne : u ≠ t := fun e => no s (by rw [e]; exact gd)
      walk_at "st"
      refine go_isE T.is_InvalidNet_InvalidNet ?_
      walk_at "stc"
      rw [decide_eq_false ne]
      exact .base q (sb5.trans sb6)
end

/-! ## what the top has written -/
theorem all_mk {P : Program} {w : World} {K : PySem.W.Frag} {h : Heap} {mg : Str → Option Value} (X : K.In h) (G : h.Ns mainGlobals mg)
    {I0 : Addr} (ia0 : PySem.W.nsIn K mainGlobals "Net" = some (some (.ref I0))) (ip0 : PySem.W.plainGet K I0 Str.empty = true) (ih0 : PySem.W.hasDictIn K I0 = true) (io0 : PySem.W.plainOver K I0 = true) (is0 : PySem.W.findIn K (.ref I0) "__setattr__" = some (some (.builtin "object.__setattr__")))
    (im0 : PySem.W.makesIn K I0 = true) (ik0 : PySem.W.keepIn K (.ref I0) = true)
    (in0_0 : PySem.W.findIn K (.ref I0) "active" = some none)
    (in0_1 : PySem.W.findIn K (.ref I0) "agents" = some none)
    (in0_2 : PySem.W.findIn K (.ref I0) "ends" = some none)
    (in0_3 : PySem.W.findIn K (.ref I0) "next_name" = some none)
    (in0_4 : PySem.W.findIn K (.ref I0) "root" = some none)
    {f0 : Addr} {od0 an0 : Option Addr} {sl0 : Array (Option Value)} {oc0 kV0 dc0 pm0 cd0 ct0 : Value} (a0_0 : PySem.W.nsIn K mainGlobals "add_pair" = some (some (.ref f0))) (l0 : K.lookup f0 = some ⟨oc0, od0, .func (PySem.W.fnOf "add_pair" "add_pair" (defArgs s_add_pair) (defBody s_add_pair) (defScope s_add_pair) .none kV0 dc0 pm0 an0 cd0 ct0), sl0⟩) (c0 : PySem.W.codeIn K cd0 "add_pair" = true) (k0 : PySem.W.keepIn K (.ref f0) = true)
    {f1 : Addr} {od1 an1 : Option Addr} {sl1 : Array (Option Value)} {oc1 kV1 dc1 pm1 cd1 ct1 : Value} (a1_0 : PySem.W.nsIn K mainGlobals "_place_of" = some (some (.ref f1))) (l1 : K.lookup f1 = some ⟨oc1, od1, .func (PySem.W.fnOf "_place_of" "_place_of" (defArgs s__place_of) (defBody s__place_of) (defScope s__place_of) .none kV1 dc1 pm1 an1 cd1 ct1), sl1⟩) (c1 : PySem.W.codeIn K cd1 "_place_of" = true) (k1 : PySem.W.keepIn K (.ref f1) = true)
    {f2 : Addr} {od2 an2 : Option Addr} {sl2 : Array (Option Value)} {oc2 kV2 dc2 pm2 cd2 ct2 : Value} (a2 : PySem.W.findIn K (.ref I0) "__init__" = some (some (.ref f2))) (l2 : K.lookup f2 = some ⟨oc2, od2, .func (PySem.W.fnOf "__init__" "Net.__init__" (defArgs s_Net___init__) (defBody s_Net___init__) (defScope s_Net___init__) .none kV2 dc2 pm2 an2 cd2 ct2), sl2⟩) (c2 : PySem.W.codeIn K cd2 "Net.__init__" = true) (k2 : PySem.W.keepIn K (.ref f2) = true) (e2 : PySem.W.isFn K (.ref f2) = true)
    {f3 : Addr} {od3 an3 : Option Addr} {sl3 : Array (Option Value)} {oc3 kV3 dc3 pm3 cd3 ct3 : Value} (a3 : PySem.W.findIn K (.ref I0) "names" = some (some (.ref f3))) (l3 : K.lookup f3 = some ⟨oc3, od3, .func (PySem.W.fnOf "names" "Net.names" (defArgs s_Net_names) (defBody s_Net_names) (defScope s_Net_names) .none kV3 dc3 pm3 an3 cd3 ct3), sl3⟩) (c3 : PySem.W.codeIn K cd3 "Net.names" = true) (k3 : PySem.W.keepIn K (.ref f3) = true) (e3 : PySem.W.isFn K (.ref f3) = true)
    {f4 : Addr} {od4 an4 : Option Addr} {sl4 : Array (Option Value)} {oc4 kV4 dc4 pm4 cd4 ct4 : Value} (a4 : PySem.W.findIn K (.ref I0) "agent" = some (some (.ref f4))) (l4 : K.lookup f4 = some ⟨oc4, od4, .func (PySem.W.fnOf "agent" "Net.agent" (defArgs s_Net_agent) (defBody s_Net_agent) (defScope s_Net_agent) .none kV4 dc4 pm4 an4 cd4 ct4), sl4⟩) (c4 : PySem.W.codeIn K cd4 "Net.agent" = true) (k4 : PySem.W.keepIn K (.ref f4) = true) (e4 : PySem.W.isFn K (.ref f4) = true)
    {f5 : Addr} {od5 an5 : Option Addr} {sl5 : Array (Option Value)} {oc5 kV5 dc5 pm5 cd5 ct5 : Value} (a5 : PySem.W.findIn K (.ref I0) "peer" = some (some (.ref f5))) (l5 : K.lookup f5 = some ⟨oc5, od5, .func (PySem.W.fnOf "peer" "Net.peer" (defArgs s_Net_peer) (defBody s_Net_peer) (defScope s_Net_peer) .none kV5 dc5 pm5 an5 cd5 ct5), sl5⟩) (c5 : PySem.W.codeIn K cd5 "Net.peer" = true) (k5 : PySem.W.keepIn K (.ref f5) = true) (e5 : PySem.W.isFn K (.ref f5) = true)
    {f6 : Addr} {od6 an6 : Option Addr} {sl6 : Array (Option Value)} {oc6 kV6 dc6 pm6 cd6 ct6 : Value} (a6 : PySem.W.findIn K (.ref I0) "pairs" = some (some (.ref f6))) (l6 : K.lookup f6 = some ⟨oc6, od6, .func (PySem.W.fnOf "pairs" "Net.pairs" (defArgs s_Net_pairs) (defBody s_Net_pairs) (defScope s_Net_pairs) .none kV6 dc6 pm6 an6 cd6 ct6), sl6⟩) (c6 : PySem.W.codeIn K cd6 "Net.pairs" = true) (k6 : PySem.W.keepIn K (.ref f6) = true) (e6 : PySem.W.isFn K (.ref f6) = true)
    {f7 : Addr} {od7 an7 : Option Addr} {sl7 : Array (Option Value)} {oc7 kV7 dc7 pm7 cd7 ct7 : Value} (a7 : PySem.W.findIn K (.ref I0) "__len__" = some (some (.ref f7))) (l7 : K.lookup f7 = some ⟨oc7, od7, .func (PySem.W.fnOf "__len__" "Net.__len__" (defArgs s_Net___len__) (defBody s_Net___len__) (defScope s_Net___len__) .none kV7 dc7 pm7 an7 cd7 ct7), sl7⟩) (c7 : PySem.W.codeIn K cd7 "Net.__len__" = true) (k7 : PySem.W.keepIn K (.ref f7) = true) (e7 : PySem.W.isFn K (.ref f7) = true)
    {f8 : Addr} {od8 an8 : Option Addr} {sl8 : Array (Option Value)} {oc8 kV8 dc8 pm8 cd8 ct8 : Value} (a8 : PySem.W.findIn K (.ref I0) "reached" = some (some (.ref f8))) (l8 : K.lookup f8 = some ⟨oc8, od8, .func (PySem.W.fnOf "reached" "Net.reached" (defArgs s_Net_reached) (defBody s_Net_reached) (defScope s_Net_reached) .none kV8 dc8 pm8 an8 cd8 ct8), sl8⟩) (c8 : PySem.W.codeIn K cd8 "Net.reached" = true) (k8 : PySem.W.keepIn K (.ref f8) = true) (e8 : PySem.W.isFn K (.ref f8) = true)
    {f9 : Addr} {od9 an9 : Option Addr} {sl9 : Array (Option Value)} {oc9 kV9 dc9 pm9 cd9 ct9 : Value} (a9 : PySem.W.findIn K (.ref I0) "note_pair" = some (some (.ref f9))) (l9 : K.lookup f9 = some ⟨oc9, od9, .func (PySem.W.fnOf "note_pair" "Net.note_pair" (defArgs s_Net_note_pair) (defBody s_Net_note_pair) (defScope s_Net_note_pair) .none kV9 dc9 pm9 an9 cd9 ct9), sl9⟩) (c9 : PySem.W.codeIn K cd9 "Net.note_pair" = true) (k9 : PySem.W.keepIn K (.ref f9) = true) (e9 : PySem.W.isFn K (.ref f9) = true)
    {f10 : Addr} {od10 an10 : Option Addr} {sl10 : Array (Option Value)} {oc10 kV10 dc10 pm10 cd10 ct10 : Value} (a10_0 : PySem.W.nsIn K mainGlobals "_refuse_agents" = some (some (.ref f10))) (l10 : K.lookup f10 = some ⟨oc10, od10, .func (PySem.W.fnOf "_refuse_agents" "_refuse_agents" (defArgs s__refuse_agents) (defBody s__refuse_agents) (defScope s__refuse_agents) .none kV10 dc10 pm10 an10 cd10 ct10), sl10⟩) (c10 : PySem.W.codeIn K cd10 "_refuse_agents" = true) (k10 : PySem.W.keepIn K (.ref f10) = true)
    {f11 : Addr} {od11 an11 : Option Addr} {sl11 : Array (Option Value)} {oc11 kV11 dc11 pm11 cd11 ct11 : Value} (a11_0 : PySem.W.nsIn K mainGlobals "_is_agent" = some (some (.ref f11))) (l11 : K.lookup f11 = some ⟨oc11, od11, .func (PySem.W.fnOf "_is_agent" "_is_agent" (defArgs s__is_agent) (defBody s__is_agent) (defScope s__is_agent) .none kV11 dc11 pm11 an11 cd11 ct11), sl11⟩) (c11 : PySem.W.codeIn K cd11 "_is_agent" = true) (k11 : PySem.W.keepIn K (.ref f11) = true)
    {f12 : Addr} {od12 an12 : Option Addr} {sl12 : Array (Option Value)} {oc12 kV12 dc12 pm12 cd12 ct12 : Value} (a12_0 : PySem.W.nsIn K mainGlobals "_is_integer" = some (some (.ref f12))) (l12 : K.lookup f12 = some ⟨oc12, od12, .func (PySem.W.fnOf "_is_integer" "_is_integer" (defArgs s__is_integer) (defBody s__is_integer) (defScope s__is_integer) .none kV12 dc12 pm12 an12 cd12 ct12), sl12⟩) (c12 : PySem.W.codeIn K cd12 "_is_integer" = true) (k12 : PySem.W.keepIn K (.ref f12) = true)
    {f13 : Addr} {od13 an13 : Option Addr} {sl13 : Array (Option Value)} {oc13 kV13 dc13 pm13 cd13 ct13 : Value} (a13_0 : PySem.W.nsIn K mainGlobals "_ends_of" = some (some (.ref f13))) (l13 : K.lookup f13 = some ⟨oc13, od13, .func (PySem.W.fnOf "_ends_of" "_ends_of" (defArgs s__ends_of) (defBody s__ends_of) (defScope s__ends_of) .none kV13 dc13 pm13 an13 cd13 ct13), sl13⟩) (c13 : PySem.W.codeIn K cd13 "_ends_of" = true) (k13 : PySem.W.keepIn K (.ref f13) = true)
    {f14 : Addr} {od14 an14 : Option Addr} {sl14 : Array (Option Value)} {oc14 kV14 dc14 pm14 cd14 ct14 : Value} (a14_0 : PySem.W.nsIn K mainGlobals "_is_open" = some (some (.ref f14))) (l14 : K.lookup f14 = some ⟨oc14, od14, .func (PySem.W.fnOf "_is_open" "_is_open" (defArgs s__is_open) (defBody s__is_open) (defScope s__is_open) .none kV14 dc14 pm14 an14 cd14 ct14), sl14⟩) (c14 : PySem.W.codeIn K cd14 "_is_open" = true) (k14 : PySem.W.keepIn K (.ref f14) = true)
    {f15 : Addr} {od15 an15 : Option Addr} {sl15 : Array (Option Value)} {oc15 kV15 dc15 pm15 cd15 ct15 : Value} (a15_0 : PySem.W.nsIn K mainGlobals "decimal" = some (some (.ref f15))) (l15 : K.lookup f15 = some ⟨oc15, od15, .func (PySem.W.fnOf "decimal" "decimal" (defArgs s_decimal) (defBody s_decimal) (defScope s_decimal) .none kV15 dc15 pm15 an15 cd15 ct15), sl15⟩) (c15 : PySem.W.codeIn K cd15 "decimal" = true) (k15 : PySem.W.keepIn K (.ref f15) = true)
    {f16 : Addr} {od16 an16 : Option Addr} {sl16 : Array (Option Value)} {oc16 kV16 dc16 pm16 cd16 ct16 : Value} (a16_0 : PySem.W.nsIn K mainGlobals "integer_from" = some (some (.ref f16))) (l16 : K.lookup f16 = some ⟨oc16, od16, .func (PySem.W.fnOf "integer_from" "integer_from" (defArgs s_integer_from) (defBody s_integer_from) (defScope s_integer_from) .none kV16 dc16 pm16 an16 cd16 ct16), sl16⟩) (c16 : PySem.W.codeIn K cd16 "integer_from" = true) (k16 : PySem.W.keepIn K (.ref f16) = true)
    {f17 : Addr} {od17 an17 : Option Addr} {sl17 : Array (Option Value)} {oc17 kV17 dc17 pm17 cd17 ct17 : Value} (a17_0 : PySem.W.nsIn K mainGlobals "canonical_order" = some (some (.ref f17))) (l17 : K.lookup f17 = some ⟨oc17, od17, .func (PySem.W.fnOf "canonical_order" "canonical_order" (defArgs s_canonical_order) (defBody s_canonical_order) (defScope s_canonical_order) .none kV17 dc17 pm17 an17 cd17 ct17), sl17⟩) (c17 : PySem.W.codeIn K cd17 "canonical_order" = true) (k17 : PySem.W.keepIn K (.ref f17) = true)
    {f18 : Addr} {od18 an18 : Option Addr} {sl18 : Array (Option Value)} {oc18 kV18 dc18 pm18 cd18 ct18 : Value} (a18_0 : PySem.W.nsIn K mainGlobals "canonical_numbers" = some (some (.ref f18))) (l18 : K.lookup f18 = some ⟨oc18, od18, .func (PySem.W.fnOf "canonical_numbers" "canonical_numbers" (defArgs s_canonical_numbers) (defBody s_canonical_numbers) (defScope s_canonical_numbers) .none kV18 dc18 pm18 an18 cd18 ct18), sl18⟩) (c18 : PySem.W.codeIn K cd18 "canonical_numbers" = true) (k18 : PySem.W.keepIn K (.ref f18) = true)
    {f19 : Addr} {od19 an19 : Option Addr} {sl19 : Array (Option Value)} {oc19 kV19 dc19 pm19 cd19 ct19 : Value} (a19_0 : PySem.W.nsIn K mainGlobals "canonical_text" = some (some (.ref f19))) (l19 : K.lookup f19 = some ⟨oc19, od19, .func (PySem.W.fnOf "canonical_text" "canonical_text" (defArgs s_canonical_text) (defBody s_canonical_text) (defScope s_canonical_text) .none kV19 dc19 pm19 an19 cd19 ct19), sl19⟩) (c19 : PySem.W.codeIn K cd19 "canonical_text" = true) (k19 : PySem.W.keepIn K (.ref f19) = true)
    {f20 : Addr} {od20 an20 : Option Addr} {sl20 : Array (Option Value)} {oc20 kV20 dc20 pm20 cd20 ct20 : Value} (a20_0 : PySem.W.nsIn K mainGlobals "same_net" = some (some (.ref f20))) (l20 : K.lookup f20 = some ⟨oc20, od20, .func (PySem.W.fnOf "same_net" "same_net" (defArgs s_same_net) (defBody s_same_net) (defScope s_same_net) .none kV20 dc20 pm20 an20 cd20 ct20), sl20⟩) (c20 : PySem.W.codeIn K cd20 "same_net" = true) (k20 : PySem.W.keepIn K (.ref f20) = true)
    {f21 : Addr} {od21 an21 : Option Addr} {sl21 : Array (Option Value)} {oc21 kV21 dc21 pm21 cd21 ct21 : Value} (a21_0 : PySem.W.nsIn K mainGlobals "read_net" = some (some (.ref f21))) (l21 : K.lookup f21 = some ⟨oc21, od21, .func (PySem.W.fnOf "read_net" "read_net" (defArgs s_read_net) (defBody s_read_net) (defScope s_read_net) .none kV21 dc21 pm21 an21 cd21 ct21), sl21⟩) (c21 : PySem.W.codeIn K cd21 "read_net" = true) (k21 : PySem.W.keepIn K (.ref f21) = true)
    {f22 : Addr} {od22 an22 : Option Addr} {sl22 : Array (Option Value)} {oc22 kV22 dc22 pm22 cd22 ct22 : Value} (a22_0 : PySem.W.nsIn K mainGlobals "_part_text" = some (some (.ref f22))) (l22 : K.lookup f22 = some ⟨oc22, od22, .func (PySem.W.fnOf "_part_text" "_part_text" (defArgs s__part_text) (defBody s__part_text) (defScope s__part_text) .none kV22 dc22 pm22 an22 cd22 ct22), sl22⟩) (c22 : PySem.W.codeIn K cd22 "_part_text" = true) (k22 : PySem.W.keepIn K (.ref f22) = true)
    {f23 : Addr} {od23 an23 : Option Addr} {sl23 : Array (Option Value)} {oc23 kV23 dc23 pm23 cd23 ct23 : Value} (a23_0 : PySem.W.nsIn K mainGlobals "_data_text" = some (some (.ref f23))) (l23 : K.lookup f23 = some ⟨oc23, od23, .func (PySem.W.fnOf "_data_text" "_data_text" (defArgs s__data_text) (defBody s__data_text) (defScope s__data_text) .none kV23 dc23 pm23 an23 cd23 ct23), sl23⟩) (c23 : PySem.W.codeIn K cd23 "_data_text" = true) (k23 : PySem.W.keepIn K (.ref f23) = true)
    {f24 : Addr} {od24 an24 : Option Addr} {sl24 : Array (Option Value)} {oc24 kV24 dc24 pm24 cd24 ct24 : Value} (a24_0 : PySem.W.nsIn K mainGlobals "_agent_from" = some (some (.ref f24))) (l24 : K.lookup f24 = some ⟨oc24, od24, .func (PySem.W.fnOf "_agent_from" "_agent_from" (defArgs s__agent_from) (defBody s__agent_from) (defScope s__agent_from) .none kV24 dc24 pm24 an24 cd24 ct24), sl24⟩) (c24 : PySem.W.codeIn K cd24 "_agent_from" = true) (k24 : PySem.W.keepIn K (.ref f24) = true)
    {f25 : Addr} {od25 an25 : Option Addr} {sl25 : Array (Option Value)} {oc25 kV25 dc25 pm25 cd25 ct25 : Value} (a25_0 : PySem.W.nsIn K mainGlobals "_port_from" = some (some (.ref f25))) (l25 : K.lookup f25 = some ⟨oc25, od25, .func (PySem.W.fnOf "_port_from" "_port_from" (defArgs s__port_from) (defBody s__port_from) (defScope s__port_from) .none kV25 dc25 pm25 an25 cd25 ct25), sl25⟩) (c25 : PySem.W.codeIn K cd25 "_port_from" = true) (k25 : PySem.W.keepIn K (.ref f25) = true)
    {f26 : Addr} {od26 an26 : Option Addr} {sl26 : Array (Option Value)} {oc26 kV26 dc26 pm26 cd26 ct26 : Value} (a26_0 : PySem.W.nsIn K mainGlobals "_law_cell" = some (some (.ref f26))) (l26 : K.lookup f26 = some ⟨oc26, od26, .func (PySem.W.fnOf "_law_cell" "_law_cell" (defArgs s__law_cell) (defBody s__law_cell) (defScope s__law_cell) .none kV26 dc26 pm26 an26 cd26 ct26), sl26⟩) (c26 : PySem.W.codeIn K cd26 "_law_cell" = true) (k26 : PySem.W.keepIn K (.ref f26) = true)
    {f27 : Addr} {od27 an27 : Option Addr} {sl27 : Array (Option Value)} {oc27 kV27 dc27 pm27 cd27 ct27 : Value} (a27_0 : PySem.W.nsIn K mainGlobals "_law_numbers" = some (some (.ref f27))) (l27 : K.lookup f27 = some ⟨oc27, od27, .func (PySem.W.fnOf "_law_numbers" "_law_numbers" (defArgs s__law_numbers) (defBody s__law_numbers) (defScope s__law_numbers) .none kV27 dc27 pm27 an27 cd27 ct27), sl27⟩) (c27 : PySem.W.codeIn K cd27 "_law_numbers" = true) (k27 : PySem.W.keepIn K (.ref f27) = true)
    {f28 : Addr} {od28 an28 : Option Addr} {sl28 : Array (Option Value)} {oc28 kV28 dc28 pm28 cd28 ct28 : Value} (a28_0 : PySem.W.nsIn K mainGlobals "_law_ports" = some (some (.ref f28))) (l28 : K.lookup f28 = some ⟨oc28, od28, .func (PySem.W.fnOf "_law_ports" "_law_ports" (defArgs s__law_ports) (defBody s__law_ports) (defScope s__law_ports) .none kV28 dc28 pm28 an28 cd28 ct28), sl28⟩) (c28 : PySem.W.codeIn K cd28 "_law_ports" = true) (k28 : PySem.W.keepIn K (.ref f28) = true)
    {f29 : Addr} {od29 an29 : Option Addr} {sl29 : Array (Option Value)} {oc29 kV29 dc29 pm29 cd29 ct29 : Value} (a29_0 : PySem.W.nsIn K mainGlobals "_law_any_net" = some (some (.ref f29))) (l29 : K.lookup f29 = some ⟨oc29, od29, .func (PySem.W.fnOf "_law_any_net" "_law_any_net" (defArgs s__law_any_net) (defBody s__law_any_net) (defScope s__law_any_net) .none kV29 dc29 pm29 an29 cd29 ct29), sl29⟩) (c29 : PySem.W.codeIn K cd29 "_law_any_net" = true) (k29 : PySem.W.keepIn K (.ref f29) = true)
    {f30 : Addr} {od30 an30 : Option Addr} {sl30 : Array (Option Value)} {oc30 kV30 dc30 pm30 cd30 ct30 : Value} (a30_0 : PySem.W.nsIn K mainGlobals "_law_reach" = some (some (.ref f30))) (l30 : K.lookup f30 = some ⟨oc30, od30, .func (PySem.W.fnOf "_law_reach" "_law_reach" (defArgs s__law_reach) (defBody s__law_reach) (defScope s__law_reach) .none kV30 dc30 pm30 an30 cd30 ct30), sl30⟩) (c30 : PySem.W.codeIn K cd30 "_law_reach" = true) (k30 : PySem.W.keepIn K (.ref f30) = true)
    {f31 : Addr} {od31 an31 : Option Addr} {sl31 : Array (Option Value)} {oc31 kV31 dc31 pm31 cd31 ct31 : Value} (a31_0 : PySem.W.nsIn K mainGlobals "_law_peer" = some (some (.ref f31))) (l31 : K.lookup f31 = some ⟨oc31, od31, .func (PySem.W.fnOf "_law_peer" "_law_peer" (defArgs s__law_peer) (defBody s__law_peer) (defScope s__law_peer) .none kV31 dc31 pm31 an31 cd31 ct31), sl31⟩) (c31 : PySem.W.codeIn K cd31 "_law_peer" = true) (k31 : PySem.W.keepIn K (.ref f31) = true)
    {f32 : Addr} {od32 an32 : Option Addr} {sl32 : Array (Option Value)} {oc32 kV32 dc32 pm32 cd32 ct32 : Value} (a32_0 : PySem.W.nsIn K mainGlobals "_law_data_text" = some (some (.ref f32))) (l32 : K.lookup f32 = some ⟨oc32, od32, .func (PySem.W.fnOf "_law_data_text" "_law_data_text" (defArgs s__law_data_text) (defBody s__law_data_text) (defScope s__law_data_text) .none kV32 dc32 pm32 an32 cd32 ct32), sl32⟩) (c32 : PySem.W.codeIn K cd32 "_law_data_text" = true) (k32 : PySem.W.keepIn K (.ref f32) = true)
    {f33 : Addr} {od33 an33 : Option Addr} {sl33 : Array (Option Value)} {oc33 kV33 dc33 pm33 cd33 ct33 : Value} (a33_0 : PySem.W.nsIn K mainGlobals "_law_net_text" = some (some (.ref f33))) (l33 : K.lookup f33 = some ⟨oc33, od33, .func (PySem.W.fnOf "_law_net_text" "_law_net_text" (defArgs s__law_net_text) (defBody s__law_net_text) (defScope s__law_net_text) .none kV33 dc33 pm33 an33 cd33 ct33), sl33⟩) (c33 : PySem.W.codeIn K cd33 "_law_net_text" = true) (k33 : PySem.W.keepIn K (.ref f33) = true)
    {f34 : Addr} {od34 an34 : Option Addr} {sl34 : Array (Option Value)} {oc34 kV34 dc34 pm34 cd34 ct34 : Value} (a34_0 : PySem.W.nsIn K mainGlobals "_law_only" = some (some (.ref f34))) (l34 : K.lookup f34 = some ⟨oc34, od34, .func (PySem.W.fnOf "_law_only" "_law_only" (defArgs s__law_only) (defBody s__law_only) (defScope s__law_only) .none kV34 dc34 pm34 an34 cd34 ct34), sl34⟩) (c34 : PySem.W.codeIn K cd34 "_law_only" = true) (k34 : PySem.W.keepIn K (.ref f34) = true)
    {f35 : Addr} {od35 an35 : Option Addr} {sl35 : Array (Option Value)} {oc35 kV35 dc35 pm35 cd35 ct35 : Value} (a35_0 : PySem.W.nsIn K mainGlobals "law" = some (some (.ref f35))) (l35 : K.lookup f35 = some ⟨oc35, od35, .func (PySem.W.fnOf "law" "law" (defArgs s_law) (defBody s_law) (defScope s_law) .none kV35 dc35 pm35 an35 cd35 ct35), sl35⟩) (c35 : PySem.W.codeIn K cd35 "law" = true) (k35 : PySem.W.keepIn K (.ref f35) = true)
    {C0 : Addr} {cd0 : ClassData} (ga0 : PySem.W.nsIn K mainGlobals "InvalidNet" = some (some (.ref C0))) (gb0 : PySem.W.subIn K (.ref C0) (.type "BaseException") = some true) (gt0 : PySem.W.typeIn K (.ref C0) = some (.type "type")) (gc0 : PySem.W.clsIn K C0 = some cd0)
    (gx0 : PySem.W.excIn K C0 [.type "ValueError", .type "Exception", .type "BaseException", .type "object"] "ValueError.__new__" = true) (gk0 : PySem.W.keepIn K (.ref C0) = true)
    {C1 : Addr} {cd1 : ClassData} (ga1 : PySem.W.nsIn K mainGlobals "SharenetError" = some (some (.ref C1))) (gb1 : PySem.W.subIn K (.ref C1) (.type "BaseException") = some true) (gt1 : PySem.W.typeIn K (.ref C1) = some (.type "type")) (gc1 : PySem.W.clsIn K C1 = some cd1)
    (hg0 : PySem.W.findIn K (.ref C0) "__getattribute__" = some (some (.builtin "BaseException.__getattribute__"))) (hk0 : PySem.W.findIn K (.ref C0) "__getattr__" = some none) (hs0 : PySem.W.subIn K (.ref C0) (.type "BaseException") = some true) (hd0 : PySem.W.hasDictIn K C0 = true) (ha0 : PySem.W.findIn K (.ref C0) "__class__" = some (some (.builtin "object.__class__"))) (hn0 : PySem.W.specialIn K (.builtin "object.__class__") "__get__" = some (some (.builtin "getset_descriptor.__get__"))) (ht0 : PySem.W.takesIn K (.builtin "object.__class__") = some true) (hm0 : PySem.W.mroIn K C0 (.type "object") = some true)
    (su0_1 : PySem.W.subIn K (.ref C0) (.ref C1) = some true) (ne0_1 : (Value.ref C0 == Value.ref C1) = false)
    (su0_0 : PySem.W.subIn K (.ref C0) (.ref C0) = some true) (ne0_0 : (Value.ref C0 == Value.ref C0) = true)
    {tc0 : Tok} (co0 : PySem.W.nsIn K mainGlobals "DIGITS" = some (some (.str (mkS digitsS) tc0)))
    {pd1 : Addr} {es1 : Array DictEntry} {nd1 : Nat} {td1_0 : Tok} {td1_1 : Tok} {td1_2 : Tok} {td1_3 : Tok} {td1_4 : Tok} {td1_5 : Tok} {td1_6 : Tok} {td1_7 : Tok} {td1_8 : Tok} (co1 : PySem.W.nsIn K mainGlobals "PORTS" = some (some (.ref pd1))) (cl1 : K.lookup pd1 = some ⟨.type "dict", none, .dict es1 nd1, #[]⟩) (ck1 : PySem.W.KeysLit w.params es1.toList) (cx1 : (pd1 == sysModules) = false) (cy1_0 : PySem.W.nsIn K pd1 "root" = some (some (.int 1 td1_0))) (cy1_1 : PySem.W.nsIn K pd1 "lam" = some (some (.int 3 td1_1))) (cy1_2 : PySem.W.nsIn K pd1 "app" = some (some (.int 3 td1_2))) (cy1_3 : PySem.W.nsIn K pd1 "fan" = some (some (.int 3 td1_3))) (cy1_4 : PySem.W.nsIn K pd1 "pair" = some (some (.int 3 td1_4))) (cy1_5 : PySem.W.nsIn K pd1 "split" = some (some (.int 3 td1_5))) (cy1_6 : PySem.W.nsIn K pd1 "num" = some (some (.int 1 td1_6))) (cy1_7 : PySem.W.nsIn K pd1 "op" = some (some (.int 3 td1_7))) (cy1_8 : PySem.W.nsIn K pd1 "op1" = some (some (.int 2 td1_8))) 
    (cz1 : es1.size = 9)
    {tc2 : Tok} (co2 : PySem.W.nsIn K mainGlobals "_CHUNK" = some (some (.int 10000000000000000000000000000000000000000000000000000000000000000 tc2)))
    {tc3 : Tok} (co3 : PySem.W.nsIn K mainGlobals "_CHUNK_DIGITS" = some (some (.int 64 tc3)))
    {tca4 : Addr} {dd4 : Option Addr} {nn4 : Nat} {ss4 : Array (Option Value)} {tk4_0 tk4_1 tk4_2 : Tok} (co4 : PySem.W.nsIn K mainGlobals "_SIGNS" = some (some (.ref tca4))) (cl4 : K.lookup tca4 = some ⟨.type "tuple", dd4, .seq #[.str (mkS z_x2b) tk4_0, .str (mkS z_x2d) tk4_1, .str (mkS z_x2a) tk4_2] nn4, ss4⟩)
    (z0 : PySem.W.nsIn K mainGlobals "abs" = some none)
    (z1 : PySem.W.nsIn K mainGlobals "all" = some none)
    (z2 : PySem.W.nsIn K mainGlobals "bool" = some none)
    (z3 : PySem.W.nsIn K mainGlobals "dict" = some none)
    (z4 : PySem.W.nsIn K mainGlobals "enumerate" = some none)
    (z5 : PySem.W.nsIn K mainGlobals "int" = some none)
    (z6 : PySem.W.nsIn K mainGlobals "isinstance" = some none)
    (z7 : PySem.W.nsIn K mainGlobals "len" = some none)
    (z8 : PySem.W.nsIn K mainGlobals "list" = some none)
    (z9 : PySem.W.nsIn K mainGlobals "max" = some none)
    (z10 : PySem.W.nsIn K mainGlobals "min" = some none)
    (z11 : PySem.W.nsIn K mainGlobals "range" = some none)
    (z12 : PySem.W.nsIn K mainGlobals "sorted" = some none)
    (z13 : PySem.W.nsIn K mainGlobals "str" = some none)
    (z14 : PySem.W.nsIn K mainGlobals "sum" = some none)
    (z15 : PySem.W.nsIn K mainGlobals "tuple" = some none)
    : Nonempty (Tx P w K mg) :=
  ⟨{
    aC_Net := I0, cls_Net := ⟨ip0, ih0, io0, is0⟩
    na_Net_active := in0_0
    na_Net_agents := in0_1
    na_Net_ends := in0_2
    na_Net_next_name := in0_3
    na_Net_root := in0_4
    a_add_pair := f0, fd_add_pair := _, F_add_pair := fun_mk (st := s_add_pair) l0 c0 k0, b_add_pair := (fun_mk (st := s_add_pair) l0 c0 k0).binds (ps := ["pairs", "pair"]) (fun _ _ _ _ _ _ us hl => match us, hl with | [_, _], _ => rfl), g_add_pair := PySem.W.mg_of X G a0_0
    a__place_of := f1, fd__place_of := _, F__place_of := fun_mk (st := s__place_of) l1 c1 k1, b__place_of := (fun_mk (st := s__place_of) l1 c1 k1).binds (ps := ["pairs", "pair"]) (fun _ _ _ _ _ _ us hl => match us, hl with | [_, _], _ => rfl), g__place_of := PySem.W.mg_of X G a1_0
    a_Net___init__ := f2, fd_Net___init__ := _, F_Net___init__ := fun_mk (st := s_Net___init__) l2 c2 k2, b_Net___init__ := (fun_mk (st := s_Net___init__) l2 c2 k2).binds (ps := ["self", "agents", "wires"]) (fun _ _ _ _ _ _ us hl => match us, hl with | [_, _, _], _ => rfl)
    gC_Net := PySem.W.mg_of X G ia0, mk_Net := ⟨im0, a2, e2, ik0⟩
    a_Net_names := f3, fd_Net_names := _, F_Net_names := fun_mk (st := s_Net_names) l3 c3 k3, b_Net_names := (fun_mk (st := s_Net_names) l3 c3 k3).binds (ps := ["self"]) (fun _ _ _ _ _ _ us hl => match us, hl with | [_], _ => rfl)
    m_Net_names := ⟨a3, e3, k3⟩
    a_Net_agent := f4, fd_Net_agent := _, F_Net_agent := fun_mk (st := s_Net_agent) l4 c4 k4, b_Net_agent := (fun_mk (st := s_Net_agent) l4 c4 k4).binds (ps := ["self", "name"]) (fun _ _ _ _ _ _ us hl => match us, hl with | [_, _], _ => rfl)
    m_Net_agent := ⟨a4, e4, k4⟩
    a_Net_peer := f5, fd_Net_peer := _, F_Net_peer := fun_mk (st := s_Net_peer) l5 c5 k5, b_Net_peer := (fun_mk (st := s_Net_peer) l5 c5 k5).binds (ps := ["self", "name", "port"]) (fun _ _ _ _ _ _ us hl => match us, hl with | [_, _, _], _ => rfl)
    m_Net_peer := ⟨a5, e5, k5⟩
    a_Net_pairs := f6, fd_Net_pairs := _, F_Net_pairs := fun_mk (st := s_Net_pairs) l6 c6 k6, b_Net_pairs := (fun_mk (st := s_Net_pairs) l6 c6 k6).binds (ps := ["self"]) (fun _ _ _ _ _ _ us hl => match us, hl with | [_], _ => rfl)
    a_Net___len__ := f7, fd_Net___len__ := _, F_Net___len__ := fun_mk (st := s_Net___len__) l7 c7 k7, b_Net___len__ := (fun_mk (st := s_Net___len__) l7 c7 k7).binds (ps := ["self"]) (fun _ _ _ _ _ _ us hl => match us, hl with | [_], _ => rfl)
    a_Net_reached := f8, fd_Net_reached := _, F_Net_reached := fun_mk (st := s_Net_reached) l8 c8 k8, b_Net_reached := (fun_mk (st := s_Net_reached) l8 c8 k8).binds (ps := ["self"]) (fun _ _ _ _ _ _ us hl => match us, hl with | [_], _ => rfl)
    m_Net_reached := ⟨a8, e8, k8⟩
    a_Net_note_pair := f9, fd_Net_note_pair := _, F_Net_note_pair := fun_mk (st := s_Net_note_pair) l9 c9 k9, b_Net_note_pair := (fun_mk (st := s_Net_note_pair) l9 c9 k9).binds (ps := ["self", "one", "other"]) (fun _ _ _ _ _ _ us hl => match us, hl with | [_, _, _], _ => rfl)
    m_Net_note_pair := ⟨a9, e9, k9⟩
    a__refuse_agents := f10, fd__refuse_agents := _, F__refuse_agents := fun_mk (st := s__refuse_agents) l10 c10 k10, b__refuse_agents := (fun_mk (st := s__refuse_agents) l10 c10 k10).binds (ps := ["agents"]) (fun _ _ _ _ _ _ us hl => match us, hl with | [_], _ => rfl), g__refuse_agents := PySem.W.mg_of X G a10_0
    a__is_agent := f11, fd__is_agent := _, F__is_agent := fun_mk (st := s__is_agent) l11 c11 k11, b__is_agent := (fun_mk (st := s__is_agent) l11 c11 k11).binds (ps := ["agent"]) (fun _ _ _ _ _ _ us hl => match us, hl with | [_], _ => rfl), g__is_agent := PySem.W.mg_of X G a11_0
    a__is_integer := f12, fd__is_integer := _, F__is_integer := fun_mk (st := s__is_integer) l12 c12 k12, b__is_integer := (fun_mk (st := s__is_integer) l12 c12 k12).binds (ps := ["value"]) (fun _ _ _ _ _ _ us hl => match us, hl with | [_], _ => rfl), g__is_integer := PySem.W.mg_of X G a12_0
    a__ends_of := f13, fd__ends_of := _, F__ends_of := fun_mk (st := s__ends_of) l13 c13 k13, b__ends_of := (fun_mk (st := s__ends_of) l13 c13 k13).binds (ps := ["agents", "wires"]) (fun _ _ _ _ _ _ us hl => match us, hl with | [_, _], _ => rfl), g__ends_of := PySem.W.mg_of X G a13_0
    a__is_open := f14, fd__is_open := _, F__is_open := fun_mk (st := s__is_open) l14 c14 k14, b__is_open := (fun_mk (st := s__is_open) l14 c14 k14).binds (ps := ["ends", "port"]) (fun _ _ _ _ _ _ us hl => match us, hl with | [_, _], _ => rfl), g__is_open := PySem.W.mg_of X G a14_0
    a_decimal := f15, fd_decimal := _, F_decimal := fun_mk (st := s_decimal) l15 c15 k15, b_decimal := (fun_mk (st := s_decimal) l15 c15 k15).binds (ps := ["number"]) (fun _ _ _ _ _ _ us hl => match us, hl with | [_], _ => rfl), g_decimal := PySem.W.mg_of X G a15_0
    a_integer_from := f16, fd_integer_from := _, F_integer_from := fun_mk (st := s_integer_from) l16 c16 k16, b_integer_from := (fun_mk (st := s_integer_from) l16 c16 k16).binds (ps := ["text"]) (fun _ _ _ _ _ _ us hl => match us, hl with | [_], _ => rfl), g_integer_from := PySem.W.mg_of X G a16_0
    a_canonical_order := f17, fd_canonical_order := _, F_canonical_order := fun_mk (st := s_canonical_order) l17 c17 k17, b_canonical_order := (fun_mk (st := s_canonical_order) l17 c17 k17).binds (ps := ["net"]) (fun _ _ _ _ _ _ us hl => match us, hl with | [_], _ => rfl), g_canonical_order := PySem.W.mg_of X G a17_0
    a_canonical_numbers := f18, fd_canonical_numbers := _, F_canonical_numbers := fun_mk (st := s_canonical_numbers) l18 c18 k18, b_canonical_numbers := (fun_mk (st := s_canonical_numbers) l18 c18 k18).binds (ps := ["net"]) (fun _ _ _ _ _ _ us hl => match us, hl with | [_], _ => rfl), g_canonical_numbers := PySem.W.mg_of X G a18_0
    a_canonical_text := f19, fd_canonical_text := _, F_canonical_text := fun_mk (st := s_canonical_text) l19 c19 k19, b_canonical_text := (fun_mk (st := s_canonical_text) l19 c19 k19).binds (ps := ["net"]) (fun _ _ _ _ _ _ us hl => match us, hl with | [_], _ => rfl), g_canonical_text := PySem.W.mg_of X G a19_0
    a_same_net := f20, fd_same_net := _, F_same_net := fun_mk (st := s_same_net) l20 c20 k20, b_same_net := (fun_mk (st := s_same_net) l20 c20 k20).binds (ps := ["first", "second"]) (fun _ _ _ _ _ _ us hl => match us, hl with | [_, _], _ => rfl), g_same_net := PySem.W.mg_of X G a20_0
    a_read_net := f21, fd_read_net := _, F_read_net := fun_mk (st := s_read_net) l21 c21 k21, b_read_net := (fun_mk (st := s_read_net) l21 c21 k21).binds (ps := ["text"]) (fun _ _ _ _ _ _ us hl => match us, hl with | [_], _ => rfl), g_read_net := PySem.W.mg_of X G a21_0
    a__part_text := f22, fd__part_text := _, F__part_text := fun_mk (st := s__part_text) l22 c22 k22, b__part_text := (fun_mk (st := s__part_text) l22 c22 k22).binds (ps := ["net", "name", "numbers"]) (fun _ _ _ _ _ _ us hl => match us, hl with | [_, _, _], _ => rfl), g__part_text := PySem.W.mg_of X G a22_0
    a__data_text := f23, fd__data_text := _, F__data_text := fun_mk (st := s__data_text) l23 c23 k23, b__data_text := (fun_mk (st := s__data_text) l23 c23 k23).binds (ps := ["data"]) (fun _ _ _ _ _ _ us hl => match us, hl with | [_], _ => rfl), g__data_text := PySem.W.mg_of X G a23_0
    a__agent_from := f24, fd__agent_from := _, F__agent_from := fun_mk (st := s__agent_from) l24 c24 k24, b__agent_from := (fun_mk (st := s__agent_from) l24 c24 k24).binds (ps := ["word"]) (fun _ _ _ _ _ _ us hl => match us, hl with | [_], _ => rfl), g__agent_from := PySem.W.mg_of X G a24_0
    a__port_from := f25, fd__port_from := _, F__port_from := fun_mk (st := s__port_from) l25 c25 k25, b__port_from := (fun_mk (st := s__port_from) l25 c25 k25).binds (ps := ["word"]) (fun _ _ _ _ _ _ us hl => match us, hl with | [_], _ => rfl), g__port_from := PySem.W.mg_of X G a25_0
    a__law_cell := f26, fd__law_cell := _, F__law_cell := fun_mk (st := s__law_cell) l26 c26 k26, b__law_cell := (fun_mk (st := s__law_cell) l26 c26 k26).binds (ps := ["script", "k"]) (fun _ _ _ _ _ _ us hl => match us, hl with | [_, _], _ => rfl), g__law_cell := PySem.W.mg_of X G a26_0
    a__law_numbers := f27, fd__law_numbers := _, F__law_numbers := fun_mk (st := s__law_numbers) l27 c27 k27, b__law_numbers := (fun_mk (st := s__law_numbers) l27 c27 k27).binds (ps := ["script", "first", "most"]) (fun _ _ _ _ _ _ us hl => match us, hl with | [_, _, _], _ => rfl), g__law_numbers := PySem.W.mg_of X G a27_0
    a__law_ports := f28, fd__law_ports := _, F__law_ports := fun_mk (st := s__law_ports) l28 c28 k28, b__law_ports := (fun_mk (st := s__law_ports) l28 c28 k28).binds (ps := ["kind"]) (fun _ _ _ _ _ _ us hl => match us, hl with | [_], _ => rfl), g__law_ports := PySem.W.mg_of X G a28_0
    a__law_any_net := f29, fd__law_any_net := _, F__law_any_net := fun_mk (st := s__law_any_net) l29 c29 k29, b__law_any_net := (fun_mk (st := s__law_any_net) l29 c29 k29).binds (ps := ["numbers"]) (fun _ _ _ _ _ _ us hl => match us, hl with | [_], _ => rfl), g__law_any_net := PySem.W.mg_of X G a29_0
    a__law_reach := f30, fd__law_reach := _, F__law_reach := fun_mk (st := s__law_reach) l30 c30 k30, b__law_reach := (fun_mk (st := s__law_reach) l30 c30 k30).binds (ps := ["agents", "wires"]) (fun _ _ _ _ _ _ us hl => match us, hl with | [_, _], _ => rfl), g__law_reach := PySem.W.mg_of X G a30_0
    a__law_peer := f31, fd__law_peer := _, F__law_peer := fun_mk (st := s__law_peer) l31 c31 k31, b__law_peer := (fun_mk (st := s__law_peer) l31 c31 k31).binds (ps := ["wires", "end"]) (fun _ _ _ _ _ _ us hl => match us, hl with | [_, _], _ => rfl), g__law_peer := PySem.W.mg_of X G a31_0
    a__law_data_text := f32, fd__law_data_text := _, F__law_data_text := fun_mk (st := s__law_data_text) l32 c32 k32, b__law_data_text := (fun_mk (st := s__law_data_text) l32 c32 k32).binds (ps := ["agent"]) (fun _ _ _ _ _ _ us hl => match us, hl with | [_], _ => rfl), g__law_data_text := PySem.W.mg_of X G a32_0
    a__law_net_text := f33, fd__law_net_text := _, F__law_net_text := fun_mk (st := s__law_net_text) l33 c33 k33, b__law_net_text := (fun_mk (st := s__law_net_text) l33 c33 k33).binds (ps := ["agents", "wires"]) (fun _ _ _ _ _ _ us hl => match us, hl with | [_, _], _ => rfl), g__law_net_text := PySem.W.mg_of X G a33_0
    a__law_only := f34, fd__law_only := _, F__law_only := fun_mk (st := s__law_only) l34 c34 k34, b__law_only := (fun_mk (st := s__law_only) l34 c34 k34).binds (ps := ["agents", "wires", "order"]) (fun _ _ _ _ _ _ us hl => match us, hl with | [_, _, _], _ => rfl), g__law_only := PySem.W.mg_of X G a34_0
    a_law := f35, fd_law := _, F_law := fun_mk (st := s_law) l35 c35 k35, b_law := (fun_mk (st := s_law) l35 c35 k35).binds (ps := ["script"]) (fun _ _ _ _ _ _ us hl => match us, hl with | [_], _ => rfl), g_law := PySem.W.mg_of X G a35_0
    aC_InvalidNet := C0, gC_InvalidNet := PySem.W.mg_of X G ga0
    x_InvalidNet := gx0, k_InvalidNet := gk0, b_InvalidNet := gb0, t_InvalidNet := gt0
    aC_SharenetError := C1, gC_SharenetError := PySem.W.mg_of X G ga1
    ec_InvalidNet := ⟨hg0, hk0, hs0, hd0, ha0, hn0, ht0, hm0⟩
    xm_InvalidNet_SharenetError := exm_of gb1 gt1 (some_is gc1) su0_1
    is_InvalidNet_InvalidNet := kit_me
    c_DIGITS := ⟨_, PySem.W.mg_of X G co0⟩
    p_PORTS := pd1, gk_PORTS := PySem.W.mg_of X G co1, t_PORTS := ⟨⟨es1, nd1, cl1, ck1⟩, cx1, (.cons cy1_0 (Sk.int _ _) (.cons cy1_1 (Sk.int _ _) (.cons cy1_2 (Sk.int _ _) (.cons cy1_3 (Sk.int _ _) (.cons cy1_4 (Sk.int _ _) (.cons cy1_5 (Sk.int _ _) (.cons cy1_6 (Sk.int _ _) (.cons cy1_7 (Sk.int _ _) (.cons cy1_8 (Sk.int _ _) .nil))))))))), .nil⟩
    f_PORTS := ⟨⟨es1, nd1, cl1, ck1, cz1⟩, (.cons cy1_0 (Sk.int _ _) (.cons cy1_1 (Sk.int _ _) (.cons cy1_2 (Sk.int _ _) (.cons cy1_3 (Sk.int _ _) (.cons cy1_4 (Sk.int _ _) (.cons cy1_5 (Sk.int _ _) (.cons cy1_6 (Sk.int _ _) (.cons cy1_7 (Sk.int _ _) (.cons cy1_8 (Sk.int _ _) .nil))))))))), by decide⟩
    c__CHUNK := ⟨_, PySem.W.mg_of X G co2⟩
    c__CHUNK_DIGITS := ⟨_, PySem.W.mg_of X G co3⟩
    u__SIGNS := .ref tca4, c__SIGNS := PySem.W.mg_of X G co4, s__SIGNS := Sk.tup cl4 (Nat.le_of_ble_eq_true rfl) (.cons (.str z_x2b _) (.cons (.str z_x2d _) (.cons (.str z_x2a _) .nil)))
    m_abs := PySem.W.mg_none_of X G z0
    m_all := PySem.W.mg_none_of X G z1
    m_bool := PySem.W.mg_none_of X G z2
    m_dict := PySem.W.mg_none_of X G z3
    m_enumerate := PySem.W.mg_none_of X G z4
    m_int := PySem.W.mg_none_of X G z5
    m_isinstance := PySem.W.mg_none_of X G z6
    m_len := PySem.W.mg_none_of X G z7
    m_list := PySem.W.mg_none_of X G z8
    m_max := PySem.W.mg_none_of X G z9
    m_min := PySem.W.mg_none_of X G z10
    m_range := PySem.W.mg_none_of X G z11
    m_sorted := PySem.W.mg_none_of X G z12
    m_str := PySem.W.mg_none_of X G z13
    m_sum := PySem.W.mg_none_of X G z14
    m_tuple := PySem.W.mg_none_of X G z15 }⟩
theorem fin_mk {P : Program} {w : World} {K : PySem.W.Frag} {mg : Str → Option Value} {fa : Addr} (hfa : mg "law" = some (.ref fa)) (T : Tx P w K mg) :
    ∃ fd : FuncData, (∀ (s : Shared) (v : Value), BindsTo s fd ⟨[v], []⟩ [("script", v)]) ∧ ∀ base : Heap, K.In base → base.Ns mainGlobals mg → FnOk P w K mg base CX0 lawK fa fd ["script"] (lSp K spLaw) := by
  have e := hfa.symm.trans T.g_law
  cases e
  refine ⟨T.fd_law, fun s v => ?_, fun base _ _ => ok_law T⟩
  obtain ⟨oc, od, kV, doc, pm, an, cdv, ct, osl, e, _, _⟩ := T.F_law.ex
  rw [e]
  exact .of_eq rfl
end Lw
open PySem PySem.W PyProof.Rows
set_option maxHeartbeats 0 in
theorem PySem.Challenge.cw_sharenet_k17_canonical_texts_holds : PySem.Challenge.rw_sharenet_k17_canonical_texts.Holds := by
  w_on; o_law; k_head; (case hw => w_witness2)
  k_fill
  refine L2.walk_of (l := PySem.Challenge.rw_sharenet_k17_canonical_texts) (n := 63) (k := Lw.lawK) (x := "script") (CX := fun _ => L2.CX0) (sp := fun w => Wl.lSp _ Lw.spLaw) rfl (by decide) rfl ⟨rfl, by decide, by decide⟩ (fun w h Y => PySem.W.kIn_of Y) ?F
    (fun w H a ns hl ho hS => Wl.hspW Lw.law_sp _ H a ns hl ho hS) (fun _ _ _ _ _ h => h)
  case F =>
    intro w mg fa h KX G hmg
    refine Nonempty.elim ?mk (Lw.fin_mk hmg)
    refine' Lw.all_mk KX G ?ia0 ?ip0 ?ih0 ?io0 ?is0 ?im0 ?ik0 ?in0_0 ?in0_1 ?in0_2 ?in0_3 ?in0_4 ?a0_0 ?l0 ?c0 ?k0 ?a1_0 ?l1 ?c1 ?k1 ?a2 ?l2 ?c2 ?k2 ?e2 ?a3 ?l3 ?c3 ?k3 ?e3 ?a4 ?l4 ?c4 ?k4 ?e4 ?a5 ?l5 ?c5 ?k5 ?e5 ?a6 ?l6 ?c6 ?k6 ?e6 ?a7 ?l7 ?c7 ?k7 ?e7 ?a8 ?l8 ?c8 ?k8 ?e8 ?a9 ?l9 ?c9 ?k9 ?e9 ?a10_0 ?l10 ?c10 ?k10 ?a11_0 ?l11 ?c11 ?k11 ?a12_0 ?l12 ?c12 ?k12 ?a13_0 ?l13 ?c13 ?k13 ?a14_0 ?l14 ?c14 ?k14 ?a15_0 ?l15 ?c15 ?k15 ?a16_0 ?l16 ?c16 ?k16 ?a17_0 ?l17 ?c17 ?k17 ?a18_0 ?l18 ?c18 ?k18 ?a19_0 ?l19 ?c19 ?k19 ?a20_0 ?l20 ?c20 ?k20 ?a21_0 ?l21 ?c21 ?k21 ?a22_0 ?l22 ?c22 ?k22 ?a23_0 ?l23 ?c23 ?k23 ?a24_0 ?l24 ?c24 ?k24 ?a25_0 ?l25 ?c25 ?k25 ?a26_0 ?l26 ?c26 ?k26 ?a27_0 ?l27 ?c27 ?k27 ?a28_0 ?l28 ?c28 ?k28 ?a29_0 ?l29 ?c29 ?k29 ?a30_0 ?l30 ?c30 ?k30 ?a31_0 ?l31 ?c31 ?k31 ?a32_0 ?l32 ?c32 ?k32 ?a33_0 ?l33 ?c33 ?k33 ?a34_0 ?l34 ?c34 ?k34 ?a35_0 ?l35 ?c35 ?k35 ?ga0 ?gb0 ?gt0 ?gc0 ?gx0 ?gk0 ?ga1 ?gb1 ?gt1 ?gc1 ?hg0 ?hk0 ?hs0 ?hd0 ?ha0 ?hn0 ?ht0 ?hm0 ?su0_1 ?ne0_1 ?su0_0 ?ne0_0 ?co0 ?co1 ?cl1 ?ck1 ?cx1 ?cy1_0 ?cy1_1 ?cy1_2 ?cy1_3 ?cy1_4 ?cy1_5 ?cy1_6 ?cy1_7 ?cy1_8 ?cz1 ?co2 ?co3 ?co4 ?cl4 ?z0 ?z1 ?z2 ?z3 ?z4 ?z5 ?z6 ?z7 ?z8 ?z9 ?z10 ?z11 ?z12 ?z13 ?z14 ?z15
    ((case ia0 => k_is); (case ip0 => k_is); (case ih0 => k_is); (case io0 => k_is); (case is0 => k_is); (case im0 => k_is); (case ik0 => k_is); (case in0_0 => k_is); (case in0_1 => k_is); (case in0_2 => k_is); (case in0_3 => k_is); (case in0_4 => k_is); (case a0_0 => k_is); (case l0 => k_is); (case c0 => k_is); (case k0 => k_is); (case a1_0 => k_is); (case l1 => k_is); (case c1 => k_is); (case k1 => k_is); (case a2 => k_is); (case l2 => k_is); (case c2 => k_is); (case k2 => k_is); (case e2 => k_is); (case a3 => k_is); (case l3 => k_is); (case c3 => k_is); (case k3 => k_is); (case e3 => k_is); (case a4 => k_is); (case l4 => k_is); (case c4 => k_is); (case k4 => k_is); (case e4 => k_is); (case a5 => k_is); (case l5 => k_is); (case c5 => k_is); (case k5 => k_is); (case e5 => k_is); (case a6 => k_is); (case l6 => k_is); (case c6 => k_is); (case k6 => k_is); (case e6 => k_is); (case a7 => k_is); (case l7 => k_is); (case c7 => k_is); (case k7 => k_is); (case e7 => k_is); (case a8 => k_is); (case l8 => k_is); (case c8 => k_is); (case k8 => k_is); (case e8 => k_is); (case a9 => k_is); (case l9 => k_is); (case c9 => k_is); (case k9 => k_is); (case e9 => k_is); (case a10_0 => k_is); (case l10 => k_is); (case c10 => k_is); (case k10 => k_is); (case a11_0 => k_is); (case l11 => k_is); (case c11 => k_is); (case k11 => k_is); (case a12_0 => k_is); (case l12 => k_is); (case c12 => k_is); (case k12 => k_is); (case a13_0 => k_is); (case l13 => k_is); (case c13 => k_is); (case k13 => k_is); (case a14_0 => k_is); (case l14 => k_is); (case c14 => k_is); (case k14 => k_is); (case a15_0 => k_is); (case l15 => k_is); (case c15 => k_is); (case k15 => k_is); (case a16_0 => k_is); (case l16 => k_is); (case c16 => k_is); (case k16 => k_is); (case a17_0 => k_is); (case l17 => k_is); (case c17 => k_is); (case k17 => k_is); (case a18_0 => k_is); (case l18 => k_is); (case c18 => k_is); (case k18 => k_is); (case a19_0 => k_is); (case l19 => k_is); (case c19 => k_is); (case k19 => k_is); (case a20_0 => k_is); (case l20 => k_is); (case c20 => k_is); (case k20 => k_is); (case a21_0 => k_is); (case l21 => k_is); (case c21 => k_is); (case k21 => k_is); (case a22_0 => k_is); (case l22 => k_is); (case c22 => k_is); (case k22 => k_is); (case a23_0 => k_is); (case l23 => k_is); (case c23 => k_is); (case k23 => k_is); (case a24_0 => k_is); (case l24 => k_is); (case c24 => k_is); (case k24 => k_is); (case a25_0 => k_is); (case l25 => k_is); (case c25 => k_is); (case k25 => k_is); (case a26_0 => k_is); (case l26 => k_is); (case c26 => k_is); (case k26 => k_is); (case a27_0 => k_is); (case l27 => k_is); (case c27 => k_is); (case k27 => k_is); (case a28_0 => k_is); (case l28 => k_is); (case c28 => k_is); (case k28 => k_is); (case a29_0 => k_is); (case l29 => k_is); (case c29 => k_is); (case k29 => k_is); (case a30_0 => k_is); (case l30 => k_is); (case c30 => k_is); (case k30 => k_is); (case a31_0 => k_is); (case l31 => k_is); (case c31 => k_is); (case k31 => k_is); (case a32_0 => k_is); (case l32 => k_is); (case c32 => k_is); (case k32 => k_is); (case a33_0 => k_is); (case l33 => k_is); (case c33 => k_is); (case k33 => k_is); (case a34_0 => k_is); (case l34 => k_is); (case c34 => k_is); (case k34 => k_is); (case a35_0 => k_is); (case l35 => k_is); (case c35 => k_is); (case k35 => k_is); (case ga0 => k_is); (case gb0 => k_is); (case gt0 => k_is); (case gc0 => k_is); (case gx0 => k_exc); (case gk0 => k_is); (case ga1 => k_is); (case gb1 => k_is); (case gt1 => k_is); (case gc1 => k_is); (case hg0 => k_is); (case hk0 => k_is); (case hs0 => k_is); (case hd0 => k_is); (case ha0 => k_is); (case hn0 => k_is); (case ht0 => k_is); (case hm0 => k_is); (case su0_1 => k_is); (case ne0_1 => rfl); (case su0_0 => k_is); (case ne0_0 => rfl); (case co0 => k_is); (case co1 => k_is); (case cl1 => k_is); (case ck1 => (repeat (first | exact trivial | refine ⟨⟨_, _, rfl, rfl⟩, ?_⟩))); (case cx1 => rfl); (case cy1_0 => k_is); (case cy1_1 => k_is); (case cy1_2 => k_is); (case cy1_3 => k_is); (case cy1_4 => k_is); (case cy1_5 => k_is); (case cy1_6 => k_is); (case cy1_7 => k_is); (case cy1_8 => k_is); (case cz1 => rfl); (case co2 => k_is); (case co3 => k_is); (case co4 => k_is); (case cl4 => k_is); (case z0 => k_is); (case z1 => k_is); (case z2 => k_is); (case z3 => k_is); (case z4 => k_is); (case z5 => k_is); (case z6 => k_is); (case z7 => k_is); (case z8 => k_is); (case z9 => k_is); (case z10 => k_is); (case z11 => k_is); (case z12 => k_is); (case z13 => k_is); (case z14 => k_is); (case z15 => k_is))
