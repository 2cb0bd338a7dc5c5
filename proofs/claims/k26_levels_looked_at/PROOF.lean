import PyProof.Rows.All
import Wide.All
import OpenK.AllK
import Wide.FinOn
import Lean
import PyProof.EqAt
import PyProof.EqKinds
import PyProof.TupleCall
import PyProof.PassesOwn
import PyProof.StationsW
import PyProof.ZipIter
import PyProof.EnumMake
import PyProof.EnumFor
import KE.KRevIter
import KE.KDictSum
import PyProof.ListRange
import PyProof.SumAny
import KE.KSortAsk
import KE.KSortTup
import PyProof.SetScanFacts
import PySem.Challenge.RW_bridgecrews_k26_levels_looked_at
set_option Elab.async false
set_option linter.all false
set_option maxRecDepth 100000
namespace L2
open PySem PySem.Spec PyProof.Rows
abbrev Key:=Sum Int Str
def keyIs:Key→Value→Bool
 | .inl k,v=>Value.isInt k v
 | .inr x,v=>Value.isStrOf x v
def keyH (w:World):Key→Int
 | .inl k=>hashInt k
 | .inr x=>hashStr w x
theorem keyIs_shape:∀ {k:Key} {v:Value},keyIs k v=true→(∃ i t,k=Sum.inl i∧v=Value.int i t)∨(∃ x t,k=Sum.inr x∧v=Value.str x t)
 | .inl i,v,h=>by
  obtain ⟨t,e⟩:=Value.isInt_shape (k:=i) (v:=v) h
  exact .inl ⟨i,t,rfl,e⟩
 | .inr x,v,h=>by
  obtain ⟨t,e⟩:=Value.isStrOf_shape (x:=x) (v:=v) h
  exact .inr ⟨x,t,rfl,e⟩
theorem keyIs_int (i:Int) (t:Tok):keyIs (.inl i) (.int i t)=true:=by simp [keyIs,Value.isInt]
theorem keyIs_str (x:Str) (t:Tok):keyIs (.inr x) (.str x t)=true:=by simp [keyIs,Value.isStrOf]
theorem key_ll (a b:Int):decide ((Sum.inl a:Key)=Sum.inl b)=(a == b):=by
 by_cases e:a=b
 ·subst e;simp
 ·have h:¬ (Sum.inl a:Key)=Sum.inl b:=fun q=>e (Sum.inl.inj q)
  rw [decide_eq_false h]
  exact (beq_eq_false_iff_ne.mpr e).symm
theorem key_rr (a b:Str):decide ((Sum.inr a:Key)=Sum.inr b)=decide (a=b):=by
 by_cases e:a=b
 ·subst e;simp
 ·have h:¬ (Sum.inr a:Key)=Sum.inr b:=fun q=>e (Sum.inr.inj q)
  rw [decide_eq_false h,decide_eq_false e]
theorem key_lr (a:Int) (b:Str):decide ((Sum.inl a:Key)=Sum.inr b)=false:=decide_eq_false (fun q=>nomatch q)
theorem key_rl (a:Str) (b:Int):decide ((Sum.inr a:Key)=Sum.inl b)=false:=decide_eq_false (fun q=>nomatch q)
def mixKind (prog:Program) (w:World):PySem.KeyKind prog w Key where
 is:=keyIs
 hash:=keyH w
 inj:=fun v a b ha hb=>by
  rcases keyIs_shape ha with ⟨i,t,rfl,rfl⟩ | ⟨x,t,rfl,rfl⟩
  ·rcases keyIs_shape hb with ⟨j,u,rfl,e⟩ | ⟨y,u,rfl,e⟩
   ·injection e with e1 _;rw [e1]
   ·exact nomatch e
  ·rcases keyIs_shape hb with ⟨j,u,rfl,e⟩ | ⟨y,u,rfl,e⟩
   ·exact nomatch e
   ·injection e with e1 _;rw [e1]
 byValue:=fun k v h=>by
  rcases keyIs_shape h with ⟨i,t,rfl,rfl⟩ | ⟨x,t,rfl,rfl⟩ <;> rfl
 pyHash:=fun hv h=>by
  rcases keyIs_shape hv with ⟨i,t,rfl,rfl⟩ | ⟨x,t,rfl,rfl⟩
  ·exact wpAny_pyHash_int h
  ·exact wpAny_pyHash_str h
 eqBool:=fun hu hv h=>by
  rcases keyIs_shape hu with ⟨i,t,rfl,rfl⟩ | ⟨x,t,rfl,rfl⟩
  ·rcases keyIs_shape hv with ⟨j,u,rfl,rfl⟩ | ⟨y,u,rfl,rfl⟩
   ·rw [key_ll] at h;exact wpAny_eqBool_int h
   ·rw [key_lr] at h;exact SeqAt.EqAt.int_str i t y u _ _ _ _ h
  ·rcases keyIs_shape hv with ⟨j,u,rfl,rfl⟩ | ⟨y,u,rfl,rfl⟩
   ·rw [key_rl] at h;exact SeqAt.EqAt.str_int x t j u _ _ _ _ h
   ·rw [key_rr] at h;exact wpAny_eqBool_str h
 «strs»:=fun k x t v h=>by
  rcases keyIs_shape h with ⟨i,u,rfl,e⟩ | ⟨y,u,rfl,e⟩
  ·exact nomatch e
  ·injection e with e1 _
   subst e1
   cases v <;> rfl
theorem mixKind_int (prog:Program) (w:World) (i:Int) (t:Tok):(mixKind prog w).is (.inl i) (.int i t)=true:=keyIs_int i t
theorem mixKind_str (prog:Program) (w:World) (x:Str) (t:Tok):(mixKind prog w).is (.inr x) (.str x t)=true:=keyIs_str x t
end L2
namespace L2
open PySem PySem.Spec PyProof.Rows
inductive V where
 | non | bl (b:Bool) | int (i:Int) | str (x:Str) | byt (b:Array UInt8) | flt (b:UInt64) | ref (a:Addr) | ty (n:String)
 deriving DecidableEq
def RelV:V→Value→Prop
 | .non,u=>u=Value.none
 | .bl b,u=>u=Value.bool b
 | .int i,u=>∃ t,u=Value.int i t
 | .str x,u=>∃ t,u=Value.str x t
 | .byt b,u=>∃ t,u=Value.bytes b t
 | .flt b,u=>∃ t,u=Value.float b t
 | .ref a,u=>u=Value.ref a
 | .ty n,u=>u=Value.type n
abbrev Vals:List V→List Value→Prop:=Paired RelV
theorem Vals.length {xs:List V} {us:List Value} (r:Vals xs us):xs.length=us.length:=Paired.length r
theorem Vals.get:∀ {xs:List V} {us:List Value} {i:Nat} {x:V},Vals xs us→xs[i]?=some x→∃ u,us[i]?=some u∧RelV x u
 | _,_,_,_,.nil,e=>by simp at e
 | _,_,0,_,.cons r _,e=>by simp at e;subst e;exact ⟨_,rfl,r⟩
 | _,_,i+1,x,.cons _ t,e=>by
  obtain ⟨u,h1,h2⟩:=Vals.get (i:=i) (x:=x) t (by simpa using e)
  exact ⟨u,by simpa using h1,h2⟩
theorem Vals.set {x:V} {u:Value} (r:RelV x u):∀ {xs:List V} {us:List Value} (i:Nat),Vals xs us→Vals (xs.set i x) (us.set i u)
 | _,_,_,.nil=>.nil
 | _,_,0,.cons _ t=>.cons r t
 | _,_,i+1,.cons q t=>.cons q (Vals.set r i t)
theorem Vals.append:∀ {xs ys:List V} {us ws:List Value},Vals xs us→Vals ys ws→Vals (xs++ys) (us++ws)
 | _,_,_,_,.nil,s=>s
 | _,_,_,_,.cons r t,s=>.cons r (Vals.append t s)
theorem Vals.take:∀ {xs:List V} {us:List Value} (n:Nat),Vals xs us→Vals (xs.take n) (us.take n)
 | _,_,0,_=>.nil
 | _,_,_+1,.nil=>.nil
 | _,_,n+1,.cons r t=>.cons r (Vals.take n t)
theorem Vals.drop:∀ {xs:List V} {us:List Value} (n:Nat),Vals xs us→Vals (xs.drop n) (us.drop n)
 | _,_,0,r=>r
 | _,_,_+1,.nil=>.nil
 | _,_,n+1,.cons _ t=>Vals.drop n t
theorem Vals.none_of:∀ {xs:List V} {us:List Value} {i:Nat},Vals xs us→xs[i]?=none→us[i]?=none:=fun {xs us i} r e=>by
 have h1:=r.length
 have h2:xs.length≤i:=List.getElem?_eq_none_iff.mp e
 exact List.getElem?_eq_none_iff.mpr (by omega)
def RelO:Option V→Option Value→Prop
 | some v,some u=>RelV v u
 | none,none=>True
 | _,_=>False
def KV {κ:Type}:List (κ × V)→List (κ × Value)→Prop:=Paired fun (p:κ × V) (q:κ × Value)=>p.1=q.1∧RelV p.2 q.2
def kV:Key→V
 | .inl i=>.int i
 | .inr x=>.str x
inductive HO where
 | lst (xs:List V)
 | tup (xs:List V)
 | dK (kvs:List (Key × V)) | dT (kvs:List (List Key × V))
 | set (S:Int→Bool) (n:Nat)
 | ins (C dx:Addr) (fs:List (Str × V))
 | own (x:Addr)
 | xd (fs:List (Str × V))
 | met (f x:Addr)
 | rng (lo hi:Int)
 | frz (o:Obj) (u:HO)
 | tbl (ps:Array Value)
 | ext (φ:Heap→Prop)
abbrev Hp:=Addr→Option HO
def upd (H:Hp) (a:Addr) (o:HO):Hp:=fun b=>if b=a then some o else H b
theorem upd_same {H:Hp} {a:Addr} {o:HO}:upd H a o a=some o:=by unfold upd;rw [if_pos rfl]
theorem upd_ne {H:Hp} {a b:Addr} {o:HO} (h:b≠a):upd H a o b=H b:=by unfold upd;rw [if_neg h]
theorem upd_upd {H:Hp} {a:Addr} {o u:HO}:upd (upd H a o) a u=upd H a u:=by
 funext b;unfold upd;split <;> rfl
theorem ne_of {H:Hp} {a b:Addr} {o u:HO} (h:H a=some o) (h':H b=some u) (d:o≠u):a≠b:=by
 intro e;subst e;rw [h] at h';exact d (Option.some.inj h')
theorem ne_of_none {H:Hp} {a b:Addr} {o:HO} (h:H a=some o) (h':H b=none):a≠b:=by
 intro e;subst e;rw [h] at h';cases h'
section
variable (P:Program) (w:World)
def ObjOk (H:Hp) (h:Heap) (a:Addr):HO→Prop
 | .lst xs=>xs.length≤sizeLine∧∃ (its:List Value) (n:Nat),Vals xs its∧h.get? a=some { cls:=.type "list",data:=.seq its.toArray n }
 | .tup xs=>xs.length≤sizeLine∧∃ its:List Value,Vals xs its∧IsTup h a its.toArray
 | .dK kvs=>kvs.length≤sizeLine∧(a == sysModules)=false∧∃ vs,KV kvs vs∧h.DictOf (mixKind P w) a vs
 | .dT kvs=>kvs.length≤sizeLine∧(a == sysModules)=false∧∃ xs:List (List Key × Addr × Value),
   Paired (fun (p:List Key × V) (q:List Key × Addr × Value)=>p.1=q.1∧H q.2.1=some (.tup (p.1.map kV))∧RelV p.2 q.2.2) kvs xs∧
   ∃ o es ep,h.get? a=some o∧o.ExactDict∧o.data=.dict es ep∧es.toList=xs.map (entryOfKey (tupleKind (mixKind P w)))∧(xs.map (·.1)).Nodup
 | .set S n=>h.SetOf (intKind P w) a S n
 | .ins C dx fs=>H dx=some (.own a)∧fs.length≤1000∧dx≠a∧h.get? a=some (W.instObj C dx)∧
   ∃ mA,h.Ns1 dx mA∧(∀ f,RelO (fs.lookup f) (mA f))∧PySem.Within mA (fs.map (·.1))
 | .own _=>∃ o,h.get? a=some o
 | .xd fs=>∃ mA,h.Ns1 a mA∧∀ f,RelO (fs.lookup f) (mA f)
 | .rng lo hi=>∃ t u v,h.get? a=some { cls:=.type "range",data:=.fields #[.int lo t,.int hi u,.int 1 v] }
 | .frz o u=>h.get? a=some o∧ObjOk H h a u
 | .tbl ps=>h.get? a=some { cls:=.none,data:=.fields ps }
 | .met f x=>h.get? a=some (W.methodObj (.ref f) (.ref x))
 | .ext φ=>φ h∧(∃ o,h.get? a=some o)∧∀ h1 h2:Heap,φ h1→(∀ o,h1.get? a=some o→h2.get? a=some o)→φ h2
def HOk (H:Hp) (h:Heap):Prop:=∀ a o,H a=some o→ObjOk P w H h a o
end
section
variable {P:Program} {w:World} {H H':Hp} {h h':Heap} {a:Addr} {o:HO}
theorem ObjOk.lt (x:ObjOk P w H h a o):a < h.objs.size:=by
 cases o with
 | lst xs=>obtain ⟨_,_,_,_,e⟩:=x;exact Heap.lt_size e
 | tup xs=>obtain ⟨_,_,_,p⟩:=x;exact p.lt
 | dK kvs=>obtain ⟨_,_,_,_,o,_,_,e,_⟩:=x;exact Heap.lt_size e
 | dT kvs=>obtain ⟨_,_,_,_,o,_,_,e,_⟩:=x;exact Heap.lt_size e
 | set S n=>obtain ⟨o,_,_,_,e,_⟩:=x;exact Heap.lt_size e
 | ins C dx fs=>obtain ⟨_,_,_,e,_⟩:=x;exact Heap.lt_size e
 | own y=>obtain ⟨_,e⟩:=x;exact Heap.lt_size e
 | xd fs=>obtain ⟨_,⟨_,_,_,e,_⟩,_⟩:=x;exact Heap.lt_size e
 | rng lo hi=>obtain ⟨_,_,_,e⟩:=x;exact Heap.lt_size e
 | frz ob u=>obtain ⟨e,_⟩:=x;exact Heap.lt_size e
 | tbl ps=>exact Heap.lt_size (show h.get? a=some _ from x)
 | met f y=>exact Heap.lt_size (show h.get? a=some _ from x)
 | ext φ=>obtain ⟨_,⟨_,e⟩,_⟩:=x;exact Heap.lt_size e
theorem Paired.mapP {α β:Type} {F G:α→β→Prop}:∀ {l₁:List α} {l₂:List β},Paired F l₁ l₂→(∀ a b,F a b→G a b)→Paired G l₁ l₂
 | _,_,.nil,_=>.nil
 | _,_,.cons r t,f=>.cons (f _ _ r) (Paired.mapP t f)
theorem ObjOk.stay (x:ObjOk P w H h a o) (k:∀ b u,(b=a∨H b=some (.own a))→h.get? b=some u→h'.get? b=some u)
  (ho:∀ b,H b=some (.own a)→H' b=some (.own a)) (ht:∀ b xs,H b=some (.tup xs)→H' b=some (.tup xs)):ObjOk P w H' h' a o:=by
 induction o with
 | lst xs=>obtain ⟨z,its,n,r,e⟩:=x;exact ⟨z,its,n,r,k _ _ (.inl rfl) e⟩
 | tup xs=>obtain ⟨z,its,r,ob,e,c⟩:=x;exact ⟨z,its,r,ob,k _ _ (.inl rfl) e,c⟩
 | dK kvs=>obtain ⟨z,y,vs,r,ob,es,ep,e,c⟩:=x;exact ⟨z,y,vs,r,ob,es,ep,k _ _ (.inl rfl) e,c⟩
 | dT kvs=>
  obtain ⟨z,y,xs,r,ob,es,ep,e,c⟩:=x
  exact ⟨z,y,xs,Paired.mapP r fun p q z=>⟨z.1,ht _ _ z.2.1,z.2.2⟩,ob,es,ep,k _ _ (.inl rfl) e,c⟩
 | set S n=>obtain ⟨ob,es,ep,t,e,c⟩:=x;exact ⟨ob,es,ep,t,k _ _ (.inl rfl) e,c⟩
 | ins C dx fs=>
  obtain ⟨d,z,ne,e,mA,⟨od,es,ep,e2,c⟩,r⟩:=x
  exact ⟨ho _ d,z,ne,k _ _ (.inl rfl) e,mA,⟨od,es,ep,k _ _ (.inr d) e2,c⟩,r⟩
 | own y=>obtain ⟨ob,e⟩:=x;exact ⟨ob,k _ _ (.inl rfl) e⟩
 | xd fs=>obtain ⟨mA,⟨od,es,ep,e,c⟩,r⟩:=x;exact ⟨mA,⟨od,es,ep,k _ _ (.inl rfl) e,c⟩,r⟩
 | rng lo hi=>obtain ⟨t,u,v,e⟩:=x;exact ⟨t,u,v,k _ _ (.inl rfl) e⟩
 | frz ob u ih=>obtain ⟨e,q⟩:=x;exact ⟨k _ _ (.inl rfl) e,ih q⟩
 | tbl ps=>
  have e:h.get? a=some { cls:=.none,data:=.fields ps }:=x
  show h'.get? a=some { cls:=.none,data:=.fields ps }
  exact k a _ (.inl rfl) e
 | met f y=>
  have e:h.get? a=some (W.methodObj (.ref f) (.ref y)):=x
  show h'.get? a=some (W.methodObj (.ref f) (.ref y))
  exact k a _ (.inl rfl) e
 | ext φ=>obtain ⟨p,⟨o,e⟩,st⟩:=x;exact ⟨st _ _ p fun o q=>k _ _ (.inl rfl) q,⟨o,k _ _ (.inl rfl) e⟩,st⟩
theorem HOk.lt (x:HOk P w H h) (e:H a=some o):a < h.objs.size:=(x a o e).lt
theorem HOk.fresh (x:HOk P w H h) (e:h.objs.size≤a):H a=none:=by
 cases q:H a with
 | none=>rfl
 | some u=>exact absurd (Nat.lt_of_lt_of_le (x.lt q) e) (Nat.lt_irrefl _)
theorem HOk.kept (x:HOk P w H h) (k:∀ b u,h.get? b=some u→h'.get? b=some u):HOk P w H h':=fun a o e=>
 (x a o e).stay (fun b u _ q=>k b u q) (fun _ q=>q) fun _ _ q=>q
theorem HOk.laid (x:HOk P w H h) (k:∀ b u,h.get? b=some u→h'.get? b=some u) (hp:h.objs.size≤a) (new:ObjOk P w (upd H a o) h' a o):HOk P w (upd H a o) h':=fun b u e=>by
 have hn:=x.fresh hp
 by_cases hb:b=a
 ·subst hb;rw [upd_same] at e;cases e;exact new
 ·rw [upd_ne hb] at e
  exact (x b u e).stay (fun c v _ q=>k c v q) (fun c q=>by rw [upd_ne (ne_of_none q hn)];exact q) fun c xs q=>by rw [upd_ne (ne_of_none q hn)];exact q
end
def Rd (H:Hp) (a:Addr) (u:HO):Prop:=H a=some u∨∃ o,H a=some (.frz o u)
theorem Rd.ok {P:Program} {w:World} {H:Hp} {h:Heap} {a:Addr} {u:HO} (r:Rd H a u) (x:HOk P w H h):ObjOk P w H h a u:=by
 rcases r with r | ⟨o,r⟩
 ·exact x a u r
 ·obtain ⟨_,q⟩:=x a _ r
  exact q
def Mut:Option HO→Prop
 | some (.lst _)=>True
 | some (.dK _)=>True
 | some (.dT _)=>True
 | some (.set _ _)=>True
 | some (.ins _ _ _)=>True
 | some (.ext _)=>True
 | _=>False
section
variable {P:Program} {w:World} {H:Hp} {h h':Heap} {x e:Addr} {o':HO}
theorem HOk.write (ok:HOk P w H h) (mu:Mut (H x)) (he:e=x∨H e=some (.own x)) (k:∀ b u,b≠e→h.get? b=some u→h'.get? b=some u) (heo:∃ u,h'.get? e=some u)
  (new:ObjOk P w (upd H x o') h' x o'):HOk P w (upd H x o') h':=fun b u q=>by
 have nown:∀ c y,H c=some (.own y)→c≠x:=fun c y r z=>by subst z;rw [r] at mu;exact mu
 have ntup:∀ c xs,H c=some (.tup xs)→c≠x:=fun c xs r z=>by subst z;rw [r] at mu;exact mu
 by_cases hb:b=x
 ·subst hb;rw [upd_same] at q;cases q;exact new
 ·rw [upd_ne hb] at q
  by_cases hbe:b=e
  ·have q':H b=some (.own x):=by
    rcases he with z | z
    ·exact absurd (hbe.trans z) hb
    ·rw [hbe];exact z
   rw [q] at q';cases q'
   obtain ⟨v,hv⟩:=heo
   exact ⟨v,by rw [hbe];exact hv⟩
  ·refine (ok b u q).stay (fun c v hc r=>k c v ?_ r) (fun c r=>by rw [upd_ne (nown c b r)];exact r) fun c xs r=>by rw [upd_ne (ntup c xs r)];exact r
   rcases hc with rfl | hc
   ·exact hbe
   ·rintro rfl
    rcases he with z | z
    ·exact nown c b hc z
    ·rw [hc] at z;cases z;exact hb rfl
end
structure Un (fs ex:List Addr) (H H':Hp) (h h':Heap):Prop where
 keep:∀ b o,h.get? b=some o→H b=none→b ∉ fs→b ∉ ex→h'.get? b=some o
 slot:∀ b o,h.get? b=some o→H b=none→b∈fs→b ∉ ex→∃ sl,h'.get? b=some { o with slots:=sl }
 free:∀ b o,h.get? b=some o→H b=none→b ∉ ex→H' b=none
 there:∀ b o,h.get? b=some o→b ∉ ex→∃ o',h'.get? b=some o'
 tups:∀ b xs,H b=some (.tup xs)→H' b=some (.tup xs)
 frzs:∀ b o u,H b=some (.frz o u)→H' b=some (.frz o u)
 tbls:∀ b ps,H b=some (.tbl ps)→∃ more,H' b=some (.tbl (ps++more))
section
variable {fs fs' ex ex':List Addr} {H H1 H2:Hp} {h h1 h2 h':Heap} {a x e:Addr} {o:HO}
theorem Un.any (u:Un fs ex H H1 h h1) {b:Addr} {ob:Obj} (q:h.get? b=some ob) (n:H b=none) (hx:b ∉ ex):∃ sl,h1.get? b=some { ob with slots:=sl }:=by
 by_cases hb:b∈fs
 ·exact u.slot b ob q n hb hx
 ·exact ⟨ob.slots,u.keep b ob q n hb hx⟩
theorem Un.kept (k:∀ b u,h.get? b=some u→h'.get? b=some u):Un fs ex H H h h':=
 ⟨fun b ob q _ _ _=>k b ob q,fun b ob q _ _ _=>⟨ob.slots,k b ob q⟩,fun _ _ _ n _=>n,fun b ob q _=>⟨ob,k b ob q⟩,fun _ _ q=>q,fun _ _ _ q=>q,fun _ ps q=>⟨#[],by rw [q];simp⟩⟩
theorem Un.refl:Un fs ex H H h h:=Un.kept fun _ _ q=>q
theorem Un.laid (k:∀ b u,h.get? b=some u→h'.get? b=some u) (hp:h.objs.size≤a) (hn:H a=none):Un fs ex H (upd H a o) h h' where
 keep:=fun b u q _ _ _=>k b u q
 slot:=fun b u q _ _ _=>⟨u.slots,k b u q⟩
 free:=fun b u q n _=>by rw [upd_ne (Nat.ne_of_lt (Nat.lt_of_lt_of_le (Heap.lt_size q) hp))];exact n
 there:=fun b u q _=>⟨u,k b u q⟩
 tups:=fun b xs q=>by rw [upd_ne (ne_of_none q hn)];exact q
 frzs:=fun b u xs q=>by rw [upd_ne (ne_of_none q hn)];exact q
 tbls:=fun b ps q=>⟨#[],by rw [upd_ne (ne_of_none q hn),q];simp⟩
theorem Un.write (mu:Mut (H x)) (he:e=x∨H e=some (.own x)) (k:∀ b u,b≠e→h.get? b=some u→h'.get? b=some u) (heo:∃ u,h'.get? e=some u):Un fs ex H (upd H x o) h h':=by
 have hx:∀ b,H b=none→b≠x:=fun b n z=>by subst z;rw [n] at mu;exact mu
 have hb:∀ b,H b=none→b≠e:=fun b n z=>by
  subst z
  rcases he with r | r
  ·exact hx b n r
  ·rw [n] at r;cases r
 have hm:∀ b u,H b=some u→¬ Mut (some u)→b≠x:=fun b u q nm z=>by subst z;rw [q] at mu;exact nm mu
 refine ⟨fun b u q n _ _=>k b u (hb b n) q,fun b u q n _ _=>⟨u.slots,k b u (hb b n) q⟩,fun b u q n _=>by rw [upd_ne (hx b n)];exact n,fun b u q _=>?_,
  fun b xs q=>by rw [upd_ne (hm b _ q fun z=>z)];exact q,fun b u xs q=>by rw [upd_ne (hm b _ q fun z=>z)];exact q,fun b ps q=>⟨#[],by rw [upd_ne (hm b _ q fun z=>z),q];simp⟩⟩
 by_cases hbe:b=e
 ·subst hbe;exact heo
 ·exact ⟨u,k b u hbe q⟩
end
def trk (h:Heap) (H:Hp):List Addr:=(List.range h.objs.size).filter fun a=>(H a).isSome
def hidT (h:Heap) (H:Hp):Heap:=W.hideAll h (trk h H)
theorem hidT_size (h:Heap) (H:Hp):(hidT h H).objs.size=h.objs.size:=W.hideAll_size _ _
theorem hidT_get {h:Heap} {H:Hp} {b:Addr} {o:Obj} (e:h.get? b=some o) (n:H b=none):(hidT h H).get? b=some o:=
 W.hideAll_get _ e fun hm=>by
  have q:(H b).isSome=true:=(List.mem_filter.mp hm).2
  rw [n] at q;simp at q
theorem of_hidT {h:Heap} {H:Hp} {b:Addr} {o:Obj} (e:(hidT h H).get? b=some o):h.get? b=some o∧H b=none:=by
 have e':h.get? b=some o:=W.of_hideAll (trk h H) e
 refine ⟨e',?_⟩
 cases q:H b with
 | none=>rfl
 | some x=>
  have hm:b∈trk h H:=List.mem_filter.mpr ⟨List.mem_range.mpr (Heap.lt_size e'),by simp [q]⟩
  have z:(hidT h H).get? b=none:=W.hideAll_none (trk h H) hm
  rw [z] at e;cases e
end L2
namespace L2
open PySem PySem.Spec PyProof.Rows
structure Mod (K:W.Frag) (mg:Str→Option Value) (base:Heap):Prop where
 kin:K.In base
 glob:base.Ns mainGlobals mg
 blt:∃ mb,base.Ns builtinsNs mb∧∀ x:Str,x ≠ "__name__" → mb x=bootBuiltins x
 nolimit:base.NoLimit
structure Cx where
 prog:Program
 w:World
 K:W.Frag
 mg:Str→Option Value
 base:Heap
 A:Around
 N:List Str
 s₀:Shared
 H₀:Hp
 env:Env
 outer:List Env
 stack:List Env
 ex:List Addr
 fn:Str→Bool
 calm:Bool
 pn:List (Addr × Obj)
 xe:Value→Shared→Prop
def frs (l:List Env):List Addr:=l.filterMap (·.frame)
abbrev Cx.fs (X:Cx):List Addr:=frs X.outer
def Vis (sc:Scope) (x:Str):Prop:=sc.names.lookup x=some .local∨sc.names.lookup x=some .cell∨sc.names.lookup x=some .free
def Loc (sc:Scope) (x:Str):Prop:=sc.names.lookup x=some .local∨sc.names.lookup x=some .cell
def Look (env:Env) (h:Heap) (m:Str→Option Value) (x:Str) (u:Value):Prop:=
 (env.kindOf x=some .local∧m x=some u)∨((env.kindOf x=some .cell∨env.kindOf x=some .free)∧∃ c,env.cells.lookup x=some c∧h.IsCell c (some u))
structure Cx.Ok (X:Cx):Prop where
 mod:Mod X.K X.mg X.base
 kind:X.env.scope.kind=.function
 glob:X.env.globals=mainGlobals
 blt:X.env.builtins=builtinsNs
 above:X.s₀.heap.objs.size≤X.env.locals
 inj:∀ x y c,X.env.cells.lookup x=some c→X.env.cells.lookup y=some c→x=y
 has:∀ x,(X.env.kindOf x=some .cell∨X.env.kindOf x=some .free)→∃ c,X.env.cells.lookup x=some c
 cab:∀ x c,X.fn x=true→X.env.cells.lookup x=some c→X.s₀.heap.objs.size≤c
 hd:X.calm=true→X.A.handled=none
 frames:X.A.frames=some X.stack
 stk:X.stack=X.outer∨(X.stack=X.env::X.outer∧X.env.frame=some X.env.locals)
 exf:∀ b∈X.ex,b≠X.env.locals∧∀ x c,X.env.cells.lookup x=some c→c≠b
 bs:∀ b o,X.base.get? b=some o→X.s₀.heap.get? b=some o∧X.H₀ b=none
 bsz:X.base.objs.size≤X.s₀.heap.objs.size
 noex:∀ b o,X.base.get? b=some o→b ∉ X.ex
 exfs:∀ b∈X.ex,b ∉ X.fs
 funs:X.s₀.heap.FunFrames X.base X.outer
 frf:∀ b∈X.fs,X.H₀ b=none
structure Inv (X:Cx) (pins:List (Addr × Obj)) (σ:List (Option V)) (H:Hp) (s:Shared):Prop where
 ok:X.Ok
 os:s.os=X.s₀.os
 bare:AllBare s.gens
 base:Un X.fs X.ex X.H₀ H X.s₀.heap s.heap
 loc:∃ m,s.heap.Ns X.env.locals m∧∀ (i:Nat) (x:Str) (v:V),X.N[i]?=some x→σ[i]?=some (some v)→Vis X.env.scope x→∃ u,RelV v u∧Look X.env s.heap m x u
 cell:∀ x c,X.env.cells.lookup x=some c→∃ v,s.heap.IsCell c v
 free:H X.env.locals=none
 freeC:∀ x c,X.env.cells.lookup x=some c→H c=none
 pin:∀ p∈X.pn++pins,s.heap.get? p.1=some p.2∧H p.1=none∧p.1≠X.env.locals∧p.1 ∉ X.fs∧∀ v,p.2.data≠.cell v
 hok:HOk X.prog X.w H s.heap
 len:σ.length=X.N.length
section
variable {X:Cx} {pins:List (Addr × Obj)} {σ:List (Option V)} {H H':Hp} {s:Shared} {h':Heap}
theorem Cx.Ok.nofr (ok:X.Ok) {b:Addr} {o:Obj} (e:X.base.get? b=some o):b ∉ X.fs:=fun hb=>by
 have:=(ok.funs.mem hb).1
 rw [e] at this;cases this
theorem Inv.bs (I:Inv X pins σ H s):∀ b o,X.base.get? b=some o→s.heap.get? b=some o∧H b=none:=fun b o e=>
 ⟨I.base.keep b o (I.ok.bs b o e).1 (I.ok.bs b o e).2 (I.ok.nofr e) (I.ok.noex b o e),I.base.free b o (I.ok.bs b o e).1 (I.ok.bs b o e).2 (I.ok.noex b o e)⟩
theorem Inv.bk (I:Inv X pins σ H s):∀ b o,X.base.get? b=some o→s.heap.get? b=some o:=fun b o e=>(I.bs b o e).1
theorem Inv.mod (I:Inv X pins σ H s):Mod X.K X.mg X.base:=I.ok.mod
theorem Inv.kIn (I:Inv X pins σ H s):X.K.In s.heap:=I.ok.mod.kin.keeps I.bk
theorem Inv.fr (I:Inv X pins σ H s):∃ m,Fr X.base X.env.locals s.heap m:=
 let ⟨m,hn,_⟩:=I.loc
 ⟨m,hn,I.bk,Nat.le_trans I.ok.bsz I.ok.above⟩
theorem Inv.lt (I:Inv X pins σ H s):X.env.locals < s.heap.objs.size:=let ⟨_,hn,_⟩:=I.loc;hn.lt
theorem Inv.sz (I:Inv X pins σ H s):X.s₀.heap.objs.size≤s.heap.objs.size:=Nat.le_trans I.ok.above (Nat.le_of_lt I.lt)
theorem Inv.nofs (I:Inv X pins σ H s) {a:Addr} (h:s.heap.objs.size≤a):a ∉ X.fs:=fun hb=>by
 obtain ⟨_,o,ho,_⟩:=I.ok.funs.mem hb
 exact absurd (Nat.lt_of_lt_of_le (Heap.lt_size ho) (Nat.le_trans I.sz h)) (Nat.lt_irrefl _)
theorem Inv.cne (I:Inv X pins σ H s):∀ x c,X.env.cells.lookup x=some c→c≠X.env.locals:=fun x c e z=>by
 obtain ⟨v,o,ho,hd⟩:=I.cell x c e
 obtain ⟨m,⟨o',es,ep,ho',hd',_⟩,_⟩:=I.loc
 rw [z,ho'] at ho;cases ho;rw [hd'] at hd;cases hd
theorem Inv.funs (I:Inv X pins σ H s):s.heap.FunFrames X.base X.outer:=by
 have all:∀ (l:List Env),(∀ b∈frs l,b∈X.fs)→X.s₀.heap.FunFrames X.base l→s.heap.FunFrames X.base l:=by
  intro l
  induction l with
  | nil=>intro _ _;trivial
  | cons env r ih=>
   intro hs hl
   obtain ⟨hk,⟨L,o,hf,hn,ho,hd⟩,hr⟩:=hl
   have hL:L∈X.fs:=hs L (by unfold frs;rw [List.filterMap_cons,hf];exact List.mem_cons_self)
   obtain ⟨sl,e⟩:=I.base.slot L o ho (I.ok.frf L hL) hL fun z=>I.ok.exfs L z hL
   exact ⟨hk,⟨L,_,hf,hn,e,hd⟩,ih (fun b hb=>hs b (by unfold frs;rw [List.filterMap_cons,hf];exact List.mem_cons_of_mem _ hb)) hr⟩
 exact all X.outer (fun _ hb=>hb) I.ok.funs
theorem Inv.stack (I:Inv X pins σ H s):s.heap.FunFrames X.base X.stack:=by
 rcases I.ok.stk with e | ⟨e,hf⟩
 ·rw [e];exact I.funs
 ·rw [e]
  obtain ⟨m,hn,_⟩:=I.loc
  refine .cons (by rw [I.ok.kind];decide) hf hn ?_ I.funs
  exact Heap.get?_none_of_le (Nat.le_trans I.ok.bsz I.ok.above)
theorem Inv.stkSub (I:Inv X pins σ H s):∀ b∈frs X.stack,b∈X.env.locals::X.fs:=fun b hb=>by
 rcases I.ok.stk with e | ⟨e,hf⟩
 ·rw [e] at hb;exact List.mem_cons_of_mem _ hb
 ·rw [e] at hb
  unfold frs at hb
  rw [List.filterMap_cons,hf] at hb
  exact hb
theorem Inv.stkFree (I:Inv X pins σ H s):∀ b∈frs X.stack,H b=none:=fun b hb=>by
 rcases List.mem_cons.mp (I.stkSub b hb) with e | hb
 ·rw [e];exact I.free
 ·obtain ⟨_,o,ho,_⟩:=I.ok.funs.mem hb
  exact I.base.free b o ho (I.ok.frf b hb) fun z=>I.ok.exfs b z hb
theorem Inv.step {g':Array GenState} {t':Nat} {d':Drawn} {ch:List Addr} (I:Inv X pins σ H s)
  (hch:∀ b∈ch,(b∈X.ex∨X.s₀.heap.objs.size≤b)∧b≠X.env.locals∧(∀ x c,X.env.cells.lookup x=some c→c≠b)∧∀ p∈X.pn++pins,p.1≠b)
  (keep:∀ b o,b≠X.env.locals→b ∉ X.fs→b ∉ ch→s.heap.get? b=some o→H b=none→h'.get? b=some o)
  (slot:∀ b o,b≠X.env.locals→b∈X.fs→b ∉ ch→s.heap.get? b=some o→H b=none→∃ sl,h'.get? b=some { o with slots:=sl }) (free:∀ b o,b ∉ ch→s.heap.get? b=some o→H b=none→H' b=none)
  (there:∀ b o,b ∉ ch→s.heap.get? b=some o→∃ o',h'.get? b=some o')
  (tups:∀ b xs,H b=some (.tup xs)→H' b=some (.tup xs)) (frzs:∀ b o u,H b=some (.frz o u)→H' b=some (.frz o u)) (tbls:∀ b ps,H b=some (.tbl ps)→∃ more,H' b=some (.tbl (ps++more)))
  (ns:∀ m,s.heap.Ns X.env.locals m→h'.Ns X.env.locals m) (hok:HOk X.prog X.w H' h') (hg:AllBare g') :
  Inv X pins σ H' { s with heap:=h',gens:=g',drawn:=d',toks:=t' }:=by
 have neL:∀ b o,X.s₀.heap.get? b=some o→b≠X.env.locals:=fun b o e=>Nat.ne_of_lt (Nat.lt_of_lt_of_le (Heap.lt_size e) I.ok.above)
 have neC:∀ b o,X.s₀.heap.get? b=some o→b ∉ X.ex→b ∉ ch:=fun b o e hx hb=>by
  rcases (hch b hb).1 with z | z
  ·exact hx z
  ·exact absurd (Nat.lt_of_lt_of_le (Heap.lt_size e) z) (Nat.lt_irrefl _)
 have cellK:∀ x c,X.env.cells.lookup x=some c→∀ v,s.heap.IsCell c v→h'.IsCell c v:=fun x c e v ⟨o,ho,hd⟩=>by
  have nch:c ∉ ch:=fun z=>(hch c z).2.2.1 x c e rfl
  by_cases hc:c∈X.fs
  ·obtain ⟨sl,q⟩:=slot c o (I.cne x c e) hc nch ho (I.freeC x c e)
   exact ⟨_,q,hd⟩
  ·exact ⟨o,keep c o (I.cne x c e) hc nch ho (I.freeC x c e),hd⟩
 refine ⟨I.ok,I.os,hg,⟨fun b o e n hb hx=>?_,fun b o e n hb hx=>?_,fun b o e n hx=>?_,fun b o e hx=>?_,fun b xs e=>tups b xs (I.base.tups b xs e),fun b o xs e=>frzs b o xs (I.base.frzs b o xs e),fun b ps e=>?_⟩,?_,fun x c e=>?_,?_,fun x c e=>?_,fun p hp=>?_,hok,I.len⟩
 ·exact keep b o (neL b o e) hb (neC b o e hx) (I.base.keep b o e n hb hx) (I.base.free b o e n hx)
 ·obtain ⟨sl,e1⟩:=I.base.slot b o e n hb hx
  obtain ⟨sl',e2⟩:=slot b _ (neL b o e) hb (neC b o e hx) e1 (I.base.free b o e n hx)
  exact ⟨sl',e2⟩
 ·obtain ⟨o',e1⟩:=I.base.there b o e hx
  exact free b o' (neC b o e hx) e1 (I.base.free b o e n hx)
 ·obtain ⟨o',e1⟩:=I.base.there b o e hx
  exact there b o' (neC b o e hx) e1
 ·obtain ⟨m1,e1⟩:=I.base.tbls b ps e
  obtain ⟨m2,e2⟩:=tbls b _ e1
  exact ⟨m1++m2,by rw [e2,Array.append_assoc]⟩
 ·obtain ⟨m,hn,hl⟩:=I.loc
  refine ⟨m,ns m hn,fun i x v e1 e2 e3=>?_⟩
  obtain ⟨u,r,l⟩:=hl i x v e1 e2 e3
  refine ⟨u,r,?_⟩
  rcases l with l | ⟨k,c,e,z⟩
  ·exact .inl l
  ·exact .inr ⟨k,c,e,cellK x c e _ z⟩
 ·obtain ⟨v,z⟩:=I.cell x c e
  exact ⟨v,cellK x c e v z⟩
 ·obtain ⟨m,⟨o,_,_,ho,_⟩,_⟩:=I.loc
  exact free _ o (fun z=>(hch _ z).2.1 rfl) ho I.free
 ·obtain ⟨v,o,ho,hd⟩:=I.cell x c e
  exact free c o (fun z=>(hch c z).2.2.1 x c e rfl) ho (I.freeC x c e)
 ·obtain ⟨e,n,ne,nf,d⟩:=I.pin p hp
  have nch:p.1 ∉ ch:=fun z=>(hch p.1 z).2.2.2 p hp rfl
  exact ⟨keep p.1 p.2 ne nf nch e n,free p.1 p.2 nch e n,ne,nf,d⟩
theorem Inv.un {t':Nat} (I:Inv X pins σ H s) (u:Un X.fs [] H H' s.heap h') (hok:HOk X.prog X.w H' h'):Inv X pins σ H' { s with heap:=h',toks:=t' }:=by
 obtain ⟨m,⟨o,es,ep,ho,r⟩,_⟩:=id I.loc
 obtain ⟨sl,hL⟩:=u.any ho I.free (by simp)
 exact I.step (g':=s.gens) (d':=s.drawn) (ch:=[]) (fun _ z=>nomatch z) (fun b o _ hb _ e n=>u.keep b o e n hb (by simp)) (fun b o _ hb _ e n=>u.slot b o e n hb (by simp)) (fun b o _ e n=>u.free b o e n (by simp)) (fun b o _ e=>u.there b o e (by simp)) u.tups u.frzs u.tbls (fun m' hm=>by
  obtain ⟨o',es',ep',ho',r'⟩:=hm
  rw [ho] at ho';cases ho'
  exact ⟨_,es',ep',hL,r'⟩) hok I.bare
theorem Inv.call {g':Array GenState} {t':Nat} {d':Drawn} {ch:List Addr} (I:Inv X pins σ H s) (u:Un (frs X.stack) ch H H' s.heap h') (hok:HOk X.prog X.w H' h') (hg:AllBare g')
  (hch:∀ b∈ch,(b∈X.ex∨X.s₀.heap.objs.size≤b)∧b≠X.env.locals∧(∀ x c,X.env.cells.lookup x=some c→c≠b)∧∀ p∈X.pn++pins,p.1≠b) :
  Inv X pins σ H' { s with heap:=h',gens:=g',drawn:=d',toks:=t' }:=by
 obtain ⟨m,⟨o,es,ep,ho,r⟩,_⟩:=id I.loc
 obtain ⟨sl,hL⟩:=u.any ho I.free fun z=>(hch _ z).2.1 rfl
 exact I.step (ch:=ch) hch (fun b o hL hb hc e n=>u.keep b o e n (fun z=>(List.mem_cons.mp (I.stkSub b z)).elim hL hb) hc) (fun b o _ _ hc e n=>u.any e n hc) (fun b o hc e n=>u.free b o e n hc) (fun b o hc e=>u.there b o e hc) u.tups u.frzs u.tbls (fun m' hm=>by
  obtain ⟨o',es',ep',ho',r'⟩:=hm
  rw [ho] at ho';cases ho'
  exact ⟨_,es',ep',hL,r'⟩) hok hg
theorem Inv.turned {t':Nat} {it:Addr} (I:Inv X pins σ H s) (k:∀ b o,b≠it→s.heap.get? b=some o→h'.get? b=some o) (hn:H it=none) (hL:it≠X.env.locals)
  (h1:it∈X.ex∨X.s₀.heap.objs.size≤it) (h2:∀ x c,X.env.cells.lookup x=some c→c≠it) (h3:∀ p∈X.pn++pins,p.1≠it):Inv X pins σ H { s with heap:=h',toks:=t' }:=by
 have nit:∀ b u,H b=some u→b≠it:=fun b u e z=>by rw [z,hn] at e;cases e
 refine I.step (g':=s.gens) (d':=s.drawn) (ch:=[it]) (fun b hb=>?_) (fun b o _ _ hc e _=>k b o (fun z=>hc (by simp [z])) e) (fun b o _ _ hc e _=>⟨o.slots,k b o (fun z=>hc (by simp [z])) e⟩) (fun _ _ _ _ n=>n)
  (fun b o hc e=>⟨o,k b o (fun z=>hc (by simp [z])) e⟩) (fun _ _ e=>e) (fun _ _ _ e=>e) (fun b ps e=>⟨#[],by rw [e];simp⟩) (fun m hm=>?_) (fun b u e=>?_) I.bare
 ·have e:b=it:=by simpa using hb
  subst e
  exact ⟨h1,hL,h2,h3⟩
 ·obtain ⟨o,es,ep,ho,r⟩:=hm
  exact ⟨o,es,ep,k _ o (Ne.symm hL) ho,r⟩
 ·refine (I.hok b u e).stay (fun c v hc q=>k c v ?_ q) (fun _ q=>q) fun _ _ q=>q
  rcases hc with z | z
  ·rw [z];exact nit b u e
  ·exact nit c _ z
theorem Inv.tok (I:Inv X pins σ H s) (t:Nat):Inv X pins σ H { s with toks:=t }:=I.un (h':=s.heap) (t':=t) Un.refl I.hok
theorem Inv.kept {t':Nat} (I:Inv X pins σ H s) (k:∀ b u,s.heap.get? b=some u→h'.get? b=some u):Inv X pins σ H { s with heap:=h',toks:=t' }:=I.un (Un.kept k) (I.hok.kept k)
theorem Inv.laid {a:Addr} {o:HO} {t':Nat} (I:Inv X pins σ H s) (k:∀ b u,s.heap.get? b=some u→h'.get? b=some u) (hp:s.heap.objs.size≤a) (new:ObjOk X.prog X.w (upd H a o) h' a o) :
  Inv X pins σ (upd H a o) { s with heap:=h',toks:=t' }:=I.un (Un.laid k hp (I.hok.fresh hp)) (I.hok.laid k hp new)
theorem Inv.write {x e:Addr} {o:HO} {t':Nat} (I:Inv X pins σ H s) (mu:Mut (H x)) (he:e=x∨H e=some (.own x)) (k:∀ b u,b≠e→s.heap.get? b=some u→h'.get? b=some u) (heo:∃ u,h'.get? e=some u)
  (new:ObjOk X.prog X.w (upd H x o) h' x o):Inv X pins σ (upd H x o) { s with heap:=h',toks:=t' }:=I.un (Un.write mu he k heo) (I.hok.write mu he k heo new)
theorem Inv.weak {σ':List (Option V)} (I:Inv X pins σ H s) (hl:σ'.length=σ.length) (w:∀ (i:Nat) v,σ'[i]?=some (some v)→σ[i]?=some (some v)):Inv X pins σ' H s:=
 ⟨I.ok,I.os,I.bare,I.base,let ⟨m,hn,hl'⟩:=I.loc;⟨m,hn,fun i x v e1 e2 e3=>hl' i x v e1 (w i v e2) e3⟩,I.cell,I.free,I.freeC,I.pin,I.hok,hl.trans I.len⟩
theorem Inv.pins_of {pins':List (Addr × Obj)} (I:Inv X pins σ H s) (h:∀ p∈pins',s.heap.get? p.1=some p.2∧H p.1=none∧p.1≠X.env.locals∧p.1 ∉ X.fs∧∀ v,p.2.data≠.cell v):Inv X pins' σ H s:=
 ⟨I.ok,I.os,I.bare,I.base,I.loc,I.cell,I.free,I.freeC,fun p hp=>(List.mem_append.mp hp).elim (fun z=>I.pin p (List.mem_append_left _ z)) (h p),I.hok,I.len⟩
theorem nodup_ix {N:List Str} (hN:N.Nodup) {i j:Nat} {x:Str} (a:N[i]?=some x) (b:N[j]?=some x):i=j:=by
 obtain ⟨h1,e1⟩:=List.getElem?_eq_some_iff.mp a
 obtain ⟨h2,e2⟩:=List.getElem?_eq_some_iff.mp b
 exact (List.getElem_inj hN).mp (e1.trans e2.symm)
theorem store_ok2 {M:Model} {A:Around} {E:Value→Shared→Prop} {i:Nat} {x:Str} {v:V} {u:Value} {Q:Unit→Shared→Prop} (I:Inv X pins σ H s) (hN:X.N.Nodup) (hi:X.N[i]?=some x) (hx:Loc X.env.scope x) (r:RelV v u)
  (h:∀ s',Inv X pins (σ.set i (some v)) H s'→(∃ a,Heap.SameBut a s.heap s'.heap∧(a=X.env.locals∨X.env.cells.lookup x=some a))→Q () s') (hf:X.fn x=true∨X.env.scope.names.lookup x=some .local:=by first | exact .inl rfl | exact .inr rfl | assumption):wpAny M A (storeName X.env x u) Q E s:=by
 obtain ⟨m,hn,hl⟩:=id I.loc
 have hcls:(X.env.scope.kind == .class || (X.env.scope.kind == .module && X.env.locals != X.env.globals))=false:=by rw [I.ok.kind];rfl
 have hiσ:i < σ.length:=by rw [I.len];exact (List.getElem?_eq_some_iff.mp hi).1
 have cne:=I.cne
 have tracked:∀ {a:Addr} {h':Heap},(∃ o,s.heap.get? a=some o∧H a=none)→Heap.SameBut a s.heap h'→HOk X.prog X.w H h':=fun {a h'} ha hs b ob e=>by
  obtain ⟨_,_,hfree⟩:=ha
  refine (I.hok b ob e).stay (fun c w' hc q=>(hs.2 c ?_).trans q) (fun _ q=>q) fun _ _ q=>q
  rintro rfl
  rcases hc with rfl | hc
  ·rw [hfree] at e;cases e
  ·rw [hfree] at hc;cases hc
 rcases hx with hk | hk
 ·refine wpAny_storeName_local hk hn (fun h' hn' hs=>?_) hcls
  obtain ⟨oL,_,_,hoL,_⟩:=id hn
  refine h _ ⟨I.ok,I.os,I.bare,⟨fun b o e n hb hx=>?_,fun b o e n hb hx=>?_,I.base.free,fun b o e hx=>?_,I.base.tups,I.base.frzs,I.base.tbls⟩,⟨_,hn',fun j y v' e1 e2 e3=>?_⟩,fun y c e=>?_,I.free,I.freeC,fun p hp=>?_,tracked ⟨oL,hoL,I.free⟩ hs,by simpa using I.len⟩ ⟨_,hs,.inl rfl⟩
  ·exact (hs.2 b (Nat.ne_of_lt (Nat.lt_of_lt_of_le (Heap.lt_size e) I.ok.above))).trans (I.base.keep b o e n hb hx)
  ·obtain ⟨sl,e1⟩:=I.base.slot b o e n hb hx
   exact ⟨sl,(hs.2 b (Nat.ne_of_lt (Nat.lt_of_lt_of_le (Heap.lt_size e) I.ok.above))).trans e1⟩
  ·obtain ⟨o',e1⟩:=I.base.there b o e hx
   exact ⟨o',(hs.2 b (Nat.ne_of_lt (Nat.lt_of_lt_of_le (Heap.lt_size e) I.ok.above))).trans e1⟩
  ·by_cases hj:j=i
   ·subst hj
    rw [hi] at e1;cases e1
    rw [List.getElem?_set_self hiσ] at e2
    cases e2
    exact ⟨u,r,.inl ⟨hk,by simp⟩⟩
   ·rw [List.getElem?_set_ne (Ne.symm hj)] at e2
    obtain ⟨u',r',q⟩:=hl j y v' e1 e2 e3
    refine ⟨u',r',?_⟩
    rcases q with ⟨k,e⟩ | ⟨k,c,e,z⟩
    ·refine .inl ⟨k,?_⟩
     have:y≠x:=fun e=>hj (nodup_ix hN e1 (e ▸ hi))
     simp [this,e]
    ·exact .inr ⟨k,c,e,z.sameBut hs (cne y c e)⟩
  ·obtain ⟨w',z⟩:=I.cell y c e
   exact ⟨w',z.sameBut hs (cne y c e)⟩
  ·obtain ⟨e,n,ne,nf,d⟩:=I.pin p hp
   exact ⟨(hs.2 p.1 ne).trans e,n,ne,nf,d⟩
 ·have hfn:X.fn x=true:=by
   rcases hf with z | z
   ·exact z
   ·rw [z] at hk;cases hk
  obtain ⟨c,hc⟩:=I.ok.has x (.inl hk)
  obtain ⟨w',z⟩:=I.cell x c hc
  refine wpAny_storeName_cell I.ok.kind hk hc z (fun h' hc' hs=>?_)
  obtain ⟨oc,hoc,hocd⟩:=id z
  refine h { s with heap:=h' } ⟨I.ok,I.os,I.bare,⟨fun b o e n hb hx=>?_,fun b o e n hb hx=>?_,I.base.free,fun b o e hx=>?_,I.base.tups,I.base.frzs,I.base.tbls⟩,⟨m,hn.sameBut hs (Ne.symm (cne x c hc)),fun j y v' e1 e2 e3=>?_⟩,fun y c' e=>?_,I.free,I.freeC,fun p hp=>?_,tracked ⟨oc,hoc,I.freeC x c hc⟩ hs,by simpa using I.len⟩ ⟨c,hs,.inr hc⟩
  ·exact (hs.2 b (Nat.ne_of_lt (Nat.lt_of_lt_of_le (Heap.lt_size e) (I.ok.cab x c hfn hc)))).trans (I.base.keep b o e n hb hx)
  ·obtain ⟨sl,e1⟩:=I.base.slot b o e n hb hx
   exact ⟨sl,(hs.2 b (Nat.ne_of_lt (Nat.lt_of_lt_of_le (Heap.lt_size e) (I.ok.cab x c hfn hc)))).trans e1⟩
  ·obtain ⟨o',e1⟩:=I.base.there b o e hx
   exact ⟨o',(hs.2 b (Nat.ne_of_lt (Nat.lt_of_lt_of_le (Heap.lt_size e) (I.ok.cab x c hfn hc)))).trans e1⟩
  ·by_cases hj:j=i
   ·subst hj
    rw [hi] at e1;cases e1
    rw [List.getElem?_set_self hiσ] at e2
    cases e2
    exact ⟨u,r,.inr ⟨.inl hk,c,hc,hc'⟩⟩
   ·rw [List.getElem?_set_ne (Ne.symm hj)] at e2
    obtain ⟨u',r',q⟩:=hl j y v' e1 e2 e3
    refine ⟨u',r',?_⟩
    rcases q with q | ⟨k,c',e,z'⟩
    ·exact .inl q
    ·refine .inr ⟨k,c',e,z'.sameBut hs ?_⟩
     rintro rfl
     exact hj (nodup_ix hN e1 (I.ok.inj _ _ _ e hc ▸ hi))
  ·by_cases hcc:c'=c
   ·subst hcc;exact ⟨_,hc'⟩
   ·obtain ⟨w2,z2⟩:=I.cell y c' e
    exact ⟨w2,z2.sameBut hs hcc⟩
  ·obtain ⟨e,n,ne,nf,d⟩:=I.pin p hp
   refine ⟨(hs.2 p.1 ?_).trans e,n,ne,nf,d⟩
   intro q
   rw [q,hoc] at e
   have q':oc=p.2:=Option.some.inj e
   exact d w' (by rw [← q'];exact hocd)
theorem store_ok {M:Model} {A:Around} {E:Value→Shared→Prop} {i:Nat} {x:Str} {v:V} {u:Value} {Q:Unit→Shared→Prop} (I:Inv X pins σ H s) (hN:X.N.Nodup) (hi:X.N[i]?=some x) (hx:Loc X.env.scope x) (r:RelV v u)
  (h:∀ s',Inv X pins (σ.set i (some v)) H s'→Q () s') (hf:X.fn x=true∨X.env.scope.names.lookup x=some .local:=by first | exact .inl rfl | exact .inr rfl | assumption):wpAny M A (storeName X.env x u) Q E s:=
 store_ok2 I hN hi hx r (fun s' I' _=>h s' I') hf
theorem Inv.call' {s':Shared} {ch:List Addr} (I:Inv X pins σ H s) (ho:s'.os=s.os) (u:Un (frs X.stack) ch H H' s.heap s'.heap) (hok:HOk X.prog X.w H' s'.heap) (hg:AllBare s'.gens)
  (hch:∀ b∈ch,(b∈X.ex∨X.s₀.heap.objs.size≤b)∧b≠X.env.locals∧(∀ x c,X.env.cells.lookup x=some c→c≠b)∧∀ p∈X.pn++pins,p.1≠b):Inv X pins σ H' s':=by
 obtain ⟨h',g',d',t',o'⟩:=s'
 have e:o'=s.os:=ho
 subst e
 exact I.call (g':=g') (t':=t') (d':=d') u hok hg hch
end
abbrev XK:=Value→Option Addr→Hp→Prop
abbrev St:=List (Option V)
abbrev VK:=V→Hp→Prop
abbrev TE:=St→Hp→VK→Prop
abbrev TT:=St→Hp→(Bool→Hp→Prop)→Prop
abbrev TA:=St→Hp→(List V→Hp→Prop)→Prop
structure Ends where
 nx:St→Hp→Prop
 rt:VK
 bk:St→Hp→Prop:=fun _ _=>False
 ct:St→Hp→Prop:=fun _ _=>False
abbrev TS:=Ends→St→Hp→Prop
def EP (X:Cx) (pins:List (Addr × Obj)) (σ:St) (Q:VK) (u:Value) (s':Shared):Prop:=∃ v H',Inv X pins σ H' s'∧RelV v u∧Q v H'
def TP (X:Cx) (pins:List (Addr × Obj)) (σ:St) (Q:Bool→Hp→Prop) (b:Bool) (s':Shared):Prop:=∃ H',Inv X pins σ H' s'∧Q b H'
def AP (X:Cx) (pins:List (Addr × Obj)) (σ:St) (Q:List V→Hp→Prop) (us:List Value) (s':Shared):Prop:=∃ vs H',Inv X pins σ H' s'∧Vals vs us∧Q vs H'
def SP (X:Cx) (pins:List (Addr × Obj)) (D:Ends) (f:Flow) (s':Shared):Prop:=
 match f with
 | .next=>∃ σ' H',Inv X pins σ' H' s'∧D.nx σ' H'
 | .brk=>∃ σ' H',Inv X pins σ' H' s'∧D.bk σ' H'
 | .cont=>∃ σ' H',Inv X pins σ' H' s'∧D.ct σ' H'
 | .ret u=>∃ v σ' H',Inv X pins σ' H' s'∧RelV v u∧D.rt v H'
def PE (X:Cx) (e:Expr) (t:TE):Prop:=
 ∀ (pins:List (Addr × Obj)) (s:Shared) (σ:St) (H:Hp) (Q:VK),Inv X pins σ H s→t σ H Q→wpAny (model X.prog X.w) X.A (eval e X.env) (EP X pins σ Q) X.xe s
def PT (X:Cx) (e:Expr) (t:TT):Prop:=
 ∀ (pins:List (Addr × Obj)) (s:Shared) (σ:St) (H:Hp) (Q:Bool→Hp→Prop),Inv X pins σ H s→t σ H Q→wpAny (model X.prog X.w) X.A (isTrue e X.env (eval e X.env)) (TP X pins σ Q) X.xe s
def PW (X:Cx) (e:Expr) (t:TT):Prop:=
 ∀ (whole:Sem Value) (pins:List (Addr × Obj)) (s:Shared) (σ:St) (H:Hp) (Q:Bool→Hp→Prop),Inv X pins σ H s→t σ H Q→wpAny (model X.prog X.w) X.A (isTrue e X.env whole) (TP X pins σ Q) X.xe s
theorem PW.pt {X:Cx} {e:Expr} {t:TT} (h:PW X e t):PT X e t:=h _
def PA (X:Cx) (es:List Expr) (t:TA):Prop:=
 ∀ (pos:Pos) (pins:List (Addr × Obj)) (s:Shared) (σ:St) (H:Hp) (Q:List V→Hp→Prop),Inv X pins σ H s→t σ H Q→wpAny (model X.prog X.w) X.A (spliced (backTo pos (starEach es X.env))) (AP X pins σ Q) X.xe s
def PS (X:Cx) (st:Stmt) (t:TS):Prop:=
 ∀ (pins:List (Addr × Obj)) (s:Shared) (σ:St) (H:Hp) (D:Ends),Inv X pins σ H s→t D σ H→wpAny (model X.prog X.w) X.A (exec st X.env) (SP X pins D) X.xe s
def PSs (X:Cx) (st:List Stmt) (t:TS):Prop:=
 ∀ (pins:List (Addr × Obj)) (s:Shared) (σ:St) (H:Hp) (D:Ends),Inv X pins σ H s→t D σ H→wpAny (model X.prog X.w) X.A (execs st X.env) (SP X pins D) X.xe s
theorem ep_elim {X:Cx} {pins:List (Addr × Obj)} {σ:St} {Q:VK} {u:Value} {s':Shared} {C:Prop} (z:EP X pins σ Q u s') (k:∀ (v:V) (H':Hp),Inv X pins σ H' s'→RelV v u→Q v H'→C):C:=by
 obtain ⟨v,H',I,r,q⟩:=z
 exact k v H' I r q
theorem ap_elim {X:Cx} {pins:List (Addr × Obj)} {σ:St} {Q:List V→Hp→Prop} {us:List Value} {s':Shared} {C:Prop} (z:AP X pins σ Q us s') (k:∀ (vs:List V) (H':Hp),Inv X pins σ H' s'→Vals vs us→Q vs H'→C):C:=by
 obtain ⟨v,H',I,r,q⟩:=z
 exact k v H' I r q
theorem thn {α:Type} {t:Sem α} {Q Q':α→Shared→Prop} {M:Model} {A:Around} {E:Value→Shared→Prop} {s:Shared} (h:wpAny M A t Q E s) (hQ:∀ a s,Q a s→Q' a s):wpAny M A t Q' E s:=wpAny_mono h hQ fun _ _ x=>x
end L2
namespace L2
open PySem PySem.Spec PyProof.Rows
section
variable {X:Cx}
inductive tVarI (i:Nat) (σ:St) (H:Hp) (Q:VK):Prop
 | mk (v:V):(σ[i]?=some (some v))→(Q v H)→tVarI i σ H Q
def tVar (i:Nat):TE:=fun σ H Q=>tVarI i σ H Q
def tC (v:V):TE:=fun _ H Q=>Q v H
theorem pe_var {i:Nat} {x:Str} {pos:Pos} (hN:X.N[i]?=some x) (hv:Vis X.env.scope x) (hd:(x == ("__debug__" : Str))=false:=by decide) (hcd:(x == ("__classdict__" : Str))=false:=by decide):PE X (.Name x pos) (tVar i):=by
 intro pins s σ H Q I h
 obtain ⟨v,e,h⟩:=h
 obtain ⟨m,hn,hl⟩:=I.loc
 obtain ⟨u,r,l⟩:=hl i x v hN e hv
 have fin:EP X pins σ Q u s:=⟨v,H,I,r,h⟩
 rcases l with ⟨hk,hm⟩ | ⟨hk,c,hc,hcell⟩
 ·exact wpAny_Name (wpAny_loadName_local I.ok.kind hk hn hm fin) hd
 ·rcases hk with hk | hk
  ·exact wpAny_Name (wpAny_loadName_cell I.ok.kind hk hc hcell fin) hd
  ·exact wpAny_Name (wpAny_loadName_free I.ok.kind hk hc hcell fin hcd) hd
theorem pe_int {i j pos}:PE X (.Constant (.int i) j pos) (tC (.int i)):=fun _ _ _ H _ I h=>wpAny_Constant_int ⟨.int i,H,I.tok _,⟨_,rfl⟩,h⟩
theorem pe_bl {b j pos}:PE X (.Constant (.bool b) j pos) (tC (.bl b)):=fun _ _ _ H _ I h=>Constant_bool ⟨.bl b,H,I,rfl,h⟩
theorem pe_non {j pos}:PE X (.Constant .none j pos) (tC .non):=fun _ _ _ H _ I h=>Constant_none ⟨.non,H,I,rfl,h⟩
theorem pe_str {x j pos}:PE X (.Constant (.str x) j pos) (tC (.str x)):=fun _ _ _ H _ I h=>Calls.Constant_str ⟨.str x,H,I.tok _,⟨_,rfl⟩,h⟩
def Gl (X:Cx) (x:Str):Prop:=X.env.kindOf x=some .globalImplicit
theorem ld_glob {E:Value→Shared→Prop} {pins:List (Addr × Obj)} {s:Shared} {σ:St} {H:Hp} {x:Str} {u:Value} {pos:Pos} {Q:Value→Shared→Prop} (I:Inv X pins σ H s) (hg:Gl X x) (hm:X.mg x=some u) (h:Q u s)
  (hd:(x == ("__debug__" : Str))=false:=by decide):wpAny (model X.prog X.w) X.A (eval (.Name x pos) X.env) Q E s:=
 Calls.Name_function_global I.ok.kind hg (Calls.loadGlobal_global (by rw [I.ok.glob];exact I.mod.glob.keeps I.bk) hm h) hd
theorem ld_blt {E:Value→Shared→Prop} {pins:List (Addr × Obj)} {s:Shared} {σ:St} {H:Hp} {x:Str} {u:Value} {pos:Pos} {Q:Value→Shared→Prop} (I:Inv X pins σ H s) (hg:Gl X x) (hm:X.mg x=none) (hv:bootBuiltins x=some u) (h:Q u s)
  (hn:x ≠ "__name__" := by decide) (hd:(x == ("__debug__" : Str))=false:=by decide):wpAny (model X.prog X.w) X.A (eval (.Name x pos) X.env) Q E s:=by
 obtain ⟨mb,h1,h2⟩:=I.mod.blt
 exact Calls.Name_function_global I.ok.kind hg (Calls.loadGlobal_builtin (by rw [I.ok.glob];exact I.mod.glob.keeps I.bk) hm (by rw [I.ok.blt];exact h1.keeps I.bk) ((h2 x hn).trans hv) h) hd
theorem pe_glob {x:Str} {v:V} {u:Value} {pos:Pos} (hg:Gl X x) (hm:X.mg x=some u) (r:RelV v u) (hd:(x == ("__debug__" : Str))=false:=by decide):PE X (.Name x pos) (tC v):=
 fun _ _ _ H _ I h=>ld_glob I hg hm ⟨v,H,I,r,h⟩ hd
theorem pe_bltn {x:Str} {v:V} {u:Value} {pos:Pos} (hg:Gl X x) (hm:X.mg x=none) (hv:bootBuiltins x=some u) (r:RelV v u) (hn:x ≠ "__name__" := by decide) (hd:(x == ("__debug__" : Str))=false:=by decide):PE X (.Name x pos) (tC v):=
 fun _ _ _ H _ I h=>ld_blt I hg hm hv ⟨v,H,I,r,h⟩ hn hd
variable {a b:Expr} {ta tb:TE} {pos:Pos}
def PC (X:Cx) (op:CmpOp) (a b:Expr) (t:TE):Prop:=
 ∀ (pins:List (Addr × Obj)) (s:Shared) (σ:St) (H:Hp) (Q:VK),Inv X pins σ H s→t σ H Q→
  wpAny (model X.prog X.w) X.A (eval a X.env) (fun v s₁=>wpAny (model X.prog X.w) X.A (eval b X.env) (fun u s₂=>wpAny (model X.prog X.w) X.A (compareOp op v u) (EP X pins σ Q) X.xe s₂) X.xe s₁) X.xe s
theorem nobehind (b:Expr) {op:CmpOp} (h:op≠.In) (h2:op≠.NotIn):behindInMarks op b=false:=by
 have e1:(op == CmpOp.In)=false:=by cases op <;> first | rfl | exact absurd rfl h
 have e2:(op == CmpOp.NotIn)=false:=by cases op <;> first | rfl | exact absurd rfl h2
 cases b <;> simp [behindInMarks,e1,e2]
def tIsN (ta:TE):TE:=fun σ H Q=>ta σ H fun x H1=>Q (.bl (decide (x=.non))) H1
def tNotN (ta:TE):TE:=fun σ H Q=>ta σ H fun x H1=>Q (.bl (!decide (x=.non))) H1
theorem RelV.none_iff {x:V} {v:Value} (r:RelV x v):(v == Value.none)=decide (x=.non):=by
 cases x with
 | non=>cases r;rfl
 | bl _=>cases r;rfl
 | int _=>obtain ⟨t,rfl⟩:=r;rfl
 | str _=>obtain ⟨t,rfl⟩:=r;rfl
 | byt _=>obtain ⟨t,rfl⟩:=r;rfl
 | flt _=>obtain ⟨t,rfl⟩:=r;rfl
 | ref _=>cases r;rfl
 | ty _=>cases r;rfl
theorem pc_isN {j pos'} (ha:PE X a ta):PC X .Is a (.Constant .none j pos') (tIsN ta):=by
 intro pins s σ H Q I h
 refine thn (ha pins s σ H _ I h) fun v s1 zz3=>ep_elim zz3 fun x H1 I1 r1 q1=>?_
 exact Constant_none (is_none_gen ⟨.bl _,H1,I1,by rw [r1.none_iff];rfl,q1⟩)
theorem pc_notN {j pos'} (ha:PE X a ta):PC X .IsNot a (.Constant .none j pos') (tNotN ta):=by
 intro pins s σ H Q I h
 refine thn (ha pins s σ H _ I h) fun v s1 zz4=>ep_elim zz4 fun x H1 I1 r1 q1=>?_
 exact Constant_none (isnot_none_gen ⟨.bl _,H1,I1,by rw [r1.none_iff];rfl,q1⟩)
def tB (t:TE):TT:=fun σ H Q=>t σ H fun x H1=>∃ c,x=.bl c∧Q c H1
theorem pe_cmp {op:CmpOp} {t:TE} (h:PC X op a b t) (h1:behindInMarks op b=false:=by first | exact nobehind _ (by decide) (by decide) | rfl):PE X (.Compare a [op] [b] pos) t:=fun pins s σ H Q I hw=>wpAny_Compare1 (h pins s σ H Q I hw) h1
theorem pt_cmp {op:CmpOp} {t:TE} (h:PC X op a b t) (h1:behindInMarks op b=false:=by first | exact nobehind _ (by decide) (by decide) | rfl):PT X (.Compare a [op] [b] pos) (tB t):=by
 intro pins s σ H Q I hw
 refine wpAny_isTrue_Compare1 (thn (h pins s σ H _ I hw) fun v s1 h1=>thn h1 fun u s2 h2=>thn h2 fun c s3 zz5=>ep_elim zz5 fun x H1 I1 r1 q1=>?_) h1
 obtain ⟨d,rfl,q⟩:=q1
 cases r1
 exact wpAny_truthy_bool ⟨H1,I1,q⟩
theorem pt_val {e:Expr} {t:TE} (h:PE X e t) (he:∀ whole,isTrue e X.env whole=(do let v ← whole;standAt e.pos;holding [v] (truthy v)):=by intro _;rfl):PT X e (tB t):=by
 intro pins s σ H Q I hw
 refine isTrue_plain (thn (h pins s σ H _ I hw) fun v s1 zz6=>ep_elim zz6 fun x H1 I1 r1 q1=>?_) (he _)
 obtain ⟨d,rfl,q⟩:=q1
 cases r1
 exact wpAny_truthy_bool ⟨H1,I1,q⟩
variable {tA tB':TT} {rest:List Expr}
def tAnd (t u:TT):TT:=fun σ H Q=>t σ H fun c H1=>if c=true then u σ H1 Q else Q false H1
def tOr (t u:TT):TT:=fun σ H Q=>t σ H fun c H1=>if c=true then Q true H1 else u σ H1 Q
def tNot (t:TT):TT:=fun σ H Q=>t σ H fun c H1=>Q (!c) H1
theorem pw_and1 (ha:PT X a tA):PW X (.BoolOp .And [a] pos) tA:=by
 intro wh pins s σ H Q I h
 refine isTrue_and (thn (ha pins s σ H Q I h) fun c s1 e=>?_)
 cases c with
 | true=>exact isTrue_and_nil e
 | false=>exact e
theorem pw_or1 (ha:PT X a tA):PW X (.BoolOp .Or [a] pos) tA:=by
 intro wh pins s σ H Q I h
 refine isTrue_or (thn (ha pins s σ H Q I h) fun c s1 e=>?_)
 cases c with
 | false=>exact isTrue_or_nil e
 | true=>exact e
theorem pw_and (ha:PT X a tA) (hb:PW X (.BoolOp .And (b::rest) pos) tB'):PW X (.BoolOp .And (a::b::rest) pos) (tAnd tA tB'):=by
 intro wh pins s σ H Q I h
 refine isTrue_and (thn (ha pins s σ H _ I h) fun c s1 ⟨H1,I1,q1⟩=>?_)
 cases c with
 | true=>exact hb wh pins s1 σ H1 Q I1 q1
 | false=>exact ⟨H1,I1,q1⟩
theorem pw_or (ha:PT X a tA) (hb:PW X (.BoolOp .Or (b::rest) pos) tB'):PW X (.BoolOp .Or (a::b::rest) pos) (tOr tA tB'):=by
 intro wh pins s σ H Q I h
 refine isTrue_or (thn (ha pins s σ H _ I h) fun c s1 ⟨H1,I1,q1⟩=>?_)
 cases c with
 | true=>exact ⟨H1,I1,q1⟩
 | false=>exact hb wh pins s1 σ H1 Q I1 q1
theorem pt_not (ha:PT X a tA):PT X (.UnaryOp .Not a pos) (tNot tA):=by
 intro pins s σ H Q I h
 exact isTrue_not (ha pins s σ H (fun c H1=>Q (!c) H1) I h)
def tAndV (ta tb:TE):TE:=fun σ H Q=>ta σ H fun x H1=>∃ c,x=.bl c∧if c=true then tb σ H1 Q else Q (.bl false) H1
def tNotV (ta:TE):TE:=fun σ H Q=>ta σ H fun x H1=>∃ c,x=.bl c∧Q (.bl (!c)) H1
theorem pe_one {op} {t:TE} (h:PE X a t):PE X (.BoolOp op [a] pos) t:=fun pins s σ H Q I hw=>BoolOp_one (h pins s σ H Q I hw)
theorem pe_and (ha:PE X a ta) (hb:PE X (.BoolOp .And (b::rest) pos) tb):PE X (.BoolOp .And (a::b::rest) pos) (tAndV ta tb):=by
 intro pins s σ H Q I h
 refine BoolOp_and (thn (ha pins s σ H _ I h) fun v s1 zz7=>ep_elim zz7 fun x H1 I1 r1 q1=>?_)
 obtain ⟨c,rfl,q1⟩:=q1
 cases r1
 refine wpAny_truthy_bool ?_
 cases c with
 | true=>exact hb pins s1 σ H1 Q I1 q1
 | false=>exact ⟨.bl false,H1,I1,rfl,q1⟩
theorem pe_not (ha:PE X a ta):PE X (.UnaryOp .Not a pos) (tNotV ta):=by
 intro pins s σ H Q I h
 refine UnaryOp_ (thn (ha pins s σ H _ I h) fun v s1 zz9=>ep_elim zz9 fun x H1 I1 r1 q1=>?_)
 obtain ⟨c,rfl,q1⟩:=q1
 cases r1
 exact not_of (wpAny_truthy_bool ⟨.bl (!c),H1,I1,rfl,q1⟩)
def tIf (t:TT) (ta tb:TE):TE:=fun σ H Q=>t σ H fun c H1=>if c=true then ta σ H1 Q else tb σ H1 Q
theorem pe_ifExp {c:Expr} (hc:PT X c tA) (ha:PE X a ta) (hb:PE X b tb):PE X (.IfExp c a b pos) (tIf tA ta tb):=by
 intro pins s σ H Q I h
 refine wpAny_IfExp (thn (hc pins s σ H _ I h) fun d s1 ⟨H1,I1,q1⟩=>?_)
 cases d with
 | true=>exact ha pins s1 σ H1 Q I1 q1
 | false=>exact hb pins s1 σ H1 Q I1 q1
end
end L2
namespace L2
open PySem PySem.Spec PyProof.Rows
def SqL (K:W.Frag) (H:Hp) (a:Addr) (xs:List V):Prop:=
 Rd H a (.lst xs)∨
  ∃ (o:Obj) (its:Array Value) (n:Nat),K.lookup a=some o∧o.cls=.type "list" ∧ o.dict=none∧o.data=.seq its n∧its.size≤sizeLine∧Vals xs its.toList
def SqT (K:W.Frag) (H:Hp) (a:Addr) (xs:List V):Prop:=
 Rd H a (.tup xs)∨
  ∃ (o:Obj) (its:Array Value) (n:Nat),K.lookup a=some o∧o.cls=.type "tuple" ∧ o.data=.seq its n∧its.size≤sizeLine∧Vals xs its.toList
def absV:Value→Option V
 | .none=>some .non
 | .bool b=>some (.bl b)
 | .int i _=>some (.int i)
 | .str x _=>some (.str x)
 | .bytes b _=>some (.byt b)
 | .float b _=>some (.flt b)
 | .ref a=>some (.ref a)
 | .type n=>some (.ty n)
 | _=>none
theorem RelV.abs {x:V} {u:Value} (r:RelV x u):absV u=some x:=by
 cases x with
 | non=>cases r;rfl
 | bl _=>cases r;rfl
 | int _=>obtain ⟨t,rfl⟩:=r;rfl
 | str _=>obtain ⟨t,rfl⟩:=r;rfl
 | byt _=>obtain ⟨t,rfl⟩:=r;rfl
 | flt _=>obtain ⟨t,rfl⟩:=r;rfl
 | ref _=>cases r;rfl
 | ty _=>cases r;rfl
theorem RelV.inj {x y:V} {u:Value} (r:RelV x u) (q:RelV y u):x=y:=Option.some.inj (r.abs.symm.trans q.abs)
theorem Vals.inj:∀ {xs ys:List V} {us:List Value},Vals xs us→Vals ys us→xs=ys
 | _,_,_,.nil,.nil=>rfl
 | _,_,_,.cons r t,.cons r' t'=>by rw [r.inj r',Vals.inj t t']
section
variable {X:Cx} {pins:List (Addr × Obj)} {σ:St} {H:Hp} {s:Shared} {a:Addr} {xs ys:List V}
theorem SqL.of {K:W.Frag} (h:H a=some (.lst xs)):SqL K H a xs:=.inl (.inl h)
theorem SqT.of {K:W.Frag} (h:H a=some (.tup xs)):SqT K H a xs:=.inl (.inl h)
theorem Inv.list (I:Inv X pins σ H s) (h:SqL X.K H a xs):∃ its:List Value,Vals xs its∧PlainL s.heap a its.toArray∧xs.length≤sizeLine:=by
 rcases h with h | ⟨o,its,n,hk,hc,hd,hs,hz,r⟩
 ·obtain ⟨z,its,n,r,e⟩:=h.ok I.hok
  exact ⟨its,r,⟨_,n,e,rfl,rfl,rfl⟩,z⟩
 ·refine ⟨its.toList,r,⟨o,n,I.kIn a o hk,hc,hd,by simpa using hs⟩,?_⟩
  have e:=r.length
  simp only [Array.length_toList] at e
  omega
theorem Inv.tuple (I:Inv X pins σ H s) (h:SqT X.K H a xs):∃ its:List Value,Vals xs its∧IsTup s.heap a its.toArray∧xs.length≤sizeLine:=by
 rcases h with h | ⟨o,its,n,hk,hc,hs,hz,r⟩
 ·obtain ⟨z,its,r,p⟩:=h.ok I.hok
  exact ⟨its,r,p,z⟩
 ·refine ⟨its.toList,r,⟨o,I.kIn a o hk,hc,n,by simpa using hs⟩,?_⟩
  have e:=r.length
  simp only [Array.length_toList] at e
  omega
theorem Inv.list_inj (I:Inv X pins σ H s) (h:SqL X.K H a xs) (h':SqL X.K H a ys):xs=ys:=by
 obtain ⟨its,r,⟨o,n,e,_,_,d⟩,_⟩:=I.list h
 obtain ⟨its',r',⟨o',n',e',_,_,d'⟩,_⟩:=I.list h'
 rw [e] at e';cases e'
 rw [d] at d'
 injection d' with d1 _
 have:its=its':=by simpa using congrArg Array.toList d1
 subst this
 exact r.inj r'
end
abbrev Cx.wish (X:Cx) (E:Value→Shared→Prop):Cx:={ X with xe:=E }
abbrev Cx.nox (X:Cx):Cx:=X.wish fun _ _=>False
theorem Cx.Ok.wish {X:Cx} (ok:X.Ok) (E:Value→Shared→Prop):(X.wish E).Ok:=
 ⟨ok.mod,ok.kind,ok.glob,ok.blt,ok.above,ok.inj,ok.has,ok.cab,ok.hd,ok.frames,ok.stk,ok.exf,ok.bs,ok.bsz,ok.noex,ok.exfs,ok.funs,ok.frf⟩
theorem Cx.Ok.unwish {X:Cx} {E:Value→Shared→Prop} (ok:(X.wish E).Ok):X.Ok:=
 ⟨ok.mod,ok.kind,ok.glob,ok.blt,ok.above,ok.inj,ok.has,ok.cab,ok.hd,ok.frames,ok.stk,ok.exf,ok.bs,ok.bsz,ok.noex,ok.exfs,ok.funs,ok.frf⟩
section
variable {X:Cx} {pins:List (Addr × Obj)} {σ:St} {H:Hp} {s:Shared} {E:Value→Shared→Prop}
theorem Inv.wish (I:Inv X pins σ H s) (E:Value→Shared→Prop):Inv (X.wish E) pins σ H s:=⟨I.ok.wish E,I.os,I.bare,I.base,I.loc,I.cell,I.free,I.freeC,I.pin,I.hok,I.len⟩
theorem Inv.unwish (I:Inv (X.wish E) pins σ H s):Inv X pins σ H s:=⟨I.ok.unwish,I.os,I.bare,I.base,I.loc,I.cell,I.free,I.freeC,I.pin,I.hok,I.len⟩
theorem SP.unwish {D:Ends} {f:Flow} {s':Shared} (h:SP (X.wish E) pins D f s'):SP X pins D f s':=by
 cases f with
 | next=>obtain ⟨σ',H',I,q⟩:=h;exact ⟨σ',H',I.unwish,q⟩
 | brk=>obtain ⟨σ',H',I,q⟩:=h;exact ⟨σ',H',I.unwish,q⟩
 | cont=>obtain ⟨σ',H',I,q⟩:=h;exact ⟨σ',H',I.unwish,q⟩
 | ret u=>obtain ⟨v,σ',H',I,r,q⟩:=h;exact ⟨v,σ',H',I.unwish,r,q⟩
theorem PSs.nox {st:List Stmt} {t:TS} (h:PSs X.nox st t):PSs X st t:=fun pins s σ H D I hw=>
 wpAny_mono (h pins s σ H D (I.wish _) hw) (fun _ _ q=>q.unwish) fun _ _ z=>False.elim z
end
section
variable {X:Cx} {st:Stmt} {rest:List Stmt} {t u:TS} {e:Expr} {te:TE} {pos:Pos}
def tNext:TS:=fun D σ H=>D.nx σ H
def tSeq (t u:TS):TS:=fun D σ H=>t { D with nx:=u D } σ H
theorem pss_nil:PSs X [] tNext:=fun _ _ σ H _ I h=>wpAny_execs_nil ⟨σ,H,I,h⟩
theorem pss_cons (h1:PS X st t) (h2:PSs X rest u):PSs X (st::rest) (tSeq t u):=by
 intro pins s σ H D I h
 refine wpAny_execs_cons (thn (h1 pins s σ H { D with nx:=u D } I h) fun f s1 q=>?_)
 cases f with
 | next=>
  obtain ⟨σ',H',I',q⟩:=q
  exact h2 pins s1 σ' H' D I' q
 | ret v=>exact q
 | brk=>exact q
 | cont=>exact q
theorem pss_one (h1:PS X st t):PSs X [st] t:=by
 intro pins s σ H D I h
 refine wpAny_execs_cons (thn (h1 pins s σ H D I h) fun f s1 q=>?_)
 cases f with
 | next=>exact wpAny_execs_nil q
 | ret v=>exact q
 | brk=>exact q
 | cont=>exact q
theorem Inv.quiet {pins:List (Addr × Obj)} {σ:St} {H:Hp} {s:Shared} (I:Inv X pins σ H s):interactive X.env=false:=by simp [interactive,I.ok.kind]
def tDrop (te:TE):TS:=fun D σ H=>te σ H fun _ H1=>D.nx σ H1
theorem ps_expr (he:PE X e te) (hs:swapsWith e none pos.line X.env=pure false:=by rfl):PS X (.Expr e pos) (tDrop te):=by
 intro pins s σ H D I h
 exact wpAny_Expr_any (thn (he pins s σ H _ I h) fun v s1 zz10=>ep_elim zz10 fun x H1 I1 r1 q1=>⟨σ,H1,I1,q1⟩) I.quiet hs
def tRet (te:TE):TS:=fun D σ H=>te σ H D.rt
theorem ps_ret (he:PE X e te):PS X (.Return (some e) pos) (tRet te):=by
 intro pins s σ H D I h
 exact wpAny_Return_some (thn (he pins s σ H _ I h) fun v s1 zz11=>ep_elim zz11 fun x H1 I1 r1 q1=>⟨x,σ,H1,I1,r1,q1⟩)
def tIfS (c:TT) (t u:TS):TS:=fun D σ H=>c σ H fun b H1=>if b=true then t D σ H1 else u D σ H1
theorem ps_if {c:Expr} {a b:List Stmt} {tc:TT} (hc:PT X c tc) (ha:PSs X a t) (hb:PSs X b u):PS X (.If c a b pos) (tIfS tc t u):=by
 intro pins s σ H D I h
 refine wpAny_If (thn (hc pins s σ H _ I h) fun d s1 ⟨H1,I1,q1⟩=>?_)
 cases d with
 | true=>exact ha pins s1 σ H1 D I1 q1
 | false=>exact hb pins s1 σ H1 D I1 q1
def tNever:TS:=fun _ _ _=>False
theorem ps_never:PS X st tNever:=fun _ _ _ _ _ _ h=>h.elim
end
abbrev TG:=V→St→Hp→(St→Hp→Prop)→Prop
abbrev TGs:=List V→St→Hp→(St→Hp→Prop)→Prop
def PG (X:Cx) (target:Expr) (t:TG):Prop:=
 ∀ (pins:List (Addr × Obj)) (s:Shared) (σ:St) (H:Hp) (v:V) (u:Value) (Q:St→Hp→Prop),Inv X pins σ H s→RelV v u→t v σ H Q→
  wpAny (model X.prog X.w) X.A (assign target X.env u) (fun _ s'=>∃ σ' H',Inv X pins σ' H' s'∧Q σ' H') X.xe s
def PGs (X:Cx) (ts:List Expr) (t:TGs):Prop:=
 ∀ (pins:List (Addr × Obj)) (s:Shared) (σ:St) (H:Hp) (vs:List V) (us:List Value) (Q:St→Hp→Prop),Inv X pins σ H s→Vals vs us→t vs σ H Q→
  wpAny (model X.prog X.w) X.A (assignInOrder ((assignEach ts X.env).map (·.2)) us) (fun _ s'=>∃ σ' H',Inv X pins σ' H' s'∧Q σ' H') X.xe s
abbrev TSet:=V→V→V→Hp→(Hp→Prop)→Prop
def PSet (X:Cx) (t:TSet):Prop:=
 ∀ (pins:List (Addr × Obj)) (s:Shared) (σ:St) (H:Hp) (o i v:V) (ov iv u:Value) (Q:Hp→Prop),Inv X pins σ H s→RelV o ov→RelV i iv→RelV v u→t o i v H Q→
  wpAny (model X.prog X.w) X.A (setItem ov iv u) (fun _ s'=>∃ H',Inv X pins σ H' s'∧Q H') X.xe s
abbrev TIp:=V→V→Hp→VK→Prop
def PIp (X:Cx) (op:Operator) (t:TIp):Prop:=
 ∀ (pins:List (Addr × Obj)) (s:Shared) (σ:St) (H:Hp) (x y:V) (v u:Value) (Q:VK),Inv X pins σ H s→RelV x v→RelV y u→t x y H Q→
  wpAny (model X.prog X.w) X.A (inplaceOp op v u) (EP X pins σ Q) X.xe s
section
variable {X:Cx} {pos:Pos}
def gName (i:Nat):TG:=fun v σ H Q=>Q (σ.set i (some v)) H
theorem pg_name {i:Nat} {x:Str} (hN:X.N.Nodup) (hi:X.N[i]?=some x) (hx:Loc X.env.scope x) (hf:X.fn x=true∨X.env.scope.names.lookup x=some .local:=by first | exact .inl rfl | exact .inr rfl | assumption):PG X (.Name x pos) (gName i):=by
 intro pins s σ H v u Q I r h
 exact wpAny_assign_Name (store_ok I hN hi hx r (fun s' I'=>⟨_,H,I',h⟩) hf)
def gNil:TGs:=fun vs σ H Q=>vs=[]∧Q σ H
def gCons (t:TG) (u:TGs):TGs:=fun vs σ H Q=>∃ v r,vs=v::r∧t v σ H fun σ' H'=>u r σ' H' Q
theorem pgs_nil:PGs X [] gNil:=by
 intro pins s σ H vs us Q I r h
 obtain ⟨e,h⟩:=h
 subst e
 cases r
 exact assignInOrder_nil ⟨σ,H,I,h⟩
theorem pgs_cons {e:Expr} {es:List Expr} {t:TG} {u:TGs} (h1:PG X e t) (h2:PGs X es u)
  (hs:(assignEach (e::es) X.env).map (·.2)=assign e X.env::(assignEach es X.env).map (·.2):=by rfl):PGs X (e::es) (gCons t u):=by
 intro pins s σ H vs us Q I r h
 obtain ⟨v,vr,e1,h⟩:=h
 subst e1
 cases r with
 | cons r rr=>
  rw [hs]
  refine assignInOrder_cons (thn (h1 pins s σ H _ _ _ I r h) fun _ s1 ⟨σ1,H1,I1,q1⟩=>?_)
  exact h2 pins s1 σ1 H1 _ _ Q I1 rr q1
def gTup (K:W.Frag) (n:Nat) (t:TGs):TG:=fun v σ H Q=>∃ a xs,v=.ref a∧SqT K H a xs∧xs.length=n∧t xs σ H Q
theorem pg_tup {es:List Expr} {k:Nat} {t:TGs} {n:Nat} (hc:X.calm=true) (h:PGs X es t)
  (hn:(assignEach es X.env).length=n:=by rfl) (hst:(assignEach es X.env).findIdx? (·.1)=none:=by rfl):PG X (.Tuple es k pos) (gTup X.K n t):=by
 intro pins s σ H v u Q I r hw
 obtain ⟨a,xs,e1,hq,hl,hw⟩:=hw
 subst e1
 cases r
 obtain ⟨its,rv,ht,hz⟩:=I.tuple hq
 refine assign_Tuple_tuple (I.ok.hd hc) ht (by simp [hn,← hl,rv.length]) hst fun h' hx=>?_
 have I1:Inv X pins σ H { s with heap:=h' }:=I.kept (t':=s.toks) fun b o e=>hx b o (Nat.ne_of_lt (Heap.lt_size e)) e
 exact h pins _ σ H xs _ Q I1 (by simpa using rv) hw
def gSub (to ti:TE) (t:TSet):TG:=fun v σ H Q=>to σ H fun o H1=>ti σ H1 fun i H2=>t o i v H2 fun H3=>Q σ H3
theorem pg_sub {o i:Expr} {to ti:TE} {t:TSet} (ho:PE X o to) (hi:PE X i ti) (hs:PSet X t)
  (ha:∀ v,assign (.Subscript o i pos) X.env v=(do
   let ov ← holding [v] (eval o X.env)
   let iv ← holding [v,ov] (eval i X.env)
   standAt pos
   holding [v,ov,iv] (setItem ov iv v)
   release [v,ov,iv] []):=by intro _;rfl):PG X (.Subscript o i pos) (gSub to ti t):=by
 intro pins s σ H v u Q I r h
 rw [ha]
 refine wpAny_bind (wpAny_holding (thn (ho pins s σ H _ I h) fun ov s1 zz12=>ep_elim zz12 fun x H1 I1 r1 q1=>?_))
 refine wpAny_bind (wpAny_holding (thn (hi pins s1 σ H1 _ I1 q1) fun iv s2 zz13=>ep_elim zz13 fun y H2 I2 r2 q2=>?_))
 refine wpAny_bind (wpAny_standAt (wpAny_bind (wpAny_holding (thn (hs pins s2 σ H2 x y v ov iv u _ I2 r1 r2 r q2) fun _ s3 ⟨H3,I3,q3⟩=>?_))))
 exact wpAny_release ⟨σ,H3,I3,q3⟩
def tAsg (te:TE) (g:TG):TS:=fun D σ H=>te σ H fun x H1=>g x σ H1 D.nx
theorem ps_asg {tg e:Expr} {te:TE} {g:TG} (he:PE X e te) (hg:PG X tg g) (hs:swapsWithSole [tg] e pos.line X.env=pure false:=by rfl) (hw:swappedStores [tg] e X.env=pure none:=by rfl)
  (h1:(assignEach [tg] X.env).map (·.2)=[assign tg X.env]:=by rfl):PS X (.Assign [tg] e pos) (tAsg te g):=by
 intro pins s σ H D I h
 refine wpAny_Assign_stores (thn (he pins s σ H _ I h) fun v s1 zz14=>ep_elim zz14 fun x H1 I1 r1 q1=>?_) hs hw
 rw [h1]
 exact thn (hg pins s1 σ H1 x v _ I1 r1 q1) fun _ s2 q=>q
theorem ps_set {i:Nat} {x:Str} {e:Expr} {te:TE} {pos':Pos} (hN:X.N.Nodup) (hi:X.N[i]?=some x) (hx:Loc X.env.scope x) (he:PE X e te) (hs:swapsWith e (some (.Name x pos')) pos.line X.env=pure false:=by rfl) (hf:X.fn x=true∨X.env.scope.names.lookup x=some .local:=by first | exact .inl rfl | exact .inr rfl | assumption) :
  PS X (.Assign [.Name x pos'] e pos) (tAsg te (gName i)):=by
 intro pins s σ H D I h
 refine wpAny_Assign_Name (thn (he pins s σ H _ I h) fun v s1 zz15=>ep_elim zz15 fun y H1 I1 r1 q1=>?_) hs
 exact store_ok I1 hN hi hx r1 (fun s2 I2=>⟨_,H1,I2,q1⟩) hf
def tAug (i:Nat) (te:TE) (ti:TIp):TS:=fun D σ H=>∃ x,σ[i]?=some (some x)∧te σ H fun y H1=>ti x y H1 fun z H2=>D.nx (σ.set i (some z)) H2
theorem ps_aug {i:Nat} {x:Str} {e:Expr} {te:TE} {op:Operator} {ti:TIp} {pos':Pos} (hN:X.N.Nodup) (hi:X.N[i]?=some x) (hx:Loc X.env.scope x) (he:PE X e te) (ho:PIp X op ti) (hf:X.fn x=true∨X.env.scope.names.lookup x=some .local:=by first | exact .inl rfl | exact .inr rfl | assumption) :
  PS X (.AugAssign (.Name x pos') op e pos) (tAug i te ti):=by
 intro pins s σ H D I h
 obtain ⟨v,e1,h⟩:=h
 obtain ⟨m,hn,hl⟩:=I.loc
 have vis:Vis X.env.scope x:=by rcases hx with k | k;exact .inl k;exact .inr (.inl k)
 obtain ⟨u,r,l⟩:=hl i x v hi e1 vis
 refine wpAny_AugAssign_Name ?_
 have go:wpAny (model X.prog X.w) X.A (eval e X.env) (fun w s₂=>wpAny (model X.prog X.w) X.A (inplaceOp op u w) (fun r s₃=>wpAny (model X.prog X.w) X.A (storeName X.env x r) (fun _=>SP X pins D .next) X.xe s₃) X.xe s₂) X.xe s:=by
  refine thn (he pins s σ H _ I h) fun w s1 zz17=>ep_elim zz17 fun y H1 I1 r1 q1=>?_
  refine thn (ho pins s1 σ H1 v y u w _ I1 r r1 q1) fun z s2 zz18=>ep_elim zz18 fun zv H2 I2 r2 q2=>?_
  exact store_ok I2 hN hi hx r2 (fun s3 I3=>⟨_,H2,I3,q2⟩) hf
 rcases l with ⟨hk,hm⟩ | ⟨hk,c,hc,hcell⟩
 ·exact wpAny_loadName_local I.ok.kind hk hn hm go
 ·rcases hk with hk | hk
  ·exact wpAny_loadName_cell I.ok.kind hk hc hcell go
  ·rcases hx with k | k
   ·have:X.env.scope.names.lookup x=some .free:=hk
    rw [k] at this;cases this
   ·have:X.env.scope.names.lookup x=some .free:=hk
    rw [k] at this;cases this
def ipI (f:Int→Int→Int):TIp:=fun x y H Q=>∃ i j,x=.int i∧y=.int j∧Q (.int (f i j)) H
theorem ip_add:PIp X .Add (ipI fun i j=>i+j):=by
 intro pins s σ H x y v u Q I r1 r2 h
 obtain ⟨i,j,e1,e2,q⟩:=h
 subst e1;subst e2
 obtain ⟨t,rfl⟩:=r1
 obtain ⟨t',rfl⟩:=r2
 exact iadd_int ⟨.int _,H,I.tok _,⟨_,rfl⟩,q⟩
end
section
variable {X:Cx} {pos:Pos}
def tWhile (c:TT) (tb:TS):TS:=fun D σ H=>∃ W:Nat→St→Hp→Prop,(∃ m,W m σ H)∧∀ m σ H,W m σ H→
 c σ H fun b H1=>if b=true then ∃ N:St→Hp→Prop,(∀ σ' H',N σ' H'→∃ m',m' < m∧W m' σ' H')∧tb { D with nx:=N,ct:=N,bk:=D.nx } σ H1 else D.nx σ H1
theorem ps_while {c:Expr} {body:List Stmt} {tc:TT} {tb:TS} (hp:PassesOwn (model X.prog X.w) X.A X.env X.xe) (hc:PT X c tc) (hb:PSs X body tb):PS X (.While c body [] pos) (tWhile tc tb):=by
 intro pins s σ H D I h
 obtain ⟨W,⟨m0,w0⟩,turn⟩:=h
 refine wpAny_While (codeAny_whileLoop (fun n s'=>∃ σ' H',Inv X pins σ' H' s'∧W n σ' H') ?_ m0 ⟨σ,H,I,w0⟩)
 rintro n s1 ⟨σ1,H1,I1,w1⟩
 refine wpAny_passesOwn hp (thn (hc pins s1 σ1 H1 _ I1 (turn n σ1 H1 w1)) fun b s2 ⟨H2,I2,q2⟩=>?_)
 cases b with
 | true=>
  obtain ⟨N,hN,q2⟩:=q2
  rw [if_pos rfl]
  refine wpAny_passesOwn hp (thn (hb pins s2 σ1 H2 _ I2 q2) fun f s3 q3=>?_)
  cases f with
  | next=>
   obtain ⟨σ3,H3,I3,n3⟩:=q3
   obtain ⟨m',hm,w3⟩:=hN σ3 H3 n3
   exact ⟨m',hm,σ3,H3,I3,w3⟩
  | cont=>
   obtain ⟨σ3,H3,I3,n3⟩:=q3
   obtain ⟨m',hm,w3⟩:=hN σ3 H3 n3
   exact ⟨m',hm,σ3,H3,I3,w3⟩
  | brk=>exact q3
  | ret v=>exact q3
 | false=>
  rw [if_neg Bool.false_ne_true]
  exact wpAny_execs_nil ⟨σ1,H2,I2,q2⟩
end
structure It where
 go:Nat→Hp→Prop
 yld:Nat→Hp→V→Hp→Prop
 stop:Nat→Hp→Prop
def FpOk (X:Cx) (pins:List (Addr × Obj)) (H:Hp) (b:Addr):Prop:=
 H b=none∧b≠X.env.locals∧b ∉ X.fs∧(b∈X.ex∨X.s₀.heap.objs.size≤b)∧(∀ x c,X.env.cells.lookup x=some c→c≠b)∧∀ p∈X.pn++pins,p.1≠b
theorem Inv.fpOk {X:Cx} {pins:List (Addr × Obj)} {σ:St} {H H':Hp} {s:Shared} {b:Addr} (I:Inv X pins σ H s) (hb:s.heap.objs.size≤b) (hn:H' b=none):FpOk X pins H' b:=by
 refine ⟨hn,Nat.ne_of_gt (Nat.lt_of_lt_of_le I.lt hb),I.nofs hb,.inr (Nat.le_trans I.sz hb),fun x c e z=>?_,fun p hp z=>?_⟩
 ·obtain ⟨v,q⟩:=I.cell x c e
  exact absurd (Nat.lt_of_lt_of_le q.lt (by rw [z];exact hb)) (Nat.lt_irrefl _)
 ·exact absurd (Nat.lt_of_lt_of_le (Heap.lt_size (I.pin p hp).1) (by rw [z];exact hb)) (Nat.lt_irrefl _)
structure Turn (P:Program) (w:World) (K:W.Frag) (tg:Expr) (J:It) (fp:List Addr) (it:Addr) (tn:Nat→Heap→Prop):Prop where
 mem:it∈fp
 obj:∀ i h,tn i h→∀ b∈fp,∃ o,h.get? b=some o∧∀ v,o.data≠.cell v
 keep:∀ i h h',tn i h→(∀ b∈fp,∀ o,h.get? b=some o→h'.get? b=some o)→tn i h'
 item:∀ (X:Cx),X.prog=P→X.w=w→X.K=K→X.calm=true→∀ (i:Nat) (pins:List (Addr × Obj)) (s:Shared) (σ:St) (H:Hp) (E:Value→Shared→Prop),Inv X pins σ H s→(∀ b∈fp,FpOk X pins H b)→tn i s.heap→J.go i H→
  wpAny (model P w) X.A (pyNext (.ref it)) (fun r s1=>∃ u,r=some u∧
   wpAny (model P w) X.A (letOwnedTupleGo tg (.ref it) u) (fun _ s2=>∃ x H',Inv X pins σ H' s2∧RelV x u∧J.yld i H x H'∧tn (i+1) s2.heap∧∀ b∈fp,H' b=none) E s1) E s
 done:∀ (X:Cx),X.prog=P→X.w=w→X.K=K→X.calm=true→∀ (i:Nat) (pins:List (Addr × Obj)) (s:Shared) (σ:St) (H:Hp) (E:Value→Shared→Prop),Inv X pins σ H s→(∀ b∈fp,FpOk X pins H b)→tn i s.heap→J.stop i H→
  wpAny (model P w) X.A (pyNext (.ref it)) (fun r s1=>r=none∧Inv X pins σ H s1) E s
 self:∀ (A:Around) (i:Nat) (s:Shared) (Q:Value→Shared→Prop) (E:Value→Shared→Prop),tn i s.heap→Q (.ref it) s→wpAny (model P w) A (pyIter (.ref it)) Q E s
abbrev TI:=St→Hp→(It→Hp→Prop)→Prop
def PIE (X:Cx) (pins:List (Addr × Obj)) (σ:St) (tg:Expr) (R:It→Hp→Prop) (itv:Value) (s2:Shared):Prop:=
 ∃ (it:Addr) (fp:List Addr) (tn:Nat→Heap→Prop) (J:It) (H':Hp),itv=.ref it∧Inv X pins σ H' s2∧Turn X.prog X.w X.K tg J fp it tn∧tn 0 s2.heap∧(∀ b∈fp,FpOk X pins H' b)∧R J H'
def PI (X:Cx) (tg iter:Expr) (wi:TI):Prop:=
 ∀ (pins:List (Addr × Obj)) (s:Shared) (σ:St) (H:Hp) (R:It→Hp→Prop),Inv X pins σ H s→wi σ H R→
  wpAny (model X.prog X.w) X.A (eval iter X.env) (fun v s1=>wpAny (model X.prog X.w) X.A (pyIter v) (PIE X pins σ tg R) X.xe s1) X.xe s
theorem go_of {M:Model} {A:Around} {E:Value→Shared→Prop} {s:Shared} {tg:Expr} {it:Addr} {u:Value} {o:Obj} {n:String} {vs:Array Value} {Q:Unit→Shared→Prop} (ho:s.heap.get? it=some o) (hc:o.cls=.type n) (hd:o.data=.fields vs)
  (hn:["enumerate", "zip", "dict_itemiterator", "dict_reverseitemiterator", "odict_iterator", "itertools.zip_longest", "itertools.pairwise"].contains n=false) (hQ:Q () s):wpAny M A (letOwnedTupleGo tg (.ref it) u) Q E s:=by
 unfold letOwnedTupleGo
 cases tg <;> first
  | exact wpAny_pure hQ
  | (cases u <;> first
    | exact wpAny_pure hQ
    | (refine wpAny_bind (wpAny_load ho ?_)
       rw [hc,hd]
       show wpAny M A (if (["enumerate", "zip", "dict_itemiterator", "dict_reverseitemiterator", "odict_iterator", "itertools.zip_longest", "itertools.pairwise"].contains n && vs[0]? == some (rawInt _))=true then _ else _) Q E s
       rw [if_neg (by intro h;rw [hn,Bool.false_and] at h;cases h)]
       exact wpAny_pure hQ))
def Itl (K:W.Frag) (a:Addr):It:=
 ⟨fun i H=>∃ xs x,SqL K H a xs∧xs[i]?=some x,fun i H x H'=>H'=H∧∀ xs,SqL K H a xs→xs[i]?=some x,fun i H=>∃ xs,SqL K H a xs∧xs.length≤i⟩
def Itr (lo:Int) (n:Nat):It:=⟨fun i _=>i < n,fun i H x H'=>H'=H∧x=.int (lo+i),fun i _=>n≤i⟩
theorem turn_list {P:Program} {w:World} {K:W.Frag} {tg:Expr} (a it:Addr):Turn P w K tg (Itl K a) [it] it (fun i h=>h.IsListIter it a i) where
 mem:=by simp
 obj:=fun i h st b hb=>by
  have e:b=it:=by simpa using hb
  subst e
  obtain ⟨o,e,c,d⟩:=st
  exact ⟨o,e,fun v z=>by rw [d] at z;cases z⟩
 keep:=fun i h h' st k=>st.at fun o e=>k it (by simp) o e
 item:=by
  intro X hP hw hK hc i pins s σ H E I hf st hg
  subst hP hw hK
  obtain ⟨xs,x,hq,hx⟩:=hg
  obtain ⟨its,rv,p,hz⟩:=I.list hq
  obtain ⟨u,hu,ru⟩:=rv.get hx
  obtain ⟨f0,f1,f2,f3,f4,f5⟩:=hf it (by simp)
  refine wpAny_pyNext_list_item st p.isList (x:=u) (by simpa using hu) fun h' st' sb=>?_
  have I1:Inv X pins σ H { s with heap:=h' }:=I.turned (t':=s.toks) (fun b o hb e=>(sb.2 b hb).trans e) f0 f1 f3 f4 f5
  obtain ⟨o,e,c,d⟩:=id st'
  exact ⟨u,rfl,go_of (s:={ s with heap:=h' }) e c d (by decide) ⟨x,H,I1,ru,⟨rfl,fun ys hy=>by rw [I.list_inj hy hq];exact hx⟩,st',fun b hb=>(hf b hb).1⟩⟩
 done:=by
  intro X hP hw hK hc i pins s σ H E I hf st hg
  subst hP hw hK
  obtain ⟨xs,hq,hx⟩:=hg
  obtain ⟨its,rv,p,hz⟩:=I.list hq
  obtain ⟨f0,f1,f2,f3,f4,f5⟩:=hf it (by simp)
  have hl:=rv.length
  exact wpAny_pyNext_list_end (I.ok.hd hc) st p.isList (by simp;omega) fun h' eb=>⟨rfl,I.turned (t':=s.toks) (fun b o hb e=>eb b o hb e) f0 f1 f3 f4 f5⟩
 self:=fun _ _ _ _ _ st h=>wpAny_pyIter_listiter st h
theorem turn_range {P:Program} {w:World} {K:W.Frag} {tg:Expr} (it:Addr) (lo:Int) (n:Nat):Turn P w K tg (Itr lo n) [it] it (fun i h=>IsRangeIter h it (lo+(i:Nat)*1) ((n:Int) - (i:Nat)) 1) where
 mem:=by simp
 obj:=fun i h st b hb=>by
  have e:b=it:=by simpa using hb
  subst e
  exact ⟨_,st,fun v z=>by
   have z':Data.fields _=Data.cell v:=z
   cases z'⟩
 keep:=fun i h h' st k=>k it (by simp) _ st
 item:=by
  intro X hP hw hK hc i pins s σ H E I hf st hg
  subst hP hw hK
  obtain ⟨f0,f1,f2,f3,f4,f5⟩:=hf it (by simp)
  have W:=Walks.range (prog:=X.prog) (w:=X.w) (I.ok.hd hc) it lo 1 n
  refine W.item i s _ _ hg st fun v h' tk hv st' kk=>?_
  obtain ⟨t,rfl⟩:=hv
  have I1:Inv X pins σ H { s with heap:=h',toks:=tk }:=I.turned (fun b o hb e=>kk b o (by simpa using hb) e) f0 f1 f3 f4 f5
  refine ⟨_,rfl,go_of (s:={ s with heap:=h',toks:=tk }) (n := "range_iterator") st' rfl rfl (by decide) ⟨.int (lo+i),H,I1,⟨t,?_⟩,⟨rfl,rfl⟩,st',fun b hb=>(hf b hb).1⟩⟩
  rw [Int.mul_one]
 done:=by
  intro X hP hw hK hc i pins s σ H E I hf st hg
  subst hP hw hK
  obtain ⟨f0,f1,f2,f3,f4,f5⟩:=hf it (by simp)
  exact wpAny_pyNext_range_end (I.ok.hd hc) st (by have:n≤i:=hg;omega) fun h' eb=>⟨rfl,I.turned (t':=s.toks) (fun b o hb e=>eb b o hb e) f0 f1 f3 f4 f5⟩
 self:=fun _ _ _ _ _ st h=>wpAny_pyIter_rangeiter st h
end L2
namespace L2
open PySem PySem.Spec PyProof.Rows
section
variable {X:Cx} {tg:Expr}
def iList (K:W.Frag) (tl:TE):TI:=fun σ H R=>tl σ H fun x H1=>∃ a,x=.ref a∧(∃ xs,SqL K H1 a xs)∧R (Itl K a) H1
theorem pi_list {l:Expr} {tl:TE} (hl:PE X l tl):PI X tg l (iList X.K tl):=by
 intro pins s σ H R I h
 refine thn (hl pins s σ H _ I h) fun v s1 zz24=>ep_elim zz24 fun x H1 I1 r1 q1=>?_
 obtain ⟨a,e,⟨xs,hq⟩,q⟩:=q1
 subst e
 cases r1
 obtain ⟨its,rv,p,hz⟩:=I1.list hq
 refine wpAny_pyIter_list p.isList ?_
 refine ⟨s1.heap.objs.size,[s1.heap.objs.size],_,_,H1,rfl,I1.kept (t':=s1.toks) fun b o e=>Heap.get?_push_of_some _ e,turn_list a _,⟨_,Heap.get?_push_size _ rfl,rfl,rfl⟩,fun b hb=>?_,q⟩
 have e:b=s1.heap.objs.size:=by simpa using hb
 subst e
 exact I1.fpOk (Nat.le_refl _) (I1.hok.fresh (Nat.le_refl _))
theorem range_it {pins:List (Addr × Obj)} {σ:St} {H:Hp} {s:Shared} {R:It→Hp→Prop} {E:Value→Shared→Prop} {lo hi:Int} {t u v:Tok} {tk:Nat} (I:Inv X pins σ H s) (h1:-(2 ^ 62)≤lo) (h2:lo < 2 ^ 62) (h3:-(2 ^ 62)≤hi) (h4:hi < 2 ^ 62)
  (q:R (Itr lo (hi - lo).toNat) H):wpAny (model X.prog X.w) X.A (pyIter (.ref s.heap.objs.size)) (PIE X pins σ tg R) E { s with heap:=s.heap.push { cls:=.type "range",data:=.fields #[.int lo t,.int hi u,.int 1 v] },toks:=tk }:=by
 refine wpAny_pyIter_range (IsRange.new ..) (small_one h1 h2 h3 h4) ?_
 have I1:Inv X pins σ H { s with heap:=s.heap.push { cls:=.type "range",data:=.fields #[.int lo t,.int hi u,.int 1 v] },toks:=tk }:=I.kept fun b o e=>Heap.get?_push_of_some _ e
 refine ⟨(s.heap.push { cls:=.type "range",data:=.fields #[.int lo t,.int hi u,.int 1 v] }).objs.size,[(s.heap.push { cls:=.type "range",data:=.fields #[.int lo t,.int hi u,.int 1 v] }).objs.size],_,_,H,rfl,
  I1.kept (t':=tk) fun b o e=>Heap.get?_push_of_some _ e,turn_range _ lo (hi - lo).toNat,?_,fun b hb=>?_,q⟩
 ·have e1:lo+((0:Nat):Int)*1=lo:=by simp
  have e2:(((hi - lo).toNat:Nat):Int) - ((0:Nat):Int)=Builtin.Range.rangeSize lo hi 1:=by rw [rangeSize_one];split <;> omega
  show IsRangeIter _ _ (lo+((0:Nat):Int)*1) ((((hi - lo).toNat:Nat):Int) - ((0:Nat):Int)) 1
  rw [e1,e2]
  exact Heap.get?_push_size _ rfl
 ·have e:b=(s.heap.push { cls:=.type "range",data:=.fields #[.int lo t,.int hi u,.int 1 v] }).objs.size:=by simpa using hb
  subst e
  exact I1.fpOk (Nat.le_refl _) (I1.hok.fresh (Nat.le_refl _))
def iRng1 (ta:TA):TI:=fun σ H R=>ta σ H fun vs H1=>∃ j:Int,vs=[.int j]∧-(2 ^ 62)≤j∧j < 2 ^ 62∧R (Itr 0 j.toNat) H1
theorem pi_range1 {a:Expr} {ta:TA} {p pos:Pos} (hg:Gl X "range") (hm:X.mg "range" = none) (ha:PA X [a] ta) (hs:starEach [a] X.env=[(false,eval a X.env)]:=by rfl):PI X tg (.Call (.Name "range" p) [a] [] pos) (iRng1 ta):=by
 intro pins s σ H R I h
 refine Call_ (ld_blt I hg hm boot_range (PyProof.Rows.callWith_type1 (thn (ha pos pins s σ H _ I h) fun us s1 zz26=>ap_elim zz26 fun vs H1 I1 r1 q1=>?_) hs rfl))
 obtain ⟨j,e,q1,q2,q⟩:=q1
 subst e
 cases r1 with
 | cons r rr=>
  cases rr
  obtain ⟨t,rfl⟩:=r
  exact call_range_1 (range_it I1 (by omega) (by omega) q1 q2 (by simpa using q))
def tFor (wi:TI) (g:TG) (tb:TS):TS:=fun D σ H=>wi σ H fun J H1=>∃ W:Nat→Nat→St→Hp→Prop,(∃ m,W 0 m σ H1)∧∀ i m σ H,W i m σ H→
 (J.stop i H∧D.nx σ H)∨(J.go i H∧∃ N:St→Hp→Prop,(∀ σ' H',N σ' H'→∃ m',m' < m∧W (i+1) m' σ' H')∧∀ x H',J.yld i H x H'→g x σ H' fun σ2 H2=>tb { D with nx:=N,ct:=N,bk:=D.nx } σ2 H2)
def pinsAt (fp:List Addr) (h:Heap):List (Addr × Obj):=fp.filterMap fun b=>(h.get? b).map fun o=>(b,o)
theorem mem_pinsAt {fp:List Addr} {h:Heap} {b:Addr} {o:Obj} (hb:b∈fp) (e:h.get? b=some o):(b,o)∈pinsAt fp h:=List.mem_filterMap.mpr ⟨b,hb,by rw [e];rfl⟩
theorem of_pinsAt {fp:List Addr} {h:Heap} {p:Addr × Obj} (hp:p∈pinsAt fp h):p.1∈fp∧h.get? p.1=some p.2:=by
 obtain ⟨b,hb,e⟩:=List.mem_filterMap.mp hp
 cases q:h.get? b with
 | none=>rw [q] at e;cases e
 | some o=>
  rw [q] at e
  have e':(b,o)=p:=Option.some.inj e
  subst e'
  exact ⟨hb,q⟩
theorem Inv.pinned {pins:List (Addr × Obj)} {σ:St} {H:Hp} {s:Shared} {fp:List Addr} (I:Inv X pins σ H s) (hf:∀ b∈fp,FpOk X pins H b) (ho:∀ b∈fp,∃ o,s.heap.get? b=some o∧∀ v,o.data≠.cell v):Inv X (pins++pinsAt fp s.heap) σ H s:=
 I.pins_of fun p hp=>(List.mem_append.mp hp).elim (fun z=>I.pin p (List.mem_append_right _ z)) fun z=>by
  obtain ⟨hb,e⟩:=of_pinsAt z
  obtain ⟨f0,f1,f2,_⟩:=hf p.1 hb
  obtain ⟨o,e',d⟩:=ho p.1 hb
  rw [e] at e';cases e'
  exact ⟨e,f0,f1,f2,d⟩
theorem Inv.unpinned {pins pl:List (Addr × Obj)} {σ:St} {H:Hp} {s:Shared} (I:Inv X (pins++pl) σ H s):Inv X pins σ H s:=I.pins_of fun p hp=>I.pin p (List.mem_append_right _ (List.mem_append_left _ hp))
theorem ps_for {iter:Expr} {body:List Stmt} {wi:TI} {g:TG} {tb:TS} {pos:Pos} (hp:PassesOwn (model X.prog X.w) X.A X.env X.xe) (hc:X.calm=true) (hi:PI X tg iter wi) (hg:PG X tg g) (hb:PSs X body tb)
  (hs:∀ x,foldedSetIterable iter X.env x=pure x:=by intro _;rfl):PS X (.For tg iter body [] pos) (tFor wi g tb):=by
 intro pins s σ H D I h
 refine wpAny_For (thn (hi pins s σ H _ I h) fun v s1 h1=>thn h1 fun itv s2 h2=>?_) hs
 obtain ⟨it,fp,tn,J,H2,e,I2,T,st2,f2,W,⟨m0,w0⟩,turn⟩:=h2
 subst e
 have stat:∀ {H':Hp},(∀ b∈fp,H' b=none)→∀ b∈fp,FpOk X pins H' b:=fun hn b hb=>⟨hn b hb,(f2 b hb).2⟩
 refine codeAny_forLoop_any (fun n s'=>∃ i σ' H',Inv X pins σ' H' s'∧tn i s'.heap∧(∀ b∈fp,H' b=none)∧W i n σ' H') ?_ m0 ⟨0,σ,H2,I2,st2,fun b hb=>(f2 b hb).1,w0⟩
 rintro n s3 ⟨i,σ3,H3,I3,st3,fr3,w3⟩
 rcases turn i n σ3 H3 w3 with ⟨stop,qn⟩ | ⟨go,N,hN,step⟩
 ·refine wpAny_passesOwn hp (thn (T.done X rfl rfl rfl hc i pins s3 σ3 H3 X.xe I3 (stat fr3) st3 stop) fun r s4 ⟨hr,I4⟩=>?_)
  subst hr
  exact wpAny_execs_nil ⟨σ3,H3,I4,qn⟩
 ·refine wpAny_passesOwn hp (thn (T.item X rfl rfl rfl hc i pins s3 σ3 H3 X.xe I3 (stat fr3) st3 go) fun r s4 ⟨u,hr,h4⟩=>?_)
  subst hr
  refine wpAny_passesOwn hp (thn h4 fun _ s5 ⟨x,H5,I5,r5,y5,st5,fr5⟩=>?_)
  have I5':=I5.pinned (stat fr5) (T.obj _ _ st5)
  refine wpAny_passesOwn hp (thn (hg _ s5 σ3 H5 x u _ I5' r5 (step x H5 y5)) fun _ s6 ⟨σ6,H6,I6,q6⟩=>?_)
  refine wpAny_passesOwn hp (thn (hb _ s6 σ6 H6 _ I6 q6) fun f s7 q7=>?_)
  have again:∀ {σ7:St} {H7:Hp},Inv X (pins++pinsAt fp s5.heap) σ7 H7 s7→N σ7 H7→∃ m,m < n∧∃ i σ' H',Inv X pins σ' H' s7∧tn i s7.heap∧(∀ b∈fp,H' b=none)∧W i m σ' H':=fun {σ7 H7} I7 n7=>by
   obtain ⟨m',hm,w7⟩:=hN σ7 H7 n7
   refine ⟨m',hm,i+1,σ7,H7,I7.unpinned,T.keep _ _ _ st5 fun b hb o e=>(I7.pin (b,o) (List.mem_append_right _ (List.mem_append_right _ (mem_pinsAt hb e)))).1,fun b hb=>?_,w7⟩
   obtain ⟨o,e,d⟩:=T.obj _ _ st5 b hb
   exact (I7.pin (b,o) (List.mem_append_right _ (List.mem_append_right _ (mem_pinsAt hb e)))).2.1
  cases f with
  | next=>obtain ⟨σ7,H7,I7,n7⟩:=q7;exact again I7 n7
  | cont=>obtain ⟨σ7,H7,I7,n7⟩:=q7;exact again I7 n7
  | brk=>obtain ⟨σ7,H7,I7,q7⟩:=q7;exact ⟨σ7,H7,I7.unpinned,q7⟩
  | ret v=>obtain ⟨x7,σ7,H7,I7,r7,q7⟩:=q7;exact ⟨x7,σ7,H7,I7.unpinned,r7,q7⟩
end
theorem for_list {K:W.Frag} {a:Addr} {xs:List V} {g:TG} {tb:TS} {D:Ends} {σ:St} {H:Hp} (Pv:Nat→St→Hp→Prop) (h0:Pv 0 σ H) (hl:∀ i σ H,i≤xs.length→Pv i σ H→SqL K H a xs)
  (hs:∀ i x σ H,xs[i]?=some x→Pv i σ H→g x σ H fun σ2 H2=>tb { D with nx:=Pv (i+1),ct:=Pv (i+1),bk:=D.nx } σ2 H2) (hd:∀ σ H,Pv xs.length σ H→D.nx σ H) :
  ∃ W:Nat→Nat→St→Hp→Prop,(∃ m,W 0 m σ H)∧∀ i m σ H,W i m σ H→
   ((Itl K a).stop i H∧D.nx σ H)∨((Itl K a).go i H∧∃ N:St→Hp→Prop,(∀ σ' H',N σ' H'→∃ m',m' < m∧W (i+1) m' σ' H')∧∀ x H',(Itl K a).yld i H x H'→g x σ H' fun σ2 H2=>tb { D with nx:=N,ct:=N,bk:=D.nx } σ2 H2):=by
 refine ⟨fun i m σ H=>m=xs.length - i∧i≤xs.length∧Pv i σ H,⟨xs.length,by simp,Nat.zero_le _,h0⟩,?_⟩
 rintro i m σ H ⟨rfl,hi,p⟩
 have q:=hl i σ H hi p
 by_cases hlt:i < xs.length
 ·refine .inr ⟨⟨xs,xs[i],q,by simp [hlt]⟩,Pv (i+1),fun σ' H' p'=>⟨xs.length - (i+1),by omega,rfl,hlt,p'⟩,fun x H' y=>?_⟩
  obtain ⟨e,y⟩:=y
  subst e
  exact hs i x σ _ (y xs q) p
 ·have e:i=xs.length:=by omega
  subst e
  exact .inl ⟨⟨xs,q,Nat.le_refl _⟩,hd σ H p⟩
theorem for_range {lo:Int} {n:Nat} {g:TG} {tb:TS} {D:Ends} {σ:St} {H:Hp} (Pv:Nat→St→Hp→Prop) (h0:Pv 0 σ H)
  (hs:∀ i σ H,i < n→Pv i σ H→g (.int (lo+i)) σ H fun σ2 H2=>tb { D with nx:=Pv (i+1),ct:=Pv (i+1),bk:=D.nx } σ2 H2) (hd:∀ σ H,Pv n σ H→D.nx σ H) :
  ∃ W:Nat→Nat→St→Hp→Prop,(∃ m,W 0 m σ H)∧∀ i m σ H,W i m σ H→
   ((Itr lo n).stop i H∧D.nx σ H)∨((Itr lo n).go i H∧∃ N:St→Hp→Prop,(∀ σ' H',N σ' H'→∃ m',m' < m∧W (i+1) m' σ' H')∧∀ x H',(Itr lo n).yld i H x H'→g x σ H' fun σ2 H2=>tb { D with nx:=N,ct:=N,bk:=D.nx } σ2 H2):=by
 refine ⟨fun i m σ H=>m=n - i∧i≤n∧Pv i σ H,⟨n,by simp,Nat.zero_le _,h0⟩,?_⟩
 rintro i m σ H ⟨rfl,hi,p⟩
 by_cases hlt:i < n
 ·refine .inr ⟨hlt,Pv (i+1),fun σ' H' p'=>⟨n - (i+1),by omega,rfl,hlt,p'⟩,fun x H' y=>?_⟩
  obtain ⟨e,y⟩:=y
  subst e y
  exact hs i σ _ hlt p
 ·have e:i=n:=by omega
  subst e
  exact .inl ⟨Nat.le_refl _,hd σ H p⟩
theorem while_by {c:TT} {tb:TS} {D:Ends} {σ:St} {H:Hp} (Pv:St→Hp→Prop) (μ:St→Hp→Nat) (h0:Pv σ H)
  (hs:∀ σ H,Pv σ H→c σ H fun b H1=>if b=true then tb { D with nx:=fun σ' H'=>Pv σ' H'∧μ σ' H' < μ σ H,ct:=fun σ' H'=>Pv σ' H'∧μ σ' H' < μ σ H,bk:=D.nx } σ H1 else D.nx σ H1)
  (mono:∀ σ H Q Q',(∀ b H1,Q b H1→Q' b H1)→c σ H Q→c σ H Q'):tWhile c tb D σ H:=by
 refine ⟨fun m σ H=>m=μ σ H∧Pv σ H,⟨_,rfl,h0⟩,?_⟩
 rintro m σ H ⟨rfl,p⟩
 refine mono σ H _ _ (fun b H1 q=>?_) (hs σ H p)
 cases b with
 | true=>exact ⟨_,fun σ' H' ⟨p',l⟩=>⟨_,l,rfl,p'⟩,q⟩
 | false=>exact q
end L2
namespace L2
open PySem PySem.Spec PyProof.Rows
abbrev R2:=V→V→Hp→VK→Prop
def OpR (X:Cx) (f:Value→Value→Sem Value) (r:R2):Prop:=
 ∀ (pins:List (Addr × Obj)) (s:Shared) (σ:St) (H:Hp) (x y:V) (v u:Value) (Q:VK),Inv X pins σ H s→RelV x v→RelV y u→r x y H Q→
  wpAny (model X.prog X.w) X.A (f v u) (EP X pins σ Q) X.xe s
def UnR (X:Cx) (f:Value→Sem Value) (r:V→Hp→VK→Prop):Prop:=
 ∀ (pins:List (Addr × Obj)) (s:Shared) (σ:St) (H:Hp) (x:V) (v:Value) (Q:VK),Inv X pins σ H s→RelV x v→r x H Q→
  wpAny (model X.prog X.w) X.A (f v) (EP X pins σ Q) X.xe s
def CallR (X:Cx) (f:Value) (r:List V→Hp→VK→Prop):Prop:=
 ∀ (pins:List (Addr × Obj)) (s:Shared) (σ:St) (H:Hp) (xs:List V) (us:List Value) (Q:VK),Inv X pins σ H s→Vals xs us→r xs H Q→
  wpAny (model X.prog X.w) X.A (call f us) (EP X pins σ Q) X.xe s
def tOp (r:R2) (ta tb:TE):TE:=fun σ H Q=>ta σ H fun x H1=>tb σ H1 fun y H2=>r x y H2 Q
def tUn (r:V→Hp→VK→Prop) (ta:TE):TE:=fun σ H Q=>ta σ H fun x H1=>r x H1 Q
inductive rII (C:Int→Int→Prop) (g:Int→Int→V) (x y:V) (H:Hp) (Q:VK):Prop
 | mk (i j:Int):(x=.int i)→(y=.int j)→(C i j)→(Q (g i j) H)→rII C g x y H Q
def rI (C:Int→Int→Prop) (g:Int→Int→V):R2:=fun x y H Q=>rII C g x y H Q
inductive rI0I (g:Int→Int→V) (x y:V) (H:Hp) (Q:VK):Prop
 | mk (i j:Int):(x=.int i)→(y=.int j)→(Q (g i j) H)→rI0I g x y H Q
def rI0 (g:Int→Int→V):R2:=fun x y H Q=>rI0I g x y H Q
def rU (g:Int→V):V→Hp→VK→Prop:=fun x H Q=>∃ i,x=.int i∧Q (g i) H
section
variable {X:Cx} {a b c:Expr} {ta tb tc:TE} {pos:Pos}
theorem binT (ha:PE X a ta) (hb:PE X b tb) {pins:List (Addr × Obj)} {s:Shared} {σ:St} {H:Hp} {R:V→V→Hp→Prop} (I:Inv X pins σ H s)
  (h:ta σ H fun x H1=>tb σ H1 fun y H2=>R x y H2) {Q:Value→Shared→Prop} {f:Value→Value→Sem Value}
  (hf:∀ v u s2 x y H2,Inv X pins σ H2 s2→RelV x v→RelV y u→R x y H2→wpAny (model X.prog X.w) X.A (f v u) Q X.xe s2) :
  wpAny (model X.prog X.w) X.A (eval a X.env) (fun v s₁=>wpAny (model X.prog X.w) X.A (eval b X.env) (fun u s₂=>wpAny (model X.prog X.w) X.A (f v u) Q X.xe s₂) X.xe s₁) X.xe s:=by
 refine thn (ha pins s σ H _ I h) fun v s1 zz28=>ep_elim zz28 fun x H1 I1 r1 q1=>?_
 refine thn (hb pins s1 σ H1 _ I1 q1) fun u s2 zz29=>ep_elim zz29 fun y H2 I2 r2 q2=>?_
 exact hf v u s2 x y H2 I2 r1 r2 q2
theorem pe_op {op:Operator} {r:R2} (ho:OpR X (binaryOp op) r) (ha:PE X a ta) (hb:PE X b tb):PE X (.BinOp a op b pos) (tOp r ta tb):=by
 intro pins s σ H Q I h
 exact wpAny_BinOp (binT ha hb I h fun v u s2 x y H2 I2 rx ry q=>ho pins s2 σ H2 x y v u Q I2 rx ry q)
theorem pe_un {op:UnaryOp} {r:V→Hp→VK→Prop} (ho:UnR X (unaryOp op) r) (ha:PE X a ta):PE X (.UnaryOp op a pos) (tUn r ta):=by
 intro pins s σ H Q I h
 exact UnaryOp_ (thn (ha pins s σ H _ I h) fun v s1 zz30=>ep_elim zz30 fun x H1 I1 r1 q1=>ho pins s1 σ H1 x v Q I1 r1 q1)
theorem opI {f:Value→Value→Sem Value} {C:Int→Int→Prop} {g:Int→Int→Int}
  (rule:∀ (i j:Int) (t u:Tok) (s:Shared) (Q:Value→Shared→Prop) (E:Value→Shared→Prop),C i j→Q (.int (g i j) s.toks) { s with toks:=s.toks+1 }→wpAny (model X.prog X.w) X.A (f (.int i t) (.int j u)) Q E s) :
  OpR X f (rI C fun i j=>.int (g i j)):=by
 intro pins s σ H x y v u Q I rx ry h
 obtain ⟨i,j,rfl,rfl,hc,q⟩:=h
 obtain ⟨t,rfl⟩:=rx
 obtain ⟨t',rfl⟩:=ry
 exact rule i j t t' s _ _ hc ⟨.int (g i j),H,I.tok _,⟨_,rfl⟩,q⟩
theorem opI0 {f:Value→Value→Sem Value} {g:Int→Int→Int}
  (rule:∀ (i j:Int) (t u:Tok) (s:Shared) (Q:Value→Shared→Prop) (E:Value→Shared→Prop),Q (.int (g i j) s.toks) { s with toks:=s.toks+1 }→wpAny (model X.prog X.w) X.A (f (.int i t) (.int j u)) Q E s) :
  OpR X f (rI0 fun i j=>.int (g i j)):=by
 intro pins s σ H x y v u Q I rx ry h
 obtain ⟨i,j,rfl,rfl,q⟩:=h
 obtain ⟨t,rfl⟩:=rx
 obtain ⟨t',rfl⟩:=ry
 exact rule i j t t' s _ _ ⟨.int (g i j),H,I.tok _,⟨_,rfl⟩,q⟩
theorem opB0 {f:Value→Value→Sem Value} {g:Int→Int→Bool}
  (rule:∀ (i j:Int) (t u:Tok) (s:Shared) (Q:Value→Shared→Prop) (E:Value→Shared→Prop),Q (.bool (g i j)) s→wpAny (model X.prog X.w) X.A (f (.int i t) (.int j u)) Q E s) :
  OpR X f (rI0 fun i j=>.bl (g i j)):=by
 intro pins s σ H x y v u Q I rx ry h
 obtain ⟨i,j,rfl,rfl,q⟩:=h
 obtain ⟨t,rfl⟩:=rx
 obtain ⟨t',rfl⟩:=ry
 exact rule i j t t' s _ _ ⟨.bl (g i j),H,I,rfl,q⟩
def CDiv (i j:Int):Prop:=0 < j∧j < 1073741824
def CPow (i j:Int):Prop:=0≤j∧j≤1000000∧i.natAbs < 2 ^ 64
def CMul (i j:Int):Prop:=(-(2 ^ 64) < i∧i < 2 ^ 64)∨(-(2 ^ 64) < j∧j < 2 ^ 64)
theorem CMul.ok {i j:Int} (h:CMul i j):IntMulOk i j:=by
 rcases h with ⟨h1,h2⟩ | ⟨h1,h2⟩
 ·exact .of_left (intBits_le_64 h1 h2)
 ·exact .of_right (intBits_le_64 h1 h2)
theorem op_add:OpR X (binaryOp .Add) (rI0 fun i j=>.int (i+j)):=opI0 fun _ _ _ _ _ _ _ q=>add_int q
theorem op_sub:OpR X (binaryOp .Sub) (rI0 fun i j=>.int (i - j)):=opI0 fun _ _ _ _ _ _ _ q=>sub_int q
theorem op_mul:OpR X (binaryOp .Mult) (rI CMul fun i j=>.int (i*j)):=opI fun _ _ _ _ _ _ _ hc q=>mul_int q hc.ok
theorem op_fdiv:OpR X (binaryOp .FloorDiv) (rI CDiv fun i j=>.int (i / j)):=opI fun i j _ _ _ _ _ hc q=>by
 have h1:(0:Int) < j:=hc.1
 have h2:j < 1073741824:=hc.2
 exact floordiv_int (by omega) (by rw [Int.fdiv_eq_ediv_of_nonneg i (by omega)];exact q) (.inl (PyProof.noPylong_small (by omega)))
theorem op_mod:OpR X (binaryOp .Mod) (rI (fun _ j=>0 < j) fun i j=>.int (i % j)):=opI fun i j _ _ _ _ _ hc q=>by
 have h1:(0:Int) < j:=hc
 exact mod_int' (by omega) (by rw [Int.fmod_eq_emod_of_nonneg i (by omega)];exact q)
theorem op_pow:OpR X (binaryOp .Pow) (rI CPow fun i j=>.int (i ^ j.toNat)):=opI fun _ _ _ _ _ _ _ hc q=>pow_int_small hc.1 hc.2.1 hc.2.2 q
theorem unI {f:Value→Sem Value} {g:Int→Int}
  (rule:∀ (i:Int) (t:Tok) (s:Shared) (Q:Value→Shared→Prop) (E:Value→Shared→Prop),Q (.int (g i) s.toks) { s with toks:=s.toks+1 }→wpAny (model X.prog X.w) X.A (f (.int i t)) Q E s) :
  UnR X f (rU fun i=>.int (g i)):=by
 intro pins s σ H x v Q I rx h
 obtain ⟨i,rfl,q⟩:=h
 obtain ⟨t,rfl⟩:=rx
 exact rule i t s _ _ ⟨.int (g i),H,I.tok _,⟨_,rfl⟩,q⟩
theorem un_neg:UnR X (unaryOp .USub) (rU fun i=>.int (-i)):=unI fun _ _ _ _ _ q=>neg_int q
end
def scal:V→V→Bool
 | .non,.non=>true | .non,.int _=>true | .int _,.non=>true | .non,.bl _=>true | .bl _,.non=>true | .non,.str _=>true | .str _,.non=>true
 | .int _,.int _=>true | .bl _,.bl _=>true | .str _,.str _=>true | .byt _,.byt _=>true
 | .int _,.str _=>true | .str _,.int _=>true | .bl _,.str _=>true | .str _,.bl _=>true
 | _,_=>false
def rEq:R2:=fun x y H Q=>scal x y=true∧Q (.bl (decide (x=y))) H
def rNe:R2:=fun x y H Q=>scal x y=true∧Q (.bl (!decide (x=y))) H
theorem dec_int {i j:Int}:decide (V.int i=V.int j)=(i == j):=by
 rw [Bool.eq_iff_iff]
 simp
theorem dec_bl {i j:Bool}:decide (V.bl i=V.bl j)=(i == j):=by
 rw [Bool.eq_iff_iff]
 simp
theorem dec_str {i j:Str}:decide (V.str i=V.str j)=(i == j):=by
 rw [Bool.eq_iff_iff]
 simp
theorem dec_byt {i j:Array UInt8}:decide (V.byt i=V.byt j)=(i.toList == j.toList):=by
 rw [Bool.eq_iff_iff]
 cases i
 cases j
 simp
section
variable {X:Cx} {a b c:Expr} {ta tb tc:TE} {pos:Pos}
theorem fin_bl {pins:List (Addr × Obj)} {σ:St} {H:Hp} {s:Shared} {Q:VK} {k k':Bool} (I:Inv X pins σ H s) (q:Q (.bl k) H) (e:k=k'):EP X pins σ Q (.bool k') s:=by
 subst e
 exact ⟨.bl k,H,I,rfl,q⟩
theorem op_eq:OpR X (compareOp .Eq) rEq:=by
 intro pins s σ H x y v u Q I rx ry h
 obtain ⟨hs,q⟩:=h
 cases x with
 | non=>
  cases rx
  cases y with
  | non=>cases ry;exact PySem.EqNone.eq_none_none (fin_bl I q (by simp))
  | bl j=>cases ry;exact PySem.EqNone.eq_none_bool (fin_bl I q (by simp))
  | int j=>obtain ⟨t',rfl⟩:=ry;exact PySem.EqNone.eq_none_int (fin_bl I q (by simp))
  | str j=>obtain ⟨t',rfl⟩:=ry;exact PySem.EqNone.eq_none_str (fin_bl I q (by simp))
  | _=>exact absurd (show false=true from hs) Bool.false_ne_true
 | bl i=>
  cases rx
  cases y with
  | non=>cases ry;exact PySem.EqNone.eq_bool_none (fin_bl I q (by simp))
  | bl j=>cases ry;exact eq_bool (fin_bl I q dec_bl)
  | str j=>obtain ⟨t',rfl⟩:=ry;exact PySem.EqMixed.eq_bool_str (fin_bl I q (by simp))
  | _=>exact absurd (show false=true from hs) Bool.false_ne_true
 | int i=>
  obtain ⟨t,rfl⟩:=rx
  cases y with
  | non=>cases ry;exact PySem.EqNone.eq_int_none (fin_bl I q (by simp))
  | int j=>obtain ⟨t',rfl⟩:=ry;exact eq_int (fin_bl I q dec_int)
  | str j=>obtain ⟨t',rfl⟩:=ry;exact PySem.EqMixed.eq_int_str (fin_bl I q (by simp))
  | _=>exact absurd (show false=true from hs) Bool.false_ne_true
 | str i=>
  obtain ⟨t,rfl⟩:=rx
  cases y with
  | non=>cases ry;exact PySem.EqNone.eq_str_none (fin_bl I q (by simp))
  | bl j=>cases ry;exact PySem.EqMixed.eq_str_bool (fin_bl I q (by simp))
  | int j=>obtain ⟨t',rfl⟩:=ry;exact PySem.EqMixed.eq_str_int (fin_bl I q (by simp))
  | str j=>obtain ⟨t',rfl⟩:=ry;exact eq_str (fin_bl I q dec_str)
  | _=>exact absurd (show false=true from hs) Bool.false_ne_true
 | byt i=>
  obtain ⟨t,rfl⟩:=rx
  cases y with
  | byt j=>obtain ⟨t',rfl⟩:=ry;exact W.eq_bytes (fin_bl I q dec_byt)
  | _=>exact absurd (show false=true from hs) Bool.false_ne_true
 | _=>cases y <;> exact absurd (show false=true from hs) Bool.false_ne_true
theorem op_ne:OpR X (compareOp .NotEq) rNe:=by
 intro pins s σ H x y v u Q I rx ry h
 obtain ⟨hs,q⟩:=h
 cases x with
 | non=>
  cases rx
  cases y with
  | non=>cases ry;exact PySem.EqNone.ne_none_none (fin_bl I q (by simp))
  | bl j=>cases ry;exact PySem.EqNone.ne_none_bool (fin_bl I q (by simp))
  | int j=>obtain ⟨t',rfl⟩:=ry;exact PySem.EqNone.ne_none_int (fin_bl I q (by simp))
  | str j=>obtain ⟨t',rfl⟩:=ry;exact PySem.EqNone.ne_none_str (fin_bl I q (by simp))
  | _=>exact absurd (show false=true from hs) Bool.false_ne_true
 | bl i=>
  cases rx
  cases y with
  | non=>cases ry;exact PySem.EqNone.ne_bool_none (fin_bl I q (by simp))
  | bl j=>cases ry;exact ne_bool (fin_bl I q (congrArg not dec_bl))
  | str j=>obtain ⟨t',rfl⟩:=ry;exact PySem.EqMixed.ne_bool_str (fin_bl I q (by simp))
  | _=>exact absurd (show false=true from hs) Bool.false_ne_true
 | int i=>
  obtain ⟨t,rfl⟩:=rx
  cases y with
  | non=>cases ry;exact PySem.EqNone.ne_int_none (fin_bl I q (by simp))
  | int j=>obtain ⟨t',rfl⟩:=ry;exact ne_int (fin_bl I q (congrArg not dec_int))
  | str j=>obtain ⟨t',rfl⟩:=ry;exact PySem.EqMixed.ne_int_str (fin_bl I q (by simp))
  | _=>exact absurd (show false=true from hs) Bool.false_ne_true
 | str i=>
  obtain ⟨t,rfl⟩:=rx
  cases y with
  | non=>cases ry;exact PySem.EqNone.ne_str_none (fin_bl I q (by simp))
  | bl j=>cases ry;exact PySem.EqMixed.ne_str_bool (fin_bl I q (by simp))
  | int j=>obtain ⟨t',rfl⟩:=ry;exact PySem.EqMixed.ne_str_int (fin_bl I q (by simp))
  | str j=>obtain ⟨t',rfl⟩:=ry;exact ne_str (fin_bl I q (congrArg not dec_str))
  | _=>exact absurd (show false=true from hs) Bool.false_ne_true
 | byt i=>
  obtain ⟨t,rfl⟩:=rx
  cases y with
  | byt j=>obtain ⟨t',rfl⟩:=ry;exact W.ne_bytes (fin_bl I q (congrArg not dec_byt))
  | _=>exact absurd (show false=true from hs) Bool.false_ne_true
 | _=>cases y <;> exact absurd (show false=true from hs) Bool.false_ne_true
theorem op_lt:OpR X (compareOp .Lt) (rI0 fun i j=>.bl (decide (i < j))):=opB0 fun _ _ _ _ _ _ _ q=>lt_int q
theorem op_le:OpR X (compareOp .LtE) (rI0 fun i j=>.bl (decide (i≤j))):=opB0 fun _ _ _ _ _ _ _ q=>le_int q
theorem op_gt:OpR X (compareOp .Gt) (rI0 fun i j=>.bl (decide (j < i))):=opB0 fun _ _ _ _ _ _ _ q=>gt_int q
theorem op_ge:OpR X (compareOp .GtE) (rI0 fun i j=>.bl (decide (j≤i))):=opB0 fun _ _ _ _ _ _ _ q=>ge_int q
theorem nomark (b:Expr) {op:CmpOp} (h:op≠.In:=by decide) (h2:op≠.NotIn:=by decide):behindInMarks op b=false:=by
 have e1:(op == CmpOp.In)=false:=by cases op <;> first | rfl | exact absurd rfl h
 have e2:(op == CmpOp.NotIn)=false:=by cases op <;> first | rfl | exact absurd rfl h2
 cases b <;> simp [behindInMarks,e1,e2]
theorem pe_cmpR {op:CmpOp} {r:R2} (ho:OpR X (compareOp op) r) (ha:PE X a ta) (hb:PE X b tb) (hm:behindInMarks op b=false):PE X (.Compare a [op] [b] pos) (tOp r ta tb):=by
 intro pins s σ H Q I h
 exact wpAny_Compare1 (binT ha hb I h fun v u s2 x y H2 I2 rx ry q=>ho pins s2 σ H2 x y v u Q I2 rx ry q) hm
inductive blI (x:V) (H:Hp) (Q:Bool→Hp→Prop):Prop
 | mk (k:Bool):(x=.bl k)→(Q k H)→blI x H Q
def tTest (t:TE):TT:=fun σ H Q=>t σ H fun x H'=>blI x H' Q
theorem pt_cmpR {op:CmpOp} {r:R2} (ho:OpR X (compareOp op) r) (ha:PE X a ta) (hb:PE X b tb) (hm:behindInMarks op b=false):PT X (.Compare a [op] [b] pos) (tTest (tOp r ta tb)):=by
 intro pins s σ H Q I h
 refine wpAny_isTrue_Compare1 (thn (ha pins s σ H _ I h) fun v s1 zz31=>ep_elim zz31 fun x H1 I1 r1 q1=>thn (hb pins s1 σ H1 _ I1 q1) fun u s2 zz32=>ep_elim zz32 fun y H2 I2 r2 q2=>
  thn (ho pins s2 σ H2 x y v u _ I2 r1 r2 q2) fun c s3 ⟨z,H3,I3,r3,k,e,q3⟩=>?_) hm
 subst e
 cases r3
 exact wpAny_truthy_bool ⟨H3,I3,q3⟩
def tChain (r r':R2) (ta tb tc:TE):TE:=fun σ H Q=>ta σ H fun x H1=>tb σ H1 fun y H2=>r x y H2 fun z H3=>∃ k,z=.bl k∧
 (if k=true then tc σ H3 fun w' H4=>r' y w' H4 Q else Q (.bl false) H3)
theorem pe_chain {op op':CmpOp} {r r':R2} (ho:OpR X (compareOp op) r) (ho':OpR X (compareOp op') r') (ha:PE X a ta) (hb:PE X b tb) (hc:PE X c tc)
  (hm:lastMarks [op,op'] [b,c]=false:=by with_unfolding_all rfl):PE X (.Compare a [op,op'] [b,c] pos) (tChain r r' ta tb tc):=by
 intro pins s σ H Q I h
 refine Compare_chain (thn (ha pins s σ H _ I h) fun v s1 zz33=>ep_elim zz33 fun x H1 I1 r1 q1=>chain_link (thn (hb pins s1 σ H1 _ I1 q1) fun u s2 zz34=>ep_elim zz34 fun y H2 I2 r2 q2=>
  thn (ho pins s2 σ H2 x y v u _ I2 r1 r2 q2) fun d s3 ⟨z,H3,I3,r3,k,e,q3⟩=>?_)) hm
 subst e
 cases r3
 refine wpAny_truthy_bool ?_
 cases k with
 | false=>exact ite_ff ⟨.bl false,H3,I3,rfl,q3⟩
 | true=>exact ite_tt (chain_last (thn (hc pins s3 σ H3 _ I3 q3) fun w' s4 ⟨z',H4,I4,r4,q4⟩=>ho' pins s4 σ H4 y z' u w' Q I4 r2 r4 q4))
theorem pt_chain {op op':CmpOp} {r r':R2} (ho:OpR X (compareOp op) r) (ho':OpR X (compareOp op') r') (ha:PE X a ta) (hb:PE X b tb) (hc:PE X c tc)
  (hm:lastMarks [op,op'] [b,c]=false:=by with_unfolding_all rfl):PT X (.Compare a [op,op'] [b,c] pos) (tTest (tChain r r' ta tb tc)):=by
 intro pins s σ H Q I h
 refine isTrue_chain (thn (ha pins s σ H _ I h) fun v s1 zz35=>ep_elim zz35 fun x H1 I1 r1 q1=>test_link (thn (hb pins s1 σ H1 _ I1 q1) fun u s2 zz36=>ep_elim zz36 fun y H2 I2 r2 q2=>
  thn (ho pins s2 σ H2 x y v u _ I2 r1 r2 q2) fun d s3 ⟨z,H3,I3,r3,k,e,q3⟩=>?_)) hm
 subst e
 cases r3
 refine wpAny_truthy_bool ?_
 cases k with
 | false=>
  obtain ⟨k',e',q'⟩:=q3
  cases e'
  exact ite_ff ⟨H3,I3,q'⟩
 | true=>
  refine ite_tt (test_last (thn (hc pins s3 σ H3 _ I3 q3) fun w' s4 ⟨z',H4,I4,r4,q4⟩=>thn (ho' pins s4 σ H4 y z' u w' _ I4 r2 r4 q4) fun d' s5 ⟨z2,H5,I5,r5,k2,e2,q5⟩=>?_))
  subst e2
  cases r5
  exact wpAny_truthy_bool ⟨H5,I5,q5⟩
theorem line63:(sizeLine:Nat) < 2 ^ 63:=by rw [sizeLine_eq];decide
theorem vals1 {x:V} {us:List Value} (r:Vals [x] us):∃ u,us=[u]∧RelV x u:=by
 cases r with
 | cons r1 r2=>cases r2;exact ⟨_,rfl,r1⟩
theorem vals2 {x y:V} {us:List Value} (r:Vals [x,y] us):∃ u w',us=[u,w']∧RelV x u∧RelV y w':=by
 cases r with
 | cons r1 r2=>
  cases r2 with
  | cons r3 r4=>cases r4;exact ⟨_,_,rfl,r1,r3⟩
theorem call_max2 (hc:X.calm=true):CallR X (.builtin "max") (fun xs H Q=>∃ i j,xs=[.int i,.int j]∧Q (.int (if j > i then j else i)) H):=by
 intro pins s σ H xs us Q I r h
 obtain ⟨i,j,rfl,q⟩:=h
 obtain ⟨u,w',rfl,⟨t,rfl⟩,⟨t',rfl⟩⟩:=vals2 r
 refine max_two_ints (I.ok.hd hc) fun h' tk k=>⟨_,H,I.kept k,?_,q⟩
 by_cases hj:j > i
 ·rw [if_pos hj,if_pos hj];exact ⟨_,rfl⟩
 ·rw [if_neg hj,if_neg hj];exact ⟨_,rfl⟩
end
end L2
namespace L2
open PySem PySem.Spec PyProof.Rows
structure ObjM (h:Heap) (x dx C:Addr) (mA:Str→Option Value):Prop where
 obj:h.get? x=some (W.instObj C dx)
 ns:h.Ns1 dx mA
 ne:dx≠x
theorem lookIn_ns {h:Heap} {dx:Addr} {mA:Str→Option Value} (n:h.Ns1 dx mA):∃ od,h.get? dx=some od∧∀ name,W.lookIn name od=some (mA name):=by
 obtain ⟨o,es,ep,ho,hd,hk,_,hm⟩:=n
 refine ⟨o,ho,fun name=>?_⟩
 have e:=hm name
 unfold nsFind findBy at e
 rw [← Array.find?_toList] at e
 unfold W.lookIn
 rw [hd]
 dsimp only
 split
 ·rename_i y q
  rw [q] at e
  exact congrArg some e
 ·rename_i q
  rw [q] at e
  have a:es.toList.any (·.refKey)=false:=by
   rw [List.any_eq_false]
   intro y hy
   obtain ⟨z,t,hkey⟩:=hk y (Array.mem_toList_iff.mp hy)
   simp [DictEntry.refKey,hkey]
  have a':¬ es.toList.any (·.refKey)=true:=by rw [a];exact Bool.false_ne_true
  rw [if_neg a']
  exact congrArg some e
theorem ObjM.look {h:Heap} {x dx C:Addr} {mA:Str→Option Value} (I:ObjM h x dx C mA):∃ od,W.InstAt h x (W.instObj C dx) C (some od)∧∀ name,W.lookIn name od=some (mA name):=
 let ⟨od,ho,hl⟩:=lookIn_ns I.ns
 ⟨od,⟨I.obj,rfl,rfl,ho⟩,hl⟩
section
variable {prog:Program} {w:World} {A:Around} {E:Value→Shared→Prop} {s:Shared} {K:W.Frag} {x dx C f:Addr} {mA:Str→Option Value} {name:Str} {v:Value}
theorem get_map {expr:Bool} {Q:Value→Shared→Prop} (X:K.In s.heap) (I:ObjM s.heap x dx C mA) (hg:W.plainGet K C name=true) (hh:W.hasDictIn K C=true)
  (ha:W.findIn K (.ref C) name=some none) (hv:mA name=some v) (hv':W.handedIn v=true) (h:Q v { s with toks:=s.toks+1 }) :
  wpAny (model prog w) A (getAttr (.ref x) name expr) Q E s:=by
 obtain ⟨od,J,hl⟩:=I.look
 exact W.get_value X J (W.plainGet_of hg).1 (W.findObj_own hh ha rfl (by rw [hl,hv])) hv' h
theorem set_map {ns:List Str} {Q:Unit→Shared→Prop} (X:K.In s.heap) (I:ObjM s.heap x dx C mA)
  (hs:W.findIn K (.ref C) "__setattr__" = some (some (.builtin "object.__setattr__"))) (hp:W.plainOver K C=true) (ht:W.takerIn K C name=some none) (hh:W.hasDictIn K C=true)
  (hw:PySem.Within mA ns) (hsz:ns.length≤sizeLine)
  (h:∀ h',ObjM h' x dx C (fun y=>if y=name then some v else mA y)→Heap.SameBut dx s.heap h'→Q () { s with heap:=h',toks:=s.toks+2 }) :
  wpAny (model prog w) A (setAttr (.ref x) name v) Q E s:=by
 obtain ⟨od,J,hl⟩:=I.look
 refine W.set_plain X J hs (W.osa_open (s:={ s with toks:=s.toks+1 }) (r:=none) X J hp ht fun b=>?_)
 obtain ⟨cd,hc,hd'⟩:=W.any_some hh
 have hx:s.heap.get? x=some ⟨.ref C,some dx,.plain,#[]⟩:=I.obj
 refine wpAny_bind (wpAny_pure (wpAny_bind (wpAny_bind (wpAny_loadPart hx (wpAny_bind (W.Looks.here (s:={ s with toks:=s.toks+1 }) (W.looks_clsIn X hc) ?_))))))
 rw [hd']
 refine wpAny_pure (a:=some dx) (wpAny_bind (wpAny_pure (wpAny_bind ?_)))
 refine wpAny_nsSet1 (s:={ s with toks:=s.toks+1 }) I.ns fun h' hn2 hs2=>?_
 obtain ⟨oD,esD,epD,hoD,hdD,hcD⟩:=hn2.count (PySem.Within.cons name v hw)
 refine wpAny_bind (wpAny_lookBehind hoD (by rw [hdD];exact pastItsLine_dict (Nat.le_trans hcD (by rw [List.length_cons];omega))) ?_)
 exact wpAny_pure (h _ ⟨(hs2.2 _ (Ne.symm I.ne)).trans I.obj,hn2,I.ne⟩ hs2)
theorem make_map {R:Result→Shared→Prop} {vs:List Value} {kw:List (Str × Value)} (X:K.In s.heap) (hm:W.makesIn K C=true)
  (hi:W.findIn K (.ref C) "__init__" = some (some (.ref f))) (hf:W.typeIn K (.ref f)=some (.type "function"))
  (h:codeAny (model prog w) (A.under (.builtin "type.__call__" ⟨.ref C::vs,kw⟩)) (.call (.ref f) ⟨.ref (s.heap.objs.size+1)::vs,kw⟩) (W.InitBack (s.heap.objs.size+1) R)
   { s with heap:=(s.heap.push W.emptyDict).push (W.instObj C s.heap.objs.size) }) :
  codeAny (model prog w) A (.call (.ref C) ⟨vs,kw⟩) R s:=by
 obtain ⟨hh,g,d,t,os⟩:=s
 exact W.make_core (W.makes_of X hm) (W.looks_findIn X hi) (fun self=>W.bind_fn X self hf) (.inl rfl) h
end
def putF (f:Str) (v:V):List (Str × V)→List (Str × V)
 | []=>[(f,v)]
 | (g,x)::r=>if g=f then (g,v)::r else (g,x)::putF f v r
theorem lookup_putF (f g:Str) (v:V):∀ fs:List (Str × V),(putF f v fs).lookup g=if g=f then some v else fs.lookup g
 | []=>by
  show List.lookup g [(f,v)]=_
  by_cases h:g=f
  ·have hb:(g == f)=true:=beq_iff_eq.mpr h
   simp only [List.lookup,hb,if_pos h]
  ·have hb:(g == f)=false:=beq_eq_false_iff_ne.mpr h
   simp only [List.lookup,hb,if_neg h]
 | (k,x)::r=>by
  have ih:=lookup_putF f g v r
  rw [show putF f v ((k,x)::r)=(if k=f then (k,v)::r else (k,x)::putF f v r) from rfl]
  by_cases hk:k=f
  ·rw [if_pos hk]
   by_cases h:g=k
   ·have hb:(g == k)=true:=beq_iff_eq.mpr h
    simp only [List.lookup,hb,if_pos (h.trans hk)]
   ·have hb:(g == k)=false:=beq_eq_false_iff_ne.mpr h
    simp only [List.lookup,hb,if_neg (fun e:g=f=>h (e.trans hk.symm))]
  ·rw [if_neg hk]
   by_cases h:g=k
   ·have hb:(g == k)=true:=beq_iff_eq.mpr h
    simp only [List.lookup,hb,if_neg (fun e:g=f=>hk (h.symm.trans e))]
   ·have hb:(g == k)=false:=beq_eq_false_iff_ne.mpr h
    simp only [List.lookup,hb]
    exact ih
theorem keys_putF (f:Str) (v:V):∀ fs:List (Str × V),f∈(putF f v fs).map (·.1)∧∀ g,g∈fs.map (·.1)→g∈(putF f v fs).map (·.1)
 | []=>⟨by simp [putF],fun g h=>by simp at h⟩
 | (k,x)::r=>by
  obtain ⟨i1,i2⟩:=keys_putF f v r
  rw [show putF f v ((k,x)::r)=(if k=f then (k,v)::r else (k,x)::putF f v r) from rfl]
  by_cases hk:k=f
  ·rw [if_pos hk]
   subst hk
   exact ⟨by simp,fun g h=>by simpa using h⟩
  ·rw [if_neg hk]
   refine ⟨?_,fun g h=>?_⟩
   ·rw [List.map_cons]
    exact List.mem_cons_of_mem _ i1
   ·rw [List.map_cons] at h ⊢
    rcases List.mem_cons.mp h with e | e
    ·exact List.mem_cons.mpr (.inl e)
    ·exact List.mem_cons_of_mem _ (i2 g e)
theorem length_putF (f:Str) (v:V):∀ fs:List (Str × V),(putF f v fs).length≤fs.length+1
 | []=>by simp [putF]
 | (k,x)::r=>by
  have ih:=length_putF f v r
  rw [show putF f v ((k,x)::r)=(if k=f then (k,v)::r else (k,x)::putF f v r) from rfl]
  by_cases hk:k=f
  ·rw [if_pos hk,List.length_cons,List.length_cons];omega
  ·rw [if_neg hk,List.length_cons,List.length_cons];omega
theorem RelO.some_of {v:V} {o:Option Value} (r:RelO (some v) o):∃ u,o=some u∧RelV v u:=by
 cases o with
 | none=>exact (show False from r).elim
 | some u=>exact ⟨u,rfl,r⟩
theorem handed_of {v:V} {u:Value} (r:RelV v u):W.handedIn u=true:=by
 cases v with
 | non=>cases (show u=Value.none from r);rfl
 | bl b=>cases (show u=Value.bool b from r);rfl
 | int i=>obtain ⟨t,e⟩:=(show ∃ t,u=Value.int i t from r);cases e;rfl
 | str x=>obtain ⟨t,e⟩:=(show ∃ t,u=Value.str x t from r);cases e;rfl
 | byt b=>obtain ⟨t,e⟩:=(show ∃ t,u=Value.bytes b t from r);cases e;rfl
 | flt b=>obtain ⟨t,e⟩:=(show ∃ t,u=Value.float b t from r);cases e;rfl
 | ref a=>cases (show u=Value.ref a from r);rfl
 | ty n=>cases (show u=Value.type n from r);rfl
section
variable {P:Program} {w:World} {H H':Hp} {h h':Heap} {a C dx:Addr} {fs fs':List (Str × V)}
theorem ins_get (hok:HOk P w H h) (e:H a=some (.ins C dx fs)):∃ mA,ObjM h a dx C mA∧(∀ f,RelO (fs.lookup f) (mA f))∧PySem.Within mA (fs.map (·.1))∧fs.length≤1000∧H dx=some (.own a):=by
 obtain ⟨d,z,ne,ob,mA,n,r,q⟩:=(show ObjOk P w H h a (.ins C dx fs) from hok a _ e)
 exact ⟨mA,⟨ob,n,ne⟩,r,q,z,d⟩
end
structure Cls (K:W.Frag) (C:Addr):Prop where
 pg:W.plainGet K C Str.empty=true
 hd:W.hasDictIn K C=true
 po:W.plainOver K C=true
 sa:W.findIn K (.ref C) "__setattr__" = some (some (.builtin "object.__setattr__"))
theorem Cls.get {K:W.Frag} {C:Addr} (c:Cls K C) (f:Str):W.plainGet K C f=true:=c.pg
def NoAttr (K:W.Frag) (C:Addr) (f:Str):Prop:=W.findIn K (.ref C) f=some none
theorem NoAttr.taker {K:W.Frag} {C:Addr} {f:Str} (n:NoAttr K C f):W.takerIn K C f=some none:=by
 unfold W.takerIn
 rw [show W.findIn K (.ref C) f=some none from n]
 rfl
section
variable {X:Cx} {pins:List (Addr × Obj)} {σ:St} {H:Hp} {s:Shared} {a C dx:Addr} {fs:List (Str × V)} {f:Str} {v:V} {A:Around} {E:Value→Shared→Prop}
theorem getattr_ok {b:Bool} {Q:Value→Shared→Prop} (I:Inv X pins σ H s) (e:H a=some (.ins C dx fs)) (c:Cls X.K C) (n:NoAttr X.K C f) (l:fs.lookup f=some v)
  (h:∀ u s',Inv X pins σ H s'→RelV v u→Q u s'):wpAny (model X.prog X.w) A (getAttr (.ref a) f b) Q E s:=by
 obtain ⟨mA,O,r,_,_,_⟩:=ins_get I.hok e
 obtain ⟨u,hu,ru⟩:=RelO.some_of (v:=v) (o:=mA f) (by rw [← l];exact r f)
 exact get_map I.kIn O (c.get f) c.hd n hu (handed_of ru) (h u _ (I.tok _) ru)
theorem setattr_ok {y:V} {u:Value} {Q:Unit→Shared→Prop} (I:Inv X pins σ H s) (e:H a=some (.ins C dx fs)) (c:Cls X.K C) (n:NoAttr X.K C f) (hl:fs.length < 1000) (ry:RelV y u)
  (h:∀ s',Inv X pins σ (upd H a (.ins C dx (putF f y fs))) s'→Q () s'):wpAny (model X.prog X.w) A (setAttr (.ref a) f u) Q E s:=by
 obtain ⟨mA,O,r,wi,_,ho⟩:=ins_get I.hok e
 have hz:(fs.map (·.1)).length≤sizeLine:=by rw [List.length_map,sizeLine_eq];omega
 refine set_map I.kIn O c.sa c.po n.taker c.hd wi hz fun h' O' sb=>h _ ?_
 have hd:∃ o,h'.get? dx=some o:=let ⟨o,_,_,e',_⟩:=O'.ns;⟨o,e'⟩
 refine I.write (x:=a) (e:=dx) (by rw [e];exact True.intro) (.inr ho) (fun b q hb z=>(sb.2 b hb).trans z) hd ?_
 refine ⟨by rw [upd_ne O.ne];exact ho,?_,O.ne,O'.obj,_,O'.ns,fun g=>?_,fun g hg=>?_⟩
 ·have:=length_putF f y fs;omega
 ·show RelO ((putF f y fs).lookup g) (if g=f then some u else mA g)
  rw [lookup_putF]
  by_cases q:g=f
  ·rw [if_pos q,if_pos q];exact ry
  ·rw [if_neg q,if_neg q];exact r g
 ·by_cases q:g=f
  ·rw [q];exact (keys_putF f y fs).1
  ·refine (keys_putF f y fs).2 g (wi g fun z=>hg ?_)
   show (if g=f then some u else mA g)=none
   rw [if_neg q];exact z
theorem Inv.made (I:Inv X pins σ H s):Inv X pins σ (upd (upd H s.heap.objs.size (.own (s.heap.objs.size+1))) (s.heap.objs.size+1) (.ins C s.heap.objs.size []))
  { s with heap:=(s.heap.push W.emptyDict).push (W.instObj C s.heap.objs.size) }:=by
 have e1:(s.heap.push W.emptyDict).get? s.heap.objs.size=some W.emptyDict:=Heap.get?_push_size s.heap rfl
 have e2:((s.heap.push W.emptyDict).push (W.instObj C s.heap.objs.size)).get? (s.heap.objs.size+1)=some (W.instObj C s.heap.objs.size):=by
  have:=Heap.get?_push_size (s.heap.push W.emptyDict) (o:=W.instObj C s.heap.objs.size) rfl
  rwa [Heap.size_push] at this
 have e3:(s.heap.push W.emptyDict).Ns s.heap.objs.size (fun _=>none):=⟨W.emptyDict,#[],_,e1,rfl,(fun e he=>absurd he (by simp)),fun _=>rfl⟩
 have I1:=I.laid (a:=s.heap.objs.size) (o:=.own (s.heap.objs.size+1)) (h':=s.heap.push W.emptyDict) (t':=s.toks) (fun b u q=>Heap.get?_push_of_some _ q) (Nat.le_refl _) ⟨_,e1⟩
 refine I1.laid (a:=s.heap.objs.size+1) (o:=.ins C s.heap.objs.size []) (t':=s.toks) (fun b u q=>Heap.get?_push_of_some _ q) (Nat.le_of_eq (Heap.size_push _ _)) ?_
 have ne:s.heap.objs.size≠s.heap.objs.size+1:=Nat.ne_of_lt (Nat.lt_succ_self _)
 refine ⟨by rw [upd_ne ne,upd_same],Nat.zero_le _,ne,e2,fun _=>none,(Heap.Ns1.of_empty e3).at fun o q=>Heap.get?_push_of_some _ q,fun _=>True.intro,fun y hy=>absurd rfl hy⟩
theorem attr_of {prog:Program} {w:World} {env:Env} {e:Expr} {f:Str} {pos:Pos} {s:Shared} {Q:Value→Shared→Prop} (hb:attributeBase e f env (eval e env)=eval e env)
  (h:wpAny (model prog w) A (eval e env) (fun o s₁=>wpAny (model prog w) A (getAttr o f true) Q E s₁) E s):wpAny (model prog w) A (eval (.Attribute e f pos) env) Q E s:=
 Attribute_any_ h (by rw [arm_eval_Attribute,hb])
end
def tFld (K:W.Frag) (ta:TE) (f:Str):TE:=fun σ H Q=>ta σ H fun x H1=>∃ a C dx fs v,x=.ref a∧H1 a=some (.ins C dx fs)∧Cls K C∧NoAttr K C f∧fs.lookup f=some v∧Q v H1
def sFld (K:W.Frag) (ta tv:TE) (f:Str):TS:=fun D σ H=>tv σ H fun y H1=>ta σ H1 fun x H2=>∃ a C dx fs,x=.ref a∧H2 a=some (.ins C dx fs)∧Cls K C∧NoAttr K C f∧fs.length < 1000∧
 D.nx σ (upd H2 a (.ins C dx (putF f y fs)))
section
variable {X:Cx} {o e value:Expr} {f:Str} {pos pos' tpos:Pos} {ta tv:TE}
theorem pe_fld (he:PE X e ta) (hb:attributeBase e f X.env (eval e X.env)=eval e X.env):PE X (.Attribute e f pos) (tFld X.K ta f):=by
 intro pins s σ H Q I h
 refine attr_of hb (thn (he pins s σ H _ I h) fun u s1 ⟨x,H1,I1,rx,a,C,dx,fs,v,ex,ea,c,n,l,q⟩=>?_)
 subst ex
 obtain rfl:u=Value.ref a:=rx
 exact getattr_ok I1 ea c n l fun u' s2 I2 ru=>⟨v,H1,I2,ru,q⟩
theorem ps_fld (ha:PE X o ta) (hv:PE X value tv) (hs:swapsWith value (some (.Attribute o f pos')) pos.line X.env=pure false):PS X (.Assign [.Attribute o f pos'] value pos) (sFld X.K ta tv f):=by
 intro pins s σ H D I h
 refine plainObj_wpAny_Assign_Attribute (thn (hv pins s σ H _ I h) fun u s1 zz38=>ep_elim zz38 fun y H1 I1 ry q=>thn (ha pins s1 σ H1 _ I1 q) fun ov s2 ⟨x,H2,I2,rx,a,C,dx,fs,ex,ea,c,n,l,q2⟩=>?_) hs
 subst ex
 obtain rfl:ov=Value.ref a:=rx
 exact setattr_ok I2 ea c n l ry fun s3 I3=>⟨σ,_,I3,q2⟩
end
section
variable {X:Cx} {pins:List (Addr × Obj)} {σ:St} {H:Hp} {s:Shared} {A:Around} {E:Value→Shared→Prop} {Q:Value→Shared→Prop} {c:Value} {b:Bool}
inductive TyOf (K:W.Frag) (H:Hp):V→Value→Prop where
 | non:TyOf K H .non (.type "NoneType")
 | bl (x:Bool):TyOf K H (.bl x) (.type "bool")
 | int (i:Int):TyOf K H (.int i) (.type "int")
 | str (x:Str):TyOf K H (.str x) (.type "str")
 | flt (x:UInt64):TyOf K H (.flt x) (.type "float")
 | lst {a:Addr} {xs:List V} (e:H a=some (.lst xs)):TyOf K H (.ref a) (.type "list")
 | frz {a:Addr} {o:Obj} {xs:List V} (e:H a=some (.frz o (.lst xs))):TyOf K H (.ref a) (.type "list")
 | tup {a:Addr} {xs:List V} (e:H a=some (.tup xs)):TyOf K H (.ref a) (.type "tuple")
 | dK {a:Addr} {kvs:List (Key × V)} (e:H a=some (.dK kvs)):TyOf K H (.ref a) (.type "dict")
 | dT {a:Addr} {kvs:List (List Key × V)} (e:H a=some (.dT kvs)):TyOf K H (.ref a) (.type "dict")
 | ins {a C dx:Addr} {fs:List (Str × V)} (e:H a=some (.ins C dx fs)) (cl:Cls K C) (ha:W.findIn K (.ref C) "__class__" = some (some (.builtin "object.__class__")))
   (hn:W.specialIn K (.builtin "object.__class__") "__get__" = some (some (.builtin "getset_descriptor.__get__"))) (htk:W.takesIn K (.builtin "object.__class__")=some true)
   (hm:W.mroIn K C (.type "object")=some true):TyOf K H (.ref a) (.ref C)
theorem isinst_ok {x:V} {u t:Value} (I:Inv X pins σ H s) (rx:RelV x u) (ty:TyOf X.K H x t) (e:W.kitOne X.K t c=some b) (h:∀ tk,Q (.bool b) { s with toks:=tk }) :
  wpAny (model X.prog X.w) A (call (.builtin "isinstance") [u,c]) Q E s:=by
 cases ty with
 | non=>cases (show u=Value.none from rx);exact W.kia_one W.kitx_none I.kIn True.intro e (fun z=>nomatch z) h
 | bl y=>cases (show u=Value.bool y from rx);exact W.kia_one W.kitx_bool I.kIn True.intro e (fun z=>nomatch z) h
 | int i=>obtain ⟨t,q⟩:=(show ∃ t,u=Value.int i t from rx);cases q;exact W.kia_one W.kitx_int I.kIn True.intro e (fun z=>nomatch z) h
 | str y=>obtain ⟨t,q⟩:=(show ∃ t,u=Value.str y t from rx);cases q;exact W.kia_one W.kitx_str I.kIn True.intro e (fun z=>nomatch z) h
 | flt y=>obtain ⟨t,q⟩:=(show ∃ t,u=Value.float y t from rx);cases q;exact W.kia_one W.kitx_float I.kIn True.intro e (fun z=>nomatch z) h
 | @lst a xs ea=>
  cases (show u=Value.ref a from rx)
  obtain ⟨_,_,n,_,h1⟩:=(show ObjOk X.prog X.w H s.heap a (.lst xs) from I.hok a _ ea)
  exact W.kia_one W.kitx_list I.kIn ⟨_,h1,rfl⟩ e (fun z=>nomatch z) h
 | @frz a ob xs ea=>
  cases (show u=Value.ref a from rx)
  obtain ⟨_,_,_,n,_,h1⟩:=(show ObjOk X.prog X.w H s.heap a (.frz ob (.lst xs)) from I.hok a _ ea)
  exact W.kia_one W.kitx_list I.kIn ⟨_,h1,rfl⟩ e (fun z=>nomatch z) h
 | @tup a xs ea=>
  cases (show u=Value.ref a from rx)
  obtain ⟨_,_,_,p⟩:=(show ObjOk X.prog X.w H s.heap a (.tup xs) from I.hok a _ ea)
  obtain ⟨o,h1,h2,_⟩:=p
  exact W.kia_one W.kitx_tuple I.kIn ⟨o,h1,h2⟩ e (fun z=>nomatch z) h
 | @dK a kvs ea=>
  cases (show u=Value.ref a from rx)
  obtain ⟨_,_,vs,_,p⟩:=(show ObjOk X.prog X.w H s.heap a (.dK kvs) from I.hok a _ ea)
  obtain ⟨o,es,ep,h1,h2,_⟩:=p
  exact W.kia_one W.kitx_dict I.kIn ⟨o,h1,h2.1⟩ e (fun z=>nomatch z) h
 | @dT a kvs ea=>
  cases (show u=Value.ref a from rx)
  obtain ⟨_,_,xs,_,o,es,ep,h1,h2,_⟩:=(show ObjOk X.prog X.w H s.heap a (.dT kvs) from I.hok a _ ea)
  exact W.kia_one W.kitx_dict I.kIn ⟨o,h1,h2.1⟩ e (fun z=>nomatch z) h
 | @ins a C dx fs ea cl ha hn htk hm=>
  cases (show u=Value.ref a from rx)
  obtain ⟨mA,O,_⟩:=ins_get I.hok ea
  obtain ⟨od,J,_⟩:=O.look
  exact W.kia_one (W.kitx_own (cl.get _) cl.hd ha hn htk hm) I.kIn J e (fun z=>nomatch z) h
end
end L2
namespace L2
open PySem PySem.Spec PyProof.Rows
structure Room (k:Nat) (A:Around):Prop where
 hd:A.handled=none
 dp:A.depth+3*k+5 < recursionLimit
 un:A.units+16*k+200 < cLine
theorem Room.mono {j k:Nat} {A:Around} (r:Room k A) (h:j≤k):Room j A:=⟨r.hd,by have:=r.dp;omega,by have:=r.un;omega⟩
theorem Room.deeper {k:Nat} {A:Around} (r:Room (k+1) A) (env:Env):Room k (A.deeper env):=
 ⟨r.hd,by have:=r.dp;show A.depth+1+3*k+5 < _;omega,by have:=r.un;show A.units+3+16*k+200 < _;omega⟩
theorem make_depth {A:Around} {C:Addr} {us:List Value} {kw:List (Str × Value)}:(A.under (.builtin "type.__call__" ⟨.ref C::us,kw⟩)).depth=A.depth+1:=by
 first | rfl | simp [Around.under,Code.weight,Code.isCreation,Code.isGuard,Code.isCaller,Code.frames,Code.isFrame,guardIds]
theorem make_units {A:Around} {C:Addr} {us:List Value} {kw:List (Str × Value)}:(A.under (.builtin "type.__call__" ⟨.ref C::us,kw⟩)).units=A.units+1:=by
 first | rfl | simp [Around.under,Code.cUnits,Code.frames,Code.isFrame]
theorem Room.make {k:Nat} {A:Around} (r:Room (k+1) A) (C:Addr) (us:List Value) (kw:List (Str × Value)):Room k (A.under (.builtin "type.__call__" ⟨.ref C::us,kw⟩)):=
 ⟨r.hd,by have:=r.dp;rw [make_depth];omega,by have:=r.un;rw [make_units];omega⟩
theorem Room.depth {k:Nat} {A:Around} (r:Room k A):A.depth < recursionLimit:=by have:=r.dp;omega
theorem Room.units {k:Nat} {A:Around} (r:Room k A):A.units+64 < cLine:=by have:=r.un;omega
def tNil:TA:=fun _ H Q=>Q [] H
def tCons (ta:TE) (tr:TA):TA:=fun σ H Q=>ta σ H fun x H1=>tr σ H1 fun xs H2=>Q (x::xs) H2
section
variable {X:Cx} {e:Expr} {es:List Expr} {te:TE} {t:TA} {pos:Pos}
theorem pa_nil:PA X [] tNil:=fun _ _ _ _ H Q I h=>Calls.spliced_nil ⟨[],H,I,.nil,h⟩
theorem pa_cons (ha:PE X e te) (hr:PA X es t) (hs:starEach (e::es) X.env=(false,eval e X.env)::starEach es X.env:=by rfl):PA X (e::es) (tCons te t):=by
 intro pos pins s σ H Q I h
 rw [hs]
 show wpAny _ _ (spliced ((false,eval e X.env)::backTo pos (starEach es X.env))) _ _ s
 refine Calls.spliced_cons (thn (ha pins s σ H _ I h) fun u s1 zz40=>ep_elim zz40 fun x H1 I1 r1 q1=>?_)
 exact thn (hr pos pins s1 σ H1 _ I1 q1) fun us s2 zz41=>ap_elim zz41 fun xs H2 I2 r2 q2=>⟨x::xs,H2,I2,.cons r1 r2,q2⟩
def tTup (t:TA):TE:=fun σ H Q=>t σ H fun xs H1=>xs.length≤sizeLine∧∀ p,H1 p=none→Q (.ref p) (upd H1 p (.tup xs))
def tLst (t:TA):TE:=fun σ H Q=>t σ H fun xs H1=>xs.length≤sizeLine∧∀ p,H1 p=none→Q (.ref p) (upd H1 p (.lst xs))
theorem pe_tup {x1} (h:PA X es t):PE X (.Tuple es x1 pos) (tTup t):=by
 intro pins s σ H Q I hq
 refine wpAny_Tuple_spliced (thn (h pos pins s σ H _ I hq) fun us s1 ⟨xs,H1,I1,r,z,q⟩=>⟨by rw [← r.length];exact z,?_⟩)
 have hf:H1 s1.heap.objs.size=none:=I1.hok.fresh (Nat.le_refl _)
 refine ⟨.ref s1.heap.objs.size,upd H1 s1.heap.objs.size (.tup xs),I1.laid (t':=s1.toks) (fun b u e=>Heap.get?_push_of_some _ e) (Nat.le_refl _) ?_,rfl,q _ hf⟩
 exact ⟨z,us,r,⟨_,Heap.get?_push_size _ rfl,rfl,_,rfl⟩⟩
theorem pe_lst (h:PA X es t):PE X (.List es pos) (tLst t):=by
 intro pins s σ H Q I hq
 refine wpAny_List_spliced (thn (h pos pins s σ H _ I hq) fun us s1 ⟨xs,H1,I1,r,z,q⟩=>⟨by rw [← r.length];exact z,?_⟩)
 have hf:H1 s1.heap.objs.size=none:=I1.hok.fresh (Nat.le_refl _)
 refine ⟨.ref s1.heap.objs.size,upd H1 s1.heap.objs.size (.lst xs),I1.laid (t':=s1.toks) (fun b u e=>Heap.get?_push_of_some _ e) (Nat.le_refl _) ?_,rfl,q _ hf⟩
 exact ⟨z,us,0,r,Heap.get?_push_size _ rfl⟩
end
abbrev Sp:=List V→Hp→VK→XK→Prop
abbrev CXT:=List Env→Hp→Shared→XK→Value→Shared→Prop
structure Env0 (P:Program) (w:World) (K:W.Frag) (mg:Str→Option Value) (base:Heap) (A:Around) (outer:List Env) (s:Shared) (H:Hp):Prop where
 frames:A.frames=some outer
 mod:Mod K mg base
 bs:∀ b o,base.get? b=some o→s.heap.get? b=some o∧H b=none
 bsz:base.objs.size≤s.heap.objs.size
 funs:s.heap.FunFrames base outer
 frf:∀ b∈frs outer,H b=none
 hok:HOk P w H s.heap
 bare:AllBare s.gens
def CE (outer:List Env) (P:Program) (w:World) (H:Hp) (s:Shared) (Q:VK) (u:Value) (s':Shared):Prop:=
 ∃ v H',s'.os=s.os∧AllBare s'.gens∧Un (frs outer) [] H H' s.heap s'.heap∧HOk P w H' s'.heap∧RelV v u∧Q v H'
def CR (CX:CXT) (outer:List Env) (P:Program) (w:World) (H:Hp) (s:Shared) (Q:VK) (E:XK) (r:Result) (s':Shared):Prop:=
 match r with
 | .ok (.ret u)=>CE outer P w H s Q u s'
 | .ok _=>False
 | .error e=>CX outer H s E e s'
structure FnOk (P:Program) (w:World) (K:W.Frag) (mg:Str→Option Value) (base:Heap) (CX:CXT) (k:Nat) (f:Addr) (fd:FuncData) (ps:List Str) (sp:Sp):Prop where
 len:∀ vs H Q E,sp vs H Q E→vs.length=ps.length
 run:∀ (A:Around) (outer:List Env) (s:Shared) (H:Hp) (args:Args) (us:List Value) (vs:List V) (Q:VK) (E:XK),Room k A→Env0 P w K mg base A outer s H→BindsTo s fd args (ps.zip us)→Vals vs us→sp vs H Q E→
  codeAny (model P w) A (.call (.ref f) args) (CR CX outer P w H s Q E) s
theorem Env0.make {P:Program} {w:World} {K:W.Frag} {mg:Str→Option Value} {base:Heap} {A:Around} {outer:List Env} {s:Shared} {H:Hp} (e:Env0 P w K mg base A outer s H) (C:Addr) (us:List Value) (kw:List (Str × Value)) :
  Env0 P w K mg base (A.under (.builtin "type.__call__" ⟨.ref C::us,kw⟩)) outer s H:=⟨by first | exact e.frames | (simpa [Around.under,Code.envs,Code.isFrame,pushEnvs] using e.frames),e.mod,e.bs,e.bsz,e.funs,e.frf,e.hok,e.bare⟩
section
variable {X:Cx} {pins:List (Addr × Obj)} {σ:St} {H:Hp} {s s':Shared}
theorem Inv.env0 (I:Inv X pins σ H s):Env0 X.prog X.w X.K X.mg X.base X.A X.stack s H:=
 ⟨I.ok.frames,I.ok.mod,I.bs,Nat.le_trans I.ok.bsz I.sz,I.stack,I.stkFree,I.hok,I.bare⟩
theorem Inv.after {Q:VK} {u:Value} (I:Inv X pins σ H s) (h:CE X.stack X.prog X.w H s Q u s'):EP X pins σ Q u s':=by
 obtain ⟨v,H',os,bare,un,hok,r,q⟩:=h
 obtain ⟨hh,g,d,t,os'⟩:=s'
 obtain rfl:os'=s.os:=os
 exact ⟨v,H',I.call (h':=hh) (g':=g) (d':=d) (t':=t) (ch:=[]) un hok bare (fun b z=>absurd z (by simp)),r,q⟩
end
def tCall (sp:Sp) (dvs:List V) (E:XK) (t:TA):TE:=fun σ H Q=>t σ H fun vs H1=>sp (vs++dvs) H1 Q E
def tMake (C:Addr) (sp:Sp) (dvs:List V) (E:XK) (t:TA):TE:=fun σ H Q=>t σ H fun vs H1=>∀ x dx,H1 x=none→H1 dx=none→dx≠x→
 sp (.ref x::(vs++dvs)) (upd (upd H1 dx (.own x)) x (.ins C dx [])) (fun v H2=>v=.non∧Q (.ref x) H2) E
def Binds (K:W.Frag) (fd:FuncData) (ps:List Str) (ds:List Value):Prop:=
 ∀ (s:Shared) (us:List Value),K.In s.heap→(us++ds).length=ps.length→BindsTo s fd ⟨us,[]⟩ (ps.zip (us++ds))
theorem Binds.all {K:W.Frag} {fd:FuncData} {ps:List Str} (h:∀ us:List Value,us.length=ps.length→bindArgs fd ⟨us,[]⟩=pure (ps.zip us)):Binds K fd ps []:=fun s us _ hl=>by
 rw [List.append_nil] at hl ⊢
 exact .of_eq (h us hl)
def Passes (CX:CXT) (X:Cx) (E:XK):Prop:=∀ (pins:List (Addr × Obj)) (σ:St) (H:Hp) (s:Shared) (e:Value) (s':Shared),Inv X pins σ H s→CX X.stack H s E e s'→X.xe e s'
section
variable {X:Cx} {CX:CXT} {k:Nat} {f C:Addr} {fd:FuncData} {ps:List Str} {sp:Sp} {dvs:List V} {ds:List Value} {E:XK} {x m:Str} {p pos apos:Pos} {e o:Expr} {es:List Expr} {ta:TE} {t:TA}
theorem run_fn {pins:List (Addr × Obj)} {σ:St} {H:Hp} {s:Shared} {Q:VK} {us:List Value} {vs:List V} (F:FnOk X.prog X.w X.K X.mg X.base CX k f fd ps sp) (hr:Room k X.A) (hb:Binds X.K fd ps ds) (hd:Vals dvs ds) (hx:Passes CX X E)
  (I:Inv X pins σ H s) (r:Vals vs us) (h:sp (vs++dvs) H Q E):wpAny (model X.prog X.w) X.A (call (.ref f) us) (EP X pins σ Q) X.xe s:=by
 have r2:Vals (vs++dvs) (us++ds):=r.append hd
 have hl:(us++ds).length=ps.length:=by rw [← r2.length];exact F.len _ _ _ _ h
 refine wpAny_call (codeAny_mono (F.run X.A X.stack s H ⟨us,[]⟩ (us++ds) (vs++dvs) Q E hr I.env0 (hb s us I.kIn hl) r2 h) fun r s' hq=>?_)
 cases r with
 | error e=>exact hx pins σ H s e s' I hq
 | ok fl=>
  cases fl with
  | ret u=>exact I.after hq
  | next=>exact False.elim hq
  | brk=>exact False.elim hq
  | cont=>exact False.elim hq
theorem pe_call (F:FnOk X.prog X.w X.K X.mg X.base CX k f fd ps sp) (hr:Room k X.A) (hg:Gl X x) (hm:X.mg x=some (.ref f)) (hk:W.keepIn X.K (.ref f)=true) (hb:Binds X.K fd ps ds) (hd:Vals dvs ds) (hx:Passes CX X E)
  (ha:PA X (e::es) t) (hdb:(x == ("__debug__" : Str))=false:=by decide) (he:starEach (e::es) X.env=(false,eval e X.env)::starEach es X.env:=by rfl) (hpl:(backTo pos (starEach es X.env)).any (·.1)=false:=by rfl) :
  PE X (.Call (.Name x p) (e::es) [] pos) (tCall sp dvs E t):=by
 intro pins s σ H Q I h
 refine wpAny_Call_Name_kw (ld_glob I hg hm ?_ hdb)
 refine W.callWith_K (h₀:=X.base) I.ok.mod.kin hk (thn (ha pos pins s σ H _ I h) fun us s1 zz42=>ap_elim zz42 fun vs H1 I1 r q=>⟨I1.kIn,?_⟩) he hpl
 exact run_fn F hr hb hd hx I1 r q
structure Mk (K:W.Frag) (C f:Addr):Prop where
 makes:W.makesIn K C=true
 init:W.findIn K (.ref C) "__init__" = some (some (.ref f))
 fn:W.isFn K (.ref f)=true
 kp:W.keepIn K (.ref C)=true
theorem run_make {pins:List (Addr × Obj)} {σ:St} {H:Hp} {s:Shared} {Q:VK} {us:List Value} {vs:List V} (M:Mk X.K C f) (F:FnOk X.prog X.w X.K X.mg X.base CX k f fd ps sp) (hr:Room (k+1) X.A) (hb:Binds X.K fd ps ds) (hd:Vals dvs ds)
  (hx:Passes CX X E) (I:Inv X pins σ H s) (r:Vals vs us)
  (h:∀ x dx,H x=none→H dx=none→dx≠x→sp (.ref x::(vs++dvs)) (upd (upd H dx (.own x)) x (.ins C dx [])) (fun v H2=>v=.non∧Q (.ref x) H2) E) :
  wpAny (model X.prog X.w) X.A (call (.ref C) us) (EP X pins σ Q) X.xe s:=by
 have hq:=h (s.heap.objs.size+1) s.heap.objs.size (I.hok.fresh (Nat.le_succ _)) (I.hok.fresh (Nat.le_refl _)) (Nat.ne_of_lt (Nat.lt_succ_self _))
 have I2:=Inv.made (C:=C) I
 have r2:Vals (V.ref (s.heap.objs.size+1)::(vs++dvs)) (Value.ref (s.heap.objs.size+1)::(us++ds)):=.cons rfl (r.append hd)
 have hl:(Value.ref (s.heap.objs.size+1)::us++ds).length=ps.length:=by
  have e:=r2.length
  rw [F.len _ _ _ _ hq] at e
  exact e.symm
 refine wpAny_call (make_map (f:=f) I.kIn M.makes M.init (beq_iff_eq.mp M.fn) (codeAny_mono (F.run _ X.stack _ _ ⟨Value.ref (s.heap.objs.size+1)::us,[]⟩ (Value.ref (s.heap.objs.size+1)::(us++ds)) _ _ E (hr.make C us [])
  (I2.env0.make C us []) (hb _ (Value.ref (s.heap.objs.size+1)::us) I2.kIn hl) r2 hq) fun r s' hq'=>?_))
 cases r with
 | error e=>exact hx pins σ _ _ e s' I2 hq'
 | ok fl=>
  cases fl with
  | ret u=>
   obtain ⟨v,H',I3,rv,ev,q3⟩:=I2.after hq'
   subst ev
   exact ⟨rv,⟨V.ref (s.heap.objs.size+1),H',I3,rfl,q3⟩⟩
  | next=>exact False.elim hq'
  | brk=>exact False.elim hq'
  | cont=>exact False.elim hq'
theorem pe_make (M:Mk X.K C f) (F:FnOk X.prog X.w X.K X.mg X.base CX k f fd ps sp) (hr:Room (k+1) X.A) (hg:Gl X x) (hm:X.mg x=some (.ref C)) (hb:Binds X.K fd ps ds) (hd:Vals dvs ds) (hx:Passes CX X E)
  (ha:PA X (e::es) t) (hdb:(x == ("__debug__" : Str))=false:=by decide) (he:starEach (e::es) X.env=(false,eval e X.env)::starEach es X.env:=by rfl) (hpl:(backTo pos (starEach es X.env)).any (·.1)=false:=by rfl) :
  PE X (.Call (.Name x p) (e::es) [] pos) (tMake C sp dvs E t):=by
 intro pins s σ H Q I h
 refine wpAny_Call_Name_kw (ld_glob I hg hm ?_ hdb)
 refine W.callWith_K (h₀:=X.base) I.ok.mod.kin M.kp (thn (ha pos pins s σ H _ I h) fun us s1 zz44=>ap_elim zz44 fun vs H1 I1 r q=>⟨I1.kIn,?_⟩) he hpl
 exact run_make M F hr hb hd hx I1 r q
end
section
variable {X:Cx} {CX:CXT} {k:Nat} {f C:Addr} {fd:FuncData} {ps ks:List Str} {sp:Sp} {E:XK} {x m:Str} {p pos apos kpos:Pos} {e o:Expr} {es:List Expr} {kws:List Keyword} {te ta:TE} {t tk:TA} {nm:Option Str}
variable {g:List Value→List Value→List Value} {gV:List V→List V→List V}
end
structure FnScope (N P:List Str) (sc:Scope):Prop where
 kind:sc.kind=.function
 co:sc.isCoroutine=false
 gen:sc.isGenerator=false
 nd:N.Nodup
 pre:N.take P.length=P
 par:∀ x∈P,sc.names.lookup x=some .local∨sc.names.lookup x=some .cell
 nofree:∀ y∈sc.names,y.2≠.free
theorem bindL_out {kindOf:Str→Option NameKind} {x:Str}:∀ {binds:List (Str × Value)} {m:Str→Option Value},(∀ v,(x,v) ∉ binds)→bindL kindOf binds m x=m x
 | [],_,_=>rfl
 | (n,v)::r,m,h=>by
  unfold bindL
  rw [bindL_out fun w hw=>h w (List.mem_cons_of_mem _ hw)]
  split
  ·have:x≠n:=by rintro rfl;exact h v List.mem_cons_self
   simp [this]
  ·rfl
theorem bindC_out {kindOf:Str→Option NameKind} {x:Str}:∀ {binds:List (Str × Value)} {m:Str→Option Value},(∀ v,(x,v) ∉ binds)→bindC kindOf binds m x=m x
 | [],_,_=>rfl
 | (n,v)::r,m,h=>by
  unfold bindC
  rw [bindC_out fun w hw=>h w (List.mem_cons_of_mem _ hw)]
  split
  ·rfl
  ·have:x≠n:=by rintro rfl;exact h v List.mem_cons_self
   simp [this]
theorem bindL_get {kindOf:Str→Option NameKind} {x:Str} {v:Value}:∀ {P:List Str} {vs:List Value} {i:Nat} {m:Str→Option Value},P.Nodup→P[i]?=some x→vs[i]?=some v→kindOf x=some .local→
  bindL kindOf (P.zip vs) m x=some v
 | [],_,_,_,_,h,_,_=>by simp at h
 | _::_,[],_,_,_,_,h,_=>by simp at h
 | p::P,w::vs,0,m,nd,h1,h2,hk=>by
  simp at h1 h2;subst h1;subst h2
  show bindL kindOf ((p,w)::P.zip vs) m p=_
  unfold bindL
  rw [bindL_out fun v hv=>(List.nodup_cons.mp nd).1 (List.of_mem_zip hv).1,if_pos hk]
  simp
 | p::P,w::vs,i+1,m,nd,h1,h2,hk=>by
  show bindL kindOf ((p,w)::P.zip vs) m x=_
  unfold bindL
  exact bindL_get (i:=i) (List.nodup_cons.mp nd).2 (by simpa using h1) (by simpa using h2) hk
theorem bindC_get {kindOf:Str→Option NameKind} {x:Str} {v:Value}:∀ {P:List Str} {vs:List Value} {i:Nat} {m:Str→Option Value},P.Nodup→P[i]?=some x→vs[i]?=some v→kindOf x≠some .local→
  bindC kindOf (P.zip vs) m x=some v
 | [],_,_,_,_,h,_,_=>by simp at h
 | _::_,[],_,_,_,_,h,_=>by simp at h
 | p::P,w::vs,0,m,nd,h1,h2,hk=>by
  simp at h1 h2;subst h1;subst h2
  show bindC kindOf ((p,w)::P.zip vs) m p=_
  unfold bindC
  rw [bindC_out fun v hv=>(List.nodup_cons.mp nd).1 (List.of_mem_zip hv).1,if_neg hk]
  simp
 | p::P,w::vs,i+1,m,nd,h1,h2,hk=>by
  show bindC kindOf ((p,w)::P.zip vs) m x=_
  unfold bindC
  exact bindC_get (i:=i) (List.nodup_cons.mp nd).2 (by simpa using h1) (by simpa using h2) hk
def start (N:List Str) (vs:List V):St:=vs.map some++List.replicate (N.length - vs.length) none
def cxOf (CX:CXT) (P:Program) (w:World) (K:W.Frag) (mg:Str→Option Value) (base:Heap) (N:List Str) (qual:Str) (scope:Scope) (f:Addr) (cd:Value) (A:Around) (outer:List Env) (s:Shared) (H:Hp) (E:XK):Cx where
 prog:=P
 w:=w
 K:=K
 mg:=mg
 base:=base
 A:=A.deeper (envOfC qual scope s.heap.objs.size f cd)
 N:=N
 s₀:=s
 H₀:=H
 env:=envOfC qual scope s.heap.objs.size f cd
 outer:=outer
 stack:=envOfC qual scope s.heap.objs.size f cd::outer
 ex:=[]
 calm:=true
 fn:=fun _=>true
 pn:=[]
 xe:=fun e s'=>wpAny (model P w) (A.deeper (envOfC qual scope s.heap.objs.size f cd)) (leaving (envOfC qual scope s.heap.objs.size f cd) e) (fun _ s''=>CX outer H s E e s'') (fun e' s''=>CX outer H s E e' s'') s'
theorem cell_has {sc:Scope} {n:Nat} {x:Str} (h:sc.names.lookup x=some .cell):∃ c,(cellsFrom n sc.names []).lookup x=some c:=by
 have q:=PySem.W.cellsFrom_some sc.names n [] (.inl h)
 exact Option.isSome_iff_exists.mp q
theorem inv_start {CX:CXT} {P:Program} {w:World} {K:W.Frag} {mg:Str→Option Value} {base:Heap} {N ps:List Str} {qual:Str} {scope:Scope} {f:Addr} {cd:Value} {A:Around} {outer:List Env} {s s1:Shared} {H:Hp} {E:XK} {us:List Value} {vs:List V}
  (S:FnScope N ps scope) (hd:A.handled=none) (e0:Env0 P w K mg base A outer s H) (hl:vs.length=ps.length) (r:Vals vs us)
  (x:InCallC s s.heap.objs.size (bindL (envOfC qual scope s.heap.objs.size f cd).kindOf (ps.zip us) fun _=>none) (cellsFrom (s.heap.objs.size+1) scope.names []) (bindC (envOfC qual scope s.heap.objs.size f cd).kindOf (ps.zip us) fun _=>none) s1) :
  Inv (cxOf CX P w K mg base N qual scope f cd A outer s H E) [] (start N vs) H s1:=by
 have hpl:ps.length≤N.length:=by have:=congrArg List.length S.pre;rw [List.length_take] at this;omega
 obtain ⟨h1,tk,rfl,hk⟩:=x.done
 have noA:∀ b:Addr,b ∉ (cxOf CX P w K mg base N qual scope f cd A outer s H E).ex:=fun b z=>absurd (show b∈([]:List Addr) from z) (by simp)
 refine ⟨⟨e0.mod,S.kind,rfl,rfl,Nat.le_refl _,fun y z c h1 h2=>?_,fun y hy=>?_,fun y c _ h=>?_,fun _=>hd,Around.frames_deeper e0.frames,.inr ⟨rfl,rfl⟩,fun b z=>absurd z (noA b),e0.bs,e0.bsz,fun b _ _=>noA b,fun b z=>absurd z (noA b),e0.funs,e0.frf⟩,
  rfl,e0.bare,Un.kept hk,⟨_,x.toInCall.ns,fun i y v h1 h2 h3=>?_⟩,fun y c h=>⟨_,x.cell y c h⟩,e0.hok.fresh (Nat.le_refl _),fun y c h=>?_,fun p hp=>absurd (show p∈([]:List (Addr × Obj)) from hp) (by simp),e0.hok.kept hk,?_⟩
 ·exact name_of_addr x.apart (PySem.mem_of_lookup h1) (PySem.mem_of_lookup h2)
 ·have hy:scope.names.lookup y=some .cell∨scope.names.lookup y=some .free:=hy
  rcases hy with hy | hy
  ·exact cell_has hy
  ·exact absurd rfl (S.nofree _ (PySem.mem_of_lookup hy))
 ·exact Nat.le_of_lt (x.above y c (PySem.mem_of_lookup h))
 ·have hi:i < vs.length:=by
   unfold start at h2
   by_cases hi:i < vs.length
   ·exact hi
   ·rw [List.getElem?_append_right (by simpa using hi)] at h2
    rw [List.getElem?_replicate] at h2
    split at h2 <;> cases h2
  have ha:vs[i]?=some v:=by
   unfold start at h2
   rw [List.getElem?_append_left (by simpa using hi),List.getElem?_map] at h2
   cases e:vs[i]? with
   | none=>rw [e] at h2;cases h2
   | some a=>rw [e] at h2;cases h2;rfl
  obtain ⟨u,hu,rv⟩:=r.get ha
  have hp:ps[i]?=some y:=by
   rw [← S.pre,List.getElem?_take_of_lt (by omega)];exact h1
  have ndP:ps.Nodup:=by rw [← S.pre];exact S.nd.sublist (List.take_sublist _ _)
  refine ⟨u,rv,?_⟩
  rcases S.par y (List.mem_of_getElem? hp) with k | k
  ·exact .inl ⟨k,bindL_get ndP hp hu k⟩
  ·obtain ⟨c,e⟩:=cell_has (n:=s.heap.objs.size+1) k
   refine .inr ⟨.inl k,c,e,?_⟩
   have q:=x.cell y c e
   rw [bindC_get ndP hp hu (by show scope.names.lookup y≠_;rw [k];decide)] at q
   exact q
 ·exact e0.hok.fresh (Nat.le_of_lt (x.above y c (PySem.mem_of_lookup h)))
 ·unfold start
  show _=N.length
  rw [List.length_append,List.length_map,List.length_replicate]
  omega
theorem fn_of {CX:CXT} {P:Program} {w:World} {K:W.Frag} {mg:Str→Option Value} {base:Heap} {k:Nat} {f:Addr} {name qual:Str} {params:Arguments} {body:List Stmt} {scope:Scope} {dV kV doc pm cdv ct oc:Value} {an od:Option Addr}
  {osl:Array (Option Value)} {N ps:List Str} {sp:Sp} (lk:K.lookup f=some ⟨oc,od,.func (W.fnOf name qual params body scope dV kV doc pm an cdv ct),osl⟩) (hcd:W.codeIn K cdv qual=true) (S:FnScope N ps scope)
  (len:∀ vs H Q E,sp vs H Q E→vs.length=ps.length)
  (hbody:∀ (A:Around) (outer:List Env) (s:Shared) (H:Hp) (vs:List V) (Q:VK) (E:XK),Room k (A.deeper (envOfC qual scope s.heap.objs.size f cdv))→sp vs H Q E→
   ∃ t,PSs (cxOf CX P w K mg base N qual scope f cdv A outer s H E) body t∧t { nx:=fun _ H'=>Q .non H',rt:=Q } (start N vs) H) :
  FnOk P w K mg base CX (k+1) f (W.fnOf name qual params body scope dV kV doc pm an cdv ct) ps sp:=by
 refine ⟨len,fun A outer s H args us vs Q E hr e0 hb r hsp=>?_⟩
 have hl:=len _ _ _ _ hsp
 have KX:K.In s.heap:=e0.mod.kin.keeps fun b o e=>(e0.bs b o e).1
 have lim:s.heap.NoLimit:=e0.mod.nolimit.keeps fun b o e=>(e0.bs b o e).1
 have hkind:∀ y∈ps.zip us,scope.names.lookup y.1=some .local∨(scope.names.lookup y.1=some .cell∧((cellsFrom (s.heap.objs.size+1) scope.names []).lookup y.1).isSome=true):=fun ⟨n,v⟩ hy=>by
  rcases S.par n (List.of_mem_zip hy).1 with q | q
  ·exact .inl q
  ·exact .inr ⟨q,PySem.W.cellsFrom_some _ _ _ (.inl q)⟩
 refine codeAny_call_function hr.depth (KX _ _ lk) rfl S.co S.gen rfl (W.codeRec_of KX hcd) (hb _ _ _ _ ?_)
 refine wpAny_newFunctionEnv_cells S.kind hkind fun env he s1 x=>?_
 subst he
 refine ⟨lim.keeps x.toInCall.keep,codeAny_func ?_⟩
 obtain ⟨t,ht,hq⟩:=hbody A outer s H vs Q E (hr.deeper _) hsp
 have I:Inv (cxOf CX P w K mg base N qual scope f cdv A outer s H E) [] (start N vs) H s1:=inv_start S hr.hd e0 hl r x
 refine wpAny_mono (ht [] s1 (start N vs) H _ I hq) (fun fl s' hs=>?_) fun e s' hs=>hs
 have fin:∀ {σ':St} {H':Hp} {v:V} {u:Value},Inv (cxOf CX P w K mg base N qual scope f cdv A outer s H E) [] σ' H' s'→RelV v u→Q v H'→CE outer P w H s Q u s':=
  fun {σ' H' v u} J rv q=>⟨v,H',J.os,J.bare,J.base,J.hok,rv,q⟩
 cases fl with
 | ret u=>
  obtain ⟨v,σ',H',J,rv,q⟩:=hs
  exact fin J rv q
 | next=>
  obtain ⟨σ',H',J,q⟩:=hs
  exact fin (v:=V.non) (u:=Value.none) J rfl q
 | brk=>
  obtain ⟨_,_,_,q⟩:=hs
  exact False.elim q
 | cont=>
  obtain ⟨_,_,_,q⟩:=hs
  exact False.elim q
end L2
namespace L2
open PySem PySem.Spec PyProof.Rows
section
variable {X:Cx} {x:Str} {p pos:Pos} {e:Expr} {es:List Expr} {t:TA} {id T:String} {r:List V→Hp→VK→Prop}
def tCB (r:List V→Hp→VK→Prop) (t:TA):TE:=fun σ H Q=>t σ H fun vs H1=>r vs H1 Q
theorem pe_callB (hc:CallR X (.builtin id) r) (hg:Gl X x) (hm:X.mg x=none) (hv:bootBuiltins x=some (.builtin id)) (ha:PA X (e::es) t) (hn:x ≠ "__name__" := by decide) (hdb:(x == ("__debug__" : Str))=false:=by decide)
  (he:starEach (e::es) X.env=(false,eval e X.env)::starEach es X.env:=by rfl) (hpl:(backTo pos (starEach es X.env)).any (·.1)=false:=by rfl):PE X (.Call (.Name x p) (e::es) [] pos) (tCB r t):=by
 intro pins s σ H Q I h
 refine wpAny_Call_Name_kw (ld_blt I hg hm hv ?_ hn hdb)
 exact PyProof.Rows.callWith_builtin1 (thn (ha pos pins s σ H _ I h) fun us s1 zz49=>ap_elim zz49 fun vs H1 I1 r1 q1=>hc pins s1 σ H1 vs us Q I1 r1 q1) he hpl
theorem pe_callTy (hc:CallR X (.type T) r) (hg:Gl X x) (hm:X.mg x=none) (hv:bootBuiltins x=some (.type T)) (ha:PA X (e::es) t) (hn:x ≠ "__name__" := by decide) (hdb:(x == ("__debug__" : Str))=false:=by decide)
  (he:starEach (e::es) X.env=(false,eval e X.env)::starEach es X.env:=by rfl) (hpl:(backTo pos (starEach es X.env)).any (·.1)=false:=by rfl):PE X (.Call (.Name x p) (e::es) [] pos) (tCB r t):=by
 intro pins s σ H Q I h
 refine wpAny_Call_Name_kw (ld_blt I hg hm hv ?_ hn hdb)
 exact PyProof.Rows.callWith_type1 (thn (ha pos pins s σ H _ I h) fun us s1 zz50=>ap_elim zz50 fun vs H1 I1 r1 q1=>hc pins s1 σ H1 vs us Q I1 r1 q1) he hpl
end
end L2
namespace HT
open PySem PyProof.Rows
section
open PySem.SeqAt
open PySem.AutoSeq1 (wpAny_loadPart')
open PySem.MeetsSeq PySem.MeetsSeq2 PySem.MeetsSeq3
end
section
variable {prog:Program} {w:World} {A:Around} {E:Value→Shared→Prop} {s:Shared}
def sIx (n d:Nat):Option Int→Nat
 | none=>d
 | some v=>if v < 0 then (v+(n:Int)).toNat else min v.toNat n
theorem sIx_nat (n d k:Nat):sIx n d (some (k:Int))=min k n:=by
 show (if (k:Int) < 0 then ((k:Int)+(n:Int)).toNat else min (k:Int).toNat n)=min k n
 rw [if_neg (by omega),Int.toNat_natCast]
end
end HT
namespace L2
open PySem PySem.Spec PyProof.Rows
abbrev TO:=St→Hp→(Option Int→Hp→Prop)→Prop
def PO (X:Cx) (e:Option Expr) (t:TO):Prop:=
 ∀ (pins:List (Addr × Obj)) (s:Shared) (σ:St) (H:Hp) (Q:Option Int→Hp→Prop),Inv X pins σ H s→t σ H Q→
  wpAny (model X.prog X.w) X.A (evalPart e X.env) (fun u s'=>∃ o H',Inv X pins σ H' s'∧IsPart u o∧Q o H') X.xe s
def tNoPart:TO:=fun _ H Q=>Q none H
def tPart (t:TE):TO:=fun σ H Q=>t σ H fun x H1=>∃ i,x=.int i∧Q (some i) H1
section
variable {X:Cx} {e:Expr} {te:TE} {lo hi:Option Expr} {tl th:TO} {pos p2:Pos}
theorem po_none:PO X none tNoPart:=by
 intro pins s σ H Q I h
 rw [evalPart_none]
 exact wpAny_pure ⟨none,H,I,.none,h⟩
theorem po_some (h:PE X e te):PO X (some e) (tPart te):=by
 intro pins s σ H Q I hw
 rw [evalPart_some]
 refine thn (h pins s σ H _ I hw) fun u s1 zz51=>ep_elim zz51 fun x H1 I1 r1 q1=>?_
 obtain ⟨i,rfl,q⟩:=q1
 obtain ⟨t,rfl⟩:=r1
 exact ⟨some i,H1,I1,.int i t,q⟩
def SlR (X:Cx) (r:V→Option Int→Option Int→Hp→VK→Prop):Prop:=
 ∀ (pins:List (Addr × Obj)) (s:Shared) (σ:St) (H:Hp) (x:V) (v vl vu:Value) (lo hi:Option Int) (sl:Addr) (Q:VK),Inv X pins σ H s→RelV x v→s.heap.IsSliceOf sl vl vu .none→IsPart vl lo→IsPart vu hi→r x lo hi H Q→
  ∃ T id,typeLookup (.type T) "__getitem__" = pure (some (.builtin id))∧s.TypeIs v T∧wpAny (model X.prog X.w) X.A (getItem v (.ref sl)) (EP X pins σ Q) X.xe s
def tSl (r:V→Option Int→Option Int→Hp→VK→Prop) (te:TE) (tl th:TO):TE:=fun σ H Q=>te σ H fun x H1=>tl σ H1 fun l H2=>th σ H2 fun u H3=>r x l u H3 Q
theorem pe_slice {r:V→Option Int→Option Int→Hp→VK→Prop} (hr:SlR X r) (he:PE X e te) (hl:PO X lo tl) (hu:PO X hi th):PE X (.Subscript e (.Slice lo hi none p2) pos) (tSl r te tl th):=by
 intro pins s σ H Q I h
 refine Subscript_ (thn (he pins s σ H _ I h) fun v s1 zz52=>ep_elim zz52 fun x H1 I1 r1 q1=>?_)
 refine wpAny_Slice (thn (hl pins s1 σ H1 _ I1 q1) fun vl s2 ⟨l,H2,I2,pl,q2⟩=>thn (hu pins s2 σ H2 _ I2 q2) fun vu s3 ⟨u,H3,I3,pu,q3⟩=>?_)
 rw [evalPart_none]
 refine wpAny_pure ?_
 have I4:Inv X pins σ H3 { s3 with heap:=s3.heap.push { cls:=.type "slice",data:=.fields #[vl,vu,.none] } }:=I3.kept (t':=s3.toks) fun b ob q=>Heap.get?_push_of_some _ q
 obtain ⟨T,id,hT,ht,hg⟩:=hr pins { s3 with heap:=s3.heap.push { cls:=.type "slice",data:=.fields #[vl,vu,.none] } } σ H3 x v vl vu l u s3.heap.objs.size Q I4 r1 (Heap.IsSliceOf.new ..) pl pu q3
 show wpAny (model X.prog X.w) X.A (subscriptTail e (.Slice lo hi none p2) v (.ref s3.heap.objs.size)) (EP X pins σ Q) X.xe { s3 with heap:=s3.heap.push { cls:=.type "slice",data:=.fields #[vl,vu,.none] } }
 exact tail_any (ops:=[.ref s3.heap.objs.size,v]) ht hT hg (by with_unfolding_all rfl)
def cutV (xs:List V) (lo hi:Option Int):List V:=(xs.drop (HT.sIx xs.length 0 lo)).take (HT.sIx xs.length xs.length hi - HT.sIx xs.length 0 lo)
theorem cutV_length (xs:List V) (lo hi:Option Int):(cutV xs lo hi).length≤xs.length:=by
 unfold cutV
 rw [List.length_take,List.length_drop]
 omega
end
end L2
namespace L2
open PySem PySem.Spec PyProof.Rows
def ixN (n:Nat) (i:Int):Option Nat:=if 0≤i then (if i < n then some i.toNat else none) else if -(n:Int)≤i then some (i+n).toNat else none
def atI {α:Type} (xs:List α) (i:Int):Option α:=(ixN xs.length i).bind fun j=>xs[j]?
theorem ixN_seq {n:Nat} {i:Int} {j:Nat} (h:ixN n i=some j):seqIndex? i n=some j∧j < n∧-(n:Int)≤i∧i < n:=by
 unfold ixN at h
 by_cases h0:0≤i
 ·rw [if_pos h0] at h
  by_cases h1:i < n
  ·rw [if_pos h1] at h
   have e:i.toNat=j:=Option.some.inj h
   exact ⟨by rw [seqIndex_of h0 h1,e],by omega,by omega,h1⟩
  ·rw [if_neg h1] at h;cases h
 ·rw [if_neg h0] at h
  by_cases h1:-(n:Int)≤i
  ·rw [if_pos h1] at h
   have e:(i+n).toNat=j:=Option.some.inj h
   exact ⟨by rw [seqIndex_neg (by omega) h1,e],by omega,h1,by omega⟩
  ·rw [if_neg h1] at h;cases h
theorem atI_get {α:Type} {xs:List α} {i:Int} {v:α} (h:atI xs i=some v):∃ j,seqIndex? i xs.length=some j∧xs[j]?=some v∧j < xs.length∧-(xs.length:Int)≤i∧i < xs.length:=by
 unfold atI at h
 cases e:ixN xs.length i with
 | none=>rw [e] at h;cases h
 | some j=>
  rw [e] at h
  obtain ⟨h1,h2,h3,h4⟩:=ixN_seq e
  exact ⟨j,h1,h,h2,h3,h4⟩
theorem atI_nat {α:Type} {xs:List α} {j:Nat} {v:α} (h:xs[j]?=some v):atI xs (j:Int)=some v:=by
 have hj:j < xs.length:=(List.getElem?_eq_some_iff.mp h).1
 have e:ixN xs.length (j:Int)=some j:=by
  unfold ixN
  rw [if_pos (by omega),if_pos (by omega)];simp
 unfold atI;rw [e];exact h
theorem atI_last {α:Type} (xs:List α) (v:α):atI (xs++[v]) (-1)=some v:=by
 have hl:(xs++[v]).length=xs.length+1:=by simp
 have e:ixN (xs++[v]).length (-1)=some xs.length:=by
  unfold ixN
  rw [hl,if_neg (by decide),if_pos (by omega)]
  congr 1
  omega
 unfold atI
 rw [e]
 show (xs++[v])[xs.length]?=some v
 simp
def PlainIx (b:Expr):Prop:=∀ o i,subscripted b false o i=operate [o,i] (getItem o i)
def IxR (X:Cx) (r:R2):Prop:=
 ∀ (value slice:Expr) (pins:List (Addr × Obj)) (s:Shared) (σ:St) (H:Hp) (x y:V) (v u:Value) (Q:VK),Inv X pins σ H s→RelV x v→RelV y u→r x y H Q→
  subscripted slice false v u=operate [v,u] (getItem v u)→wpAny (model X.prog X.w) X.A (subscriptTail value slice v u) (EP X pins σ Q) X.xe s
def MtR (X:Cx) (id:String) (r:V→List V→Hp→VK→Prop):Prop:=
 ∀ (pins:List (Addr × Obj)) (s:Shared) (σ:St) (H:Hp) (x:V) (xs:List V) (v:Value) (us:List Value) (Q:VK),Inv X pins σ H s→RelV x v→Vals xs us→r x xs H Q→
  wpAny (model X.prog X.w) X.A (call (.builtin id) (v::us)) (EP X pins σ Q) X.xe s
section
variable {X:Cx} {a b:Expr} {ta tb:TE} {pos:Pos}
theorem pe_ix {r:R2} (hr:IxR X r) (ha:PE X a ta) (hb:PE X b tb) (hs:PlainIx b):PE X (.Subscript a b pos) (tOp r ta tb):=by
 intro pins s σ H Q I h
 exact Subscript_ (binT ha hb I h fun v u s2 x y H2 I2 rx ry q=>hr a b pins s2 σ H2 x y v u Q I2 rx ry q (hs _ _))
inductive rIxLI (K:W.Frag) (x y:V) (H:Hp) (Q:VK):Prop
 | mk (p:Addr) (xs:List V) (i:Int) (v:V):(x=.ref p)→(y=.int i)→(SqL K H p xs)→(atI xs i=some v)→(Q v H)→rIxLI K x y H Q
def rIxL (K:W.Frag):R2:=fun x y H Q=>rIxLI K x y H Q
inductive rIxTI (K:W.Frag) (x y:V) (H:Hp) (Q:VK):Prop
 | mk (p:Addr) (xs:List V) (i:Int) (v:V):(x=.ref p)→(y=.int i)→(SqT K H p xs)→(atI xs i=some v)→(Q v H)→rIxTI K x y H Q
def rIxT (K:W.Frag):R2:=fun x y H Q=>rIxTI K x y H Q
theorem ix_list:IxR X (rIxL X.K):=by
 intro value slice pins s σ H x y v u Q I rx ry h hs
 obtain ⟨p,xs,i,z,rfl,rfl,hq,he,q⟩:=h
 cases rx
 obtain ⟨t,rfl⟩:=ry
 obtain ⟨its,r,pl,hz⟩:=I.list hq
 obtain ⟨j,h1,h2,h3,h4,h5⟩:=atI_get he
 obtain ⟨w,ew,rw'⟩:=r.get h2
 have hl:=r.length
 have hn:=line63
 have fin:EP X pins σ Q w s:=⟨z,H,I,rw',q⟩
 by_cases h0:0≤i
 ·have hj:i.toNat=j:=by
   rw [seqIndex_of h0 h5] at h1
   exact Option.some.inj h1
  exact item_listR pl.isList h0 (by omega) (by rw [hj];simpa using ew) fin hs
 ·have hj:(i+(its.toArray.size:Int)).toNat=j:=by
   rw [seqIndex_neg (by omega) h4] at h1
   rw [List.size_toArray,← hl]
   exact Option.some.inj h1
  exact subscriptTail_builtinR (x:=w) pl.isList.typeIs slot_list_getitem.lookup
   (wpAny_getItem_list_neg (Q:=fun r s'=>r=w∧EP X pins σ Q r s') pl.isList (by omega) (by rw [List.size_toArray] <;> omega) (by omega) (by rw [hj];simpa using ew) ⟨rfl,fin⟩) hs
theorem ix_tup:IxR X (rIxT X.K):=by
 intro value slice pins s σ H x y v u Q I rx ry h hs
 obtain ⟨p,xs,i,z,rfl,rfl,hq,he,q⟩:=h
 cases rx
 obtain ⟨t,rfl⟩:=ry
 obtain ⟨its,r,pl,hz⟩:=I.tuple hq
 obtain ⟨j,h1,h2,h3,h4,h5⟩:=atI_get he
 obtain ⟨w,ew,rw'⟩:=r.get h2
 have hl:=r.length
 have hn:=line63
 have fin:EP X pins σ Q w s:=⟨z,H,I,rw',q⟩
 exact subscriptTail_builtinR (x:=w) pl.typeIs slot_tuple_getitem.lookup
  (getItem_tuple (j:=j) (Q:=fun r s'=>r=w∧EP X pins σ Q r s') pl (by omega) (by omega) (by rw [List.size_toArray,← hl];exact h1) (by simpa using ew) ⟨rfl,fin⟩) hs
theorem mapSeq_set (its:List Value) (n j:Nat) (u:Value):Obj.mapSeq (·.setIfInBounds j u) { cls:=.type "list",data:=.seq its.toArray n }={ cls:=.type "list",data:=.seq (its.set j u).toArray n }:=by
 simp [Obj.mapSeq]
theorem Inv.lst {pins:List (Addr × Obj)} {σ:St} {H:Hp} {s:Shared} {p:Addr} {xs:List V} (I:Inv X pins σ H s) (h:H p=some (.lst xs)) :
  ∃ (its:List Value) (n:Nat),Vals xs its∧s.heap.get? p=some { cls:=.type "list",data:=.seq its.toArray n }∧xs.length≤sizeLine:=by
 obtain ⟨z,its,n,r,e⟩:=I.hok p _ h
 exact ⟨its,n,r,e,z⟩
theorem Inv.lstUpd {pins:List (Addr × Obj)} {σ:St} {H:Hp} {s:Shared} {p:Addr} {xs ys:List V} {its its':List Value} {n n':Nat} {f:Obj→Obj} (I:Inv X pins σ H s) (h:H p=some (.lst xs))
  (ho:s.heap.get? p=some { cls:=.type "list",data:=.seq its.toArray n }) (hf:f { cls:=.type "list",data:=.seq its.toArray n }={ cls:=.type "list",data:=.seq its'.toArray n' }) (r:Vals ys its') (hz:ys.length≤sizeLine) (t:Nat) :
  Inv X pins σ (upd H p (.lst ys)) { s with heap:=s.heap.update p f,toks:=t }:=by
 have e:(s.heap.update p f).get? p=some { cls:=.type "list",data:=.seq its'.toArray n' }:=by
  rw [Heap.get?_update_self f ho (by rw [hf] <;> rfl),hf]
 refine I.write (x:=p) (e:=p) (by rw [h];trivial) (.inl rfl) (fun b u hb q=>(Heap.get?_update_other _ _ (Ne.symm hb)).trans q) ⟨_,e⟩ ?_
 exact ⟨hz,its',n',r,e⟩
def rSetL:V→V→V→Hp→(Hp→Prop)→Prop:=fun o i v H Q=>∃ p xs k j,o=.ref p∧i=.int k∧H p=some (.lst xs)∧ixN xs.length k=some j∧Q (upd H p (.lst (xs.set j v)))
theorem set_list:PSet X rSetL:=by
 intro pins s σ H o i v ov iv u Q I ro ri rv h
 obtain ⟨p,xs,k,j,rfl,rfl,hp,hj,q⟩:=h
 cases ro
 obtain ⟨t,rfl⟩:=ri
 obtain ⟨its,n,r,ho,hz⟩:=I.lst hp
 obtain ⟨h1,h2,h3,h4⟩:=ixN_seq hj
 have hl:=r.length
 have hn:=line63
 have I':Inv X pins σ (upd H p (.lst (xs.set j v))) { s with heap:=s.heap.update p (Obj.mapSeq (·.setIfInBounds j u)) }:=
  I.lstUpd hp ho (mapSeq_set its n j u) (r.set rv j) (by rw [List.length_set];exact hz) s.toks
 by_cases h0:0≤k
 ·have hk:k.toNat=j:=by
   rw [seqIndex_of h0 h4] at h1
   exact Option.some.inj h1
  exact W.ki_setAt ho h0 (by omega) (by rw [List.size_toArray,← hl];exact h4) (by rw [hk];exact ⟨_,I',q⟩)
 ·have hk:(k+(its.toArray.size:Int)).toNat=j:=by
   rw [seqIndex_neg (by omega) h3] at h1
   rw [List.size_toArray,← hl]
   exact Option.some.inj h1
  exact W.ki_setBack ho (by omega) (by rw [List.size_toArray,← hl];exact h3) (by omega) (by rw [hk];exact ⟨_,I',q⟩)
theorem slice_bounds (lo hi:Option Int) (n:Nat):(sliceBounds lo hi none n).1=((HT.sIx n 0 lo:Nat):Int)∧(sliceBounds lo hi none n).2.1=((HT.sIx n n hi:Nat):Int)∧(sliceBounds lo hi none n).2.2=1:=by
 refine ⟨?_,?_,rfl⟩
 ·cases lo with
  | none=>simp [sliceBounds,HT.sIx]
  | some i=>
   simp only [sliceBounds,HT.sIx,Option.getD_none,show (1:Int) > 0 by decide,if_true]
   by_cases h:i < 0
   ·simp only [h,if_true] <;> omega
   ·simp only [h,if_false] <;> omega
 ·cases hi with
  | none=>simp [sliceBounds,HT.sIx]
  | some i=>
   simp only [sliceBounds,HT.sIx,Option.getD_none,show (1:Int) > 0 by decide,if_true]
   by_cases h:i < 0
   ·simp only [h,if_true] <;> omega
   ·simp only [h,if_false] <;> omega
theorem slicePick_cut (its:List Value) (lo hi:Option Int):slicePick its.toArray lo hi none=((its.drop (HT.sIx its.length 0 lo)).take (HT.sIx its.length its.length hi - HT.sIx its.length 0 lo)).toArray:=by
 obtain ⟨h1,h2,h3⟩:=slice_bounds lo hi its.toArray.size
 unfold slicePick
 rw [h1,h2,h3]
 simp only [sliceRange_one,pick_run,List.size_toArray] <;> rfl
def rSlL (K:W.Frag):V→Option Int→Option Int→Hp→VK→Prop:=fun x lo hi H Q=>∃ a xs,x=.ref a∧SqL K H a xs∧∀ p,H p=none→Q (.ref p) (upd H p (.lst (cutV xs lo hi)))
theorem sl_list:SlR X (rSlL X.K):=by
 intro pins s σ H x v vl vu lo hi sl Q I rx hs pl pu h
 obtain ⟨a,xs,rfl,hx,q⟩:=h
 cases rx
 obtain ⟨its,r,ht,hz⟩:=I.list hx
 have hlen:=r.length
 refine ⟨"list",_,slot_list_getitem.lookup,ht.isList.typeIs,?_⟩
 refine wpAny_getItem_list_slice ht.isList hs pl pu .none (by simp) ?_ (by rw [List.size_toArray] <;> omega)
 rw [slicePick_cut,← hlen]
 refine ⟨.ref s.heap.objs.size,_,I.laid (t':=s.toks) (o:=.lst (cutV xs lo hi)) (fun b ob q=>Heap.get?_push_of_some _ q) (Nat.le_refl _) ?_,rfl,q _ (I.hok.fresh (Nat.le_refl _))⟩
 exact ⟨Nat.le_trans (cutV_length xs lo hi) hz,_,0,(r.drop (HT.sIx xs.length 0 lo)).take (HT.sIx xs.length xs.length hi - HT.sIx xs.length 0 lo),Heap.get?_push_size _ rfl⟩
def flatV:V→Bool
 | .non=>true
 | .bl _=>true
 | .int _=>true
 | .str _=>true
 | _=>false
def eqV:V→V→Bool
 | .non,.non=>true
 | .bl a,.bl b=>a == b
 | .bl a,.int b=>(if a then 1 else 0) == b
 | .int a,.bl b=>a == (if b then 1 else 0)
 | .int a,.int b=>a == b
 | .str a,.str b=>a == b
 | _,_=>false
theorem eqAt_V {A:Around} {s:Shared} {y x:V} {u v:Value} (ry:RelV y u) (rx:RelV x v) (fy:flatV y=true) (fx:flatV x=true):SeqAt.EqAt A s u v (eqV y x):=by
 cases y with
 | non=>
  cases ry
  cases x with
  | non=>cases rx;exact SeqAt.EqAt.same _
  | bl b=>cases rx;exact SeqAt.EqAt.none_bool b
  | int b=>obtain ⟨t,rfl⟩:=rx;exact SeqAt.EqAt.none_int b t
  | str b=>obtain ⟨t,rfl⟩:=rx;exact SeqAt.EqAt.none_str b t
  | _=>exact absurd (show false=true from fx) Bool.false_ne_true
 | bl a=>
  cases ry
  cases x with
  | non=>cases rx;exact SeqAt.EqAt.bool_none a
  | bl b=>cases rx;exact SeqAt.EqAt.bool_bool a b
  | int b=>obtain ⟨t,rfl⟩:=rx;exact SeqAt.EqAt.bool_int a b t
  | str b=>obtain ⟨t,rfl⟩:=rx;exact SeqAt.EqAt.bool_str a b t
  | _=>exact absurd (show false=true from fx) Bool.false_ne_true
 | int a=>
  obtain ⟨t',rfl⟩:=ry
  cases x with
  | non=>cases rx;exact SeqAt.EqAt.int_none a t'
  | bl b=>cases rx;exact SeqAt.EqAt.int_bool a t' b
  | int b=>obtain ⟨t,rfl⟩:=rx;exact SeqAt.EqAt.int_int a t' b t
  | str b=>obtain ⟨t,rfl⟩:=rx;exact SeqAt.EqAt.int_str a t' b t
  | _=>exact absurd (show false=true from fx) Bool.false_ne_true
 | str a=>
  obtain ⟨t',rfl⟩:=ry
  cases x with
  | non=>cases rx;exact SeqAt.EqAt.str_none a t'
  | bl b=>cases rx;exact SeqAt.EqAt.str_bool a t' b
  | int b=>obtain ⟨t,rfl⟩:=rx;exact SeqAt.EqAt.str_int a t' b t
  | str b=>obtain ⟨t,rfl⟩:=rx;exact SeqAt.EqAt.str_str a t' b t
  | _=>exact absurd (show false=true from fx) Bool.false_ne_true
 | _=>exact absurd (show false=true from fy) Bool.false_ne_true
def eqU (x:V) (u:Value):Bool:=match u with
 | .none=>eqV .non x
 | .bool b=>eqV (.bl b) x
 | .int i _=>eqV (.int i) x
 | .str z _=>eqV (.str z) x
 | _=>false
theorem eqU_of {x y:V} {u:Value} (r:RelV y u) (f:flatV y=true):eqU x u=eqV y x:=by
 cases y with
 | non=>cases r;rfl
 | bl b=>cases r;rfl
 | int i=>obtain ⟨t,rfl⟩:=r;rfl
 | str z=>obtain ⟨t,rfl⟩:=r;rfl
 | _=>exact absurd (show false=true from f) Bool.false_ne_true
theorem any_eqU {x:V}:∀ {xs:List V} {us:List Value},Vals xs us→xs.all flatV=true→us.any (eqU x)=xs.any fun y=>eqV y x
 | _,_,.nil,_=>rfl
 | y::xs,u::us,.cons r t,f=>by
  rw [List.all_cons,Bool.and_eq_true] at f
  rw [List.any_cons,List.any_cons,eqU_of r f.1,any_eqU t f.2]
theorem mem_eqAt {A:Around} {s:Shared} {x:V} {v:Value} (rx:RelV x v) (fx:flatV x=true):∀ {xs:List V} {us:List Value},Vals xs us→xs.all flatV=true→∀ u∈us,SeqAt.EqAt A s u v (eqU x u)
 | _,_,.nil,_=>fun u hu=>by cases hu
 | y::xs,u::us,.cons r t,f=>fun u' hu=>by
  rw [List.all_cons,Bool.and_eq_true] at f
  rcases List.mem_cons.mp hu with rfl | hu
  ·rw [eqU_of r f.1];exact eqAt_V r rx f.1 fx
  ·exact mem_eqAt rx fx t f.2 u' hu
def inV (x:V) (xs:List V):Bool:=xs.any fun y=>eqV y x
inductive rInI (K:W.Frag) (neg:Bool) (x y:V) (H:Hp) (Q:VK):Prop
 | mk (p:Addr) (xs:List V):(y=.ref p)→(SqL K H p xs∨SqT K H p xs)→(flatV x=true)→(xs.all flatV=true)→(Q (.bl (if neg then !inV x xs else inV x xs)) H)→rInI K neg x y H Q
def rIn (K:W.Frag) (neg:Bool):R2:=fun x y H Q=>rInI K neg x y H Q
theorem op_in_seq:OpR X (compareOp .In) (rIn X.K false):=by
 intro pins s σ H x y v u Q I rx ry h
 obtain ⟨p,xs,rfl,hq,fx,fs,q⟩:=h
 cases ry
 rcases hq with hq | hq
 ·obtain ⟨its,r,pl,hz⟩:=I.list hq
  refine SeqAt.in_listAt (eqU x) pl.isList (fun w hw=>mem_eqAt rx fx r fs w (by simpa using hw)) ⟨.bl _,H,I,rfl,?_⟩
  rw [show its.toArray.any (eqU x)=its.any (eqU x) by simp,any_eqU r fs]
  exact q
 ·obtain ⟨its,r,pl,hz⟩:=I.tuple hq
  refine SeqAt.in_tupleAt (eqU x) pl (fun w hw=>mem_eqAt rx fx r fs w (by simpa using hw)) ⟨.bl _,H,I,rfl,?_⟩
  rw [show its.toArray.any (eqU x)=its.any (eqU x) by simp,any_eqU r fs]
  exact q
theorem call_len_seq:CallR X (.builtin "len") (fun xs H Q=>∃ p ys,xs=[.ref p]∧(SqL X.K H p ys∨SqT X.K H p ys)∧Q (.int ys.length) H):=by
 intro pins s σ H xs us Q I r h
 obtain ⟨p,ys,rfl,hq,q⟩:=h
 obtain ⟨u,rfl,rx⟩:=vals1 r
 cases rx
 have hn:=line63
 rcases hq with hq | hq
 ·obtain ⟨its,r',pl,hz⟩:=I.list hq
  have hlen:=r'.length
  exact Calls.call_len_list pl.isList (by simp only [List.size_toArray] <;> omega) ⟨.int ys.length,H,I.tok _,⟨s.toks+1,by rw [List.size_toArray,hlen]⟩,q⟩
 ·obtain ⟨its,r',pl,hz⟩:=I.tuple hq
  have hlen:=r'.length
  exact len_tuple pl (by simp only [List.size_toArray] <;> omega) ⟨.int ys.length,H,I.tok _,⟨s.toks+1,by rw [List.size_toArray,hlen]⟩,q⟩
theorem call_list_of:CallR X (.type "list") (fun xs H Q=>∃ p ys,xs=[.ref p]∧(SqL X.K H p ys∨SqT X.K H p ys)∧∀ l,H l=none→Q (.ref l) (upd H l (.lst ys))):=by
 intro pins s σ H xs us Q I r h
 obtain ⟨p,ys,rfl,hq,q⟩:=h
 obtain ⟨u,rfl,rx⟩:=vals1 r
 cases rx
 have fin:∀ (its:List Value),Vals ys its→ys.length≤sizeLine→∀ (h':Heap) (c':Nat),(∀ b o',s.heap.get? b=some o'→h'.get? b=some o')→
   h'.get? s.heap.objs.size=some { cls:=.type "list",dict:=none,data:=.seq its.toArray c',slots:=#[] }→EP X pins σ Q (.ref s.heap.objs.size) { s with heap:=h' }:=fun its r' hz h' c' kp e=>
  ⟨.ref s.heap.objs.size,_,I.laid (t':=s.toks) kp (Nat.le_refl _) (show ObjOk X.prog X.w _ h' _ (.lst ys) from ⟨hz,its,c',r',e⟩),rfl,q _ (I.hok.fresh (Nat.le_refl _))⟩
 rcases hq with hq | hq
 ·obtain ⟨its,r',pl,hz⟩:=I.list hq
  have hlen:=r'.length
  obtain ⟨o,ho,hc,n,hd⟩:=pl.isList
  exact call_list_seq p (.inl rfl) ho hc hd (fun h' c' kp e=>fin its r' hz h' c' kp e) (by simp only [List.size_toArray] <;> omega)
 ·obtain ⟨its,r',pl,hz⟩:=I.tuple hq
  have hlen:=r'.length
  obtain ⟨o,ho,hc,n,hd⟩:=pl
  exact call_list_seq p (.inr rfl) ho hc hd (fun h' c' kp e=>fin its r' hz h' c' kp e) (by simp only [List.size_toArray] <;> omega)
def tyV (K:W.Frag) (T:String) (x:V) (H:Hp):Prop:=match x with
 | .str _=>T = "str"
 | .int _=>T = "int"
 | .ref p=>(T = "list" ∧ ∃ xs,SqL K H p xs)∨(T = "tuple" ∧ ∃ o,K.lookup p=some o∧o.cls=.type "tuple" ∧ o.dict=none)∨
   (T = "dict" ∧ ((∃ kvs,H p=some (.dK kvs))∨∃ kvs,H p=some (.dT kvs)))∨(T = "set" ∧ ∃ S n,H p=some (.set S n))
 | _=>False
theorem tyV_is {pins:List (Addr × Obj)} {σ:St} {H:Hp} {s:Shared} {T:String} {x:V} {v:Value} (I:Inv X pins σ H s) (r:RelV x v) (ty:tyV X.K T x H) :
  s.TypeIs v T∧∀ a,v=.ref a→∃ ob,s.heap.get? a=some ob∧ob.dict=none:=by
 cases x with
 | str z=>
  obtain ⟨t,rfl⟩:=r
  cases (show T = "str" from ty)
  exact ⟨typeIs_str s z t,fun _ e=>nomatch e⟩
 | int i=>
  obtain ⟨t,rfl⟩:=r
  cases (show T = "int" from ty)
  exact ⟨typeIs_int s i t,fun _ e=>nomatch e⟩
 | ref p=>
  cases r
  rcases ty with ⟨rfl,xs,hq⟩ | ⟨rfl,o,hk,hc,hd⟩ | ⟨rfl,hk⟩ | ⟨rfl,S,n,hk⟩
  ·obtain ⟨its,_,pl,_⟩:=I.list hq
   refine ⟨pl.isList.typeIs,fun a e=>?_⟩
   cases e
   obtain ⟨o,n,e,c,hd,_⟩:=pl
   exact ⟨o,e,hd⟩
  ·refine ⟨⟨o,I.kIn p o hk,hc⟩,fun a e=>?_⟩
   cases e
   exact ⟨o,I.kIn _ o hk,hd⟩
  ·have z:∃ o,s.heap.get? p=some o∧o.ExactDict:=by
    rcases hk with ⟨kvs,hk⟩ | ⟨kvs,hk⟩
    ·obtain ⟨_,_,_,_,o,_,_,e,ex,_⟩:=I.hok p _ hk
     exact ⟨o,e,ex⟩
    ·obtain ⟨_,_,_,_,o,_,_,e,ex,_⟩:=I.hok p _ hk
     exact ⟨o,e,ex⟩
   obtain ⟨o,e,ex⟩:=z
   refine ⟨⟨o,e,ex.1⟩,fun a e2=>?_⟩
   cases e2
   exact ⟨o,e,ex.2.1⟩
  ·obtain ⟨o,_,_,_,e,ex,_⟩:=I.hok p _ hk
   refine ⟨⟨o,e,ex.1⟩,fun a e2=>?_⟩
   cases e2
   exact ⟨o,e,ex.2.1⟩
 | _=>exact False.elim ty
def tBM0 (K:W.Frag) (T:String) (r:V→List V→Hp→VK→Prop) (to:TE):TE:=fun σ H Q=>to σ H fun x H1=>tyV K T x H1∧r x [] H1 Q
def tBM (K:W.Frag) (T:String) (r:V→List V→Hp→VK→Prop) (to:TE) (t:TA):TE:=fun σ H Q=>to σ H fun x H1=>tyV K T x H1∧t σ H1 fun xs H2=>r x xs H2 Q
variable {o e:Expr} {es:List Expr} {to:TE} {t:TA} {name:Str} {apos cpos:Pos} {T id:String} {r:V→List V→Hp→VK→Prop}
theorem pe_bm0 (pa:PlainAttrs T) (slot:Slot T name id) (hty:typeOf (.builtin id)=pure (.type "method_descriptor")) (hm:MtR X id r) (ho:PE X o to)
  (hbase:attributeBase o name X.env (eval o X.env)=eval o X.env:=by rfl) (hline:(apos.endLine == cpos.line)=true:=by rfl):PE X (.Call (.Attribute o name apos) [] [] cpos) (tBM0 X.K T r to):=by
 intro pins s σ H Q I h
 refine wpAny_Call_method0_late hbase hline (thn (ho pins s σ H _ I h) fun v s1 ⟨x,H1,I1,r1,ty,q1⟩=>?_)
 obtain ⟨h1,h2⟩:=tyV_is I1 r1 ty
 exact ⟨T,id,pa,slot,hty,h1,h2,Calls.callWith_builtin rfl (PySem.evalArgs_none (hm pins s1 σ H1 x [] v [] Q I1 r1 .nil q1))⟩
theorem pe_bm (pa:PlainAttrs T) (slot:Slot T name id) (hty:typeOf (.builtin id)=pure (.type "method_descriptor")) (hm:MtR X id r) (ho:PE X o to) (ha:PA X (e::es) t)
  (hbase:attributeBase o name X.env (eval o X.env)=eval o X.env:=by rfl)
  (hfew:((backTo cpos (starEach (e::es) X.env)).all (fun x=>!x.1) && (backToKw cpos (keywordEach [] X.env)).all (fun x=>x.1.isSome)
   && decide ((e::es).length+([]:List Keyword).length+(if ([]:List Keyword).isEmpty then 0 else 1) < 30))=true:=by rfl)
  (hline:(apos.endLine == cpos.line)=true:=by rfl) (hs:starEach (e::es) X.env=(false,eval e X.env)::starEach es X.env:=by rfl) (hplain:(backTo cpos (starEach es X.env)).any (·.1)=false:=by rfl) :
  PE X (.Call (.Attribute o name apos) (e::es) [] cpos) (tBM X.K T r to t):=by
 intro pins s σ H Q I h
 refine wpAny_Call_method_late hbase hfew hline rfl (thn (ho pins s σ H _ I h) fun v s1 ⟨x,H1,I1,r1,ty,q1⟩=>?_)
 obtain ⟨h1,h2⟩:=tyV_is I1 r1 ty
 refine ⟨T,id,pa,slot,hty,h1,h2,?_⟩
 have hA:=ha cpos pins s1 σ H1 _ I1 q1
 rw [hs] at hA ⊢
 refine Calls.callWith_builtin (by show (false || (backTo cpos (starEach es X.env)).any (·.1))=false;rw [hplain] <;> rfl) (Calls.evalArgs_plain ?_)
 exact thn hA fun us s2 zz53=>ap_elim zz53 fun vs H2 I2 r2 q2=>hm pins s2 σ H2 x vs v us Q I2 r1 r2 q2
end
end L2
namespace L2
open PySem PySem.Spec PyProof.Rows
def MtM (X:Cx) (id:String) (r:V→List V→Hp→VK→Prop):Prop:=
 ∀ (pins:List (Addr × Obj)) (s:Shared) (σ:St) (H:Hp) (x:V) (xs:List V) (v:Value) (us:List Value) (Q:VK),Inv X pins σ H s→RelV x v→Vals xs us→r x xs H Q→
  wpAny (model X.prog X.w) X.A (call (.builtin id) (v::us)) (EP X pins σ Q) X.xe s
theorem Vals.one:∀ {x:V} {us:List Value},Vals [x] us→∃ u,us=[u]∧RelV x u
 | _,_,.cons r .nil=>⟨_,rfl,r⟩
theorem Vals.zero:∀ {us:List Value},Vals [] us→us=[]
 | _,.nil=>rfl
theorem Vals.reverse {xs:List V} {us:List Value} (h:Vals xs us):Vals xs.reverse us.reverse:=by
 induction h with
 | nil=>exact .nil
 | cons r t ih=>rw [List.reverse_cons,List.reverse_cons];exact Vals.append ih (.cons r .nil)
section
variable {X:Cx} {pins:List (Addr × Obj)} {σ:St} {H:Hp} {s:Shared} {l b:Addr} {xs ys zs:List V}
theorem Inv.lset {its its':List Value} {n:Nat} {f:Array Value→Array Value} {t':Nat} (I:Inv X pins σ H s) (hH:H l=some (.lst xs))
  (e:s.heap.get? l=some { cls:=.type "list",data:=.seq its.toArray n }) (hf:f its.toArray=its'.toArray) (hv:Vals ys its') (hz:ys.length≤sizeLine) :
  Inv X pins σ (upd H l (.lst ys)) { s with heap:=s.heap.update l (Obj.mapSeq f),toks:=t' }:=by
 have q:=PySem.IsL.update e f
 rw [hf] at q
 refine I.write (x:=l) (e:=l) (by rw [hH];exact trivial) (.inl rfl) (fun b' u hb hu=>(Heap.get?_update_other s.heap (Obj.mapSeq f) (Ne.symm hb)).trans hu) ⟨_,q⟩ ?_
 exact ⟨hz,its',_,hv,q⟩
theorem Inv.lnew {its:List Value} {t':Nat} (I:Inv X pins σ H s) (hv:Vals ys its) (hz:ys.length≤sizeLine) :
  Inv X pins σ (upd H s.heap.objs.size (.lst ys)) { s with heap:=s.heap.push { cls:=.type "list",data:=.seq its.toArray },toks:=t' }:=
 I.laid (fun _ _ q=>Heap.get?_push_of_some _ q) (Nat.le_refl _) ⟨hz,its,0,hv,Heap.get?_push_size _ rfl⟩
theorem Inv.fresh (I:Inv X pins σ H s):H s.heap.objs.size=none:=I.hok.fresh (Nat.le_refl _)
theorem Inv.lstM (I:Inv X pins σ H s) (hH:H l=some (.lst xs)):xs.length≤sizeLine∧∃ (its:List Value) (n:Nat),Vals xs its∧xs.length=its.length∧s.heap.get? l=some { cls:=.type "list",data:=.seq its.toArray n }:=by
 obtain ⟨z,its,n,r,e⟩:=I.hok l _ hH
 exact ⟨z,its,n,r,r.length,e⟩
theorem notLongL {n:Nat} (h:n≤sizeLine):Builtin.List.listTooLong n=false:=by
 unfold Builtin.List.listTooLong
 exact decide_eq_false (by omega)
end
section
variable {X:Cx}
inductive rAppendI (x:V) (vs:List V) (H:Hp) (Q:VK):Prop
 | mk (l:Addr) (xs:List V) (y:V):(x=.ref l)→(vs=[y])→(H l=some (.lst xs))→(xs.length < sizeLine)→(Q .non (upd H l (.lst (xs++[y]))))→rAppendI x vs H Q
def rAppend:V→List V→Hp→VK→Prop:=fun x vs H Q=>rAppendI x vs H Q
theorem mt_append:MtM X "list.append" rAppend:=by
 intro pins s σ H x vs v us Q I rx rv h
 obtain ⟨l,xs,y,rfl,rfl,hH,hz,q⟩:=h
 cases rx
 obtain ⟨u,rfl,ru⟩:=rv.one
 obtain ⟨z,its,n,r,hl,e⟩:=I.lstM hH
 refine call_meets F.slot_list_append ⟨_,e,rfl⟩ F.entry_list_append (F.args_list_append_2 _ _) (PySem.list_append l its.toArray n u (by rw [List.size_toArray];omega)) ⟨e,?_⟩
 refine ⟨.non,_,I.lset (its':=its++[u]) hH e (by simp) (r.append (.cons ru .nil)) ?_,rfl,q⟩
 rw [List.length_append,List.length_singleton]
 omega
def rExtend:V→List V→Hp→VK→Prop:=fun x vs H Q=>∃ l b xs zs,x=.ref l∧vs=[.ref b]∧H l=some (.lst xs)∧H b=some (.lst zs)∧xs.length+zs.length≤sizeLine∧Q .non (upd H l (.lst (xs++zs)))
theorem mt_extend:MtM X "list.extend" rExtend:=by
 intro pins s σ H x vs v us Q I rx rv h
 obtain ⟨l,b,xs,zs,rfl,rfl,hH,hB,hz,q⟩:=h
 cases rx
 obtain ⟨u,rfl,ru⟩:=rv.one
 cases ru
 obtain ⟨z,its,n,r,hl,e⟩:=I.lstM hH
 obtain ⟨z2,its2,n2,r2,hl2,e2⟩:=I.lstM hB
 have hsz:its.toArray.size+its2.toArray.size≤sizeLine:=by rw [List.size_toArray,List.size_toArray];omega
 have hlong:¬ (!its.toArray.isEmpty && Builtin.List.listTooLong (its.toArray.size+its2.toArray.size))=true:=by
  rw [notLongL hsz,Bool.and_false]
  exact Bool.false_ne_true
 refine call_meets F.slot_list_extend ⟨_,e,rfl⟩ F.entry_list_extend (F.args_list_extend_2 _ _)
  (AutoSeq1.list_extend_list_list_0 l its.toArray n b its2.toArray n2 hlong (by rw [List.size_toArray];omega) (by omega)) ⟨e,e2,?_⟩
 refine ⟨.non,_,I.lset (its':=its++its2) hH e (by simp) (r.append r2) ?_,rfl,q⟩
 rw [List.length_append]
 omega
def rReverse:V→List V→Hp→VK→Prop:=fun x vs H Q=>∃ l xs,x=.ref l∧vs=[]∧H l=some (.lst xs)∧Q .non (upd H l (.lst xs.reverse))
theorem mt_reverse:MtM X "list.reverse" rReverse:=by
 intro pins s σ H x vs v us Q I rx rv h
 obtain ⟨l,xs,rfl,rfl,hH,q⟩:=h
 cases rx
 have hus:=rv.zero
 subst hus
 obtain ⟨z,its,n,r,hl,e⟩:=I.lstM hH
 refine call_meets F.slot_list_reverse ⟨_,e,rfl⟩ F.entry_list_reverse (F.args_list_reverse_1 _) (AutoSeq1.list_reverse_list_0 l its.toArray n (by rw [List.size_toArray];omega)) ⟨e,?_⟩
 refine ⟨.non,_,I.lset (its':=its.reverse) hH e (by simp) r.reverse ?_,rfl,q⟩
 rw [List.length_reverse]
 omega
inductive rCatI (x y:V) (H:Hp) (Q:VK):Prop
 | mk (l b:Addr) (xs zs:List V):(x=.ref l)→(y=.ref b)→(H l=some (.lst xs))→(H b=some (.lst zs))→(xs.length+zs.length≤sizeLine)→(∀ p,H p=none→Q (.ref p) (upd H p (.lst (xs++zs))))→rCatI x y H Q
def rCat:R2:=fun x y H Q=>rCatI x y H Q
theorem op_cat:OpR X (binaryOp .Add) rCat:=by
 intro pins s σ H x y v u Q I rx ry h
 obtain ⟨l,b,xs,zs,rfl,rfl,hH,hB,hz,q⟩:=h
 cases rx
 cases ry
 obtain ⟨z,its,n,r,hl,e⟩:=I.lstM hH
 obtain ⟨z2,its2,n2,r2,hl2,e2⟩:=I.lstM hB
 refine PySem.P.add_list e e2 ?_ (by rw [List.size_toArray,List.size_toArray];omega)
 have ea:its.toArray++its2.toArray=(its++its2).toArray:=by simp
 rw [ea]
 exact ⟨.ref _,_,I.lnew (t':=s.toks) (r.append r2) (by rw [List.length_append];omega),rfl,q _ I.fresh⟩
end
section
variable {prog:Program} {w:World} {A:Around} {E:Value→Shared→Prop} {s:Shared}
end
section
variable {X:Cx}
end
end L2
namespace Att
open PySem PySem.W PySem.Calls PyProof.Rows
theorem ints_of_wellAll {P:Params} {h:Heap}:∀ (ns:List Int) (vs:List Value),WellAll P h vs (ns.map WData.int)→IntsAre vs ns:=by
 intro ns
 induction ns with
 | nil=>
  intro vs w
  rw [List.map_nil] at w
  cases w
  exact .nil
 | cons n ns ih=>
  intro vs w
  rw [List.map_cons] at w
  cases w with
  | cons a b=>
   cases a
   exact .cons _ _ (ih _ b)
theorem script_of {l:OpenLaw} {n:Nat} (hn:l.most=some n) {P:Params} {h:Heap} {args:List WData} {vals:List Value}
  (hpre:l.row.toRowW.claim.pre args=true) (hwl:WellAll P h vals args) :
  ∃ a vs ns,vals=[Value.ref a]∧args=[WData.list (ns.map WData.int)]∧h.get? a=some { cls:=.type "list",data:=.seq vs.toArray }∧IntsAre vs ns∧ns.length≤n:=by
 have hsh:WShape.hasAll [] args [.list .int]=true:=(pre_splitW hpre).1
 have hc:l.pre.holds [] { args:=args }=true:=(pre_splitW hpre).2
 obtain ⟨d,r,rfl,h1,h2⟩:=hasAllW_cons hsh
 obtain rfl:=hasAllW_nil h2
 obtain ⟨xs,rfl,h3⟩:=hasW_list h1
 obtain ⟨ns,rfl⟩:=items_int h3
 have hlen:ns.length≤n:=by
  unfold OpenLaw.pre at hc
  have h4:(WTm.not (.lt (.lit (.int (n:Int))) (.len (.arg 0)))).holds [] { args:=[.list (ns.map .int)] }=true:=by
   have h4:=(holds_andW hc).1
   rw [hn] at h4
   exact h4
  have h5:=condW_of h4 (w_not (w_lt w_lit (w_len_list (w_arg rfl))))
  rw [List.length_map] at h5
  refine Nat.le_of_not_lt fun q=>?_
  have q':(n:Int) < ((ns.length:Nat):Int):=by omega
  first
   | (rw [decide_eq_true q'] at h5;exact absurd h5 (by decide))
   | (simp at h5;omega)
 cases hwl with
 | cons w1 w2=>
  cases w2
  cases w1 with
  | list ho hall=>exact ⟨_,_,ns,rfl,rfl,ho,ints_of_wellAll ns _ hall,hlen⟩
theorem post_true (l:OpenLaw) (args:List WData):l.row.toRowW.claim.post args (.bool true) args=true:=
 postW_of (r:=l.row.toRowW) (X:=(true == true))
  (show WShape.has [] (.bool true) .bool=true by first | rfl | decide | simp [WShape.has,WShape.arms,WShape.armsAll])
  (show (WTm.eq .res (.lit (.bool true))).value [] { args:=args,res:=some (.bool true),after:=args }=some (.bool (true == true)) from w_eq_bool (w_res rfl) w_lit) rfl
theorem attach_call {l:OpenLaw} {n:Nat} {q:Program} {loose:List Str} {XP:(Str→Option Value)→Heap→Prop} {YP:World→Heap→Prop} {d:DefRec}
  (hn:l.most=some n) (hdf:d.params.defaults=[])
  (call:∀ (w:World) (s₀ s₁:Shared) (mg mb:Str→Option Value) (fa:Addr) (o:Obj) (pm cd doc:Value) (a:Addr) (vs:List Value) (ns:List Int),
   Ground q loose [] XP w s₀ mg mb s₁.heap→YP w s₁.heap→
   s₁.heap.get? fa=some o→o.data=.func (docDef d.name d.params d.body d.scope pm cd doc)→s₁.heap.CodeRec cd d.name→mg d.name=some (.ref fa)→
   s₁.heap.get? a=some { cls:=.type "list",data:=.seq vs.toArray }→IntsAre vs ns→ns.length≤n→s₁.gens=#[]→
   codeAny (model l.prog w) callerA (.call (.ref fa) ⟨[.ref a],[]⟩) (fun r s'=>r=.ok (.ret (.bool true))∧OldK s₁.heap s'.heap∧s'.os=s₁.os∧AllBare s'.gens) s₁) :
  WalkO q loose XP YP l.row.toRowW d [] (fun f vs=>PySem.call f vs):=by
 intro w s₀ s₁ mg mb G Y fa o pm cd doc dV kV ho hd hcd hD hmg hg args vals as hpre hlay hrd hwl hlo
 obtain rfl:dV=.none:=Dflts.none hD hdf
 obtain rfl:kV=.none:=Dflts.noKw hD
 obtain ⟨a,vs,ns,rfl,rfl,hobj,hints,hlen⟩:=script_of hn hpre hwl
 refine enter_call (codeAny_mono (call w s₀ s₁ mg mb fa o pm cd doc a vs ns G Y ho (fd_plain hd) hcd hmg hobj hints hlen hg) fun r s' hq=>?_)
 obtain ⟨rfl,h2,h3,h4⟩:=hq
 exact ⟨.inl ⟨.bool true,.bool true,[],rfl,fun _=>rfl,.bool true,post_true l _,fun _=>⟨List.Pairwise.nil,fun _ hm=>(nomatch hm)⟩⟩,h2,h3,h4⟩
section
variable {prog:Program} {w:World} {A:Around} {E:Value→Shared→Prop} {s:Shared} {K:Frag}
end
end Att
namespace L2
open PySem PySem.Spec PyProof.Rows
theorem vals_ints:∀ {vs:List Value} {ns:List Int},IntsAre vs ns→Vals (ns.map V.int) vs
 | _,_,.nil=>.nil
 | _,_,.cons n t h=>.cons ⟨t,rfl⟩ (vals_ints h)
def Only (H:Hp):Prop:=∀ b,H b=none∨∃ o xs,H b=some (.frz o (.lst xs))
theorem law_call {P:Program} {w:World} {K:W.Frag} {mg mb:Str→Option Value} {CX:CXT} {k:Nat} {fa a:Addr} {fd:FuncData} {x:Str} {sp:Sp} {s₁:Shared} {vs:List Value} {ns:List Int}
  (KX:K.In s₁.heap) (hns:s₁.heap.Ns mainGlobals mg) (hb:s₁.heap.Ns builtinsNs mb) (hbb:∀ x:Str,x ≠ "__name__" → mb x=bootBuiltins x) (hlim:s₁.heap.NoLimit) (hg:s₁.gens=#[])
  (ha:s₁.heap.get? a=some { cls:=.type "list",data:=.seq vs.toArray }) (hi:IntsAre vs ns) (hl:ns.length≤sizeLine) (hr:Room k callerA)
  (F:∀ base:Heap,K.In base→base.Ns mainGlobals mg→FnOk P w K mg base CX k fa fd [x] sp) (hbind:∀ (s:Shared) (u:Value),BindsTo s fd ⟨[u],[]⟩ [(x,u)])
  (hsp:∀ H:Hp,Only H→SqL K H a (ns.map V.int)→sp [.ref a] H (fun v _=>v=.bl true) fun _ _ _=>False)
  (hCX:∀ H e s',CX [] H s₁ (fun _ _ _=>False) e s'→False) :
  codeAny (model P w) callerA (.call (.ref fa) ⟨[.ref a],[]⟩) (fun r s'=>r=.ok (.ret (.bool true))∧OldK s₁.heap s'.heap∧s'.os=s₁.os∧AllBare s'.gens) s₁:=by
 have rv:=vals_ints hi
 have lenV:=hi.length
 have core:∀ H:Hp,Only H→SqL K H a (ns.map V.int)→HOk P w H s₁.heap→(∀ b,H b≠none→b=a)→(H a≠none→K.lookup a=none)→
   codeAny (model P w) callerA (.call (.ref fa) ⟨[.ref a],[]⟩) (fun r s'=>r=.ok (.ret (.bool true))∧OldK s₁.heap s'.heap∧s'.os=s₁.os∧AllBare s'.gens) s₁:=by
  intro H hO hS hok hA hK
  have base_of:∀ {b:Addr} {o:Obj},s₁.heap.get? b=some o→H b=none→(hidT s₁.heap H).get? b=some o:=fun e n=>hidT_get e n
  have noA:∀ {b:Addr} {o:Obj} {es:Array DictEntry} {ep:Nat},s₁.heap.get? b=some o→o.data=.dict es ep→H b=none:=fun {b o es ep} e d=>by
   cases q:H b with
   | none=>rfl
   | some u=>
    have e':b=a:=hA b (by rw [q];simp)
    subst e'
    rw [ha] at e;cases e
    have d':Data.seq vs.toArray _=Data.dict es ep:=d
    cases d'
  have nsK:∀ {b:Addr} {m:Str→Option Value},s₁.heap.Ns b m→(hidT s₁.heap H).Ns b m:=fun {b m} ⟨o,es,ep,e,d,r⟩=>⟨o,es,ep,base_of e (noA e d),d,r⟩
  have hKb:K.In (hidT s₁.heap H):=fun b o e=>base_of (KX b o e) (by
   cases q:H b with
   | none=>rfl
   | some u=>
    have e':b=a:=hA b (by rw [q];simp)
    subst e'
    rw [hK (by rw [q];simp)] at e;cases e)
  have hM:Mod K mg (hidT s₁.heap H):=⟨hKb,nsK hns,⟨mb,nsK hb,hbb⟩,let ⟨mc,h1,h2⟩:=hlim;⟨mc,nsK h1,h2⟩⟩
  have e0:Env0 P w K mg (hidT s₁.heap H) callerA [] s₁ H:=⟨rfl,hM,fun b o e=>of_hidT e,Nat.le_of_eq (hidT_size _ _),trivial,fun b hb=>absurd (show b∈([]:List Addr) from hb) (by simp),hok,.of_eq hg⟩
  refine codeAny_mono ((F _ hKb (nsK hns)).run callerA [] s₁ H ⟨[.ref a],[]⟩ [.ref a] [.ref a] _ _ hr e0 (hbind s₁ (.ref a)) (.cons rfl .nil) (hsp H hO hS)) fun r s' h=>?_
  cases r with
  | error e=>exact (hCX H e s' h).elim
  | ok fl=>
   cases fl with
   | next=>exact False.elim h
   | brk=>exact False.elim h
   | cont=>exact False.elim h
   | ret u=>
    obtain ⟨v,H',os,bare,un,hok',r',q⟩:=h
    have q':v=.bl true:=q
    subst q'
    obtain rfl:u=Value.bool true:=r'
    refine ⟨rfl,OldK.of_keep fun b o e=>?_,os,bare⟩
    cases q:H b with
    | none=>exact un.keep b o e q (by intro z;exact absurd (show b∈([]:List Addr) from z) (by simp)) (by simp)
    | some u=>
     rcases hO b with z | ⟨ob,xs,z⟩
     ·rw [q] at z;cases z
     ·have z2:=un.frzs b ob _ z
      obtain ⟨e1,_⟩:=hok b _ z
      obtain ⟨e2,_⟩:=hok' b _ z2
      rw [e] at e1;cases e1
      exact e2
 cases hk:K.lookup a with
 | some o=>
  have e:=KX a o hk
  rw [ha] at e
  cases e
  refine core (fun _=>none) (fun _=>.inl rfl) (.inr ⟨_,vs.toArray,_,hk,rfl,rfl,rfl,by rw [List.size_toArray,lenV];exact hl,by simpa using rv⟩) (fun b u z=>by have z':(none:Option HO)=some u:=z;cases z') (fun b z=>absurd rfl z) fun z=>absurd rfl z
 | none=>
  refine core (fun b=>if b=a then some (.frz { cls:=.type "list",data:=.seq vs.toArray } (.lst (ns.map V.int))) else none) (fun b=>?_) (.inl (.inr ⟨{ cls:=.type "list",data:=.seq vs.toArray },if_pos rfl⟩)) (fun b u z=>?_) (fun b z=>?_) fun _=>hk
  ·by_cases hb:b=a
   ·exact .inr ⟨_,_,if_pos hb⟩
   ·exact .inl (if_neg hb)
  ·by_cases hb:b=a
   ·have z':=(if_pos hb).symm.trans z
    cases z'
    subst hb
    exact ⟨ha,by rw [List.length_map];exact hl,vs,_,rv,ha⟩
   ·have z':=(if_neg hb).symm.trans z
    cases z'
  ·by_cases hb:b=a
   ·exact hb
   ·exact absurd (if_neg hb) z
end L2
namespace L2
open PySem PySem.Spec PyProof.Rows
theorem walk_of {l:W.OpenLaw} {n k:Nat} {q:Program} {loose:List Str} {XP:(Str→Option Value)→Heap→Prop} {YP:World→Heap→Prop} {d:DefRec} {K:Params→W.Frag} {CX:World→CXT} {sp:World→Sp} {x:Str}
  (hn:l.most=some n) (hn2:n≤sizeLine) (hdf:d.params.defaults=[]) (hr:Room k callerA)
  (hY:∀ (w:World) (h:Heap),YP w h→(K w.params).In h)
  (F:∀ (w:World) (mg:Str→Option Value) (fa:Addr) (h:Heap),(K w.params).In h→h.Ns mainGlobals mg→mg d.name=some (.ref fa)→
   ∃ fd:FuncData,(∀ (s:Shared) (u:Value),BindsTo s fd ⟨[u],[]⟩ [(x,u)])∧
    ∀ base:Heap,(K w.params).In base→base.Ns mainGlobals mg→FnOk l.prog w (K w.params) mg base (CX w) k fa fd [x] (sp w))
  (hsp:∀ (w:World) (H:Hp) (a:Addr) (ns:List Int),ns.length≤n→Only H→SqL (K w.params) H a (ns.map V.int)→sp w [.ref a] H (fun v _=>v=.bl true) fun _ _ _=>False)
  (hCX:∀ (w:World) (H:Hp) (s:Shared) (e:Value) (s':Shared),CX w [] H s (fun _ _ _=>False) e s'→False) :
  W.WalkO q loose XP YP l.row.toRowW d [] (fun f vs=>PySem.call f vs):=by
 refine Att.attach_call hn hdf fun w s₀ s₁ mg mb fa o pm cd doc a vs ns G Y ho hd hcd hmg hobj hints hlen hg=>?_
 have KX:=hY w _ Y
 obtain ⟨fd,hb,hF⟩:=F w mg fa _ KX G.T.g hmg
 exact law_call KX G.T.g G.T.b G.T.builtins G.T.nolimit hg hobj hints (Nat.le_trans hlen hn2) hr hF hb (fun H hO hS=>hsp w H a ns hlen hO hS) fun H e s'=>hCX w H s₁ e s'
end L2
namespace L2
open PySem PySem.Spec PyProof.Rows
def inClass (s:Stmt) (j:Nat):Stmt:=match s with
 | .ClassDef _ _ _ body _ _ _ _ _ _ _=>body.getD j (.Pass ⟨0,0,0,0⟩)
 | _=>.Pass ⟨0,0,0,0⟩
def defArgs (s:Stmt):Arguments:=match s with
 | .FunctionDef _ a _ _ _ _ _ _ _ _=>a
 | _=>{ posonlyargs:=[],args:=[],vararg:=none,kwonlyargs:=[],kw_defaults:=[],kwarg:=none,defaults:=[] }
def defBody (s:Stmt):List Stmt:=match s with
 | .FunctionDef _ _ b _ _ _ _ _ _ _=>b
 | _=>[]
def defScope (s:Stmt):Scope:=match s with
 | .FunctionDef _ _ _ _ _ _ sc _ _ _=>sc
 | _=>{ kind:=.function,names:=[],isGenerator:=false,isCoroutine:=false }
abbrev CX0:CXT:=fun _ _ _ _ _ _=>False
abbrev E0:XK:=fun _ _ _=>False
theorem pass0 {X:Cx}:Passes CX0 X E0:=fun _ _ _ _ _ _ _ h=>h.elim
structure Fun (K:W.Frag) (x qual:Str) (st:Stmt) (f:Addr) (fd:FuncData):Prop where
 ex:∃ (oc:Value) (od:Option Addr) (kV doc pm:Value) (an:Option Addr) (cdv ct:Value) (osl:Array (Option Value)),
  fd=W.fnOf x qual (defArgs st) (defBody st) (defScope st) .none kV doc pm an cdv ct∧K.lookup f=some ⟨oc,od,.func fd,osl⟩∧W.codeIn K cdv qual=true
 kp:W.keepIn K (.ref f)=true
section
variable {P:Program} {w:World} {K:W.Frag} {mg:Str→Option Value} {base:Heap}
theorem Fun.ok {x qual:Str} {st:Stmt} {f:Addr} {fd:FuncData} {N ps:List Str} {k:Nat} {sp:Sp} (F:Fun K x qual st f fd) (S:FnScope N ps (defScope st)) (len:∀ vs H Q E,sp vs H Q E→vs.length=ps.length)
  (hbody:∀ (cdv:Value) (A:Around) (outer:List Env) (s:Shared) (H:Hp) (vs:List V) (Q:VK) (E:XK),Room k (A.deeper (envOfC qual (defScope st) s.heap.objs.size f cdv))→sp vs H Q E→
   ∃ t,PSs (cxOf CX0 P w K mg base N qual (defScope st) f cdv A outer s H E).nox (defBody st) t∧t { nx:=fun _ H'=>Q .non H',rt:=Q } (start N vs) H):FnOk P w K mg base CX0 (k+1) f fd ps sp:=by
 obtain ⟨oc,od,kV,doc,pm,an,cdv,ct,osl,rfl,lk,hcd⟩:=F.ex
 refine fn_of lk hcd S len fun A outer s H vs Q E hr hsp=>?_
 obtain ⟨t,h,q⟩:=hbody cdv A outer s H vs Q E hr hsp
 exact ⟨t,h.nox,q⟩
theorem Fun.binds {x qual:Str} {st:Stmt} {f:Addr} {fd:FuncData} {ps:List Str} (F:Fun K x qual st f fd)
  (h:∀ (kV doc pm:Value) (an:Option Addr) (cdv ct:Value) (us:List Value),us.length=ps.length→bindArgs (W.fnOf x qual (defArgs st) (defBody st) (defScope st) .none kV doc pm an cdv ct) ⟨us,[]⟩=pure (ps.zip us)):Binds K fd ps []:=by
 obtain ⟨oc,od,kV,doc,pm,an,cdv,ct,osl,rfl,lk,hcd⟩:=F.ex
 exact .all (h kV doc pm an cdv ct)
theorem fun_mk {x qual:Str} {st:Stmt} {f:Addr} {oc:Value} {od an:Option Addr} {osl:Array (Option Value)} {kV doc pm cdv ct:Value} (l:K.lookup f=some ⟨oc,od,.func (W.fnOf x qual (defArgs st) (defBody st) (defScope st) .none kV doc pm an cdv ct),osl⟩)
  (c:W.codeIn K cdv qual=true) (k:W.keepIn K (.ref f)=true):Fun K x qual st f (W.fnOf x qual (defArgs st) (defBody st) (defScope st) .none kV doc pm an cdv ct):=⟨⟨oc,od,kV,doc,pm,an,cdv,ct,osl,rfl,l,c⟩,k⟩
end
theorem hu_of {A:Around} {k:Nat} (hr:Room k A):A.units+1 < cLine:=Nat.lt_of_le_of_lt (Nat.add_le_add_left (by decide:1≤64) _) hr.units
theorem small1000 {n:Nat} (h:n≤1000):n < sizeLine:=Nat.lt_of_le_of_lt h (by decide)
section
variable {X:Cx}
theorem pv (i:Nat) {x:Str} {pos:Pos} (hN:X.N[i]?=some x:=by rfl) (hv:Vis X.env.scope x:=by first | exact Or.inl rfl | exact Or.inr (Or.inl rfl) | exact Or.inr (Or.inr rfl)) (hd:(x == ("__debug__" : Str))=false:=by decide)
  (hcd:(x == ("__classdict__" : Str))=false:=by decide):PE X (.Name x pos) (tVar i):=pe_var hN hv hd hcd
end
theorem iteF {A B:Prop} (h:B):if false=true then A else B:=by
 rw [if_neg Bool.false_ne_true]
 exact h
theorem iteT {A B:Prop} (h:A):if true=true then A else B:=by
 rw [if_pos rfl]
 exact h
theorem ite2 {c A B:Prop} [Decidable c] (h1:c→A) (h2:¬ c→B):if c then A else B:=by
 by_cases h:c
 ·rw [if_pos h]
  exact h1 h
 ·rw [if_neg h]
  exact h2 h
def Same (H H':Hp):Prop:=∀ b o,H b=some o→H' b=some o
theorem Same.free {H H':Hp} (e:Same H H') {l:Addr} (h:H' l=Option.none):H l=Option.none:=by
 cases q:H l with
 | none=>rfl
 | some o=>
  rw [e l o q] at h
  cases h
theorem Same.seq {K:W.Frag} {H H':Hp} {a:Addr} {xs:List V} (e:Same H H') (h:SqL K H a xs):SqL K H' a xs:=by
 rcases h with (h | ⟨o,h⟩) | h
 ·exact .inl (.inl (e _ _ h))
 ·exact .inl (.inr ⟨o,e _ _ h⟩)
 ·exact .inr h
end L2
set_option maxHeartbeats 4000000
namespace XL
open PySem
open Sem (wp)
theorem alive_of {o:Obj} (h:o.alive=true):o.isFreed=false:=by
 obtain ⟨c,d,dt,sl⟩:=o
 cases dt <;> first | rfl | cases h
def DK (h h':Heap):Prop:=∀ b o,h.get? b=some o→∃ o',h'.get? b=some o'∧o'.dict=o.dict
theorem DK.refl (h:Heap):DK h h:=fun _ o e=>⟨o,e,rfl⟩
theorem DK.trans {h h1 h2:Heap} (a:DK h h1) (b:DK h1 h2):DK h h2:=fun c o e=>
 let ⟨o1,e1,d1⟩:=a c o e;let ⟨o2,e2,d2⟩:=b c o1 e1;⟨o2,e2,d2.trans d1⟩
theorem DK.of_keeps {h h':Heap} (k:∀ b o,h.get? b=some o→h'.get? b=some o):DK h h':=fun b o e=>⟨o,k b o e,rfl⟩
theorem DK.update {h:Heap} {a:Addr} {f:Obj→Obj} (hd:∀ o,(f o).dict=o.dict) (hf:∀ o,o.isFreed=false→(f o).isFreed=false):DK h (h.update a f):=fun b o e=>by
 by_cases q:b=a
 ·subst q
  exact ⟨_,Heap.get?_update_self f e (hf o (alive_of ((Heap.get?_eq_some _ _ _).1 e).2)),hd o⟩
 ·exact ⟨o,(Heap.get?_update_other h f (Ne.symm q)).trans e,rfl⟩
structure KD {α:Type} (t:Sem α):Prop where
 out:∀ (M:Model) (Γ:Ctx) (P:α→Pos→Shared→Prop) (E:Value→Pos→Shared→Prop) (p:Pos) (s:Shared),wp M Γ t P E p s→wp M Γ t (fun a p' s'=>P a p' s'∧DK s.heap s'.heap) E p s
namespace KD
variable {α β:Type}
theorem any {M:Model} {A:Around} {t:Sem α} {Q:α→Shared→Prop} {E:Value→Shared→Prop} {s:Shared} (k:KD t) (h:wpAny M A t Q E s):wpAny M A t (fun a s'=>Q a s'∧DK s.heap s'.heap) E s:=
 fun Γ p hΓ=>k.out M Γ _ _ p s (h Γ p hΓ)
theorem pure' (a:α):KD (Pure.pure a:Sem α):=⟨fun M Γ P E p s h=>by
 simp only [Sem.wp_pure'] at h ⊢
 exact ⟨h,DK.refl _⟩⟩
theorem unsupported' (w:String):KD (PySem.unsupported w:Sem α):=⟨fun M Γ P E p s h=>h.elim⟩
theorem bind' {t:Sem α} {f:α→Sem β} (a:KD t) (b:∀ x,KD (f x)):KD (t >>= f):=⟨fun M Γ P E p s h=>by
 rw [Sem.wp_bind'] at h ⊢
 refine Sem.wp_mono M Γ _ (fun x p1 s1 h1=>?_) (fun _ _ _ z=>z) p s (a.out M Γ _ _ p s h)
 obtain ⟨h1,d1⟩:=h1
 refine Sem.wp_mono M Γ _ (fun y p2 s2 h2=>?_) (fun _ _ _ z=>z) p1 s1 ((b x).out M Γ _ _ p1 s1 h1)
 exact ⟨h2.1,d1.trans h2.2⟩⟩
theorem ite' {c:Prop} [Decidable c] {t u:Sem α} (a:KD t) (b:KD u):KD (if c then t else u):=by
 split
 ·exact a
 ·exact b
theorem load' (a:Addr):KD (PySem.load a):=⟨fun M Γ P E p s h=>by
 unfold PySem.load at h ⊢
 rw [Sem.wp_load] at h ⊢
 obtain ⟨o,ho,h⟩:=h
 refine ⟨o,ho,?_⟩
 simp only [Sem.wp_pure] at h ⊢
 exact ⟨h,DK.refl _⟩⟩
theorem update' (a:Addr) (f:Obj→Obj) (hd:∀ o,(f o).dict=o.dict) (hf:∀ o,o.isFreed=false→(f o).isFreed=false):KD (PySem.update a f):=⟨fun M Γ P E p s h=>by
 unfold PySem.update at h ⊢
 rw [Sem.wp_update] at h ⊢
 obtain ⟨o,h⟩:=h
 refine ⟨o,?_⟩
 simp only [Sem.wp_pure] at h ⊢
 exact ⟨h,DK.update hd hf⟩⟩
theorem alloc' (o:Obj):KD (PySem.alloc o):=⟨fun M Γ P E p s h=>by
 unfold PySem.alloc at h ⊢
 rw [Sem.wp_alloc] at h ⊢
 simp only [Sem.wp_pure] at h ⊢
 exact ⟨h,DK.of_keeps fun b u e=>Heap.get?_push_of_some _ e⟩⟩
theorem stack':KD PySem.stack:=⟨fun M Γ P E p s h=>by
 unfold PySem.stack at h ⊢
 rw [Sem.wp_stack] at h ⊢
 simp only [Sem.wp_pure] at h ⊢
 exact ⟨h,DK.refl _⟩⟩
theorem fieldsOf' (v:Value):KD (PySem.fieldsOf v):=by
 unfold PySem.fieldsOf
 cases v <;> first | exact unsupported' _ | skip
 refine bind' (load' _) fun o=>?_
 split
 ·exact pure' _
 ·exact unsupported' _
theorem field' (v:Value) (i:Nat):KD (PySem.field v i):=by
 unfold PySem.field
 refine bind' (fieldsOf' v) fun vs=>?_
 split
 ·exact pure' _
 ·exact unsupported' _
theorem mapFields_dict (g:Array Value→Array Value) (o:Obj):(Obj.mapFields g o).dict=o.dict:=by
 obtain ⟨c,d,dt,sl⟩:=o
 cases dt <;> rfl
theorem mapFields_freed (g:Array Value→Array Value) (o:Obj) (h:o.isFreed=false):(Obj.mapFields g o).isFreed=false:=by
 obtain ⟨c,d,dt,sl⟩:=o
 cases dt <;> first | rfl | exact h
theorem setField' (v:Value) (i:Nat) (x:Value):KD (PySem.setField v i x):=by
 unfold PySem.setField
 cases v <;> first | exact unsupported' _ | skip
 unfold PySem.updateField
 refine bind' (load' _) fun o=>?_
 split
 ·exact ite' (update' _ _ (mapFields_dict _) (mapFields_freed _)) (unsupported' _)
 ·exact unsupported' _
theorem behindIsImport' (env:Env) (outer:List Env):KD (PySem.behindIsImport env outer):=by
 unfold PySem.behindIsImport
 repeat' first | exact pure' _ | exact field' _ _ | apply ite' | apply bind' | intro _
theorem underTheClaimsCaller':KD PySem.underTheClaimsCaller:=by
 unfold PySem.underTheClaimsCaller
 repeat' first | exact pure' _ | exact stack' | apply ite' | apply bind' | intro _
theorem keptBack' (env:Env) (i:Bool) (l:List Env):KD (PySem.keptBack env i l):=by
 have:=underTheClaimsCaller'
 cases l <;> unfold PySem.keptBack <;> repeat' first | assumption | exact pure' _ | apply ite' | apply bind' | intro _
theorem readyFrames':∀ l:List Env,KD (PySem.readyFrames l)
 | []=>pure' _
 | env::outer=>by
  have ih:=readyFrames' outer
  have h1:=behindIsImport' env outer
  have h2:=fun i=>keptBack' env i outer
  unfold PySem.readyFrames
  cases env.frame with
  | none=>exact unsupported' _
  | some f=>
   refine bind' (load' _) fun o=>ite' (pure' _) ?_
   refine bind' h1 fun i=>bind' (h2 i) fun b=>bind' (update' _ _ (fun _=>rfl) (fun o h=>by obtain ⟨c,d,dt,sl⟩:=o;cases dt <;> first | rfl | exact h)) fun _=>ih
theorem frameObject' (l:List Env):KD (PySem.frameObject l):=by
 cases l with
 | nil=>exact pure' _
 | cons env outer=>
  unfold PySem.frameObject
  exact bind' (readyFrames' _) fun _=>pure' _
theorem frameOf' (env:Env):KD (PySem.frameOf env):=by
 unfold PySem.frameOf PySem.frameEnvs
 refine bind' (bind' stack' fun _=>pure' _) fun l=>bind' (frameObject' _) fun o=>?_
 cases o with
 | none=>exact unsupported' _
 | some f=>exact pure' _
theorem entryPlaceOf' (f:Addr) (b:Bool):KD (PySem.entryPlaceOf f b):=by
 unfold PySem.entryPlaceOf
 refine bind' stack' fun a=>?_
 split <;> exact pure' _
theorem newEntry' (a b c d e:Value) (pl:List Value):KD (PySem.EntryCells.newEntry a b c d e pl):=by
 unfold PySem.EntryCells.newEntry PySem.newFields PySem.newObj PySem.newObjAsIs
 dsimp only
 repeat' first | exact unsupported' _ | exact pure' _ | exact alloc' _ | apply ite' | apply bind' | intro _
theorem noteFrame' (e:Value) (env:Env):KD (PySem.noteFrame e env):=by
 unfold PySem.noteFrame
 cases env.frame with
 | none=>exact unsupported' _
 | some f=>
  dsimp only
  have tail:∀ head,KD (do setField e 1 (← EntryCells.newEntry head (← frameOf env) .none (rawInt f) .none (← entryPlaceOf f (head != .none)))):=fun head=>
   bind' (frameOf' env) fun _=>bind' (entryPlaceOf' _ _) fun _=>bind' (newEntry' _ _ _ _ _ _) fun _=>setField' _ _ _
  refine bind' (field' _ _) fun head=>ite' ?_ (tail head)
  exact bind' (field' _ _) fun x=>ite' (pure' _) (bind' (setField' _ _ _) fun _=>tail head)
theorem setFlight' (e:Value) (f:Option Addr):KD (PySem.setFlight e f):=by
 unfold PySem.setFlight
 exact bind' (field' _ _) fun _=>ite' (setField' _ _ _) (pure' _)
theorem leaving' (env:Env) (e:Value):KD (PySem.leaving env e):=by
 unfold PySem.leaving
 exact bind' (noteFrame' _ _) fun _=>setFlight' _ _
end KD
end XL
namespace XM
inductive All2 {α β:Type} (R:α→β→Prop):List α→List β→Prop
 | nil:All2 R [] []
 | cons {x:α} {y:β} {xs:List α} {ys:List β}:R x y→All2 R xs ys→All2 R (x::xs) (y::ys)
namespace All2
variable {α β:Type} {R S:α→β→Prop}
theorem length {xs:List α} {ys:List β} (h:All2 R xs ys):xs.length=ys.length:=by
 induction h with
 | nil=>rfl
 | cons _ _ ih=>simp [ih]
theorem imp {xs:List α} {ys:List β} (k:∀ x y,R x y→S x y) (h:All2 R xs ys):All2 S xs ys:=by
 induction h with
 | nil=>exact .nil
 | cons r _ ih=>exact .cons (k _ _ r) ih
theorem append {xs xs':List α} {ys ys':List β} (h:All2 R xs ys) (h':All2 R xs' ys'):All2 R (xs++xs') (ys++ys'):=by
 induction h with
 | nil=>exact h'
 | cons r _ ih=>exact .cons r ih
theorem get {xs:List α} {ys:List β} (h:All2 R xs ys):∀ {i:Nat} {x:α},xs[i]?=some x→∃ y,ys[i]?=some y∧R x y:=by
 induction h with
 | nil=>intro i x e;simp at e
 | cons r _ ih=>intro i x e;cases i with
  | zero=>simp at e;subst e;exact ⟨_,rfl,r⟩
  | succ i=>simp at e;obtain ⟨y,h1,h2⟩:=ih e;exact ⟨y,by simpa using h1,h2⟩
theorem of_get {xs:List α}:∀ {ys:List β},xs.length=ys.length→(∀ (i:Nat) x y,xs[i]?=some x→ys[i]?=some y→R x y)→All2 R xs ys:=by
 induction xs with
 | nil=>intro ys e _;cases ys with
  | nil=>exact .nil
  | cons _ _=>simp at e
 | cons x xs ih=>intro ys e k;cases ys with
  | nil=>simp at e
  | cons y ys=>exact .cons (k 0 x y rfl rfl) (ih (by simpa using e) fun i a b h1 h2=>k (i+1) a b (by simpa using h1) (by simpa using h2))
end All2
abbrev PP:=List (Int × Int)
def okPair (q:Int) (p:Int × Int):Bool:=(decide (0≤p.1) && decide (p.1 < q)) && ((decide (0≤p.2) && decide (p.2 < q)) && !decide (p.1=p.2))
def fits (q:Int) (ps:PP):Bool:=(decide (1≤q) && decide (q≤24)) && (decide (ps.length≤60) && ps.all (okPair q))
end XM
namespace L2
open PySem PySem.Spec PyProof.Rows XL
theorem ObjOk.there {P:Program} {w:World} {H:Hp} {h:Heap} {a:Addr} {o:HO} (x:ObjOk P w H h a o):∃ ob,h.get? a=some ob:=by
 cases o with
 | lst xs=>obtain ⟨_,_,_,_,e⟩:=x;exact ⟨_,e⟩
 | tup xs=>obtain ⟨_,_,_,o,e,_⟩:=x;exact ⟨_,e⟩
 | dK kvs=>obtain ⟨_,_,_,_,o,_,_,e,_⟩:=x;exact ⟨_,e⟩
 | dT kvs=>obtain ⟨_,_,_,_,o,_,_,e,_⟩:=x;exact ⟨_,e⟩
 | set S n=>obtain ⟨o,_,_,_,e,_⟩:=x;exact ⟨_,e⟩
 | ins C dx fs=>obtain ⟨_,_,_,e,_⟩:=x;exact ⟨_,e⟩
 | own y=>exact x
 | xd fs=>obtain ⟨_,⟨_,_,_,e,_⟩,_⟩:=x;exact ⟨_,e⟩
 | rng lo hi=>obtain ⟨_,_,_,e⟩:=x;exact ⟨_,e⟩
 | frz ob u=>exact ⟨_,x.1⟩
 | tbl ps=>exact ⟨_,(show h.get? a=some _ from x)⟩
 | met f y=>exact ⟨_,(show h.get? a=some _ from x)⟩
 | ext φ=>exact x.2.1
structure InB (l:List Env) (h0:Heap) (H':Hp) (h:Heap) (B:Heap):Prop where
 old:∀ b o₀ o,h0.get? b=some o₀→b ∉ frs l→h.get? b=some o→B.get? b=some o
 trk:∀ b u o,H' b=some u→h.get? b=some o→B.get? b=some o
structure Fly (P:Program) (w:World) (l:List Env) (H:Hp) (s:Shared) (H':Hp) (a:Addr) (cls:Value) (s':Shared):Prop where
 os:s'.os=s.os
 bare:AllBare s'.gens
 un:Un (frs l) [] H H' s.heap s'.heap
 hok:HOk P w H' s'.heap
 fl:∃ (B:Heap) (t:Addr),Heap.FlyingW B l a cls (.ref t) s'.heap∧InB l s.heap H' s'.heap B
 fresh:H' a=none
 dict:∃ oe,s'.heap.get? a=some oe∧oe.dict=none
def CXE (P:Program) (w:World):CXT:=fun l H s E e s'=>∃ (a:Addr) (cls:Value) (H':Hp),e=.ref a∧Fly P w l H s H' a cls s'∧E cls none H'
theorem un_on {P:Program} {w:World} {l:List Env} {H H':Hp} {h0 h1 h2 B:Heap} (f:Un (frs l) [] H H' h0 h1) (ok:HOk P w H' h1) (fr:∀ b∈frs l,∃ o,h1.get? b=some o∧∀ vs,o.data≠.fields vs)
  (st:B.StaysIn h2) (up:h1.UpToSlots h2) (c:InB l h0 H' h1 B):Un (frs l) [] H H' h0 h2∧HOk P w H' h2∧InB l h0 H' h2 B:=by
 refine ⟨⟨fun b o e n hb hx=>?_,fun b o e n hb hx=>?_,f.free,fun b o e hx=>?_,f.tups,f.frzs,f.tbls⟩,fun b u e=>?_,⟨fun b o₀ o e hb q=>?_,fun b u o e q=>?_⟩⟩
 ·exact st _ _ (c.old b o o e hb (f.keep b o e n hb hx))
 ·obtain ⟨sl,e1⟩:=f.slot b o e n hb hx
  obtain ⟨ob,eo,nf⟩:=fr b hb
  rw [e1] at eo
  cases eo
  obtain ⟨sl2,e2⟩:=up b _ e1 nf
  exact ⟨sl2,e2⟩
 ·obtain ⟨o1,e1⟩:=f.there b o e hx
  by_cases hb:b∈frs l
  ·obtain ⟨ob,eo,nf⟩:=fr b hb
   obtain ⟨sl2,e2⟩:=up b ob eo nf
   exact ⟨_,e2⟩
  ·exact ⟨o1,st _ _ (c.old b o o1 e hb e1)⟩
 ·refine (ok b u e).stay (fun d v hd q=>st d v ?_) (fun _ q=>q) fun _ _ q=>q
  rcases hd with z | z
  ·subst z
   exact c.trk d u v e q
  ·exact c.trk d _ v z q
 ·obtain ⟨o1,e1⟩:=f.there b o₀ e (by simp)
  have e2:=c.old b o₀ o1 e hb e1
  have e3:=st _ _ e2
  rw [q] at e3
  cases e3
  exact e2
 ·obtain ⟨o1,e1⟩:=(ok b u e).there
  have e2:=c.trk b u o1 e e1
  have e3:=st _ _ e2
  rw [q] at e3
  cases e3
  exact e2
section
variable {X:Cx} {pins:List (Addr × Obj)} {σ:St} {H H':Hp} {s s':Shared} {a:Addr} {cls:Value} {M:Model} {E:Value→Shared→Prop}
theorem fly_out {B:Heap} {t:Addr} (I:Inv X pins σ H s) (hex:X.ex=[]) (os:s'.os=s.os) (bare:AllBare s'.gens) (un:Un (frs X.stack) [] H H' s.heap s'.heap) (hok:HOk X.prog X.w H' s'.heap)
  (fl:Heap.FlyingW B X.outer a cls (.ref t) s'.heap) (c:InB X.stack s.heap H' s'.heap B) (fresh:H' a=none) (dict:∃ oe,s'.heap.get? a=some oe∧oe.dict=none):Fly X.prog X.w X.outer X.H₀ X.s₀ H' a cls s':=by
 have J:Inv X pins σ H' s':=I.call' (ch:=[]) os un hok bare (fun _ z=>nomatch z)
 have ub:=J.base
 rw [hex] at ub
 refine ⟨J.os,bare,ub,hok,⟨B,t,fl,⟨fun b o₀ o e hb q=>?_,c.trk⟩⟩,fresh,dict⟩
 obtain ⟨o1,e1⟩:=I.base.there b o₀ e (by rw [hex];simp)
 refine c.old b o1 o e1 (fun z=>?_) q
 rcases List.mem_cons.mp (I.stkSub b z) with z | z
 ·exact absurd z (Nat.ne_of_lt (Nat.lt_of_lt_of_le (Heap.lt_size e) I.ok.above))
 ·exact hb z
theorem frs_not_fields {l:List Env} {base h:Heap} (f:h.FunFrames base l):∀ b∈frs l,∃ o,h.get? b=some o∧∀ vs,o.data≠.fields vs:=fun _ hb=>(f.mem hb).2
theorem raise_leaves {vs:List Value} {h':Heap} {Q:Unit→Shared→Prop} (I:Inv X pins σ H s) (hex:X.ex=[]) (hst:X.stack=X.env::X.outer) (hf:X.env.frame=some X.env.locals) (hx:Heap.MadeExcOf s.heap h' a cls vs)
  (hQ:∀ s'',Fly X.prog X.w X.outer X.H₀ X.s₀ H a cls s''→Q () s''):wpAny M X.A (leaving X.env (.ref a)) Q E { s with heap:=h' }:=by
 have hin:∀ env∈X.stack,∀ b,env.frame=some b→b∈frs X.stack:=fun env he b hb=>List.mem_filterMap.mpr ⟨env,he,hb⟩
 have hl:s.heap.FunFrames (W.hideAll s.heap (frs X.stack)) X.stack:=W.funFrames_hide I.stack hin
 have hl':s.heap.FunFrames (W.hideAll s.heap (frs X.stack)) (X.env::X.outer):=by
  generalize W.hideAll s.heap (frs X.stack)=B at hl
  rw [hst] at hl
  exact hl
 have hfr:=I.ok.frames
 rw [hst] at hfr
 refine wpAny_mono ((KD.leaving' X.env (.ref a)).any (wpAny_leaves_madeW (base:=W.hideAll s.heap (frs X.stack)) (h:=s.heap) (L:=X.env.locals) (s:={ s with heap:=h' })
  (Q:=fun _ s''=>∃ h2 t,s''={ s with heap:=h2 }∧Heap.FlyingW (W.hideAll s.heap (frs X.stack)) X.outer a cls (.ref t) h2∧h'.UpToSlots h2) hfr hf (fun b o q=>W.of_hideAll _ q) hl' hx
  fun h2 t x1 _ _ x4=>⟨h2,t,rfl,x1,x4⟩)) (fun _ s'' z=>?_) fun _ _ z=>z
 obtain ⟨⟨h2,t,rfl,fl,up⟩,dk⟩:=z
 refine hQ _ ?_
 have c0:InB X.stack s.heap H s.heap (W.hideAll s.heap (frs X.stack)):=⟨fun b o₀ o _ hb q=>W.hideAll_get _ q hb,fun b u o e q=>W.hideAll_get _ q fun z=>by
  have:=I.stkFree b z
  rw [e] at this
  cases this⟩
 obtain ⟨u2,ok2,c2⟩:=un_on (P:=X.prog) (w:=X.w) (l:=X.stack) (H:=H) (H':=H) (h0:=s.heap) (h1:=s.heap) (h2:=h2) Un.refl I.hok (frs_not_fields hl) fl.1 ((Heap.UpToSlots.of_keeps hx.keeps).trans up) c0
 refine fly_out (s':={ s with heap:=h2 }) I hex rfl I.bare u2 ok2 fl c2 ?_ ?_
 ·cases q:H a with
  | none=>rfl
  | some u=>
   obtain ⟨ob,e⟩:=(I.hok a u q).there
   have:=hx.new
   rw [e] at this
   cases this
 ·obtain ⟨t',he,_⟩:=hx.there
  obtain ⟨o',e',d'⟩:=dk a _ he
  exact ⟨o',e',d'⟩
theorem pass_leaves {Q:Unit→Shared→Prop} (I:Inv X pins σ H s) (hex:X.ex=[]) (hst:X.stack=X.env::X.outer) (hf:X.env.frame=some X.env.locals) (f:Fly X.prog X.w X.stack H s H' a cls s')
  (hQ:∀ s'',Fly X.prog X.w X.outer X.H₀ X.s₀ H' a cls s''→Q () s''):wpAny M X.A (leaving X.env (.ref a)) Q E s':=by
 obtain ⟨B,t,fl,c⟩:=f.fl
 have hfr:=I.ok.frames
 rw [hst] at hfr
 have fl':=fl
 rw [hst] at fl'
 refine wpAny_mono ((KD.leaving' X.env (.ref a)).any (wpAny_leaves_onW (base:=B) (L:=X.env.locals) (s:=s') (Q:=fun _ s''=>∃ h2,s''={ s' with heap:=h2 }∧Heap.FlyingW B X.outer a cls (.ref t) h2∧s'.heap.UpToSlots h2) hfr hf fl'
  fun h2 x1 x2=>⟨h2,rfl,x1,x2⟩)) (fun _ s'' z=>?_) fun _ _ z=>z
 obtain ⟨⟨h2,rfl,fl2,up⟩,dk⟩:=z
 refine hQ _ ?_
 obtain ⟨u2,ok2,c2⟩:=un_on f.un f.hok (frs_not_fields fl.2.2.1) fl2.1 up c
 refine fly_out (s':={ s' with heap:=h2 }) I hex f.os f.bare u2 ok2 fl2 c2 f.fresh ?_
 obtain ⟨oe,e,d⟩:=f.dict
 obtain ⟨o',e',d'⟩:=dk a oe e
 exact ⟨o',e',d'.trans d⟩
theorem Fly.on {l:List Env} {P:Program} {w:World} {B:Heap} {t:Addr} {h2:Heap} (f:Fly P w l H s H' a cls s') (fl:Heap.FlyingW B l a cls (.ref t) s'.heap) (c:InB l s.heap H' s'.heap B) (fl2:Heap.FlyingW B l a cls (.ref t) h2)
  (up:s'.heap.UpToSlots h2) (dk:DK s'.heap h2):Fly P w l H s H' a cls { s' with heap:=h2 }:=by
 obtain ⟨u2,ok2,c2⟩:=un_on f.un f.hok (frs_not_fields fl.2.2.1) fl2.1 up c
 refine ⟨f.os,f.bare,u2,ok2,⟨B,t,fl2,c2⟩,f.fresh,?_⟩
 obtain ⟨oe,e,d⟩:=f.dict
 obtain ⟨o',e',d'⟩:=dk a oe e
 exact ⟨o',e',d'.trans d⟩
theorem catch_note {A:Around} {R:Shared→Prop} {env:Env} {outer:List Env} {L:Addr} {P:Program} {w:World} (hfr:A.frames=some (env::outer)) (hf:env.frame=some L) (f:Fly P w (env::outer) H s H' a cls s')
  (h:∀ s5,Fly P w (env::outer) H s H' a cls s5→R s5):wpAny M A (noteFrame (.ref a) env) (fun _ s₂=>wpAny M A (setFlight (.ref a) none) (fun _ s₃=>R s₃) E s₂) E s':=by
 obtain ⟨B,t,fl,c⟩:=f.fl
 refine wpAny_mono ((KD.noteFrame' (.ref a) env).any (wpAny_looks_onW (base:=B) (L:=L) (s:=s') (Q:=fun _ s2=>∃ h2,s2={ s' with heap:=h2 }∧Heap.HeldW B (env::outer) a cls (.ref t) L h2∧s'.heap.UpToSlots h2) hfr hf fl
  fun h2 x1 x2=>⟨h2,rfl,x1,x2⟩)) (fun _ s2 z=>?_) fun _ _ z=>z
 obtain ⟨⟨h2,rfl,hd2,up2⟩,dk2⟩:=z
 refine wpAny_mono ((KD.setFlight' (.ref a) none).any (wpAny_landsW (s:={ s' with heap:=h2 }) (Q:=fun _ s3=>∃ h3,s3={ s' with heap:=h3 }∧Heap.FlyingW B (env::outer) a cls (.ref t) h3∧h2.UpToSlots h3) hd2
  fun h3 x1 x2=>⟨h3,rfl,x1,x2⟩)) (fun _ s3 z=>?_) fun _ _ z=>z
 obtain ⟨⟨h3,rfl,fl3,up3⟩,dk3⟩:=z
 exact h _ (f.on fl c fl3 (up2.trans up3) (dk2.trans dk3))
theorem catch_again {A:Around} {R:Shared→Prop} {l:List Env} {P:Program} {w:World} (f:Fly P w l H s H' a cls s')
  (h:∀ s5,Fly P w l H s H' a cls s5→R s5):wpAny M A (setFlight (.ref a) none) (fun _ s₃=>R s₃) E s':=by
 obtain ⟨B,t,fl,c⟩:=f.fl
 refine wpAny_mono ((KD.setFlight' (.ref a) none).any (lands_againW (s:=s') (Q:=fun _ s3=>∃ h3,s3={ s' with heap:=h3 }∧Heap.FlyingW B l a cls (.ref t) h3∧s'.heap.UpToSlots h3) fl
  fun h3 x1 x2=>⟨h3,rfl,x1,x2⟩)) (fun _ s3 z=>?_) fun _ _ z=>z
 obtain ⟨⟨h3,rfl,fl3,up3⟩,dk3⟩:=z
 exact h _ (f.on fl c fl3 up3 dk3)
def excP (a:Addr) (cls:Value) (h:Heap):Prop:=∃ oe vs,h.get? a=some oe∧oe.cls=cls∧oe.dict=none∧oe.data=.fields vs
def excO (a:Addr) (cls:Value):HO:=.ext (excP a cls)
theorem excO_ok {P:Program} {w:World} {H:Hp} {h:Heap} (x:excP a cls h):ObjOk P w H h a (excO a cls):=by
 refine ⟨x,?_,fun h1 h2 p k=>?_⟩
 ·obtain ⟨oe,_,e,_⟩:=x
  exact ⟨oe,e⟩
 ·obtain ⟨oe,vs,e,r⟩:=p
  exact ⟨oe,vs,k oe e,r⟩
theorem Inv.exc (I:Inv X pins σ H s) (e:H a=some (excO a cls)):excP a cls s.heap:=(show ObjOk X.prog X.w H s.heap a (excO a cls) from I.hok a _ e).1
theorem Fly.exc {l:List Env} {P:Program} {w:World} (f:Fly P w l H s H' a cls s'):excP a cls s'.heap:=by
 obtain ⟨B,t,fl,_⟩:=f.fl
 obtain ⟨oe,vs,e,hc,hd,_⟩:=fl.first
 obtain ⟨o2,e2,d2⟩:=f.dict
 rw [e] at e2
 cases e2
 exact ⟨oe,vs,e,hc,d2,hd⟩
theorem Inv.track {o:HO} (I:Inv X pins σ H s) (hn:H a=none) (h0:X.s₀.heap.get? a=none) (hL:a≠X.env.locals) (hC:∀ x c,X.env.cells.lookup x=some c→c≠a) (hp:∀ p∈X.pn++pins,p.1≠a)
  (new:ObjOk X.prog X.w (upd H a o) s.heap a o):Inv X pins σ (upd H a o) s:=by
 refine ⟨I.ok,I.os,I.bare,⟨I.base.keep,I.base.slot,fun b ob e n hx=>?_,I.base.there,fun b xs e=>?_,fun b u xs e=>?_,fun b ps e=>?_⟩,I.loc,I.cell,?_,fun x c e=>?_,fun p hp'=>?_,fun b u e=>?_,I.len⟩
 ·rw [upd_ne (fun z=>by subst z;rw [h0] at e;cases e)]
  exact I.base.free b ob e n hx
 ·rw [upd_ne (ne_of_none (I.base.tups b xs e) hn)]
  exact I.base.tups b xs e
 ·rw [upd_ne (ne_of_none (I.base.frzs b u xs e) hn)]
  exact I.base.frzs b u xs e
 ·obtain ⟨more,q⟩:=I.base.tbls b ps e
  exact ⟨more,by rw [upd_ne (ne_of_none q hn)];exact q⟩
 ·rw [upd_ne (Ne.symm hL)]
  exact I.free
 ·rw [upd_ne (hC x c e)]
  exact I.freeC x c e
 ·obtain ⟨e,n,r⟩:=I.pin p hp'
  exact ⟨e,by rw [upd_ne (hp p hp')];exact n,r⟩
 ·by_cases hb:b=a
  ·subst hb
   rw [upd_same] at e
   cases e
   exact new
  ·rw [upd_ne hb] at e
   exact (I.hok b u e).stay (fun _ _ _ q=>q) (fun c q=>by rw [upd_ne (ne_of_none q hn)];exact q) fun c xs q=>by rw [upd_ne (ne_of_none q hn)];exact q
theorem Fly.inv (I:Inv X pins σ H s) (hex:X.ex=[]) (f:Fly X.prog X.w X.stack H s H' a cls s'):Inv X pins σ (upd H' a (excO a cls)) s':=by
 have J:Inv X pins σ H' s':=I.call' (ch:=[]) f.os f.un f.hok f.bare (fun _ z=>nomatch z)
 obtain ⟨B,t,fl,c⟩:=f.fl
 obtain ⟨oe,vs,e,hc,hdn,hd⟩:=f.exc
 have hBa:B.get? a=none:=fl.2.1
 have nfr:a ∉ frs X.stack:=fun z=>by
  obtain ⟨o,ho,nf⟩:=(fl.2.2.1.mem z).2
  rw [e] at ho
  cases ho
  exact nf vs hd
 have nold:∀ b o,s.heap.get? b=some o→b ∉ frs X.stack→b≠a:=fun b o eb hb z=>by
  subst z
  have:=c.old b o oe eb hb e
  rw [hBa] at this
  cases this
 refine J.track f.fresh ?_ ?_ (fun x d ed z=>?_) (fun p hp z=>?_) (excO_ok f.exc)
 ·cases q:X.s₀.heap.get? a with
  | none=>rfl
  | some o0=>
   obtain ⟨o1,e1⟩:=I.base.there a o0 q (by rw [hex];simp)
   exact absurd rfl (nold a o1 e1 nfr)
 ·intro z
  obtain ⟨m,⟨o,es,ep,ho,hdd,_⟩,_⟩:=J.loc
  rw [← z,e] at ho
  cases ho
  rw [hd] at hdd
  cases hdd
 ·obtain ⟨v,o,ho,hdd⟩:=J.cell x d ed
  rw [z,e] at ho
  cases ho
  rw [hd] at hdd
  cases hdd
 ·obtain ⟨ep,_,nl,nf,_⟩:=I.pin p hp
  refine nold p.1 p.2 ep (fun q=>?_) z
  rcases List.mem_cons.mp (I.stkSub _ q) with q | q
  ·exact nl q
  ·exact nf q
end
end L2
namespace L2
open PySem PySem.Spec PyProof.Rows XL
structure Lets (X:Cx) (E:XK):Prop where
 ex:X.ex=[]
 st:X.stack=X.env::X.outer
 fr:X.env.frame=some X.env.locals
 xe:∀ (e:Value) (s':Shared),wpAny (model X.prog X.w) X.A (leaving X.env e) (fun _ s''=>CXE X.prog X.w X.outer X.H₀ X.s₀ E e s'') (fun e' s''=>CXE X.prog X.w X.outer X.H₀ X.s₀ E e' s'') s'→X.xe e s'
 po:PassesOwn (model X.prog X.w) X.A X.env X.xe
theorem lets_cx {P:Program} {w:World} {K:W.Frag} {mg:Str→Option Value} {base:Heap} {N:List Str} {qual:Str} {scope:Scope} {f:Addr} {cd:Value} {A:Around} {outer:List Env} {s:Shared} {H:Hp} {E:XK} :
  Lets (cxOf (CXE P w) P w K mg base N qual scope f cd A outer s H E) E:=⟨rfl,rfl,rfl,fun _ _ h=>h,PassesOwn.leaving⟩
theorem Lets.pass {X:Cx} {E:XK} (l:Lets X E):Passes (CXE X.prog X.w) X E:=fun pins σ H s e s' I h=>by
 obtain ⟨a,cls,H',rfl,f,q⟩:=h
 exact l.xe _ _ (pass_leaves I l.ex l.st l.fr f fun s'' g=>⟨a,cls,H',rfl,g,q⟩)
structure Err (K:W.Frag) (C:Addr) (B newId initId:String) (bmB:List Value):Prop where
 ok:W.excIn K C bmB newId=true
 base:ExcBaseFacts B newId initId bmB
theorem Err.obj {K:W.Frag} {C:Addr} {B newId initId:String} {bmB:List Value} (c:Err K C B newId initId bmB) {h:Heap} (X:K.In h) :
  ∃ bm N nm q bs hdct sn sub ab col dd k0 k1 k2 k3 k5 mN,h.get? C=some (excClassObj nm q C N bs bm hdct sn sub ab col dd k0 k1 k2 k3 k5 newId)∧h.Ns N mN∧mN "__init__" = none∧OwnTail h bmB bm:=by
 have q:=c.ok
 unfold W.excIn at q
 split at q
 ·rename_i dd cd sl ho
  split at q
  ·rename_i C' bm k0 k1 k2 k3 n k5 hm hs
   simp only [Bool.and_eq_true,beq_iff_eq,Bool.not_eq_true'] at q
   obtain ⟨⟨⟨⟨⟨rfl,rfl⟩,hdel⟩,ht⟩,hok⟩,hni⟩:=q
   obtain ⟨nm,bs,mro,ns,qn,hd,sn,sub,ab,col,del⟩:=cd
   dsimp only at hm hdel hok hni
   subst hm hdel
   have hsl:sl=#[k0,k1,k2,k3,some (.builtin n),k5]:=by
    obtain ⟨l⟩:=sl
    simp only at hs
    rw [hs]
   subst hsl
   exact ⟨bm,ns,nm,qn,bs,hd,sn,sub,ab,col,dd,k0,k1,k2,k3,k5,_,X _ _ ho,.of_isNs (W.isNs_of_in X hok),W.nsMap_none_of_in X hok hni,W.tail_of_in X ht⟩
  ·cases q
 ·cases q
section
variable {X:Cx} {E:XK} {C:Addr} {B newId initId:String} {bmB:List Value} {x:Str} {np cpos pos:Pos} {e₀:Expr} {rest:List Expr} {t:TA}
def tRaise (C:Addr) (E:XK) (t:TA):TS:=fun _ σ H=>t σ H fun vs H1=>vs.length≤sizeLine∧E (.ref C) none H1
theorem ps_raise (l:Lets X E) (c:Err X.K C B newId initId bmB) (hh:X.A.handled=none) (hg:Gl X x) (hm:X.mg x=some (.ref C)) (ha:PA X (e₀::rest) t)
  (he:starEach (e₀::rest) X.env=(false,eval e₀ X.env)::starEach rest X.env:=by rfl) (hplain:(backTo cpos (starEach rest X.env)).any (·.1)=false:=by rfl) (hd:(x == ("__debug__" : Str))=false:=by decide) :
  PS X (.Raise (some (.Call (.Name x np) (e₀::rest) [] cpos)) none pos) (tRaise C E t):=by
 intro pins s σ H D I h
 obtain ⟨tl,N,nm,q,bs,hdct,sn,sub,ab,col,dd,k0,k1,k2,k3,k5,mN,hC,hN,hni,T⟩:=c.obj I.ok.mod.kin
 refine wpAny_Raise_call_subT (C:=C) (nm:=nm) (q:=q) (N:=N) (bs:=bs) (bm:=tl) (hdct:=hdct) (sn:=sn) (sub:=sub) (ab:=ab) (col:=col) (dd:=dd) (k0:=k0) (k1:=k1) (k2:=k2) (k3:=k3) (k5:=k5)
  c.base (mN:=mN) (T.hasType c.base.hasBase) hh (by rw [he];show (false || (backTo cpos (starEach rest X.env)).any (·.1))=false;rw [hplain];rfl) hni (ld_glob I hg hm ⟨rfl,?_⟩ hd)
 have hv:=ha cpos pins s σ H _ I h
 rw [he] at hv ⊢
 refine Calls.evalArgs_plain (wpAny_mono hv (fun us s2 z=>?_) fun _ _ y=>y)
 obtain ⟨vs,H1,I1,r,hz,hE⟩:=z
 exact ⟨rfl,by show us.length≤sizeLine;rw [← r.length];exact hz,I1.bk _ _ hC,hN.keeps I1.bk,T.keeps I1.bk,fun h' e hm=>l.xe _ _ (raise_leaves I1 l.ex l.st l.fr hm fun s'' g=>⟨e,_,H1,rfl,g,hE⟩)⟩
end
section
variable {P:Program} {w:World} {K:W.Frag} {mg:Str→Option Value} {base:Heap}
theorem Fun.okE {x qual:Str} {st:Stmt} {f:Addr} {fd:FuncData} {N ps:List Str} {k:Nat} {sp:Sp} (F:Fun K x qual st f fd) (S:FnScope N ps (defScope st)) (len:∀ vs H Q E,sp vs H Q E→vs.length=ps.length)
  (hbody:∀ (cdv:Value) (A:Around) (outer:List Env) (s:Shared) (H:Hp) (vs:List V) (Q:VK) (E:XK),Room k (A.deeper (envOfC qual (defScope st) s.heap.objs.size f cdv))→sp vs H Q E→
   ∃ t,PSs (cxOf (CXE P w) P w K mg base N qual (defScope st) f cdv A outer s H E) (defBody st) t∧t { nx:=fun _ H'=>Q .non H',rt:=Q } (start N vs) H):FnOk P w K mg base (CXE P w) (k+1) f fd ps sp:=by
 obtain ⟨oc,od,kV,doc,pm,an,cdv,ct,osl,rfl,lk,hcd⟩:=F.ex
 exact fn_of lk hcd S len fun A outer s H vs Q E hr hsp=>hbody cdv A outer s H vs Q E hr hsp
end
abbrev Cx.hand (X:Cx) (v:Value):Cx:={ X with A:=X.A.mark (some v),calm:=false,xe:=fun _ _=>False }
theorem Cx.Ok.hand {X:Cx} (ok:X.Ok) (v:Value):(X.hand v).Ok:=
 ⟨ok.mod,ok.kind,ok.glob,ok.blt,ok.above,ok.inj,ok.has,ok.cab,(fun h=>Bool.noConfusion h),ok.frames,ok.stk,ok.exf,ok.bs,ok.bsz,ok.noex,ok.exfs,ok.funs,ok.frf⟩
abbrev Cx.pinned (X:Cx) (pn:List (Addr × Obj)):Cx:={ X with pn:=X.pn++pn }
abbrev Cx.tryC (X:Cx) (pn:List (Addr × Obj)) (σ₀:St) (E:XK):Cx:=
 { X with pn:=X.pn++pn,xe:=fun e s'=>∃ (H1:Hp) (s1:Shared),Inv (X.pinned pn) [] σ₀ H1 s1∧CXE X.prog X.w X.stack H1 s1 E e s' }
section
variable {X:Cx} {pins:List (Addr × Obj)} {σ:St} {H H':Hp} {s s':Shared}
theorem Inv.hand (I:Inv X pins σ H s) (v:Value):Inv (X.hand v) pins σ H s:=⟨I.ok.hand v,I.os,I.bare,I.base,I.loc,I.cell,I.free,I.freeC,I.pin,I.hok,I.len⟩
theorem Inv.unhand {v:Value} (I:Inv (X.hand v) pins σ H s) (ok:X.Ok):Inv X pins σ H s:=⟨ok,I.os,I.bare,I.base,I.loc,I.cell,I.free,I.freeC,I.pin,I.hok,I.len⟩
theorem Inv.toTry {σ₀:St} {E:XK} (I:Inv X pins σ H s):Inv (X.tryC pins σ₀ E) [] σ H s:=
 ⟨⟨I.ok.mod,I.ok.kind,I.ok.glob,I.ok.blt,I.ok.above,I.ok.inj,I.ok.has,I.ok.cab,I.ok.hd,I.ok.frames,I.ok.stk,I.ok.exf,I.ok.bs,I.ok.bsz,I.ok.noex,I.ok.exfs,I.ok.funs,I.ok.frf⟩,
  I.os,I.bare,I.base,I.loc,I.cell,I.free,I.freeC,(fun p hp=>I.pin p (by rw [List.append_nil] at hp;exact hp)),I.hok,I.len⟩
theorem Inv.ofTry {σ₀:St} {E:XK} (I:Inv (X.tryC pins σ₀ E) [] σ H s) (ok:X.Ok):Inv X pins σ H s:=
 ⟨ok,I.os,I.bare,I.base,I.loc,I.cell,I.free,I.freeC,(fun p hp=>I.pin p (by rw [List.append_nil];exact hp)),I.hok,I.len⟩
theorem Inv.ofPin (I:Inv (X.pinned pins) [] σ H s) (ok:X.Ok):Inv X pins σ H s:=
 ⟨ok,I.os,I.bare,I.base,I.loc,I.cell,I.free,I.freeC,(fun p hp=>I.pin p (by rw [List.append_nil];exact hp)),I.hok,I.len⟩
def PassesAt (CX:CXT) (X:Cx) (σ₀:St) (E:XK):Prop:=∀ (pins:List (Addr × Obj)) (H:Hp) (s:Shared) (e:Value) (s':Shared),Inv X pins σ₀ H s→CX X.stack H s E e s'→X.xe e s'
theorem passTry {pn:List (Addr × Obj)} {σ₀:St} {E:XK}:PassesAt (CXE X.prog X.w) (X.tryC pn σ₀ E) σ₀ E:=fun pins H s e s' I h=>
 ⟨H,s,⟨⟨I.ok.mod,I.ok.kind,I.ok.glob,I.ok.blt,I.ok.above,I.ok.inj,I.ok.has,I.ok.cab,I.ok.hd,I.ok.frames,I.ok.stk,I.ok.exf,I.ok.bs,I.ok.bsz,I.ok.noex,I.ok.exfs,I.ok.funs,I.ok.frf⟩,
  I.os,I.bare,I.base,I.loc,I.cell,I.free,I.freeC,(fun p hp=>I.pin p (by rw [List.append_nil] at hp;exact List.mem_append_left _ hp)),I.hok,I.len⟩,h⟩
theorem gone_ok {M:Model} {A:Around} {E:Value→Shared→Prop} {i:Nat} {x:Str} {pos:Pos} {Q:Unit→Shared→Prop} (I:Inv X pins σ H s) (hN:X.N.Nodup) (hi:X.N[i]?=some x) (hk:X.env.scope.names.lookup x=some .local)
  (h:∀ s',Inv X pins (σ.set i none) H s'→Q () s'):wpAny M A (do bindName X.env x .none;unbindBehindTheSuite X.env x pos) Q E s:=by
 obtain ⟨m,hn,hl⟩:=id I.loc
 have hcls:(X.env.scope.kind == .class || (X.env.scope.kind == .module && X.env.locals != X.env.globals))=false:=by rw [I.ok.kind];rfl
 refine wpAny_nameGoes_keeps hk hn hcls fun h' v hn' hs=>h _ ?_
 have other:∀ b o,s.heap.get? b=some o→b≠X.env.locals→h'.get? b=some o:=fun b o e q=>(hs.2 b q).trans e
 have neL:∀ b o,X.s₀.heap.get? b=some o→b≠X.env.locals:=fun b o e=>Nat.ne_of_lt (Nat.lt_of_lt_of_le (Heap.lt_size e) I.ok.above)
 have trk:∀ b u,H b=some u→b≠X.env.locals:=fun b u e z=>by rw [z,I.free] at e;cases e
 refine ⟨I.ok,I.os,I.bare,⟨fun b o e n hb hx=>?_,fun b o e n hb hx=>?_,I.base.free,fun b o e hx=>?_,I.base.tups,I.base.frzs,I.base.tbls⟩,⟨_,hn',fun j y v' e1 e2 e3=>?_⟩,fun y c e=>?_,I.free,I.freeC,fun p hp=>?_,fun b u e=>?_,?_⟩
 ·exact other b o (I.base.keep b o e n hb hx) (neL b o e)
 ·obtain ⟨sl,e1⟩:=I.base.slot b o e n hb hx
  exact ⟨sl,other b _ e1 (neL b o e)⟩
 ·obtain ⟨o',e1⟩:=I.base.there b o e hx
  exact ⟨o',other b o' e1 (neL b o e)⟩
 ·have hj:j≠i:=fun z=>by
   subst z
   rw [List.getElem?_set] at e2
   simp at e2
  rw [List.getElem?_set_ne (Ne.symm hj)] at e2
  obtain ⟨u',r',q⟩:=hl j y v' e1 e2 e3
  refine ⟨u',r',?_⟩
  rcases q with ⟨k,e⟩ | ⟨k,c,e,z⟩
  ·refine .inl ⟨k,?_⟩
   have ne:y≠x:=fun e=>hj (nodup_ix hN e1 (e ▸ hi))
   simp [ne,e]
  ·exact .inr ⟨k,c,e,z.sameBut hs (I.cne y c e)⟩
 ·obtain ⟨w',z⟩:=I.cell y c e
  exact ⟨w',z.sameBut hs (I.cne y c e)⟩
 ·obtain ⟨e,n,ne,nf,d⟩:=I.pin p hp
  exact ⟨other p.1 p.2 e ne,n,ne,nf,d⟩
 ·refine (I.hok b u e).stay (fun c w' hc q=>other c w' q ?_) (fun _ q=>q) fun _ _ q=>q
  rcases hc with z | z
  ·subst z
   exact trk c u e
  ·exact trk c _ z
 ·simpa using I.len
end
structure Named (K:W.Frag) (D:Addr):Prop where
 cls:(W.clsIn K D).isSome=true
 ty:W.typeIn K (.ref D)=some (.type "type")
 exc:W.mroIn K D (.type "BaseException")=some true
theorem exc_hit {K:W.Frag} {M:Model} {A:Around} {E:Value→Shared→Prop} {s:Shared} {a C D:Addr} {r:Bool} {Q:Bool→Shared→Prop} (X:K.In s.heap) (n:Named K D) (p:excP a (.ref C) s.heap) (hm:W.mroIn K C (.ref D)=some r) (h:Q r s) :
  wpAny M A (excMatches (.ref a) (.ref D)) Q E s:=by
 obtain ⟨oe,vs,e,hc,_⟩:=p
 have L0:W.Looks M s.heap (typeOf (.ref D)) (.type "type"):=W.looks_typeIn X n.ty
 have L1:W.Looks M s.heap (isInstance (.ref D) (.type "tuple")) false:=L0.andThen (W.Looks.of_pure tc_notTuple)
 have L2:W.Looks M s.heap (isType (.ref D)) true:=by
  have hcD:=n.cls
  unfold W.clsIn at hcD
  split at hcD
  ·rename_i c' d' cd' sl' ho
   intro A' Q' E' s' k q
   unfold isType loadHead
   exact wpAny_bind (wpAny_loadPart (k _ _ (X _ _ ho)) (wpAny_pure q))
  ·cases hcD
 have L3:W.Looks M s.heap (isExcClass (.ref D)) true:=by
  unfold isExcClass
  exact L2.andThen (by rw [if_pos rfl];exact W.looks_mroIn X n.exc)
 have L4:W.Looks M s.heap (typeOf (.ref a)) (.ref C):=hc ▸ (W.Looks.ld e).andThen .now
 have L5:W.Looks M s.heap (isSubtype (.ref C) (.ref D)) r:=W.looks_mroIn X hm
 unfold excMatches
 refine wpAny_bind (L1.here ?_)
 simp only [Bool.false_eq_true,if_false,List.forIn_cons,List.forIn_nil]
 refine wpAny_bind (wpAny_pure ?_)
 refine wpAny_bind (wpAny_bind (wpAny_bind (L3.here ?_)))
 simp only [Bool.not_true,Bool.false_eq_true,if_false]
 refine wpAny_pure (wpAny_pure ?_)
 refine wpAny_bind (L4.here (wpAny_bind ?_))
 rw [List.forIn_cons]
 refine wpAny_bind (wpAny_bind (L5.here ?_))
 cases r with
 | true=>exact wpAny_pure (wpAny_pure (wpAny_pure h))
 | false=>exact wpAny_pure (wpAny_pure (wpAny_pure h))
def tTry (K:W.Frag) (D:Addr) (i:Nat) (tb:St→XK→TS) (ts:TS):TS:=fun G σ H=>
 tb σ (fun cls _ H'=>∃ C,cls=.ref C∧W.mroIn K C (.ref D)=some true∧∀ a,H' a=none→
  ts { nx:=fun σ' H2=>G.nx (σ'.set i none) H2,rt:=G.rt,bk:=fun σ' H2=>G.bk (σ'.set i none) H2,ct:=fun σ' H2=>G.ct (σ'.set i none) H2 } (σ.set i (some (.ref a))) (upd H' a (excO a cls))) G σ H
theorem ps_try {X:Cx} {body suite:List Stmt} {b₀:Stmt} {x n:Str} {i:Nat} {np hpos pos:Pos} {D:Addr} {tb:St→XK→TS} {ts:TS} (hex:X.ex=[]) (hst:X.stack=X.env::X.outer) (hfr:X.env.frame=some X.env.locals)
  (hb:∀ pn σ₀ E,PSs (X.tryC pn σ₀ E) body (tb σ₀ E)) (hs:∀ v,PSs (X.hand v) (b₀::suite) ts) (hN:X.N.Nodup) (hi:X.N[i]?=some n) (hk:X.env.scope.names.lookup n=some .local) (hg:Gl X x) (hm:X.mg x=some (.ref D)) (hD:Named X.K D)
  (hd:(x == ("__debug__" : Str))=false:=by decide) (hf:X.fn n=true∨X.env.scope.names.lookup n=some .local:=by first | exact .inl rfl | exact .inr rfl | assumption) :
  PS X (.Try body [.ExceptHandler (some (.Name x np)) (some n) (b₀::suite) hpos] [] [] pos) (tTry X.K D i tb ts):=by
 intro pins s σ H G I h
 refine wpAny_Try_except (wpAny_mono (hb pins σ _ [] s σ H G I.toTry h) (fun f s1 z=>?_) fun e s1 z=>?_)
 ·cases f with
  | next=>
   obtain ⟨σ',H',J,q⟩:=z
   exact pss_nil (X:=X) pins s1 σ' H' G (J.ofTry I.ok) q
  | brk=>
   obtain ⟨σ',H',J,q⟩:=z
   exact ⟨σ',H',J.ofTry I.ok,q⟩
  | cont=>
   obtain ⟨σ',H',J,q⟩:=z
   exact ⟨σ',H',J.ofTry I.ok,q⟩
  | ret u=>
   obtain ⟨v,σ',H',J,r,q⟩:=z
   exact ⟨v,σ',H',J.ofTry I.ok,r,q⟩
 ·obtain ⟨H1,s2,J0,a,cls,H',rfl,f,C,rfl,hsub,hq⟩:=z
  have J:Inv X pins σ H1 s2:=J0.ofPin I.ok
  have hfrm:=I.ok.frames
  rw [hst] at hfrm f
  refine catch_note hfrm hfr f fun s3 f3=>?_
  have f3':=f3
  rw [← hst] at f3'
  have I3:=Fly.inv J hex f3'
  refine wpAny_handleBy_cons (codeAny_handlers_test (ld_glob (I3.hand (.ref a)) hg hm (exc_hit I3.kIn hD f3.exc hsub ?_) hd)) (by intro q;cases q)
  refine codeAny_handlers_suite_as (catch_again f3 fun s4 f4=>?_)
  have f4':=f4
  rw [← hst] at f4'
  refine store_ok (v:=.ref a) (Fly.inv J hex f4') hN hi (.inl hk) rfl (fun s5 I5=>?_) hf
  refine wpAny_mono (hs (.ref a) pins s5 _ _ _ (I5.hand (.ref a)) (hq a f3.fresh)) (fun fl s6 z=>?_) fun _ _ z=>z.elim
  have go:∀ {σ':St} {H2:Hp} {Q:Unit→Shared→Prop},Inv (X.hand (.ref a)) pins σ' H2 s6→(∀ s7,Inv X pins (σ'.set i none) H2 s7→Q () s7)→wpAny (model X.prog X.w) X.A (do bindName X.env n .none;unbindBehindTheSuite X.env n hpos) Q X.xe s6:=
   fun J6 k=>gone_ok (J6.unhand I.ok) hN hi hk k
  cases fl with
  | next=>
   obtain ⟨σ',H2,J6,q⟩:=z
   exact go J6 fun s7 J7=>⟨_,H2,J7,q⟩
  | brk=>
   obtain ⟨σ',H2,J6,q⟩:=z
   exact go J6 fun s7 J7=>⟨_,H2,J7,q⟩
  | cont=>
   obtain ⟨σ',H2,J6,q⟩:=z
   exact go J6 fun s7 J7=>⟨_,H2,J7,q⟩
  | ret u=>
   obtain ⟨v,σ',H2,J6,r,q⟩:=z
   exact go J6 fun s7 J7=>⟨v,_,H2,J7,r,q⟩
section
variable {X:Cx} {CX:CXT} {k:Nat} {f C:Addr} {fd:FuncData} {ps:List Str} {sp:Sp} {dvs:List V} {ds:List Value} {E:XK} {x:Str} {p pos:Pos} {e:Expr} {es:List Expr} {t:TA} {σ₀:St}
def tAt (σ₀:St) (t:TE):TE:=fun σ H Q=>σ=σ₀∧t σ H Q
theorem run_fnAt {pins:List (Addr × Obj)} {H:Hp} {s:Shared} {Q:VK} {us:List Value} {vs:List V} (F:FnOk X.prog X.w X.K X.mg X.base CX k f fd ps sp) (hr:Room k X.A) (hb:Binds X.K fd ps ds) (hd:Vals dvs ds) (hx:PassesAt CX X σ₀ E)
  (I:Inv X pins σ₀ H s) (r:Vals vs us) (h:sp (vs++dvs) H Q E):wpAny (model X.prog X.w) X.A (call (.ref f) us) (EP X pins σ₀ Q) X.xe s:=by
 have r2:Vals (vs++dvs) (us++ds):=r.append hd
 have hl:(us++ds).length=ps.length:=by rw [← r2.length];exact F.len _ _ _ _ h
 refine wpAny_call (codeAny_mono (F.run X.A X.stack s H ⟨us,[]⟩ (us++ds) (vs++dvs) Q E hr I.env0 (hb s us I.kIn hl) r2 h) fun r s' hq=>?_)
 cases r with
 | error e=>exact hx pins H s e s' I hq
 | ok fl=>
  cases fl with
  | ret u=>exact I.after hq
  | next=>exact False.elim hq
  | brk=>exact False.elim hq
  | cont=>exact False.elim hq
theorem pe_callAt (F:FnOk X.prog X.w X.K X.mg X.base CX k f fd ps sp) (hr:Room k X.A) (hg:Gl X x) (hm:X.mg x=some (.ref f)) (hk:W.keepIn X.K (.ref f)=true) (hb:Binds X.K fd ps ds) (hd:Vals dvs ds) (hx:PassesAt CX X σ₀ E)
  (ha:PA X (e::es) t) (hdb:(x == ("__debug__" : Str))=false:=by decide) (he:starEach (e::es) X.env=(false,eval e X.env)::starEach es X.env:=by rfl) (hpl:(backTo pos (starEach es X.env)).any (·.1)=false:=by rfl) :
  PE X (.Call (.Name x p) (e::es) [] pos) (tAt σ₀ (tCall sp dvs E t)):=by
 rintro pins s σ H Q I ⟨rfl,h⟩
 refine wpAny_Call_Name_kw (ld_glob I hg hm ?_ hdb)
 refine W.callWith_K (h₀:=X.base) I.ok.mod.kin hk (thn (ha pos pins s σ H _ I h) fun us s1 ⟨vs,H1,I1,r,q⟩=>⟨I1.kIn,?_⟩) he hpl
 exact run_fnAt F hr hb hd hx I1 r q
end
inductive Den (K:W.Frag) (H:Hp):V→PyData→Prop
 | non:Den K H .non .none
 | bl (b:Bool):Den K H (.bl b) (.bool b)
 | int (i:Int):Den K H (.int i) (.int i)
 | str (x:Str):Den K H (.str x) (.str x)
 | lst {a:Addr} {xs:List V} {ds:List PyData} (h:SqL K H a xs) (hl:xs.length=ds.length) (r:∀ (i:Nat) x d,xs[i]?=some x→ds[i]?=some d→Den K H x d):Den K H (.ref a) (.list ds)
 | tup {a:Addr} {xs:List V} {ds:List PyData} (h:SqT K H a xs) (hl:xs.length=ds.length) (r:∀ (i:Nat) x d,xs[i]?=some x→ds[i]?=some d→Den K H x d):Den K H (.ref a) (.tuple ds)
theorem readsAll_of {h:Heap}:∀ {us:List Value} {ds:List PyData},us.length=ds.length→(∀ (i:Nat) u d,us[i]?=some u→ds[i]?=some d→∃ as,Reads h u d as)→∃ as,ReadsAll h us ds as
 | [],[],_,_=>⟨_,.nil⟩
 | [],_::_,e,_=>by simp at e
 | _::_,[],e,_=>by simp at e
 | u::us,d::ds,e,k=>by
  obtain ⟨as,r⟩:=k 0 u d rfl rfl
  obtain ⟨bs,q⟩:=readsAll_of (us:=us) (ds:=ds) (by simpa using e) fun i v c h1 h2=>k (i+1) v c (by simpa using h1) (by simpa using h2)
  exact ⟨_,.cons r q⟩
theorem Den.reads {X:Cx} {pins:List (Addr × Obj)} {σ:St} {H:Hp} {s:Shared} (I:Inv X pins σ H s) {x:V} {d:PyData} (D:Den X.K H x d):∀ {u:Value},RelV x u→∃ as,Reads s.heap u d as:=by
 induction D with
 | non=>intro u r;cases (show u=Value.none from r);exact ⟨_,.none⟩
 | bl b=>intro u r;cases (show u=Value.bool b from r);exact ⟨_,.bool b⟩
 | int i=>intro u r;obtain ⟨t,q⟩:=(show ∃ t,u=Value.int i t from r);cases q;exact ⟨_,.int i t⟩
 | str y=>intro u r;obtain ⟨t,q⟩:=(show ∃ t,u=Value.str y t from r);cases q;exact ⟨_,.str y t⟩
 | @lst a xs ds h hl r ih=>
  intro u ru
  cases (show u=Value.ref a from ru)
  obtain ⟨its,hv,pl,_⟩:=I.list h
  have hlen:=hv.length
  obtain ⟨as,q⟩:=readsAll_of (h:=s.heap) (us:=its) (ds:=ds) (by omega) fun i v d h1 h2=>by
   have hx:i < xs.length:=by have:=(List.getElem?_eq_some_iff.mp h1).1;omega
   obtain ⟨v',e',rv⟩:=hv.get (List.getElem?_eq_getElem hx)
   rw [h1] at e'
   cases e'
   exact ih i _ d (List.getElem?_eq_getElem hx) h2 rv
  obtain ⟨o,ho,hc,n,hd⟩:=pl.isList
  exact ⟨_,.list ho hc hd (by simpa using q)⟩
 | @tup a xs ds h hl r ih=>
  intro u ru
  cases (show u=Value.ref a from ru)
  obtain ⟨its,hv,pl,_⟩:=I.tuple h
  have hlen:=hv.length
  obtain ⟨as,q⟩:=readsAll_of (h:=s.heap) (us:=its) (ds:=ds) (by omega) fun i v d h1 h2=>by
   have hx:i < xs.length:=by have:=(List.getElem?_eq_some_iff.mp h1).1;omega
   obtain ⟨v',e',rv⟩:=hv.get (List.getElem?_eq_getElem hx)
   rw [h1] at e'
   cases e'
   exact ih i _ d (List.getElem?_eq_getElem hx) h2 rv
  obtain ⟨o,ho,hc,n,hd⟩:=pl
  exact ⟨_,.tuple ho hc hd (by simpa using q)⟩
inductive rDenI (K:W.Frag) (f:Bool→Bool) (x:V) (y:V) (H:Hp) (Q:VK):Prop
 | mk (d e:_):(Den K H x d)→(Den K H y e)→(SeqAt.shaped d=true)→(SeqAt.shaped e=true)→(Q (.bl (f (PyData.eqv d e))) H)→rDenI K f x y H Q
def rDen (K:W.Frag) (f:Bool→Bool):V→V→Hp→VK→Prop:=fun x y H Q=>rDenI K f x y H Q
theorem op_eqD {X:Cx} (hu:X.A.units+64 < cLine):OpR X (compareOp .Eq) (rDen X.K fun b=>b):=by
 rintro pins s σ H x y v u Q I rx ry ⟨d,e,D1,D2,s1,s2,q⟩
 obtain ⟨as,r1⟩:=D1.reads I rx
 obtain ⟨bs,r2⟩:=D2.reads I ry
 exact eq_dataH r1 r2 s1 s2 hu ⟨.bl _,H,I,rfl,q⟩
theorem op_neD {X:Cx} (hu:X.A.units+64 < cLine):OpR X (compareOp .NotEq) (rDen X.K fun b=>!b):=by
 rintro pins s σ H x y v u Q I rx ry ⟨d,e,D1,D2,s1,s2,q⟩
 obtain ⟨as,r1⟩:=D1.reads I rx
 obtain ⟨bs,r2⟩:=D2.reads I ry
 exact ne_dataH r1 r2 s1 s2 hu ⟨.bl _,H,I,rfl,q⟩
def clsV:V→Option Value
 | .ty n=>some (.type n)
 | .ref a=>some (.ref a)
 | _=>none
theorem clsV_rel {y:V} {c u:Value} (h:clsV y=some c) (r:RelV y u):u=c:=by
 cases y <;> first | (cases h;exact r) | cases h
theorem call_isi {X:Cx}:CallR X (.builtin "isinstance") (fun xs H Q=>∃ x y c t b,xs=[x,y]∧clsV y=some c∧TyOf X.K H x t∧W.kitOne X.K t c=some b∧Q (.bl b) H):=by
 rintro pins s σ H xs us Q I r ⟨x,y,c,t,b,rfl,hc,ty,hk,q⟩
 obtain ⟨u,w',rfl,r1,r2⟩:=vals2 r
 cases clsV_rel hc r2
 exact isinst_ok I r1 ty hk fun tk=>⟨.bl b,H,I.tok tk,rfl,q⟩
structure ErrA (K:W.Frag) (C:Addr):Prop where
 ga:W.findIn K (.ref C) "__getattribute__" = some (some (.builtin "BaseException.__getattribute__"))
 gt:W.findIn K (.ref C) "__getattr__" = some none
 cls:(W.clsIn K C).isSome=true
 ca:W.findIn K (.ref C) "__class__" = some (some (.builtin "object.__class__"))
 cg:W.specialIn K (.builtin "object.__class__") "__get__" = some (some (.builtin "getset_descriptor.__get__"))
 ct:W.takesIn K (.builtin "object.__class__")=some true
 ob:W.mroIn K C (.type "object")=some true
 be:W.mroIn K C (.type "BaseException")=some true
theorem excP.inst {a C:Addr} {h:Heap} (p:excP a (.ref C) h):∃ ox,W.InstAt h a ox C none:=by
 obtain ⟨oe,vs,e,hc,hd,hf⟩:=p
 refine ⟨oe,e,hc,?_,?_⟩
 ·unfold W.notCls
  rw [hf]
 ·rw [hd]
  exact True.intro
theorem canon_bexc_ga:(Manifest.canonical "BaseException.__getattribute__" != "object.__getattribute__")=false:=by decide +kernel
theorem method_exc {K:W.Frag} {prog:Program} {w:World} {A:Around} {E:Value→Shared→Prop} {s:Shared} {a C f:Addr} {m:Str} {pl:Sem Bool} {Q:Value × List Value→Shared→Prop} (X:K.In s.heap) (p:excP a (.ref C) s.heap) (c:ErrA K C)
  (hf:W.findIn K (.ref C) m=some (some (.ref f))) (ht:W.typeIn K (.ref f)=some (.type "function")) (h:Q (.ref f,[.ref a]) s):wpAny (model prog w) A (getMethod (.ref a) m pl) Q E s:=by
 obtain ⟨ox,I⟩:=p.inst
 have hcan:=canon_bexc_ga
 unfold getMethod specialOf
 refine wpAny_bind (wpAny_bind (I.type.here ((W.looks_findIn X c.ga).here ?_)))
 dsimp only
 rw [hcan,if_neg (by decide)]
 refine wpAny_bind (wpAny_bind (I.type.here ((W.looks_findIn X c.gt).here ?_)))
 refine wpAny_bind (wpAny_bind (I.type.here ((W.looks_findIn X hf).here (wpAny_bind ((W.looks_typeIn X ht).here ?_)))))
 rw [if_neg (by decide +kernel)]
 refine wpAny_bind (wpAny_loadPart I.at_ ?_)
 have hd:=I.dict
 cases e:ox.dict with
 | none=>exact wpAny_bind (wpAny_rule (wpAny_pure h))
 | some dx=>
  rw [e] at hd
  exact hd.elim
section
variable {X:Cx} {CX:CXT} {k:Nat} {f C:Addr} {fd:FuncData} {ps:List Str} {sp:Sp} {dvs:List V} {ds:List Value} {E:XK} {m:Str} {pos apos:Pos} {o:Expr} {ta:TE}
def tMethE (C:Addr) (sp:Sp) (dvs:List V) (E:XK) (ta:TE):TE:=fun σ H Q=>ta σ H fun x H1=>∃ a,x=.ref a∧H1 a=some (excO a (.ref C))∧sp (x::dvs) H1 Q E
theorem pe_methE0 {pl:Sem Bool} (he:PE X o ta) (c:ErrA X.K C) (hf:W.findIn X.K (.ref C) m=some (some (.ref f))) (ht:W.isFn X.K (.ref f)=true) (hk:W.keepIn X.K (.ref f)=true) (F:FnOk X.prog X.w X.K X.mg X.base CX k f fd ps sp) (hr:Room k X.A) (hb:Binds X.K fd ps ds) (hd:Vals dvs ds)
  (hx:Passes CX X E)
  (hev:eval (.Call (.Attribute o m apos) [] [] pos) X.env=(do
   let ov ← eval o X.env
   standAt apos.atName
   let (f,first) ← holding [ov] (getMethod ov m pl)
   callWith pos f first (backTo pos (starEach [] X.env)) (backToKw pos (keywordEach [] X.env))):=by rfl) :
  PE X (.Call (.Attribute o m apos) [] [] pos) (tMethE C sp dvs E ta):=by
 intro pins s σ H Q I h
 refine W.methodCall_KW (pl:=pl) (thn (he pins s σ H _ I h) fun u s1 ⟨x,H1,I1,rx,a,ex,ea,q⟩=>?_) hev
 subst ex
 obtain rfl:u=Value.ref a:=rx
 refine method_exc I1.kIn (I1.exc ea) c hf (beq_iff_eq.mp ht) ?_
 exact W.callWith_K0 (first:=[.ref a]) I1.kIn hk (run_fn (us:=[.ref a]) (vs:=[.ref a]) F hr hb hd hx I1 (.cons rfl .nil) q)
end
theorem bga_kind:builtinKind "BaseException.__getattribute__" = some .slot:=by decide +kernel
theorem bga_split:splitId "BaseException.__getattribute__" = some ("BaseException", "__getattribute__"):=by decide +kernel
theorem bga_bind (self:Value):bindSpecial (.builtin "BaseException.__getattribute__") self=pure (.builtin "BaseException.__getattribute__",[self]):=PySem.F.excAttr_ValueError.ga.bind self
section
variable {K:W.Frag} {prog:Program} {w:World} {A:Around} {E:Value→Shared→Prop} {hh:Heap} {g:Array GenState} {d:Drawn} {t:Nat} {os:OsState} {a C:Addr} {tk:Tok}
theorem exc_check {M:Model} {nameV:Value} {Q:Unit→Shared→Prop} (X:K.In hh) (p:excP a (.ref C) hh) (c:ErrA K C) (hq:Q () ⟨hh,g,d,t,os⟩):wpAny M A (checkBuiltinCall "BaseException.__getattribute__" ⟨[.ref a,nameV],[]⟩) Q E ⟨hh,g,d,t,os⟩:=by
 obtain ⟨ox,I⟩:=p.inst
 have L0:=I.type (M:=M)
 have L4:W.Looks M hh (isSubtype (.ref C) (.type "BaseException")) true:=W.looks_mroIn X c.be
 have hk:=bga_kind
 have hsplit:=bga_split
 have ha:=F.args_bexc_ga (.ref a) nameV
 simp only [checkBuiltinCall,hk,hsplit]
 refine wpAny_bind ?_
 unfold isInstance
 repeat (first | with_reducible refine W.Looks.at L0 ?_ | with_reducible refine W.Looks.at L4 ?_ | wp_step)
 exact hq
theorem exc_entry {Q:Fin→Shared→Prop} (X:K.In hh) (p:excP a (.ref C) hh) (c:ErrA K C) (hq:Q (.done (.ret (.ref C))) ⟨hh,g,d,t,os⟩) :
  wpAny (model prog w) A (Builtin.«object.__getattribute__» ⟨[.ref a,.str "__class__" tk],[]⟩) Q E ⟨hh,g,d,t,os⟩:=by
 obtain ⟨ox,I⟩:=p.inst
 have hf:W.findObj K C none "__class__" = some (.bind (.builtin "getset_descriptor.__get__") (.builtin "object.__class__")):=by
  obtain ⟨cd,hc⟩:=Option.isSome_iff_exists.mp c.cls
  unfold W.findObj
  rw [hc,Option.bind_some,c.ca,Option.bind_some]
  simp [c.cg,c.ct]
 have L0:=I.type (M:=model prog w)
 have L3:=W.looks_find (M:=model prog w) X I hf
 repeat (first | with_reducible refine W.Looks.at L0 ?_ | with_reducible refine W.Looks.at L3 ?_ | wp_step)
 exact W.class_get X I c.ob (wpAny_pure hq)
theorem exc_call {R:Result→Shared→Prop} (X:K.In hh) (p:excP a (.ref C) hh) (c:ErrA K C) (hq:R (.ok (.ret (.ref C))) ⟨hh,g,d,t,os⟩) :
  codeAny (model prog w) A (.call (.builtin "BaseException.__getattribute__") ⟨[.ref a,.str "__class__" tk],[]⟩) R ⟨hh,g,d,t,os⟩:=
 codeAny_call_builtin PySem.F.excAttr_ValueError.ga.plain F.entry_bexc_ga (exc_check X p c (exc_entry X p c hq))
theorem exc_by {Q:Value→Shared→Prop} (X:K.In hh) (p:excP a (.ref C) hh) (c:ErrA K C) (hq:Q (.ref C) ⟨hh,g,d,t,os⟩):wpAny (model prog w) A (getAttrBy (.ref a) (.str "__class__" tk) false) Q E ⟨hh,g,d,t,os⟩:=by
 obtain ⟨ox,I⟩:=p.inst
 have L0:=I.type (M:=model prog w)
 have L1:=W.looks_findIn (M:=model prog w) X c.ga
 have L2:=W.looks_findIn (M:=model prog w) X c.gt
 have f3:=bga_bind (.ref a)
 have hx0:(false && onTheHeap (Value.builtin "BaseException.__getattribute__"))=false:=rfl
 have hx2:(Value.builtin "BaseException.__getattribute__" == Value.builtin "object.__getattribute__")=false:=by decide +kernel
 have hx1:(onTheHeap (Value.ref C) && Value.builtin "BaseException.__getattribute__" == Value.builtin "object.__getattribute__")=false:=by rw [hx2];rfl
 repeat (any_goals (first | assumption | with_reducible refine W.Looks.at L0 ?_ | with_reducible refine W.Looks.at L1 ?_ | with_reducible refine W.Looks.at L2 ?_ | wp_step))
 refine exc_call X p c ?_
 repeat (any_goals (first | assumption | wp_step))
end
theorem exc_class {K:W.Frag} {prog:Program} {w:World} {A:Around} {E:Value→Shared→Prop} {s:Shared} {a C:Addr} {Q:Option Value→Shared→Prop} (X:K.In s.heap) (p:excP a (.ref C) s.heap) (c:ErrA K C)
  (h:Q (some (.ref C)) { s with toks:=s.toks+1 }):wpAny (model prog w) A (getAttr? (.ref a) "__class__") Q E s:=by
 obtain ⟨hh,g,d,t,os⟩:=s
 unfold getAttr? getAttrBy?
 repeat (any_goals (first | assumption | with_reducible apply exc_by X p c | wp_step))
theorem kitx_exc {K:W.Frag} {a C:Addr} (c:ErrA K C):W.KitX K (.ref a) (.ref C) (excP a (.ref C)) where
 ty:=fun _ _ _ p=>let ⟨_,I⟩:=p.inst;I.type
 it:=fun _ _ X _=>by
  have hcD:=c.cls
  unfold W.clsIn at hcD
  split at hcD
  ·rename_i c' d' cd' sl' ho
   intro A' Q' E' s' k q
   unfold isType loadHead
   exact wpAny_bind (wpAny_loadPart (k _ _ (X _ _ ho)) (wpAny_pure q))
  ·cases hcD
 ne:=fun h tp dd its n sl X htp=>by
  have hcD:=c.cls
  refine Bool.eq_false_iff.mpr fun q=>?_
  have e:C=tp:=Value.ref.inj (beq_iff_eq.mp q)
  subst e
  unfold W.clsIn at hcD
  split at hcD
  ·rename_i c' d' cd' sl' ho
   have z:=(X _ _ ho).symm.trans htp
   cases z
  ·cases hcD
 ca:=fun X p k=>exc_class X p c k
theorem call_isiE {X:Cx}:CallR X (.builtin "isinstance") (fun xs H Q=>∃ a C y c b,xs=[.ref a,y]∧clsV y=some c∧H a=some (excO a (.ref C))∧ErrA X.K C∧W.kitOne X.K (.ref C) c=some b∧Q (.bl b) H):=by
 rintro pins s σ H xs us Q I r ⟨a,C,y,c,b,rfl,hc,ea,er,hk,q⟩
 obtain ⟨u,w',rfl,r1,r2⟩:=vals2 r
 cases clsV_rel hc r2
 cases (show u=Value.ref a from r1)
 exact W.kia_one (kitx_exc er) I.kIn (I.exc ea) hk (fun z=>nomatch z) fun tk=>⟨.bl b,H,I.tok tk,rfl,q⟩
section
variable {X:Cx} {es:List Expr} {n:Nat} {pos:Pos}
end
end L2
namespace L2
open PySem PySem.Spec PyProof.Rows XL
section
variable {prog:Program} {w:World} {A:Around} {R:Result→Shared→Prop} {s:Shared}
theorem compLoop_go {elt target iter:Expr} {ifs:List Expr} {scope:Scope} {pos:Pos} {it acc:Value} {env:Env} (I:Nat→Shared→Prop)
  (turn:∀ n s,I n s→wpAny (model prog w) A (pyNext it) (fun r s₁=>match r with
   | none=>R (.ok .next) s₁
   | some v=>wpAny (model prog w) A (letOwnedTupleGo target it v) (fun _ s₁'=>wpAny (model prog w) A (assign target env v) (fun _ s₂=>
     wpAny (model prog w) A (forIn ifs true fun c r=>if r=true then do let ok ← isTrue c env (eval c env);pure (ForInStep.yield ok) else pure (ForInStep.yield r)) (fun ok s₃=>
      if ok=true then wpAny (model prog w) A (eval elt env) (fun x s₄=>
       wpAny (model prog w) A (call (.builtin "list.append") [acc,x]) (fun _ s₅=>∃ m,m < n∧I m s₅) (fun _ _=>False) s₄) (fun _ _=>False) s₃
      else ∃ m,m < n∧I m s₃) (fun _ _=>False) s₂) (fun _ _=>False) s₁') (fun _ _=>False) s₁) (fun _ _=>False) s)
  (n:Nat) (h:I n s):codeAny (model prog w) A (.compLoop (.ListComp elt [⟨target,iter,ifs,0⟩] scope pos) 0 it acc env) R s:=by
 refine codeAny_loop rfl I (fun n s hI=>?_) n h
 show wpAny _ A ((compTurn (.ListComp elt [⟨target,iter,ifs,0⟩] scope pos) 0 it acc env).onRaise (fun x=>do noteFrame x env;theTreesLotGoes x)) _ _ s
 refine wpAny_noted ?_
 rw [compTurn_list]
 refine wpAny_bind (wpAny_standAt (wpAny_bind (wpAny_mono (turn n s hI) (fun r s₁ h₁=>?_) fun _ _ h'=>h'.elim)))
 cases r with
 | none=>exact wpAny_pure h₁
 | some v=>
  refine wpAny_bind (wpAny_mono h₁ (fun _ s₁' h₁'=>?_) fun _ _ h'=>h'.elim)
  refine wpAny_bind (wpAny_mono h₁' (fun _ s₂ h₂=>wpAny_bind (wpAny_mono h₂ (fun ok s₃ h₃=>?_) fun _ _ h'=>h'.elim)) fun _ _ h'=>h'.elim)
  cases ok with
  | false=>exact wpAny_pure ⟨rfl,h₃⟩
  | true=>
   exact wpAny_bind (wpAny_bind (wpAny_mono h₃ (fun x s₄ h₄=>wpAny_bind (wpAny_mono h₄ (fun _ s₅ h₅=>wpAny_pure (wpAny_pure ⟨rfl,h₅⟩)) fun _ _ h'=>h'.elim)) fun _ _ h'=>h'.elim))
end
theorem closure_ok {scope:Scope} {env:Env} (h:∀ x,(x,NameKind.free)∈scope.names→∃ c,env.cells.lookup x=some c) :
  ∃ cl,closureFor scope env=pure cl∧(∀ x c,cl.lookup x=some c→env.cells.lookup x=some c)∧∀ x,(x,NameKind.free)∈scope.names→∃ c,cl.lookup x=some c:=by
 simp only [closureFor]
 suffices q:∀ (names:List (Str × NameKind)) (cs:List (Str × Addr)),(∀ x c,cs.lookup x=some c→env.cells.lookup x=some c)→(∀ x,(x,NameKind.free)∈names→∃ c,env.cells.lookup x=some c)→
   ∃ cl,(forIn names cs fun x r=>if (x.2 == NameKind.free)=true then do let a ← cellOf env x.1;pure (ForInStep.yield ((x.1,a)::r)) else pure (ForInStep.yield r))=(pure cl:Sem (List (Str × Addr)))∧
    (∀ x c,cl.lookup x=some c→env.cells.lookup x=some c)∧(∀ x,(x,NameKind.free)∈names→∃ c,cl.lookup x=some c)∧∀ x c,cs.lookup x=some c→∃ c',cl.lookup x=some c' by
  obtain ⟨cl,e,a,b,_⟩:=q scope.names [] (fun x c z=>by cases z) h
  refine ⟨cl,?_,a,b⟩
  show (forIn scope.names [] _ >>= fun r=>pure r)=_
  refine Eq.trans (congrArg (fun t=>t >>= fun r=>pure r) e) rfl
 intro names
 induction names with
 | nil=>exact fun cs hcs _=>⟨cs,rfl,hcs,fun x z=>(nomatch z),fun x c z=>⟨c,z⟩⟩
 | cons y r ih=>
  intro cs hcs hr
  obtain ⟨n,k⟩:=y
  rw [List.forIn_cons]
  by_cases hk:(k == NameKind.free)=true
  ·have hk':k=.free:=by simpa using hk
   subst hk'
   obtain ⟨c,hc⟩:=hr n List.mem_cons_self
   obtain ⟨cl,e,a,b,d⟩:=ih ((n,c)::cs) (fun x c' z=>by
    rw [List.lookup_cons] at z
    cases hx:x == n with
    | true => rw [hx] at z; cases z; have : x = n := by simpa using hx
              rw [this];exact hc
    | false=>rw [hx] at z;exact hcs x c' z) fun x z=>hr x (List.mem_cons_of_mem _ z)
   refine ⟨cl,?_,a,fun x z=>?_,fun x c' z=>?_⟩
   ·rw [← e]
    have:cellOf env n=pure c:=by unfold cellOf;rw [hc]
    rw [if_pos hk,this]
    rfl
   ·rcases List.mem_cons.mp z with z | z
    ·cases z
     exact d n c (by simp)
    ·exact b x z
   ·cases hx:x == n with
    | true=>exact d x c (by rw [List.lookup_cons,hx])
    | false=>exact d x c' (by rw [List.lookup_cons,hx];exact z)
  ·obtain ⟨cl,e,a,b,d⟩:=ih cs hcs fun x z=>hr x (List.mem_cons_of_mem _ z)
   refine ⟨cl,?_,a,fun x z=>?_,d⟩
   ·rw [← e,if_neg hk]
    rfl
   ·rcases List.mem_cons.mp z with z | z
    ·cases z
     exact absurd rfl hk
    ·exact b x z
theorem lookup_relabel_free {env:Env}:∀ {names:List (Str × NameKind)} {x:Str},names.lookup x=some .free→
  (names.map fun (n,k)=>if (k == NameKind.free && env.scope.kind == .function && env.kindOf n == some .cell) then (n,NameKind.cell) else (n,k)).lookup x=some .cell∨
  (names.map fun (n,k)=>if (k == NameKind.free && env.scope.kind == .function && env.kindOf n == some .cell) then (n,NameKind.cell) else (n,k)).lookup x=some .free
 | [],_,h=>by simp at h
 | (n,k)::r,x,h=>by
  have ih:=@lookup_relabel_free env r x
  rw [List.map_cons]
  dsimp only
  cases hx:x == n with
  | true=>
   simp only [List.lookup_cons,hx] at h
   cases h
   by_cases hc:(NameKind.free == NameKind.free && env.scope.kind == .function && env.kindOf n == some .cell)=true
   ·rw [if_pos hc];left;simp [List.lookup_cons,hx]
   ·rw [if_neg hc];right;simp [List.lookup_cons,hx]
  | false=>
   simp only [List.lookup_cons,hx] at h
   by_cases hc:(k == NameKind.free && env.scope.kind == .function && env.kindOf n == some .cell)=true
   ·rw [if_pos hc];simp only [List.lookup_cons,hx];exact ih h
   ·rw [if_neg hc];simp only [List.lookup_cons,hx];exact ih h
theorem relabel_was_free {env:Env}:∀ {names:List (Str × NameKind)} {x:Str} {q:NameKind},(∀ y∈names,y.2≠.cell)→(q=.cell∨q=.free)→
  (names.map fun (n,k)=>if (k == NameKind.free && env.scope.kind == .function && env.kindOf n == some .cell) then (n,NameKind.cell) else (n,k)).lookup x=some q→(x,NameKind.free)∈names
 | [],_,_,_,_,h=>by simp at h
 | (n,k)::r,x,q,hn,hq,h=>by
  have ih:=@relabel_was_free env r x q (fun y hy=>hn y (List.mem_cons_of_mem _ hy)) hq
  rw [List.map_cons] at h
  dsimp only at h
  cases hx:x == n with
  | true=>
   have e:x=n:=by simpa using hx
   subst e
   by_cases hc:(k == NameKind.free && env.scope.kind == .function && env.kindOf x == some .cell)=true
   ·have:k=.free:=by
     cases k <;> first | rfl | (exfalso;revert hc;simp;done)
    subst this
    exact List.mem_cons_self
   ·rw [if_neg hc] at h
    simp only [List.lookup_cons,hx] at h
    cases h
    rcases hq with rfl | rfl
    ·exact absurd rfl (hn _ List.mem_cons_self)
    ·exact List.mem_cons_self
  | false=>
   by_cases hc:(k == NameKind.free && env.scope.kind == .function && env.kindOf n == some .cell)=true
   ·rw [if_pos hc] at h;simp only [List.lookup_cons,hx] at h;exact List.mem_cons_of_mem _ (ih h)
   ·rw [if_neg hc] at h;simp only [List.lookup_cons,hx] at h;exact List.mem_cons_of_mem _ (ih h)
def compCx (X:Cx) (own caps:List Str) (scope:Scope) (cl:List (Str × Addr)) (C:Addr) (fp:List Addr) (s₃:Shared) (H₃:Hp):Cx where
 prog:=X.prog
 w:=X.w
 K:=X.K
 mg:=X.mg
 base:=X.base
 A:=X.A
 N:=own++caps
 s₀:=s₃
 H₀:=H₃
 env:=compEnvC scope cl C X.env
 outer:=X.stack
 stack:=X.stack
 ex:=fp
 fn:=fun _=>false
 calm:=X.calm
 pn:=[]
 xe:=fun _ _=>False
def capv (n:Nat) (cs:List Nat) (σ:St):St:=List.replicate n none++cs.map fun i=>σ.getD i none
def PF (X:Cx) (ifs:List Expr) (t:TT):Prop:=
 ∀ (pins:List (Addr × Obj)) (s:Shared) (σ:St) (H:Hp) (Q:Bool→Hp→Prop),Inv X pins σ H s→t σ H Q→
  wpAny (model X.prog X.w) X.A (forIn ifs true fun c r=>if r=true then do let ok ← isTrue c X.env (eval c X.env);pure (ForInStep.yield ok) else pure (ForInStep.yield r)) (TP X pins σ Q) X.xe s
def tNoIf:TT:=fun _ H Q=>Q true H
theorem noIf {σ:St} {H:Hp} {A B:Bool→Hp→Prop} (h:A true H):tNoIf σ H (fun b H3=>if b=true then A b H3 else B b H3):=by
 show if true=true then A true H else B true H
 rw [if_pos rfl]
 exact h
theorem pf_nil {X:Cx}:PF X [] tNoIf:=fun pins s σ H Q I h=>wpAny_tests_nil ⟨H,I,h⟩
theorem pf_one {X:Cx} {c:Expr} {t:TT} (h:PT X c t):PF X [c] t:=fun pins s σ H Q I q=>wpAny_tests_one (h pins s σ H Q I q)
def CompW (J:It) (n:Nat) (cs:List Nat) (σ:St) (g:TG) (tc:TT) (te:TE) (Q:VK) (H1:Hp) (D:Addr):Prop:=∃ W:Nat→Nat→List V→Hp→Prop,(∃ m,W 0 m [] (upd H1 D (.lst [])))∧
 ∀ i m ys H,W i m ys H→(J.stop i H∧Q (.ref D) H)∨(J.go i H∧∀ x H',J.yld i H x H'→g x (capv n cs σ) H' fun σ2 H2=>σ2.drop n=cs.map (fun i=>σ.getD i none)∧
  tc σ2 H2 fun b H3=>if b=true then te σ2 H3 fun y H4=>H4 D=some (.lst ys)∧ys.length < sizeLine∧∃ m',m' < m∧W (i+1) m' (ys++[y]) (upd H4 D (.lst (ys++[y]))) else ∃ m',m' < m∧W (i+1) m' ys H3)
def tComp (n:Nat) (cs:List Nat) (wi:TI) (g:TG) (tc:TT) (te:TE):TE:=fun σ H Q=>wi σ H fun J H1=>∀ D,H1 D=none→CompW J n cs σ g tc te Q H1 D
structure CompSc (X:Cx) (sc:Scope) (own caps:List Str) (cs:List Nat) (scope:Scope):Prop where
 scp:X.env.scope=sc
 kind:scope.kind=.function
 nocell:∀ y∈scope.names,y.2≠.cell
 names:∀ y∈scope.names,y.2=.local→scope.names.lookup y.1=some .local
 free:∀ y∈scope.names,y.2=.free→sc.names.lookup y.1=some .cell
 capf:∀ x∈caps,scope.names.lookup x=some .free
 slots:cs.map (fun i=>X.N[i]?)=caps.map some
section
variable {X:Cx} {sc scope:Scope} {own caps:List Str} {cs:List Nat} {tg elt iter:Expr} {ifs:List Expr} {wi:TI} {g:TG} {tc:TT} {te:TE} {pos:Pos} {E:Value→Shared→Prop}
theorem comp_core {pins:List (Addr × Obj)} {σ:St} {H:Hp} {s:Shared} {it:Addr} {fp:List Addr} {tn:Nat→Heap→Prop} {J:It} {cl:List (Str × Addr)} {RR:Value→Addr→Result→Shared→Prop} {Q:VK}
  (S:CompSc X sc own caps cs scope) (hc:X.calm=true) (hg:∀ C fp s₃ H₃,PG (compCx X own caps scope cl C fp s₃ H₃) tg g) (ht:∀ C fp s₃ H₃,PF (compCx X own caps scope cl C fp s₃ H₃) ifs tc)
  (he:∀ C fp s₃ H₃,PE (compCx X own caps scope cl C fp s₃ H₃) elt te)
  (cl1:∀ x c,cl.lookup x=some c→X.env.cells.lookup x=some c) (cl2:∀ x,(x,NameKind.free)∈scope.names→∃ c,cl.lookup x=some c)
  (I:Inv X pins σ H s) (T:Turn X.prog X.w X.K tg J fp it tn) (st:tn 0 s.heap) (f:∀ b∈fp,FpOk X pins H b)
  (h:∀ D,H D=none→CompW J own.length cs σ g tc te Q H D)
  (hRR:∀ D C s' H',Inv X pins σ H' s'→(∃ m,s'.heap.Ns C m)→FpOk X pins H' C→Q (.ref D) H'→RR (.ref D) C (.ok .next) s') :
  wpAny (model X.prog X.w) X.A (newList []) (fun acc s₃=>wpAny (model X.prog X.w) X.A (newFunctionEnv scope X.env.globals cl [] X.env.qual none .none (some X.env)) (fun cenv s₄=>
   codeAny (model X.prog X.w) X.A (.compStart (.ListComp elt [⟨tg,iter,ifs,0⟩] scope pos) 0 (.ref it) acc { cenv with scope:=relabel scope X.env }) (RR acc cenv.locals) s₄) E s₃) E s:=by
 refine wpAny_newObj_type (wpAny_newFunctionEnv S.nocell (by intro y hy;simp at hy) (fun h₁ hns₁ hsb₁=>?_) S.kind)
 dsimp only at hns₁ hsb₁ ⊢
 obtain ⟨W,⟨m0,w0⟩,turn⟩:=h s.heap.objs.size I.fresh
 have I3:Inv X pins σ (upd H s.heap.objs.size (.lst [])) { s with heap:=s.heap.push { cls:=.type "list",dict:=none,data:=.seq ([]:List Value).toArray } }:=
  I.lnew (its:=[]) (t':=s.toks) .nil (Nat.zero_le _)
 generalize hD:s.heap.objs.size=D at *
 generalize hH2:s.heap.push { cls:=.type "list",dict:=none,data:=.seq ([]:List Value).toArray }=h2 at hns₁ hsb₁ I3 ⊢
 generalize hH3:upd H D (.lst [])=H3 at I3 w0
 have h3n:∀ b,b≠D→H3 b=H b:=fun b hb=>by rw [← hH3,upd_ne hb]
 have kept:∀ b o,h2.get? b=some o→h₁.get? b=some o:=fun b o e=>hsb₁.extBut b o (Nat.ne_of_lt (Heap.lt_size e)) (Heap.get?_push_of_some _ e)
 have k0:∀ b o,s.heap.get? b=some o→h2.get? b=some o:=fun b o e=>by rw [← hH2];exact Heap.get?_push_of_some _ e
 have fpl:∀ b∈fp,b < s.heap.objs.size:=fun b hb=>by
  obtain ⟨o,e,_⟩:=T.obj 0 _ st b hb
  exact Heap.lt_size e
 have hszC:h2.objs.size=D+1:=by rw [← hH2,Heap.size_push,hD]
 generalize hCC:h2.objs.size=C at *
 have fpC:∀ b∈fp,b≠C∧b≠D:=fun b hb=>by
  have:=fpl b hb
  rw [hD] at this
  exact ⟨Nat.ne_of_lt (Nat.lt_of_lt_of_le this (by rw [hszC];exact Nat.le_succ _)),Nat.ne_of_lt this⟩
 have okY:(compCx X own caps scope cl C fp { s with heap:=h2 } H3).Ok:=by
  have J3:=I3.ok
  refine ⟨J3.mod,S.kind,J3.glob,J3.blt,(Nat.le_of_eq hCC),fun x y c a b=>J3.inj x y c (cl1 x c a) (cl1 y c b),fun x hx=>?_,fun x c z=>(by cases z),J3.hd,J3.frames,.inl rfl,fun b hb=>⟨(fpC b hb).1,fun x c e=>(f b hb).2.2.2.2.1 x c (cl1 x c e)⟩,
   fun b o e=>I3.bs b o e,(Nat.le_trans J3.bsz I3.sz),fun b o e hb=>?_,fun b hb z=>?_,I3.stack,I3.stkFree⟩
  ·refine cl2 x ?_
   rcases hx with hx | hx
   ·exact relabel_was_free S.nocell (.inl rfl) hx
   ·exact relabel_was_free S.nocell (.inr rfl) hx
  ·rcases (f b hb).2.2.2.1 with z | z
   ·exact J3.noex b o e z
   ·exact absurd (Nat.lt_of_lt_of_le (Heap.lt_size e) (Nat.le_trans J3.bsz z)) (Nat.lt_irrefl _)
  ·rcases List.mem_cons.mp (I3.stkSub b z) with z | z
   ·exact (f b hb).2.1 z
   ·exact (f b hb).2.2.1 z
 have slotN:∀ (i:Nat) (x:Str),(own++caps)[i]?=some x→own.length≤i→∃ j,cs[i - own.length]?=some j∧X.N[j]?=some x:=fun i x e hi=>by
  rw [List.getElem?_append_right hi] at e
  have z:=congrArg (fun l=>l[i - own.length]?) S.slots
  simp only [List.getElem?_map,e,Option.map_some] at z
  cases q:cs[i - own.length]? with
  | none=>rw [q] at z;cases z
  | some j=>rw [q] at z;exact ⟨j,rfl,Option.some.inj z⟩
 have csl:cs.length=caps.length:=by simpa using congrArg List.length S.slots
 have IY:Inv (compCx X own caps scope cl C fp { s with heap:=h2 } H3) [] (capv own.length cs σ) H3 { s with heap:=h₁,toks:=s.toks+([]:List (Str × Value)).length }:=by
  refine ⟨okY,rfl,I3.bare,Un.kept kept,⟨_,hns₁,fun i x v e1 e2 e3=>?_⟩,fun x c e=>?_,I3.hok.fresh (Nat.le_of_eq hCC),fun x c e=>I3.freeC x c (cl1 x c e),fun p hp=>absurd (show p∈([]:List (Addr × Obj)) from hp) (by simp),I3.hok.kept kept,?_⟩
  ·have hi:own.length≤i:=by
    refine Nat.le_of_not_lt fun z=>?_
    unfold capv at e2
    rw [List.getElem?_append_left (by simpa using z),List.getElem?_replicate,if_pos z] at e2
    cases e2
   obtain ⟨j,ej,en⟩:=slotN i x e1 hi
   unfold capv at e2
   rw [List.getElem?_append_right (by simpa using hi),List.length_replicate,List.getElem?_map,ej] at e2
   have e2':σ.getD j none=some v:=by simpa using e2
   have e2'':σ[j]?=some (some v):=by
    rw [List.getD_eq_getElem?_getD] at e2'
    cases q:σ[j]? with
    | none=>rw [q] at e2';cases e2'
    | some z=>rw [q] at e2';exact congrArg some e2'
   have hx:x∈caps:=by
    have e1':(own++caps)[i]?=some x:=e1
    rw [List.getElem?_append_right hi] at e1'
    exact List.mem_of_getElem? e1'
   have hf:=S.capf x hx
   have hcell:X.env.scope.names.lookup x=some .cell:=by
    rw [S.scp]
    exact S.free (x,.free) (PySem.mem_of_lookup hf) rfl
   obtain ⟨m,hn,hl⟩:=I3.loc
   obtain ⟨u,ru,lk⟩:=hl j x v en e2'' (.inr (.inl hcell))
   refine ⟨u,ru,.inr ⟨lookup_relabel_free hf,?_⟩⟩
   obtain ⟨c,hc'⟩:=cl2 x (PySem.mem_of_lookup hf)
   refine ⟨c,hc',?_⟩
   rcases lk with ⟨k,_⟩ | ⟨_,c',e',z⟩
   ·rw [show X.env.kindOf x=X.env.scope.names.lookup x from rfl,hcell] at k
    cases k
   ·rw [cl1 x c hc'] at e'
    cases e'
    obtain ⟨o,ho,hd⟩:=z
    exact ⟨o,kept _ _ ho,hd⟩
  ·obtain ⟨v,o,ho,hd⟩:=I3.cell x c (cl1 x c e)
   exact ⟨v,o,kept _ _ ho,hd⟩
  ·show (capv own.length cs σ).length=(own++caps).length
   unfold capv
   simp [csl]
 have stat:∀ {H':Hp},(∀ b∈fp,H' b=none)→∀ b∈fp,FpOk (compCx X own caps scope cl C fp { s with heap:=h2 } H3) [] H' b:=fun hn b hb=>
  ⟨hn b hb,(fpC b hb).1,okY.exfs b hb,.inl hb,fun x c e=>(f b hb).2.2.2.2.1 x c (cl1 x c e),fun p hp=>absurd (show p∈([]:List (Addr × Obj)) from hp) (by simp)⟩
 have hst₁:tn 0 h₁:=T.keep _ _ _ st fun b _ o e=>kept b o (k0 b o e)
 have loop:∀ s₃:Shared,s₃={ s with heap:=h₁,toks:=s.toks+([]:List (Str × Value)).length }→
   codeAny (model X.prog X.w) X.A (.compLoop (.ListComp elt [⟨tg,iter,ifs,0⟩] scope pos) 0 (.ref it) (.ref D) (compEnvC scope cl C X.env)) (RR (.ref D) C) s₃:=by
  rintro s₃ rfl
  refine compLoop_go (fun n s'=>∃ i ys H',Inv (compCx X own caps scope cl C fp { s with heap:=h2 } H3) [] (capv own.length cs σ) H' s'∧tn i s'.heap∧(∀ b∈fp,H' b=none)∧W i n ys H') ?_ m0
   ⟨0,[],H3,IY,hst₁,fun b hb=>by rw [h3n b (fpC b hb).2];exact (f b hb).1,w0⟩
  rintro n s5 ⟨i,ys,H5,I5,st5,fr5,w5⟩
  rcases turn i n ys H5 w5 with ⟨stop,q⟩ | ⟨go,step⟩
  ·refine thn (T.done (compCx X own caps scope cl C fp { s with heap:=h2 } H3) rfl rfl rfl hc i [] s5 _ H5 _ I5 (stat fr5) st5 stop) fun r s6 ⟨hr,I6⟩=>?_
   subst hr
   have IX:Inv X pins σ H5 s6:=I3.call' (ch:=fp) I6.os I6.base I6.hok I6.bare fun b hb=>⟨(f b hb).2.2.2.1,(f b hb).2.1,(f b hb).2.2.2.2.1,(f b hb).2.2.2.2.2⟩
   obtain ⟨m6,hn6,_⟩:=I6.loc
   exact hRR D C s6 H5 IX ⟨m6,hn6⟩ (I3.fpOk (b:=C) (Nat.le_of_eq hCC) I6.free) q
  ·refine thn (T.item (compCx X own caps scope cl C fp { s with heap:=h2 } H3) rfl rfl rfl hc i [] s5 _ H5 _ I5 (stat fr5) st5 go) fun r s6 ⟨u,hr,h6⟩=>?_
   subst hr
   refine thn h6 fun _ s7 ⟨x,H7,I7,r7,y7,st7,fr7⟩=>?_
   have I7':=I7.pinned (stat fr7) (T.obj _ _ st7)
   refine thn (hg C fp _ _ _ s7 _ H7 x u _ I7' r7 (step x H7 y7)) fun _ s8 ⟨σ8,H8,I8,dr8,q8⟩=>?_
   have again:∀ {s':Shared} {H':Hp} {ys':List V},Inv (compCx X own caps scope cl C fp { s with heap:=h2 } H3) ([]++pinsAt fp s7.heap) σ8 H' s'→(∃ m',m' < n∧W (i+1) m' ys' H')→
     ∃ m,m < n∧∃ i ys H',Inv (compCx X own caps scope cl C fp { s with heap:=h2 } H3) [] (capv own.length cs σ) H' s'∧tn i s'.heap∧(∀ b∈fp,H' b=none)∧W i m ys H':=fun {s' H' ys'} I9 ⟨m',hm,w9⟩=>by
    have l8:σ8.length=own.length+cs.length:=by have:=I9.len;rw [this];show (own++caps).length=_;simp [csl]
    refine ⟨m',hm,i+1,ys',H',(I9.unpinned).weak (by unfold capv;simp [l8]) (fun j v ej=>?_),T.keep _ _ _ st7 fun b hb o e=>(I9.pin (b,o) (List.mem_append_right _ (List.mem_append_right _ (mem_pinsAt hb e)))).1,fun b hb=>?_,w9⟩
    ·have hj:own.length≤j:=by
      refine Nat.le_of_not_lt fun z=>?_
      unfold capv at ej
      rw [List.getElem?_append_left (by simpa using z),List.getElem?_replicate,if_pos z] at ej
      cases ej
     unfold capv at ej
     rw [List.getElem?_append_right (by simpa using hj),List.length_replicate,← dr8,List.getElem?_drop] at ej
     rw [show own.length+(j - own.length)=j by omega] at ej
     exact ej
    ·obtain ⟨o,e,d⟩:=T.obj _ _ st7 b hb
     exact (I9.pin (b,o) (List.mem_append_right _ (List.mem_append_right _ (mem_pinsAt hb e)))).2.1
   refine thn (ht C fp _ _ _ s8 σ8 H8 _ I8 q8) fun b s9 ⟨H9,I9,q9⟩=>?_
   cases b with
   | false=>
    rw [if_neg Bool.false_ne_true] at q9 ⊢
    exact again I9 q9
   | true=>
    rw [if_pos rfl] at q9 ⊢
    refine thn (he C fp _ _ _ s9 σ8 H9 _ I9 q9) fun xv s10 ⟨y,H10,I10,r10,hD10,hlen,q10⟩=>?_
    refine thn (mt_append (X:=compCx X own caps scope cl C fp { s with heap:=h2 } H3) _ s10 σ8 H10 (.ref D) [y] (.ref D) [xv] (fun _ H'=>H'=upd H10 D (.lst (ys++[y]))) I10 rfl (.cons r10 .nil) ⟨D,ys,y,rfl,rfl,hD10,hlen,rfl⟩) fun _ s11 ⟨_,H11,I11,_,e11⟩=>?_
    subst e11
    exact again I11 q10
 exact codeAny_compStart_list (loop _ rfl) (T.self _ 0 _ _ _ hst₁ (loop _ rfl))
theorem hClos (S:CompSc X sc own caps cs scope) (ok:X.Ok):∀ x,(x,NameKind.free)∈scope.names→∃ c,X.env.cells.lookup x=some c:=fun x hx=>ok.has x (.inl (by
 show X.env.scope.names.lookup x=some .cell
 rw [S.scp]
 exact S.free (x,.free) hx rfl))
theorem pe_comp {g:List (Str × Addr)→Addr→List Addr→Shared→Hp→TG} {tc:List (Str × Addr)→Addr→List Addr→Shared→Hp→TT} {te:List (Str × Addr)→Addr→List Addr→Shared→Hp→TE} (S:CompSc X sc own caps cs scope) (hc:X.calm=true) (hi:PI X tg iter wi) (hg:∀ cl C fp s₃ H₃,PG (compCx X own caps scope cl C fp s₃ H₃) tg (g cl C fp s₃ H₃)) (ht:∀ cl C fp s₃ H₃,PF (compCx X own caps scope cl C fp s₃ H₃) ifs (tc cl C fp s₃ H₃))
  (he:∀ cl C fp s₃ H₃,PE (compCx X own caps scope cl C fp s₃ H₃) elt (te cl C fp s₃ H₃)) (hge:∀ cl C fp s₃ H₃,g cl C fp s₃ H₃=g [] 0 [] X.s₀ X.H₀:=by intros;rfl) (hte:∀ cl C fp s₃ H₃,tc cl C fp s₃ H₃=tc [] 0 [] X.s₀ X.H₀:=by intros;rfl)
  (hee:∀ cl C fp s₃ H₃,te cl C fp s₃ H₃=te [] 0 [] X.s₀ X.H₀:=by intros;rfl) (hs:∀ x,foldedSetIterable iter X.env x=pure x:=by intro _;rfl) :
  PE X (.ListComp elt [⟨tg,iter,ifs,0⟩] scope pos) (tComp own.length cs wi (g [] 0 [] X.s₀ X.H₀) (tc [] 0 [] X.s₀ X.H₀) (te [] 0 [] X.s₀ X.H₀)):=by
 intro pins s σ H Q I h
 obtain ⟨cl,hcl,cl1,cl2⟩:=closure_ok (hClos S I.ok)
 rw [eval_ListComp]
 refine wpAny_comprehension_free (use:=none) rfl hs hcl S.kind S.names (thn (hi pins s σ H _ I h) fun v s1 h1=>thn h1 fun itv s2 h2=>?_)
 obtain ⟨it,fp,tn,J,H2,rfl,I2,T,st2,f2,h2⟩:=h2
 refine comp_core (RR:=fun acc C=>compPost (model X.prog X.w) X.A X.xe none (EP X pins σ Q) acc C) S hc (fun C fp s₃ H₃=>hge cl C fp s₃ H₃ ▸ hg cl C fp s₃ H₃) (fun C fp s₃ H₃=>hte cl C fp s₃ H₃ ▸ ht cl C fp s₃ H₃) (fun C fp s₃ H₃=>hee cl C fp s₃ H₃ ▸ he cl C fp s₃ H₃) cl1 cl2 I2 T st2 f2 h2 ?_
 intro D C s' H' I' hm hf q
 obtain ⟨m,hn⟩:=hm
 obtain ⟨f0,f1,f2,f3,f4,f5⟩:=hf
 exact ⟨m,hn,fun h' hs'=>⟨.ref D,H',I'.turned (t':=s'.toks) (it:=C) (fun b o hb e=>(hs'.2 b hb).trans e) f0 f1 f3 f4 f5,rfl,q⟩⟩
theorem ps_comp {g:List (Str × Addr)→Addr→List Addr→Shared→Hp→TG} {tc:List (Str × Addr)→Addr→List Addr→Shared→Hp→TT} {te:List (Str × Addr)→Addr→List Addr→Shared→Hp→TE} {i:Nat} {y:Str} {py spos:Pos} (S:CompSc X sc own caps cs scope) (hc:X.calm=true) (hN:X.N.Nodup) (hyi:X.N[i]?=some y) (hy:X.env.scope.names.lookup y=some .local)
  (hsw:swapsWith (.ListComp elt [⟨tg,iter,ifs,0⟩] scope pos) (some (.Name y py)) spos.line X.env=pure true)
  (hi:PI X tg iter wi) (hg:∀ cl C fp s₃ H₃,PG (compCx X own caps scope cl C fp s₃ H₃) tg (g cl C fp s₃ H₃)) (ht:∀ cl C fp s₃ H₃,PF (compCx X own caps scope cl C fp s₃ H₃) ifs (tc cl C fp s₃ H₃))
  (he:∀ cl C fp s₃ H₃,PE (compCx X own caps scope cl C fp s₃ H₃) elt (te cl C fp s₃ H₃)) (hge:∀ cl C fp s₃ H₃,g cl C fp s₃ H₃=g [] 0 [] X.s₀ X.H₀:=by intros;rfl) (hte:∀ cl C fp s₃ H₃,tc cl C fp s₃ H₃=tc [] 0 [] X.s₀ X.H₀:=by intros;rfl)
  (hee:∀ cl C fp s₃ H₃,te cl C fp s₃ H₃=te [] 0 [] X.s₀ X.H₀:=by intros;rfl) (hs:∀ x,foldedSetIterable iter X.env x=pure x:=by intro _;rfl) :
  PS X (.Assign [.Name y py] (.ListComp elt [⟨tg,iter,ifs,0⟩] scope pos) spos) (tAsg (tComp own.length cs wi (g [] 0 [] X.s₀ X.H₀) (tc [] 0 [] X.s₀ X.H₀) (te [] 0 [] X.s₀ X.H₀)) (gName i)):=by
 intro pins s σ H D I h
 obtain ⟨cl,hcl,cl1,cl2⟩:=closure_ok (hClos S I.ok)
 rw [exec_Assign_Name_used _ _ _ _ hsw]
 refine wpAny_bind (wpAny_standAt (wpAny_bind ?_))
 show wpAny _ X.A (do let _ ← comprehension (.ListComp elt [⟨tg,iter,ifs,0⟩] scope pos) scope X.env _ (newList []) false (eval iter X.env) (some (assign (.Name y py) X.env))) _ _ s
 refine wpAny_bind (wpAny_mono (wpAny_comprehension_free (use:=some (assign (.Name y py) X.env)) (Q:=fun _ s'=>SP X pins D .next s') rfl hs hcl S.kind S.names
  (thn (hi pins s σ H _ I h) fun v s1 h1=>thn h1 fun itv s2 h2=>?_)) (fun _ s' hq=>wpAny_pure (wpAny_pure hq)) fun _ _ e=>e)
 obtain ⟨it,fp,tn,J,H2,rfl,I2,T,st2,f2,h2⟩:=h2
 refine comp_core (Q:=fun x H1=>gName i x σ H1 D.nx) (RR:=fun acc C=>compPost (model X.prog X.w) X.A X.xe (some (assign (.Name y py) X.env)) (fun _ s'=>SP X pins D .next s') acc C) S hc (fun C fp s₃ H₃=>hge cl C fp s₃ H₃ ▸ hg cl C fp s₃ H₃) (fun C fp s₃ H₃=>hte cl C fp s₃ H₃ ▸ ht cl C fp s₃ H₃) (fun C fp s₃ H₃=>hee cl C fp s₃ H₃ ▸ he cl C fp s₃ H₃) cl1 cl2 I2 T st2 f2 h2 ?_
 intro Dl C s' H' I' hm hf q
 obtain ⟨m,hn⟩:=hm
 obtain ⟨f0,f1,f2,f3,f4,f5⟩:=hf
 show wpAny _ X.A (assign (.Name y py) X.env (.ref Dl)) _ _ _
 refine wpAny_assign_Name (store_ok2 I' hN hyi (.inl hy) (v:=.ref Dl) rfl (fun s3 I3 ⟨a,sb,ha⟩=>?_) (.inr hy))
 have hCa:C≠a:=by
  rcases ha with rfl | ha
  ·exact f1
  ·exact Ne.symm (f4 _ _ ha)
 refine ⟨m,hn.sameBut sb hCa,fun h' hs'=>⟨_,H',I3.turned (t':=s3.toks) (it:=C) (fun b o hb e=>(hs'.2 b hb).trans e) f0 f1 f3 f4 f5,q⟩⟩
end
@[elab_as_elim] theorem len1 {α:Type} {C:List α→Prop} (h:∀ a,C [a]):∀ us:List α,us.length=1→C us
 | [a],_=>h a
@[elab_as_elim] theorem len2 {α:Type} {C:List α→Prop} (h:∀ a b,C [a,b]):∀ us:List α,us.length=2→C us
 | [a,b],_=>h a b
@[elab_as_elim] theorem len3 {α:Type} {C:List α→Prop} (h:∀ a b c,C [a,b,c]):∀ us:List α,us.length=3→C us
 | [a,b,c],_=>h a b c
@[elab_as_elim] theorem len4 {α:Type} {C:List α→Prop} (h:∀ a b c d,C [a,b,c,d]):∀ us:List α,us.length=4→C us
 | [a,b,c,d],_=>h a b c d
end L2
namespace L2
open PySem PySem.Spec PyProof.Rows XL
theorem cf_inj:∀ (names:List (Str × NameKind)) (n:Nat) (acc:List (Str × Addr)),(∀ x y c,acc.lookup x=some c→acc.lookup y=some c→x=y)→(∀ x c,acc.lookup x=some c→c < n)→
  ∀ x y c,(cellsFrom n names acc).lookup x=some c→(cellsFrom n names acc).lookup y=some c→x=y
 | [],_,_,h,_=>h
 | (z,k)::r,n,acc,h,hb=>by
  unfold cellsFrom
  split
  ·refine cf_inj r (n+1) ((z,n)::acc) (fun x y c hx hy=>?_) fun x c hx=>?_
   ·rw [List.lookup_cons] at hx hy
    cases ex:x == z <;> cases ey:y == z <;> rw [ex] at hx <;> rw [ey] at hy <;> dsimp only at hx hy
    ·exact h x y c hx hy
    ·cases hy;exact absurd (hb x _ hx) (Nat.lt_irrefl _)
    ·cases hx;exact absurd (hb y _ hy) (Nat.lt_irrefl _)
    ·rw [beq_iff_eq.mp ex,beq_iff_eq.mp ey]
   ·rw [List.lookup_cons] at hx
    cases ex:x == z <;> rw [ex] at hx <;> dsimp only at hx
    ·exact Nat.lt_succ_of_lt (hb x c hx)
    ·cases hx;exact Nat.lt_succ_self _
  ·exact cf_inj r n acc h hb
theorem cf_cases:∀ (names:List (Str × NameKind)) (n:Nat) (acc:List (Str × Addr)) (x:Str) (c:Addr),(cellsFrom n names acc).lookup x=some c→acc.lookup x=some c∨n≤c
 | [],_,_,_,_,h=>.inl h
 | (z,k)::r,n,acc,x,c,h=>by
  unfold cellsFrom at h
  split at h
  ·rcases cf_cases r _ _ x c h with h | h
   ·rw [List.lookup_cons] at h
    cases ex:x == z <;> rw [ex] at h <;> dsimp only at h
    ·exact .inl h
    ·cases h;exact .inr (Nat.le_refl _)
   ·exact .inr (Nat.le_of_succ_le h)
  ·exact cf_cases r _ _ x c h
theorem cf_keep:∀ (names:List (Str × NameKind)) (n:Nat) (acc:List (Str × Addr)) (x:Str),(∀ y∈names,y.2=.cell→y.1≠x)→(cellsFrom n names acc).lookup x=acc.lookup x
 | [],_,_,_,_=>rfl
 | (z,k)::r,n,acc,x,h=>by
  unfold cellsFrom
  split
  ·rename_i hk
   rw [cf_keep r _ _ x fun y hy=>h y (List.mem_cons_of_mem _ hy),List.lookup_cons]
   have:(x == z)=false:=by
    have:=h (z,k) List.mem_cons_self (by simpa using hk)
    simpa using Ne.symm this
   rw [this]
  ·exact cf_keep r _ _ x fun y hy=>h y (List.mem_cons_of_mem _ hy)
theorem cf_new:∀ (names:List (Str × NameKind)) (n n0:Nat) (acc:List (Str × Addr)) (x:Str),n0≤n→((∀ c,acc.lookup x=some c→n0≤c)∨names.lookup x=some .cell)→
  ∀ c,(cellsFrom n names acc).lookup x=some c→n0≤c
 | [],_,_,_,_,_,h,c,e=>h.elim (fun h=>h c e) fun h=>by simp at h
 | (z,k)::r,n,n0,acc,x,hn,h,c,e=>by
  unfold cellsFrom at e
  split at e
  ·rename_i hk
   refine cf_new r (n+1) n0 _ x (Nat.le_succ_of_le hn) ?_ c e
   cases ex:x == z
   ·rcases h with h | h
    ·exact .inl fun c' e'=>h c' (by rw [List.lookup_cons,ex] at e';exact e')
    ·exact .inr (by rw [List.lookup_cons,ex] at h;exact h)
   ·exact .inl fun c' e'=>by rw [List.lookup_cons,ex] at e';cases e';exact hn
  ·rename_i hk
   refine cf_new r n n0 _ x hn ?_ c e
   rcases h with h | h
   ·exact .inl h
   ·cases ex:x == z
    ·exact .inr (by rw [List.lookup_cons,ex] at h;exact h)
    ·rw [List.lookup_cons,ex] at h
     cases h
     exact absurd rfl hk
theorem cf_cell:∀ (names:List (Str × NameKind)) (h:Heap) (acc:List (Str × Addr)),(∀ x c,acc.lookup x=some c→∃ v,h.IsCell c v)→
  ∀ x c,(cellsFrom h.objs.size names acc).lookup x=some c→∃ v,(pushCells h names).IsCell c v
 | [],_,_,h=>h
 | (z,k)::r,h,acc,hh=>by
  unfold cellsFrom pushCells
  split
  ·have:=cf_cell r (h.push { cls:=.type "cell",data:=.cell none }) ((z,h.objs.size)::acc) (fun x c e=>by
    rw [List.lookup_cons] at e
    cases ex:x == z <;> rw [ex] at e <;> dsimp only at e
    ·obtain ⟨v,q⟩:=hh x c e
     exact ⟨v,q.keeps fun b o e=>Heap.get?_push_of_some _ e⟩
    ·cases e
     exact ⟨none,_,Heap.get?_push_size _ rfl,rfl⟩)
   rwa [Heap.size_push] at this
  ·exact cf_cell r h acc hh
theorem wpAny_newCompEnv {M:Model} {A:Around} {E:Value→Shared→Prop} {s:Shared} {scope:Scope} {globals:Addr} {cl:List (Str × Addr)} {qual:Str} {out:Env} {Q:Env→Shared→Prop}
  (hQ:Q (newEnv scope s.heap.objs.size globals (cellsFrom (s.heap.objs.size+1) scope.names cl) qual none .none (some out) builtinsNs) { s with heap:=pushCells (s.heap.push { cls:=.type "dict",data:=.dict #[] }) scope.names }) :
  wpAny M A (newFunctionEnv scope globals cl [] qual none .none (some out)) Q E s:=by
 simp only [newFunctionEnv,Option.isSome_some,if_true]
 refine wpAny_bind (wpAny_alloc ?_)
 refine wpAny_bind (wpAny_layCells _ (fun name kind cells=>by cases hkc:kind == NameKind.cell <;> simp [hkc]) _ _ _ _ ?_)
 rw [show ({ s with heap:=s.heap.push { cls:=.type "dict",data:=.dict #[] } }:Shared).heap.objs.size=s.heap.objs.size+1 from Heap.size_push ..]
 rw [List.forIn_nil]
 exact wpAny_bind (wpAny_pure (wpAny_pure hQ))
theorem relabel_was2 {env:Env}:∀ {names:List (Str × NameKind)} {x:Str} {q:NameKind},(q=.cell∨q=.free)→
  (names.map fun (n,k)=>if (k == NameKind.free && env.scope.kind == .function && env.kindOf n == some .cell) then (n,NameKind.cell) else (n,k)).lookup x=some q→(x,NameKind.free)∈names∨(x,NameKind.cell)∈names
 | [],_,_,_,h=>by simp at h
 | (n,k)::r,x,q,hq,h=>by
  have ih:=@relabel_was2 env r x q hq
  have ih':(r.map fun (n,k)=>if (k == NameKind.free && env.scope.kind == .function && env.kindOf n == some .cell) then (n,NameKind.cell) else (n,k)).lookup x=some q→(x,NameKind.free)∈(n,k)::r∨(x,NameKind.cell)∈(n,k)::r:=
   fun h=>(ih h).imp (List.mem_cons_of_mem _) (List.mem_cons_of_mem _)
  rw [List.map_cons] at h
  dsimp only at h
  cases hx:x == n with
  | true=>
   have e:x=n:=by simpa using hx
   subst e
   by_cases hc:(k == NameKind.free && env.scope.kind == .function && env.kindOf x == some .cell)=true
   ·have:k=.free:=by
     cases k <;> first | rfl | (exfalso;revert hc;simp;done)
    subst this
    exact .inl List.mem_cons_self
   ·rw [if_neg hc] at h
    simp only [List.lookup_cons,hx] at h
    cases h
    rcases hq with rfl | rfl
    ·exact .inr List.mem_cons_self
    ·exact .inl List.mem_cons_self
  | false=>
   by_cases hc:(k == NameKind.free && env.scope.kind == .function && env.kindOf n == some .cell)=true
   ·rw [if_pos hc] at h;simp only [List.lookup_cons,hx] at h;exact ih' h
   ·rw [if_neg hc] at h;simp only [List.lookup_cons,hx] at h;exact ih' h
def compCxN (X:Cx) (own caps:List Str) (scope:Scope) (cl:List (Str × Addr)) (C:Addr) (fp:List Addr) (s₃:Shared) (H₃:Hp):Cx:=
 { compCx X own caps scope cl C fp s₃ H₃ with fn:=fun x=>decide (scope.names.lookup x=some .cell) }
structure CompScN (X:Cx) (sc:Scope) (own caps:List Str) (cs:List Nat) (scope:Scope):Prop where
 scp:X.env.scope=sc
 kind:scope.kind=.function
 cells:∀ y∈scope.names,y.2=.cell→scope.names.lookup y.1=some .cell
 names:∀ y∈scope.names,y.2=.local→scope.names.lookup y.1=some .local
 free:∀ y∈scope.names,y.2=.free→sc.names.lookup y.1=some .cell
 capf:∀ x∈caps,scope.names.lookup x=some .free
 slots:cs.map (fun i=>X.N[i]?)=caps.map some
section
variable {X:Cx} {sc scope:Scope} {own caps:List Str} {cs:List Nat} {tg elt iter:Expr} {ifs:List Expr} {wi:TI} {g:TG} {tc:TT} {te:TE} {pos:Pos} {E:Value→Shared→Prop}
theorem comp_coreN {pins:List (Addr × Obj)} {σ:St} {H:Hp} {s:Shared} {it:Addr} {fp:List Addr} {tn:Nat→Heap→Prop} {J:It} {cl:List (Str × Addr)} {RR:Value→Addr→Result→Shared→Prop} {Q:VK}
  (S:CompScN X sc own caps cs scope) (hc:X.calm=true) (hg:∀ cl C fp s₃ H₃,PG (compCxN X own caps scope cl C fp s₃ H₃) tg g) (ht:∀ cl C fp s₃ H₃,PF (compCxN X own caps scope cl C fp s₃ H₃) ifs tc)
  (he:∀ cl C fp s₃ H₃,PE (compCxN X own caps scope cl C fp s₃ H₃) elt te)
  (cl1:∀ x c,cl.lookup x=some c→X.env.cells.lookup x=some c) (cl2:∀ x,(x,NameKind.free)∈scope.names→∃ c,cl.lookup x=some c)
  (I:Inv X pins σ H s) (T:Turn X.prog X.w X.K tg J fp it tn) (st:tn 0 s.heap) (f:∀ b∈fp,FpOk X pins H b)
  (h:∀ D,H D=none→CompW J own.length cs σ g tc te Q H D)
  (hRR:∀ D C s' H',Inv X pins σ H' s'→(∃ m,s'.heap.Ns C m)→FpOk X pins H' C→Q (.ref D) H'→RR (.ref D) C (.ok .next) s') :
  wpAny (model X.prog X.w) X.A (newList []) (fun acc s₃=>wpAny (model X.prog X.w) X.A (newFunctionEnv scope X.env.globals cl [] X.env.qual none .none (some X.env)) (fun cenv s₄=>
   codeAny (model X.prog X.w) X.A (.compStart (.ListComp elt [⟨tg,iter,ifs,0⟩] scope pos) 0 (.ref it) acc { cenv with scope:=relabel scope X.env }) (RR acc cenv.locals) s₄) E s₃) E s:=by
 refine wpAny_newObj_type (wpAny_newCompEnv ?_)
 dsimp only
 obtain ⟨W,⟨m0,w0⟩,turn⟩:=h s.heap.objs.size I.fresh
 have I3:Inv X pins σ (upd H s.heap.objs.size (.lst [])) { s with heap:=s.heap.push { cls:=.type "list",dict:=none,data:=.seq ([]:List Value).toArray } }:=
  I.lnew (its:=[]) (t':=s.toks) .nil (Nat.zero_le _)
 generalize hD:s.heap.objs.size=D at *
 generalize hH2:s.heap.push { cls:=.type "list",dict:=none,data:=.seq ([]:List Value).toArray }=h2 at I3 ⊢
 generalize hH3:upd H D (.lst [])=H3 at I3 w0
 have h3n:∀ b,b≠D→H3 b=H b:=fun b hb=>by rw [← hH3,upd_ne hb]
 have kept:∀ b o,h2.get? b=some o→(pushCells (h2.push { cls:=.type "dict",data:=.dict #[] }) scope.names).get? b=some o:=fun b o e=>pushCells_keeps _ _ b o (Heap.get?_push_of_some _ e)
 have hns₁:(pushCells (h2.push { cls:=.type "dict",data:=.dict #[] }) scope.names).Ns h2.objs.size (fun _=>none):=(Heap.Ns.new h2 (.type "dict")).keeps (pushCells_keeps _ _)
 have hcl₁:∀ x c,(cellsFrom (h2.objs.size+1) scope.names cl).lookup x=some c→∃ v,(pushCells (h2.push { cls:=.type "dict",data:=.dict #[] }) scope.names).IsCell c v:=by
  have:=cf_cell scope.names (h2.push { cls:=.type "dict",data:=.dict #[] }) cl fun x c e=>by
   obtain ⟨v,q⟩:=I3.cell x c (cl1 x c e)
   exact ⟨v,q.keeps fun b o e=>Heap.get?_push_of_some _ e⟩
  rwa [Heap.size_push] at this
 have hclB:∀ x c,cl.lookup x=some c→c < h2.objs.size+1:=fun x c e=>by
  obtain ⟨v,q⟩:=I3.cell x c (cl1 x c e)
  exact Nat.lt_succ_of_lt q.lt
 generalize hH1:pushCells (h2.push { cls:=.type "dict",data:=.dict #[] }) scope.names=h₁ at kept hns₁ hcl₁ ⊢
 have k0:∀ b o,s.heap.get? b=some o→h2.get? b=some o:=fun b o e=>by rw [← hH2];exact Heap.get?_push_of_some _ e
 have fpl:∀ b∈fp,b < s.heap.objs.size:=fun b hb=>by
  obtain ⟨o,e,_⟩:=T.obj 0 _ st b hb
  exact Heap.lt_size e
 have hszC:h2.objs.size=D+1:=by rw [← hH2,Heap.size_push,hD]
 generalize hCC:h2.objs.size=C at *
 have clC:∀ x c,(cellsFrom (C+1) scope.names cl).lookup x=some c→cl.lookup x=some c∨C+1≤c:=cf_cases scope.names (C+1) cl
 have clI:=cf_inj scope.names (C+1) cl (fun x y c a b=>I3.ok.inj x y c (cl1 x c a) (cl1 y c b)) hclB
 have clN:∀ x,scope.names.lookup x=some .cell→∀ c,(cellsFrom (C+1) scope.names cl).lookup x=some c→C+1≤c:=fun x hx=>cf_new scope.names (C+1) (C+1) cl x (Nat.le_refl _) (.inr hx)
 have clS:∀ x,((x,NameKind.free)∈scope.names∨(x,NameKind.cell)∈scope.names)→∃ c,(cellsFrom (C+1) scope.names cl).lookup x=some c:=fun x hx=>Option.isSome_iff_exists.mp (PySem.W.cellsFrom_some scope.names _ _ (by
  rcases hx with hx | hx
  ·exact .inr (Option.isSome_iff_exists.mpr (cl2 x hx))
  ·exact .inl (S.cells (x,.cell) hx rfl)))
 have clK:∀ x,scope.names.lookup x=some .free→(cellsFrom (C+1) scope.names cl).lookup x=cl.lookup x:=fun x hx=>cf_keep scope.names (C+1) cl x fun y hy hk e=>by
  have:=S.cells y hy hk
  rw [e,hx] at this
  cases this
 generalize hCL:cellsFrom (C+1) scope.names cl=cl' at clC clI clN clS clK hcl₁ ⊢
 have fpC:∀ b∈fp,b≠C∧b≠D:=fun b hb=>by
  have:=fpl b hb
  rw [hD] at this
  exact ⟨Nat.ne_of_lt (Nat.lt_of_lt_of_le this (by rw [hszC];exact Nat.le_succ _)),Nat.ne_of_lt this⟩
 have fpX:∀ b∈fp,∀ x c,cl'.lookup x=some c→c≠b:=fun b hb x c e=>(clC x c e).elim (fun e=>(f b hb).2.2.2.2.1 x c (cl1 x c e)) fun z w=>by
  have h1:=fpl b hb
  rw [hD] at h1
  have h2:C+1≤b:=w ▸ z
  exact absurd (Nat.lt_of_lt_of_le h1 (Nat.le_trans (Nat.le_succ D) (Nat.le_trans (Nat.le_of_eq hszC.symm) (Nat.le_of_succ_le h2)))) (Nat.lt_irrefl _)
 have okY:(compCxN X own caps scope cl' C fp { s with heap:=h2 } H3).Ok:=by
  have J3:=I3.ok
  refine ⟨J3.mod,S.kind,J3.glob,J3.blt,(Nat.le_of_eq hCC),clI,fun x hx=>?_,fun x c z e=>(Nat.le_trans (Nat.le_of_eq hCC) (Nat.le_of_succ_le (clN x (of_decide_eq_true z) c e))),J3.hd,J3.frames,.inl rfl,fun b hb=>⟨(fpC b hb).1,fun x c e=>fpX b hb x c e⟩,
   fun b o e=>I3.bs b o e,(Nat.le_trans J3.bsz I3.sz),fun b o e hb=>?_,fun b hb z=>?_,I3.stack,I3.stkFree⟩
  ·refine clS x ?_
   rcases hx with hx | hx
   ·exact relabel_was2 (.inl rfl) hx
   ·exact relabel_was2 (.inr rfl) hx
  ·rcases (f b hb).2.2.2.1 with z | z
   ·exact J3.noex b o e z
   ·exact absurd (Nat.lt_of_lt_of_le (Heap.lt_size e) (Nat.le_trans J3.bsz z)) (Nat.lt_irrefl _)
  ·rcases List.mem_cons.mp (I3.stkSub b z) with z | z
   ·exact (f b hb).2.1 z
   ·exact (f b hb).2.2.1 z
 have slotN:∀ (i:Nat) (x:Str),(own++caps)[i]?=some x→own.length≤i→∃ j,cs[i - own.length]?=some j∧X.N[j]?=some x:=fun i x e hi=>by
  rw [List.getElem?_append_right hi] at e
  have z:=congrArg (fun l=>l[i - own.length]?) S.slots
  simp only [List.getElem?_map,e,Option.map_some] at z
  cases q:cs[i - own.length]? with
  | none=>rw [q] at z;cases z
  | some j=>rw [q] at z;exact ⟨j,rfl,Option.some.inj z⟩
 have csl:cs.length=caps.length:=by simpa using congrArg List.length S.slots
 have IY:Inv (compCxN X own caps scope cl' C fp { s with heap:=h2 } H3) [] (capv own.length cs σ) H3 { s with heap:=h₁,toks:=s.toks }:=by
  refine ⟨okY,rfl,I3.bare,Un.kept kept,⟨_,hns₁,fun i x v e1 e2 e3=>?_⟩,fun x c e=>?_,I3.hok.fresh (Nat.le_of_eq hCC),fun x c e=>(clC x c e).elim (fun e=>I3.freeC x c (cl1 x c e)) (fun z=>I3.hok.fresh (Nat.le_trans (Nat.le_of_eq hCC) (Nat.le_of_succ_le z))),fun p hp=>absurd (show p∈([]:List (Addr × Obj)) from hp) (by simp),I3.hok.kept kept,?_⟩
  ·have hi:own.length≤i:=by
    refine Nat.le_of_not_lt fun z=>?_
    unfold capv at e2
    rw [List.getElem?_append_left (by simpa using z),List.getElem?_replicate,if_pos z] at e2
    cases e2
   obtain ⟨j,ej,en⟩:=slotN i x e1 hi
   unfold capv at e2
   rw [List.getElem?_append_right (by simpa using hi),List.length_replicate,List.getElem?_map,ej] at e2
   have e2':σ.getD j none=some v:=by simpa using e2
   have e2'':σ[j]?=some (some v):=by
    rw [List.getD_eq_getElem?_getD] at e2'
    cases q:σ[j]? with
    | none=>rw [q] at e2';cases e2'
    | some z=>rw [q] at e2';exact congrArg some e2'
   have hx:x∈caps:=by
    have e1':(own++caps)[i]?=some x:=e1
    rw [List.getElem?_append_right hi] at e1'
    exact List.mem_of_getElem? e1'
   have hf:=S.capf x hx
   have hcell:X.env.scope.names.lookup x=some .cell:=by
    rw [S.scp]
    exact S.free (x,.free) (PySem.mem_of_lookup hf) rfl
   obtain ⟨m,hn,hl⟩:=I3.loc
   obtain ⟨u,ru,lk⟩:=hl j x v en e2'' (.inr (.inl hcell))
   refine ⟨u,ru,.inr ⟨lookup_relabel_free hf,?_⟩⟩
   obtain ⟨c,hc'⟩:=cl2 x (PySem.mem_of_lookup hf)
   refine ⟨c,(clK x hf).trans hc',?_⟩
   rcases lk with ⟨k,_⟩ | ⟨_,c',e',z⟩
   ·rw [show X.env.kindOf x=X.env.scope.names.lookup x from rfl,hcell] at k
    cases k
   ·rw [cl1 x c hc'] at e'
    cases e'
    obtain ⟨o,ho,hd⟩:=z
    exact ⟨o,kept _ _ ho,hd⟩
  ·exact hcl₁ x c e
  ·show (capv own.length cs σ).length=(own++caps).length
   unfold capv
   simp [csl]
 have stat:∀ {H':Hp},(∀ b∈fp,H' b=none)→∀ b∈fp,FpOk (compCxN X own caps scope cl' C fp { s with heap:=h2 } H3) [] H' b:=fun hn b hb=>
  ⟨hn b hb,(fpC b hb).1,okY.exfs b hb,.inl hb,fun x c e=>fpX b hb x c e,fun p hp=>absurd (show p∈([]:List (Addr × Obj)) from hp) (by simp)⟩
 have hst₁:tn 0 h₁:=T.keep _ _ _ st fun b _ o e=>kept b o (k0 b o e)
 have loop:∀ s₃:Shared,s₃={ s with heap:=h₁,toks:=s.toks }→
   codeAny (model X.prog X.w) X.A (.compLoop (.ListComp elt [⟨tg,iter,ifs,0⟩] scope pos) 0 (.ref it) (.ref D) (compEnvC scope cl' C X.env)) (RR (.ref D) C) s₃:=by
  rintro s₃ rfl
  refine compLoop_go (fun n s'=>∃ i ys H',Inv (compCxN X own caps scope cl' C fp { s with heap:=h2 } H3) [] (capv own.length cs σ) H' s'∧tn i s'.heap∧(∀ b∈fp,H' b=none)∧W i n ys H') ?_ m0
   ⟨0,[],H3,IY,hst₁,fun b hb=>by rw [h3n b (fpC b hb).2];exact (f b hb).1,w0⟩
  rintro n s5 ⟨i,ys,H5,I5,st5,fr5,w5⟩
  rcases turn i n ys H5 w5 with ⟨stop,q⟩ | ⟨go,step⟩
  ·refine thn (T.done (compCxN X own caps scope cl' C fp { s with heap:=h2 } H3) rfl rfl rfl hc i [] s5 _ H5 _ I5 (stat fr5) st5 stop) fun r s6 ⟨hr,I6⟩=>?_
   subst hr
   have IX:Inv X pins σ H5 s6:=I3.call' (ch:=fp) I6.os I6.base I6.hok I6.bare fun b hb=>⟨(f b hb).2.2.2.1,(f b hb).2.1,(f b hb).2.2.2.2.1,(f b hb).2.2.2.2.2⟩
   obtain ⟨m6,hn6,_⟩:=I6.loc
   exact hRR D C s6 H5 IX ⟨m6,hn6⟩ (I3.fpOk (b:=C) (Nat.le_of_eq hCC) I6.free) q
  ·refine thn (T.item (compCxN X own caps scope cl' C fp { s with heap:=h2 } H3) rfl rfl rfl hc i [] s5 _ H5 _ I5 (stat fr5) st5 go) fun r s6 ⟨u,hr,h6⟩=>?_
   subst hr
   refine thn h6 fun _ s7 ⟨x,H7,I7,r7,y7,st7,fr7⟩=>?_
   have I7':=I7.pinned (stat fr7) (T.obj _ _ st7)
   refine thn (hg cl' C fp _ _ _ s7 _ H7 x u _ I7' r7 (step x H7 y7)) fun _ s8 ⟨σ8,H8,I8,dr8,q8⟩=>?_
   have again:∀ {s':Shared} {H':Hp} {ys':List V},Inv (compCxN X own caps scope cl' C fp { s with heap:=h2 } H3) ([]++pinsAt fp s7.heap) σ8 H' s'→(∃ m',m' < n∧W (i+1) m' ys' H')→
     ∃ m,m < n∧∃ i ys H',Inv (compCxN X own caps scope cl' C fp { s with heap:=h2 } H3) [] (capv own.length cs σ) H' s'∧tn i s'.heap∧(∀ b∈fp,H' b=none)∧W i m ys H':=fun {s' H' ys'} I9 ⟨m',hm,w9⟩=>by
    have l8:σ8.length=own.length+cs.length:=by have:=I9.len;rw [this];show (own++caps).length=_;simp [csl]
    refine ⟨m',hm,i+1,ys',H',(I9.unpinned).weak (by unfold capv;simp [l8]) (fun j v ej=>?_),T.keep _ _ _ st7 fun b hb o e=>(I9.pin (b,o) (List.mem_append_right _ (List.mem_append_right _ (mem_pinsAt hb e)))).1,fun b hb=>?_,w9⟩
    ·have hj:own.length≤j:=by
      refine Nat.le_of_not_lt fun z=>?_
      unfold capv at ej
      rw [List.getElem?_append_left (by simpa using z),List.getElem?_replicate,if_pos z] at ej
      cases ej
     unfold capv at ej
     rw [List.getElem?_append_right (by simpa using hj),List.length_replicate,← dr8,List.getElem?_drop] at ej
     rw [show own.length+(j - own.length)=j by omega] at ej
     exact ej
    ·obtain ⟨o,e,d⟩:=T.obj _ _ st7 b hb
     exact (I9.pin (b,o) (List.mem_append_right _ (List.mem_append_right _ (mem_pinsAt hb e)))).2.1
   refine thn (ht cl' C fp _ _ _ s8 σ8 H8 _ I8 q8) fun b s9 ⟨H9,I9,q9⟩=>?_
   cases b with
   | false=>
    rw [if_neg Bool.false_ne_true] at q9 ⊢
    exact again I9 q9
   | true=>
    rw [if_pos rfl] at q9 ⊢
    refine thn (he cl' C fp _ _ _ s9 σ8 H9 _ I9 q9) fun xv s10 ⟨y,H10,I10,r10,hD10,hlen,q10⟩=>?_
    refine thn (mt_append (X:=compCxN X own caps scope cl' C fp { s with heap:=h2 } H3) _ s10 σ8 H10 (.ref D) [y] (.ref D) [xv] (fun _ H'=>H'=upd H10 D (.lst (ys++[y]))) I10 rfl (.cons r10 .nil) ⟨D,ys,y,rfl,rfl,hD10,hlen,rfl⟩) fun _ s11 ⟨_,H11,I11,_,e11⟩=>?_
    subst e11
    exact again I11 q10
 exact codeAny_compStart_list (loop _ rfl) (T.self _ 0 _ _ _ hst₁ (loop _ rfl))
theorem hClosN (S:CompScN X sc own caps cs scope) (ok:X.Ok):∀ x,(x,NameKind.free)∈scope.names→∃ c,X.env.cells.lookup x=some c:=fun x hx=>ok.has x (.inl (by
 show X.env.scope.names.lookup x=some .cell
 rw [S.scp]
 exact S.free (x,.free) hx rfl))
theorem pe_compN {g:List (Str × Addr)→Addr→List Addr→Shared→Hp→TG} {tc:List (Str × Addr)→Addr→List Addr→Shared→Hp→TT} {te:List (Str × Addr)→Addr→List Addr→Shared→Hp→TE} (S:CompScN X sc own caps cs scope) (hc:X.calm=true) (hi:PI X tg iter wi) (hg:∀ cl C fp s₃ H₃,PG (compCxN X own caps scope cl C fp s₃ H₃) tg (g cl C fp s₃ H₃)) (ht:∀ cl C fp s₃ H₃,PF (compCxN X own caps scope cl C fp s₃ H₃) ifs (tc cl C fp s₃ H₃))
  (he:∀ cl C fp s₃ H₃,PE (compCxN X own caps scope cl C fp s₃ H₃) elt (te cl C fp s₃ H₃)) (hge:∀ cl C fp s₃ H₃,g cl C fp s₃ H₃=g [] 0 [] X.s₀ X.H₀:=by intros;rfl) (hte:∀ cl C fp s₃ H₃,tc cl C fp s₃ H₃=tc [] 0 [] X.s₀ X.H₀:=by intros;rfl)
  (hee:∀ cl C fp s₃ H₃,te cl C fp s₃ H₃=te [] 0 [] X.s₀ X.H₀:=by intros;rfl) (hs:∀ x,foldedSetIterable iter X.env x=pure x:=by intro _;rfl) :
  PE X (.ListComp elt [⟨tg,iter,ifs,0⟩] scope pos) (tComp own.length cs wi (g [] 0 [] X.s₀ X.H₀) (tc [] 0 [] X.s₀ X.H₀) (te [] 0 [] X.s₀ X.H₀)):=by
 intro pins s σ H Q I h
 obtain ⟨cl,hcl,cl1,cl2⟩:=closure_ok (hClosN S I.ok)
 rw [eval_ListComp]
 refine wpAny_comprehension_free (use:=none) rfl hs hcl S.kind S.names (thn (hi pins s σ H _ I h) fun v s1 h1=>thn h1 fun itv s2 h2=>?_)
 obtain ⟨it,fp,tn,J,H2,rfl,I2,T,st2,f2,h2⟩:=h2
 refine comp_coreN (RR:=fun acc C=>compPost (model X.prog X.w) X.A X.xe none (EP X pins σ Q) acc C) S hc (fun cl C fp s₃ H₃=>hge cl C fp s₃ H₃ ▸ hg cl C fp s₃ H₃) (fun cl C fp s₃ H₃=>hte cl C fp s₃ H₃ ▸ ht cl C fp s₃ H₃) (fun cl C fp s₃ H₃=>hee cl C fp s₃ H₃ ▸ he cl C fp s₃ H₃) cl1 cl2 I2 T st2 f2 h2 ?_
 intro D C s' H' I' hm hf q
 obtain ⟨m,hn⟩:=hm
 obtain ⟨f0,f1,f2,f3,f4,f5⟩:=hf
 exact ⟨m,hn,fun h' hs'=>⟨.ref D,H',I'.turned (t':=s'.toks) (it:=C) (fun b o hb e=>(hs'.2 b hb).trans e) f0 f1 f3 f4 f5,rfl,q⟩⟩
theorem ps_compN {g:List (Str × Addr)→Addr→List Addr→Shared→Hp→TG} {tc:List (Str × Addr)→Addr→List Addr→Shared→Hp→TT} {te:List (Str × Addr)→Addr→List Addr→Shared→Hp→TE} {i:Nat} {y:Str} {py spos:Pos} (S:CompScN X sc own caps cs scope) (hc:X.calm=true) (hN:X.N.Nodup) (hyi:X.N[i]?=some y) (hy:X.env.scope.names.lookup y=some .local)
  (hsw:swapsWith (.ListComp elt [⟨tg,iter,ifs,0⟩] scope pos) (some (.Name y py)) spos.line X.env=pure true)
  (hi:PI X tg iter wi) (hg:∀ cl C fp s₃ H₃,PG (compCxN X own caps scope cl C fp s₃ H₃) tg (g cl C fp s₃ H₃)) (ht:∀ cl C fp s₃ H₃,PF (compCxN X own caps scope cl C fp s₃ H₃) ifs (tc cl C fp s₃ H₃))
  (he:∀ cl C fp s₃ H₃,PE (compCxN X own caps scope cl C fp s₃ H₃) elt (te cl C fp s₃ H₃)) (hge:∀ cl C fp s₃ H₃,g cl C fp s₃ H₃=g [] 0 [] X.s₀ X.H₀:=by intros;rfl) (hte:∀ cl C fp s₃ H₃,tc cl C fp s₃ H₃=tc [] 0 [] X.s₀ X.H₀:=by intros;rfl)
  (hee:∀ cl C fp s₃ H₃,te cl C fp s₃ H₃=te [] 0 [] X.s₀ X.H₀:=by intros;rfl) (hs:∀ x,foldedSetIterable iter X.env x=pure x:=by intro _;rfl) :
  PS X (.Assign [.Name y py] (.ListComp elt [⟨tg,iter,ifs,0⟩] scope pos) spos) (tAsg (tComp own.length cs wi (g [] 0 [] X.s₀ X.H₀) (tc [] 0 [] X.s₀ X.H₀) (te [] 0 [] X.s₀ X.H₀)) (gName i)):=by
 intro pins s σ H D I h
 obtain ⟨cl,hcl,cl1,cl2⟩:=closure_ok (hClosN S I.ok)
 rw [exec_Assign_Name_used _ _ _ _ hsw]
 refine wpAny_bind (wpAny_standAt (wpAny_bind ?_))
 show wpAny _ X.A (do let _ ← comprehension (.ListComp elt [⟨tg,iter,ifs,0⟩] scope pos) scope X.env _ (newList []) false (eval iter X.env) (some (assign (.Name y py) X.env))) _ _ s
 refine wpAny_bind (wpAny_mono (wpAny_comprehension_free (use:=some (assign (.Name y py) X.env)) (Q:=fun _ s'=>SP X pins D .next s') rfl hs hcl S.kind S.names
  (thn (hi pins s σ H _ I h) fun v s1 h1=>thn h1 fun itv s2 h2=>?_)) (fun _ s' hq=>wpAny_pure (wpAny_pure hq)) fun _ _ e=>e)
 obtain ⟨it,fp,tn,J,H2,rfl,I2,T,st2,f2,h2⟩:=h2
 refine comp_coreN (Q:=fun x H1=>gName i x σ H1 D.nx) (RR:=fun acc C=>compPost (model X.prog X.w) X.A X.xe (some (assign (.Name y py) X.env)) (fun _ s'=>SP X pins D .next s') acc C) S hc (fun cl C fp s₃ H₃=>hge cl C fp s₃ H₃ ▸ hg cl C fp s₃ H₃) (fun cl C fp s₃ H₃=>hte cl C fp s₃ H₃ ▸ ht cl C fp s₃ H₃) (fun cl C fp s₃ H₃=>hee cl C fp s₃ H₃ ▸ he cl C fp s₃ H₃) cl1 cl2 I2 T st2 f2 h2 ?_
 intro Dl C s' H' I' hm hf q
 obtain ⟨m,hn⟩:=hm
 obtain ⟨f0,f1,f2,f3,f4,f5⟩:=hf
 show wpAny _ X.A (assign (.Name y py) X.env (.ref Dl)) _ _ _
 refine wpAny_assign_Name (store_ok2 I' hN hyi (.inl hy) (v:=.ref Dl) rfl (fun s3 I3 ⟨a,sb,ha⟩=>?_) (.inr hy))
 have hCa:C≠a:=by
  rcases ha with rfl | ha
  ·exact f1
  ·exact Ne.symm (f4 _ _ ha)
 refine ⟨m,hn.sameBut sb hCa,fun h' hs'=>⟨_,H',I3.turned (t':=s3.toks) (it:=C) (fun b o hb e=>(hs'.2 b hb).trans e) f0 f1 f3 f4 f5,q⟩⟩
end
end L2
namespace L2
open PySem PySem.Spec PyProof.Rows XL
section
variable {X:Cx} {pins:List (Addr × Obj)} {σ:St} {H H':Hp} {s:Shared} {h':Heap}
theorem Inv.turnedN {t':Nat} {ch:List Addr} (I:Inv X pins σ H s) (k:∀ b o,b ∉ ch→s.heap.get? b=some o→h'.get? b=some o) (f:∀ b∈ch,FpOk X pins H b):Inv X pins σ H { s with heap:=h',toks:=t' }:=by
 have nit:∀ b u,H b=some u→b ∉ ch:=fun b u e z=>by rw [(f b z).1] at e;cases e
 refine I.step (g':=s.gens) (d':=s.drawn) (ch:=ch) (fun b hb=>?_) (fun b o _ _ hc e _=>k b o hc e) (fun b o _ _ hc e _=>⟨o.slots,k b o hc e⟩) (fun _ _ _ _ n=>n)
  (fun b o hc e=>⟨o,k b o hc e⟩) (fun _ _ e=>e) (fun _ _ _ e=>e) (fun b ps e=>⟨#[],by rw [e];simp⟩) (fun m hm=>?_) (fun b u e=>?_) I.bare
 ·obtain ⟨f0,f1,f2,f3,f4,f5⟩:=f b hb
  exact ⟨f3,f1,f4,f5⟩
 ·obtain ⟨o,es,ep,ho,r⟩:=hm
  exact ⟨o,es,ep,k _ o (fun z=>(f _ z).2.1 rfl) ho,r⟩
 ·refine (I.hok b u e).stay (fun c v hc q=>k c v ?_ q) (fun _ q=>q) fun _ _ q=>q
  rcases hc with z | z
  ·rw [z];exact nit b u e
  ·exact nit c _ z
theorem Inv.trackTup {T:Addr} {xs:List V} {its:List Value} (I:Inv X pins σ H s) (f:FpOk X pins H T) (h0:X.s₀.heap.get? T=none) (hz:xs.length≤sizeLine) (r:Vals xs its) (e:IsTup s.heap T its.toArray):Inv X pins σ (upd H T (.tup xs)) s:=by
 obtain ⟨f0,f1,f2,f3,f4,f5⟩:=f
 exact I.track f0 h0 f1 f4 f5 ⟨hz,its,r,e⟩
end
def Itz (K:W.Frag) (l1 l2:Addr):It:=
 ⟨fun i H=>∃ xs ys x y,SqL K H l1 xs∧SqL K H l2 ys∧xs[i]?=some x∧ys[i]?=some y,
  fun i H v H'=>∃ T,v=.ref T∧H T=none∧∀ xs ys x y,SqL K H l1 xs→SqL K H l2 ys→xs[i]?=some x→ys[i]?=some y→H'=upd H T (.tup [x,y]),
  fun i H=>∃ xs ys,SqL K H l1 xs∧SqL K H l2 ys∧(xs.length≤i∨ys.length≤i)⟩
theorem zip_apart {h:Heap} {z TI TO i1 i2 l1 l2:Addr} {f0 a b:Value} {k1 k2:Nat} {xs ys:Array Value} (hz:IsZip h z TI TO f0) (hTI:IsPair h TI (.ref i1) (.ref i2)) (hTO:IsPair h TO a b) (h1:h.IsListIter i1 l1 k1) (h2:h.IsListIter i2 l2 k2)
  (n12:i1≠i2) (nT:TI≠TO) (q1:h.IsList l1 xs) (q2:h.IsList l2 ys):ZipApart z TI TO i1 i2 l1 l2:=by
 obtain ⟨o1,e1,c1,d1⟩:=h1
 obtain ⟨o2,e2,c2,d2⟩:=h2
 obtain ⟨p1,g1,cc1,n1,dd1⟩:=q1
 obtain ⟨p2,g2,cc2,n2,dd2⟩:=q2
 have ne:∀ {a b:Addr} {o p:Obj} {n m:String},h.get? a=some o→h.get? b=some p→o.cls=.type n→p.cls=.type m→n≠m→a≠b:=fun {a b o p n m} ea eb ca cb nm q=>by
  subst q
  rw [ea] at eb
  cases eb
  rw [ca] at cb
  cases cb
  exact nm rfl
 exact ⟨ne hTI hz rfl rfl (by decide),ne hTO hz rfl rfl (by decide),ne e1 hz c1 rfl (by decide),ne e2 hz c2 rfl (by decide),nT,ne hTI e1 rfl c1 (by decide),ne hTI e2 rfl c2 (by decide),ne hTO e1 rfl c1 (by decide),ne hTO e2 rfl c2 (by decide),n12,
  ne g1 hz cc1 rfl (by decide),ne g1 hTO cc1 rfl (by decide),ne g1 e1 cc1 c1 (by decide),ne g1 e2 cc1 c2 (by decide),ne g2 hz cc2 rfl (by decide),ne g2 hTO cc2 rfl (by decide),ne g2 e1 cc2 c1 (by decide),ne g2 e2 cc2 c2 (by decide)⟩
theorem turn_zip {P:Program} {w:World} {K:W.Frag} {es:List Expr} {x1} {tp:Pos} (l1 l2 z TI TO i1 i2:Addr) (n12:i1≠i2) (nT:TI≠TO):Turn P w K (.Tuple es x1 tp) (Itz K l1 l2) [z,TI,TO,i1,i2] z
  (fun i h=>IsZip h z TI TO .none∧IsPair h TI (.ref i1) (.ref i2)∧(∃ a b,IsPair h TO a b)∧h.IsListIter i1 l1 i∧h.IsListIter i2 l2 i) where
 mem:=by simp
 obj:=fun i h ⟨hz,hTI,⟨a,b,hTO⟩,⟨o1,e1,c1,d1⟩,⟨o2,e2,c2,d2⟩⟩ b hb=>by
  simp at hb
  rcases hb with rfl | rfl | rfl | rfl | rfl
  ·exact ⟨_,hz,fun v z=>by cases z⟩
  ·exact ⟨_,hTI,fun v z=>by cases z⟩
  ·exact ⟨_,hTO,fun v z=>by cases z⟩
  ·exact ⟨_,e1,fun v z=>by rw [d1] at z;cases z⟩
  ·exact ⟨_,e2,fun v z=>by rw [d2] at z;cases z⟩
 keep:=fun i h h' ⟨hz,hTI,⟨a,b,hTO⟩,h1,h2⟩ k=>⟨k z (by simp) _ hz,k TI (by simp) _ hTI,⟨a,b,k TO (by simp) _ hTO⟩,h1.at fun o e=>k i1 (by simp) o e,h2.at fun o e=>k i2 (by simp) o e⟩
 item:=by
  intro X hP hw hK hc i pins s σ H E I hf st hg
  subst hP hw hK
  obtain ⟨hz,hTI,⟨a,b,hTO⟩,h1,h2⟩:=st
  obtain ⟨xs,ys,x,y,hq1,hq2,hx,hy⟩:=hg
  obtain ⟨its1,rv1,p1,hz1⟩:=I.list hq1
  obtain ⟨u1,hu1,ru1⟩:=rv1.get hx
  obtain ⟨its2,rv2,p2,hz2⟩:=I.list hq2
  obtain ⟨u2,hu2,ru2⟩:=rv2.get hy
  have D:=zip_apart hz hTI hTO h1 h2 n12 nT p1.isList p2.isList
  refine wpAny_pyNext_zip_item D hz hTI hTO h1 h2 p1.isList p2.isList (x:=u1) (y:=u2) (by simpa using hu1) (by simpa using hu2) fun h' a1 a2 a3 a4 a5 a6 kk=>?_
  refine ⟨_,rfl,wpAny_letOwnedTupleGo_zip (s:={ s with heap:=h' }) a1 fun h'' z1 sb=>?_⟩
  have kz:∀ c o,c ∉ [z,TI,TO,i1,i2]→s.heap.get? c=some o→h''.get? c=some o:=fun c o hc e=>sb.extBut c o (fun q=>hc (by simp [q])) (kk c o (fun q=>hc (by simp [q])) (fun q=>hc (by simp [q])) (fun q=>hc (by simp [q])) (fun q=>hc (by simp [q])) e)
  have I1:Inv X pins σ H { s with heap:=h'' }:=I.turnedN (t':=s.toks) (ch:=[z,TI,TO,i1,i2]) kz hf
  have fr:FpOk X pins H s.heap.objs.size:=I.fpOk (Nat.le_refl _) I.fresh
  have nz:s.heap.objs.size≠z:=Nat.ne_of_gt (Heap.lt_size hz)
  have tup:IsPair h'' s.heap.objs.size u1 u2:=sb.extBut _ _ nz a5
  have I2:Inv X pins σ (upd H s.heap.objs.size (.tup [x,y])) { s with heap:=h'' }:=I1.trackTup (its:=[u1,u2]) fr (by
    cases q:X.s₀.heap.get? s.heap.objs.size with
    | none=>rfl
    | some o=>exact absurd (Nat.lt_of_lt_of_le (Heap.lt_size q) I.sz) (Nat.lt_irrefl _)) (by show 2≤sizeLine;rw [sizeLine_eq];decide) (.cons ru1 (.cons ru2 .nil)) ⟨_,tup,rfl,0,rfl⟩
  refine ⟨.ref s.heap.objs.size,_,I2,rfl,⟨_,rfl,fr.1,fun xs' ys' x' y' e1 e2 e3 e4=>?_⟩,⟨z1,sb.extBut _ _ D.TIz (kk _ _ D.TIz D.TITO D.TIi1 D.TIi2 hTI),⟨_,_,sb.extBut _ _ D.TOz a2⟩,a3.extBut sb.extBut D.i1z,a4.extBut sb.extBut D.i2z⟩,fun b hb=>?_⟩
  ·rw [I.list_inj e1 hq1,hx] at e3
   rw [I.list_inj e2 hq2,hy] at e4
   cases e3
   cases e4
   rfl
  ·have nb:b≠s.heap.objs.size:=by
    have lt:∀ {c o},s.heap.get? c=some o→c≠s.heap.objs.size:=fun e=>Nat.ne_of_lt (Heap.lt_size e)
    obtain ⟨o1,e1,_⟩:=h1
    obtain ⟨o2,e2,_⟩:=h2
    simp at hb
    rcases hb with rfl | rfl | rfl | rfl | rfl
    ·exact lt hz
    ·exact lt hTI
    ·exact lt hTO
    ·exact lt e1
    ·exact lt e2
   rw [upd_ne nb]
   exact (hf b hb).1
 done:=by
  intro X hP hw hK hc i pins s σ H E I hf st hg
  subst hP hw hK
  obtain ⟨hz,hTI,⟨a,b,hTO⟩,h1,h2⟩:=st
  obtain ⟨xs,ys,hq1,hq2,hend⟩:=hg
  obtain ⟨its1,rv1,p1,hz1⟩:=I.list hq1
  obtain ⟨its2,rv2,p2,hz2⟩:=I.list hq2
  have D:=zip_apart hz hTI hTO h1 h2 n12 nT p1.isList p2.isList
  have l1':=rv1.length
  have l2':=rv2.length
  refine wpAny_pyNext_zip_end (I.ok.hd hc) D hz hTI hTO h1 h2 p1.isList p2.isList (by rcases hend with q | q;exact .inl (by simp;omega);exact .inr (by simp;omega)) fun h' kk=>⟨rfl,?_⟩
  exact I.turnedN (t':=s.toks) (ch:=[z,TI,TO,i1,i2]) (fun c o hc e=>kk c o (fun q=>hc (by simp [q])) (fun q=>hc (by simp [q])) (fun q=>hc (by simp [q])) (fun q=>hc (by simp [q])) e) hf
 self:=fun _ _ _ _ _ st h=>wpAny_pyIter_zip st.1 h
theorem boot_zip:bootBuiltins "zip" = some (.type "zip"):=by decide +kernel
section
variable {X:Cx} {es:List Expr} {x1:Nat} {tp:Pos}
def iZip (K:W.Frag) (ta:TA):TI:=fun σ H R=>ta σ H fun vs H1=>∃ l1 l2 xs ys,vs=[.ref l1,.ref l2]∧SqL K H1 l1 xs∧SqL K H1 l2 ys∧R (Itz K l1 l2) H1
theorem pi_zip {a b:Expr} {ta:TA} {p pos:Pos} (hg:Gl X "zip") (hm:X.mg "zip" = none) (ha:PA X [a,b] ta) (hs:starEach [a,b] X.env=[(false,eval a X.env),(false,eval b X.env)]:=by rfl) (hs2:starEach [b] X.env=[(false,eval b X.env)]:=by rfl) :
  PI X (.Tuple es x1 tp) (.Call (.Name "zip" p) [a,b] [] pos) (iZip X.K ta):=by
 intro pins s σ H R I h
 refine Call_ (ld_blt I hg hm boot_zip (PyProof.Rows.callWith_type1 (thn (ha pos pins s σ H _ I h) fun us s1 ⟨vs,H1,I1,r1,q1⟩=>?_) (by rw [hs,hs2]) (by rw [hs2];rfl)))
 obtain ⟨l1,l2,xs,ys,e,hx,hy,q⟩:=q1
 subst e
 cases r1 with
 | cons r rr=>
  cases rr with
  | cons r' rr=>
   cases rr
   cases r
   cases r'
   obtain ⟨its1,rv1,p1,hz1⟩:=I1.list hx
   obtain ⟨its2,rv2,p2,hz2⟩:=I1.list hy
   refine call_zip_2 p1.isList p2.isList fun h' a1 a2 a3 a4 a5 a6 kk=>wpAny_pyIter_zip a1 ?_
   refine ⟨_,_,_,_,H1,rfl,I1.kept (t':=s1.toks) kk,turn_zip l1 l2 (s1.heap.objs.size+4) (s1.heap.objs.size+2) (s1.heap.objs.size+3) s1.heap.objs.size (s1.heap.objs.size+1) (Nat.ne_of_lt (Nat.lt_succ_self _)) (Nat.ne_of_lt (Nat.lt_succ_self _)),⟨a1,a2,⟨_,_,a3⟩,a4,a5⟩,fun b hb=>?_,q⟩
   have hb':s1.heap.objs.size≤b:=by
    simp at hb
    rcases hb with rfl | rfl | rfl | rfl | rfl
    ·exact Nat.le_add_right _ 4
    ·exact Nat.le_add_right _ 2
    ·exact Nat.le_add_right _ 3
    ·exact Nat.le_refl _
    ·exact Nat.le_add_right _ 1
   exact I1.fpOk hb' (I1.hok.fresh hb')
end
theorem Same.rfl' {H:Hp}:Same H H:=fun _ _ e=>e
theorem Same.tr {H H1 H2:Hp} (a:Same H H1) (b:Same H1 H2):Same H H2:=fun x o e=>b x o (a x o e)
theorem Same.new {H H1:Hp} {D:Addr} {o:HO} (a:Same H H1) (hn:H D=none):Same H (upd H1 D o):=fun b u e=>by
 rw [upd_ne (ne_of_none e hn)]
 exact a b u e
theorem comp_ext {J:It} {n:Nat} {H1:Hp} {D:Addr} {g:TG} {tc:TT} {te:TE} {k:Nat} {cs:List Nat} {σ:St} {Q:VK} (hD:H1 D=none) (ys:Nat→List V) (y0:ys 0=[]) (hl:∀ i,i < n→(ys i).length < sizeLine)
  (step:∀ i H,i < n→Same H1 H→H D=some (.lst (ys i))→J.go i H∧∀ (K1:VK) (K2:Hp→Prop),(∀ y H4,Same H H4→ys (i+1)=ys i++[y]→K1 y H4)→(∀ H3,Same H H3→ys (i+1)=ys i→K2 H3)→
   ∀ x H',J.yld i H x H'→g x (capv k cs σ) H' fun σ2 H2=>σ2.drop k=cs.map (fun i=>σ.getD i none)∧tc σ2 H2 fun b H3=>if b=true then te σ2 H3 K1 else K2 H3)
  (fin:∀ H,Same H1 H→H D=some (.lst (ys n))→J.stop n H∧Q (.ref D) H):CompW J k cs σ g tc te Q H1 D:=by
 refine ⟨fun i m zs H=>m=n - i∧i≤n∧zs=ys i∧Same H1 H∧H D=some (.lst zs),⟨n,by simp,Nat.zero_le _,y0.symm,Same.rfl'.new hD,upd_same⟩,?_⟩
 rintro i m zs H ⟨rfl,hi,rfl,sm,hDi⟩
 by_cases hlt:i < n
 ·obtain ⟨go,st⟩:=step i H hlt sm hDi
  refine .inr ⟨go,st _ _ (fun v H4 s4 e4=>?_) (fun H3 s3 e3=>?_)⟩
  ·exact ⟨s4 _ _ hDi,hl i hlt,n - (i+1),by omega,rfl,hlt,e4.symm,(sm.tr s4).new hD,upd_same⟩
  ·exact ⟨n - (i+1),by omega,rfl,hlt,e3.symm,sm.tr s3,s3 _ _ hDi⟩
 ·have e:i=n:=by omega
  subst e
  exact .inl (fin H sm hDi)
theorem comp_ext0 {J:It} {n:Nat} {H1:Hp} {D:Addr} {g:TG} {te:TE} {k:Nat} {cs:List Nat} {σ:St} {Q:VK} (hD:H1 D=none) (ys:Nat→List V) (y0:ys 0=[]) (hl:∀ i,i < n→(ys i).length < sizeLine)
  (step:∀ i H,i < n→Same H1 H→H D=some (.lst (ys i))→J.go i H∧∀ (K1:VK),(∀ y H4,Same H H4→ys (i+1)=ys i++[y]→K1 y H4)→
   ∀ x H',J.yld i H x H'→g x (capv k cs σ) H' fun σ2 H2=>σ2.drop k=cs.map (fun i=>σ.getD i none)∧te σ2 H2 K1)
  (fin:∀ H,Same H1 H→H D=some (.lst (ys n))→J.stop n H∧Q (.ref D) H):CompW J k cs σ g tNoIf te Q H1 D:=by
 refine comp_ext hD ys y0 hl (fun i H hi sm hDi=>?_) fin
 obtain ⟨go,st⟩:=step i H hi sm hDi
 exact ⟨go,fun K1 K2 k1 k2 x H' y=>st K1 k1 x H' y⟩
theorem ints_are:∀ {ns:List Int} {its:List Value},Vals (ns.map V.int) its→IntsAre its ns
 | [],_,.nil=>.nil
 | n::ns,_,.cons r t=>by
  obtain ⟨k,rfl⟩:=r
  exact .cons n k (ints_are t)
theorem of_ints:∀ {ns:List Int} {its:List Value},IntsAre its ns→Vals (ns.map V.int) its
 | _,_,.nil=>.nil
 | _,_,.cons n t r=>.cons ⟨t,rfl⟩ (of_ints r)
section
variable {X:Cx}
theorem vals_bools {bs:List Bool} {its:List Value} (r:Vals (bs.map V.bl) its):its=bs.map Value.bool:=by
 induction bs generalizing its with
 | nil=>cases r;rfl
 | cons b bs ih=>
  cases r with
  | cons r t=>cases r;rw [ih t];rfl
theorem truth_bools {prog:Program} {w:World} {A:Around} {bs:List Bool}:TruthOf prog w A (fun i v=>(bs.map Value.bool).toArray[i]?=some v) (fun i=>bs.getD i false):=fun i v s Q E hP hQ=>by
 have e:bs[i]?.map Value.bool=some v:=by simpa using hP
 cases q:bs[i]? with
 | none=>rw [q] at e;cases e
 | some b=>
  rw [q] at e
  cases e
  have:bs.getD i false=b:=by rw [List.getD_eq_getElem?_getD,q];rfl
  exact wpAny_pure (this ▸ hQ)
theorem range_all {bs:List Bool}:(List.range bs.length).all (fun i=>bs.getD i false)=bs.all id:=by
 rw [Bool.eq_iff_iff,List.all_eq_true,List.all_eq_true]
 constructor
 ·intro h b hb
  obtain ⟨i,hi,e⟩:=List.mem_iff_getElem.mp hb
  have:=h i (List.mem_range.mpr hi)
  rw [List.getD_eq_getElem?_getD,List.getElem?_eq_getElem hi,e] at this
  exact this
 ·intro h i hi
  have hi:=List.mem_range.mp hi
  rw [List.getD_eq_getElem?_getD,List.getElem?_eq_getElem hi]
  exact h _ (List.getElem_mem hi)
theorem range_any {bs:List Bool}:(List.range bs.length).any (fun i=>bs.getD i false)=bs.any id:=by
 rw [Bool.eq_iff_iff,List.any_eq_true,List.any_eq_true]
 constructor
 ·rintro ⟨i,hi,h⟩
  have hi:=List.mem_range.mp hi
  rw [List.getD_eq_getElem?_getD,List.getElem?_eq_getElem hi] at h
  exact ⟨_,List.getElem_mem hi,h⟩
 ·rintro ⟨b,hb,h⟩
  obtain ⟨i,hi,e⟩:=List.mem_iff_getElem.mp hb
  refine ⟨i,List.mem_range.mpr hi,?_⟩
  rw [List.getD_eq_getElem?_getD,List.getElem?_eq_getElem hi,e]
  exact h
theorem kept_it {s:Shared} {l:Addr} {h':Heap} (hk:∀ b o,b ∉ [s.heap.objs.size]→(s.heap.push { cls:=.type "list_iterator",data:=.fields #[.ref l,.int 0 0] }).get? b=some o→h'.get? b=some o) :
  ∀ b o,s.heap.get? b=some o→h'.get? b=some o:=fun b o e=>by
 refine hk b o (fun hm=>?_) (Heap.get?_push_of_some _ e)
 rcases List.mem_cons.mp hm with e1 | hm
 ·exact absurd (e1 ▸ Heap.lt_size e) (Nat.lt_irrefl _)
 ·cases hm
theorem call_allB (hc:X.calm=true):CallR X (.builtin "all") (fun xs H Q=>∃ (p:Addr) (bs:List Bool),xs=[.ref p]∧SqL X.K H p (bs.map V.bl)∧Q (.bl (bs.all id)) H):=by
 intro pins s σ H xs us Q I r h
 obtain ⟨p,bs,rfl,hp,q⟩:=h
 obtain ⟨u,rfl,ru⟩:=r.one
 cases ru
 obtain ⟨its,rv,pl,hz⟩:=I.list hp
 have e:=vals_bools rv
 subst e
 have hlt:p < s.heap.objs.size:=by obtain ⟨_,e,_⟩:=pl.isList;exact Heap.lt_size e
 refine call_all_walk (wpAny_pyIter_list pl.isList ?_)
 refine ⟨_,_,_,_,_,_,fun i=>bs.getD i false,rfl,Walks.list (A:=X.A.in1) (I.ok.hd hc) _ p (Nat.ne_of_lt hlt) _,⟨⟨_,Heap.get?_push_size _ rfl,rfl,rfl⟩,pl.isList.push _⟩,truth_bools,fun h' tk hk=>?_⟩
 refine ⟨.bl (bs.all id),H,I.kept (kept_it hk),?_,q⟩
 show Value.bool _=Value.bool _
 rw [List.size_toArray,List.length_map,range_all]
theorem call_anyB (hc:X.calm=true):CallR X (.builtin "any") (fun xs H Q=>∃ (p:Addr) (bs:List Bool),xs=[.ref p]∧SqL X.K H p (bs.map V.bl)∧Q (.bl (bs.any id)) H):=by
 intro pins s σ H xs us Q I r h
 obtain ⟨p,bs,rfl,hp,q⟩:=h
 obtain ⟨u,rfl,ru⟩:=r.one
 cases ru
 obtain ⟨its,rv,pl,hz⟩:=I.list hp
 have e:=vals_bools rv
 subst e
 have hlt:p < s.heap.objs.size:=by obtain ⟨_,e,_⟩:=pl.isList;exact Heap.lt_size e
 refine call_any_walk (wpAny_pyIter_list pl.isList ?_)
 refine ⟨_,_,_,_,_,_,fun i=>bs.getD i false,rfl,Walks.list (A:=X.A.in1) (I.ok.hd hc) _ p (Nat.ne_of_lt hlt) _,⟨⟨_,Heap.get?_push_size _ rfl,rfl,rfl⟩,pl.isList.push _⟩,truth_bools,fun h' tk hk=>?_⟩
 refine ⟨.bl (bs.any id),H,I.kept (kept_it hk),?_,q⟩
 show Value.bool _=Value.bool _
 rw [List.size_toArray,List.length_map,range_any]
theorem ints_get {its:List Value} {ns:List Int} (h:IntsAre its ns):∀ i v,its.toArray[i]?=some v→∃ t,v=Value.int (ns.getD i 0) t:=by
 suffices q:∀ i v,its[i]?=some v→∃ t,v=Value.int (ns.getD i 0) t from fun i v e=>q i v (by simpa using e)
 induction h with
 | nil=>intro i v e;simp at e
 | cons n t _ ih=>
  intro i v e
  cases i with
  | zero=>simp at e;exact ⟨t,by simp [← e]⟩
  | succ i=>simpa using ih i v (by simpa using e)
def distinct (ns:List Int):List Int:=firstMet (fun i=>ns.getD i 0) ns.length
theorem call_setI (hc:X.calm=true):CallR X (.type "set") (fun xs H Q=>∃ (p:Addr) (ns:List Int),xs=[.ref p]∧SqL X.K H p (ns.map V.int)∧ns.length+1 < scanBound∧∀ d,H d=none→Q (.ref d) (upd H d (.set (fun k=>(distinct ns).any (· == k)) (distinct ns).length))):=by
 intro pins s σ H xs us Q I r h
 obtain ⟨p,ns,rfl,hp,h1,q⟩:=h
 obtain ⟨u,rfl,ru⟩:=r.one
 cases ru
 obtain ⟨its,rv,pl,hz⟩:=I.list hp
 have hI:=ints_are rv
 have hlen:=hI.length
 have hsz:its.toArray.size=ns.length:=by rw [List.size_toArray,hlen]
 refine PySem.call_set_list (ns:=ns) (I.ok.hd hc) pl.isList (by simpa using hI) (by rw [hsz];exact h1) fun h' tk hS hk=>?_
 rw [hsz] at hS
 exact ⟨.ref s.heap.objs.size,_,I.laid (o:=.set (fun k=>(distinct ns).any (· == k)) (distinct ns).length) (fun b o e=>hk b o (Heap.lt_size e) e) (Nat.le_refl _) hS,rfl,q _ I.fresh⟩
theorem call_lenSet:CallR X (.builtin "len") (fun xs H Q=>∃ a S n,xs=[.ref a]∧H a=some (.set S n)∧(n:Int) < 2 ^ 63∧Q (.int n) H):=by
 intro pins s σ H xs us Q I r h
 obtain ⟨a,S,n,rfl,ha,hn,q⟩:=h
 obtain ⟨u,rfl,ru⟩:=r.one
 cases ru
 have hS:s.heap.SetOf (intKind X.prog X.w) a S n:=I.hok a _ ha
 obtain ⟨o,es,ep,t,e,ex,hd,_,_,_,hf,rfl⟩:=hS
 exact call_len_set e ex hd hf hn ⟨.int es.size,H,I.tok _,⟨_,rfl⟩,q⟩
theorem call_sortedI:CallR X (.builtin "sorted") (fun xs H Q=>∃ (p:Addr) (ns:List Int),xs=[.ref p]∧SqL X.K H p (ns.map V.int)∧ns.length < 64∧∀ (d:Addr) (ns':List Int),H d=none→ns'.Perm ns→ns'.Pairwise (·≤·)→Q (.ref d) (upd H d (.lst (ns'.map V.int)))):=by
 intro pins s σ H xs us Q I r h
 obtain ⟨p,ns,rfl,hp,h1,q⟩:=h
 obtain ⟨u,rfl,ru⟩:=r.one
 cases ru
 obtain ⟨its,rv,pl,hz⟩:=I.list hp
 have hI:=ints_are rv
 have hlen:=hI.length
 refine sorted_ints pl.isList hI (by omega) fun out ns' a1 a2 a3=>?_
 obtain ⟨e,he⟩:=sortedAll_at s.heap its out
 have hn:H (s.heap.objs.size+1)=none:=I.hok.fresh (Nat.le_succ _)
 refine ⟨.ref (s.heap.objs.size+1),_,I.laid (t':=s.toks) (fun _ _=>sortedAll_old) (Nat.le_succ _) (a:=s.heap.objs.size+1) (o:=.lst (ns'.map V.int)) ⟨?_,out.toList,e,of_ints a1,?_⟩,rfl,q _ ns' hn a2 a3⟩
 ·rw [List.length_map,a2.length_eq,sizeLine_eq]
  omega
 ·rw [he]
end
end L2
namespace L2
open PySem PySem.Spec PyProof.Rows
section
variable {κ:Type} [DecidableEq κ]
def valV (kvs:List (κ × V)) (k:κ):Option V:=(kvs.find? fun kv=>decide (kv.1=k)).map (·.2)
def putK (kvs:List (κ × V)) (k:κ) (v:V):List (κ × V):=
 if (kvs.any fun kv=>decide (kv.1=k))=true then kvs.map (fun kv=>if kv.1=k then (kv.1,v) else kv) else kvs++[(k,v)]
theorem valV_nil {k:κ}:valV ([]:List (κ × V)) k=none:=rfl
theorem valV_pos {p:κ × V} {r:List (κ × V)} {k:κ} (e:p.1=k):valV (p::r) k=some p.2:=by simp [valV,List.find?_cons,e]
theorem valV_neg {p:κ × V} {r:List (κ × V)} {k:κ} (e:¬ p.1=k):valV (p::r) k=valV r k:=by simp [valV,List.find?_cons,e]
theorem valV_any (k:κ):∀ kvs:List (κ × V),(kvs.any fun kv=>decide (kv.1=k))=(valV kvs k).isSome
 | []=>rfl
 | p::r=>by
  rw [List.any_cons]
  by_cases e:p.1=k
  ·simp only [valV_pos e,decide_eq_true e,Bool.true_or,Option.isSome_some]
  ·rw [valV_neg e,decide_eq_false e,Bool.false_or];exact valV_any k r
theorem valV_map (k j:κ) (y:V):∀ kvs:List (κ × V),valV (kvs.map fun kv=>if kv.1=k then (kv.1,y) else kv) j=(valV kvs j).map fun x=>if j=k then y else x
 | []=>rfl
 | p::r=>by
  have ih:=valV_map k j y r
  rw [List.map_cons]
  by_cases h:p.1=k
  ·rw [if_pos h]
   by_cases e:p.1=j
   ·rw [valV_pos (p:=(p.1,y)) e,valV_pos e,Option.map_some,if_pos (e.symm.trans h)]
   ·rw [valV_neg (p:=(p.1,y)) e,valV_neg e,ih]
  ·rw [if_neg h]
   by_cases e:p.1=j
   ·rw [valV_pos (p:=p) e,valV_pos e,Option.map_some,if_neg (fun z=>h (e.trans z))]
   ·rw [valV_neg (p:=p) e,valV_neg e,ih]
theorem valV_snoc (k j:κ) (y:V):∀ kvs:List (κ × V),valV kvs k=none→valV (kvs++[(k,y)]) j=if j=k then some y else valV kvs j
 | [],_=>by
  by_cases e:k=j
  ·rw [if_pos e.symm];exact valV_pos (p:=(k,y)) e
  ·rw [if_neg (fun z=>e z.symm)];exact valV_neg (p:=(k,y)) e
 | p::r,hn=>by
  rw [List.cons_append]
  have hk:¬ p.1=k:=fun z=>by rw [valV_pos z] at hn;cases hn
  rw [valV_neg hk] at hn
  have ih:=valV_snoc k j y r hn
  by_cases e:p.1=j
  ·rw [valV_pos e,valV_pos e,if_neg (fun z=>hk (e.trans z))]
  ·rw [valV_neg e,valV_neg e,ih]
theorem valV_put (kvs:List (κ × V)) (k j:κ) (y:V):valV (putK kvs k y) j=if j=k then some y else valV kvs j:=by
 unfold putK
 by_cases a:(kvs.any fun kv=>decide (kv.1=k))=true
 ·rw [if_pos a,valV_map]
  rw [valV_any] at a
  by_cases e:j=k
  ·obtain ⟨x,hx⟩:=Option.isSome_iff_exists.mp a
   rw [if_pos e,e,hx,Option.map_some,if_pos rfl]
  ·rw [if_neg e]
   cases valV kvs j with
   | none=>rfl
   | some x=>rw [Option.map_some,if_neg e]
 ·rw [if_neg a]
  refine valV_snoc k j y kvs ?_
  rw [valV_any] at a
  cases q:valV kvs k with
  | none=>rfl
  | some x=>rw [q] at a;exact (a rfl).elim
theorem length_putK (kvs:List (κ × V)) (k:κ) (v:V):(putK kvs k v).length≤kvs.length+1:=by
 unfold putK
 split
 ·rw [List.length_map];omega
 ·rw [List.length_append,List.length_cons,List.length_nil];omega
theorem putK_new {kvs:List (κ × V)} {k:κ} (v:V) (h:valV kvs k=none):putK kvs k v=kvs++[(k,v)]:=by
 unfold putK
 rw [valV_any,h]
 exact if_neg (by decide)
theorem RelO.isSome_eq {o:Option V} {u:Option Value} (r:RelO o u):o.isSome=u.isSome:=by
 cases o with
 | none=>cases u with
  | none=>rfl
  | some _=>exact (show False from r).elim
 | some _=>cases u with
  | none=>exact (show False from r).elim
  | some _=>rfl
theorem KV.val {kvs:List (κ × V)} {vs:List (κ × Value)} (r:KV kvs vs) (k:κ):RelO (valV kvs k) (valueAt vs k):=by
 unfold KV at r
 induction r with
 | nil=>exact True.intro
 | @cons p q ps qs h t ih=>
  obtain ⟨h1,h2⟩:=h
  by_cases e:p.1=k
  ·have e':q.1=k:=h1.symm.trans e
   have b:valueAt (q::qs) k=some q.2:=by simp [valueAt,List.find?_cons,e']
   rw [valV_pos e,b];exact h2
  ·have e':¬ q.1=k:=fun z=>e (h1.trans z)
   have b:valueAt (q::qs) k=valueAt qs k:=by simp [valueAt,List.find?_cons,e']
   rw [valV_neg e,b];exact ih
theorem KV.any {kvs:List (κ × V)} {vs:List (κ × Value)} (r:KV kvs vs) (k:κ):(kvs.any fun kv=>decide (kv.1=k))=vs.any fun kv=>decide (kv.1=k):=by
 unfold KV at r
 induction r with
 | nil=>rfl
 | cons h t ih=>rw [List.any_cons,List.any_cons,ih,h.1]
theorem KV.repl {kvs:List (κ × V)} {vs:List (κ × Value)} (r:KV kvs vs) (k:κ) {y:V} {u:Value} (ry:RelV y u) :
  KV (kvs.map fun kv=>if kv.1=k then (kv.1,y) else kv) (vs.map fun kv=>if kv.1=k then (kv.1,u) else kv):=by
 unfold KV at r ⊢
 induction r with
 | nil=>exact .nil
 | @cons p q ps qs h t ih=>
  rw [List.map_cons,List.map_cons]
  refine .cons ?_ ih
  obtain ⟨h1,h2⟩:=h
  by_cases e:p.1=k
  ·rw [if_pos e,if_pos (h1.symm.trans e)];exact ⟨h1,ry⟩
  ·rw [if_neg e,if_neg (fun z=>e (h1.trans z))];exact ⟨h1,h2⟩
theorem KV.put {kvs:List (κ × V)} {vs:List (κ × Value)} (r:KV kvs vs) (k:κ) {y:V} {u:Value} (ry:RelV y u):KV (putK kvs k y) (stored vs k u):=by
 unfold putK stored
 rw [r.any k]
 by_cases e:(vs.any fun kv=>decide (kv.1=k))=true
 ·rw [if_pos e,if_pos e];exact r.repl k ry
 ·rw [if_neg e,if_neg e];exact Paired.snoc r ⟨rfl,ry⟩
theorem KV.length {kvs:List (κ × V)} {vs:List (κ × Value)} (r:KV kvs vs):kvs.length=vs.length:=Paired.length r
end
theorem kV_is {P:Program} {w:World} {k:Key} {u:Value} (r:RelV (kV k) u):(mixKind P w).is k u=true:=by
 cases k with
 | inl i=>obtain ⟨t,e⟩:=(show ∃ t,u=Value.int i t from r);subst e;exact mixKind_int P w i t
 | inr x=>obtain ⟨t,e⟩:=(show ∃ t,u=Value.str x t from r);subst e;exact mixKind_str P w x t
theorem items_are {P:Program} {w:World}:∀ {ks:List Key} {us:List Value},Vals (ks.map kV) us→ItemsAre (mixKind P w) ks us
 | [],_,r=>by rw [List.map_nil] at r;cases r;exact .nil
 | k::ks,_,r=>by
  rw [List.map_cons] at r
  cases r with
  | cons h t=>exact .cons (kV_is h) (items_are t)
abbrev KT (H:Hp):List (List Key × V)→List (List Key × Addr × Value)→Prop:=Paired fun p q=>p.1=q.1∧H q.2.1=some (.tup (p.1.map kV))∧RelV p.2 q.2.2
theorem KT.val {H:Hp} {kvs:List (List Key × V)} {xs:List (List Key × Addr × Value)} (r:KT H kvs xs) (k:List Key):RelO (valV kvs k) ((atKey xs k).map (·.2)):=by
 induction r with
 | nil=>exact True.intro
 | @cons p q ps qs h t ih=>
  obtain ⟨h1,_,h2⟩:=h
  by_cases e:p.1=k
  ·have e':q.1=k:=h1.symm.trans e
   have b:atKey (q::qs) k=some q.2:=by simp [atKey,List.find?_cons,e']
   rw [valV_pos e,b];exact h2
  ·have e':¬ q.1=k:=fun z=>e (h1.trans z)
   have b:atKey (q::qs) k=atKey qs k:=by simp [atKey,List.find?_cons,e']
   rw [valV_neg e,b];exact ih
theorem KT.repl {H:Hp} {kvs:List (List Key × V)} {xs:List (List Key × Addr × Value)} (r:KT H kvs xs) (k:List Key) {y:V} {u:Value} (ry:RelV y u) :
  KT H (kvs.map fun kv=>if kv.1=k then (kv.1,y) else kv) (xs.map (putAt k u)):=by
 induction r with
 | nil=>exact .nil
 | @cons p q ps qs h t ih=>
  rw [List.map_cons,List.map_cons]
  refine .cons ?_ ih
  obtain ⟨h1,h2,h3⟩:=h
  unfold putAt
  by_cases e:p.1=k
  ·rw [if_pos e,if_pos (h1.symm.trans e)];exact ⟨h1,h2,ry⟩
  ·rw [if_neg e,if_neg (fun z=>e (h1.trans z))];exact ⟨h1,h2,h3⟩
theorem KT.put {H:Hp} {kvs:List (List Key × V)} {xs:List (List Key × Addr × Value)} (r:KT H kvs xs) (k:List Key) {b:Addr} {y:V} {u:Value} (hb:H b=some (.tup (k.map kV))) (ry:RelV y u) :
  KT H (putK kvs k y) (storedH xs k b u):=by
 have e:(kvs.any fun kv=>decide (kv.1=k))=(atKey xs k).isSome:=by
  rw [valV_any,(r.val k).isSome_eq,Option.isSome_map]
 unfold putK storedH
 rw [e]
 by_cases q:(atKey xs k).isSome=true
 ·rw [if_pos q,if_pos q];exact r.repl k ry
 ·rw [if_neg q,if_neg q];exact Paired.snoc r ⟨rfl,hb,ry⟩
theorem KT.keeps {H H':Hp} {kvs:List (List Key × V)} {xs:List (List Key × Addr × Value)} (r:KT H kvs xs) (ht:∀ b ys,H b=some (.tup ys)→H' b=some (.tup ys)):KT H' kvs xs:=
 Paired.mapP r fun _ _ z=>⟨z.1,ht _ _ z.2.1,z.2.2⟩
section
variable {P:Program} {w:World} {H:Hp} {h:Heap} {a:Addr}
theorem rd_of {u:HO} (ok:HOk P w H h) (e:Rd H a u):ObjOk P w H h a u:=e.ok ok
theorem dk_rd {kvs:List (Key × V)} (ok:HOk P w H h) (e:Rd H a (.dK kvs)):kvs.length≤sizeLine∧(a == sysModules)=false∧∃ vs,KV kvs vs∧h.DictOf (mixKind P w) a vs:=
 show ObjOk P w H h a (.dK kvs) from rd_of ok e
theorem dk_of {kvs:List (Key × V)} (ok:HOk P w H h) (e:H a=some (.dK kvs)):kvs.length≤sizeLine∧(a == sysModules)=false∧∃ vs,KV kvs vs∧h.DictOf (mixKind P w) a vs:=dk_rd ok (.inl e)
theorem key_of {ks:List Key} (ok:HOk P w H h) (e:H a=some (.tup (ks.map kV))):(tupleKind (mixKind P w)).is h ks a:=by
 obtain ⟨_,its,r,o,h1,h2,n,h3⟩:=(show ObjOk P w H h a (.tup (ks.map kV)) from ok a _ e)
 exact ⟨o,its.toArray,n,h1,h2,h3,by simpa using items_are r⟩
theorem dt_rd {kvs:List (List Key × V)} (ok:HOk P w H h) (e:Rd H a (.dT kvs)):kvs.length≤sizeLine∧(a == sysModules)=false∧
  ∃ xs,KT H kvs xs∧h.DictOfH (tupleKind (mixKind P w)) a xs:=by
 obtain ⟨z,y,xs,r,o,es,ep,h1,h2,h3,h4,h5⟩:=(show ObjOk P w H h a (.dT kvs) from rd_of ok e)
 refine ⟨z,y,xs,r,o,es,ep,h1,h2,h3,h4,fun x hx=>?_,h5⟩
 have all:∀ {l:List (List Key × V)} {m:List (List Key × Addr × Value)},KT H l m→∀ x∈m,(tupleKind (mixKind P w)).is h x.1 x.2.1:=by
  intro l m q
  induction q with
  | nil=>intro x hx;exact nomatch hx
  | @cons p q ps qs hq t ih=>
   intro x hx
   rcases List.mem_cons.mp hx with e | hx
   ·subst e
    exact key_of ok (by rw [← hq.1];exact hq.2.1)
   ·exact ih x hx
 exact all r x hx
theorem dt_of {kvs:List (List Key × V)} (ok:HOk P w H h) (e:H a=some (.dT kvs)):kvs.length≤sizeLine∧(a == sysModules)=false∧
  ∃ xs,KT H kvs xs∧h.DictOfH (tupleKind (mixKind P w)) a xs:=dt_rd ok (.inl e)
end
def DGet (H:Hp) (a:Addr) (y:V) (r:Option V):Prop:=
 (∃ kvs k,Rd H a (.dK kvs)∧y=kV k∧r=valV kvs k)∨∃ kvs k b,Rd H a (.dT kvs)∧y=.ref b∧H b=some (.tup (k.map kV))∧r=valV kvs k
def DPut (H:Hp) (a:Addr) (y v:V) (H':Hp):Prop:=
 (∃ kvs k,H a=some (.dK kvs)∧y=kV k∧kvs.length < sizeLine∧H'=upd H a (.dK (putK kvs k v)))∨
 ∃ kvs k b,H a=some (.dT kvs)∧y=.ref b∧H b=some (.tup (k.map kV))∧kvs.length < sizeLine∧H'=upd H a (.dT (putK kvs k v))
theorem DGet.k {H:Hp} {a:Addr} {kvs:List (Key × V)} {k:Key} (e:H a=some (.dK kvs)):DGet H a (kV k) (valV kvs k):=.inl ⟨kvs,k,.inl e,rfl,rfl⟩
theorem DPut.k {H:Hp} {a:Addr} {kvs:List (Key × V)} {k:Key} {v:V} (e:H a=some (.dK kvs)) (hl:kvs.length < sizeLine):DPut H a (kV k) v (upd H a (.dK (putK kvs k v))):=.inl ⟨kvs,k,e,rfl,hl,rfl⟩
section
variable {X:Cx} {pins:List (Addr × Obj)} {σ:St} {H:Hp} {s:Shared} {a:Addr} {y v:V} {u r:Value} {o:Option V} {A:Around} {E:Value→Shared→Prop}
theorem Inv.big (I:Inv X pins σ H s):sysModules < s.heap.objs.size:=by
 have h:mainGlobals < s.heap.objs.size:=(I.mod.glob.keeps I.bk).lt
 exact Nat.lt_trans (by decide) h
theorem d_getItem {Q:Value→Shared→Prop} (hu:A.units+1 < cLine) (I:Inv X pins σ H s) (g:DGet H a y (some v)) (ry:RelV y u) (h:∀ w' s',Inv X pins σ H s'→RelV v w'→Q w' s') :
  wpAny (model X.prog X.w) A (getItem (.ref a) u) Q E s:=by
 rcases g with ⟨kvs,k,e,ey,l⟩ | ⟨kvs,k,b,e,ey,eb,l⟩
 ·subst ey
  obtain ⟨z,hd,vs,rel,dd⟩:=dk_rd I.hok e
  obtain ⟨w',hw,rw'⟩:=RelO.some_of (v:=v) (o:=valueAt vs k) (by rw [l];exact rel.val k)
  exact wpAny_getItem_of (kV_is ry) dd.mapOf hw (h w' _ (I.tok _) rw')
 ·subst ey
  cases (show u=Value.ref b from ry)
  obtain ⟨z,hd,xs,rel,dd⟩:=dt_rd I.hok e
  obtain ⟨w',hw,rw'⟩:=RelO.some_of (v:=v) (o:=(atKey xs k).map (·.2)) (by rw [l];exact rel.val k)
  obtain ⟨p,hp,hp2⟩:=Option.map_eq_some_iff.mp hw
  refine wpAny_getItem_heap (tupleKind_room_in1 hu) (key_of I.hok eb) dd hp ?_
  rw [hp2]
  exact h w' _ (I.tok _) rw'
theorem d_notIn {Q:Value→Shared→Prop} (hu:A.units+1 < cLine) (I:Inv X pins σ H s) (g:DGet H a y o) (ry:RelV y u) (h:∀ s',Inv X pins σ H s'→Q (.bool (!o.isSome)) s') :
  wpAny (model X.prog X.w) A (compareOp .NotIn u (.ref a)) Q E s:=by
 rcases g with ⟨kvs,k,e,ey,l⟩ | ⟨kvs,k,b,e,ey,eb,l⟩
 ·subst ey
  obtain ⟨z,hd,vs,rel,dd⟩:=dk_rd I.hok e
  refine wpAny_notIn_of (kV_is ry) hd dd.mapOf ?_
  rw [← (rel.val k).isSome_eq,← l]
  exact h _ (I.tok _)
 ·subst ey
  cases (show u=Value.ref b from ry)
  obtain ⟨z,hd,xs,rel,dd⟩:=dt_rd I.hok e
  refine wpAny_notIn_heap (tupleKind_room_in1 hu) (key_of I.hok eb) hd dd ?_
  have q:=(rel.val k).isSome_eq
  rw [Option.isSome_map] at q
  rw [← q,← l]
  exact h _ (I.tok _)
theorem d_write {h':Heap} {t':Nat} {ob:HO} (I:Inv X pins σ H s) (mu:Mut (H a)) (hs:Heap.SameBut a s.heap h') (he:∃ q,h'.get? a=some q) (new:ObjOk X.prog X.w (upd H a ob) h' a ob) :
  Inv X pins σ (upd H a ob) { s with heap:=h',toks:=t' }:=
 I.write (x:=a) (e:=a) mu (.inl rfl) (fun b q hb z=>(hs.2 b hb).trans z) he new
theorem dk_new {P:Program} {w:World} {H':Hp} {h':Heap} {kvs:List (Key × V)} {vs:List (Key × Value)} (z:kvs.length≤sizeLine) (hd:(a == sysModules)=false) (rel:KV kvs vs) (dd:h'.DictOf (mixKind P w) a vs) :
  ObjOk P w H' h' a (.dK kvs):=⟨z,hd,vs,rel,dd⟩
theorem d_setItem {H':Hp} {Q:Unit→Shared→Prop} (hu:A.units+1 < cLine) (I:Inv X pins σ H s) (g:DPut H a y v H') (ry:RelV y u) (rv:RelV v r) (h:∀ s',Inv X pins σ H' s'→Q () s') :
  wpAny (model X.prog X.w) A (setItem (.ref a) u r) Q E s:=by
 rcases g with ⟨kvs,k,e,ey,l,eH⟩ | ⟨kvs,k,b,e,ey,eb,l,eH⟩
 ·subst ey eH
  obtain ⟨z,hd,vs,rel,dd⟩:=dk_of I.hok e
  have hz:vs.length≤sizeLine:=by rw [← rel.length];exact z
  have hl:(putK kvs k v).length≤sizeLine:=by have:=length_putK kvs k v;omega
  refine wpAny_setItem_pairs (hsz:=hz) (kV_is ry) dd fun h' dd' hs=>h _ ?_
  have he:∃ q,h'.get? a=some q:=let ⟨q,_,_,hq,_⟩:=dd';⟨q,hq⟩
  exact d_write I (by rw [e];exact True.intro) hs he (dk_new hl hd (rel.put k rv) dd')
 ·subst ey eH
  cases (show u=Value.ref b from ry)
  obtain ⟨z,hd,xs,rel,dd⟩:=dt_of I.hok e
  have hz:xs.length≤sizeLine:=by rw [← Paired.length rel];exact z
  have hl:(putK kvs k v).length≤sizeLine:=by have:=length_putK kvs k v;omega
  refine wpAny_setItem_heap (hsz:=hz) (tupleKind_room_in1 hu) (key_of I.hok eb) dd fun h' dd' hs=>h _ ?_
  obtain ⟨q,es,ep,hq,h2,h3,h4,_,h5⟩:=dd'
  refine d_write I (by rw [e];exact True.intro) hs ⟨q,hq⟩ ⟨hl,hd,_,(rel.put k eb rv).keeps fun c ys ec=>?_,q,es,ep,hq,h2,h3,h4,h5⟩
  rw [upd_ne (ne_of ec e (fun z=>nomatch z))]
  exact ec
end
section
variable {X:Cx} {pins:List (Addr × Obj)} {σ:St} {H:Hp} {s:Shared} {a:Addr} {kvs:List (Key × V)} {k:Key} {u:Value} {A:Around} {E:Value→Shared→Prop}
end
def NoSl (i:Expr):Prop:=∀ ov iv,subscripted i false ov iv=operate [ov,iv] (getItem ov iv)
theorem subD_of {prog:Program} {w:World} {A:Around} {E:Value→Shared→Prop} {s:Shared} {env:Env} {value slice:Expr} {pos:Pos} {T id:String} {Q:Value→Shared→Prop}
  (hl:typeLookup (.type T) "__getitem__" = pure (some (.builtin id))) (hs:NoSl slice)
  (h:wpAny (model prog w) A (eval value env) (fun o s₁=>wpAny (model prog w) A (eval slice env) (fun i s₂=>s₂.TypeIs o T∧wpAny (model prog w) A (getItem o i) Q E s₂) E s₁) E s) :
  wpAny (model prog w) A (eval (.Subscript value slice pos) env) Q E s:=by
 refine Subscript_ (wpAny_mono h (fun o s₁ h₁=>wpAny_mono h₁ (fun i s₂ h₂=>?_) fun _ _ x=>x) fun _ _ x=>x)
 obtain ⟨hT,h₂⟩:=h₂
 unfold subscriptTail
 refine wpAny_bind ?_
 rw [getitemInPython_of_ne hT.not_modules]
 refine wpAny_bind (wpAny_specialOf hT hl ?_)
 have fin:wpAny (model prog w) A (subscripted slice false o i) (fun r s₃=>wpAny (model prog w) A (letTemporaryGo value o r >>= fun _=>pure r) Q E s₃) E s₂:=by
  rw [hs o i]
  exact wpAny_operating (wpAny_mono h₂ (fun r s₃ h₃=>wpAny_bind (wpAny_letTemporaryGo (wpAny_pure h₃))) fun _ _ x=>x)
 first
  | exact wpAny_pure (wpAny_bind fin)
  | exact wpAny_bind (wpAny_pure (wpAny_bind fin))
  | exact wpAny_bind fin
theorem dict_typeIs {X:Cx} {pins:List (Addr × Obj)} {σ:St} {H:Hp} {s:Shared} {a:Addr} {y:V} {o:Option V} (I:Inv X pins σ H s) (g:DGet H a y o):s.TypeIs (.ref a) "dict" := by
 rcases g with ⟨kvs,k,e,_,_⟩ | ⟨kvs,k,b,e,_,_,_⟩
 ·obtain ⟨_,_,vs,_,dd⟩:=dk_rd I.hok e
  exact dd.typeIs
 ·obtain ⟨_,_,xs,_,dd⟩:=dt_rd I.hok e
  exact dd.typeIs
def tDGet (td ty:TE):TE:=fun σ H Q=>td σ H fun x H1=>ty σ H1 fun y H2=>∃ a v,x=.ref a∧DGet H2 a y (some v)∧Q v H2
def tDNotIn (ty td:TE):TE:=fun σ H Q=>ty σ H fun y H1=>td σ H1 fun x H2=>∃ a o,x=.ref a∧DGet H2 a y o∧Q (.bl (!o.isSome)) H2
def sDPut (td ty tv:TE):TS:=fun D σ H=>tv σ H fun v H1=>td σ H1 fun x H2=>ty σ H2 fun y H3=>∃ a H4,x=.ref a∧DPut H3 a y v H4∧D.nx σ H4
section
variable {X:Cx} {o i e value:Expr} {pos pos' tpos:Pos} {td ty tv:TE}
theorem pe_dget (hu:X.A.units+1 < cLine) (ho:PE X o td) (hi:PE X i ty) (hs:NoSl i):PE X (.Subscript o i pos) (tDGet td ty):=by
 intro pins s σ H Q I h
 refine subD_of PySem.F.slot_dict_getitem.lookup hs (thn (ho pins s σ H _ I h) fun u s1 ⟨x,H1,I1,rx,q1⟩=>thn (hi pins s1 σ H1 _ I1 q1) fun iv s2 ⟨y,H2,I2,ry,a,v,ex,g,q2⟩=>?_)
 subst ex
 obtain rfl:u=Value.ref a:=rx
 exact ⟨dict_typeIs I2 g,d_getItem hu I2 g ry fun w' s3 I3 rw'=>⟨v,H2,I3,rw',q2⟩⟩
theorem pc_dnotin (hu:X.A.units+1 < cLine) (hi:PE X i ty) (ho:PE X o td):PC X .NotIn i o (tDNotIn ty td):=by
 intro pins s σ H Q I h
 refine thn (hi pins s σ H _ I h) fun iv s1 ⟨y,H1,I1,ry,q1⟩=>thn (ho pins s1 σ H1 _ I1 q1) fun u s2 ⟨x,H2,I2,rx,a,ov,ex,g,q2⟩=>?_
 subst ex
 obtain rfl:u=Value.ref a:=rx
 exact d_notIn hu I2 g ry fun s3 I3=>⟨.bl (!ov.isSome),H2,I3,rfl,q2⟩
theorem ps_dput (hu:X.A.units+1 < cLine) (ho:PE X o td) (hi:PE X i ty) (hv:PE X value tv) (hs:swapsWith value (some (.Subscript o i pos')) pos.line X.env=pure false) :
  PS X (.Assign [.Subscript o i pos'] value pos) (sDPut td ty tv):=by
 intro pins s σ H D I h
 refine wpAny_Assign_Subscript (thn (hv pins s σ H _ I h) fun r s1 ⟨v,H1,I1,rv,q1⟩=>thn (ho pins s1 σ H1 _ I1 q1) fun u s2 ⟨x,H2,I2,rx,q2⟩=>thn (hi pins s2 σ H2 _ I2 q2) fun iv s3 ⟨y,H3,I3,ry,a,H4,ex,g,q3⟩=>?_) hs
 subst ex
 obtain rfl:u=Value.ref a:=rx
 exact d_setItem hu I3 g ry rv fun s4 I4=>⟨σ,H4,I4,q3⟩
end
theorem dk_empty {P:Program} {w:World} {H:Hp} (h:Heap) (hb:sysModules < h.objs.size):ObjOk P w H (h.push { cls:=.type "dict",data:=.dict #[] }) h.objs.size (.dK []):=
 ⟨Nat.zero_le _,beq_eq_false_iff_ne.mpr (Ne.symm (Nat.ne_of_lt hb)),[],.nil,Heap.DictOf.new h⟩
section
variable {X:Cx} {pos:Pos}
end
def tPairs:List (TE × TE)→St→Hp→(List (V × V)→Hp→Prop)→Prop
 | [],_,H,Q=>Q [] H
 | (tk,tv)::r,σ,H,Q=>tk σ H fun x H1=>tv σ H1 fun y H2=>tPairs r σ H2 fun ps H3=>Q ((x,y)::ps) H3
abbrev VV:List (V × V)→List (Value × Value)→Prop:=Paired fun p q=>RelV p.1 q.1∧RelV p.2 q.2
def PPs (X:Cx) (pos:Pos) (keys:List (Option Expr)) (values:List Expr) (trs:List (TE × TE)):Prop:=
 ∀ (pins:List (Addr × Obj)) (s:Shared) (σ:St) (H:Hp) (Q:List (V × V)→Hp→Prop),Inv X pins σ H s→tPairs trs σ H Q→
  wpAny (model X.prog X.w) X.A (evalPairs (pairTrees keys values X.env pos)) (fun vs s'=>∃ ps H',Inv X pins σ H' s'∧VV ps vs∧Q ps H') X.xe s
theorem pps_nil {X:Cx} {pos:Pos}:PPs X pos [] [] []:=fun pins s σ H Q I h=>pairTrees_nil_walk ⟨[],H,I,.nil,h⟩
theorem pps_cons {X:Cx} {pos:Pos} {k v:Expr} {ks:List (Option Expr)} {vs:List Expr} {tk tv:TE} {trs:List (TE × TE)} (hk:PE X k tk) (hv:PE X v tv) (hr:PPs X pos ks vs trs) :
  PPs X pos (some k::ks) (v::vs) ((tk,tv)::trs):=fun pins s σ H Q I h=>
 pairTrees_cons_walk (thn (hk pins s σ H _ I h) fun u s1 ⟨x,H1,I1,rx,q1⟩=>thn (hv pins s1 σ H1 _ I1 q1) fun w2 s2 ⟨y,H2,I2,ry,q2⟩=>
  thn (hr pins s2 σ H2 _ I2 q2) fun ws s3 ⟨ps,H3,I3,rel,q3⟩=>⟨(x,y)::ps,H3,I3,.cons ⟨rx,ry⟩ rel,q3⟩)
def mergeK (kvs more:List (Key × V)):List (Key × V):=more.foldl (fun acc kv=>putK acc kv.1 kv.2) kvs
theorem KV.merge:∀ {more:List (Key × V)} {rs:List (Key × Value)} {kvs:List (Key × V)} {vs:List (Key × Value)},KV more rs→KV kvs vs→KV (mergeK kvs more) (merged vs rs):=by
 intro more rs kvs vs r
 unfold KV at r
 induction r generalizing kvs vs with
 | nil=>intro q;exact q
 | @cons p q ps qs h t ih=>
  intro r0
  have e:KV (putK kvs p.1 p.2) (stored vs q.1 q.2):=by
   have:=r0.put p.1 h.2
   rw [← h.1];exact this
  exact ih e
theorem length_mergeK:∀ (more kvs:List (Key × V)),(mergeK kvs more).length≤kvs.length+more.length
 | [],kvs=>by show kvs.length≤kvs.length+0;omega
 | p::r,kvs=>by
  have h1:=length_mergeK r (putK kvs p.1 p.2)
  have h2:=length_putK kvs p.1 p.2
  show (mergeK (putK kvs p.1 p.2) r).length≤_
  rw [List.length_cons];omega
theorem carries_of {P:Program} {w:World}:∀ {kvs:List (Key × V)} {ws:List (Value × Value)},VV (kvs.map fun kv=>(kV kv.1,kv.2)) ws→∃ rs,Carries (mixKind P w) ws rs∧KV kvs rs
 | [],_,r=>by rw [List.map_nil] at r;cases r;exact ⟨[],True.intro,.nil⟩
 | p::kvs,_,r=>by
  rw [List.map_cons] at r
  cases r with
  | @cons a b as bs h t=>
   obtain ⟨rs,c,q⟩:=carries_of (P:=P) (w:=w) t
   obtain ⟨b1,b2⟩:=b
   exact ⟨(p.1,b2)::rs,⟨kV_is h.1,rfl,c⟩,.cons ⟨rfl,h.2⟩ q⟩
def tDisp (trs:List (TE × TE)):TE:=fun σ H Q=>∀ p,H p=none→tPairs trs σ (upd H p (.dK [])) fun ps H2=>H2 p=some (.dK [])∧∃ kvs:List (Key × V),ps=kvs.map (fun kv=>(kV kv.1,kv.2))∧kvs.length≤15∧Q (.ref p) (upd H2 p (.dK (mergeK [] kvs)))
theorem pe_disp {X:Cx} {pos:Pos} {keys:List (Option Expr)} {values:List Expr} {trs:List (TE × TE)} (h:PPs X pos keys values trs) (hall:keys.all (·.isSome)=true) (hl:keys.length=values.length) (h0:keys≠[])
  (h15:keys.length≤15):PE X (.Dict keys values pos) (tDisp trs):=by
 intro pins s σ H Q I q
 have hn:=I.hok.fresh (Nat.le_refl s.heap.objs.size)
 have I1:=I.laid (a:=s.heap.objs.size) (o:=.dK []) (h':=s.heap.push { cls:=.type "dict",data:=.dict #[] }) (t':=s.toks) (fun _ _ q=>Heap.get?_push_of_some _ q) (Nat.le_refl _) (dk_empty s.heap I.big)
 refine wpAny_Dict_walk (knd:=mixKind X.prog X.w) hall hl h0 h15 (thn (h pins _ σ _ _ I1 (q _ hn)) fun ws s2 ⟨ps,H2,I2,rel,e,kvs,ep,lk,q2⟩=>?_)
 subst ep
 obtain ⟨rs,c,rk⟩:=carries_of (P:=X.prog) (w:=X.w) rel
 obtain ⟨z,hd,vs0,r0,dd⟩:=dk_of I2.hok e
 cases r0
 refine ⟨rs,c,dd,fun h' dd' hs=>⟨.ref s.heap.objs.size,_,?_,rfl,q2⟩⟩
 have hz:(mergeK [] kvs).length≤sizeLine:=by
  have h1:=length_mergeK kvs []
  rw [List.length_nil] at h1
  rw [sizeLine_eq];omega
 have he:∃ q,h'.get? s.heap.objs.size=some q:=let ⟨q,_,_,hq,_⟩:=dd';⟨q,hq⟩
 exact d_write I2 (by rw [e];exact True.intro) hs he (dk_new hz hd (rk.merge .nil) dd')
section
variable {X:Cx} {pins:List (Addr × Obj)} {σ:St} {H:Hp} {s:Shared} {a:Addr} {y d:V} {u r:Value} {o:Option V} {A:Around} {E:Value→Shared→Prop}
end
section
variable {X:Cx} {o e f:Expr} {apos cpos:Pos} {td ty tx:TE}
end
section
variable {X:Cx} {pins:List (Addr × Obj)} {σ:St} {H:Hp} {s:Shared} {a:Addr} {kvs:List (Key × V)} {A:Around} {E:Value→Shared→Prop}
end
section
variable {X:Cx} {pins:List (Addr × Obj)} {σ:St} {H:Hp} {s:Shared} {a:Addr} {y:V} {u:Value} {A:Around} {E:Value→Shared→Prop}
end
end L2
namespace L2
open PySem PySem.Spec PyProof.Rows XL PySem.Calls
open Sem (wp)
theorem nolen_rev:typeLookup (.type "list_reverseiterator") "__len__" = pure none:=by rw [typeLookup_type,builtinLookup_eq_fast];kernel_rfl
theorem hint_rev:typeLookup (.type "list_reverseiterator") "__length_hint__" = pure (some (.builtin "list_reverseiterator.__length_hint__")):=by rw [typeLookup_type,builtinLookup_eq_fast];kernel_rfl
section
variable {prog:Program} {w:World} {A:Around} {E:Value→Shared→Prop} {s:Shared}
theorem rev_hint {r:Addr} {Q:Bool→Shared→Prop} (hT:s.TypeIs (.ref r) "list_reverseiterator") (h:Q false s):wpAny (model prog w) A (Builtin.List.listLengthHint (.ref r)) Q E s:=by
 unfold Builtin.List.listLengthHint
 refine wpAny_bind (wpAny_specialOf hT nolen_rev ?_)
 show wpAny _ A (specialOf (Value.ref r) (Str.ofString "__length_hint__") >>= _) _ _ _
 refine wpAny_bind (wpAny_specialOf hT hint_rev ?_)
 generalize hid:("list_reverseiterator.__length_hint__" : String)=id0
 wp_delta
 rw [show splitId id0=some ("list_reverseiterator", "__length_hint__") from by subst hid;decide +kernel]
 subst hid
 refine wpAny_bind (wpAny_isInstance (b:=true) hT (by rw [isSubtype_type];kernel_rfl) ?_)
 exact wpAny_pure h
theorem rev_extend {R:Result→Shared→Prop} {r l:Addr} {items:Array Value} (hh:A.handled=none) (hit:s.heap.IsRevIter r l ((items.size:Int) - 1)) (hl:s.heap.IsList l items) (hrl:l≠r) (S:Addr) (hSr:S≠r) (hSl:S≠l) (res:Value) (c₀:Nat) (hS:s.heap.get? S=some { cls:=.type "list",data:=.seq #[] c₀ })
  (hR:∀ h' tk acc' c',(∀ b o,b≠S→b≠r→s.heap.get? b=some o→h'.get? b=some o)→h'.get? S=some { cls:=.type "list",dict:=none,data:=.seq acc' c',slots:=#[] }→ItemsOf (fun i v=>items[items.size - 1 - i]?=some v) acc' items.size→R (.ok (.ret res)) { s with heap:=h',toks:=tk }) (hn:items.size≤sizeLine) :
  wpAny (model prog w) A.in1 (Builtin.List.listExtendWith (.ref S) (.ref r) res)
   (fun fin s'=>match fin with | .done f=>R (.ok f) s' | .again c'=>c'.quiet=true∧codeAny (model prog w) A c' R s') (fun e s'=>R (.error e) s') s:=by
 have hSf:S ∉ [r,l]:=by simp only [List.mem_cons,List.not_mem_nil,or_false,not_or];exact ⟨hSr,hSl⟩
 have W:=Walks.listRev (prog:=prog) (w:=w) (A:=A.in1) hh r l hrl items
 have st:(fun (i:Nat) (h:Heap)=>i≤items.size∧h.IsRevIter r l ((items.size:Int) - 1 - (i:Int))∧h.IsList l items) 0 s.heap:=⟨Nat.zero_le _,by simpa using hit,hl⟩
 have key:∀ (h:Heap) (c₁ tk:Nat),(fun (i:Nat) (h:Heap)=>i≤items.size∧h.IsRevIter r l ((items.size:Int) - 1 - (i:Int))∧h.IsList l items) 0 h→(∀ b o,b≠S→s.heap.get? b=some o→h.get? b=some o)→
   h.get? S=some { cls:=.type "list",data:=.seq #[] c₁ }→codeAny (model prog w) A (.builtin "list.extend.loop" ⟨[.ref S,.ref r,res],[]⟩) R { s with heap:=h,toks:=tk }:=by
  intro h c₁ tk hst hk hS₁
  refine codeAny_extend_loopS W.toS hn S hSf res items.size 0 _ #[] c₁ rfl (Nat.zero_le _) hst hS₁ (ItemsOf.nil _) fun s' acc' c' hm hS' hacc=>?_
  rw [Moved.eq_with hm]
  refine hR s'.heap s'.toks acc' c' (fun b o hb hb2 e=>hm.heap b o (fun hmem=>?_) (hk b o hb e)) hS' hacc
  rcases List.mem_cons.mp hmem with e' | hmem
  ·exact hb e'
  ·exact hb2 (List.mem_singleton.mp hmem)
 unfold Builtin.List.listExtendWith
 refine wpAny_bind (wpAny_typeOf (T := "list_reverseiterator") hit.typeIs ?_)
 have h1:Builtin.List.listSameRef (.ref S) (.ref r)=false:=by simp [Builtin.List.listSameRef,hSr]
 rw [if_neg (by rw [h1];decide)]
 refine wpAny_bind (W.self 0 _ _ _ st ?_)
 refine wpAny_bind (wpAny_holding (rev_hint hit.typeIs ?_))
 rw [if_neg (by decide)]
 exact wpAny_pure ⟨plainId_quiet PySem.F.plain_extend_loop _,key _ c₀ _ st (fun b o _ e=>e) hS⟩
theorem rev_call {r l:Addr} {items:Array Value} {Q:Value→Shared→Prop} (hh:A.handled=none) (hit:s.heap.IsRevIter r l ((items.size:Int) - 1)) (hl:s.heap.IsList l items) (hrl:l≠r) (hn:items.size≤sizeLine)
  (hQ:∀ h' tk acc' c',(∀ b o,b≠r→s.heap.get? b=some o→h'.get? b=some o)→h'.get? s.heap.objs.size=some { cls:=.type "list",dict:=none,data:=.seq acc' c',slots:=#[] }→ItemsOf (fun i v=>items[items.size - 1 - i]?=some v) acc' items.size→Q (.ref s.heap.objs.size) { s with heap:=h',toks:=tk }) :
  wpAny (model prog w) A (call (.type "list") [.ref r]) Q E s:=by
 refine callType_codes (Q₁:=fun obj s₁=>obj=.ref s.heap.objs.size∧s₁={ s with heap:=s.heap.push { cls:=.type "list",data:=.seq #[] } }) PySem.F.called_list (PySem.F.typeCall_list_1 _) PySem.F.entry_list_init
  (code_list_new _ ⟨rfl,rfl⟩) fun obj s₁ h₁=>?_
 obtain ⟨rfl,rfl⟩:=h₁
 have hS:(s.heap.push { cls:=.type "list",data:=.seq #[] }).get? s.heap.objs.size=some { cls:=.type "list",data:=.seq #[] }:=Heap.get?_push_size _ rfl
 have hr:r < s.heap.objs.size:=by obtain ⟨o,e,_⟩:=hit;exact Heap.lt_size e
 have hl':l < s.heap.objs.size:=by obtain ⟨o,e,_⟩:=hl;exact Heap.lt_size e
 have nr:s.heap.objs.size≠r:=Nat.ne_of_gt hr
 have nl:s.heap.objs.size≠l:=Nat.ne_of_gt hl'
 refine ⟨⟨_,hS,rfl⟩,PySem.F.args_list_init_2 _ _,?_⟩
 show wpAny _ _ (do let old ← Builtin.List.listItems (.ref s.heap.objs.size);Builtin.List.listUpdate (.ref s.heap.objs.size) (fun _=>#[]);letGo old.toList.reverse;Builtin.List.listExtendWith (.ref s.heap.objs.size) (.ref r) .none) _ _ _
 refine wpAny_bind ?_
 unfold Builtin.List.listItems
 refine wpAny_bind (wpAny_seqItems hS rfl (wpAny_pure ?_))
 show wpAny _ _ (updateSeq s.heap.objs.size (fun _=>#[]) >>= fun _=>letGo (#[]:Array Value).toList.reverse >>= fun _=>Builtin.List.listExtendWith (.ref s.heap.objs.size) (.ref r) .none) _ _ _
 refine wpAny_bind (wpAny_updateSeq hS rfl ?_)
 have hS₂:=Heap.get?_update_self (Obj.mapSeq (fun _=>(#[]:Array Value))) hS rfl
 have oth:∀ b o,b≠s.heap.objs.size→(s.heap.push { cls:=.type "list",data:=.seq #[] }).get? b=some o→((s.heap.push { cls:=.type "list",data:=.seq #[] }).update s.heap.objs.size (Obj.mapSeq (fun _=>(#[]:Array Value)))).get? b=some o:=
  fun b o hb e=>(Heap.get?_update_other _ _ (Ne.symm hb)).trans e
 refine wpAny_bind (wpAny_letGo ?_)
 refine rev_extend (A:=A.in1) (items:=items) hh (hit.at fun o e=>oth r o (Ne.symm nr) (Heap.get?_push_of_some _ e)) (hl.at fun o e=>oth l o (Ne.symm nl) (Heap.get?_push_of_some _ e)) hrl _ nr nl .none _ hS₂ (fun h' tk acc' c' hk hS' hacc=>?_) hn
 exact ⟨rfl,hQ h' tk acc' c' (fun b o hb e=>hk b o (Nat.ne_of_lt (Heap.lt_size e)) hb (oth b o (Nat.ne_of_lt (Heap.lt_size e)) (Heap.get?_push_of_some _ e))) hS' hacc⟩
end
theorem rev_vals {zs:List V} {its:List Value} {acc:Array Value} (r:Vals zs its) (h:ItemsOf (fun i v=>its.toArray[its.toArray.size - 1 - i]?=some v) acc its.toArray.size):acc.toList=its.reverse:=by
 obtain ⟨h1,h2⟩:=h
 have h1:acc.size=its.length:=by simpa using h1
 apply List.ext_getElem?
 intro j
 by_cases hj:j < its.length
 ·have hj':j < acc.size:=by omega
  have e:acc[j]?=some acc[j]:=Array.getElem?_eq_getElem hj'
  have q:=h2 j _ e
  rw [List.size_toArray] at q
  have q:its[its.length - 1 - j]?=some acc[j]:=by simpa using q
  rw [List.getElem?_reverse hj,q,Array.getElem?_toList,e]
 ·rw [List.getElem?_eq_none (by simp;omega),List.getElem?_eq_none (by simp;omega)]
theorem Vals.rev {xs:List V} {us:List Value} (h:Vals xs us):Vals xs.reverse us.reverse:=by
 induction h with
 | nil=>exact .nil
 | cons r t ih=>
  rw [List.reverse_cons,List.reverse_cons]
  exact ih.append (.cons r .nil)
theorem boot_rev:bootBuiltins "reversed" = some (.type "reversed"):=by decide +kernel
theorem boot_lst:bootBuiltins "list" = some (.type "list"):=by decide +kernel
theorem pe_listRev {X:Cx} {e:Expr} {te:TE} {p1 p2 pos1 pos2:Pos} (hc:X.calm=true) (hg1:Gl X "list") (hm1:X.mg "list" = none) (hg2:Gl X "reversed") (hm2:X.mg "reversed" = none) (he:PE X e te) (hs:starEach [e] X.env=[(false,eval e X.env)]:=by rfl)
  (hs2:starEach [.Call (.Name "reversed" p2) [e] [] pos2] X.env=[(false,eval (.Call (.Name "reversed" p2) [e] [] pos2) X.env)]:=by rfl) :
  PE X (.Call (.Name "list" p1) [.Call (.Name "reversed" p2) [e] [] pos2] [] pos1) (fun σ H Q=>te σ H fun x H1=>∃ a xs,x=.ref a∧SqL X.K H1 a xs∧∀ d,H1 d=none→Q (.ref d) (upd H1 d (.lst xs.reverse))):=by
 intro pins s σ H Q I h
 refine Call_ (ld_blt I hg1 hm1 boot_lst (PyProof.Rows.callWith_type1 (e:=.Call (.Name "reversed" p2) [e] [] pos2) (rest:=[]) ?_ hs2 rfl))
 rw [hs2]
 show wpAny _ _ (spliced ((false,eval (.Call (.Name "reversed" p2) [e] [] pos2) X.env)::[])) _ _ s
 refine Calls.spliced_cons (Call_ (ld_blt I hg2 hm2 boot_rev (PyProof.Rows.callWith_type1 (e:=e) (rest:=[]) ?_ hs rfl)))
 rw [hs]
 show wpAny _ _ (spliced ((false,eval e X.env)::[])) _ _ s
 refine Calls.spliced_cons (thn (he pins s σ H _ I h) fun u s1 ⟨x,H1,I1,r1,a,xs,ex,hx,q⟩=>?_)
 subst ex
 cases r1
 obtain ⟨its,rv,pl,hz⟩:=I1.list hx
 have hlen:=rv.length
 refine Calls.spliced_nil (call_reversed_list pl.isList ?_)
 refine Calls.spliced_nil ?_
 have I2:Inv X pins σ H1 { s1 with heap:=s1.heap.push (revObj a ((its.toArray.size:Int) - 1)) }:=I1.kept (t':=s1.toks) fun b o e=>Heap.get?_push_of_some _ e
 have hlt:a < s1.heap.objs.size:=by obtain ⟨o,e,_⟩:=pl.isList;exact Heap.lt_size e
 refine rev_call (items:=its.toArray) (I.ok.hd hc) ⟨_,Heap.get?_push_size _ rfl,rfl,rfl⟩ (pl.isList.push _) (Nat.ne_of_lt hlt) (by rw [List.size_toArray];omega) fun h' tk acc' c' hk hS hacc=>?_
 have fr:FpOk X pins H1 s1.heap.objs.size:=I1.fpOk (Nat.le_refl _) I1.fresh
 have I3:Inv X pins σ H1 { s1 with heap:=h',toks:=tk }:=Inv.turnedN (s:={ s1 with heap:=s1.heap.push (revObj a ((its.toArray.size:Int) - 1)) }) (h':=h') (t':=tk) (ch:=[s1.heap.objs.size]) I2 (fun b o hb e=>hk b o (fun z=>hb (by simp [z])) e) (fun b hb=>by
  have e:b=s1.heap.objs.size:=by simpa using hb
  rw [e]
  exact fr)
 have fr2:FpOk X pins H1 (s1.heap.push (revObj a ((its.toArray.size:Int) - 1))).objs.size:=I2.fpOk (Nat.le_refl _) I2.fresh
 obtain ⟨f0,f1,f2,f3,f4,f5⟩:=fr2
 refine ⟨.ref _,_,I3.track (o:=.lst xs.reverse) f0 ?_ f1 f4 f5 ⟨by rw [List.length_reverse];exact hz,its.reverse,c',rv.rev,?_⟩,rfl,q _ f0⟩
 ·cases q:X.s₀.heap.get? (s1.heap.push (revObj a ((its.toArray.size:Int) - 1))).objs.size with
  | none=>rfl
  | some o=>exact absurd (Nat.lt_of_lt_of_le (Heap.lt_size q) I2.sz) (Nat.lt_irrefl _)
 ·rw [← rev_vals rv hacc]
  rw [Array.toArray_toList]
  exact hS
end L2
namespace L2
open PySem PySem.Spec PyProof.Rows XL PySem.Calls PySem.W
end L2
namespace L2
open PySem PySem.Spec PyProof.Rows
def filtR (n:Nat) (p:Nat→Bool):List Int:=((List.range n).filter p).map fun k=>((k:Nat):Int)
theorem filtR_succ (n:Nat) (p:Nat→Bool):filtR (n+1) p=filtR n p++(if p n=true then [(n:Int)] else []):=by
 unfold filtR
 rw [List.range_succ,List.filter_append,List.map_append]
 by_cases h:p n=true
 ·rw [if_pos h,List.filter_cons,if_pos h]
  rfl
 ·rw [if_neg h,List.filter_cons,if_neg h]
  rfl
theorem filtR_len (n:Nat) (p:Nat→Bool):(filtR n p).length≤n:=by
 unfold filtR
 rw [List.length_map]
 exact Nat.le_trans (List.length_filter_le _ _) (by simp)
def tMid (t:TS):TS:=fun D σ H=>∃ M:St→Hp→Prop,(∀ σ' H',M σ' H'→D.nx σ' H')∧t { D with nx:=M } σ H
theorem ps_mid {X:Cx} {st:Stmt} {t:TS} (h:PS X st t):PS X st (tMid t):=by
 rintro pins s σ H D I ⟨M,k,q⟩
 refine thn (h pins s σ H _ I q) fun f s1 z=>?_
 cases f with
 | next=>
  obtain ⟨σ',H',J,m⟩:=z
  exact ⟨σ',H',J,k σ' H' m⟩
 | brk=>exact z
 | cont=>exact z
 | ret u=>exact z
theorem cut_take (xs:List V) (k:Nat):cutV xs none (some (k:Int))=xs.take k:=by
 unfold cutV
 rw [HT.sIx_nat]
 show (xs.drop 0).take (min k xs.length - 0)=_
 rw [List.drop_zero,Nat.sub_zero,← List.take_eq_take_min]
theorem cut_drop (xs:List V) (k:Nat):cutV xs (some (k:Int)) none=xs.drop k:=by
 unfold cutV
 rw [HT.sIx_nat]
 show (xs.drop (min k xs.length)).take (xs.length - min k xs.length)=_
 rw [List.take_of_length_le (by rw [List.length_drop];exact Nat.le_refl _)]
 by_cases h:k≤xs.length
 ·rw [Nat.min_eq_left h]
 ·rw [Nat.min_eq_right (by omega),List.drop_length,List.drop_eq_nil_of_le (by omega)]
theorem comp_gen {J:It} {n:Nat} {H1:Hp} {D:Addr} {g:TG} {te:TE} {k:Nat} {cs:List Nat} {σ:St} {Q:VK} (Pv:Nat→List V→Hp→Prop) (h0:Pv 0 [] (upd H1 D (.lst []))) (hP:∀ i ys H,i < n→Pv i ys H→ys.length < sizeLine)
  (step:∀ i ys H,i < n→Pv i ys H→J.go i H∧∀ (K1:VK),(∀ y H4,H4 D=some (.lst ys)→Pv (i+1) (ys++[y]) (upd H4 D (.lst (ys++[y])))→K1 y H4)→
   ∀ x H',J.yld i H x H'→g x (capv k cs σ) H' fun σ2 H2=>σ2.drop k=cs.map (fun i=>σ.getD i none)∧te σ2 H2 K1)
  (fin:∀ ys H,Pv n ys H→J.stop n H∧Q (.ref D) H):CompW J k cs σ g tNoIf te Q H1 D:=by
 refine ⟨fun i m ys H=>m=n - i∧i≤n∧Pv i ys H,⟨n,by simp,Nat.zero_le _,h0⟩,?_⟩
 rintro i m ys H ⟨rfl,hi,p⟩
 by_cases hlt:i < n
 ·obtain ⟨go,st⟩:=step i ys H hlt p
  refine .inr ⟨go,fun x H' y=>st (fun y H4=>H4 D=some (.lst ys)∧ys.length < sizeLine∧∃ m',m' < n - i∧m'=n - (i+1)∧i+1≤n∧Pv (i+1) (ys++[y]) (upd H4 D (.lst (ys++[y])))) (fun y H4 e q=>?_) x H' y⟩
  exact ⟨e,hP i ys H hlt p,n - (i+1),by omega,rfl,hlt,q⟩
 ·have e:i=n:=by omega
  subst e
  exact .inl (fin ys H p)
end L2
namespace L2
open PySem PySem.Spec PyProof.Rows XL PySem.Calls
open Sem (wp)
theorem vals_from:∀ (l:List Value) (k0:Nat),(∀ i v,l[i]?=some v→∃ t,v=Value.int ((k0+i:Nat):Int) t)→Vals ((List.range' k0 l.length).map fun k=>V.int ((k:Nat):Int)) l
 | [],k0,_=>.nil
 | v::l,k0,h=>by
  rw [List.length_cons,List.range'_succ,List.map_cons]
  refine .cons ?_ (vals_from l (k0+1) fun i v hv=>?_)
  ·obtain ⟨t,e⟩:=h 0 v rfl
   exact ⟨t,e⟩
  ·obtain ⟨t,e⟩:=h (i+1) v hv
   exact ⟨t,by rw [e];congr 2;omega⟩
theorem pe_listRange {X:Cx} {e:Expr} {te:TE} {p1 p2 pos1 pos2:Pos} (hc:X.calm=true) (hg1:Gl X "list") (hm1:X.mg "list" = none) (hg2:Gl X "range") (hm2:X.mg "range" = none) (he:PE X e te) (hs:starEach [e] X.env=[(false,eval e X.env)]:=by rfl)
  (hs2:starEach [.Call (.Name "range" p2) [e] [] pos2] X.env=[(false,eval (.Call (.Name "range" p2) [e] [] pos2) X.env)]:=by rfl) :
  PE X (.Call (.Name "list" p1) [.Call (.Name "range" p2) [e] [] pos2] [] pos1) (fun σ H Q=>te σ H fun x H1=>∃ j:Nat,x=.int (j:Int)∧j≤1000∧∀ d,H1 d=none→Q (.ref d) (upd H1 d (.lst ((List.range j).map fun k=>V.int ((k:Nat):Int))))):=by
 intro pins s σ H Q I h
 refine Call_ (ld_blt I hg1 hm1 boot_lst (PyProof.Rows.callWith_type1 (e:=.Call (.Name "range" p2) [e] [] pos2) (rest:=[]) ?_ hs2 rfl))
 rw [hs2]
 show wpAny _ _ (spliced ((false,eval (.Call (.Name "range" p2) [e] [] pos2) X.env)::[])) _ _ s
 refine Calls.spliced_cons (Call_ (ld_blt I hg2 hm2 boot_range (PyProof.Rows.callWith_type1 (e:=e) (rest:=[]) ?_ hs rfl)))
 rw [hs]
 show wpAny _ _ (spliced ((false,eval e X.env)::[])) _ _ s
 refine Calls.spliced_cons (thn (he pins s σ H _ I h) fun u s1 ⟨x,H1,I1,r1,j,ex,hj,q⟩=>?_)
 subst ex
 obtain ⟨t,rfl⟩:=r1
 refine Calls.spliced_nil (call_range_1 ?_)
 refine Calls.spliced_nil ?_
 have I2:Inv X pins σ H1 { s1 with heap:=s1.heap.push { cls:=.type "range",data:=.fields #[.int 0 s1.toks,.int (j:Int) t,.int 1 (s1.toks+1)] },toks:=s1.toks+1+1 }:=I1.kept fun b o e=>Heap.get?_push_of_some _ e
 refine call_list_range (n:=j) (I.ok.hd hc) (IsRange.new ..) (small_one (by omega) (by omega) (by omega) (by omega)) (by rw [rangeSize_one];split <;> omega) (by omega) fun h' tk acc' c' hk hS hacc=>?_
 obtain ⟨hsz,hit⟩:=hacc
 have hv:Vals ((List.range j).map fun k=>V.int ((k:Nat):Int)) acc'.toList:=by
  have:=vals_from acc'.toList 0 fun i v hv=>by
   rw [Array.getElem?_toList] at hv
   obtain ⟨t,e⟩:=hit i v hv
   exact ⟨t,by rw [e];congr 1;omega⟩
  rw [Array.length_toList,hsz,← List.range_eq_range'] at this
  exact this
 refine ⟨.ref _,_,I2.laid (t':=tk) hk (Nat.le_refl _) (show ObjOk X.prog X.w _ h' _ (.lst ((List.range j).map fun k=>V.int ((k:Nat):Int))) from ⟨?_,acc'.toList,c',hv,by rw [Array.toArray_toList];exact hS⟩),rfl,q _ (I2.hok.fresh (Nat.le_refl _))⟩
 rw [List.length_map,List.length_range,sizeLine_eq]
 omega
end L2
namespace L2
open PySem PySem.Spec PyProof.Rows XL PySem.Calls
open Sem (wp)
section
variable {X:Cx}
theorem call_sumA (hc:X.calm=true):CallR X (.builtin "sum") (fun xs H Q=>∃ (p:Addr) (ns:List Int),xs=[.ref p]∧SqL X.K H p (ns.map V.int)∧Q (.int ns.sum) H):=by
 intro pins s σ H xs us Q I r h
 obtain ⟨p,ns,rfl,hp,q⟩:=h
 obtain ⟨u,rfl,ru⟩:=r.one
 cases ru
 obtain ⟨its,rv,pl,hz⟩:=I.list hp
 have hI:=ints_are rv
 have hlen:=hI.length
 have hlt:p < s.heap.objs.size:=by obtain ⟨_,e,_⟩:=pl.isList;exact Heap.lt_size e
 refine call_sum_walkAnyS (wpAny_pyIter_list pl.isList ?_)
 refine ⟨_,_,_,_,_,_,_,fun i=>ns.getD i 0,rfl,(Walks.list (A:=X.A.in1) (I.ok.hd hc) _ p (Nat.ne_of_lt hlt) _).toS,⟨⟨_,Heap.get?_push_size _ rfl,rfl,rfl⟩,pl.isList.push _⟩,fun b hb=>?_,ints_get hI,fun s' t' hm=>?_⟩
 ·show b < (s.heap.push _).objs.size
  rw [Heap.size_push]
  rcases List.mem_cons.mp hb with rfl | hb
  ·exact Nat.lt_succ_self _
  ·rcases List.mem_cons.mp hb with rfl | hb
   ·exact Nat.lt_succ_of_lt hlt
   ·cases hb
 ·rw [Moved.eq_with hm]
  refine ⟨.int ns.sum,H,I.kept (t':=s'.toks) (kept_it fun b o hb e=>hm.heap b o hb e),⟨t',?_⟩,q⟩
  rw [preSum_getD,List.size_toArray,hlen,List.take_length]
end
end L2
namespace L2
open PySem PySem.Spec PyProof.Rows XL PySem.Calls PySem.W
def lexI:List Int→List Int→Bool
 | [],[]=>false
 | [],_::_=>true
 | _::_,[]=>false
 | x::xs,y::ys=>if x=y then lexI xs ys else decide (x < y)
theorem lexI_nil (ms:List Int):lexI [] ms=decide (0 < ms.length):=by
 cases ms with
 | nil=>rfl
 | cons a r=>simp [lexI]
theorem ints_at2 {vs:List Value} {ns:List Int} (h:IntsAre vs ns):∀ (i:Nat),i < ns.length→∃ n t,ns[i]?=some n∧vs[i]?=some (.int n t):=by
 induction h with
 | nil=>exact fun i hi=>absurd hi (Nat.not_lt_zero _)
 | cons n t _ ih=>
  intro i hi
  cases i with
  | zero=>exact ⟨n,t,rfl,rfl⟩
  | succ i=>
   obtain ⟨n',t',h1,h2⟩:=ih i (by simpa using hi)
   exact ⟨n',t',by simpa using h1,by simpa using h2⟩
theorem lt_loopAt (l b:Addr) (its its2:List Value) (ns ms:List Int) (hi:IntsAre its ns) (hj:IntsAre its2 ms) :
  ∀ (k i:Nat),ns.length - i=k→i≤ns.length→i≤ms.length→Meets (Builtin.«list.__eq__.loop» { pos:=[Value.ref l,Value.ref b,rawInt (i:Int),rawInt 0] }) fun A R s=>
   (∃ o n,s.heap.get? l=some o∧o.data=Data.seq its.toArray n)∧(∃ o n,s.heap.get? b=some o∧o.data=Data.seq its2.toArray n)∧R (.ok (.ret (.bool (lexI (ns.drop i) (ms.drop i))))) s:=by
 intro k
 induction k with
 | zero=>
  intro i hk h1 h2 prog w A R s ⟨⟨o,n,ho,hd⟩,⟨o2,n2,ho2,hd2⟩,r⟩
  have hil:=hi.length
  have hjl:=hj.length
  have e1:its.toArray[((i:Int)).toNat]?=none:=by simp;omega
  refine wpAny_bind (listItems_at ho hd (wpAny_bind (listItems_at ho2 hd2 ?_)))
  rw [e1]
  refine wpAny_bind (listItems_at ho hd (wpAny_bind (listItems_at ho2 hd2 (wpAny_pure ?_))))
  have e:lexI (ns.drop i) (ms.drop i)=decide (its.toArray.size < its2.toArray.size):=by
   have:ns.drop i=[]:=List.drop_eq_nil_of_le (by omega)
   rw [this,lexI_nil,decide_eq_decide,List.length_drop]
   simp
   omega
  rw [e] at r
  exact r
 | succ k ih=>
  intro i hk h1 h2 prog w A R s ⟨⟨o,n,ho,hd⟩,⟨o2,n2,ho2,hd2⟩,r⟩
  have hil:=hi.length
  have hjl:=hj.length
  obtain ⟨x,t,gx,vx⟩:=ints_at2 hi i (by omega)
  have e1:its.toArray[((i:Int)).toNat]?=some (.int x t):=by simpa using vx
  refine wpAny_bind (listItems_at ho hd (wpAny_bind (listItems_at ho2 hd2 ?_)))
  rw [e1]
  by_cases hm:i < ms.length
  ·obtain ⟨y,u,gy,vy⟩:=ints_at2 hj i hm
   have e2:its2.toArray[((i:Int)).toNat]?=some (.int y u):=by simpa using vy
   rw [e2]
   have d1:ns.drop i=x::ns.drop (i+1):=by
    rw [List.drop_eq_getElem_cons (by omega)]
    rw [List.getElem?_eq_getElem (by omega)] at gx
    rw [Option.some.inj gx]
   have d2:ms.drop i=y::ms.drop (i+1):=by
    rw [List.drop_eq_getElem_cons hm]
    rw [List.getElem?_eq_getElem hm] at gy
    rw [Option.some.inj gy]
   rw [d1,d2] at r
   refine wpAny_bind (SeqAt.EqAt.int_int x t y u prog w _ _ ?_)
   by_cases hxy:x=y
   ·rw [show (x == y)=true from by simpa using hxy,if_pos rfl]
    refine wpAny_pure ⟨plainId_quiet MeetsSeq3.plain_eq_loop _,codeAny_builtin MeetsSeq3.entry_eq_loop ?_⟩
    rw [Around.under_plainId MeetsSeq3.plain_eq_loop]
    have r':R (.ok (.ret (.bool (lexI (ns.drop (i+1)) (ms.drop (i+1)))))) s:=by
     rw [lexI,if_pos hxy] at r
     exact r
    have:=ih (i+1) (by omega) (by omega) (by omega) prog w A R s ⟨⟨o,n,ho,hd⟩,⟨o2,n2,ho2,hd2⟩,r'⟩
    exact this
   ·rw [show (x == y)=false from by simpa using hxy,if_neg Bool.false_ne_true]
    refine wpAny_bind (listItems_at ho hd (wpAny_bind (listItems_at ho2 hd2 ?_)))
    rw [e1,e2]
    refine wpAny_bind (lt_int (t:=t) (u:=u) (wpAny_pure ?_))
    rw [lexI,if_neg hxy] at r
    exact r
  ·have e2:its2.toArray[((i:Int)).toNat]?=none:=by simp;omega
   rw [e2]
   refine wpAny_bind (listItems_at ho hd (wpAny_bind (listItems_at ho2 hd2 (wpAny_pure ?_))))
   have e:lexI (ns.drop i) (ms.drop i)=decide (its.toArray.size < its2.toArray.size):=by
    have:ms.drop i=[]:=List.drop_eq_nil_of_le (by omega)
    rw [this,List.drop_eq_getElem_cons (by omega),lexI]
    refine (decide_eq_false ?_).symm
    simp
    omega
   rw [e] at r
   exact r
theorem list_ltAt (l b:Addr) (its its2:List Value) (ns ms:List Int) (hi:IntsAre its ns) (hj:IntsAre its2 ms) :
  Meets (Builtin.«list.__lt__» { pos:=[Value.ref l,Value.ref b] }) fun A R s=>s.heap.IsList l its.toArray∧s.heap.IsList b its2.toArray∧R (.ok (.ret (.bool (lexI ns ms)))) s:=by
 rintro prog w A R ⟨h,g,dr,tk,os⟩ ⟨⟨o,ho,hc,n,hd⟩,⟨o2,ho2,hc2,n2,hd2⟩,r⟩
 refine wpAny_bind (m:=slotArgs _ 1 _) (wpAny_of_eq (a:=(Value.ref l,[Value.ref b])) rfl ?_)
 refine wpAny_bind (m:=isInstance _ _) (wpAny_bind (m:=typeOf _) (wpAny_bind (m:=loadPart _ _) (wpAny_loadPart' ho2 (wpAny_pure ?_))))
 rw [hc2]
 refine wpAny_of_eq AutoSeq1.sub_list_list ?_
 refine wpAny_ite_false (by decide) ?_
 refine wpAny_ite_false (by decide) ?_
 refine wpAny_pure ⟨plainId_quiet MeetsSeq3.plain_eq_loop _,codeAny_builtin MeetsSeq3.entry_eq_loop ?_⟩
 rw [Around.under_plainId MeetsSeq3.plain_eq_loop]
 exact lt_loopAt l b its its2 ns ms hi hj ns.length 0 (by omega) (Nat.zero_le _) (Nat.zero_le _) prog w A R ⟨h,g,dr,tk,os⟩ ⟨⟨o,n,ho,hd⟩,⟨o2,n2,ho2,hd2⟩,r⟩
theorem oneLt_lists {prog:Program} {w:World} {A:Around} {E:Value→Shared→Prop} {s:Shared} {l b:Addr} {its its2:List Value} {ns ms:List Int} {Q:Bool→Shared→Prop}
  (hu:A.units < cLine) (hl:s.heap.IsList l its.toArray) (hb:s.heap.IsList b its2.toArray) (hi:IntsAre its ns) (hj:IntsAre its2 ms) (q:Q (lexI ns ms) s):wpAny (model prog w) A (keyLt' oneType' (.ref l) (.ref b)) Q E s:=by
 obtain ⟨o,ho,hc,n,hd⟩:=id hl
 rw [keyLt'_oneType,oneLt'_eq]
 simp only [if_true]
 refine wpAny_bind (wpAny_cRoomFor hu (wpAny_bind (wpAny_callSpecialIfBound?_slot (T := "list") (id := "list.__lt__") ⟨o,ho,hc⟩ PySem.F.slot_list_lt ?_)))
 refine call_meets (T := "list") PySem.F.slot_list_lt ⟨o,ho,hc⟩ PySem.F.entry_list_lt (PySem.F.args_list_lt_2 _ _) (list_ltAt l b its its2 ns ms hi hj) ⟨hl,hb,?_⟩
 exact wpAny_truthy_bool q
def Tr {α:Type} (R:Nat→Nat→Bool→Prop) (n:Nat) (P:α→Prop):KasT α→Prop
 | .ret a=>P a
 | .ask i j k=>i < n∧j < n∧∀ b,R i j b→Tr R n P (k b)
theorem Tr.imp {α:Type} {R:Nat→Nat→Bool→Prop} {n:Nat} {P P':α→Prop} (hp:∀ a,P a→P' a):∀ {t:KasT α},Tr R n P t→Tr R n P' t
 | .ret a,h=>hp a h
 | .ask i j k,h=>⟨h.1,h.2.1,fun b hb=>Tr.imp hp (h.2.2 b hb)⟩
theorem Tr.bind {α β:Type} {R:Nat→Nat→Bool→Prop} {n:Nat} {P:α→Prop} {P':β→Prop} {f:α→KasT β} (hf:∀ a,P a→Tr R n P' (f a)):∀ {t:KasT α},Tr R n P t→Tr R n P' (t.bind f)
 | .ret a,h=>hf a h
 | .ask i j k,h=>⟨h.1,h.2.1,fun b hb=>Tr.bind hf (h.2.2 b hb)⟩
theorem Tr.wp {α:Type} {R:Nat→Nat→Bool→Prop} {n:Nat} {P:α→Prop} {cmp:Nat→Nat→(Bool→Shared→Prop)→Shared→Prop} {s:Shared} (hc:∀ i j C,i < n→j < n→(∀ b,R i j b→C b s)→cmp i j C s) {G:α→Shared→Prop} (q:∀ a,P a→G a s):∀ {t:KasT α},Tr R n P t→KasT.kasWp cmp t G s
 | .ret a,h=>q a h
 | .ask i j k,h=>hc i j _ h.1 h.2.1 fun b hb=>Tr.wp hc q (h.2.2 b hb)
def PR (n:Nat) (p:Array Nat):Prop:=p.toList.Perm (List.range n)
theorem perm_swap (p:Array Nat) (i j:Nat):(p.swapIfInBounds i j).toList.Perm p.toList:=by
 unfold Array.swapIfInBounds
 split
 ·split
  ·exact (Array.swap_perm _ _).toList
  ·exact .rfl
 ·exact .rfl
theorem perm_swaps (u v:Nat→Nat):∀ (l:List Nat) (p:Array Nat),(l.foldl (fun a k=>a.swapIfInBounds (u k) (v k)) p).toList.Perm p.toList
 | [],p=>.rfl
 | k::l,p=>(perm_swaps u v l _).trans (perm_swap _ _ _)
theorem PR.rev {n:Nat} {p:Array Nat} (h:PR n p) (i j:Nat):PR n (kas_rev p i j):=(perm_swaps (fun k=>i+k) (fun k=>j - 1 - k) _ p).trans h
theorem PR.bub {n:Nat} {p:Array Nat} (h:PR n p) (i j:Nat):PR n (bubble p i j):=(perm_swaps (fun k=>i - k) (fun k=>i - k - 1) _ p).trans h
theorem PR.lt {n:Nat} {p:Array Nat} (h:PR n p) (hn:0 < n) (i:Nat):p.getD i 0 < n:=by
 rw [Array.getD_eq_getD_getElem?]
 by_cases hi:i < p.size
 ·rw [Array.getElem?_eq_getElem hi]
  exact List.mem_range.mp (h.mem_iff.mp (by simp))
 ·rw [Array.getElem?_eq_none (by omega)]
  exact hn
section
variable {R:Nat→Nat→Bool→Prop} {n:Nat}
theorem tr_asc {p:Array Nat} (h:PR n p) (hn:0 < n):∀ (f a:Nat),Tr R n (fun _=>True) (kas_asc p f a)
 | 0,a=>trivial
 | f+1,a=>⟨h.lt hn _,h.lt hn _,fun b _=>by
  cases b with
  | true=>exact trivial
  | false=>exact tr_asc h hn f (a+1)⟩
theorem tr_desc (hn:0 < n):∀ (f:Nat) (p:Array Nat) (a q:Nat),PR n p→Tr R n (fun r=>PR n r.1) (kas_desc f p a q)
 | 0,p,a,q,h=>h
 | f+1,p,a,q,h=>⟨h.lt hn _,h.lt hn _,fun b _=>by
  cases b with
  | true=>
   show Tr R n _ (if q > 0 then kas_desc f (kas_rev p (a - (q+1)) a) (a+1) 0 else kas_desc f p (a+1) 0)
   split
   ·exact tr_desc hn f _ _ _ (h.rev _ _)
   ·exact tr_desc hn f _ _ _ h
  | false=>
   refine ⟨h.lt hn _,h.lt hn _,fun d _=>?_⟩
   cases d with
   | true=>exact h
   | false=>exact tr_desc hn f _ _ _ h⟩
theorem tr_tail {p:Array Nat} (h:PR n p) (hn:0 < n) (a m:Nat):Tr R n (fun r=>PR n r.2) (kas_tail3 a m p):=by
 refine Tr.bind (P:=fun _=>True) (fun b _=>?_) (tr_asc (h.rev _ _) hn _ _)
 exact h.rev _ _
theorem tr_part {p:Array Nat} (h:PR n p) (hn:0 < n) (a m:Nat):Tr R n (fun r=>PR n r.2) (kas_descPart a m p):=by
 refine Tr.bind (fun r hr=>?_) (tr_desc hn _ _ _ _ h)
 show Tr R n _ (if r.snd.snd > 0 then _ else _)
 split
 ·exact tr_tail (hr.rev _ _) hn _ _
 ·exact tr_tail hr hn _ _
theorem tr_count {p:Array Nat} (h:PR n p) (hn:0 < n) (m:Nat):Tr R n (fun r=>PR n r.2) (kas_count m p):=by
 refine Tr.bind (fun a _=>?_) (tr_asc h hn _ _)
 show Tr R n _ (if (a == m)=true then _ else _)
 split
 ·exact h
 ·split
  ·refine ⟨h.lt hn _,h.lt hn _,fun b _=>?_⟩
   cases b with
   | true=>exact h
   | false=>exact tr_part (h.rev _ _) hn _ _
  ·exact tr_part h hn _ _
theorem tr_place {p:Array Nat} (h:PR n p) (hn:0 < n) (k:Nat):∀ (f l r:Nat),Tr R n (fun _=>True) (kas_place p k f l r)
 | 0,l,r=>trivial
 | f+1,l,r=>by
  show Tr R n _ (if l ≥ r then _ else _)
  split
  ·exact trivial
  ·refine ⟨h.lt hn _,h.lt hn _,fun b _=>?_⟩
   cases b with
   | true=>exact tr_place h hn k f _ _
   | false=>exact tr_place h hn k f _ _
theorem tr_bin (hn:0 < n):∀ (f:Nat) (p:Array Nat) (k:Nat),PR n p→Tr R n (PR n) (kas_bin f p k)
 | 0,p,k,h=>h
 | f+1,p,k,h=>Tr.bind (fun l _=>tr_bin hn f _ _ (h.bub _ _)) (tr_place h hn k k 0 k)
theorem tr_sort (hn:0 < n):Tr R n (PR n) (kas_sort n):=by
 refine Tr.bind (fun r hr=>?_) (tr_count (p:=(List.range n).toArray) (by simp [PR]) hn n)
 show Tr R n _ (if r.fst < n then _ else _)
 split
 ·exact tr_bin hn _ _ _ hr
 ·exact hr
end
def selV (vs:List Value) (p:Array Nat):Array Value:=(p.toList.map fun i=>vs.getD i .none).toArray
theorem list_sort_lists {prog:Program} {w:World} {A:Around} {E:Value→Shared→Prop} {s:Shared} {a:Addr} {vs:List Value} {n:Nat} {P:PySem.Fin→Shared→Prop} {nss:List (List Int)} {P0:Array Nat→Prop}
  (ho:s.heap.get? a=some (seqObj "list" vs.toArray n)) (hu:A.units < cLine) (hl:vs.length=nss.length)
  (hx:∀ (i:Nat) v ns,vs[i]?=some v→nss[i]?=some ns→∃ b its,v=.ref b∧b≠a∧s.heap.IsList b (List.toArray its)∧IntsAre its ns) (h64:vs.length < 64)
  (h0:vs.length < 2→P0 (List.range vs.length).toArray) (hT:2≤vs.length→Tr (fun i j b=>b=lexI (nss.getD i []) (nss.getD j [])) vs.length P0 (kas_sort vs.length))
  (q:∀ p,p.size=vs.length→P0 p→P (.done (.ret .none)) { s with heap:=sortedHeap s.heap a vs (selV vs p) }):wpAny (model prog w) A (Builtin.«list.sort» { pos:=[.ref a] }) P E s:=by
 obtain ⟨e1,h1⟩:∃ e1,(s.heap.update a (Obj.mapSeq fun _=>#[])).get? a=some (seqObj "list" #[] e1):=⟨_,get?_update_seq ho _⟩
 have hz:sizeLine=16777216:=sizeLine_eq
 have h2:=Heap.get?_push_of_some (seqObj "list" #[] 0) (Heap.get?_push_of_some (seqObj "tuple" vs.toArray 0) h1)
 rw [list_sort_plain]
 refine wpAny_bind (listItems_at ho rfl (wpAny_bind (listUpdate_at ho rfl ?_ (by simp;omega) (by simp))))
 refine wpAny_bind (seqEpoch_at h1 rfl (wpAny_bind (wpAny_newTuple ?_ (by simp;omega))))
 refine wpAny_bind (wpAny_newList (wpAny_holding ?_))
 by_cases hc:vs.length < 2
 ·have hc':vs.toArray.size < 2:=by simpa using hc
  simp only [if_pos hc',StateT.run_pure]
  refine wpAny_bind (wpAny_pure (wpAny_bind (wpAny_pure ?_)))
  have hzp:(vs.toArray.zip vs.toArray).size=vs.length:=by simp
  have es:Array.map (fun x=>x.snd) (arrOf (SortSt.mk' general' (vs.toArray.zip vs.toArray) #[] 7 none))=selV vs (List.range vs.length).toArray:=by
   refine kat_snds (ks:=vs) rfl ?_
   have:=kas_range (vs.toArray.zip vs.toArray)
   rw [hzp] at this
   exact this.symm
  refine wpAny_bind (seqEpoch_at h2 rfl (wpAny_bind (listUpdate_at h2 rfl ?_ (by simp) (by rw [es];simp [selV];omega))))
  rw [es]
  have:=q _ (by simp) (h0 hc)
  rw [show (e1 != e1)=false from by simp,if_neg Bool.false_ne_true]
  exact wpAny_pure this
 ·have hc':¬ vs.toArray.size < 2:=by simpa using hc
  simp only [if_neg hc']
  refine wpAny_bind (kas_kind (T:=.type "list") (by omega) (fun v hv=>?_) (by decide) (by decide) ?_)
  ·obtain ⟨i,hi,ei⟩:=List.mem_iff_getElem.mp hv
   obtain ⟨b,its,rfl,hne,⟨o,hb,hcl,_⟩,_⟩:=hx i v nss[i] (by rw [List.getElem?_eq_getElem hi,ei]) (List.getElem?_eq_getElem (by omega))
   have hb2:=Heap.get?_push_of_some (seqObj "list" #[] 0) (Heap.get?_push_of_some (seqObj "tuple" vs.toArray 0) ((Heap.get?_update_ne s.heap b a (Obj.mapSeq fun _=>#[]) hne).trans hb))
   intro A' Q' E' s' hk hq
   cases s' with
   | mk h' g' d' t' os'=>
    refine wpAny_bind (m:=loadPart _ _) (wpAny_loadPart' (hk _ _ hb2) (wpAny_pure ?_))
    rw [hcl]
    exact hq
  refine wpAny_bind (wpAny_mono (kat_run (ks:=vs) (Q:=fun st' s'=>(failedOf st'=none∧∃ p,p.size=vs.length∧P0 p∧arrOf st'=Array.map (kas_item (vs.toArray.zip vs.toArray)) p)∧s'=_) (G:=fun p s'=>P0 p∧s'=_) rfl (by omega) h64 (fun p st' s' hp ha hf hG=>⟨⟨hf,p,hp,hG.1,ha⟩,hG.2⟩) (Tr.wp (fun i j C hi hj hC=>?_) (fun p hp=>⟨hp,rfl⟩) (hT (by omega)))) (fun r s' hq=>?_) (fun _ _ z=>z))
  ·obtain ⟨b,its,ev,hne,hb,hin⟩:=hx i vs[i] nss[i] (List.getElem?_eq_getElem hi) (List.getElem?_eq_getElem (by omega))
   obtain ⟨b',its',ev',hne',hb',hin'⟩:=hx j vs[j] nss[j] (List.getElem?_eq_getElem hj) (List.getElem?_eq_getElem (by omega))
   have keep:∀ {b:Addr} {xs:Array Value},b≠a→s.heap.IsList b xs→(((s.heap.update a (Obj.mapSeq fun _=>#[])).push (seqObj "tuple" vs.toArray 0)).push (seqObj "list" #[] 0)).IsList b xs:=fun {b xs} hne ⟨o,ho,r⟩=>
    ⟨o,Heap.get?_push_of_some _ (Heap.get?_push_of_some _ ((Heap.get?_update_ne s.heap b a _ hne).trans ho)),r⟩
   have g1:vs.getD i .none=.ref b:=by rw [List.getD_eq_getElem?_getD,List.getElem?_eq_getElem hi,ev];rfl
   have g2:vs.getD j .none=.ref b':=by rw [List.getD_eq_getElem?_getD,List.getElem?_eq_getElem hj,ev'];rfl
   have g3:nss.getD i []=nss[i]:=by rw [List.getD_eq_getElem?_getD,List.getElem?_eq_getElem (by omega)];rfl
   have g4:nss.getD j []=nss[j]:=by rw [List.getD_eq_getElem?_getD,List.getElem?_eq_getElem (by omega)];rfl
   show wpAny _ _ (keyLt' _ (vs.getD i .none) (vs.getD j .none)) _ _ _
   rw [g1,g2]
   exact oneLt_lists hu (keep hne hb) (keep hne' hb') hin hin' (hC _ (by rw [g3,g4]))
  ·obtain ⟨⟨hf,p,hp,hP,ha⟩,rfl⟩:=hq
   obtain ⟨u,st⟩:=r
   have es:=kat_snds (ks:=vs) rfl ha
   refine wpAny_bind (seqEpoch_at h2 rfl (wpAny_bind (listUpdate_at h2 rfl ?_ (by simp) (by rw [es];simp;omega))))
   rw [es]
   have:=q p hp hP
   dsimp only at hf
   rw [show (e1 != e1)=false from by simp,if_neg Bool.false_ne_true,hf]
   exact wpAny_pure this
theorem vals_sel {xs:List V} {us:List Value} (r:Vals xs us):∀ (l:List Nat),Vals (l.map fun i=>xs.getD i .non) (l.map fun i=>us.getD i .none)
 | []=>.nil
 | i::l=>by
  refine .cons ?_ (vals_sel r l)
  show RelV (xs.getD i .non) (us.getD i .none)
  rw [List.getD_eq_getElem?_getD,List.getD_eq_getElem?_getD]
  cases e:xs[i]? with
  | none=>
   rw [r.none_of e]
   rfl
  | some x=>
   obtain ⟨u,eu,ru⟩:=r.get e
   rw [eu]
   exact ru
theorem call_sortedP {X:Cx} (hu:X.A.units+64 < cLine):CallR X (.builtin "sorted") (fun xs H Q=>∃ (p:Addr) (zs:List V) (nss:List (List Int)) (P0:Array Nat→Prop),xs=[.ref p]∧SqL X.K H p zs∧zs.length=nss.length∧
  (∀ (i:Nat) z ns,zs[i]?=some z→nss[i]?=some ns→∃ a,z=.ref a∧SqL X.K H a (ns.map V.int))∧zs.length < 64∧(zs.length < 2→P0 (List.range zs.length).toArray)∧(2≤zs.length→Tr (fun i j b=>b=lexI (nss.getD i []) (nss.getD j [])) zs.length P0 (kas_sort zs.length))∧
  ∀ (d:Addr) (q:Array Nat),H d=none→q.size=zs.length→P0 q→Q (.ref d) (upd H d (.lst (q.toList.map fun i=>zs.getD i .non)))):=by
 intro pins s σ H xs us Q I r h
 obtain ⟨p,zs,nss,P0,rfl,hp,hl,hz,h64,h0,hT,q⟩:=h
 obtain ⟨u,rfl,ru⟩:=r.one
 cases ru
 obtain ⟨its,rv,pl,hsz⟩:=I.list hp
 have hlen:=rv.length
 have hs:sizeLine=16777216:=sizeLine_eq
 refine Calls.call_function_entry kind_sorted plain_sorted entry_sorted (args_sorted1 _) ?_
 unfold Builtin.«sorted»
 refine wpAny_bind (m:=checkCount "sorted" 1 1 _) (wpAny_pure ?_)
 refine wpAny_bind (collect_list pl.isList ?_ (by omega))
 obtain ⟨h',eh⟩:∃ h',(s.heap.push (seqObj "list" #[] 0)).update s.heap.objs.size (Obj.mapSeq fun x=>x++its.toArray)=h':=⟨_,rfl⟩
 have old1:∀ b o,s.heap.get? b=some o→h'.get? b=some o:=fun b o e=>by
  have hlt:=Heap.lt_size e
  rw [← eh,Heap.get?_update_ne _ _ _ _ (Nat.ne_of_lt hlt)]
  exact Heap.get?_push_of_some _ e
 have hsz':h'.objs.size=s.heap.objs.size+1:=by rw [← eh,Heap.size_update,size_push']
 rw [eh]
 refine wpAny_bind (wpAny_newList ?_ (by omega))
 have hoL:(h'.push (seqObj "list" its.toArray 0)).get? h'.objs.size=some (seqObj "list" its.toArray 0):=Heap.get?_push_size _ rfl
 refine wpAny_bind (wpAny_holding (wpAny_call_entry slot_list_sort ⟨_,hoL,rfl⟩ entry_list_sort (list_sort_lists (nss:=nss) (P0:=P0) hoL ?_ (by omega) (fun i v ns hv hn=>?_) (by omega) (by rw [← hlen];exact h0) (by rw [← hlen];exact hT) fun q' hq hP=>⟨_,rfl,?_⟩) (args_list_sort _)))
 ·show X.A.units+1+1 < cLine
  omega
 ·obtain ⟨z,ez⟩:∃ z,zs[i]?=some z:=⟨_,List.getElem?_eq_getElem (by have:=(List.getElem?_eq_some_iff.mp hv).1;omega)⟩
  obtain ⟨a,rfl,ha⟩:=hz i z ns ez hn
  obtain ⟨u,eu,ru⟩:=rv.get ez
  rw [hv] at eu
  cases eu
  cases ru
  obtain ⟨its',rv',⟨o,n',ho,hc,hd,hdt⟩,_⟩:=I.list ha
  have hlt:=Heap.lt_size ho
  exact ⟨a,its',rfl,by rw [hsz'];exact Nat.ne_of_lt (Nat.lt_succ_of_lt hlt),⟨o,Heap.get?_push_of_some _ (old1 _ _ ho),hc,n',hdt⟩,ints_are rv'⟩
 refine wpAny_pure ⟨_,rfl,?_⟩
 obtain ⟨e,he⟩:=sortedHeap_at (out:=selV its q') hoL
 have old:∀ b o,s.heap.get? b=some o→(sortedHeap (h'.push (seqObj "list" its.toArray 0)) h'.objs.size its (selV its q')).get? b=some o:=fun b o eb'=>by
  have hlt:=Heap.lt_size eb'
  rw [sortedHeap_old (by rw [hsz'];exact Nat.ne_of_lt (Nat.lt_succ_of_lt hlt)) (by rw [size_push',hsz'];exact Nat.lt_succ_of_lt (Nat.lt_succ_of_lt hlt))]
  exact Heap.get?_push_of_some _ (old1 _ _ eb')
 have hn:H h'.objs.size=none:=by
  rw [hsz']
  exact I.hok.fresh (Nat.le_succ _)
 refine ⟨.ref h'.objs.size,_,I.laid (t':=s.toks) old (by rw [hsz'];omega) (a:=h'.objs.size) (o:=.lst (q'.toList.map fun i=>zs.getD i .non)) ⟨?_,(selV its q').toList,e,vals_sel rv _,?_⟩,rfl,q _ q' hn (by omega) hP⟩
 ·rw [List.length_map,Array.length_toList]
  omega
 ·rw [he]
theorem call_sortedL {X:Cx} (hu:X.A.units+64 < cLine):CallR X (.builtin "sorted") (fun xs H Q=>∃ (p:Addr) (zs:List V) (nss:List (List Int)),xs=[.ref p]∧SqL X.K H p zs∧zs.length=nss.length∧
  (∀ (i:Nat) z ns,zs[i]?=some z→nss[i]?=some ns→∃ a,z=.ref a∧SqL X.K H a (ns.map V.int))∧zs.length < 64∧
  ∀ (d:Addr) (l:List Nat),H d=none→l.Perm (List.range zs.length)→Q (.ref d) (upd H d (.lst (l.map fun i=>zs.getD i .non)))):=by
 intro pins s σ H xs us Q I r h
 obtain ⟨p,zs,nss,e,hp,hl,hz,h64,q⟩:=h
 exact call_sortedP hu pins s σ H xs us Q I r ⟨p,zs,nss,PR zs.length,e,hp,hl,hz,h64,fun _=>by simp [PR],fun h2=>tr_sort (by omega),fun d q' hd _ hq=>q d _ hd hq⟩
end L2
namespace L2
open PySem PySem.Spec PyProof.Rows XL PySem.Calls PySem.W
inductive rcLenI (K:W.Frag) (xs:List V) (H:Hp) (Q:VK):Prop
 | mk (p ys:_):(xs=[.ref p])→((SqL K H p ys∨SqT K H p ys))→(Q (.int ys.length) H)→rcLenI K xs H Q
def rcLen (K:W.Frag):List V→Hp→VK→Prop:=fun xs H Q=>rcLenI K xs H Q
inductive rcListI (K:W.Frag) (xs:List V) (H:Hp) (Q:VK):Prop
 | mk (p ys:_):(xs=[.ref p])→((SqL K H p ys∨SqT K H p ys))→(∀ l,H l=none→Q (.ref l) (upd H l (.lst ys)))→rcListI K xs H Q
def rcList (K:W.Frag):List V→Hp→VK→Prop:=fun xs H Q=>rcListI K xs H Q
inductive rcIsiI (K:W.Frag) (xs:List V) (H:Hp) (Q:VK):Prop
 | mk (x y c t b:_):(xs=[x,y])→(clsV y=some c)→(TyOf K H x t)→(W.kitOne K t c=some b)→(Q (.bl b) H)→rcIsiI K xs H Q
def rcIsi (K:W.Frag):List V→Hp→VK→Prop:=fun xs H Q=>rcIsiI K xs H Q
inductive rcSumI (K:W.Frag) (xs:List V) (H:Hp) (Q:VK):Prop
 | mk (p:Addr) (ns:List Int):(xs=[.ref p])→(SqL K H p (ns.map V.int))→(Q (.int ns.sum) H)→rcSumI K xs H Q
def rcSum (K:W.Frag):List V→Hp→VK→Prop:=fun xs H Q=>rcSumI K xs H Q
inductive rcAllI (K:W.Frag) (xs:List V) (H:Hp) (Q:VK):Prop
 | mk (p:Addr) (bs:List Bool):(xs=[.ref p])→(SqL K H p (bs.map V.bl))→(Q (.bl (bs.all id)) H)→rcAllI K xs H Q
def rcAll (K:W.Frag):List V→Hp→VK→Prop:=fun xs H Q=>rcAllI K xs H Q
inductive rcSetI (K:W.Frag) (xs:List V) (H:Hp) (Q:VK):Prop
 | mk (p:Addr) (ns:List Int):(xs=[.ref p])→(SqL K H p (ns.map V.int))→(ns.length+1 < scanBound)→(∀ d,H d=none→Q (.ref d) (upd H d (.set (fun k=>(distinct ns).any (· == k)) (distinct ns).length)))→rcSetI K xs H Q
def rcSet (K:W.Frag):List V→Hp→VK→Prop:=fun xs H Q=>rcSetI K xs H Q
inductive rcSortII (K:W.Frag) (xs:List V) (H:Hp) (Q:VK):Prop
 | mk (p:Addr) (ns:List Int):(xs=[.ref p])→(SqL K H p (ns.map V.int))→(ns.length < 64)→(∀ (d:Addr) (ns':List Int),H d=none→ns'.Perm ns→ns'.Pairwise (·≤·)→Q (.ref d) (upd H d (.lst (ns'.map V.int))))→rcSortII K xs H Q
def rcSortI (K:W.Frag):List V→Hp→VK→Prop:=fun xs H Q=>rcSortII K xs H Q
inductive rcSortLI (K:W.Frag) (xs:List V) (H:Hp) (Q:VK):Prop
 | mk (p:Addr) (zs:List V) (nss:List (List Int)):(xs=[.ref p])→(SqL K H p zs)→(zs.length=nss.length)→((∀ (i:Nat) z ns,zs[i]?=some z→nss[i]?=some ns→∃ a,z=.ref a∧SqL K H a (ns.map V.int)))→(zs.length < 64)→(∀ (d:Addr) (l:List Nat),H d=none→l.Perm (List.range zs.length)→Q (.ref d) (upd H d (.lst (l.map fun i=>zs.getD i .non))))→rcSortLI K xs H Q
def rcSortL (K:W.Frag):List V→Hp→VK→Prop:=fun xs H Q=>rcSortLI K xs H Q
section
variable {X:Cx}
theorem c_len:CallR X (.builtin "len") (rcLen X.K):=fun pins s σ H xs us Q I r h=>by
 obtain ⟨a0,a1,a2,a3,a4⟩:=h
 exact call_len_seq pins s σ H xs us Q I r ⟨a0,a1,a2,a3,a4⟩
theorem c_list:CallR X (.type "list") (rcList X.K):=fun pins s σ H xs us Q I r h=>by
 obtain ⟨a0,a1,a2,a3,a4⟩:=h
 exact call_list_of pins s σ H xs us Q I r ⟨a0,a1,a2,a3,a4⟩
theorem c_isi:CallR X (.builtin "isinstance") (rcIsi X.K):=fun pins s σ H xs us Q I r h=>by
 obtain ⟨a0,a1,a2,a3,a4,a5,a6,a7,a8,a9⟩:=h
 exact call_isi pins s σ H xs us Q I r ⟨a0,a1,a2,a3,a4,a5,a6,a7,a8,a9⟩
theorem c_sum (hc:X.calm=true):CallR X (.builtin "sum") (rcSum X.K):=fun pins s σ H xs us Q I r h=>by
 obtain ⟨a0,a1,a2,a3,a4⟩:=h
 exact call_sumA hc pins s σ H xs us Q I r ⟨a0,a1,a2,a3,a4⟩
theorem c_all (hc:X.calm=true):CallR X (.builtin "all") (rcAll X.K):=fun pins s σ H xs us Q I r h=>by
 obtain ⟨a0,a1,a2,a3,a4⟩:=h
 exact call_allB hc pins s σ H xs us Q I r ⟨a0,a1,a2,a3,a4⟩
theorem c_set (hc:X.calm=true):CallR X (.type "set") (rcSet X.K):=fun pins s σ H xs us Q I r h=>by
 obtain ⟨a0,a1,a2,a3,a4,a5⟩:=h
 exact call_setI hc pins s σ H xs us Q I r ⟨a0,a1,a2,a3,a4,a5⟩
theorem c_sortI:CallR X (.builtin "sorted") (rcSortI X.K):=fun pins s σ H xs us Q I r h=>by
 obtain ⟨a0,a1,a2,a3,a4,a5⟩:=h
 exact call_sortedI pins s σ H xs us Q I r ⟨a0,a1,a2,a3,a4,a5⟩
theorem c_sortL (hu:X.A.units+64 < cLine):CallR X (.builtin "sorted") (rcSortL X.K):=fun pins s σ H xs us Q I r h=>by
 obtain ⟨a0,a1,a2,a3,a4,a5,a6,a7,a8⟩:=h
 exact call_sortedL hu pins s σ H xs us Q I r ⟨a0,a1,a2,a3,a4,a5,a6,a7,a8⟩
end
end L2
namespace L2
open PySem PySem.Spec PyProof.Rows XL PySem.Calls PySem.W
theorem vals_cls:∀ {ys:List V} {cs its:List Value},Paired (fun y c=>clsV y=some c) ys cs→Vals ys its→its=cs
 | [],_,_,.nil,r=>by cases r;rfl
 | _::_,_,_,.cons h t,r=>by
  cases r with
  | cons r1 r2=>rw [vals_cls t r2,clsV_rel h r1]
theorem kitAny_no {K:W.Frag} {t:Value}:∀ {cs:List Value},(∀ c∈cs,W.kitOne K t c=some false)→W.kitAny K t cs=some false
 | [],_=>rfl
 | c::r,h=>by
  unfold W.kitAny
  rw [h c (List.mem_cons_self ..)]
  exact kitAny_no fun x hx=>h x (List.mem_cons_of_mem _ hx)
theorem call_isiET {X:Cx}:CallR X (.builtin "isinstance") (fun xs H Q=>∃ (a C t:Addr) (ys:List V) (cs:List Value) (b:Bool),xs=[.ref a,.ref t]∧H t=some (.tup ys)∧Paired (fun y c=>clsV y=some c) ys cs∧H a=some (excO a (.ref C))∧ErrA X.K C∧W.kitAny X.K (.ref C) cs=some b∧Q (.bl b) H):=by
 rintro pins s σ H xs us Q I r ⟨a,C,t,ys,cs,b,rfl,ht,hp,ea,er,hk,q⟩
 obtain ⟨u,w',rfl,r1,r2⟩:=vals2 r
 cases (show u=Value.ref a from r1)
 cases (show w'=Value.ref t from r2)
 obtain ⟨its,rv,⟨o,ho,hcl,n,hdat⟩,_⟩:=I.tuple (SqT.of ht)
 cases vals_cls hp rv
 obtain ⟨oc,od,odat,osl⟩:=o
 cases hcl
 cases hdat
 exact W.kia_tup (kitx_exc er) I.kIn (I.exc ea) ho hk (fun z=>nomatch z) fun tk=>⟨.bl b,H,I.tok tk,rfl,q⟩
end L2
namespace L2
open PySem PySem.Spec PyProof.Rows XL PySem.Calls PySem.W
section
variable {X:Cx}
end
end L2
namespace L2
open PySem PySem.Spec PyProof.Rows XL PySem.Calls PySem.W
section
variable {L:Nat→Nat→Bool} {n:Nat}
end
end L2
namespace L2
open PySem PySem.Spec PyProof.Rows XL PySem.Calls PySem.W
end L2
namespace L2
open PySem PySem.Spec PyProof.Rows XL PySem.Calls PySem.W
end L2
namespace L2
open PySem PySem.Spec PyProof.Rows XL PySem.Calls PySem.W
section
variable {prog:Program} {w:World} {K:Type} [DecidableEq K] {knd:PySem.KeyKind prog w K}
end
end L2
namespace L2
open PySem PySem.Spec PyProof.Rows XL PySem.Calls PySem.W
end L2
namespace L2
open PySem PySem.Spec PyProof.Rows XL PySem.Calls PySem.W
abbrev ledOf (w:World):Bool:=!w.params.followText "set-order"
theorem new_led {prog:Program} {w:World} {A:Around} {E:Value→Shared→Prop} {s:Shared} {Q:Value→Shared→Prop}
  (h:Q (.ref s.heap.objs.size) { s with heap:=s.heap.push { cls:=.type "set",data:=.set #[] 0 (SetTable.fresh 0 0 (ledOf w)) } }):wpAny (model prog w) A (newSet (.type "set")) Q E s:=by
 refine wpAny_bind (m:=setsByText) (wpAny_bind (m:=ask) (wpAny_askSetting (wpAny_pure ?_)))
 show wpAny _ _ (newObj (.type "set") (.set #[] 0 (SetTable.fresh 0 0 (ledOf w)))) Q E s
 show wpAny _ _ (if (#[]:Array (Int × Value)).size > sizeLine then ((unsupported "set:memory" : Sem Unit) >>= fun _=>newObjAsIs (.type "set") (.set #[] 0 (SetTable.fresh 0 0 (ledOf w)))) else newObjAsIs (.type "set") (.set #[] 0 (SetTable.fresh 0 0 (ledOf w)))) Q E s
 rw [if_neg (by simp)]
 exact wpAny_bind (wpAny_alloc (wpAny_pure h))
end L2
namespace L2
open PySem PySem.Spec PyProof.Rows XL PySem.Calls PySem.W
end L2
namespace L2
open PySem PySem.Spec PyProof.Rows XL PySem.Calls PySem.W
structure SetAt (h:Heap) (a:Addr) (es:Array (Int × Value)) (ep:Nat) (t:SetTable):Prop where
 ex:∃ o,h.get? a=some o∧o.ExactSet∧o.data=.set es ep t
 fits:t.fits es.size=true
end L2
namespace L2
open PySem PySem.Spec PyProof.Rows XL PySem.Calls PySem.W
section
variable {prog:Program} {w:World} {A:Around} {E:Value→Shared→Prop} {s:Shared}
end
end L2
namespace L2
open PySem PySem.Spec PyProof.Rows XL PySem.Calls PySem.W
theorem erase_perm {α:Type}:∀ {l:List α} {i:Nat} (h:i < l.length),(l[i]::l.eraseIdx i).Perm l
 | x::t,0,h=>.refl _
 | x::t,i+1,h=>(List.Perm.swap _ _ _).trans (.cons _ (erase_perm (l:=t) (Nat.lt_of_succ_lt_succ h)))
theorem pick_go {α:Type} (next:Nat→Nat):∀ (fuel k:Nat) (left:List α) (out:Array α),left.length=fuel→(pickOrder.go next fuel k left out).toList.Perm (out.toList++left)
 | 0,k,left,out,h=>by
  have:left=[]:=List.eq_nil_of_length_eq_zero h
  subst this
  show out.toList.Perm _
  rw [List.append_nil]
 | fuel+1,k,left,out,h=>by
  have hlt:next k % left.length < left.length:=Nat.mod_lt _ (by omega)
  have e:pickOrder.go next (fuel+1) k left out=pickOrder.go next fuel (k+1) (left.eraseIdx (next k % left.length)) (out.push left[next k % left.length]):=by
   show (match left[next k % left.length]? with | some x=>_ | none=>_)=_
   rw [List.getElem?_eq_getElem hlt]
  rw [e]
  refine (pick_go next fuel (k+1) _ _ (by rw [List.length_eraseIdx_of_lt hlt];omega)).trans ?_
  rw [Array.toList_push,List.append_assoc]
  exact List.Perm.append_left _ (erase_perm hlt)
theorem pick_perm {α:Type} (next:Nat→Nat) (xs:Array α):(pickOrder next xs).toList.Perm xs.toList:=by
 have:=pick_go next xs.size 0 xs.toList #[] (Array.length_toList)
 simpa [pickOrder] using this
section
variable {M:Model} {A:Around} {E:Value→Shared→Prop}
end
section
variable {prog:Program} {w:World}
end
end L2
namespace L2
open PySem PySem.Spec PyProof.Rows XL PySem.Calls PySem.W
section
variable {prog:Program} {w:World}
end
end L2
namespace L2
open PySem PySem.Spec PyProof.Rows XL PySem.Calls PySem.W
section
variable {prog:Program} {w:World}
end
end L2
namespace L2
open PySem PySem.Spec PyProof.Rows XL PySem.Calls PySem.W
section
variable {prog:Program} {w:World} {A:Around} {E:Value→Shared→Prop} {s:Shared}
end
end L2
namespace L2
open PySem PySem.Spec PyProof.Rows XL PySem.Calls PySem.W
theorem mem_dedup (acc:List Int) (x k:Int):k∈step_dedup acc x↔k∈acc∨k=x:=by
 unfold step_dedup
 split
 ·rename_i h
  constructor
  ·exact .inl
  ·rintro (z | z)
   ·exact z
   ·subst z
    simpa using h
 ·simp
theorem nodup_dedup {acc:List Int} (x:Int) (h:acc.Nodup):(step_dedup acc x).Nodup:=by
 unfold step_dedup
 split
 ·exact h
 ·rename_i hx
  refine List.nodup_append.mpr ⟨h,by simp,fun a ha b hb=>?_⟩
  simp at hb
  subst hb
  intro e
  subst e
  exact hx (by simpa using ha)
theorem firstMet_nodup (val:Nat→Int):∀ i,(firstMet val i).Nodup
 | 0=>.nil
 | i+1=>by rw [firstMet_succ];exact nodup_dedup _ (firstMet_nodup val i)
theorem mem_firstMet (val:Nat→Int) (k:Int):∀ i,k∈firstMet val i↔∃ j,j < i∧val j=k
 | 0=>by simp [firstMet_zero]
 | i+1=>by
  rw [firstMet_succ,mem_dedup,mem_firstMet val k i]
  constructor
  ·rintro (⟨j,h1,h2⟩ | h)
   ·exact ⟨j,by omega,h2⟩
   ·exact ⟨i,by omega,h.symm⟩
  ·rintro ⟨j,h1,h2⟩
   rcases Nat.lt_or_eq_of_le (show j≤i by omega) with z | z
   ·exact .inl ⟨j,z,h2⟩
   ·subst z
    exact .inr h2.symm
theorem mem_distinct {ns:List Int} {k:Int}:k∈distinct ns↔k∈ns:=by
 unfold distinct
 rw [mem_firstMet,List.mem_iff_getElem]
 constructor
 ·rintro ⟨j,h1,h2⟩
  exact ⟨j,h1,by rw [← h2,List.getD_eq_getElem?_getD,List.getElem?_eq_getElem h1];rfl⟩
 ·rintro ⟨j,h1,h2⟩
  exact ⟨j,h1,by rw [← h2,List.getD_eq_getElem?_getD,List.getElem?_eq_getElem h1];rfl⟩
end L2
namespace L2
open PySem PySem.Spec PyProof.Rows XL PySem.Calls PySem.W
section
variable {X:Cx} {pins:List (Addr × Obj)} {σ:St} {H:Hp} {s:Shared}
end
end L2
namespace L2
open PySem PySem.Spec PyProof.Rows XL PySem.Calls PySem.W
section
variable {prog:Program} {w:World} {A:Around} {E:Value→Shared→Prop} {s:Shared}
abbrev ISet (prog:Program) (w:World) (h:Heap) (a:Addr) (S:Int→Bool) (n:Nat):Prop:=h.SetOf (intKind prog w) a S n
theorem int_no_ref {k:Int} {v:Value} (h:(intKind prog w).is k v=true):∃ t,v=.int k t:=Value.isInt_shape (k:=k) (v:=v) h
theorem quiet_ints {sets:List Addr} {Q:Bool→Shared→Prop} (hs:∀ a∈sets,∃ S n,ISet prog w s.heap a S n) (h:Q true s):wpAny (model prog w) A (setsQuiet sets) Q E s:=by
 unfold setsQuiet
 refine wpAny_bind (wpAny_forIn_list _ (fun rest b s'=>b=⟨none,()⟩∧s'=s∧∀ a∈rest,a∈sets) _ ?_ ?_ sets _ ⟨rfl,rfl,fun _ z=>z⟩)
 ·rintro a rest b s' ⟨rfl,rfl,hm⟩
  obtain ⟨S,n,o,es,ep,t,ho,hex,hd,hel,hmm,hb,hf,hn⟩:=hs a (hm a List.mem_cons_self)
  refine wpAny_bind (m:=setEntries a) (wpAny_setEntries_of ho hd hf ?_)
  refine wpAny_bind (forIn_array_ _ (fun rest b s1=>b=⟨none,()⟩∧s1=s'∧∀ e∈rest,e∈es.toList) _ ?_ ?_ es _ ⟨rfl,rfl,fun _ z=>z⟩)
  ·rintro ⟨h1,x⟩ rest1 b s1 ⟨rfl,rfl,hm1⟩
   obtain ⟨⟨k,hk,_⟩,_⟩:=hel (h1,x) (hm1 _ List.mem_cons_self)
   obtain ⟨tk,rfl⟩:=int_no_ref (prog:=prog) (w:=w) hk
   exact wpAny_pure ⟨rfl,rfl,fun e he=>hm1 e (List.mem_cons_of_mem _ he)⟩
  ·rintro b s1 ⟨rfl,rfl,_⟩
   exact wpAny_pure ⟨rfl,rfl,fun e he=>hm e (List.mem_cons_of_mem _ he)⟩
 ·rintro b s' ⟨rfl,rfl,_⟩
  exact wpAny_pure h
theorem walk_plain {a:Addr} {es:Array (Int × Value)} {ep:Nat} {t:SetTable} (hs:SetAt s.heap a es ep t) {Q:Array (Int × Value)→Shared→Prop} (hc:w.params.followText "set-order" = true∨(t.led=true∧t.plain=true)∨es.size≤1)
  (h:∀ l:Array (Int × Value),l.toList.Perm es.toList→Q l s):wpAny (model prog w) A (setWalk a) Q E s:=by
 obtain ⟨o,ho,hex,hd⟩:=id hs.ex
 refine wpAny_bind (m:=setState a) (wpAny_setState_of ho hd hs.fits ?_)
 dsimp only
 refine wpAny_bind (m:=setsByText) (wpAny_bind (m:=ask) (wpAny_askSetting (wpAny_pure ?_)))
 dsimp only
 by_cases hw:w.params.followText "set-order" = true
 ·refine wpAny_ite_true (decide_eq_true hw) ?_
  refine wpAny_bind (m:=ask) (wpAny_askSetting (wpAny_pure ?_))
  exact h _ (pick_perm _ _)
 ·refine wpAny_ite_false (decide_eq_false hw) ?_
  have hp:(!t.plain && decide (es.size > 1))=false:=by
   rcases hc with z | z | z
   ·exact absurd z hw
   ·rw [z.2];rfl
   ·rw [decide_eq_false (by omega),Bool.and_false]
  have hl:(!t.led && decide (es.size > 1))=false:=by
   rcases hc with z | z | z
   ·exact absurd z hw
   ·rw [z.1];rfl
   ·rw [decide_eq_false (by omega),Bool.and_false]
  refine wpAny_ite_false (decide_eq_false (by show ¬ ((!t.plain && decide (es.size > 1))=true);rw [hp];exact Bool.false_ne_true)) ?_
  refine wpAny_bind (Q:=fun _ s'=>_) ?_
  show wpAny _ _ (if (!t.led && decide (es.size > 1))=true then unsupported _ else pure ()) _ _ s
  rw [hl]
  refine wpAny_ite_false (by simp) (wpAny_pure ?_)
  exact wpAny_pure (h es (.refl _))
theorem walk_unseen {a f:Addr} {others:List Addr} {es:Array (Int × Value)} {ep:Nat} {t:SetTable} (hs:SetAt s.heap a es ep t) (hq:∀ b∈a::others,∃ S n,ISet prog w s.heap b S n) {Sf:Int→Bool} {nf:Nat} (hf:ISet prog w s.heap f Sf nf) {Q:Array (Int × Value)→Shared→Prop}
  (h:∀ (l:Array (Int × Value)) (h':Heap),l.toList.Perm es.toList→Heap.SameBut f s.heap h'→ISet prog w h' f Sf nf→Q l { s with heap:=h' }):wpAny (model prog w) A (setWalkUnseen a others (some f)) Q E s:=by
 obtain ⟨o,ho,hex,hd⟩:=id hs.ex
 unfold setWalkUnseen
 refine wpAny_bind (m:=setState a) (wpAny_setState_of ho hd hs.fits ?_)
 dsimp only
 refine wpAny_bind (m:=setsByText) (wpAny_bind (m:=ask) (wpAny_askSetting (wpAny_pure ?_)))
 dsimp only
 have same:∀ l:Array (Int × Value),l.toList.Perm es.toList→Q l s:=fun l hl=>h l s.heap hl (Heap.SameBut.refl _ _) hf
 refine wpAny_ite_split (fun hc=>walk_plain hs ?_ same) (fun hc=>?_)
 ·simp at hc
  rcases hc with (z | z) | z
  ·exact .inl z
  ·exact .inr (.inl z)
  ·exact .inr (.inr z)
 refine wpAny_bind (quiet_ints hq ?_)
 refine wpAny_ite_false (by rfl) ?_
 refine wpAny_bind (wpAny_rule ?_)
 obtain ⟨of,ef,epf,tf,hof,hexf,hdf,helf,hmf,hbf,hff,hnf⟩:=id hf
 refine wpAny_bind (m:=setState f) (wpAny_setState_of hof hdf hff ?_)
 dsimp only
 refine wpAny_ite_split (fun _=>?_) (fun _=>wpAny_pure (same es (.refl _)))
 refine wpAny_bind (wpAny_storeSet_of hof hdf ?_ (fits_of_scanBound hbf))
 have st:=SetOf_store (knd:=intKind prog w) (S':=Sf) (es':=ef) (t':={ tf with led:=tf.led && t.led,plain:=tf.plain && t.plain }) hof hexf hdf helf hmf hbf hff
 subst hnf
 exact wpAny_pure (h es _ (.refl _) (Heap.SameBut.update s.heap f _) st.2)
end
end L2
namespace L2
open PySem PySem.Spec PyProof.Rows XL PySem.Calls PySem.W
section
variable {prog:Program} {w:World} {A:Around} {E:Value→Shared→Prop} {s:Shared}
theorem iset_at {h h':Heap} {a:Addr} {S n} (x:ISet prog w h a S n) (e:∀ o,h.get? a=some o→h'.get? a=some o):ISet prog w h' a S n:=by
 obtain ⟨o,es,ep,t,ho,r⟩:=x
 exact ⟨o,es,ep,t,e _ ho,r⟩
theorem iset_ty {a:Addr} {S n} (x:ISet prog w s.heap a S n):s.TypeIs (.ref a) "set" := by
 obtain ⟨o,es,ep,t,ho,hc,r⟩:=x
 exact ⟨o,ho,hc.1⟩
theorem iset_lt {h:Heap} {a:Addr} {S n} (x:ISet prog w h a S n):a < h.objs.size:=by
 obtain ⟨o,es,ep,t,ho,hc,r⟩:=x
 exact Heap.lt_size ho
theorem iset_congr {h:Heap} {a:Addr} {S S':Int→Bool} {n} (x:ISet prog w h a S n) (e:∀ k,S' k=S k):ISet prog w h a S' n:=by
 have:S'=S:=funext e
 rw [this]
 exact x
end
end L2
namespace L2
open PySem PySem.Spec PyProof.Rows XL PySem.Calls PySem.W
section
variable {prog:Program} {w:World} {A:Around} {E:Value→Shared→Prop} {s:Shared}
theorem keys_add {S:Int→Bool} {m:Nat} {L:List Int} (h1:L.Nodup) (h2:∀ i,S i=true↔i∈L) (h3:L.length=m) (k:Int):∃ L:List Int,L.Nodup∧(∀ i,(S i || decide (i=k))=true↔i∈L)∧L.length=(if S k then m else m+1):=by
 by_cases hk:S k=true
 ·refine ⟨L,h1,fun i=>?_,by rw [if_pos hk];exact h3⟩
  rw [Bool.or_eq_true,decide_eq_true_eq,h2]
  constructor
  ·rintro (z | rfl)
   ·exact z
   ·exact (h2 i).mp hk
  ·exact .inl
 ·refine ⟨k::L,List.nodup_cons.mpr ⟨fun z=>hk ((h2 k).mpr z),h1⟩,fun i=>?_,by rw [if_neg hk,List.length_cons,h3]⟩
  rw [Bool.or_eq_true,decide_eq_true_eq,h2,List.mem_cons]
  exact or_comm
theorem meetN_loop {nm:String} {q k r:Addr} {Sq Sk:Int→Bool} {nq nk:Nat} {Q:Unit→Shared→Prop} (hqr:q≠r) (hkr:k≠r) (hq:ISet prog w s.heap q Sq nq) (hk:ISet prog w s.heap k Sk nk) (hr:ISet prog w s.heap r (fun _=>false) 0)
  (h:∀ (h':Heap) (m:Nat),Heap.SameBut r s.heap h'→ISet prog w h' r (fun i=>Sq i && Sk i) m→(∃ L:List Int,L.Nodup∧(∀ i,(Sq i && Sk i)=true↔i∈L)∧L.length=m)→Q () { s with heap:=h' }) :
  wpAny (model prog w) A (do
   let was ← setEpoch k
   let __do_lift ← setWalkUnseen k [q,r] (some r)
   forIn __do_lift PUnit.unit fun x __s=>
     match x with
     | (h,x)=>do
      holding [x] do
        let __do_lift ← setFind q x h
        if __do_lift.isSome=true then do
          let _ ← setAddHashed r x h
          pure ()
         else pure ()
      Builtin.Frozenset.unchanged nm k was
      pure (ForInStep.yield PUnit.unit)
   pure ()) Q E s:=by
 obtain ⟨ok,ek,epk,tk,hok,hexk,hdk,helk,hmk,hbk,hfk,hnk⟩:=id hk
 refine wpAny_bind (m:=setEpoch k) (wpAny_bind (m:=setState k) (wpAny_setState_of hok hdk hfk (wpAny_pure ?_)))
 refine wpAny_bind (walk_unseen (prog:=prog) (w:=w) (s:=s) ⟨⟨ok,hok,hexk,hdk⟩,hfk⟩ ?_ hr fun l h1 hl hsb1 hr1=>?_)
 ·intro b hb
  simp at hb
  rcases hb with rfl | rfl | rfl
  ·exact ⟨_,_,hk⟩
  ·exact ⟨_,_,hq⟩
  ·exact ⟨_,_,hr⟩
 have hlen:l.size=ek.size:=by
  have:=hl.length_eq
  simpa using this
 refine wpAny_bind (forIn_array_ _ (fun rest _ s1=>∃ h2 S m,s1={ s with heap:=h2 }∧Heap.SameBut r s.heap h2∧ISet prog w h2 r S m∧(∃ L:List Int,L.Nodup∧(∀ i,S i=true↔i∈L)∧L.length=m)∧m+rest.length≤ek.size∧(∀ e∈rest,e∈ek.toList)∧(∀ i,S i=true→Sq i=true∧Sk i=true)∧∀ i,Sq i=true→Sk i=true→S i=true∨∃ e∈rest,(intKind prog w).is i e.2=true) _ ?_ ?_ l _ ⟨h1,_,0,rfl,hsb1,hr1,⟨[],List.nodup_nil,fun i=>by simp,rfl⟩,?_,fun e he=>hl.mem_iff.mp he,fun i z=>by simp at z,fun i z1 z2=>.inr ?_⟩)
 ·rintro ⟨hh,v⟩ rest u s1 ⟨h2,S,m,rfl,hsb,hS,⟨L,hL1,hL2,hL3⟩,hm,hin,h5,h6⟩
  dsimp only
  obtain ⟨⟨i,hi,hhash⟩,hsc⟩:=helk (hh,v) (hin _ List.mem_cons_self)
  dsimp only at hi hhash hsc
  subst hhash
  have hSk:Sk i=true:=(hmk i).mpr ⟨_,hin _ List.mem_cons_self,hi⟩
  have hq2:ISet prog w h2 q Sq nq:=iset_at hq fun o e=>hsb.extBut q o hqr e
  have hend:∀ (h3:Heap) (S3:Int→Bool) (m3:Nat),Heap.SameBut r s.heap h3→ISet prog w h3 r S3 m3→(∃ L:List Int,L.Nodup∧(∀ i,S3 i=true↔i∈L)∧L.length=m3)→m3+rest.length≤ek.size→(∀ i,S3 i=true→Sq i=true∧Sk i=true)→(∀ i,Sq i=true→Sk i=true→S3 i=true∨∃ e∈rest,(intKind prog w).is i e.2=true)→
    wpAny (model prog w) A (do Builtin.Frozenset.unchanged nm k epk;pure (ForInStep.yield PUnit.unit)) (fun rr s'=>∃ u,rr=.yield u∧∃ h2 S m,s'={ s with heap:=h2 }∧Heap.SameBut r s.heap h2∧ISet prog w h2 r S m∧(∃ L:List Int,L.Nodup∧(∀ i,S i=true↔i∈L)∧L.length=m)∧m+rest.length≤ek.size∧(∀ e∈rest,e∈ek.toList)∧(∀ i,S i=true→Sq i=true∧Sk i=true)∧∀ i,Sq i=true→Sk i=true→S i=true∨∃ e∈rest,(intKind prog w).is i e.2=true) E { s with heap:=h3 }:=fun h3 S3 m3 a1 a2 a6 a3 a4 a5=>by
   have hk3:h3.get? k=some ok:=a1.extBut k ok hkr hok
   refine wpAny_bind (m:=Builtin.Frozenset.unchanged nm k epk) (wpAny_bind (m:=setEpoch k) (wpAny_bind (m:=setState k) (wpAny_setState_of (s:={ s with heap:=h3 }) hk3 hdk hfk (wpAny_pure ?_))))
   refine wpAny_ite_false (by simp) (wpAny_pure ?_)
   exact wpAny_pure ⟨_,rfl,h3,S3,m3,rfl,a1,a2,a6,a3,fun e he=>hin e (List.mem_cons_of_mem _ he),a4,a5⟩
  have hlm:m+(rest.length+1)≤ek.size:=hm
  refine wpAny_bind (wpAny_holding (wpAny_bind (wpAny_setFind_of (s:={ s with heap:=h2 }) hi hsc hq2 fun rr hrr=>?_)))
  by_cases hqi:Sq i=true
  ·refine wpAny_ite_true (by rw [hrr,hqi];rfl) ?_
   refine wpAny_bind (wpAny_setAddHashed_of (s:={ s with heap:=h2 }) hi hsc hS (by omega) fun h3 hsb3 hS3=>wpAny_pure ?_)
   refine thn (hend h3 _ _ (hsb.trans hsb3) hS3 (keys_add hL1 hL2 hL3 i) (by split <;> omega) (fun j hj=>?_) fun j z1 z2=>?_) (by rintro rr s' ⟨u,rfl,z⟩;exact z)
   ·rcases Bool.or_eq_true_iff.mp hj with z | z
    ·exact h5 j z
    ·have:j=i:=of_decide_eq_true z
     subst this
     exact ⟨hqi,hSk⟩
   ·rcases h6 j z1 z2 with z | ⟨e,he,z⟩
    ·exact .inl (by rw [z];rfl)
    ·rcases List.mem_cons.mp he with y | y
     ·subst y
      obtain ⟨t1,e1⟩:=int_no_ref (prog:=prog) (w:=w) hi
      obtain ⟨t2,e2⟩:=int_no_ref (prog:=prog) (w:=w) z
      dsimp only at e2
      rw [e1] at e2
      injection e2 with e3
      subst e3
      exact .inl (by simp)
     ·exact .inr ⟨e,y,z⟩
  ·refine wpAny_ite_false (by rw [hrr];simp at hqi;rw [hqi];rfl) (wpAny_pure ?_)
   refine thn (hend h2 _ _ hsb hS ⟨L,hL1,hL2,hL3⟩ (by omega) h5 fun j z1 z2=>?_) (by rintro rr s' ⟨u,rfl,z⟩;exact z)
   rcases h6 j z1 z2 with z | ⟨e,he,z⟩
   ·exact .inl z
   ·rcases List.mem_cons.mp he with y | y
    ·subst y
     obtain ⟨t1,e1⟩:=int_no_ref (prog:=prog) (w:=w) hi
     obtain ⟨t2,e2⟩:=int_no_ref (prog:=prog) (w:=w) z
     dsimp only at e2
     rw [e1] at e2
     injection e2 with e3
     subst e3
     exact absurd z1 hqi
    ·exact .inr ⟨e,y,z⟩
 ·rintro u s1 ⟨h2,S,m,rfl,hsb,hS,⟨L,hL1,hL2,hL3⟩,hm,hin,h5,h6⟩
  have hSS:∀ i,(Sq i && Sk i)=S i:=fun i=>by
   rw [Bool.eq_iff_iff,Bool.and_eq_true]
   constructor
   ·rintro ⟨z1,z2⟩
    rcases h6 i z1 z2 with z | ⟨e,he,z⟩
    ·exact z
    ·cases he
   ·exact h5 i
  exact wpAny_pure (h h2 m hsb (iset_congr hS hSS) ⟨L,hL1,fun i=>by rw [hSS i];exact hL2 i,hL3⟩)
 ·rw [Array.length_toList]
  omega
 ·obtain ⟨e,he,z⟩:=(hmk i).mp z2
  exact ⟨e,hl.mem_iff.mpr he,z⟩
theorem meetN {nm:String} {a b:Addr} {S1 S2:Int→Bool} {n1 n2:Nat} {Q:Value→Shared→Prop} (hne:a≠b) (ha:ISet prog w s.heap a S1 n1) (hb:ISet prog w s.heap b S2 n2)
  (h:∀ (h':Heap) (m:Nat),(∀ c o,s.heap.get? c=some o→h'.get? c=some o)→ISet prog w h' s.heap.objs.size (fun k=>S1 k && S2 k) m→(∃ L:List Int,L.Nodup∧(∀ i,(S1 i && S2 i)=true↔i∈L)∧L.length=m)→Q (.ref s.heap.objs.size) { s with heap:=h' }) :
  wpAny (model prog w) A (Builtin.Frozenset.intersection nm a (.ref b)) Q E s:=by
 unfold Builtin.Frozenset.intersection
 refine wpAny_ite_false (by simp [Ne.symm hne]) ?_
 refine wpAny_bind (m:=Builtin.Frozenset.baseOf a) (wpAny_bind (wpAny_isInstance (iset_ty ha) sub_set_self (wpAny_pure ?_)))
 refine wpAny_bind (m:=newSet _) (new_led ?_)
 refine wpAny_bind (m:=Builtin.Frozenset.addrOf _) (wpAny_pure ?_)
 obtain ⟨hp,ehp⟩:∃ hp,s.heap.push { cls:=Value.type "set",data:=Data.set #[] 0 (SetTable.fresh 0 0 (ledOf w)) }=hp:=⟨_,rfl⟩
 have hR:ISet prog w hp s.heap.objs.size (fun _=>false) 0:=by
  subst ehp
  refine ⟨_,#[],0,_,Heap.get?_push_size _ rfl,⟨rfl,rfl,rfl⟩,rfl,fun e he=>by simp at he,fun k=>by simp,by decide,rfl,rfl⟩
 have old:∀ c o,s.heap.get? c=some o→hp.get? c=some o:=fun c o e=>by
  subst ehp
  exact Heap.get?_push_of_some _ e
 rw [ehp]
 have ha':=iset_at ha (old a)
 have hb':=iset_at hb (old b)
 have ra:a≠s.heap.objs.size:=Nat.ne_of_lt (iset_lt ha)
 have rb:b≠s.heap.objs.size:=Nat.ne_of_lt (iset_lt hb)
 refine wpAny_bind (wpAny_holding ?_)
 refine wpAny_bind (m:=Builtin.Frozenset.isAnySet _) ?_
 refine wpAny_bind (wpAny_isInstance (s:={ s with heap:=hp }) (iset_ty (s:={ s with heap:=hp }) hb') sub_set_self ?_)
 refine wpAny_pure ?_
 refine wpAny_ite_true (by rfl) ?_
 refine wpAny_bind (m:=Builtin.Frozenset.addrOf _) (wpAny_pure ?_)
 obtain ⟨oa,ea,epa,ta,hoa,hexa,hda,hela,hma,hba,hfa,hna⟩:=id ha'
 obtain ⟨ob,eb,epb,tb,hob,hexb,hdb,helb,hmb,hbb,hfb,hnb⟩:=id hb'
 refine wpAny_bind (m:=Builtin.Frozenset.sizeOf _) (wpAny_bind (wpAny_setEntries_of hob hdb hfb (wpAny_pure ?_)))
 refine wpAny_bind (m:=Builtin.Frozenset.sizeOf _) (wpAny_bind (wpAny_setEntries_of hoa hda hfa (wpAny_pure ?_)))
 have fin:∀ (h':Heap) (m:Nat),Heap.SameBut s.heap.objs.size hp h'→ISet prog w h' s.heap.objs.size (fun k=>S1 k && S2 k) m→(∃ L:List Int,L.Nodup∧(∀ i,(S1 i && S2 i)=true↔i∈L)∧L.length=m)→wpAny (model prog w) A (pure (Value.ref s.heap.objs.size)) Q E { s with heap:=h' }:=fun h' m z1 z2 z3=>wpAny_pure (h h' m (fun c o e=>z1.extBut c o (Nat.ne_of_lt (Heap.lt_size e)) (old c o e)) z2 z3)
 by_cases hc:eb.size > ea.size
 ·rw [if_pos hc]
  refine meetN_loop (s:={ s with heap:=hp }) rb ra hb' ha' hR fun h' m z1 z2 z3=>?_
  obtain ⟨L,l1,l2,l3⟩:=z3
  exact fin h' m z1 (iset_congr z2 fun k=>Bool.and_comm _ _) ⟨L,l1,fun i=>by rw [Bool.and_comm];exact l2 i,l3⟩
 ·rw [if_neg hc]
  refine meetN_loop (s:={ s with heap:=hp }) ra rb ha' hb' hR fun h' m z1 z2 z3=>?_
  exact fin h' m z1 z2 z3
end
end L2
namespace L2
open PySem PySem.Spec PyProof.Rows XL PySem.Calls PySem.W
theorem entry_set_and:entryFor table "set.__and__" = some Builtin.«frozenset.__and__»:=
 entryFor_alias (id' := "frozenset.__and__") (by kernel_rfl) rfl (by decide +kernel) (by kernel_rfl)
theorem iset_none {prog:Program} {w:World} {h:Heap} {a:Addr} {S:Int→Bool} {m:Nat} (x:ISet prog w h a S m):(m=0↔∀ k,S k=false)∧m < scanBound:=by
 obtain ⟨o,es,ep,t,ho,hc,hd,hel,hm,hb,hf,hn⟩:=x
 refine ⟨⟨fun z k=>?_,fun z=>?_⟩,by omega⟩
 ·rcases hk:S k with _ | _
  ·rfl
  ·obtain ⟨e,he,_⟩:=(hm k).mp hk
   have h0:es.toList.length=0:=by rw [Array.length_toList];omega
   rw [List.eq_nil_of_length_eq_zero h0] at he
   cases he
 ·rcases Nat.eq_zero_or_pos m with y | y
  ·exact y
  ·have hl:0 < es.toList.length:=by rw [Array.length_toList];omega
   obtain ⟨⟨k,hk,_⟩,_⟩:=hel es.toList[0] (List.getElem_mem hl)
   have:=(hm k).mpr ⟨_,List.getElem_mem hl,hk⟩
   rw [z k] at this
   cases this
end L2
namespace L2
open PySem PySem.Spec PyProof.Rows XL PySem.Calls PySem.W
def rAndN:R2:=fun x y H Q=>∃ (a b:Addr) (S1 S2:Int→Bool) (n1 n2:Nat),x=.ref a∧y=.ref b∧a≠b∧H a=some (.set S1 n1)∧H b=some (.set S2 n2)∧
 ∀ (d:Addr) (m:Nat) (L:List Int),H d=none→L.Nodup→(∀ k,(S1 k && S2 k)=true↔k∈L)→L.length=m→m < scanBound→Q (.ref d) (upd H d (.set (fun k=>S1 k && S2 k) m))
theorem op_andSetN {X:Cx}:OpR X (binaryOp .BitAnd) rAndN:=by
 rintro pins s σ H x y v u Q I rx ry ⟨a,b,S1,S2,n1,n2,rfl,rfl,hne,ha,hb,q⟩
 cases rx
 cases ry
 have hA:ISet X.prog X.w s.heap a S1 n1:=I.hok a _ ha
 have hB:ISet X.prog X.w s.heap b S2 n2:=I.hok b _ hb
 refine wpAny_binaryOp_same (iset_ty hA) (iset_ty hB) F.fills_set_and F.slot_set_and (wpAny_call_entry F.slot_set_and (iset_ty hA) entry_set_and ?_ (F.args_set_and_2 _ _))
 unfold Builtin.«frozenset.__and__»
 refine wpAny_bind (m:=Builtin.Frozenset.slot1 "__and__" _) ?_
 refine wpAny_bind (m:=slotArgs "__and__" 1 _) (wpAny_pure ?_)
 refine wpAny_pure ?_
 dsimp only
 refine wpAny_bind (Q:=fun _ s'=>_) ?_
 refine wpAny_bind (m:=Builtin.Frozenset.isAnySet (.ref a)) (wpAny_bind (m:=isInstance _ _) (wpAny_isInstance (iset_ty hA) sub_set_self (wpAny_pure ?_)))
 refine wpAny_bind (m:=isInstance (.ref b) (.type "set")) (wpAny_isInstance (iset_ty hB) sub_set_self (wpAny_pure ?_))
 refine wpAny_ite_false (by rfl) ?_
 refine wpAny_bind (m:=Builtin.Frozenset.addrOf (.ref a)) (wpAny_pure ?_)
 refine wpAny_bind (m:=Builtin.Frozenset.intersection _ a (.ref b)) (meetN hne hA hB fun h' m hk hS hL=>?_)
 obtain ⟨_,z1⟩:=iset_none hS
 obtain ⟨L,l1,l2,l3⟩:=hL
 exact wpAny_pure ⟨_,rfl,by simp,.ref s.heap.objs.size,_,I.laid (t':=s.toks) (o:=.set (fun k=>S1 k && S2 k) m) hk (Nat.le_refl _) hS,rfl,q _ m L I.fresh l1 l2 l3 z1⟩
end L2
namespace L2
open PySem PySem.Spec PyProof.Rows XL PySem.Calls PySem.W
end L2
namespace L2
open PySem PySem.Spec PyProof.Rows XL PySem.Calls PySem.W
end L2
namespace K26
open PySem L2 XM
def top (i:Nat):Stmt:=PySem.Challenge.pw_bridgecrews_k26_levels_looked_at.main.body.getD i (.Pass ⟨0,0,0,0⟩)
abbrev sIsq:Stmt:=top 9
abbrev sJoin:Stmt:=top 10
abbrev sRises:Stmt:=top 11
abbrev sRisesB:Stmt:=top 12
abbrev sTogether:Stmt:=top 13
abbrev sOnce:Stmt:=top 14
abbrev sGroups:Stmt:=top 15
abbrev sCheck:Stmt:=top 16
abbrev sCheckS:Stmt:=top 17
abbrev sSteps:Stmt:=top 19
abbrev sReach:Stmt:=top 20
abbrev sWayTo:Stmt:=top 21
abbrev sBetween:Stmt:=top 22
abbrev sRing:Stmt:=top 23
abbrev sIsDeal:Stmt:=top 25
abbrev sAreHud:Stmt:=top 26
abbrev sLies:Stmt:=top 27
abbrev sMostBy:Stmt:=top 28
abbrev sTakes:Stmt:=top 29
abbrev sLevel:Stmt:=top 31
abbrev sNumbers:Stmt:=top 35
abbrev sTown:Stmt:=top 36
abbrev sWholeN:Stmt:=top 37
abbrev sLRises:Stmt:=top 38
abbrev sRingless:Stmt:=top 39
abbrev sDealing:Stmt:=top 40
abbrev sLHuddles:Stmt:=top 41
abbrev sLRoom:Stmt:=top 42
abbrev sDealtBy:Stmt:=top 43
abbrev sHuddledBy:Stmt:=top 44
abbrev sSpDealing:Stmt:=top 45
abbrev sSpHuddles:Stmt:=top 46
abbrev sSpSome:Stmt:=top 47
abbrev sRefused:Stmt:=top 48
abbrev sLaw:Stmt:=top 49
abbrev sInit:Stmt:=inClass (top 33) 0
abbrev sCalledS:Stmt:=inClass (top 3) 0
def P2 (H:Hp) (x:V) (p:Int × Int):Prop:=∃ a,x=.ref a∧H a=some (.tup [.int p.1,.int p.2])
abbrev PV (H:Hp):List V→PP→Prop:=All2 (P2 H)
theorem PV.mono {H H':Hp} {xs:List V} {ps:PP} (s:∀ b ys,H b=some (.tup ys)→H' b=some (.tup ys)) (h:PV H xs ps):PV H' xs ps:=
 All2.imp (fun _ _ ⟨a,e,q⟩=>⟨a,e,s a _ q⟩) h
theorem PV.same {H H':Hp} {xs:List V} {ps:PP} (s:Same H H') (h:PV H xs ps):PV H' xs ps:=h.mono fun b ys e=>s b _ e
abbrev LI (H:Hp) (l:Addr) (ns:List Int):Prop:=H l=some (.lst (ns.map V.int))
def L1 (H:Hp) (x:V) (ns:List Int):Prop:=∃ a,x=.ref a∧LI H a ns
abbrev LS (H:Hp):List V→List (List Int)→Prop:=All2 (L1 H)
theorem LS.same {H H':Hp} {xs:List V} {nss:List (List Int)} (s:Same H H') (h:LS H xs nss):LS H' xs nss:=All2.imp (fun _ _ ⟨a,e,q⟩=>⟨a,e,s a _ q⟩) h
structure Txt (K:W.Frag) (mg:Str→Option Value) (CE CS CQ CT:Addr):Prop where
 mgCE:mg "CrewError" = some (.ref CE)
 mgBS:mg "BadSome" = some (.ref CS)
 mgT:mg "Town" = some (.ref CT)
 errS:Err K CS "ValueError" "ValueError.__new__" "ValueError.__init__" [.type "ValueError",.type "Exception",.type "BaseException",.type "object"]
 askS:ErrA K CS
 nmE:Named K CE
 subS:W.mroIn K CS (.ref CE)=some true
 sV:W.kitOne K (.ref CS) (.type "ValueError")=some true
 two:∃ a b,mg "BadCount" = some (.ref a)∧mg "BadWages" = some (.ref b)∧W.kitAny K (.ref CS) [.ref a,.ref b]=some false
 cl:Cls K CT
 nq:NoAttr K CT "quarters"
 nb:NoAttr K CT "bridges"
 mq:∃ t,mg "MOST_QUARTERS" = some (.int 24 t)
 mb:∃ t,mg "MOST_BRIDGES" = some (.int 60 t)
 len:mg "len" = none
 list:mg "list" = none
 range:mg "range" = none
 isi:mg "isinstance" = none
 int:mg "int" = none
 bool:mg "bool" = none
 all:mg "all" = none
 any:mg "any" = none
 zip:mg "zip" = none
 max:mg "max" = none
 min:mg "min" = none
 set:mg "set" = none
 sum:mg "sum" = none
 rev:mg "reversed" = none
 sorted:mg "sorted" = none
 enum:mg "enumerate" = none
 verr:mg "ValueError" = none
section
variable {P:Program} {w:World} {K:W.Frag} {mg:Str→Option Value} {base:Heap} {CE CS CQ CT:Addr}
theorem boot_all:bootBuiltins "all" = some (.builtin "all"):=by decide +kernel
theorem boot_sum:bootBuiltins "sum" = some (.builtin "sum"):=by decide +kernel
theorem boot_set:bootBuiltins "set" = some (.type "set"):=by decide +kernel
theorem boot_sorted:bootBuiltins "sorted" = some (.builtin "sorted"):=by decide +kernel
theorem boot_max:bootBuiltins "max" = some (.builtin "max"):=by decide +kernel
theorem boot_isi:bootBuiltins "isinstance" = some (.builtin "isinstance"):=by decide +kernel
theorem bt_int:bootBuiltins "int" = some (.type "int"):=by decide +kernel
theorem bt_bool:bootBuiltins "bool" = some (.type "bool"):=by decide +kernel
theorem bt_list:bootBuiltins "list" = some (.type "list"):=by decide +kernel
theorem boot_verr:bootBuiltins "ValueError" = some (.type "ValueError"):=by decide +kernel
theorem take_snoc {α β:Type} {xs:List α} {f:α→β} {i:Nat} {x:α} (h:xs[i]?=some x):(xs.take (i+1)).map f=(xs.take i).map f++[f x]:=by
 rw [List.take_add_one,h,List.map_append]
 rfl
theorem take_snoc' {α:Type} {xs:List α} {i:Nat} {x:α} (h:xs[i]?=some x):xs.take (i+1)=xs.take i++[x]:=by
 rw [List.take_add_one,h]
 rfl
def rising (ns:List Int):Bool:=(ns.zip ns.tail).all fun p=>decide (p.1 < p.2)
inductive spRisesI  (vs:List V) (H:Hp) (Q:VK) (E:XK):Prop
 | mk (l:Addr) (ns:List Int):(vs=[.ref l])→(LI H l ns)→(ns.length≤1000)→(∀ H',Same H H'→Q (.bl (rising ns)) H')→spRisesI  vs H Q E
def spRises  : Sp:=fun vs H Q E=>spRisesI  vs H Q E
theorem scRises:FnScope ["numbers"] ["numbers"] (defScope sRises):=⟨rfl,rfl,rfl,by decide +kernel,rfl,by decide +kernel,by decide +kernel⟩
theorem cut1 (ns:List Int):cutV (ns.map V.int) (some 1) none=ns.tail.map V.int:=by
 unfold cutV
 have e1:HT.sIx (ns.map V.int).length 0 (some 1)=min 1 ns.length:=by
  rw [show (some (1:Int))=some ((1:Nat):Int) from rfl,HT.sIx_nat,List.length_map]
 rw [e1]
 cases ns with
 | nil=>rfl
 | cons n r=>
  have:min 1 (n::r).length=1:=by simp
  rw [this]
  simp [HT.sIx]
  rw [← List.length_map (f:=V.int),List.take_length]
theorem ok_rises {f:Addr} {fd:FuncData} (T:Txt K mg CE CS CQ CT) (F:Fun K "rises" "rises" sRises f fd):FnOk P w K mg base CX0 1 f fd ["numbers"] spRises:=by
 refine F.ok scRises (fun vs H Q E h=>?_) (fun cdv A outer s H vs Q E hr h=>?_)
 ·obtain ⟨l,ns,rfl,_⟩:=h
  rfl
 ·obtain ⟨l,ns,rfl,hl,hn,kQ⟩:=h
  have nd2:(((["one", "other"]:List Str))++[]).Nodup:=by decide +kernel
  refine ⟨_,pss_one (ps_ret (pe_callB (c_all rfl) (by rfl) T.all boot_all (pa_cons (pe_comp (own:=["one", "other"]) (caps:=[]) (cs:=[]) (sc:=defScope sRises) ⟨rfl,rfl,by decide +kernel,by decide +kernel,by decide +kernel,by decide +kernel,rfl⟩ rfl
   (pi_zip (by rfl) T.zip (pa_cons (pv 0) (pa_cons (pe_slice sl_list (pv 0) (po_some pe_int) po_none) pa_nil)))
   (fun _ _ _ _ _=>pg_tup (n:=2) rfl (pgs_cons (pg_name (i:=0) nd2 rfl (Or.inl rfl) (.inr rfl)) (pgs_cons (pg_name (i:=1) nd2 rfl (Or.inl rfl) (.inr rfl)) pgs_nil)))
   (fun _ _ _ _ _=>pf_nil) (fun _ _ _ _ _=>pe_cmpR op_lt (pv 0) (pv 1) (nomark _))) pa_nil))),?_⟩
  try dsimp only [cx_of,cx_nox,cx_comp]
  refine ⟨_,rfl,_,rfl,1,rfl,l,_,rfl,SqL.of hl,fun l2 hl2=>?_⟩
  rw [cut1]
  have s1:Same H (upd H l2 (.lst (ns.tail.map V.int))):=Same.rfl'.new hl2
  refine ⟨l,l2,_,_,rfl,SqL.of (s1 _ _ hl),SqL.of upd_same,fun D hD=>comp_ext (n:=(ns.zip ns.tail).length) hD (fun i=>((ns.zip ns.tail).take i).map fun p=>V.bl (decide (p.1 < p.2))) rfl (fun i hi=>?_) (fun i H2 hi sm hD2=>?_) (fun H2 sm hD2=>?_)⟩
  ·rw [List.length_map,List.length_take]
   have:i < 1000:=by rw [List.length_zip] at hi;omega
   exact small1000 (by omega)
  ·have q1:LI H2 l ns:=sm _ _ (s1 _ _ hl)
   have q2:LI H2 l2 ns.tail:=sm _ _ upd_same
   have hi1:i < ns.length:=by rw [List.length_zip] at hi;omega
   have hi2:i < ns.tail.length:=by rw [List.length_zip] at hi;omega
   have e1:(ns.map V.int)[i]?=some (.int ns[i]):=by rw [List.getElem?_map,List.getElem?_eq_getElem hi1];rfl
   have e2:(ns.tail.map V.int)[i]?=some (.int ns.tail[i]):=by rw [List.getElem?_map,List.getElem?_eq_getElem hi2];rfl
   refine ⟨⟨_,_,_,_,SqL.of q1,SqL.of q2,e1,e2⟩,fun K1 K2 k1 k2 x H' y=>?_⟩
   obtain ⟨t,rfl,ht,e⟩:=y
   rw [e _ _ _ _ (SqL.of q1) (SqL.of q2) e1 e2]
   refine ⟨t,_,rfl,SqT.of upd_same,rfl,_,_,rfl,_,_,rfl,rfl,rfl,noIf (A:=fun _ H3=>tOp _ _ _ _ H3 K1) (B:=fun _ H3=>K2 H3) ⟨_,rfl,_,rfl,_,_,rfl,rfl,k1 _ _ (Same.rfl'.new ht) ?_⟩⟩
   rw [take_snoc (x:=(ns[i],ns.tail[i])) (by rw [List.getElem?_zip_eq_some];exact ⟨List.getElem?_eq_getElem hi1,List.getElem?_eq_getElem hi2⟩)]
  ·have q1:LI H2 l ns:=sm _ _ (s1 _ _ hl)
   have q2:LI H2 l2 ns.tail:=sm _ _ upd_same
   refine ⟨⟨_,_,SqL.of q1,SqL.of q2,?_⟩,D,(ns.zip ns.tail).map fun p=>decide (p.1 < p.2),rfl,SqL.of ?_,?_⟩
   ·rw [List.length_map,List.length_map,List.length_zip]
    omega
   ·rw [hD2,List.take_length,List.map_map]
    rfl
   ·have e:((ns.zip ns.tail).map fun p=>decide (p.1 < p.2)).all id=rising ns:=by
     unfold rising
     rw [List.all_map]
     rfl
    rw [e]
    exact kQ H2 (s1.tr sm)
def inR (c n:Int):Bool:=decide (0≤n) && decide (n < c)
def risesB (ns:List Int) (c:Int):Bool:=rising ns && ns.all (inR c)
inductive spRisesBI  (vs:List V) (H:Hp) (Q:VK) (E:XK):Prop
 | mk (l:Addr) (ns:List Int) (c:Int):(vs=[.ref l,.int c])→(LI H l ns)→(ns.length≤1000)→(∀ H',Same H H'→Q (.bl (risesB ns c)) H')→spRisesBI  vs H Q E
def spRisesB  : Sp:=fun vs H Q E=>spRisesBI  vs H Q E
theorem scRisesB:FnScope ["numbers", "count"] ["numbers", "count"] (defScope sRisesB):=⟨rfl,rfl,rfl,by decide +kernel,rfl,by decide +kernel,by decide +kernel⟩
theorem ok_risesB {f f1:Addr} {fd fd1:FuncData} (T:Txt K mg CE CS CQ CT) (F:Fun K "rises_below" "rises_below" sRisesB f fd) (G1:FnOk P w K mg base CX0 1 f1 fd1 ["numbers"] spRises) (b1:Binds K fd1 ["numbers"] []) (m1:mg "rises" = some (.ref f1)) (k1:W.keepIn K (.ref f1)=true) :
  FnOk P w K mg base CX0 2 f fd ["numbers", "count"] spRisesB:=by
 refine F.ok scRisesB (fun vs H Q E h=>?_) (fun cdv A outer s H vs Q E hr h=>?_)
 ·obtain ⟨l,ns,c,rfl,_⟩:=h
  rfl
 ·obtain ⟨l,ns,c,rfl,hl,hn,kQ⟩:=h
  have nd2:((["number"]:List Str)++(["count"]:List Str)).Nodup:=by decide +kernel
  refine ⟨_,pss_one (ps_ret (pe_and (pe_call G1 hr rfl m1 k1 b1 .nil pass0 (pa_cons (pv 0) pa_nil)) (pe_one (pe_callB (c_all rfl) (by rfl) T.all boot_all (pa_cons
   (pe_comp (own:=["number"]) (caps:=["count"]) (cs:=[1]) (sc:=defScope sRisesB) ⟨rfl,rfl,by decide +kernel,by decide +kernel,by decide +kernel,by decide +kernel,rfl⟩ rfl
   (pi_list (pv 0)) (fun _ _ _ _ _=>pg_name (i:=0) nd2 rfl (Or.inl rfl) (.inr rfl)) (fun _ _ _ _ _=>pf_nil) (fun _ _ _ _ _=>pe_chain op_le op_lt pe_int (pv 0) (pv 1))) pa_nil))))),?_⟩
  try dsimp only [cx_of,cx_nox,cx_comp]
  refine ⟨_,rfl,l,ns,rfl,hl,hn,fun H1 s1=>?_⟩
  refine ⟨_,rfl,?_⟩
  have e0:risesB ns c=(rising ns && ns.all (inR c)):=rfl
  cases hr:rising ns with
  | false=>
   refine iteF ?_
   have:=kQ H1 s1
   rw [e0,hr] at this
   exact this
  | true=>
   have q1:LI H1 l ns:=s1 _ _ hl
   refine iteT ⟨_,rfl,l,rfl,⟨_,SqL.of q1⟩,fun D hD=>comp_ext0 (n:=ns.length) hD (fun i=>(ns.take i).map fun n=>V.bl (inR c n)) rfl (fun i hi=>?_) (fun i H2 hi sm hD2=>?_) (fun H2 sm hD2=>?_)⟩
   ·rw [List.length_map,List.length_take]
    exact small1000 (by omega)
   ·have q2:LI H2 l ns:=sm _ _ q1
    have e1:(ns.map V.int)[i]?=some (.int ns[i]):=by rw [List.getElem?_map,List.getElem?_eq_getElem hi];rfl
    refine ⟨⟨_,_,SqL.of q2,e1⟩,fun K1 k1 x H' y=>?_⟩
    obtain ⟨rfl,e⟩:=y
    have ex:=e _ (SqL.of q2)
    rw [e1] at ex
    cases ex
    refine ⟨rfl,⟨_,rfl,_,_,rfl,rfl,_,rfl,?_⟩⟩
    have fin:∀ b,b=inR c ns[i]→K1 (.bl b) H':=fun b eb=>k1 _ _ Same.rfl' (by rw [take_snoc (List.getElem?_eq_getElem hi),eb])
    by_cases h0:0≤ns[i]
    ·rw [decide_eq_true h0]
     refine iteT ⟨_,rfl,_,_,rfl,rfl,fin _ ?_⟩
     unfold inR
     rw [decide_eq_true h0]
     rfl
    ·rw [decide_eq_false h0]
     refine iteF (fin _ ?_)
     unfold inR
     rw [decide_eq_false h0]
     rfl
   ·have q2:LI H2 l ns:=sm _ _ q1
    refine ⟨⟨_,SqL.of q2,by rw [List.length_map];exact Nat.le_refl _⟩,D,ns.map (inR c),rfl,SqL.of ?_,?_⟩
    ·rw [hD2,List.take_length,List.map_map]
     rfl
    ·have:=kQ H2 (s1.tr sm)
     rw [e0,hr,Bool.true_and] at this
     rw [List.all_map]
     exact this
theorem dec_nat {a b:Nat}:decide (V.int (a:Int)=V.int (b:Int))=decide (a=b):=decide_eq_decide.mpr ⟨fun e=>by cases e;omega,fun e=>by rw [e]⟩
theorem dec_int {a b:Int}:decide (V.int a=V.int b)=decide (a=b):=decide_eq_decide.mpr ⟨fun e=>by cases e;rfl,fun e=>by rw [e]⟩
inductive spIsqI  (vs:List V) (H:Hp) (Q:VK) (E:XK):Prop
 | mk (a q:_):(vs=[.int a,.int q])→(Q (.bl (decide (0≤a) && decide (a < q))) H)→spIsqI  vs H Q E
def spIsq  : Sp:=fun vs H Q E=>spIsqI  vs H Q E
theorem scIsq:FnScope ["number", "quarters"] ["number", "quarters"] (defScope sIsq):=⟨rfl,rfl,rfl,by decide +kernel,rfl,by decide +kernel,by decide +kernel⟩
theorem ok_isq {f:Addr} {fd:FuncData} (F:Fun K "is_quarter" "is_quarter" sIsq f fd):FnOk P w K mg base CX0 1 f fd ["number", "quarters"] spIsq:=by
 refine F.ok scIsq (fun vs H Q E h=>?_) (fun cdv A outer s H vs Q E hr h=>?_)
 ·obtain ⟨a,q,rfl,_⟩:=h
  rfl
 ·obtain ⟨a,q,rfl,k⟩:=h
  refine ⟨_,pss_one (ps_ret (pe_chain op_le op_lt pe_int (pv 0) (pv 1))),?_⟩
  try dsimp only [cx_of,cx_nox,cx_comp]
  refine ⟨_,rfl,_,_,rfl,rfl,_,rfl,?_⟩
  by_cases h:0≤a
  ·rw [decide_eq_true h] at k ⊢
   exact iteT ⟨_,rfl,_,_,rfl,rfl,k⟩
  ·rw [decide_eq_false h] at k ⊢
   exact iteF k
inductive spJoinI  (vs:List V) (H:Hp) (Q:VK) (E:XK):Prop
 | mk (a b q:_):(vs=[.int a,.int b,.int q])→(Q (.bl (okPair q (a,b))) H)→spJoinI  vs H Q E
def spJoin  : Sp:=fun vs H Q E=>spJoinI  vs H Q E
theorem scJoin:FnScope ["one", "other", "quarters"] ["one", "other", "quarters"] (defScope sJoin):=⟨rfl,rfl,rfl,by decide +kernel,rfl,by decide +kernel,by decide +kernel⟩
theorem ok_join {f f1:Addr} {fd fd1:FuncData} (F:Fun K "joins_two" "joins_two" sJoin f fd) (F1:Fun K "is_quarter" "is_quarter" sIsq f1 fd1) (b1:Binds K fd1 ["number", "quarters"] []) (m1:mg "is_quarter" = some (.ref f1)) :
  FnOk P w K mg base CX0 2 f fd ["one", "other", "quarters"] spJoin:=by
 have G1:FnOk P w K mg base CX0 1 f1 fd1 ["number", "quarters"] spIsq:=ok_isq F1
 refine F.ok scJoin (fun vs H Q E h=>?_) (fun cdv A outer s H vs Q E hr h=>?_)
 ·obtain ⟨a,b,q,rfl,_⟩:=h
  rfl
 ·obtain ⟨a,b,q,rfl,k⟩:=h
  refine ⟨_,pss_one (ps_ret (pe_and (pe_call G1 hr (by rfl) m1 F1.kp b1 .nil pass0 (pa_cons (pv 0) (pa_cons (pv 2) pa_nil)))
   (pe_and (pe_call G1 hr (by rfl) m1 F1.kp b1 .nil pass0 (pa_cons (pv 1) (pa_cons (pv 2) pa_nil))) (pe_one (pe_cmpR op_ne (pv 0) (pv 1) (nomark _)))))),?_⟩
  try dsimp only [cx_of,cx_nox,cx_comp]
  refine ⟨_,rfl,_,rfl,a,q,rfl,_,rfl,?_⟩
  unfold okPair at k
  dsimp only at k
  cases h1:(decide (0≤a) && decide (a < q)) with
  | false=>
   rw [h1] at k
   exact iteF k
  | true=>
   rw [h1] at k
   refine iteT ⟨_,rfl,_,rfl,b,q,rfl,_,rfl,?_⟩
   cases h2:(decide (0≤b) && decide (b < q)) with
   | false=>
    rw [h2] at k
    exact iteF k
   | true=>
    rw [h2] at k
    refine iteT ⟨_,rfl,_,rfl,rfl,?_⟩
    have e:decide (V.int a=V.int b)=decide (a=b):=by simp
    rw [e]
    exact k
inductive spCheckI  (vs:List V) (H:Hp) (Q:VK) (E:XK):Prop
 | mk (q:Int) (l:Addr) (xs:List V) (ps:PP):(vs=[.int q,.ref l])→(H l=some (.lst xs))→(PV H xs ps)→(fits q ps=true)→(Q .non H)→spCheckI  vs H Q E
def spCheck  : Sp:=fun vs H Q E=>spCheckI  vs H Q E
theorem scCheck:FnScope ["quarters", "bridges", "one", "other"] ["quarters", "bridges"] (defScope sCheck):=⟨rfl,rfl,rfl,by decide +kernel,rfl,by decide +kernel,by decide +kernel⟩
theorem fits_iff {q:Int} {ps:PP} (h:fits q ps=true):(1≤q∧q≤24)∧ps.length≤60∧∀ p∈ps,okPair q p=true:=by
 unfold fits at h
 simp only [Bool.and_eq_true,decide_eq_true_eq,List.all_eq_true] at h
 exact ⟨h.1,h.2.1,h.2.2⟩
theorem ok_check {f f1:Addr} {fd fd1:FuncData} (T:Txt K mg CE CS CQ CT) (F:Fun K "check_town" "check_town" sCheck f fd) (G1:FnOk P w K mg base CX0 2 f1 fd1 ["one", "other", "quarters"] spJoin) (b1:Binds K fd1 ["one", "other", "quarters"] []) (m1:mg "joins_two" = some (.ref f1)) (k1:W.keepIn K (.ref f1)=true) :
  FnOk P w K mg base CX0 3 f fd ["quarters", "bridges"] spCheck:=by
 obtain ⟨t24,m24⟩:=T.mq
 obtain ⟨t60,m60⟩:=T.mb
 refine F.ok scCheck (fun vs H Q E h=>?_) (fun cdv A outer s H vs Q E hr h=>?_)
 ·obtain ⟨q,l,xs,ps,rfl,_⟩:=h
  rfl
 ·obtain ⟨q,l,xs,ps,rfl,hl,hp,hf,kQ⟩:=h
  obtain ⟨⟨h1,h2⟩,h3,h4⟩:=fits_iff hf
  refine ⟨_,pss_cons (ps_if (pt_not (pt_chain op_le op_le pe_int (pv 0) (pe_glob (v:=.int 24) (by rfl) m24 ⟨_,rfl⟩))) (pss_one ps_never) pss_nil)
   (pss_cons (ps_if (pt_cmpR op_gt (pe_callB c_len (by rfl) T.len PySem.boot_len (pa_cons (pv 1) pa_nil)) (pe_glob (v:=.int 60) (by rfl) m60 ⟨_,rfl⟩) (nomark _)) (pss_one ps_never) pss_nil)
   (pss_one (ps_for PassesOwn.never rfl (pi_list (pv 1)) (pg_tup rfl (pgs_cons (pg_name (i:=2) scCheck.nd rfl (Or.inl rfl)) (pgs_cons (pg_name (i:=3) scCheck.nd rfl (Or.inl rfl)) pgs_nil)))
    (pss_one (ps_if (pt_not (pt_val (pe_call G1 hr (by rfl) m1 k1 b1 .nil pass0 (pa_cons (pv 2) (pa_cons (pv 3) (pa_cons (pv 0) pa_nil)))))) (pss_one ps_never) pss_nil))))),?_⟩
  try dsimp only [cx_of,cx_nox,cx_comp]
  have hlen:=hp.length
  refine ⟨_,rfl,_,_,rfl,rfl,_,rfl,?_⟩
  rw [decide_eq_true h1]
  refine iteT ⟨_,_,rfl,rfl,_,rfl,?_⟩
  rw [decide_eq_true h2]
  refine iteF ⟨_,rfl,l,xs,rfl,.inl (SqL.of hl),_,_,rfl,rfl,_,rfl,?_⟩
  rw [decide_eq_false (show ¬ (60:Int) < (xs.length:Int) by omega)]
  refine iteF ⟨_,rfl,l,rfl,⟨_,SqL.of hl⟩,for_list (K:=K) (a:=l) (xs:=xs) (fun i σ H2=>H2=H∧∃ u v,σ=[some (.int q),some (.ref l),u,v])
   ⟨rfl,_,_,rfl⟩ (fun i σ H2 _ ⟨e,_⟩=>by subst e;exact SqL.of hl) ?_ ?_⟩
  ·rintro i x σ H2 hi ⟨rfl,u,v,rfl⟩
   obtain ⟨p,hpi,a,rfl,hat⟩:=hp.get hi
   refine ⟨a,_,rfl,SqT.of hat,rfl,_,_,rfl,_,_,rfl,rfl,_,rfl,_,rfl,_,rfl,p.1,p.2,q,rfl,_,rfl,?_⟩
   rw [h4 p (List.mem_of_getElem? hpi)]
   exact iteF ⟨rfl,_,_,rfl⟩
  ·rintro σ H2 ⟨rfl,u,v,rfl⟩
   exact kQ
theorem qb:¬ (("quarters" : Str) = "bridges"):=by decide +kernel
def flds (q:Int) (l:Addr):List (Str × V):=putF "bridges" (.ref l) (putF "quarters" (.int q) [])
theorem flds_q (q:Int) (l:Addr):(flds q l).lookup ("quarters" : Str)=some (.int q):=by
 unfold flds
 rw [lookup_putF,if_neg qb,lookup_putF,if_pos rfl]
theorem flds_b (q:Int) (l:Addr):(flds q l).lookup ("bridges" : Str)=some (.ref l):=by
 unfold flds
 rw [lookup_putF,if_pos rfl]
def TownAt (CT:Addr) (H:Hp) (p l:Addr) (q:Int) (xs:List V):Prop:=(∃ dx,H p=some (.ins CT dx (flds q l)))∧H l=some (.lst xs)
theorem TownAt.same {H H':Hp} {p l:Addr} {q:Int} {xs:List V} (h:TownAt CT H p l q xs) (s:Same H H'):TownAt CT H' p l q xs:=⟨let ⟨dx,e⟩:=h.1;⟨dx,s _ _ e⟩,s _ _ h.2⟩
inductive spInitI (CT:Addr) (vs:List V) (H:Hp) (Q:VK) (E:XK):Prop
 | mk (p dx:Addr) (q:Int) (l:Addr) (xs:List V) (ps:PP):(vs=[.ref p,.int q,.ref l])→(H p=some (.ins CT dx []))→(H l=some (.lst xs))→(PV H xs ps)→(fits q ps=true)→(∀ (l2:Addr) (H':Hp),H l2=none→TownAt CT H' p l2 q xs→(∀ b o,H b=some o→b≠p→H' b=some o)→Q .non H')→spInitI CT vs H Q E
def spInit (CT:Addr):Sp:=fun vs H Q E=>spInitI CT vs H Q E
theorem scInit:FnScope ["self", "quarters", "bridges"] ["self", "quarters", "bridges"] (defScope sInit):=⟨rfl,rfl,rfl,by decide +kernel,rfl,by decide +kernel,by decide +kernel⟩
theorem ok_init {f f1:Addr} {fd fd1:FuncData} (T:Txt K mg CE CS CQ CT) (F:Fun K "__init__" "Town.__init__" sInit f fd) (G1:FnOk P w K mg base CX0 3 f1 fd1 ["quarters", "bridges"] spCheck) (b1:Binds K fd1 ["quarters", "bridges"] []) (m1:mg "check_town" = some (.ref f1)) (k1:W.keepIn K (.ref f1)=true) :
  FnOk P w K mg base CX0 4 f fd ["self", "quarters", "bridges"] (spInit CT):=by
 refine F.ok scInit (fun vs H Q E h=>?_) (fun cdv A outer s H vs Q E hr h=>?_)
 ·obtain ⟨p,dx,q,l,xs,ps,rfl,_⟩:=h
  rfl
 ·obtain ⟨p,dx,q,l,xs,ps,rfl,hp,hl,hv,hf,kQ⟩:=h
  refine ⟨_,pss_cons (ps_expr (pe_call G1 hr (by rfl) m1 k1 b1 .nil pass0 (pa_cons (pv 1) (pa_cons (pv 2) pa_nil))))
   (pss_cons (ps_fld (pv 0) (pv 1) rfl)
   (pss_one (ps_fld (pv 0) (pe_callTy c_list (by rfl) T.list bt_list (pa_cons (pv 2) pa_nil)) rfl))),?_⟩
  try dsimp only [cx_of,cx_nox,cx_comp]
  refine ⟨_,rfl,_,rfl,q,l,xs,ps,rfl,hl,hv,hf,?_⟩
  have npl:p≠l:=ne_of hp hl (by intro z;cases z)
  refine ⟨_,rfl,_,rfl,p,CT,dx,_,rfl,hp,T.cl,T.nq,(by show 0 < 1000;decide),?_⟩
  refine ⟨_,rfl,l,xs,rfl,.inl (SqL.of (by rw [upd_ne npl.symm];exact hl)),fun l2 hn=>?_⟩
  have np2:p≠l2:=ne_of_none upd_same hn
  have hn':H l2=none:=by rw [upd_ne np2.symm] at hn;exact hn
  refine ⟨_,rfl,p,CT,dx,_,rfl,(by rw [upd_ne np2];exact upd_same),T.cl,T.nb,(by show 1 < 1000;decide),?_⟩
  refine kQ l2 _ hn' ⟨⟨dx,upd_same⟩,by rw [upd_ne np2.symm,upd_same]⟩ fun b o e hb=>?_
  rw [upd_ne hb,upd_ne (ne_of_none e hn'),upd_ne hb]
  exact e
end
end K26
namespace K26
open PySem L2 XM
def upto (q:Int):List Int:=(List.range q.toNat).map fun k=>((k:Nat):Int)
theorem mem_upto {q x:Int}:x∈upto q↔0≤x∧x < q:=by
 unfold upto
 rw [List.mem_map]
 constructor
 ·rintro ⟨k,hk,rfl⟩
  have:=List.mem_range.mp hk
  omega
 ·rintro ⟨h1,h2⟩
  exact ⟨x.toNat,List.mem_range.mpr (by omega),by omega⟩
theorem upto_len (q:Int):(upto q).length=q.toNat:=by unfold upto;simp
theorem inR_iff {c n:Int}:inR c n=true↔0≤n∧n < c:=by
 unfold inR
 rw [Bool.and_eq_true,decide_eq_true_eq,decide_eq_true_eq]
theorem nodup_len:∀ (l r:List Int),l.Nodup→(∀ x∈l,x∈r)→l.length≤r.length
 | [],r,_,_=>Nat.zero_le _
 | a::l,r,hn,hs=>by
  obtain ⟨ha,hl⟩:=List.nodup_cons.mp hn
  have har:a∈r:=hs a List.mem_cons_self
  have hlen:(r.erase a).length=r.length - 1:=List.length_erase_of_mem har
  have hpos:0 < r.length:=List.length_pos_of_mem har
  have ih:=nodup_len l (r.erase a) hl fun y hy=>by
   refine (List.mem_erase_of_ne fun z=>?_).mpr (hs y (List.mem_cons_of_mem _ hy))
   subst z
   exact ha hy
  rw [List.length_cons]
  omega
theorem getD_at {ps:PP} {i:Nat} {p:Int × Int} (h:ps[i]?=some p):ps.getD i (0,0)=p:=by rw [List.getD_eq_getElem?_getD,h];rfl
theorem inV_ints (n:Int):∀ ns:List Int,inV (.int n) (ns.map V.int)=ns.contains n
 | []=>rfl
 | m::r=>by
  have:=inV_ints n r
  unfold inV at this ⊢
  rw [List.map_cons,List.any_cons,this,List.contains_cons]
  show ((m == n) || _)=((n == m) || _)
  rw [Bool.beq_comm]
theorem flat_ints:∀ ns:List Int,(ns.map V.int).all flatV=true
 | []=>rfl
 | m::r=>by
  rw [List.map_cons,List.all_cons,flat_ints r]
  rfl
theorem all_no {α:Type} {l:List α} {p:α→Bool} {i:Nat} {x:α} (h:l[i]?=some x) (hp:p x=false):l.all p=false:=by
 refine Bool.eq_false_iff.mpr fun z=>?_
 rw [List.all_eq_true.mp z x (List.mem_of_getElem? h)] at hp
 cases hp
theorem flat_take {nss:List (List Int)} {i:Nat} {ns:List Int} (h:nss[i]?=some ns):(nss.take (i+1)).flatten=(nss.take i).flatten++ns:=by
 rw [take_snoc' h,List.flatten_append]
 simp
theorem flat_take_le (nss:List (List Int)) (i:Nat):(nss.take i).flatten.length≤nss.flatten.length:=by
 have e:nss.flatten=(nss.take i).flatten++(nss.drop i).flatten:=by rw [← List.flatten_append,List.take_append_drop]
 rw [e,List.length_append]
 omega
theorem rising_iff:∀ l:List Int,rising l=true↔l.Pairwise (· < ·)
 | []=>by simp [rising]
 | [a]=>by simp [rising]
 | a::b::r=>by
  have ih:=rising_iff (b::r)
  have e:rising (a::b::r)=(decide (a < b) && rising (b::r)):=rfl
  have pc:(a::b::r).Pairwise (· < ·)↔(∀ x∈b::r,a < x)∧(b::r).Pairwise (· < ·):=List.pairwise_cons
  rw [e,Bool.and_eq_true,decide_eq_true_eq,ih,pc]
  constructor
  ·rintro ⟨h1,h2⟩
   refine ⟨fun x hx=>?_,h2⟩
   rcases List.mem_cons.mp hx with rfl | hx
   ·exact h1
   ·have:=(List.pairwise_cons.mp h2).1 x hx
    omega
  ·rintro ⟨h1,h2⟩
   exact ⟨h1 b List.mem_cons_self,h2⟩
theorem risesB_iff {l:List Int} {m:Int}:risesB l m=true↔l.Pairwise (· < ·)∧∀ x∈l,0≤x∧x < m:=by
 unfold risesB
 rw [Bool.and_eq_true,rising_iff,List.all_eq_true]
 exact and_congr_right fun _=>⟨fun h x hx=>inR_iff.mp (h x hx),fun h x hx=>inR_iff.mpr (h x hx)⟩
def riseFrom (a m:Int):List Int→Bool
 | []=>true
 | n::r=>(decide (a < n) && decide (n < m)) && riseFrom n m r
theorem riseFrom_iff {m:Int}:∀ {l:List Int} {a:Int},riseFrom a m l=true↔l.Pairwise (· < ·)∧∀ x∈l,a < x∧x < m
 | [],a=>by simp [riseFrom]
 | n::r,a=>by
  have ih:=@riseFrom_iff m r n
  unfold riseFrom
  rw [Bool.and_eq_true,Bool.and_eq_true,decide_eq_true_eq,decide_eq_true_eq,ih,List.pairwise_cons]
  constructor
  ·rintro ⟨⟨h1,h2⟩,h3,h4⟩
   refine ⟨⟨fun x hx=>(h4 x hx).1,h3⟩,fun x hx=>?_⟩
   rcases List.mem_cons.mp hx with rfl | hx
   ·exact ⟨h1,h2⟩
   ·have:=h4 x hx
    omega
  ·rintro ⟨⟨h1,h2⟩,h3⟩
   exact ⟨h3 n List.mem_cons_self,h2,fun x hx=>⟨h1 x hx,(h3 x (List.mem_cons_of_mem _ hx)).2⟩⟩
theorem risesB_from {l:List Int} {m:Int}:risesB l m=riseFrom (-1) m l:=by
 rw [Bool.eq_iff_iff,risesB_iff,riseFrom_iff]
 exact and_congr_right fun _=>⟨fun h x hx=>by have:=h x hx;omega,fun h x hx=>by have:=h x hx;omega⟩
theorem ixN_at {n:Nat} {k:Nat} (h:k < n):ixN n (k:Int)=some k:=by
 unfold ixN
 rw [if_pos (by omega),if_pos (by omega)]
 simp
theorem nodup_take {g:List Int} (h:g.Nodup) {j:Nat} {x:Int} (hj:g[j]?=some x):x ∉ g.take j:=fun hm=>by
 have e:g.take (j+1)=g.take j++[x]:=take_snoc' hj
 have e2:g=g.take (j+1)++g.drop (j+1):=(List.take_append_drop _ _).symm
 rw [e2,e] at h
 exact (List.nodup_append.mp (List.nodup_append.mp h).1).2.2 x hm x (by simp) rfl
section
variable {P:Program} {w:World} {K:W.Frag} {mg:Str→Option Value} {base:Heap} {CE CS CQ CT:Addr}
theorem kit_same (t:Value):W.kitOne K t t=some true:=by
 unfold W.kitOne
 rw [if_pos (by simp)]
theorem kit_ib:W.kitOne K (.type "int") (.type "bool")=some false:=by with_unfolding_all rfl
theorem den_ints {H:Hp} {l:Addr} {ns:List Int} (hl:LI H l ns):Den K H (.ref l) (.list (ns.map .int)):=by
 refine .lst (SqL.of hl) (by rw [List.length_map,List.length_map]) fun i x d h1 h2=>?_
 rw [List.getElem?_map] at h1 h2
 cases e:ns[i]? with
 | none=>rw [e] at h1;cases h1
 | some n=>
  rw [e] at h1 h2
  cases h1
  cases h2
  exact .int _
theorem lay_ints:∀ ns:List Int,PyData.canLayAll0 (ns.map .int)=true∧PyData.depthAll (ns.map .int)=0
 | []=>by simp [PyData.canLayAll0,PyData.depthAll]
 | p::ps=>by
  obtain ⟨h1,h2⟩:=lay_ints ps
  rw [List.map_cons]
  simp [PyData.canLayAll0,PyData.depthAll,PyData.canLay0,PyData.depth,h1,h2]
theorem sh_ints (ns:List Int):SeqAt.shaped (.list (ns.map .int))=true:=by
 have h:=lay_ints ns
 unfold SeqAt.shaped
 rw [Bool.and_eq_true]
 refine ⟨by simp [PyData.canLay0,h.1],decide_eq_true ?_⟩
 have:=h.2
 simp only [PyData.depth]
 omega
theorem eqv_ints:∀ ns ms:List Int,PyData.eqvAll (ns.map .int) (ms.map .int)=decide (ns=ms)
 | [],[]=>rfl
 | [],m::ms=>by simp [PyData.eqvAll]
 | n::ns,[]=>by simp [PyData.eqvAll]
 | n::ns,m::ms=>by
  have ih:=eqv_ints ns ms
  rw [List.map_cons,List.map_cons,PyData.eqvAll,ih]
  rw [Bool.eq_iff_iff]
  simp [PyData.eqv]
theorem eqv_lints (ns ms:List Int):PyData.eqv (.list (ns.map .int)) (.list (ms.map .int))=decide (ns=ms):=by
 rw [← eqv_ints]
 simp [PyData.eqv]
def ld (g:List Int):PyData:=.list (g.map .int)
theorem den_lists {H:Hp} {l:Addr} {xs:List V} {nss:List (List Int)} (hl:H l=some (.lst xs)) (h:LS H xs nss):Den K H (.ref l) (.list (nss.map ld)):=by
 refine .lst (SqL.of hl) (by rw [List.length_map];exact h.length) fun i x d h1 h2=>?_
 obtain ⟨g,e,a,rfl,q⟩:=h.get h1
 rw [List.getElem?_map,e] at h2
 cases h2
 exact den_ints q
theorem lay_lists:∀ nss:List (List Int),PyData.canLayAll0 (nss.map ld)=true∧PyData.depthAll (nss.map ld)≤1
 | []=>by simp [PyData.canLayAll0,PyData.depthAll]
 | g::r=>by
  obtain ⟨h1,h2⟩:=lay_lists r
  obtain ⟨a1,a2⟩:=lay_ints g
  have d1:(ld g).depth=1:=by simp [ld,PyData.depth,a2]
  have c1:(ld g).canLay0=true:=by simp [ld,PyData.canLay0,a1]
  rw [List.map_cons]
  simp only [PyData.canLayAll0,PyData.depthAll,h1,c1,d1,Bool.and_self,true_and]
  omega
theorem sh_lists (nss:List (List Int)):SeqAt.shaped (.list (nss.map ld))=true:=by
 have h:=lay_lists nss
 unfold SeqAt.shaped
 rw [Bool.and_eq_true]
 refine ⟨by simp [PyData.canLay0,h.1],decide_eq_true ?_⟩
 have:=h.2
 simp only [PyData.depth]
 omega
theorem eqv_lists:∀ nss:List (List Int),PyData.eqvAll (nss.map ld) (nss.map ld)=true
 | []=>rfl
 | g::r=>by
  rw [List.map_cons,PyData.eqvAll,eqv_lists r]
  have:PyData.eqv (ld g) (ld g)=true:=by
   unfold ld
   rw [eqv_lints]
   simp
  rw [this]
  rfl
theorem eqv_lists' (nss:List (List Int)):PyData.eqv (.list (nss.map ld)) (.list (nss.map ld))=true:=by
 have:=eqv_lists nss
 simpa [PyData.eqv] using this
def pd (p:Int × Int):PyData:=.tuple [.int p.1,.int p.2]
theorem den_pair {H:Hp} {x:V} {p:Int × Int} (h:P2 H x p):Den K H x (pd p):=by
 obtain ⟨a,rfl,e⟩:=h
 refine .tup (SqT.of e) rfl fun i x d h1 h2=>?_
 match i,h1,h2 with
 | 0,h1,h2=>cases h1;cases h2;exact .int _
 | 1,h1,h2=>cases h1;cases h2;exact .int _
 | n+2,h1,_=>simp at h1
theorem den_pairs {H:Hp} {l:Addr} {xs:List V} {ps:PP} (hl:H l=some (.lst xs)) (h:PV H xs ps):Den K H (.ref l) (.list (ps.map pd)):=by
 refine .lst (SqL.of hl) (by rw [List.length_map];exact h.length) fun i x d h1 h2=>?_
 obtain ⟨p,e,r⟩:=h.get h1
 rw [List.getElem?_map,e] at h2
 cases h2
 exact den_pair r
theorem lay_pairs:∀ ps:PP,PyData.canLayAll0 (ps.map pd)=true∧PyData.depthAll (ps.map pd)≤1
 | []=>by simp [PyData.canLayAll0,PyData.depthAll]
 | p::ps=>by
  obtain ⟨h1,h2⟩:=lay_pairs ps
  have d1:(pd p).depth=1:=by simp [pd,PyData.depth,PyData.depthAll]
  have c1:(pd p).canLay0=true:=by simp [pd,PyData.canLay0,PyData.canLayAll0]
  rw [List.map_cons]
  simp only [PyData.canLayAll0,PyData.depthAll,h1,c1,d1,Bool.and_self,true_and]
  omega
theorem sh_pairs (ps:PP):SeqAt.shaped (.list (ps.map pd))=true:=by
 have h:=lay_pairs ps
 unfold SeqAt.shaped
 rw [Bool.and_eq_true]
 refine ⟨by simp [PyData.canLay0,h.1],decide_eq_true ?_⟩
 have:=h.2
 simp only [PyData.depth]
 omega
theorem eqv_pair (p:Int × Int):PyData.eqv (pd p) (pd p)=true:=by simp [pd,PyData.eqv,PyData.eqvAll]
theorem eqv_pairs:∀ ps:PP,PyData.eqvAll (ps.map pd) (ps.map pd)=true
 | []=>rfl
 | p::ps=>by
  rw [List.map_cons,PyData.eqvAll,eqv_pair,eqv_pairs ps]
  rfl
theorem eqv_pairs' (ps:PP):PyData.eqv (.list (ps.map pd)) (.list (ps.map pd))=true:=by
 have:=eqv_pairs ps
 simpa [PyData.eqv] using this
theorem passE0 {X:Cx}:Passes (CXE X.prog X.w) X E0:=fun _ _ _ _ _ _ _ ⟨_,_,_,_,_,h⟩=>h.elim
end
end K26
namespace K26
open PySem L2 XM
def eb (ps:PP) (b:Int):Int × Int:=ps.getD b.toNat (0,0)
def add1 (L:Nat→PP) (k:Nat) (p:Int × Int):Nat→PP:=fun j=>if j=k then L j++[p] else L j
def stp (ps:PP):List Int→Nat→PP
 | []=>fun _=>[]
 | bs=>fun j=>bs.flatMap fun b=>(if (eb ps b).1=(j:Int) then [(b,(eb ps b).2)] else [])++(if (eb ps b).2=(j:Int) then [(b,(eb ps b).1)] else [])
theorem stp_eq (ps:PP) (bs:List Int) (j:Nat):stp ps bs j=bs.flatMap fun b=>(if (eb ps b).1=(j:Int) then [(b,(eb ps b).2)] else [])++(if (eb ps b).2=(j:Int) then [(b,(eb ps b).1)] else []):=by
 cases bs <;> rfl
theorem stp_snoc (ps:PP) (bs:List Int) (b:Int) (u v:Nat) (hu:(eb ps b).1=(u:Int)) (hv:(eb ps b).2=(v:Int)):stp ps (bs++[b])=add1 (add1 (stp ps bs) u (b,(eb ps b).2)) v (b,(eb ps b).1):=by
 funext j
 rw [stp_eq,List.flatMap_append,← stp_eq]
 unfold add1
 simp only [List.flatMap_cons,List.flatMap_nil,List.append_nil]
 rw [hu,hv]
 by_cases h1:j=u
 ·by_cases h2:j=v
  ·rw [if_pos h2,if_pos h1,if_pos (by omega),if_pos (by omega),List.append_assoc]
  ·rw [if_neg h2,if_pos h1,if_pos (by omega),if_neg (by omega),List.append_nil]
 ·by_cases h2:j=v
  ·rw [if_pos h2,if_neg h1,if_neg (by omega),if_pos (by omega),List.nil_append]
  ·rw [if_neg h2,if_neg h1,if_neg (by omega),if_neg (by omega)]
   simp
theorem mem_stp {ps:PP} {bs:List Int} {j:Nat} {b z:Int}:(b,z)∈stp ps bs j↔b∈bs∧(((eb ps b).1=(j:Int)∧z=(eb ps b).2)∨((eb ps b).2=(j:Int)∧z=(eb ps b).1)):=by
 rw [stp_eq,List.mem_flatMap]
 constructor
 ·rintro ⟨c,hc,h⟩
  rcases List.mem_append.mp h with h | h
  ·by_cases e:(eb ps c).1=(j:Int)
   ·rw [if_pos e,List.mem_singleton] at h
    cases h
    exact ⟨hc,.inl ⟨e,rfl⟩⟩
   ·rw [if_neg e] at h
    cases h
  ·by_cases e:(eb ps c).2=(j:Int)
   ·rw [if_pos e,List.mem_singleton] at h
    cases h
    exact ⟨hc,.inr ⟨e,rfl⟩⟩
   ·rw [if_neg e] at h
    cases h
 ·rintro ⟨hb,⟨e,rfl⟩ | ⟨e,rfl⟩⟩
  ·exact ⟨b,hb,List.mem_append_left _ (by rw [if_pos e];exact List.mem_singleton.mpr rfl)⟩
  ·exact ⟨b,hb,List.mem_append_right _ (by rw [if_pos e];exact List.mem_singleton.mpr rfl)⟩
structure StepsAt (H:Hp) (sa:Addr) (n:Nat) (L:Nat→PP):Prop where
 ex:∃ as:List Addr,H sa=some (.lst (as.map V.ref))∧as.length=n∧∀ (k:Nat) a,as[k]?=some a→∃ ts,H a=some (.lst ts)∧PV H ts (L k)
theorem StepsAt.same {H H':Hp} {sa:Addr} {n:Nat} {L:Nat→PP} (h:StepsAt H sa n L) (s:Same H H'):StepsAt H' sa n L:=by
 obtain ⟨as,h1,h2,h3⟩:=h.ex
 exact ⟨as,s _ _ h1,h2,fun k a e=>let ⟨ts,a1,a2⟩:=h3 k a e;⟨ts,s _ _ a1,a2.same s⟩⟩
structure SM (H H2:Hp) (sa:Addr) (as:List Addr) (n:Nat) (L:Nat→PP):Prop where
 same:Same H H2
 hp:H2 sa=some (.lst (as.map V.ref))
 len:as.length=n
 nd:as.Nodup
 fr:∀ a∈as,H a=none∧a≠sa
 ls:∀ (k:Nat) a,as[k]?=some a→∃ ts,H2 a=some (.lst ts)∧PV H2 ts (L k)
theorem SM.out {H H2:Hp} {sa:Addr} {as:List Addr} {n:Nat} {L:Nat→PP} (m:SM H H2 sa as n L):StepsAt H2 sa n L:=⟨as,m.hp,m.len,m.ls⟩
theorem SM.push {H H2:Hp} {sa:Addr} {as:List Addr} {n:Nat} {L:Nat→PP} {k:Nat} {a t:Addr} {ts:List V} {p:Int × Int} (m:SM H H2 sa as n L) (ha:as[k]?=some a) (hts:H2 a=some (.lst ts)) (hpv:PV H2 ts (L k)) (ht:H2 t=none) :
  SM H (upd (upd H2 t (.tup [.int p.1,.int p.2])) a (.lst (ts++[V.ref t]))) sa as n (add1 L k p):=by
 obtain ⟨fa,na⟩:=m.fr a (List.mem_of_getElem? ha)
 have nt:t≠a:=Ne.symm (ne_of_none hts ht)
 have up:∀ b o,H2 b=some o→b≠a→(upd (upd H2 t (.tup [.int p.1,.int p.2])) a (.lst (ts++[V.ref t]))) b=some o:=fun b o e hb=>by
  rw [upd_ne hb,upd_ne (ne_of_none e ht)]
  exact e
 have ups:∀ b ys,H2 b=some (.tup ys)→(upd (upd H2 t (.tup [.int p.1,.int p.2])) a (.lst (ts++[V.ref t]))) b=some (.tup ys):=fun b ys e=>up b _ e (ne_of e hts (by intro z;cases z))
 refine ⟨fun b o e=>up b o (m.same _ _ e) (ne_of_none e fa),up _ _ m.hp (Ne.symm na),m.len,m.nd,m.fr,fun j b hb=>?_⟩
 unfold add1
 by_cases e:j=k
 ·subst e
  rw [ha] at hb
  cases hb
  refine ⟨_,upd_same,?_⟩
  rw [if_pos rfl]
  refine All2.append (hpv.mono ups) (.cons ⟨t,rfl,?_⟩ .nil)
  rw [upd_ne nt]
  exact upd_same
 ·rw [if_neg e]
  obtain ⟨ts',h1,h2⟩:=m.ls j b hb
  have nb:b≠a:=fun z=>by
   subst z
   obtain ⟨i1,e1⟩:=List.getElem?_eq_some_iff.mp hb
   obtain ⟨i2,e2⟩:=List.getElem?_eq_some_iff.mp ha
   exact e ((List.getElem_inj m.nd).mp (e1.trans e2.symm))
  exact ⟨ts',up _ _ h1 nb,h2.mono ups⟩
section
variable {P:Program} {w:World} {K:W.Frag} {mg:Str→Option Value} {base:Heap} {CE CS CQ CT:Addr}
inductive spCheckSI (CS:Addr) (vs:List V) (H:Hp) (Q:VK) (E:XK):Prop
 | mk (l l2:Addr) (ns:List Int) (ys:List V):(vs=[.ref l,.ref l2])→(LI H l ns)→(H l2=some (.lst ys))→(ns.length≤1000)→((risesB ns ys.length=true→∀ H',Same H H'→Q .non H'))→((risesB ns ys.length=false→∀ H',Same H H'→E (.ref CS) none H'))→spCheckSI CS vs H Q E
def spCheckS (CS:Addr):Sp:=fun vs H Q E=>spCheckSI CS vs H Q E
theorem scCheckS:FnScope ["some", "bridges"] ["some", "bridges"] (defScope sCheckS):=⟨rfl,rfl,rfl,by decide +kernel,rfl,by decide +kernel,by decide +kernel⟩
theorem ok_checkS {f f1:Addr} {fd fd1:FuncData} (T:Txt K mg CE CS CQ CT) (F:Fun K "check_some" "check_some" sCheckS f fd)
  (G1:FnOk P w K mg base CX0 2 f1 fd1 ["numbers", "count"] spRisesB) (b1:Binds K fd1 ["numbers", "count"] []) (m1:mg "rises_below" = some (.ref f1)) (k1:W.keepIn K (.ref f1)=true) :
  FnOk P w K mg base (CXE P w) 3 f fd ["some", "bridges"] (spCheckS CS):=by
 refine F.okE scCheckS (fun vs H Q E h=>?_) (fun cdv A outer s H vs Q E hr h=>?_)
 ·obtain ⟨l,l2,ns,ys,rfl,_⟩:=h
  rfl
 ·obtain ⟨l,l2,ns,ys,rfl,hl,hl2,hn,kQ,kE⟩:=h
  have lets:=lets_cx (P:=P) (w:=w) (K:=K) (mg:=mg) (base:=base) (N:=["some", "bridges"]) (qual := "check_some") (scope:=defScope sCheckS) (f:=f) (cd:=cdv) (A:=A) (outer:=outer) (s:=s) (H:=H) (E:=E)
  refine ⟨_,pss_one (ps_if (pt_not (pt_val (pe_call G1 hr (by rfl) m1 k1 b1 .nil pass0 (pa_cons (pv 0) (pa_cons (pe_callB c_len (by rfl) T.len PySem.boot_len (pa_cons (pv 1) pa_nil)) pa_nil)))))
   (pss_one (ps_raise lets T.errS hr.hd (by rfl) T.mgBS (pa_cons pe_str pa_nil))) pss_nil),?_⟩
  try dsimp only [cx_of,cx_nox,cx_comp]
  refine ⟨_,rfl,_,rfl,l2,ys,rfl,.inl (SqL.of hl2),l,ns,ys.length,rfl,hl,hn,fun H1 s1=>⟨_,rfl,?_⟩⟩
  cases hb:risesB ns ys.length with
  | false=>exact iteT ⟨by show 1≤sizeLine;decide,kE hb _ s1⟩
  | true=>exact iteF (kQ hb _ s1)
inductive spStepsI (CT:Addr) (vs:List V) (H:Hp) (Q:VK) (E:XK):Prop
 | mk (p l2:Addr) (q:Int) (ys:List V) (ps:PP) (l:Addr) (bs:List Int):(vs=[.ref p,.ref l])→(TownAt CT H p l2 q ys)→(PV H ys ps)→(fits q ps=true)→(LI H l bs)→(bs.length≤100)→((∀ b∈bs,0≤b∧b < ps.length))→(∀ (H':Hp) (sa:Addr),Same H H'→StepsAt H' sa q.toNat (stp ps bs)→Q (.ref sa) H')→spStepsI CT vs H Q E
def spSteps (CT:Addr):Sp:=fun vs H Q E=>spStepsI CT vs H Q E
theorem scSteps:FnScope ["town", "some", "steps", "bridge", "ends"] ["town", "some"] (defScope sSteps):=⟨rfl,rfl,rfl,by decide +kernel,rfl,by decide +kernel,by decide +kernel⟩
theorem ok_steps {f:Addr} {fd:FuncData} (T:Txt K mg CE CS CQ CT) (F:Fun K "steps_over" "steps_over" sSteps f fd):FnOk P w K mg base CX0 1 f fd ["town", "some"] (spSteps CT):=by
 refine F.ok scSteps (fun vs H Q E h=>?_) (fun cdv A outer s H vs Q E hr h=>?_)
 ·obtain ⟨p,l2,q,ys,ps,l,bs,rfl,_⟩:=h
  rfl
 ·obtain ⟨p,l2,q,ys,ps,l,bs,rfl,⟨⟨dx,ht⟩,hl2⟩,hp,hft,hl,hbl,hbs,kQ⟩:=h
  have nd2:((["quarter"]:List Str)++([]:List Str)).Nodup:=by decide +kernel
  refine ⟨_,pss_cons (ps_comp (i:=2) (own:=["quarter"]) (caps:=[]) (cs:=[]) (sc:=defScope sSteps) ⟨rfl,rfl,by decide +kernel,by decide +kernel,by decide +kernel,by decide +kernel,rfl⟩ rfl scSteps.nd rfl rfl rfl
    (pi_range1 (by rfl) T.range (pa_cons (pe_fld (pv 0) rfl) pa_nil)) (fun _ _ _ _ _=>pg_name (i:=0) nd2 rfl (Or.inl rfl) (.inr rfl)) (fun _ _ _ _ _=>pf_nil) (fun _ _ _ _ _=>pe_lst pa_nil))
   (pss_cons (ps_for PassesOwn.never rfl (pi_list (pv 1)) (pg_name (i:=3) scSteps.nd rfl (Or.inl rfl))
    (pss_cons (ps_set (i:=4) scSteps.nd rfl (Or.inl rfl) (pe_ix ix_list (pe_fld (pv 0) rfl) (pv 3) (fun _ _=>rfl)))
    (pss_cons (ps_expr (pe_bm PySem.F.plainAttrs_list PySem.F.slot_list_append PySem.F.type_list_append mt_append (pe_ix ix_list (pv 2) (pe_ix ix_tup (pv 4) pe_int (fun _ _=>rfl)) (fun _ _=>rfl)) (pa_cons (pe_tup (pa_cons (pv 3) (pa_cons (pe_ix ix_tup (pv 4) pe_int (fun _ _=>rfl)) pa_nil))) pa_nil)))
    (pss_one (ps_expr (pe_bm PySem.F.plainAttrs_list PySem.F.slot_list_append PySem.F.type_list_append mt_append (pe_ix ix_list (pv 2) (pe_ix ix_tup (pv 4) pe_int (fun _ _=>rfl)) (fun _ _=>rfl)) (pa_cons (pe_tup (pa_cons (pv 3) (pa_cons (pe_ix ix_tup (pv 4) pe_int (fun _ _=>rfl)) pa_nil))) pa_nil)))))))
   (pss_one (ps_ret (pv 2)))),?_⟩
  try dsimp only [cx_of,cx_nox,cx_comp]
  obtain ⟨⟨hq1,hq2⟩,h60,hok⟩:=fits_iff hft
  have hlen:=hp.length
  refine ⟨_,rfl,p,CT,dx,_,_,rfl,ht,T.cl,T.nq,flds_q _ _,q,rfl,by omega,by omega,fun sa hsa=>?_⟩
  refine comp_gen (n:=q.toNat) (fun i zs H2=>∃ as,zs=as.map V.ref∧SM H H2 sa as i (fun _=>[])) ⟨[],rfl,Same.rfl'.new hsa,upd_same,rfl,List.nodup_nil,fun a z=>by simp at z,fun k a z=>by simp at z⟩ (fun i zs H2 hi hv=>?_) (fun i zs H2 hi hv=>?_) (fun zs H2 hv=>?_)
  ·obtain ⟨as,rfl,m⟩:=hv
   rw [List.length_map,m.len]
   exact small1000 (by omega)
  ·obtain ⟨as,rfl,m⟩:=hv
   refine ⟨hi,fun K1 k1 x H' y=>?_⟩
   obtain ⟨rfl,rfl⟩:=y
   refine ⟨rfl,by show 0≤sizeLine;decide,fun a ha=>k1 _ _ ((Same.rfl'.new ha) _ _ m.hp) ⟨as++[a],by rw [List.map_append];rfl,?_⟩⟩
   have na:a≠sa:=Ne.symm (ne_of_none m.hp ha)
   refine ⟨(m.same.tr (Same.rfl'.new ha)).new hsa,by rw [upd_same,List.map_append];rfl,by rw [List.length_append,m.len];rfl,?_,fun b hb=>?_,fun k b hb=>?_⟩
   ·refine List.nodup_append.mpr ⟨m.nd,by simp,fun x hx y hy z=>?_⟩
    rw [List.mem_singleton] at hy
    subst hy
    subst z
    obtain ⟨k,hk,e2⟩:=List.mem_iff_getElem.mp hx
    obtain ⟨ts,hts,_⟩:=m.ls k x (by rw [List.getElem?_eq_getElem hk,e2])
    rw [ha] at hts
    cases hts
   ·rcases List.mem_append.mp hb with hb | hb
    ·exact m.fr b hb
    ·rw [List.mem_singleton] at hb
     subst hb
     exact ⟨m.same.free ha,na⟩
   ·by_cases hk:k < as.length
    ·rw [List.getElem?_append_left hk] at hb
     obtain ⟨ts,hts,hpv⟩:=m.ls k b hb
     have nb:=(m.fr b (List.mem_of_getElem? hb)).2
     cases hpv
     exact ⟨[],by rw [upd_ne nb,upd_ne (ne_of_none hts ha)];exact hts,.nil⟩
    ·rw [List.getElem?_append_right (by omega)] at hb
     have hk0:k - as.length=0:=by
      have:=(List.getElem?_eq_some_iff.mp hb).1
      simp at this
      exact this
     rw [hk0] at hb
     cases hb
     exact ⟨[],by rw [upd_ne na,upd_same],.nil⟩
  obtain ⟨as,rfl,m⟩:=hv
  refine ⟨Nat.le_refl _,?_⟩
  refine ⟨_,rfl,l,rfl,⟨_,SqL.of (m.same _ _ hl)⟩,for_list (K:=K) (a:=l) (xs:=bs.map V.int) (fun i σ H3=>SM H H3 sa as q.toNat (stp ps (bs.take i))∧∃ u v,σ=[some (.ref p),some (.ref l),some (.ref sa),u,v])
   ⟨m,_,_,rfl⟩ (fun i σ H3 _ ⟨m3,_⟩=>SqL.of (m3.same _ _ hl)) ?_ ?_⟩
  ·rintro i x σ H3 hi ⟨m3,u,v,rfl⟩
   rw [List.getElem?_map] at hi
   obtain ⟨b,hb,rfl⟩:=Option.map_eq_some_iff.mp hi
   obtain ⟨hb0,hb1⟩:=hbs b (List.mem_of_getElem? hb)
   have ebn:((b.toNat:Nat):Int)=b:=by omega
   have hbn:b.toNat < ys.length:=by omega
   obtain ⟨y,hy⟩:∃ y,ys[b.toNat]?=some y:=⟨_,List.getElem?_eq_getElem hbn⟩
   obtain ⟨pr,hpr,a,rfl,hat⟩:=hp.get hy
   have eeb:eb ps b=pr:=getD_at hpr
   have okp:=hok pr (List.mem_of_getElem? hpr)
   unfold okPair at okp
   simp only [Bool.and_eq_true,decide_eq_true_eq] at okp
   obtain ⟨⟨p1,p2⟩,⟨p3,p4⟩,_⟩:=okp
   have e1:((pr.1.toNat:Nat):Int)=pr.1:=by omega
   have e2:((pr.2.toNat:Nat):Int)=pr.2:=by omega
   obtain ⟨a1,ha1⟩:∃ a1,as[pr.1.toNat]?=some a1:=⟨_,List.getElem?_eq_getElem (by rw [m3.len];omega)⟩
   obtain ⟨ts1,ht1,hv1⟩:=m3.ls _ a1 ha1
   have hm1:(as.map V.ref)[pr.1.toNat]?=some (.ref a1):=by rw [List.getElem?_map,ha1];rfl
   have sl:∀ k,(stp ps (bs.take i) k).length≤2*i:=fun k=>by
    rw [stp_eq]
    have hle:∀ cs:List Int,(cs.flatMap fun b=>(if (eb ps b).1=(k:Int) then [(b,(eb ps b).2)] else [])++(if (eb ps b).2=(k:Int) then [(b,(eb ps b).1)] else [])).length≤2*cs.length:=fun cs=>by
     induction cs with
     | nil=>simp
     | cons c r ih=>
      rw [List.flatMap_cons,List.length_append,List.length_append,List.length_cons]
      have h1:(if (eb ps c).1=(k:Int) then [(c,(eb ps c).2)] else []).length≤1:=by split <;> simp
      have h2:(if (eb ps c).2=(k:Int) then [(c,(eb ps c).1)] else []).length≤1:=by split <;> simp
      omega
    refine Nat.le_trans (hle _) ?_
    rw [List.length_take]
    omega
   have hil:i < bs.length:=(List.getElem?_eq_some_iff.mp hb).1
   refine ⟨_,rfl,p,CT,dx,_,_,rfl,m3.same _ _ ht,T.cl,T.nb,flds_b _ _,_,rfl,l2,ys,_,V.ref a,rfl,rfl,SqL.of (m3.same _ _ hl2),by rw [← ebn];exact atI_nat hy,?_⟩
   have at3:=m3.same _ _ hat
   refine ⟨_,rfl,_,rfl,a,_,_,_,rfl,rfl,SqT.of at3,atI_nat (j:=0) rfl,sa,_,_,V.ref a1,rfl,rfl,SqL.of m3.hp,by rw [← e1];exact atI_nat hm1,.inl ⟨rfl,_,SqL.of ht1⟩,_,rfl,_,rfl,a,_,_,_,rfl,rfl,SqT.of at3,atI_nat (j:=1) rfl,by show 2≤sizeLine;decide,fun t ht'=>?_⟩
   have n1:t≠a1:=Ne.symm (ne_of_none ht1 ht')
   refine ⟨a1,ts1,_,rfl,rfl,by rw [upd_ne (Ne.symm n1)];exact ht1,?_,?_⟩
   ·rw [hv1.length]
    have:=sl pr.1.toNat
    exact small1000 (by omega)
   have m4:=m3.push (p:=(b,pr.2)) ha1 ht1 hv1 ht'
   obtain ⟨a2,ha2⟩:∃ a2,as[pr.2.toNat]?=some a2:=⟨_,List.getElem?_eq_getElem (by rw [m3.len];omega)⟩
   obtain ⟨ts2,ht2,hv2⟩:=m4.ls _ a2 ha2
   have hm2:(as.map V.ref)[pr.2.toNat]?=some (.ref a2):=by rw [List.getElem?_map,ha2];rfl
   have at4:=m4.same _ _ hat
   refine ⟨_,rfl,_,rfl,a,_,_,_,rfl,rfl,SqT.of at4,atI_nat (j:=1) rfl,sa,_,_,V.ref a2,rfl,rfl,SqL.of m4.hp,by rw [← e2];exact atI_nat hm2,.inl ⟨rfl,_,SqL.of ht2⟩,_,rfl,_,rfl,a,_,_,_,rfl,rfl,SqT.of at4,atI_nat (j:=0) rfl,by show 2≤sizeLine;decide,fun t2 ht2'=>?_⟩
   have n2:t2≠a2:=Ne.symm (ne_of_none ht2 ht2')
   refine ⟨a2,ts2,_,rfl,rfl,by rw [upd_ne (Ne.symm n2)];exact ht2,?_,?_⟩
   ·rw [hv2.length]
    have h1:=sl pr.2.toNat
    unfold add1
    split
    ·rw [List.length_append,List.length_singleton]
     exact small1000 (by omega)
    ·exact small1000 (by omega)
   have m5:=m4.push (p:=(b,pr.1)) ha2 ht2 hv2 ht2'
   refine ⟨?_,_,_,rfl⟩
   rw [take_snoc' hb,stp_snoc ps (bs.take i) b pr.1.toNat pr.2.toNat (by rw [eeb];exact e1.symm) (by rw [eeb];exact e2.symm),eeb]
   exact m5
  ·rintro σ H3 ⟨m3,u,v,rfl⟩
   rw [List.length_map,List.take_length] at m3
   exact ⟨_,rfl,kQ H3 sa m3.same m3.out⟩
end
end K26
namespace L2
open PySem
section
variable {κ:Type} [DecidableEq κ]
theorem valV_no {kvs:List (κ × V)} {k:κ} (h:valV kvs k=none):¬ k∈kvs.map (·.1):=by
 intro m
 obtain ⟨p,hp,e⟩:=List.mem_map.mp m
 have q:(kvs.any fun kv=>decide (kv.1=k))=true:=List.any_eq_true.mpr ⟨p,hp,decide_eq_true e⟩
 rw [valV_any,h] at q
 exact absurd q (by simp)
theorem valV_some {kvs:List (κ × V)} {k:κ} {v:V} (h:valV kvs k=some v):k∈kvs.map (·.1):=by
 have q:(kvs.any fun kv=>decide (kv.1=k))=true:=by
  rw [valV_any,h]
  all_goals rfl
 obtain ⟨p,hp,e⟩:=List.any_eq_true.mp q
 exact List.mem_map.mpr ⟨p,hp,of_decide_eq_true e⟩
end
end L2
namespace K26
open PySem L2 XM
inductive RLn (L:Nat→PP) (x:Int):Nat→Int→Prop
 | refl:RLn L x 0 x
 | step {m:Nat} {y z b:Int}:RLn L x m y→(b,z)∈L y.toNat→RLn L x (m+1) z
structure BF (H H2:Hp) (d qa:Addr) (L:Nat→PP) (n:Nat) (x:Int) (kvs:List (Key × V)) (qs:List Int) (ds:List Nat):Prop where
 same:Same H H2
 hd:H2 d=some (.dK kvs)
 hq:LI H2 qa qs
 keys:kvs.map (·.1)=qs.map Sum.inl
 nd:qs.Nodup
 first:qs[0]?=some x
 rng:∀ y∈qs,0≤y∧y < n
 rl:∀ (j:Nat) y m,qs[j]?=some y→ds[j]?=some m→RLn L x m y
 v0:valV kvs (Sum.inl x)=some .non
 ch:∀ (j:Nat) y,0 < j→qs[j]?=some y→∃ (i:Nat) (z:Int) (t:Addr) (b:Int) (m:Nat),i < j∧qs[i]?=some z∧valV kvs (Sum.inl y)=some (.ref t)∧H2 t=some (.tup [.int b,.int z])∧(b,y)∈L z.toNat∧ds[i]?=some m∧ds[j]?=some (m+1)
 dl:ds.length=qs.length
 d0:ds[0]?=some 0
 mono:ds.Pairwise (·≤·)
 dj:∀ (j:Nat) m,ds[j]?=some m→m≤j
theorem BF.mem {H H2:Hp} {d qa:Addr} {L:Nat→PP} {n:Nat} {x:Int} {kvs:List (Key × V)} {qs:List Int} {ds:List Nat} (B:BF H H2 d qa L n x kvs qs ds) (z:Int):(valV kvs (Sum.inl z)).isSome=true↔z∈qs:=by
 cases e:valV kvs (Sum.inl z) with
 | none=>
  have:=valV_no e
  rw [B.keys] at this
  refine ⟨fun h=>(by cases h),fun h=>absurd (List.mem_map.mpr ⟨z,h,rfl⟩) this⟩
 | some v=>
  have:=valV_some e
  rw [B.keys] at this
  obtain ⟨y,hy,ey⟩:=List.mem_map.mp this
  cases ey
  exact ⟨fun _=>hy,fun _=>rfl⟩
theorem BF.len {H H2:Hp} {d qa:Addr} {L:Nat→PP} {n:Nat} {x:Int} {kvs:List (Key × V)} {qs:List Int} {ds:List Nat} (B:BF H H2 d qa L n x kvs qs ds):qs.length≤n:=by
 have:=nodup_len qs (upto (n:Int)) B.nd fun y hy=>mem_upto.mpr (B.rng y hy)
 rw [upto_len] at this
 omega
theorem BF.push {H H2:Hp} {d qa t:Addr} {L:Nat→PP} {n i m:Nat} {x y z b:Int} {kvs:List (Key × V)} {qs:List Int} {ds:List Nat} (B:BF H H2 d qa L n x kvs qs ds) (fd:H d=none) (fq:H qa=none) (hi:qs[i]?=some y) (hm:ds[i]?=some m) (ub:∀ k∈ds,k≤m+1) (hz:z ∉ qs) (hb:(b,z)∈L y.toNat) (hr:0≤z∧z < n) (ht:H2 t=none) :
  BF H (upd (upd (upd H2 t (.tup [.int b,.int y])) d (.dK (putK kvs (Sum.inl z) (.ref t)))) qa (.lst (qs.map V.int++[V.int z]))) d qa L n x (putK kvs (Sum.inl z) (.ref t)) (qs++[z]) (ds++[m+1]):=by
 have hv:valV kvs (Sum.inl z)=none:=by
  cases e:valV kvs (Sum.inl z) with
  | none=>rfl
  | some v=>exact absurd ((B.mem z).mp (by rw [e];rfl)) hz
 have ep:=putK_new (.ref t) hv
 have ndq:d≠qa:=ne_of B.hd B.hq (by intro q;cases q)
 have ntd:t≠d:=Ne.symm (ne_of_none B.hd ht)
 have ntq:t≠qa:=Ne.symm (ne_of_none B.hq ht)
 have hil:i < qs.length:=(List.getElem?_eq_some_iff.mp hi).1
 have hx:x∈qs:=List.mem_of_getElem? B.first
 have dl:=B.dl
 have lastq:∀ (j:Nat) u,(qs++[z])[j]?=some u→j < qs.length∨(j=qs.length∧u=z):=fun j u hu=>by
  by_cases hjl:j < qs.length
  ·exact .inl hjl
  ·have hj2:j=qs.length:=by
    have:=(List.getElem?_eq_some_iff.mp hu).1
    rw [List.length_append,List.length_singleton] at this
    omega
   subst hj2
   rw [List.getElem?_append_right (Nat.le_refl _),Nat.sub_self] at hu
   cases hu
   exact .inr ⟨rfl,rfl⟩
 have lastd:(ds++[m+1])[qs.length]?=some (m+1):=by rw [← dl,List.getElem?_append_right (Nat.le_refl _),Nat.sub_self];rfl
 refine ⟨fun c o e=>?_,by rw [upd_ne ndq];exact upd_same,by rw [LI,upd_same,List.map_append];rfl,?_,?_,?_,fun u hu=>?_,fun j u k hu hk=>?_,?_,fun j u hj hu=>?_,by rw [List.length_append,List.length_append,dl];rfl,?_,?_,fun j k hk=>?_⟩
 ·have e2:=B.same _ _ e
  rw [upd_ne (ne_of_none e fq),upd_ne (ne_of_none e fd),upd_ne (ne_of_none e2 ht)]
  exact e2
 ·rw [ep,List.map_append,List.map_append,B.keys]
  rfl
 ·refine List.nodup_append.mpr ⟨B.nd,by simp,fun a ha c hc q=>?_⟩
  rw [List.mem_singleton] at hc
  subst hc
  subst q
  exact hz ha
 ·rw [List.getElem?_append_left (by omega)]
  exact B.first
 ·rcases List.mem_append.mp hu with hu | hu
  ·exact B.rng u hu
  ·rw [List.mem_singleton] at hu
   rw [hu]
   exact hr
 ·rcases lastq j u hu with hj | ⟨rfl,rfl⟩
  ·rw [List.getElem?_append_left hj] at hu
   rw [List.getElem?_append_left (by omega)] at hk
   exact B.rl j u k hu hk
  ·rw [lastd] at hk
   cases hk
   exact .step (B.rl i y m hi hm) hb
 ·rw [valV_put,if_neg fun q=>?_]
  ·exact B.v0
  ·have q:x=z:=Sum.inl.inj q
   exact hz (q ▸ hx)
 ·rcases lastq j u hu with hjl | ⟨rfl,rfl⟩
  ·rw [List.getElem?_append_left hjl] at hu
   obtain ⟨i',z',t',b',m',a1,a2,a3,a4,a5,a6,a7⟩:=B.ch j u hj hu
   refine ⟨i',z',t',b',m',a1,by rw [List.getElem?_append_left (by omega)];exact a2,?_,?_,a5,by rw [List.getElem?_append_left (by omega)];exact a6,by rw [List.getElem?_append_left (by omega)];exact a7⟩
   ·rw [valV_put,if_neg fun q=>?_]
    ·exact a3
    ·have q:u=z:=Sum.inl.inj q
     exact hz (q ▸ List.mem_of_getElem? hu)
   ·rw [upd_ne (ne_of a4 B.hq (by intro q;cases q)),upd_ne (ne_of a4 B.hd (by intro q;cases q)),upd_ne (ne_of_none a4 ht)]
    exact a4
  ·refine ⟨i,y,t,b,m,hil,by rw [List.getElem?_append_left hil];exact hi,by rw [valV_put,if_pos rfl],?_,hb,by rw [List.getElem?_append_left (by omega)];exact hm,lastd⟩
   rw [upd_ne ntq,upd_ne ntd]
   exact upd_same
 ·rw [List.getElem?_append_left (by omega)]
  exact B.d0
 ·refine List.pairwise_append.mpr ⟨B.mono,by simp,fun a ha c hc=>?_⟩
  rw [List.mem_singleton] at hc
  rw [hc]
  exact ub a ha
 ·by_cases hjl:j < ds.length
  ·rw [List.getElem?_append_left hjl] at hk
   exact B.dj j k hk
  ·have hj2:j=ds.length:=by
    have:=(List.getElem?_eq_some_iff.mp hk).1
    rw [List.length_append,List.length_singleton] at this
    omega
   rw [hj2,dl,lastd] at hk
   cases hk
   have:=B.dj i m hm
   omega
section
variable {P:Program} {w:World} {K:W.Frag} {mg:Str→Option Value} {base:Heap} {CE CS CQ CT:Addr}
inductive spReachI  (vs:List V) (H:Hp) (Q:VK) (E:XK):Prop
 | mk (sa:Addr) (n:Nat) (L:Nat→PP) (x:Int):(vs=[.ref sa,.int x])→(StepsAt H sa n L)→(n≤100)→(0≤x)→(x < n)→((∀ k,k < n→∀ p∈L k,0≤p.2∧p.2 < n))→(∀ (H':Hp) (d qa:Addr) (kvs:List (Key × V)) (qs:List Int) (ds:List Nat),BF H H' d qa L n x kvs qs ds→H d=none→(∀ m y,RLn L x m y→∃ (j k:Nat),qs[j]?=some y∧ds[j]?=some k∧k≤m)→Q (.ref d) H')→spReachI  vs H Q E
def spReach  : Sp:=fun vs H Q E=>spReachI  vs H Q E
theorem scReach:FnScope ["steps", "start", "came_by", "queue", "place", "quarter", "bridge", "beyond"] ["steps", "start"] (defScope sReach):=⟨rfl,rfl,rfl,by decide +kernel,rfl,by decide +kernel,by decide +kernel⟩
def plc:St→Nat:=fun σ=>match (σ[4]?:Option (Option V)) with
 | some (some (V.int i))=>i.toNat
 | _=>0
theorem ok_reach {f:Addr} {fd:FuncData} (T:Txt K mg CE CS CQ CT) (F:Fun K "reached_from" "reached_from" sReach f fd):FnOk P w K mg base CX0 1 f fd ["steps", "start"] spReach:=by
 refine F.ok scReach (fun vs H Q E h=>?_) (fun cdv A outer s H vs Q E hr h=>?_)
 ·obtain ⟨sa,n,L,x,rfl,_⟩:=h
  rfl
 ·obtain ⟨sa,n,L,x,rfl,hsa,hn,hx0,hx1,hL,kQ⟩:=h
  have hu:=hu_of hr
  refine ⟨_,pss_cons (ps_set (i:=2) scReach.nd rfl (Or.inl rfl) (pe_disp (pps_cons (pv 1) pe_non pps_nil) rfl rfl (by simp) (by decide)))
   (pss_cons (ps_set (i:=3) scReach.nd rfl (Or.inl rfl) (pe_lst (pa_cons (pv 1) pa_nil)))
   (pss_cons (ps_set (i:=4) scReach.nd rfl (Or.inl rfl) pe_int)
   (pss_cons (ps_while PassesOwn.never (pt_cmpR op_lt (pv 4) (pe_callB c_len (by rfl) T.len PySem.boot_len (pa_cons (pv 3) pa_nil)) (nomark _))
    (pss_cons (ps_set (i:=5) scReach.nd rfl (Or.inl rfl) (pe_ix ix_list (pv 3) (pv 4) (fun _ _=>rfl)))
    (pss_cons (ps_for PassesOwn.never rfl (pi_list (pe_ix ix_list (pv 0) (pv 5) (fun _ _=>rfl))) (pg_tup (n:=2) rfl (pgs_cons (pg_name (i:=6) scReach.nd rfl (Or.inl rfl)) (pgs_cons (pg_name (i:=7) scReach.nd rfl (Or.inl rfl)) pgs_nil)))
     (pss_one (ps_if (pt_cmp (pc_dnotin hu (pv 7) (pv 2)))
      (pss_cons (ps_dput hu (pv 2) (pv 7) (pe_tup (pa_cons (pv 6) (pa_cons (pv 5) pa_nil))) rfl)
      (pss_one (ps_expr (pe_bm PySem.F.plainAttrs_list PySem.F.slot_list_append PySem.F.type_list_append mt_append (pv 3) (pa_cons (pv 7) pa_nil))))) pss_nil)))
    (pss_one (ps_aug (i:=4) scReach.nd rfl (Or.inl rfl) pe_int ip_add)))))
   (pss_one (ps_ret (pv 2)))))),?_⟩
  try dsimp only [cx_of,cx_nox,cx_comp]
  intro d hd
  refine ⟨_,rfl,upd_same,[(Sum.inl x,.non)],rfl,by show 1≤15;decide,?_⟩
  have e0:upd (upd H d (.dK [])) d (.dK (mergeK [] [(Sum.inl x,V.non)]))=upd H d (.dK [(Sum.inl x,V.non)]):=by rw [upd_upd];rfl
  rw [e0]
  refine ⟨_,rfl,by show 1≤sizeLine;decide,fun qa hqa=>?_⟩
  have hqa':H qa=none:=(Same.rfl'.new (o:=HO.dK [(Sum.inl x,V.non)]) hd).free hqa
  have ndq:d≠qa:=ne_of_none upd_same hqa
  have B0:BF H (upd (upd H d (.dK [(Sum.inl x,V.non)])) qa (.lst [V.int x])) d qa L n x [(Sum.inl x,V.non)] [x] [0]:=
   ⟨(Same.rfl'.new hd).tr (Same.rfl'.new hqa),by rw [upd_ne ndq];exact upd_same,upd_same,rfl,by simp,rfl,fun y hy=>by rw [List.mem_singleton] at hy;rw [hy];exact ⟨hx0,hx1⟩,fun j y m hy hm=>by
    have:=(List.getElem?_eq_some_iff.mp hy).1
    have e:j=0:=by simp at this;omega
    subst e
    cases hy
    cases hm
    exact .refl,valV_pos rfl,fun j y hj hy=>by
    have:=(List.getElem?_eq_some_iff.mp hy).1
    simp at this
    omega,rfl,rfl,by simp,fun j m hm=>by
    have:=(List.getElem?_eq_some_iff.mp hm).1
    have e:j=0:=by simp at this;omega
    subst e
    cases hm
    exact Nat.le_refl _⟩
  refine while_by (fun σ H2=>∃ kvs qs ds pl u v z,BF H H2 d qa L n x kvs qs ds∧pl≤qs.length∧(∀ i,i < pl→∀ y m,qs[i]?=some y→ds[i]?=some m→∀ p∈L y.toNat,∃ (j k:Nat),qs[j]?=some p.2∧ds[j]?=some k∧k≤m+1)∧(∀ m,ds[pl]?=some m→∀ k∈ds,k≤m+1)∧σ=[some (.ref sa),some (.int x),some (.ref d),some (.ref qa),some (.int ((pl:Nat):Int)),u,v,z])
   (fun σ _=>n - plc σ) ⟨_,[x],[0],0,_,_,_,B0,by simp,fun i hi=>absurd hi (by omega),fun m hm k hk=>(by rw [List.mem_singleton] at hk;omega),rfl⟩ ?_ ?_
  ·rintro σ H2 ⟨kvs,qs,ds,pl,u,v,z,B,hpl,hcl,hub,rfl⟩
   refine ⟨_,rfl,_,rfl,qa,_,rfl,.inl (SqL.of B.hq),_,_,rfl,rfl,_,rfl,?_⟩
   rw [List.length_map]
   have hlen:=B.len
   by_cases hlt:pl < qs.length
   rotate_left
   ·rw [decide_eq_false (show ¬ ((pl:Nat):Int) < (qs.length:Int) by omega)]
    refine iteF ⟨_,rfl,kQ H2 d qa kvs qs ds B hd fun m y hy=>?_⟩
    induction hy with
    | refl=>exact ⟨0,0,B.first,B.d0,Nat.le_refl _⟩
    | @step m y' z' b' _ hb ih=>
     obtain ⟨i,k,hi,hk,hkm⟩:=ih
     have hil:=(List.getElem?_eq_some_iff.mp hi).1
     obtain ⟨j',k',a1,a2,a3⟩:=hcl i (by omega) y' k hi hk (b',z') hb
     exact ⟨j',k',a1,a2,by omega⟩
   rw [decide_eq_true (show ((pl:Nat):Int) < (qs.length:Int) by omega)]
   obtain ⟨y,hy⟩:∃ y,qs[pl]?=some y:=⟨_,List.getElem?_eq_getElem hlt⟩
   obtain ⟨hy0,hy1⟩:=B.rng y (List.mem_of_getElem? hy)
   have hdl:=B.dl
   obtain ⟨dm,hdm⟩:∃ dm,ds[pl]?=some dm:=⟨_,List.getElem?_eq_getElem (by omega)⟩
   have hub0:=hub dm hdm
   have ey:((y.toNat:Nat):Int)=y:=by omega
   obtain ⟨as,ha,hal,hls⟩:=(hsa.same B.same).ex
   obtain ⟨a,hay⟩:∃ a,as[y.toNat]?=some a:=⟨_,List.getElem?_eq_getElem (by omega)⟩
   obtain ⟨ts,hts,hpv⟩:=hls _ a hay
   have hm:(as.map V.ref)[y.toNat]?=some (.ref a):=by rw [List.getElem?_map,hay];rfl
   refine iteT ⟨_,rfl,_,rfl,qa,_,_,_,rfl,rfl,SqL.of B.hq,atI_nat (v:=.int y) (by rw [List.getElem?_map,hy];rfl),?_⟩
   refine ⟨_,rfl,_,rfl,sa,_,_,V.ref a,rfl,rfl,SqL.of ha,by rw [← ey];exact atI_nat hm,a,rfl,⟨_,SqL.of hts⟩,?_⟩
   obtain ⟨as0,ha0,hal0,hls0⟩:=hsa.ex
   have eas:as=as0:=by
    have h1:=B.same _ _ ha0
    rw [ha] at h1
    exact (List.map_inj_right (fun _ _ e=>V.ref.inj e)).mp (HO.lst.inj (Option.some.inj h1))
   subst eas
   obtain ⟨ts0,hts0,hpv0⟩:=hls0 _ a hay
   have ets:ts=ts0:=by
    have h1:=B.same _ _ hts0
    rw [hts] at h1
    cases h1
    rfl
   subst ets
   refine for_list (K:=K) (a:=a) (xs:=ts) (fun j σ H3=>∃ kvs' qs' ds' v' z',BF H H3 d qa L n x kvs' qs' ds'∧(∃ more,qs'=qs++more)∧(∃ mored,ds'=ds++mored)∧(∀ k∈ds',k≤dm+1)∧(∀ p∈(L y.toNat).take j,p.2∈qs')∧σ=[some (.ref sa),some (.int x),some (.ref d),some (.ref qa),some (.int ((pl:Nat):Int)),some (.int y),v',z'])
    ⟨kvs,qs,ds,_,_,B,⟨[],by simp⟩,⟨[],by simp⟩,hub0,fun p hp=>by simp at hp,rfl⟩ (fun j σ H3 _ ⟨_,_,_,_,_,B3,_⟩=>SqL.of (B3.same _ _ hts0)) ?_ ?_
   ·rintro j tv σ H3 hj ⟨kvs',qs',ds',v',z',B3,⟨more,emore⟩,⟨mored,emored⟩,hub3,hcl3,rfl⟩
    obtain ⟨pr,hpr,ta,rfl,hta⟩:=(hpv0.same B3.same).get hj
    have hmem:pr∈L y.toNat:=List.mem_of_getElem? hpr
    obtain ⟨hr0,hr1⟩:=hL y.toNat (by omega) pr hmem
    have et:=take_snoc' hpr
    refine ⟨ta,_,rfl,SqT.of hta,rfl,_,_,rfl,_,_,rfl,rfl,?_⟩
    refine ⟨_,rfl,_,rfl,d,_,rfl,DGet.k (k:=Sum.inl pr.2) B3.hd,_,rfl,?_⟩
    have hmm:=B3.mem pr.2
    cases ev:valV kvs' (Sum.inl pr.2) with
    | some vv=>
     rw [ev] at hmm
     have hin:=hmm.mp rfl
     refine iteF ⟨kvs',qs',ds',_,_,B3,⟨more,emore⟩,⟨mored,emored⟩,hub3,fun p hp=>?_,rfl⟩
     rw [et] at hp
     rcases List.mem_append.mp hp with hp | hp
     ·exact hcl3 p hp
     ·rw [List.mem_singleton] at hp
      rw [hp]
      exact hin
    | none=>
     rw [ev] at hmm
     have hnin:pr.2 ∉ qs':=fun z=>by
      have:=hmm.mpr z
      cases this
     have hl3:=B3.len
     have hk3:kvs'.length=qs'.length:=by
      have:=congrArg List.length B3.keys
      simpa using this
     refine iteT ⟨_,rfl,_,rfl,by show 2≤sizeLine;decide,fun t ht=>?_⟩
     have ntd:d≠t:=ne_of_none B3.hd ht
     have ntq:qa≠t:=ne_of_none B3.hq ht
     refine ⟨_,rfl,_,rfl,d,_,rfl,DPut.k (k:=Sum.inl pr.2) (kvs:=kvs') (by rw [upd_ne ntd];exact B3.hd) (small1000 (by omega)),?_⟩
     have hq4:(upd (upd H3 t (.tup [V.int pr.1,V.int y])) d (.dK (putK kvs' (Sum.inl pr.2) (.ref t)))) qa=some (.lst (qs'.map V.int)):=by
      rw [upd_ne (Ne.symm ndq),upd_ne ntq]
      exact B3.hq
     refine ⟨_,rfl,.inl ⟨rfl,_,SqL.of hq4⟩,_,rfl,qa,_,_,rfl,rfl,hq4,by rw [List.length_map];exact small1000 (by omega),?_⟩
     have hyi:qs'[pl]?=some y:=by rw [emore,List.getElem?_append_left hlt];exact hy
     have hdi:ds'[pl]?=some dm:=by rw [emored,List.getElem?_append_left (by omega)];exact hdm
     refine ⟨_,qs'++[pr.2],ds'++[dm+1],_,_,B3.push (b:=pr.1) hd hqa' hyi hdi hub3 hnin hmem ⟨hr0,hr1⟩ ht,⟨more++[pr.2],by rw [emore,List.append_assoc]⟩,⟨mored++[dm+1],by rw [emored,List.append_assoc]⟩,fun k hk=>?_,fun p hp=>?_,rfl⟩
     ·rcases List.mem_append.mp hk with hk | hk
      ·exact hub3 k hk
      ·rw [List.mem_singleton] at hk
       omega
     rw [et] at hp
     rcases List.mem_append.mp hp with hp | hp
     ·exact List.mem_append_left _ (hcl3 p hp)
     ·rw [List.mem_singleton] at hp
      rw [hp]
      simp
   ·rintro σ H3 ⟨kvs',qs',ds',v',z',B3,⟨more,emore⟩,⟨mored,emored⟩,hub3,hcl3,rfl⟩
    rw [hpv0.length,List.take_length] at hcl3
    have hdi:ds'[pl]?=some dm:=by rw [emored,List.getElem?_append_left (by omega)];exact hdm
    have dl3:=B3.dl
    refine ⟨_,rfl,_,_,rfl,rfl,⟨⟨kvs',qs',ds',pl+1,_,_,_,B3,?_,fun i hi y' m' hy' hm' p hp=>?_,fun m hm k hk=>?_,rfl⟩,?_⟩⟩
    ·rw [emore,List.length_append]
     omega
    ·by_cases e:i=pl
     ·subst e
      rw [emore,List.getElem?_append_left hlt,hy] at hy'
      cases hy'
      rw [hdi] at hm'
      cases hm'
      obtain ⟨j',hj',ej⟩:=List.mem_iff_getElem.mp (hcl3 p hp)
      exact ⟨j',ds'[j']'(by omega),by rw [List.getElem?_eq_getElem hj',ej],List.getElem?_eq_getElem (by omega),hub3 _ (List.getElem_mem _)⟩
     ·rw [emore,List.getElem?_append_left (by omega)] at hy'
      rw [emored,List.getElem?_append_left (by omega)] at hm'
      obtain ⟨j',k',a1,a2,a3⟩:=hcl i (by omega) y' m' hy' hm' p hp
      have l1:=(List.getElem?_eq_some_iff.mp a1).1
      have l2:=(List.getElem?_eq_some_iff.mp a2).1
      exact ⟨j',k',by rw [emore,List.getElem?_append_left l1];exact a1,by rw [emored,List.getElem?_append_left l2];exact a2,a3⟩
    ·have h1:=hub3 k hk
     obtain ⟨l1,e1⟩:=List.getElem?_eq_some_iff.mp hm
     obtain ⟨l2,e2⟩:=List.getElem?_eq_some_iff.mp hdi
     have:=List.pairwise_iff_getElem.mp B3.mono pl (pl+1) l2 l1 (by omega)
     rw [e1,e2] at this
     omega
    ·show n - ((pl:Int)+1).toNat < n - ((pl:Nat):Int).toNat
     omega
  ·rintro σ H2 Q1 Q2 k ⟨a1,b1,a2,b2,a3,a4,b3,b4,a5,a6,b5,b6,c1,c2,q⟩
   exact ⟨a1,b1,a2,b2,a3,a4,b3,b4,a5,a6,b5,b6,c1,c2,k _ _ q⟩
end
end K26
namespace K26
open PySem L2 XM
inductive Pth (L:Nat→PP):Int→List (Int × Int)→Int→Prop
 | nil {y:Int}:Pth L y [] y
 | cons {x z y b:Int} {tl:List (Int × Int)}:(b,z)∈L x.toNat→Pth L z tl y→Pth L x ((b,z)::tl) y
structure Sym (L:Nat→PP) (n:Nat):Prop where
 rng:∀ k,k < n→∀ p∈L k,0≤p.2∧p.2 < n
 back:∀ k,k < n→∀ p∈L k,(p.1,(k:Int))∈L p.2.toNat
theorem stp_sym {ps:PP} {bs:List Int} {q:Int} (hok:∀ p∈ps,okPair q p=true) (hbs:∀ b∈bs,0≤b∧b < ps.length):Sym (stp ps bs) q.toNat:=by
 have ends:∀ b∈bs,(0≤(eb ps b).1∧(eb ps b).1 < q)∧(0≤(eb ps b).2∧(eb ps b).2 < q):=fun b hb=>by
  obtain ⟨h0,h1⟩:=hbs b hb
  have hl:b.toNat < ps.length:=by omega
  have e:eb ps b=ps[b.toNat]:=getD_at (List.getElem?_eq_getElem hl)
  have:=hok _ (List.getElem_mem hl)
  unfold okPair at this
  simp only [Bool.and_eq_true,decide_eq_true_eq] at this
  rw [e]
  exact ⟨this.1,this.2.1⟩
 constructor
 ·rintro k hk ⟨b,z⟩ hp
  obtain ⟨hb,⟨_,rfl⟩ | ⟨_,rfl⟩⟩:=mem_stp.mp hp
  ·have:=(ends b hb).2
   exact ⟨this.1,by have:=this.2;omega⟩
  ·have:=(ends b hb).1
   exact ⟨this.1,by have:=this.2;omega⟩
 ·rintro k hk ⟨b,z⟩ hp
  obtain ⟨hb,⟨e,rfl⟩ | ⟨e,rfl⟩⟩:=mem_stp.mp hp
  ·refine mem_stp.mpr ⟨hb,.inr ⟨?_,e.symm⟩⟩
   have:=(ends b hb).2
   show (eb ps b).2=(((eb ps b).2.toNat:Nat):Int)
   omega
  ·refine mem_stp.mpr ⟨hb,.inl ⟨?_,e.symm⟩⟩
   have:=(ends b hb).1
   show (eb ps b).1=(((eb ps b).1.toNat:Nat):Int)
   omega
theorem RLn.rng {L:Nat→PP} {n m:Nat} {x y:Int} (hL:∀ k,k < n→∀ p∈L k,0≤p.2∧p.2 < n) (hx:0≤x∧x < n) (h:RLn L x m y):0≤y∧y < n:=by
 induction h with
 | refl=>exact hx
 | @step m y' z b _ hb ih=>exact hL y'.toNat (by omega) (b,z) hb
theorem nodup_ix {qs:List Int} (h:qs.Nodup) {i j:Nat} {y:Int} (hi:qs[i]?=some y) (hj:qs[j]?=some y):i=j:=by
 obtain ⟨l1,e1⟩:=List.getElem?_eq_some_iff.mp hi
 obtain ⟨l2,e2⟩:=List.getElem?_eq_some_iff.mp hj
 rcases Nat.lt_trichotomy i j with h' | h' | h'
 ·exact absurd (e1.trans e2.symm) (List.pairwise_iff_getElem.mp h i j l1 l2 h')
 ·exact h'
 ·exact absurd (e2.trans e1.symm) (List.pairwise_iff_getElem.mp h j i l2 l1 h')
structure Way (L:Nat→PP) (n:Nat) (x y:Int) (tl:List (Int × Int)):Prop where
 pth:Pth L x tl y
 nd:(x::tl.map (·.2)).Nodup
 rl:RLn L x tl.length y
 least:∀ m,RLn L x m y→tl.length≤m
 lt:tl.length < n
section
variable {P:Program} {w:World} {K:W.Frag} {mg:Str→Option Value} {base:Heap} {CE CS CQ CT:Addr}
inductive spWayToI  (vs:List V) (H2:Hp) (Q:VK) (E:XK):Prop
 | mk (H1:Hp) (d qa:Addr) (L:Nat→PP) (n:Nat) (x y:Int) (kvs:List (Key × V)) (qs:List Int) (ds:List Nat):(vs=[.int y,.ref d])→(BF H1 H2 d qa L n x kvs qs ds)→(n≤100)→((∀ (m:Nat) (y:Int),RLn L x m y→∃ (j k:Nat),qs[j]?=some y∧ds[j]?=some k∧k≤m))→(((∀ m,¬ RLn L x m y)→∀ H',Same H2 H'→Q .non H'))→((∀ (H':Hp) (d:Addr) (tl:List (Int × Int)),Same H2 H'→H2 d=none→LI H' d (tl.map (·.1))→Way L n x y tl→Q (.ref d) H'))→spWayToI  vs H2 Q E
def spWayTo  : Sp:=fun vs H2 Q E=>spWayToI  vs H2 Q E
theorem scWayTo:FnScope ["quarter", "came_by", "way", "step"] ["quarter", "came_by"] (defScope sWayTo):=⟨rfl,rfl,rfl,by decide +kernel,rfl,by decide +kernel,by decide +kernel⟩
def lenAt (wa:Addr) (H:Hp):Nat:=match H wa with
 | some (.lst xs)=>xs.length
 | _=>0
theorem ok_wayTo {f:Addr} {fd:FuncData} (T:Txt K mg CE CS CQ CT) (F:Fun K "way_to" "way_to" sWayTo f fd):FnOk P w K mg base CX0 1 f fd ["quarter", "came_by"] spWayTo:=by
 refine F.ok scWayTo (fun vs H Q E h=>?_) (fun cdv A outer s H2 vs Q E hr h=>?_)
 ·obtain ⟨H1,d,qa,L,n,x,y,kvs,qs,ds,rfl,_⟩:=h
  rfl
 ·obtain ⟨H1,d,qa,L,n,x,y,kvs,qs,ds,rfl,B,hn100,hcomp,kN,kW⟩:=h
  have hu:=hu_of hr
  refine ⟨_,pss_cons (ps_if (pt_cmp (pc_dnotin hu (pv 0) (pv 1))) (pss_one (ps_ret pe_non)) pss_nil)
   (pss_cons (ps_set (i:=2) scWayTo.nd rfl (Or.inl rfl) (pe_lst pa_nil))
   (pss_cons (ps_set (i:=3) scWayTo.nd rfl (Or.inl rfl) (pe_dget hu (pv 1) (pv 0) (fun _ _=>rfl)))
   (pss_cons (ps_while PassesOwn.never (pt_cmp (pc_notN (pv 3)))
    (pss_cons (ps_expr (pe_bm PySem.F.plainAttrs_list PySem.F.slot_list_append PySem.F.type_list_append mt_append (pv 2) (pa_cons (pe_ix ix_tup (pv 3) pe_int (fun _ _=>rfl)) pa_nil)))
    (pss_one (ps_set (i:=3) scWayTo.nd rfl (Or.inl rfl) (pe_dget hu (pv 1) (pe_ix ix_tup (pv 3) pe_int (fun _ _=>rfl)) (fun _ _=>rfl))))))
   (pss_cons (ps_expr (pe_bm0 PySem.F.plainAttrs_list PySem.F.slot_list_reverse PySem.F.type_list_reverse mt_reverse (pv 2)))
   (pss_one (ps_ret (pv 2))))))),?_⟩
  try dsimp only [cx_of,cx_nox,cx_comp]
  have hmm:=B.mem y
  refine ⟨_,rfl,_,rfl,d,_,rfl,DGet.k (k:=Sum.inl y) B.hd,_,rfl,?_⟩
  cases ev:valV kvs (Sum.inl y) with
  | none=>
   rw [ev] at hmm
   refine iteT (kN (fun m hm=>?_) H2 Same.rfl')
   obtain ⟨j,k,a1,_⟩:=hcomp m y hm
   have:=hmm.mpr (List.mem_of_getElem? a1)
   cases this
  | some v0=>
   rw [ev] at hmm
   obtain ⟨j0,hj0,ej0⟩:=List.mem_iff_getElem.mp (hmm.mp rfl)
   have hj0':qs[j0]?=some y:=by rw [List.getElem?_eq_getElem hj0,ej0]
   have hdl:=B.dl
   obtain ⟨m0,hm0⟩:∃ m0,ds[j0]?=some m0:=⟨_,List.getElem?_eq_getElem (by omega)⟩
   refine iteF ⟨by show 0≤sizeLine;decide,fun wa hwa=>?_⟩
   have t0:Same H2 (upd H2 wa (.lst [])):=Same.rfl'.new hwa
   have g0:=DGet.k (k:=Sum.inl y) (t0 _ _ B.hd)
   rw [ev] at g0
   refine ⟨_,rfl,_,rfl,d,v0,rfl,g0,?_⟩
   have hmq:m0 < n:=by
    have:=B.dj j0 m0 hm0
    have:=B.len
    omega
   have hleast:∀ m,RLn L x m y→m0≤m:=fun m hm=>by
    obtain ⟨j,k,a1,a2,a3⟩:=hcomp m y hm
    have l1:=(List.getElem?_eq_some_iff.mp a1).1
    have e:j=j0:=nodup_ix B.nd a1 hj0'
    rw [e,hm0] at a2
    cases a2
    exact a3
   refine while_by (fun σ H3=>∃ (j:Nat) (yj:Int) (m:Nat) (tl:List (Int × Int)) (st:V),Same H2 H3∧LI H3 wa (tl.map (·.1)).reverse∧qs[j]?=some yj∧ds[j]?=some m∧valV kvs (Sum.inl yj)=some st∧Pth L yj tl y∧(yj::tl.map (·.2)).Nodup∧(∀ z∈tl.map (·.2),∃ k,j < k∧qs[k]?=some z)∧tl.length+m=m0∧
     σ=[some (.int y),some (.ref d),some (.ref wa),some st]) (fun _ H3=>m0+1 - lenAt wa H3)
    ⟨j0,y,m0,[],v0,t0,upd_same,hj0',hm0,ev,.nil,by simp,fun z hz=>by simp at hz,by simp,rfl⟩ ?_ ?_
   ·rintro σ H3 ⟨j,yj,m,tl,st,s3,hwa3,hj,hm,hv,hpth,hnd,hidx,hlen,rfl⟩
    refine ⟨_,rfl,_,rfl,?_⟩
    have hd3:H3 d=some (.dK kvs):=s3 _ _ B.hd
    by_cases h0:j=0
    ·subst h0
     have ex:yj=x:=by
      have:=B.first
      rw [hj] at this
      exact Option.some.inj this
     subst ex
     rw [B.v0] at hv
     cases hv
     have hm':m=0:=by
      have:=B.d0
      rw [hm] at this
      exact Option.some.inj this
     refine iteF ⟨_,rfl,.inl ⟨rfl,_,SqL.of hwa3⟩,wa,_,rfl,rfl,hwa3,_,rfl,?_⟩
     refine kW _ wa tl (fun b o e=>?_) hwa ?_ ⟨hpth,hnd,?_,fun m' h'=>?_,by omega⟩
     ·rw [upd_ne (ne_of_none e hwa)]
      exact s3 _ _ e
     ·rw [LI,upd_same,← List.map_reverse,List.reverse_reverse]
     ·have:=B.rl j0 y m0 hj0' hm0
      rw [show tl.length=m0 by omega]
      exact this
     ·have:=hleast m' h'
      omega
    ·obtain ⟨i,z,t,b,m',a1,a2,a3,a4,a5,a6,a7⟩:=B.ch j yj (by omega) hj
     rw [hv] at a3
     cases a3
     rw [hm] at a7
     have em:m=m'+1:=Option.some.inj a7
     have at3:H3 t=some (.tup [.int b,.int z]):=s3 _ _ a4
     refine iteT ⟨_,rfl,.inl ⟨rfl,_,SqL.of hwa3⟩,_,rfl,t,_,_,_,rfl,rfl,SqT.of at3,atI_nat (j:=0) rfl,wa,_,_,rfl,rfl,hwa3,by rw [List.length_map,List.length_reverse,List.length_map];exact small1000 (by omega),?_⟩
     have k4:∀ c o,H2 c=some o→(upd H3 wa (.lst (((tl.map (·.1)).reverse).map V.int++[V.int b]))) c=some o:=fun c o e=>by
      rw [upd_ne (ne_of_none e hwa)]
      exact s3 _ _ e
     obtain ⟨vz,hvz⟩:∃ vz,valV kvs (Sum.inl z)=some vz:=by
      have:=(B.mem z).mpr (List.mem_of_getElem? a2)
      exact Option.isSome_iff_exists.mp this
     have g3:=DGet.k (k:=Sum.inl z) (k4 _ _ B.hd)
     rw [hvz] at g3
     refine ⟨_,rfl,_,rfl,t,_,_,_,rfl,rfl,SqT.of (k4 _ _ a4),atI_nat (j:=1) rfl,d,vz,rfl,g3,?_⟩
     refine ⟨⟨i,z,m',(b,yj)::tl,vz,k4,?_,a2,a6,hvz,.cons a5 hpth,?_,?_,by rw [List.length_cons];omega,rfl⟩,?_⟩
     ·rw [LI,upd_same,List.map_cons,List.reverse_cons,List.map_append]
      rfl
     ·rw [List.map_cons]
      refine List.nodup_cons.mpr ⟨fun hz=>?_,hnd⟩
      have key:∀ k,j≤k→qs[k]?=some z→False:=fun k hk hkz=>by
       have:=nodup_ix B.nd hkz a2
       omega
      rcases List.mem_cons.mp hz with e | e
      ·exact key j (Nat.le_refl _) (by rw [e];exact hj)
      ·obtain ⟨k,hk,hkz⟩:=hidx z e
       exact key k (by omega) hkz
     ·intro u hu
      rcases List.mem_cons.mp hu with e | e
      ·exact ⟨j,a1,by rw [e];exact hj⟩
      ·obtain ⟨k,hk,hkz⟩:=hidx u e
       exact ⟨k,by omega,hkz⟩
     ·have e1:lenAt wa H3=tl.length:=by unfold lenAt;rw [hwa3];simp
      have e2:lenAt wa (upd H3 wa (.lst (((tl.map (·.1)).reverse).map V.int++[V.int b])))=tl.length+1:=by unfold lenAt;rw [upd_same];simp
      rw [e1,e2]
      omega
   ·rintro σ H3 Q1 Q2 k ⟨a1,b1,a2,b2,q⟩
    exact ⟨a1,b1,a2,b2,k _ _ q⟩
inductive spBetweenI (CT:Addr) (vs:List V) (H:Hp) (Q:VK) (E:XK):Prop
 | mk (p l2:Addr) (q:Int) (ys:List V) (ps:PP) (l:Addr) (bs:List Int) (x y:Int):(vs=[.ref p,.ref l,.int x,.int y])→(TownAt CT H p l2 q ys)→(PV H ys ps)→(fits q ps=true)→(LI H l bs)→(bs.length≤100)→((∀ b∈bs,0≤b∧b < ps.length))→((0≤x∧x < q))→(((∀ m,¬ RLn (stp ps bs) x m y)→∀ H',Same H H'→Q .non H'))→((∀ (H':Hp) (d:Addr) (tl:List (Int × Int)),Same H H'→H d=none→LI H' d (tl.map (·.1))→Way (stp ps bs) q.toNat x y tl→Q (.ref d) H'))→spBetweenI CT vs H Q E
def spBetween (CT:Addr):Sp:=fun vs H Q E=>spBetweenI CT vs H Q E
theorem scBetween:FnScope ["town", "some", "one", "other"] ["town", "some", "one", "other"] (defScope sBetween):=⟨rfl,rfl,rfl,by decide +kernel,rfl,by decide +kernel,by decide +kernel⟩
theorem ok_between {f f1 f2 f3:Addr} {fd fd1 fd2 fd3:FuncData} (T:Txt K mg CE CS CQ CT) (F:Fun K "way_between" "way_between" sBetween f fd)
  (G1:FnOk P w K mg base CX0 1 f1 fd1 ["town", "some"] (spSteps CT)) (b1:Binds K fd1 ["town", "some"] []) (m1:mg "steps_over" = some (.ref f1)) (k1:W.keepIn K (.ref f1)=true)
  (G2:FnOk P w K mg base CX0 1 f2 fd2 ["steps", "start"] spReach) (b2:Binds K fd2 ["steps", "start"] []) (m2:mg "reached_from" = some (.ref f2)) (k2:W.keepIn K (.ref f2)=true)
  (G3:FnOk P w K mg base CX0 1 f3 fd3 ["quarter", "came_by"] spWayTo) (b3:Binds K fd3 ["quarter", "came_by"] []) (m3:mg "way_to" = some (.ref f3)) (k3:W.keepIn K (.ref f3)=true) :
  FnOk P w K mg base CX0 2 f fd ["town", "some", "one", "other"] (spBetween CT):=by
 refine F.ok scBetween (fun vs H Q E h=>?_) (fun cdv A outer s H vs Q E hr h=>?_)
 ·obtain ⟨p,l2,q,ys,ps,l,bs,x,y,rfl,_⟩:=h
  rfl
 ·obtain ⟨p,l2,q,ys,ps,l,bs,x,y,rfl,ht,hp,hft,hl,hbl,hbs,⟨hx0,hx1⟩,kN,kW⟩:=h
  refine ⟨_,pss_one (ps_ret (pe_call G3 hr (by rfl) m3 k3 b3 .nil pass0 (pa_cons (pv 3) (pa_cons (pe_call G2 hr (by rfl) m2 k2 b2 .nil pass0 (pa_cons (pe_call G1 hr (by rfl) m1 k1 b1 .nil pass0 (pa_cons (pv 0) (pa_cons (pv 1) pa_nil))) (pa_cons (pv 2) pa_nil))) pa_nil)))),?_⟩
  try dsimp only [cx_of,cx_nox,cx_comp]
  obtain ⟨⟨hq1,hq2⟩,h60,hok⟩:=fits_iff hft
  refine ⟨_,rfl,_,rfl,_,rfl,p,l2,q,ys,ps,l,bs,rfl,ht,hp,hft,hl,hbl,hbs,fun H1 sa s1 hsa=>?_⟩
  have S:Sym (stp ps bs) q.toNat:=stp_sym hok hbs
  generalize stp ps bs=L at hsa S kN kW
  refine ⟨_,rfl,sa,q.toNat,L,x,rfl,hsa,by omega,hx0,by omega,S.rng,fun H2 d qa kvs qs ds B hd hcomp=>?_⟩
  have s2:=s1.tr B.same
  exact ⟨H1,d,qa,L,q.toNat,x,y,kvs,qs,ds,rfl,B,by omega,hcomp,fun h H' s'=>kN h H' (s2.tr s'),fun H' d' tl s' hd' hl' hw=>kW H' d' tl (s2.tr s') (s2.free hd') hl' hw⟩
end
end K26
namespace K26
open PySem L2 XM
theorem dd_len:∀ (ns acc:List Int),(ns.foldl PyProof.Rows.step_dedup acc).length≤acc.length+ns.length
 | [],acc=>by simp
 | n::r,acc=>by
  rw [List.foldl_cons]
  have h:=dd_len r (PyProof.Rows.step_dedup acc n)
  have h2:(PyProof.Rows.step_dedup acc n).length≤acc.length+1:=by
   unfold PyProof.Rows.step_dedup
   split <;> simp
  rw [List.length_cons]
  omega
theorem dd_iff:∀ (ns acc:List Int),acc.Nodup→((ns.foldl PyProof.Rows.step_dedup acc).length=acc.length+ns.length↔(acc++ns).Nodup)
 | [],acc,h=>by simpa using h
 | n::r,acc,h=>by
  rw [List.foldl_cons]
  by_cases hm:n∈acc
  ·have e:PyProof.Rows.step_dedup acc n=acc:=by
    unfold PyProof.Rows.step_dedup
    rw [if_pos (by simpa using hm)]
   rw [e]
   have:=dd_len r acc
   constructor
   ·intro z
    rw [List.length_cons] at z
    omega
   ·intro z
    exact absurd rfl ((List.nodup_append.mp z).2.2 n hm n List.mem_cons_self)
  ·have e:PyProof.Rows.step_dedup acc n=acc++[n]:=by
    unfold PyProof.Rows.step_dedup
    rw [if_neg (by simpa using hm)]
   rw [e]
   have ih:=dd_iff r (acc++[n]) (List.nodup_append.mpr ⟨h,by simp,fun a ha b hb=>by
    rw [List.mem_singleton] at hb
    subst hb
    exact fun z=>hm (z ▸ ha)⟩)
   rw [List.length_append,List.length_singleton,List.append_assoc] at ih
   rw [List.length_cons]
   constructor
   ·intro z
    exact ih.mp (by omega)
   ·intro z
    have:=ih.mpr z
    omega
theorem range_getD (ns:List Int):((List.range ns.length).map fun i=>ns.getD i 0)=ns:=by
 apply List.ext_getElem?
 intro i
 by_cases h:i < ns.length
 ·rw [List.getElem?_map,List.getElem?_range h,List.getElem?_eq_getElem h]
  simp [List.getElem?_eq_getElem h]
 ·rw [List.getElem?_eq_none (by simpa using h),List.getElem?_eq_none (by simpa using h)]
theorem distinct_iff (ns:List Int):(distinct ns).length=ns.length↔ns.Nodup:=by
 have e:distinct ns=ns.foldl PyProof.Rows.step_dedup []:=by
  unfold distinct PyProof.Rows.firstMet
  rw [range_getD]
 rw [e]
 simpa using dd_iff ns [] List.nodup_nil
inductive Rn (es:PP) (x:Int):Nat→Int→Prop
 | refl:Rn es x 0 x
 | step {m:Nat} {y z:Int}:Rn es x m y→((y,z)∈es∨(z,y)∈es)→Rn es x (m+1) z
theorem rn_rl {ps:PP} {bs:List Int} {q:Int} (S:Sym (stp ps bs) q.toNat) {x y:Int} {m:Nat} (hx:0≤x∧x < q):Rn (bs.map (eb ps)) x m y↔RLn (stp ps bs) x m y:=by
 have hx':0≤x∧x < q.toNat:=by omega
 constructor
 ·intro h
  induction h with
  | refl=>exact .refl
  | @step m y z _ he ih=>
   have hy:=RLn.rng S.rng hx' ih
   have ey:((y.toNat:Nat):Int)=y:=by omega
   rcases he with he | he
   ·obtain ⟨b,hb,e⟩:=List.mem_map.mp he
    exact .step ih (mem_stp.mpr ⟨hb,.inl ⟨by rw [e,ey],by rw [e]⟩⟩)
   ·obtain ⟨b,hb,e⟩:=List.mem_map.mp he
    exact .step ih (mem_stp.mpr ⟨hb,.inr ⟨by rw [e,ey],by rw [e]⟩⟩)
 ·intro h
  induction h with
  | refl=>exact .refl
  | @step m y z b h0 hb ih=>
   have hy:=RLn.rng S.rng hx' h0
   have ey:((y.toNat:Nat):Int)=y:=by omega
   obtain ⟨hm,⟨e1,e2⟩ | ⟨e1,e2⟩⟩:=mem_stp.mp hb
   ·refine .step ih (.inl (List.mem_map.mpr ⟨b,hm,?_⟩))
    rw [ey] at e1
    rw [e2,← e1]
   ·refine .step ih (.inr (List.mem_map.mpr ⟨b,hm,?_⟩))
    rw [ey] at e1
    rw [e2,← e1]
inductive RE (es:PP) (x:Int):Int→Prop
 | refl:RE es x x
 | step {y z:Int}:RE es x y→((y,z)∈es∨(z,y)∈es)→RE es x z
theorem RE.trans {es:PP} {x y z:Int} (h1:RE es x y) (h2:RE es y z):RE es x z:=by
 induction h2 with
 | refl=>exact h1
 | step _ he ih=>exact .step ih he
theorem RE.symm {es:PP} {x y:Int} (h:RE es x y):RE es y x:=by
 induction h with
 | refl=>exact .refl
 | step _ he ih=>exact (RE.step .refl he.symm).trans ih
theorem RE.mono {es es':PP} (hs:∀ p∈es,p∈es') {x y:Int} (h:RE es x y):RE es' x y:=by
 induction h with
 | refl=>exact .refl
 | step _ he ih=>exact .step ih (he.imp (hs _) (hs _))
theorem re_nil {x y:Int} (h:RE [] x y):x=y:=by
 cases h with
 | refl=>rfl
 | step _ he=>simp at he
theorem re_add {es:PP} {a b u v:Int}:RE (es++[(a,b)]) u v↔RE es u v∨(RE es u a∧RE es v b)∨(RE es u b∧RE es v a):=by
 constructor
 ·intro h
  induction h with
  | refl=>exact .inl .refl
  | @step y z _ he ih=>
   have cases3:((y,z)∈es∨(z,y)∈es)∨(y=a∧z=b)∨(y=b∧z=a):=by
    rcases he with he | he
    ·rcases List.mem_append.mp he with h | h
     ·exact .inl (.inl h)
     ·have:=List.mem_singleton.mp h
      exact .inr (.inl ⟨congrArg (·.1) this,congrArg (·.2) this⟩)
    ·rcases List.mem_append.mp he with h | h
     ·exact .inl (.inr h)
     ·have:=List.mem_singleton.mp h
      exact .inr (.inr ⟨congrArg (·.2) this,congrArg (·.1) this⟩)
   rcases cases3 with he | ⟨rfl,rfl⟩ | ⟨rfl,rfl⟩
   ·rcases ih with h | ⟨h1,h2⟩ | ⟨h1,h2⟩
    ·exact .inl (.step h he)
    ·exact .inr (.inl ⟨h1,(RE.step .refl he.symm).trans h2⟩)
    ·exact .inr (.inr ⟨h1,(RE.step .refl he.symm).trans h2⟩)
   ·rcases ih with h | ⟨h1,h2⟩ | ⟨h1,h2⟩
    ·exact .inr (.inl ⟨h,.refl⟩)
    ·exact .inr (.inl ⟨h1,.refl⟩)
    ·exact .inl h1
   ·rcases ih with h | ⟨h1,h2⟩ | ⟨h1,h2⟩
    ·exact .inr (.inr ⟨h,.refl⟩)
    ·exact .inl h1
    ·exact .inr (.inr ⟨h1,.refl⟩)
 ·have mono:∀ {x y:Int},RE es x y→RE (es++[(a,b)]) x y:=fun h=>h.mono fun p hp=>List.mem_append_left _ hp
  have e:RE (es++[(a,b)]) a b:=.step .refl (.inl (by simp))
  rintro (h | ⟨h1,h2⟩ | ⟨h1,h2⟩)
  ·exact mono h
  ·exact ((mono h1).trans e).trans (mono h2).symm
  ·exact ((mono h1).trans e.symm).trans (mono h2).symm
theorem re_rln {ps:PP} {bs:List Int} {q:Int} (S:Sym (stp ps bs) q.toNat) {x y:Int} (hx:0≤x∧x < q):RE (bs.map (eb ps)) x y↔∃ m,RLn (stp ps bs) x m y:=by
 constructor
 ·intro h
  suffices h':∃ m,Rn (bs.map (eb ps)) x m y by
   obtain ⟨m,hm⟩:=h'
   exact ⟨m,(rn_rl S hx).mp hm⟩
  induction h with
  | refl=>exact ⟨0,.refl⟩
  | step _ he ih=>
   obtain ⟨m,hm⟩:=ih
   exact ⟨m+1,.step hm he⟩
 ·rintro ⟨m,hm⟩
  have:=(rn_rl S hx).mpr hm
  clear hm
  induction this with
  | refl=>exact .refl
  | step _ he ih=>exact .step ih he
def Clo (ps:PP) (bs:List Int) (j:Nat):Prop:=∃ b,bs[j]?=some b∧RE ((bs.take j).map (eb ps)) (eb ps b).1 (eb ps b).2
structure Ring (ps:PP) (bs:List Int) (q:Int) (fs:List Int):Prop where
 ex:∃ (j:Nat) (b:Int) (tl:List (Int × Int)),bs[j]?=some b∧Way (stp ps (bs.take j)) q.toNat (eb ps b).1 (eb ps b).2 tl∧fs=tl.map (·.1)++[b]
structure MK (es:PP) (n:Nat) (ms:List Int):Prop where
 len:ms.length=n
 iff:∀ (u v:Nat) a b,ms[u]?=some a→ms[v]?=some b→(a=b↔RE es (u:Int) (v:Int))
theorem MK.start (n:Nat):MK [] n ((List.range n).map fun k=>((k:Nat):Int)):=by
 refine ⟨by simp,fun u v a b hu hv=>?_⟩
 have get:∀ (u:Nat) a,((List.range n).map fun k=>((k:Nat):Int))[u]?=some a→a=(u:Int):=fun u a h=>by
  rw [List.getElem?_map] at h
  obtain ⟨k,hk,rfl⟩:=Option.map_eq_some_iff.mp h
  have hl:=(List.getElem?_eq_some_iff.mp hk).1
  rw [List.length_range] at hl
  rw [List.getElem?_range hl] at hk
  rw [Option.some.inj hk]
 rw [get u a hu,get v b hv]
 constructor
 ·intro e
  have:u=v:=by omega
  rw [this]
  exact .refl
 ·intro h
  exact re_nil h
def mrk (old fresh m:Int):Int:=if m=old then fresh else m
theorem MK.join {es:PP} {n a b:Nat} {ms:List Int} {old fresh:Int} (h:MK es n ms) (ha:ms[a]?=some old) (hb:ms[b]?=some fresh) (hne:old≠fresh):MK (es++[((a:Int),(b:Int))]) n (ms.map (mrk old fresh)):=by
 refine ⟨by rw [List.length_map];exact h.len,fun u v x y hu hv=>?_⟩
 rw [List.getElem?_map] at hu hv
 obtain ⟨mu,hmu,rfl⟩:=Option.map_eq_some_iff.mp hu
 obtain ⟨mv,hmv,rfl⟩:=Option.map_eq_some_iff.mp hv
 rw [re_add]
 have i1:=h.iff u v mu mv hmu hmv
 have ua:=h.iff u a mu old hmu ha
 have ub:=h.iff u b mu fresh hmu hb
 have va:=h.iff v a mv old hmv ha
 have vb:=h.iff v b mv fresh hmv hb
 rw [← i1,← ua,← ub,← va,← vb]
 unfold mrk
 by_cases e1:mu=old
 ·by_cases e2:mv=old
  ·rw [if_pos e1,if_pos e2]
   exact ⟨fun _=>.inl (e1.trans e2.symm),fun _=>rfl⟩
  ·rw [if_pos e1,if_neg e2]
   constructor
   ·intro z
    exact .inr (.inl ⟨e1,z.symm⟩)
   ·rintro (z | ⟨_,z⟩ | ⟨z,_⟩)
    ·exact absurd (z.symm.trans e1) e2
    ·exact z.symm
    ·exact absurd (e1.symm.trans z) hne
 ·by_cases e2:mv=old
  ·rw [if_neg e1,if_pos e2]
   constructor
   ·intro z
    exact .inr (.inr ⟨z,e2⟩)
   ·rintro (z | ⟨z,_⟩ | ⟨z,_⟩)
    ·exact absurd (z.trans e2) e1
    ·exact absurd z e1
    ·exact z
  ·rw [if_neg e1,if_neg e2]
   constructor
   ·exact .inl
   ·rintro (z | ⟨z,_⟩ | ⟨_,z⟩)
    ·exact z
    ·exact absurd z e1
    ·exact absurd z e2
def CloE (es:PP) (j:Nat):Prop:=∃ e,es[j]?=some e∧RE (es.take j) e.1 e.2
def once (nss:List (List Int)):Bool:=decide ((distinct nss.flatten).length=nss.flatten.length)
theorem once_iff (nss:List (List Int)):once nss=true↔nss.flatten.Nodup:=by
 unfold once
 rw [decide_eq_true_eq]
 exact distinct_iff _
section
variable {P:Program} {w:World} {K:W.Frag} {mg:Str→Option Value} {base:Heap} {CE CS CQ CT:Addr}
inductive spRingI (CT CS:Addr) (vs:List V) (H:Hp) (Q:VK) (E:XK):Prop
 | mk (p l2:Addr) (q:Int) (ys:List V) (ps:PP) (l:Addr) (bs:List Int):(vs=[.ref p,.ref l])→(TownAt CT H p l2 q ys)→(PV H ys ps)→(fits q ps=true)→(LI H l bs)→(bs.length≤100)→((risesB bs ps.length=true→((∀ j,¬ Clo ps bs j)→∀ H',Same H H'→Q .non H')∧(∀ (H':Hp) (d:Addr) (fs:List Int),Same H H'→H d=none→LI H' d fs→Ring ps bs q fs→(∃ j,Clo ps bs j)→Q (.ref d) H')))→((risesB bs ps.length=false→∀ H',Same H H'→E (.ref CS) none H'))→spRingI CT CS vs H Q E
def spRing (CT CS:Addr):Sp:=fun vs H Q E=>spRingI CT CS vs H Q E
theorem scRing:FnScope ["town", "some", "ringless", "bridge", "ends", "way"] ["town", "some"] (defScope sRing):=⟨rfl,rfl,rfl,by decide +kernel,rfl,by decide +kernel,by decide +kernel⟩
theorem ok_ring {f f1 f2:Addr} {fd fd1 fd2:FuncData} (T:Txt K mg CE CS CQ CT) (F:Fun K "ring_over" "ring_over" sRing f fd)
  (G1:FnOk P w K mg base (CXE P w) 3 f1 fd1 ["some", "bridges"] (spCheckS CS)) (b1:Binds K fd1 ["some", "bridges"] []) (m1:mg "check_some" = some (.ref f1)) (k1:W.keepIn K (.ref f1)=true)
  (G2:FnOk P w K mg base CX0 2 f2 fd2 ["town", "some", "one", "other"] (spBetween CT)) (b2:Binds K fd2 ["town", "some", "one", "other"] []) (m2:mg "way_between" = some (.ref f2)) (k2:W.keepIn K (.ref f2)=true) :
  FnOk P w K mg base (CXE P w) 4 f fd ["town", "some"] (spRing CT CS):=by
 refine F.okE scRing (fun vs H Q E h=>?_) (fun cdv A outer s H vs Q E hr h=>?_)
 ·obtain ⟨p,l2,q,ys,ps,l,bs,rfl,_⟩:=h
  rfl
 ·obtain ⟨p,l2,q,ys,ps,l,bs,rfl,⟨⟨dx,ht⟩,hl2⟩,hp,hft,hl,hbl,kQ,kE⟩:=h
  have lets:=lets_cx (P:=P) (w:=w) (K:=K) (mg:=mg) (base:=base) (N:=["town", "some", "ringless", "bridge", "ends", "way"]) (qual := "ring_over") (scope:=defScope sRing) (f:=f) (cd:=cdv) (A:=A) (outer:=outer) (s:=s) (H:=H) (E:=E)
  have hr2:=hr.mono (show 2≤3 by omega)
  refine ⟨_,pss_cons (ps_expr (pe_call G1 hr (by rfl) m1 k1 b1 .nil lets.pass (pa_cons (pv 1) (pa_cons (pe_fld (pv 0) rfl) pa_nil))))
   (pss_cons (ps_set (i:=2) scRing.nd rfl (Or.inl rfl) (pe_lst pa_nil))
   (pss_cons (ps_for lets.po rfl (pi_list (pv 1)) (pg_name (i:=3) scRing.nd rfl (Or.inl rfl))
    (pss_cons (ps_set (i:=4) scRing.nd rfl (Or.inl rfl) (pe_ix ix_list (pe_fld (pv 0) rfl) (pv 3) (fun _ _=>rfl)))
    (pss_cons (ps_set (i:=5) scRing.nd rfl (Or.inl rfl) (pe_call G2 hr2 (by rfl) m2 k2 b2 .nil pass0 (pa_cons (pv 0) (pa_cons (pv 2) (pa_cons (pe_ix ix_tup (pv 4) pe_int (fun _ _=>rfl)) (pa_cons (pe_ix ix_tup (pv 4) pe_int (fun _ _=>rfl)) pa_nil))))))
    (pss_cons (ps_if (pt_cmp (pc_notN (pv 5))) (pss_one (ps_ret (pe_op op_cat (pv 5) (pe_lst (pa_cons (pv 3) pa_nil))))) pss_nil)
    (pss_one (ps_expr (pe_bm PySem.F.plainAttrs_list PySem.F.slot_list_append PySem.F.type_list_append mt_append (pv 2) (pa_cons (pv 3) pa_nil))))))))
   (pss_one (ps_ret pe_non)))),?_⟩
  try dsimp only [cx_of,cx_nox,cx_comp]
  obtain ⟨⟨hq1,hq2⟩,h60,hok⟩:=fits_iff hft
  have hlen:=hp.length
  refine ⟨_,rfl,_,rfl,p,CT,dx,_,_,rfl,ht,T.cl,T.nb,flds_b _ _,l,l2,bs,ys,rfl,hl,hl2,by omega,fun hb H1 s1=>?_,fun hb=>kE (by rw [← hlen];exact hb)⟩
  rw [hlen] at hb
  have hbs:∀ b∈bs,0≤b∧b < ps.length:=(risesB_iff.mp hb).2
  obtain ⟨kN,kR⟩:=kQ hb
  refine ⟨by show 0≤sizeLine;decide,fun ra hra=>?_⟩
  have fra:H ra=none:=s1.free hra
  have s2:Same H (upd H1 ra (.lst [])):=s1.tr (Same.rfl'.new hra)
  refine ⟨_,rfl,l,rfl,⟨_,SqL.of (s2 _ _ hl)⟩,for_list (K:=K) (a:=l) (xs:=bs.map V.int) (fun i σ H2=>(Same H H2∧LI H2 ra (bs.take i)∧∀ j,j < i→¬ Clo ps bs j)∧∃ u v z,σ=[some (.ref p),some (.ref l),some (.ref ra),u,v,z])
   ⟨⟨s2,upd_same,fun j hj=>absurd hj (by omega)⟩,_,_,_,rfl⟩ (fun i σ H2 _ ⟨⟨e,_⟩,_⟩=>SqL.of (e _ _ hl)) ?_ ?_⟩
  ·rintro i x σ H2 hi ⟨⟨s3,hra2,hno⟩,u,v,z,rfl⟩
   rw [List.getElem?_map] at hi
   obtain ⟨b,hbi,rfl⟩:=Option.map_eq_some_iff.mp hi
   have hil:=(List.getElem?_eq_some_iff.mp hbi).1
   obtain ⟨b0,b1'⟩:=hbs b (List.mem_of_getElem? hbi)
   obtain ⟨k,rfl⟩:∃ k:Nat,b=(k:Int):=⟨b.toNat,by omega⟩
   obtain ⟨xv,hxv⟩:∃ xv,ys[k]?=some xv:=⟨_,List.getElem?_eq_getElem (by omega)⟩
   obtain ⟨pr,hpr,a,rfl,hat⟩:=hp.get hxv
   have eeb:eb ps (k:Int)=pr:=getD_at hpr
   have at2:=s3 _ _ hat
   have hokp:=hok pr (List.mem_of_getElem? hpr)
   unfold okPair at hokp
   simp only [Bool.and_eq_true,decide_eq_true_eq] at hokp
   have hbt:∀ b∈bs.take i,0≤b∧b < ps.length:=fun b hb=>hbs b (List.mem_of_mem_take hb)
   have S:Sym (stp ps (bs.take i)) q.toNat:=stp_sym hok hbt
   refine ⟨_,rfl,p,CT,dx,_,_,rfl,s3 _ _ ht,T.cl,T.nb,flds_b _ _,_,rfl,l2,_,_,_,rfl,rfl,SqL.of (s3 _ _ hl2),atI_nat hxv,?_⟩
   refine ⟨_,rfl,_,rfl,_,rfl,a,_,_,_,rfl,rfl,SqT.of at2,atI_nat (j:=0) rfl,_,rfl,a,_,_,_,rfl,rfl,SqT.of at2,atI_nat (j:=1) rfl,p,l2,q,ys,ps,ra,bs.take i,pr.1,pr.2,rfl,⟨⟨dx,s3 _ _ ht⟩,s3 _ _ hl2⟩,hp.same s3,hft,hra2,by rw [List.length_take];omega,hbt,hokp.1,fun hn H3 s4=>?_,fun H3 d tl s4 hd hdl hw=>?_⟩
   ·refine ⟨_,rfl,_,rfl,?_⟩
    have ra3:=s4 _ _ hra2
    refine iteF ⟨_,rfl,.inl ⟨rfl,_,SqL.of ra3⟩,_,rfl,ra,_,_,rfl,rfl,ra3,by rw [List.length_map,List.length_take];exact small1000 (by omega),?_⟩
    refine ⟨⟨fun c o e=>by rw [upd_ne (ne_of_none e fra)];exact s4 _ _ (s3 _ _ e),?_,fun j hj=>?_⟩,_,_,_,rfl⟩
    ·rw [LI,upd_same,take_snoc' hbi,List.map_append]
     rfl
    ·by_cases e:j=i
     ·subst e
      rintro ⟨b,hb',hre⟩
      rw [hbi] at hb'
      cases hb'
      rw [eeb] at hre
      obtain ⟨m,hm⟩:=(re_rln S hokp.1).mp hre
      exact hn m hm
     ·exact hno j (by omega)
   ·refine ⟨_,rfl,_,rfl,?_⟩
    refine iteT ⟨_,rfl,_,rfl,by show 1≤sizeLine;decide,fun p1 hp1=>⟨d,p1,_,_,rfl,rfl,by rw [upd_ne (ne_of_none hdl hp1)];exact hdl,upd_same,?_,fun p2 hp2=>?_⟩⟩
    ·rw [List.length_map,List.length_map]
     have:=hw.lt
     exact Nat.le_of_lt (small1000 (by show tl.length+1≤1000;omega))
    ·have s5:=(s3.tr s4).tr ((Same.rfl'.new (o:=.lst [V.int (k:Int)]) hp1).tr (Same.rfl'.new (o:=.lst ((tl.map (·.1)).map V.int++[V.int (k:Int)])) hp2))
     refine kR _ p2 (tl.map (·.1)++[(k:Int)]) s5 ?_ ?_ ⟨i,(k:Int),tl,hbi,by rw [eeb];exact hw,rfl⟩ ⟨i,(k:Int),hbi,?_⟩
     ·exact ((s3.tr s4).tr (Same.rfl'.new (o:=.lst [V.int (k:Int)]) hp1)).free hp2
     ·rw [LI,upd_same,List.map_append]
      rfl
     ·rw [eeb]
      exact (re_rln S hokp.1).mpr ⟨_,hw.rl⟩
  ·rintro σ H2 ⟨⟨s3,hra2,hno⟩,u,v,z,rfl⟩
   rw [List.length_map] at hno
   refine kN (fun j hc=>?_) H2 s3
   obtain ⟨b,hb',_⟩:=id hc
   exact hno j (List.getElem?_eq_some_iff.mp hb').1 hc
inductive spOnceI  (vs:List V) (H:Hp) (Q:VK) (E:XK):Prop
 | mk (l:Addr) (xs:List V) (nss:List (List Int)):(vs=[.ref l])→(H l=some (.lst xs))→(LS H xs nss)→(nss.flatten.length≤1000)→(∀ H',Same H H'→Q (.bl (once nss)) H')→spOnceI  vs H Q E
def spOnce  : Sp:=fun vs H Q E=>spOnceI  vs H Q E
theorem scOnce:FnScope ["lists", "met"] ["lists"] (defScope sOnce):=⟨rfl,rfl,rfl,by decide +kernel,rfl,by decide +kernel,by decide +kernel⟩
inductive spTogetherI  (vs:List V) (H:Hp) (Q:VK) (E:XK):Prop
 | mk (l:Addr) (xs:List V) (nss:List (List Int)):(vs=[.ref l])→(H l=some (.lst xs))→(LS H xs nss)→(nss.flatten.length≤1000)→(∀ (H':Hp) (m:Addr),Same H H'→H m=none→LI H' m nss.flatten→Q (.ref m) H')→spTogetherI  vs H Q E
def spTogether  : Sp:=fun vs H Q E=>spTogetherI  vs H Q E
theorem scTogether:FnScope ["lists", "together", "numbers"] ["lists"] (defScope sTogether):=⟨rfl,rfl,rfl,by decide +kernel,rfl,by decide +kernel,by decide +kernel⟩
theorem ok_together {f:Addr} {fd:FuncData} (T:Txt K mg CE CS CQ CT) (F:Fun K "put_together" "put_together" sTogether f fd):FnOk P w K mg base CX0 1 f fd ["lists"] spTogether:=by
 refine F.ok scTogether (fun vs H Q E h=>?_) (fun cdv A outer s H vs Q E hr h=>?_)
 ·obtain ⟨l,xs,nss,rfl,_⟩:=h
  rfl
 ·obtain ⟨l,xs,nss,rfl,hl,hx,hn,kQ⟩:=h
  refine ⟨_,pss_cons (ps_set (i:=1) scTogether.nd rfl (Or.inl rfl) (pe_lst pa_nil))
   (pss_cons (ps_for PassesOwn.never rfl (pi_list (pv 0)) (pg_name (i:=2) scTogether.nd rfl (Or.inl rfl))
    (pss_one (ps_expr (pe_bm PySem.F.plainAttrs_list PySem.F.slot_list_extend PySem.F.type_list_extend mt_extend (pv 1) (pa_cons (pv 2) pa_nil)))))
   (pss_one (ps_ret (pv 1)))),?_⟩
  try dsimp only [cx_of,cx_nox,cx_comp]
  have hlen:=hx.length
  refine ⟨by show 0≤sizeLine;decide,fun m hm=>?_⟩
  have s0:Same H (upd H m (.lst [])):=Same.rfl'.new hm
  refine ⟨_,rfl,l,rfl,⟨_,SqL.of (s0 _ _ hl)⟩,for_list (K:=K) (a:=l) (xs:=xs) (fun i σ H2=>Same H H2∧LI H2 m ((nss.take i).flatten)∧∃ u,σ=[some (.ref l),some (.ref m),u])
   ⟨s0,upd_same,_,rfl⟩ (fun i σ H2 _ ⟨e,_⟩=>SqL.of (e _ _ hl)) ?_ ?_⟩
  ·rintro i x σ H2 hi ⟨s2,hm2,u,rfl⟩
   obtain ⟨ns,hns,a,rfl,ha⟩:=hx.get hi
   have ha2:LI H2 a ns:=s2 _ _ ha
   refine ⟨_,rfl,.inl ⟨rfl,_,SqL.of hm2⟩,_,rfl,m,a,_,_,rfl,rfl,hm2,ha2,?_,?_⟩
   ·rw [List.length_map,List.length_map]
    have h1:=flat_take_le nss (i+1)
    rw [flat_take hns,List.length_append] at h1
    exact Nat.le_of_lt (small1000 (by omega))
   ·refine ⟨fun b o e=>?_,?_,_,rfl⟩
    ·rw [upd_ne (ne_of_none e hm)]
     exact s2 _ _ e
    ·rw [LI,upd_same,flat_take hns,List.map_append]
  ·rintro σ H2 ⟨s2,hm2,u,rfl⟩
   rw [hlen,List.take_length] at hm2
   exact ⟨_,rfl,kQ H2 m s2 hm hm2⟩
theorem ok_once {f f1:Addr} {fd fd1:FuncData} (T:Txt K mg CE CS CQ CT) (F:Fun K "each_once" "each_once" sOnce f fd) (G1:FnOk P w K mg base CX0 1 f1 fd1 ["lists"] spTogether) (b1:Binds K fd1 ["lists"] []) (m1:mg "put_together" = some (.ref f1)) (k1:W.keepIn K (.ref f1)=true) :
  FnOk P w K mg base CX0 2 f fd ["lists"] spOnce:=by
 refine F.ok scOnce (fun vs H Q E h=>?_) (fun cdv A outer s H vs Q E hr h=>?_)
 ·obtain ⟨l,xs,nss,rfl,_⟩:=h
  rfl
 ·obtain ⟨l,xs,nss,rfl,hl,hx,hn,kQ⟩:=h
  refine ⟨_,pss_cons (ps_set (i:=1) scOnce.nd rfl (Or.inl rfl) (pe_call G1 hr (by rfl) m1 k1 b1 .nil pass0 (pa_cons (pv 0) pa_nil)))
   (pss_one (ps_ret (pe_cmpR op_eq (pe_callB call_lenSet (by rfl) T.len PySem.boot_len (pa_cons (pe_callTy (c_set rfl) (by rfl) T.set boot_set (pa_cons (pv 1) pa_nil)) pa_nil))
    (pe_callB c_len (by rfl) T.len PySem.boot_len (pa_cons (pv 1) pa_nil)) (nomark _)))),?_⟩
  try dsimp only [cx_of,cx_nox,cx_comp]
  refine ⟨_,rfl,l,xs,nss,rfl,hl,hx,hn,fun H2 m s2 _ hm2=>?_⟩
  refine ⟨_,rfl,m,nss.flatten,rfl,SqL.of hm2,?_,fun d hd=>?_⟩
  ·show nss.flatten.length+1 < 4096
   omega
  ·have s3:Same H2 (upd H2 d (.set (fun k=>(distinct nss.flatten).any (· == k)) (distinct nss.flatten).length)):=Same.rfl'.new hd
   have hle:(distinct nss.flatten).length≤nss.flatten.length:=PyProof.Rows.firstMet_length_le _ _
   refine ⟨d,_,_,rfl,upd_same,by omega,_,rfl,m,_,rfl,.inl (SqL.of (s3 _ _ hm2)),rfl,?_⟩
   have:=kQ _ (s2.tr s3)
   unfold once at this
   have e:decide (V.int ((distinct nss.flatten).length:Int)=V.int ((nss.flatten.map V.int).length:Int))=decide ((distinct nss.flatten).length=nss.flatten.length):=by
    rw [List.length_map]
    exact dec_nat
   rw [e]
   exact this
end
end K26
namespace K26
open PySem L2 XM
section
variable {P:Program} {w:World} {K:W.Frag} {mg:Str→Option Value} {base:Heap} {CE CS CQ CT:Addr}
def grpOk (q f:Int) (g:List Int):Bool:=!decide ((g.length:Int) < f) && risesB g q
def groupsOk (nss:List (List Int)) (q f:Int):Bool:=nss.all (grpOk q f) && (once nss && rising (nss.map (·.headD 0)))
inductive spGroupsI  (vs:List V) (H:Hp) (Q:VK) (E:XK):Prop
 | mk (l:Addr) (xs:List V) (nss:List (List Int)) (q f:Int):(vs=[.ref l,.int q,.int f])→(H l=some (.lst xs))→(LS H xs nss)→(1≤f)→(nss.flatten.length≤1000)→(nss.length≤1000)→(∀ H',Same H H'→Q (.bl (groupsOk nss q f)) H')→spGroupsI  vs H Q E
def spGroups  : Sp:=fun vs H Q E=>spGroupsI  vs H Q E
theorem scGroups:FnScope ["groups", "quarters", "fewest", "group"] ["groups", "quarters", "fewest"] (defScope sGroups):=⟨rfl,rfl,rfl,by decide +kernel,rfl,by decide +kernel,by decide +kernel⟩
theorem len_le_flat' {nss:List (List Int)} {i:Nat} {ns:List Int} (h:nss[i]?=some ns):ns.length≤nss.flatten.length:=by
 have:=flat_take_le nss (i+1)
 rw [flat_take h,List.length_append] at this
 omega
theorem ok_groups {f f1 f2 f3:Addr} {fd fd1 fd2 fd3:FuncData} (T:Txt K mg CE CS CQ CT) (F:Fun K "are_groups" "are_groups" sGroups f fd)
  (G1:FnOk P w K mg base CX0 2 f1 fd1 ["numbers", "count"] spRisesB) (b1:Binds K fd1 ["numbers", "count"] []) (m1:mg "rises_below" = some (.ref f1)) (k1:W.keepIn K (.ref f1)=true)
  (G2:FnOk P w K mg base CX0 2 f2 fd2 ["lists"] spOnce) (b2:Binds K fd2 ["lists"] []) (m2:mg "each_once" = some (.ref f2)) (k2:W.keepIn K (.ref f2)=true)
  (G3:FnOk P w K mg base CX0 1 f3 fd3 ["numbers"] spRises) (b3:Binds K fd3 ["numbers"] []) (m3:mg "rises" = some (.ref f3)) (k3:W.keepIn K (.ref f3)=true) :
  FnOk P w K mg base CX0 3 f fd ["groups", "quarters", "fewest"] spGroups:=by
 refine F.ok scGroups (fun vs H Q E h=>?_) (fun cdv A outer s H vs Q E hr h=>?_)
 ·obtain ⟨l,xs,nss,q,f,rfl,_⟩:=h
  rfl
 ·obtain ⟨l,xs,nss,q,f,rfl,hl,hx,hf,hn,hn2,kQ⟩:=h
  have nd2:((["group"]:List Str)++([]:List Str)).Nodup:=by decide +kernel
  have hr1:=hr.mono (show 1≤2 by omega)
  refine ⟨_,pss_cons (ps_for PassesOwn.never rfl (pi_list (pv 0)) (pg_name (i:=3) scGroups.nd rfl (Or.inl rfl))
    (pss_one (ps_if (pw_or (pt_cmpR op_lt (pe_callB c_len (by rfl) T.len PySem.boot_len (pa_cons (pv 3) pa_nil)) (pv 2) (nomark _))
     (pw_or1 (pt_not (pt_val (pe_call G1 hr (by rfl) m1 k1 b1 .nil pass0 (pa_cons (pv 3) (pa_cons (pv 1) pa_nil))))))).pt (pss_one (ps_ret pe_bl)) pss_nil)))
   (pss_one (ps_ret (pe_and (pe_call G2 hr (by rfl) m2 k2 b2 .nil pass0 (pa_cons (pv 0) pa_nil)) (pe_one (pe_call G3 hr1 (by rfl) m3 k3 b3 .nil pass0 (pa_cons
    (pe_comp (own:=["group"]) (caps:=[]) (cs:=[]) (sc:=defScope sGroups) ⟨rfl,rfl,by decide +kernel,by decide +kernel,by decide +kernel,by decide +kernel,rfl⟩ rfl
    (pi_list (pv 0)) (fun _ _ _ _ _=>pg_name (i:=0) nd2 rfl (Or.inl rfl) (.inr rfl)) (fun _ _ _ _ _=>pf_nil) (fun _ _ _ _ _=>pe_ix ix_list (pv 0) pe_int (fun _ _=>rfl))) pa_nil)))))),?_⟩
  try dsimp only [cx_of,cx_nox,cx_comp]
  have hlen:=hx.length
  refine ⟨_,rfl,l,rfl,⟨_,SqL.of hl⟩,for_list (K:=K) (a:=l) (xs:=xs) (fun i σ H2=>Same H H2∧(nss.take i).all (grpOk q f)=true∧∃ u,σ=[some (.ref l),some (.int q),some (.int f),u])
   ⟨Same.rfl',by simp,_,rfl⟩ (fun i σ H2 _ ⟨e,_⟩=>SqL.of (e _ _ hl)) ?_ ?_⟩
  ·rintro i x σ H2 hi ⟨s2,ha,u,rfl⟩
   obtain ⟨ns,hns,a,rfl,hat⟩:=hx.get hi
   have ha2:LI H2 a ns:=s2 _ _ hat
   have no:grpOk q f ns=false→∀ H3,Same H H3→Q (.bl false) H3:=fun hg H3 s3=>by
    have:=kQ H3 s3
    unfold groupsOk at this
    rw [all_no hns hg] at this
    exact this
   refine ⟨_,rfl,a,_,rfl,.inl (SqL.of ha2),_,rfl,_,_,rfl,rfl,_,rfl,?_⟩
   rw [List.length_map]
   by_cases h1:(ns.length:Int) < f
   ·rw [decide_eq_true h1]
    refine iteT (iteT (no ?_ _ s2))
    unfold grpOk
    rw [decide_eq_true h1]
    rfl
   ·rw [decide_eq_false h1]
    refine iteF ⟨_,rfl,_,rfl,a,ns,q,rfl,ha2,Nat.le_trans (len_le_flat' hns) hn,fun H3 s3=>?_⟩
    refine ⟨_,rfl,?_⟩
    have eg:grpOk q f ns=risesB ns q:=by
     unfold grpOk
     rw [decide_eq_false h1]
     rfl
    cases hb:risesB ns q with
    | false=>exact iteT (no (eg.trans hb) _ (s2.tr s3))
    | true=>
     refine iteF ⟨s2.tr s3,?_,_,rfl⟩
     rw [take_snoc' hns,List.all_append,ha]
     simp [eg.trans hb]
  ·rintro σ H2 ⟨s2,ha,u,rfl⟩
   rw [hlen,List.take_length] at ha
   have hl2:=s2 _ _ hl
   refine ⟨_,rfl,l,xs,nss,rfl,hl2,hx.same s2,hn,fun H3 s3=>⟨_,rfl,?_⟩⟩
   have e0:groupsOk nss q f=(once nss && rising (nss.map (·.headD 0))):=by unfold groupsOk;rw [ha];rfl
   cases ho:once nss with
   | false=>
    refine iteF ?_
    have:=kQ H3 (s2.tr s3)
    rw [e0,ho] at this
    exact this
   | true=>
    have q3:=s3 _ _ hl2
    refine iteT ⟨_,rfl,l,rfl,⟨_,SqL.of q3⟩,fun D hD=>comp_ext0 (n:=nss.length) hD (fun i=>(nss.take i).map fun g=>V.int (g.headD 0)) rfl (fun i hi=>?_) (fun i H4 hi sm hD4=>?_) (fun H4 sm hD4=>?_)⟩
    ·rw [List.length_map,List.length_take]
     exact small1000 (by omega)
    ·obtain ⟨x,hxi⟩:∃ x,xs[i]?=some x:=⟨_,List.getElem?_eq_getElem (by omega)⟩
     obtain ⟨ns,hns,a,rfl,hat⟩:=hx.get hxi
     have q4:=sm _ _ q3
     refine ⟨⟨_,_,SqL.of q4,hxi⟩,fun K1 k1 x H' y=>?_⟩
     obtain ⟨rfl,e⟩:=y
     have ex:=e _ (SqL.of q4)
     rw [hxi] at ex
     cases ex
     have hg:grpOk q f ns=true:=List.all_eq_true.mp ha ns (List.mem_of_getElem? hns)
     have hne:ns≠[]:=fun z=>by
      subst z
      unfold grpOk at hg
      rw [decide_eq_true (show ((([]:List Int).length:Nat):Int) < f by show (0:Int) < f;omega)] at hg
      cases hg
     have at4:LI H' a ns:=sm _ _ (s3 _ _ (s2 _ _ hat))
     refine ⟨rfl,⟨_,rfl,a,_,_,V.int (ns.headD 0),rfl,rfl,SqL.of at4,atI_nat (j:=0) ?_,k1 _ _ Same.rfl' ?_⟩⟩
     ·cases ns with
      | nil=>exact absurd rfl hne
      | cons n r=>rfl
     ·rw [take_snoc hns]
    ·have q4:=sm _ _ q3
     have hD4':LI H4 D (nss.map (·.headD 0)):=by
      rw [LI,hD4,List.take_length,List.map_map]
      rfl
     refine ⟨⟨_,SqL.of q4,by rw [hlen];exact Nat.le_refl _⟩,D,_,rfl,hD4',by rw [List.length_map];exact hn2,fun H5 s5=>?_⟩
     have:=kQ H5 (((s2.tr s3).tr (sm)).tr s5)
     rw [e0,ho,Bool.true_and] at this
     exact this
end
theorem cloE_iff {ps:PP} {bs:List Int} {j:Nat}:CloE (bs.map (eb ps)) j↔Clo ps bs j:=by
 constructor
 ·rintro ⟨e,he,h⟩
  rw [List.getElem?_map] at he
  obtain ⟨b,hb,rfl⟩:=Option.map_eq_some_iff.mp he
  rw [← List.map_take] at h
  exact ⟨b,hb,h⟩
 ·rintro ⟨b,hb,h⟩
  rw [List.map_take] at h
  exact ⟨eb ps b,by rw [List.getElem?_map,hb];rfl,h⟩
def DealOk (ps:PP) (nss:List (List Int)):Prop:=(∀ g∈nss,risesB g ps.length=true∧∀ j,¬ Clo ps g j)∧nss.flatten.Nodup
theorem flat_split {nss:List (List Int)} {i:Nat} {g:List Int} (h:nss[i]?=some g):nss.flatten=(nss.take i).flatten++(g++(nss.drop (i+1)).flatten):=by
 conv=>lhs;rw [← List.take_append_drop (i+1) nss,List.flatten_append,flat_take h,List.append_assoc]
theorem twice {nss:List (List Int)} {i j:Nat} {g:List Int} {b:Int} (h:nss[i]?=some g) (hj:g[j]?=some b) (hm:b∈(nss.take i).flatten∨b∈g.take j):¬ nss.flatten.Nodup:=fun hn=>by
 rw [flat_split h] at hn
 obtain ⟨_,h2,h3⟩:=List.nodup_append.mp hn
 rcases hm with hm | hm
 ·exact h3 b hm b (List.mem_append_left _ (List.mem_of_getElem? hj)) rfl
 ·exact nodup_take (List.nodup_append.mp h2).1 hj hm
section
variable {P:Program} {w:World} {K:W.Frag} {mg:Str→Option Value} {base:Heap} {CE CS CQ CT:Addr}
inductive spRinglessI  (vs:List V) (H:Hp) (Q:VK) (E:XK):Prop
 | mk (lp l:Addr) (xs:List V) (ps:PP) (q:Int) (hs:List Int):(vs=[.int q,.ref lp,.ref l])→(H lp=some (.lst xs))→(PV H xs ps)→((∀ p∈ps,okPair q p=true))→(0≤q)→(q≤24)→(LI H l hs)→((∀ b∈hs,0≤b∧b < ps.length))→(∀ (H':Hp) (r:Bool),Same H H'→(r=true↔∀ j,¬ Clo ps hs j)→Q (.bl r) H')→spRinglessI  vs H Q E
def spRingless  : Sp:=fun vs H Q E=>spRinglessI  vs H Q E
theorem scRingless:FnScope ["quarters", "pairs", "held", "marks", "bridge", "one", "other"] ["quarters", "pairs", "held"] (defScope sRingless):=⟨rfl,rfl,rfl,by decide +kernel,rfl,by decide +kernel,by decide +kernel⟩
theorem ok_ringless {f:Addr} {fd:FuncData} (T:Txt K mg CE CS CQ CT) (F:Fun K "_law_ringless" "_law_ringless" sRingless f fd):FnOk P w K mg base CX0 1 f fd ["quarters", "pairs", "held"] spRingless:=by
 refine F.ok scRingless (fun vs H Q E h=>?_) (fun cdv A outer s H vs Q E hr h=>?_)
 ·obtain ⟨lp,l,xs,ps,q,hs,rfl,_⟩:=h
  rfl
 ·obtain ⟨lp,l,xs,ps,q,hs,rfl,hlp,hpv,hok,hq0,hq,hl,hbs,kQ⟩:=h
  have nd1:((["mark"]:List Str)++(["one", "other"]:List Str)).Nodup:=by decide +kernel
  refine ⟨_,pss_cons (ps_set (i:=3) scRingless.nd rfl (Or.inl rfl) (pe_listRange rfl (by rfl) T.list (by rfl) T.range (pv 0)))
   (pss_cons (ps_for PassesOwn.never rfl (pi_list (pv 2)) (pg_name (i:=4) scRingless.nd rfl (Or.inl rfl))
    (pss_cons (ps_set (i:=5) scRingless.nd rfl (Or.inr rfl) (pe_ix ix_list (pv 3) (pe_ix ix_tup (pe_ix ix_list (pv 1) (pv 4) (fun _ _=>rfl)) pe_int (fun _ _=>rfl)) (fun _ _=>rfl)))
    (pss_cons (ps_set (i:=6) scRingless.nd rfl (Or.inr rfl) (pe_ix ix_list (pv 3) (pe_ix ix_tup (pe_ix ix_list (pv 1) (pv 4) (fun _ _=>rfl)) pe_int (fun _ _=>rfl)) (fun _ _=>rfl)))
    (pss_cons (ps_if (pt_cmpR op_eq (pv 5) (pv 6) (nomark _)) (pss_one (ps_ret pe_bl)) pss_nil)
     (pss_one (ps_comp (i:=3) (own:=["mark"]) (caps:=["one", "other"]) (cs:=[5,6]) (sc:=defScope sRingless) ⟨rfl,rfl,by decide +kernel,by decide +kernel,by decide +kernel,by decide +kernel,rfl⟩ rfl scRingless.nd rfl rfl rfl
      (pi_list (pv 3)) (fun _ _ _ _ _=>pg_name (i:=0) nd1 rfl (Or.inl rfl) (.inr rfl)) (fun _ _ _ _ _=>pf_nil)
      (fun _ _ _ _ _=>pe_ifExp (pt_cmpR op_eq (pv 0) (pv 1) (nomark _)) (pv 2) (pv 0))))))))
   (pss_one (ps_ret pe_bl))),?_⟩
  try dsimp only [cx_of,cx_nox,cx_comp]
  have hlen:=hpv.length
  refine ⟨_,rfl,q.toNat,by rw [show ((q.toNat:Nat):Int)=q by omega],by omega,fun m0 hm0=>?_⟩
  have s1:=Same.rfl'.new hm0 (o:=.lst ((List.range q.toNat).map fun k=>V.int ((k:Nat):Int)))
  have hm1:(upd H m0 (.lst ((List.range q.toNat).map fun k=>V.int ((k:Nat):Int)))) m0=some (.lst ((List.range q.toNat).map fun k=>V.int ((k:Nat):Int))):=upd_same
  generalize upd H m0 (.lst ((List.range q.toNat).map fun k=>V.int ((k:Nat):Int)))=H1 at s1 hm1
  have hm1':LI H1 m0 ((List.range q.toNat).map fun k=>((k:Nat):Int)):=by
   rw [LI,hm1,List.map_map]
   rfl
  have ends:∀ b∈hs,(0≤(eb ps b).1∧(eb ps b).1 < q)∧(0≤(eb ps b).2∧(eb ps b).2 < q):=fun b hb=>by
   obtain ⟨h0,h1⟩:=hbs b hb
   have hl:b.toNat < ps.length:=by omega
   have e:eb ps b=ps[b.toNat]:=getD_at (List.getElem?_eq_getElem hl)
   have:=hok _ (List.getElem_mem hl)
   unfold okPair at this
   simp only [Bool.and_eq_true,decide_eq_true_eq] at this
   rw [e]
   exact ⟨this.1,this.2.1⟩
  refine ⟨_,rfl,l,rfl,⟨_,SqL.of (s1 _ _ hl)⟩,for_list (K:=K) (a:=l) (xs:=hs.map V.int) (fun i σ H2=>(∃ ma ms,Same H H2∧LI H2 ma ms∧MK ((hs.map (eb ps)).take i) q.toNat ms∧(∀ j,j < i→¬ CloE (hs.map (eb ps)) j)∧
    ∃ u v z,σ=[some (.int q),some (.ref lp),some (.ref l),some (.ref ma),u,v,z]))
   ⟨m0,_,s1,hm1',MK.start _,fun j hj=>absurd hj (by omega),_,_,_,rfl⟩ (fun i σ H2 _ ⟨_,_,e,_⟩=>SqL.of (e _ _ hl)) ?_ ?_⟩
  ·rintro i x σ H2 hi ⟨ma,ms,s2,hma,M,hc,u,v,z,rfl⟩
   rw [List.getElem?_map] at hi
   obtain ⟨b,hbi,rfl⟩:=Option.map_eq_some_iff.mp hi
   have hbm:=List.mem_of_getElem? hbi
   obtain ⟨b0,b1⟩:=hbs b hbm
   have hend:=ends b hbm
   obtain ⟨k,rfl⟩:∃ k:Nat,b=(k:Int):=⟨b.toNat,by omega⟩
   obtain ⟨xv,hxv⟩:∃ xv,xs[k]?=some xv:=⟨_,List.getElem?_eq_getElem (by omega)⟩
   obtain ⟨pr,hpr',a,rfl,hat⟩:=hpv.get hxv
   have eeb:eb ps (k:Int)=pr:=getD_at hpr'
   rw [eeb] at hend
   have hpr:(hs.map (eb ps))[i]?=some pr:=by rw [List.getElem?_map,hbi];exact congrArg some eeb
   have at2:=s2 _ _ hat
   have lp2:=s2 _ _ hlp
   obtain ⟨⟨p0,p1⟩,p2,p3⟩:=hend
   obtain ⟨pa,pb⟩:=pr
   obtain ⟨e1,rfl⟩:∃ i:Nat,pa=(i:Int):=⟨pa.toNat,by simp only at p0;omega⟩
   obtain ⟨e2,rfl⟩:∃ k:Nat,pb=(k:Int):=⟨pb.toNat,by simp only at p2;omega⟩
   simp only at p0 p1 p2 p3
   obtain ⟨one,hone⟩:∃ o,ms[e1]?=some o:=⟨_,List.getElem?_eq_getElem (by rw [M.len];omega)⟩
   obtain ⟨other,hother⟩:∃ o,ms[e2]?=some o:=⟨_,List.getElem?_eq_getElem (by rw [M.len];omega)⟩
   have et:=take_snoc' hpr
   have hci:CloE (hs.map (eb ps)) i↔one=other:=by
    rw [M.iff e1 e2 one other hone hother]
    constructor
    ·rintro ⟨e,he,hre⟩
     rw [hpr] at he
     cases he
     exact hre
    ·intro h
     exact ⟨_,hpr,h⟩
   refine ⟨_,rfl,_,rfl,_,rfl,lp,_,_,_,rfl,rfl,SqL.of lp2,atI_nat hxv,a,_,_,_,rfl,rfl,SqT.of at2,atI_nat (j:=0) rfl,ma,_,_,.int one,rfl,rfl,SqL.of hma,atI_nat (by rw [List.getElem?_map,hone];rfl),?_⟩
   refine ⟨_,rfl,_,rfl,_,rfl,lp,_,_,_,rfl,rfl,SqL.of lp2,atI_nat hxv,a,_,_,_,rfl,rfl,SqT.of at2,atI_nat (j:=1) rfl,ma,_,_,.int other,rfl,rfl,SqL.of hma,atI_nat (by rw [List.getElem?_map,hother];rfl),?_⟩
   refine ⟨_,rfl,_,rfl,rfl,_,rfl,?_⟩
   rw [dec_int]
   by_cases hof:one=other
   ·rw [decide_eq_true hof]
    refine iteT (kQ _ false s2 ⟨fun z=>(by cases z),fun z=>absurd (cloE_iff.mp (hci.mpr hof)) (z i)⟩)
   ·rw [decide_eq_false hof]
    refine iteF ?_
    have hml:=M.len
    refine ⟨_,rfl,ma,rfl,⟨_,SqL.of hma⟩,fun D hD=>comp_ext0 (n:=ms.length) hD (fun i=>(ms.take i).map fun m=>V.int (mrk one other m)) rfl (fun i hi=>?_) (fun i H3 hi sm hD2=>?_) (fun H3 s3 hD3=>?_)⟩
    ·rw [List.length_map,List.length_take]
     exact small1000 (by omega)
    ·have hm3:LI H3 ma ms:=sm _ _ hma
     have q1:(ms.map V.int)[i]?=some (.int ms[i]):=by rw [List.getElem?_map,List.getElem?_eq_getElem hi];rfl
     refine ⟨⟨_,_,SqL.of hm3,q1⟩,fun K1 k1 x H' yy=>?_⟩
     obtain ⟨rfl,e⟩:=yy
     have ex:=e _ (SqL.of hm3)
     rw [q1] at ex
     cases ex
     refine ⟨rfl,_,rfl,_,rfl,rfl,_,rfl,?_⟩
     rw [dec_int]
     have fin:∀ v:Int,v=mrk one other ms[i]→K1 (.int v) H':=fun v hv=>k1 _ _ Same.rfl' (by rw [take_snoc (List.getElem?_eq_getElem hi),hv])
     by_cases e:ms[i]=one
     ·rw [decide_eq_true e]
      exact iteT ⟨_,rfl,fin _ (by unfold mrk;rw [if_pos e])⟩
     ·rw [decide_eq_false e]
      exact iteF ⟨_,rfl,fin _ (by unfold mrk;rw [if_neg e])⟩
    ·refine ⟨⟨_,SqL.of (s3 _ _ hma),by rw [List.length_map];exact Nat.le_refl _⟩,?_⟩
     rw [List.take_length] at hD3
     refine ⟨D,ms.map (mrk one other),s2.tr s3,by rw [LI,hD3,List.map_map];rfl,?_,fun j hj hcl=>?_,_,_,_,rfl⟩
     ·rw [et]
      exact M.join hone hother hof
     ·by_cases e:j=i
      ·subst e
       exact hof (hci.mp hcl)
      ·exact hc j (by omega) hcl
  ·rintro σ H2 ⟨ma,ms,s2,hma,M,hc,u,v,z,rfl⟩
   rw [List.length_map] at hc
   refine kQ _ true s2 ⟨fun _ j hcl=>?_,fun _=>rfl⟩
   obtain ⟨b,hb,_⟩:=id hcl
   exact hc j (List.getElem?_eq_some_iff.mp hb).1 (cloE_iff.mpr hcl)
inductive spIsDealI (CT:Addr) (vs:List V) (H:Hp) (Q:VK) (E:XK):Prop
 | mk (p l2 ld:Addr) (q:Int) (xs xd:List V) (ps:PP) (nss:List (List Int)):(vs=[.ref p,.ref ld])→(TownAt CT H p l2 q xs)→(PV H xs ps)→(fits q ps=true)→(H ld=some (.lst xd))→(LS H xd nss)→((∀ g∈nss,g.length≤100))→(nss.flatten.length≤1000)→(∀ (H':Hp) (r:Bool),Same H H'→(r=true↔DealOk ps nss)→Q (.bl r) H')→spIsDealI CT vs H Q E
def spIsDeal (CT:Addr):Sp:=fun vs H Q E=>spIsDealI CT vs H Q E
theorem scIsDeal:FnScope ["town", "dealing", "own"] ["town", "dealing"] (defScope sIsDeal):=⟨rfl,rfl,rfl,by decide +kernel,rfl,by decide +kernel,by decide +kernel⟩
theorem ok_isDeal {f f1 f2 f3:Addr} {fd fd1 fd2 fd3:FuncData} (T:Txt K mg CE CS CQ CT) (F:Fun K "is_dealing" "is_dealing" sIsDeal f fd)
  (G1:FnOk P w K mg base CX0 2 f1 fd1 ["numbers", "count"] spRisesB) (b1:Binds K fd1 ["numbers", "count"] []) (m1:mg "rises_below" = some (.ref f1)) (k1:W.keepIn K (.ref f1)=true)
  (G2:FnOk P w K mg base (CXE P w) 4 f2 fd2 ["town", "some"] (spRing CT CS)) (b2:Binds K fd2 ["town", "some"] []) (m2:mg "ring_over" = some (.ref f2)) (k2:W.keepIn K (.ref f2)=true)
  (G3:FnOk P w K mg base CX0 2 f3 fd3 ["lists"] spOnce) (b3:Binds K fd3 ["lists"] []) (m3:mg "each_once" = some (.ref f3)) (k3:W.keepIn K (.ref f3)=true) :
  FnOk P w K mg base CX0 5 f fd ["town", "dealing"] (spIsDeal CT):=by
 refine F.ok scIsDeal (fun vs H Q E h=>?_) (fun cdv A outer s H vs Q E hr h=>?_)
 ·obtain ⟨p,l2,ld,q,xs,xd,ps,nss,rfl,_⟩:=h
  rfl
 ·obtain ⟨p,l2,ld,q,xs,xd,ps,nss,rfl,⟨⟨dx,ht⟩,hl2⟩,hpv,hft,hld,hls,hgl,hfl,kQ⟩:=h
  have r2:=hr.mono (j:=2) (by decide)
  have r1:=hr.mono (j:=1) (by decide)
  refine ⟨_,pss_cons (ps_for PassesOwn.never rfl (pi_list (pv 1)) (pg_name (i:=2) scIsDeal.nd rfl (Or.inl rfl))
    (pss_one (ps_if (pw_or (pt_not (pt_val (pe_call G1 r2 (by rfl) m1 k1 b1 .nil pass0 (pa_cons (pv 2) (pa_cons (pe_callB c_len (by rfl) T.len PySem.boot_len (pa_cons (pe_fld (pv 0) rfl) pa_nil)) pa_nil)))))
      (pw_or1 (pt_cmp (pc_notN (pe_call G2 hr (by rfl) m2 k2 b2 .nil passE0 (pa_cons (pv 0) (pa_cons (pv 2) pa_nil))))))).pt (pss_one (ps_ret pe_bl)) pss_nil)))
   (pss_one (ps_ret (pe_call G3 r2 (by rfl) m3 k3 b3 .nil pass0 (pa_cons (pv 1) pa_nil)))),?_⟩
  try dsimp only [cx_of,cx_nox,cx_comp]
  have hlen:=hls.length
  have hxl:=hpv.length
  refine ⟨_,rfl,ld,rfl,⟨_,SqL.of hld⟩,for_list (K:=K) (a:=ld) (xs:=xd) (fun i σ H2=>(Same H H2∧∀ g∈nss.take i,risesB g ps.length=true∧∀ j,¬ Clo ps g j)∧∃ u,σ=[some (.ref p),some (.ref ld),u])
   ⟨⟨Same.rfl',fun g hg=>by simp at hg⟩,_,rfl⟩ (fun i σ H2 _ ⟨⟨e,_⟩,_⟩=>SqL.of (e _ _ hld)) ?_ ?_⟩
  ·rintro i x σ H2 hi ⟨⟨s2,hall⟩,u,rfl⟩
   obtain ⟨g,hg,a,rfl,hag⟩:=hls.get hi
   have hgm:=List.mem_of_getElem? hg
   have ha2:LI H2 a g:=s2 _ _ hag
   have hg100:=hgl g hgm
   refine ⟨_,rfl,_,rfl,p,CT,dx,_,_,rfl,s2 _ _ ht,T.cl,T.nb,flds_b _ _,l2,xs,rfl,.inl (SqL.of (s2 _ _ hl2)),a,g,(xs.length:Int),rfl,ha2,by omega,fun H3 s3=>⟨_,rfl,?_⟩⟩
   rw [hxl]
   have s23:=s2.tr s3
   cases hrb:risesB g (ps.length:Int) with
   | false=>exact iteT (iteT (kQ _ false s23 ⟨fun z=>(by cases z),fun z=>by rw [(z.1 g hgm).1] at hrb;cases hrb⟩))
   | true=>
    refine iteF ⟨_,rfl,_,rfl,p,l2,q,xs,ps,a,g,rfl,⟨⟨dx,s23 _ _ ht⟩,s23 _ _ hl2⟩,hpv.same s23,hft,s3 _ _ ha2,hg100,fun _=>⟨fun hn H4 s4=>⟨_,rfl,?_⟩,fun H4 d fs s4 _ _ _ hC=>⟨_,rfl,?_⟩⟩,fun z=>(by rw [hrb] at z;cases z)⟩
    ·refine iteF ⟨⟨s23.tr s4,fun g' hg'=>?_⟩,_,rfl⟩
     rw [take_snoc' hg] at hg'
     rcases List.mem_append.mp hg' with h | h
     ·exact hall g' h
     ·rw [List.mem_singleton.mp h]
      exact ⟨hrb,hn⟩
    ·obtain ⟨j,hj⟩:=hC
     exact iteT (kQ _ false (s23.tr s4) ⟨fun z=>(by cases z),fun z=>absurd hj ((z.1 g hgm).2 j)⟩)
  ·rintro σ H2 ⟨⟨s2,hall⟩,u,rfl⟩
   rw [hlen,List.take_length] at hall
   refine ⟨_,rfl,ld,xd,nss,rfl,s2 _ _ hld,hls.same s2,hfl,fun H3 s3=>kQ _ _ (s2.tr s3) ?_⟩
   rw [once_iff]
   exact ⟨fun h=>⟨hall,h⟩,fun h=>h.2⟩
end
end K26
namespace K26
open PySem L2 XM
theorem flat_len_set:∀ (nss:List (List Int)) (k:Nat) (g g':List Int),nss[k]?=some g→(nss.set k g').flatten.length+g.length=nss.flatten.length+g'.length
 | [],k,g,g',h=>by simp at h
 | x::r,0,g,g',h=>by
  cases h
  simp
  omega
 | x::r,k+1,g,g',h=>by
  have ih:=flat_len_set r k g g' h
  rw [List.set_cons_succ,List.flatten_cons,List.flatten_cons,List.length_append,List.length_append]
  omega
theorem len_le_flat:∀ {nss:List (List Int)} {g:List Int},g∈nss→g.length≤nss.flatten.length
 | x::r,g,h=>by
  rw [List.flatten_cons,List.length_append]
  rcases List.mem_cons.mp h with e | h
  ·rw [e]
   omega
  ·have:=len_le_flat h
   omega
structure LM (H H2:Hp) (la:Addr) (as:List Addr) (nss:List (List Int)):Prop where
 same:Same H H2
 hl:H2 la=some (.lst (as.map V.ref))
 len:as.length=nss.length
 ls:∀ (k:Nat) a g,as[k]?=some a→nss[k]?=some g→LI H2 a g
 fr:∀ a∈as,H a=none∧a≠la
 nd:as.Nodup
theorem LM.same2 {H H2 H3:Hp} {la:Addr} {as:List Addr} {nss:List (List Int)} (m:LM H H2 la as nss) (s:Same H2 H3):LM H H3 la as nss:=
 ⟨m.same.tr s,s _ _ m.hl,m.len,fun k a g h1 h2=>s _ _ (m.ls k a g h1 h2),m.fr,m.nd⟩
theorem LM.out {H H2:Hp} {la:Addr} {as:List Addr} {nss:List (List Int)} (m:LM H H2 la as nss):LS H2 (as.map V.ref) nss:=by
 refine All2.of_get (by rw [List.length_map];exact m.len) fun k x g h1 h2=>?_
 rw [List.getElem?_map] at h1
 obtain ⟨a,ha,rfl⟩:=Option.map_eq_some_iff.mp h1
 exact ⟨a,rfl,m.ls k a g ha h2⟩
theorem nodup_ixA {as:List Addr} (h:as.Nodup) {i j:Nat} {a:Addr} (hi:as[i]?=some a) (hj:as[j]?=some a):i=j:=by
 obtain ⟨l1,e1⟩:=List.getElem?_eq_some_iff.mp hi
 obtain ⟨l2,e2⟩:=List.getElem?_eq_some_iff.mp hj
 rcases Nat.lt_trichotomy i j with h' | h' | h'
 ·exact absurd (e1.trans e2.symm) (List.pairwise_iff_getElem.mp h i j l1 l2 h')
 ·exact h'
 ·exact absurd (e2.trans e1.symm) (List.pairwise_iff_getElem.mp h j i l2 l1 h')
theorem LM.push {H H2:Hp} {la:Addr} {as:List Addr} {nss:List (List Int)} {k:Nat} {a:Addr} {g:List Int} {b:Int} (m:LM H H2 la as nss) (ha:as[k]?=some a) (hg:nss[k]?=some g):LM H (upd H2 a (.lst (g.map V.int++[V.int b]))) la as (nss.set k (g++[b])):=by
 obtain ⟨f1,f2⟩:=m.fr a (List.mem_of_getElem? ha)
 have hk:k < nss.length:=(List.getElem?_eq_some_iff.mp hg).1
 refine ⟨fun c o e=>by rw [upd_ne (ne_of_none e f1)];exact m.same _ _ e,by rw [upd_ne (Ne.symm f2)];exact m.hl,by rw [List.length_set];exact m.len,fun j c h hc hh=>?_,m.fr,m.nd⟩
 by_cases e:j=k
 ·subst e
  rw [ha] at hc
  cases hc
  rw [List.getElem?_set_self hk] at hh
  cases hh
  rw [LI,upd_same,List.map_append]
  rfl
 ·rw [List.getElem?_set_ne (Ne.symm e)] at hh
  have hne:c≠a:=fun z=>e (nodup_ixA m.nd hc (by rw [z];exact ha))
  rw [LI,upd_ne hne]
  exact m.ls j c h hc hh
end K26
namespace K26
open PySem L2 XM
theorem flat_snoc {nss:List (List Int)} {i:Nat} {g:List Int} (h:nss[i]?=some g):(nss.take (i+1)).flatten=(nss.take i).flatten++g:=by
 rw [take_snoc' h,List.flatten_append]
 simp
theorem groups_no {nss:List (List Int)} {q f:Int} {g:List Int} (hg:g∈nss) (h:grpOk q f g=false):groupsOk nss q f=false:=by
 unfold groupsOk
 have:nss.all (grpOk q f)=false:=by
  refine Bool.eq_false_iff.mpr fun z=>?_
  rw [List.all_eq_true.mp z g hg] at h
  cases h
 rw [this]
 rfl
theorem groups_twice {nss:List (List Int)} {q f:Int} (h:¬ nss.flatten.Nodup):groupsOk nss q f=false:=by
 unfold groupsOk
 have:once nss=false:=Bool.eq_false_iff.mpr fun z=>h ((once_iff nss).mp z)
 rw [this,Bool.false_and,Bool.and_false]
theorem le_lt {l:List Int} (hn:l.Nodup):l.Pairwise (·≤·)↔l.Pairwise (· < ·):=
 ⟨fun h=>(List.pairwise_and_iff.mpr ⟨h,hn⟩).imp fun h=>by omega,fun h=>h.imp fun h=>by omega⟩
theorem heads_nodup:∀ {nss:List (List Int)},nss.flatten.Nodup→(∀ g∈nss,g≠[])→(nss.map (·.headD 0)).Nodup
 | [],_,_=>List.nodup_nil
 | g::r,h,hne=>by
  rw [List.flatten_cons] at h
  obtain ⟨_,h2,h3⟩:=List.nodup_append.mp h
  rw [List.map_cons]
  refine List.nodup_cons.mpr ⟨fun hm=>?_,heads_nodup h2 fun g hg=>hne g (List.mem_cons_of_mem _ hg)⟩
  obtain ⟨g',hg',e⟩:=List.mem_map.mp hm
  have hd:∀ g:List Int,g≠[]→g.headD 0∈g:=fun g hg=>by
   cases g with
   | nil=>exact absurd rfl hg
   | cons a t=>exact List.mem_cons_self
  exact h3 _ (hd g (hne g List.mem_cons_self)) _ (List.mem_flatten.mpr ⟨g',hg',hd g' (hne g' (List.mem_cons_of_mem _ hg'))⟩) e.symm
def lessOne (hss:List (List Int)):Int:=(hss.map fun g=>(g.length:Int) - 1).sum
end K26
namespace K26
open PySem L2 XM
theorem boot_any':bootBuiltins "any" = some (.builtin "any"):=by decide +kernel
def liesIn (p:Int × Int) (nss:List (List Int)):Bool:=nss.any fun g=>g.contains p.1 && g.contains p.2
def outB (ps:PP) (nss:List (List Int)) (b:Int):Bool:=!liesIn (eb ps b) nss
def freeB (ps:PP) (nss:List (List Int)) (bs:List Int):List Int:=bs.filter (outB ps nss)
theorem any_dist (ns:List Int) (k:Int):((distinct ns).any fun x=>x == k)=true↔k∈ns:=by
 rw [List.any_eq_true]
 constructor
 ·rintro ⟨x,hx,e⟩
  rw [beq_iff_eq] at e
  rw [← e]
  exact mem_distinct.mp hx
 ·intro h
  exact ⟨k,mem_distinct.mpr h,by simp⟩
theorem both_count {L bs fl:List Int} (hL:L.Nodup) (hb:bs.Nodup) (h:∀ k,(((distinct bs).any fun x=>x == k) && ((distinct fl).any fun x=>x == k))=true↔k∈L):L.length=(bs.filter fun b=>fl.contains b).length:=by
 refine ((List.perm_ext_iff_of_nodup hL (hb.filter _)).mpr fun k=>?_).length_eq
 rw [← h k,Bool.and_eq_true,any_dist,any_dist,List.mem_filter,List.contains_iff_mem]
section
variable {P:Program} {w:World} {K:W.Frag} {mg:Str→Option Value} {base:Heap} {CE CS CQ CT:Addr}
inductive spLiesI  (vs:List V) (H:Hp) (Q:VK) (E:XK):Prop
 | mk (t lh:Addr) (p:Int × Int) (xs:List V) (nss:List (List Int)):(vs=[.ref t,.ref lh])→(H t=some (.tup [.int p.1,.int p.2]))→(H lh=some (.lst xs))→(LS H xs nss)→(nss.length≤60)→(∀ H',Same H H'→Q (.bl (liesIn p nss)) H')→spLiesI  vs H Q E
def spLies  : Sp:=fun vs H Q E=>spLiesI  vs H Q E
theorem scLies:FnScope ["ends", "huddles"] ["ends", "huddles"] (defScope sLies):=⟨rfl,rfl,rfl,by decide +kernel,rfl,by decide +kernel,by decide +kernel⟩
theorem ok_lies {f:Addr} {fd:FuncData} (T:Txt K mg CE CS CQ CT) (F:Fun K "lies_within" "lies_within" sLies f fd) :
  FnOk P w K mg base CX0 1 f fd ["ends", "huddles"] spLies:=by
 refine F.ok scLies (fun vs H Q E h=>?_) (fun cdv A outer s H vs Q E hr h=>?_)
 ·obtain ⟨t,lh,p,xs,nss,rfl,_⟩:=h
  rfl
 ·obtain ⟨t,lh,p,xs,nss,rfl,ht,hlh,hls,hn,kQ⟩:=h
  have nd0:((["huddle"]:List Str)++(["ends"]:List Str)).Nodup:=by decide +kernel
  refine ⟨_,pss_one (ps_ret (pe_callB (call_anyB rfl) (by rfl) T.any boot_any' (pa_cons (pe_comp (own:=["huddle"]) (caps:=["ends"]) (cs:=[0]) (sc:=defScope sLies) ⟨rfl,rfl,by decide +kernel,by decide +kernel,by decide +kernel,by decide +kernel,rfl⟩ rfl
   (pi_list (pv 1)) (fun _ _ _ _ _=>pg_name (i:=0) nd0 rfl (Or.inl rfl) (.inr rfl))
   (fun _ _ _ _ _=>pf_nil) (fun _ _ _ _ _=>pe_and (pe_cmpR op_in_seq (pe_ix ix_tup (pv 1) pe_int (fun _ _=>rfl)) (pv 0) rfl) (pe_one (pe_cmpR op_in_seq (pe_ix ix_tup (pv 1) pe_int (fun _ _=>rfl)) (pv 0) rfl)))) pa_nil))),?_⟩
  try dsimp only [cx_of,cx_nox,cx_comp]
  have hlen:=hls.length
  refine ⟨_,rfl,lh,rfl,⟨_,SqL.of hlh⟩,fun D hD=>comp_ext (n:=nss.length) hD (fun i=>(nss.take i).map fun g=>V.bl (g.contains p.1 && g.contains p.2)) rfl (fun i hi=>?_) (fun i H2 hi sm hD2=>?_) (fun H2 sm hD2=>?_)⟩
  ·rw [List.length_map,List.length_take]
   exact small1000 (by omega)
  ·obtain ⟨z,hz⟩:∃ z,xs[i]?=some z:=⟨_,List.getElem?_eq_getElem (by omega)⟩
   obtain ⟨g,hg,a,rfl,hag0⟩:=hls.get hz
   have hag:LI H2 a g:=sm _ _ hag0
   have ht2:=sm _ _ ht
   refine ⟨⟨_,_,SqL.of (sm _ _ hlh),hz⟩,fun K1 K2 k1 k2 x H' yy=>?_⟩
   obtain ⟨rfl,e⟩:=yy
   have ex':=e _ (SqL.of (sm _ _ hlh))
   rw [hz] at ex'
   cases ex'
   have fin:∀ b:Bool,b=(g.contains p.1 && g.contains p.2)→K1 (V.bl b) H':=fun b hb=>k1 _ _ Same.rfl' (by rw [take_snoc' hg,List.map_append,hb];rfl)
   refine ⟨rfl,noIf (A:=fun _ H3=>tAndV _ _ _ H3 K1) (B:=fun _ H3=>K2 H3) ?_⟩
   refine ⟨_,rfl,t,_,_,_,rfl,rfl,SqT.of ht2,atI_nat (j:=0) rfl,_,rfl,a,_,rfl,.inl (SqL.of hag),rfl,flat_ints _,_,rfl,?_⟩
   rw [show (if false=true then !inV (V.int p.1) (g.map V.int) else inV (V.int p.1) (g.map V.int))=g.contains p.1 from by rw [if_neg Bool.false_ne_true,inV_ints]]
   refine ite2 (fun h=>?_) (fun h=>?_)
   ·refine ⟨_,rfl,t,_,_,_,rfl,rfl,SqT.of ht2,atI_nat (j:=1) rfl,_,rfl,a,_,rfl,.inl (SqL.of hag),rfl,flat_ints _,?_⟩
    rw [show (if false=true then !inV (V.int p.2) (g.map V.int) else inV (V.int p.2) (g.map V.int))=g.contains p.2 from by rw [if_neg Bool.false_ne_true,inV_ints]]
    exact fin _ (by rw [h,Bool.true_and])
   ·exact fin _ (by rw [Bool.eq_false_iff.mpr h,Bool.false_and])
  ·refine ⟨⟨_,SqL.of (sm _ _ hlh),by omega⟩,D,nss.map fun g=>g.contains p.1 && g.contains p.2,rfl,SqL.of ?_,?_⟩
   ·rw [hD2,List.take_length,List.map_map]
    rfl
   ·have e:(nss.map fun g=>g.contains p.1 && g.contains p.2).any id=liesIn p nss:=by
     unfold liesIn
     rw [List.any_map]
     rfl
    rw [e]
    exact kQ H2 sm
inductive spAreHudI (CT:Addr) (vs:List V) (H:Hp) (Q:VK) (E:XK):Prop
 | mk (p l2:Addr) (q:Int) (ys:List V) (l:Addr) (xs:List V) (nss:List (List Int)):(vs=[.ref p,.ref l])→(TownAt CT H p l2 q ys)→(H l=some (.lst xs))→(LS H xs nss)→(nss.flatten.length≤1000)→(nss.length≤1000)→(∀ H',Same H H'→Q (.bl (groupsOk nss q 2)) H')→spAreHudI CT vs H Q E
def spAreHud (CT:Addr):Sp:=fun vs H Q E=>spAreHudI CT vs H Q E
theorem scAreHud:FnScope ["town", "huddles"] ["town", "huddles"] (defScope sAreHud):=⟨rfl,rfl,rfl,by decide +kernel,rfl,by decide +kernel,by decide +kernel⟩
theorem ok_areHud {f f1:Addr} {fd fd1:FuncData} (T:Txt K mg CE CS CQ CT) (F:Fun K "are_huddles" "are_huddles" sAreHud f fd)
  (G1:FnOk P w K mg base CX0 3 f1 fd1 ["groups", "quarters", "fewest"] spGroups) (b1:Binds K fd1 ["groups", "quarters", "fewest"] []) (m1:mg "are_groups" = some (.ref f1)) (k1:W.keepIn K (.ref f1)=true) :
  FnOk P w K mg base CX0 4 f fd ["town", "huddles"] (spAreHud CT):=by
 refine F.ok scAreHud (fun vs H Q E h=>?_) (fun cdv A outer s H vs Q E hr h=>?_)
 ·obtain ⟨p,l2,q,ys,l,xs,nss,rfl,_⟩:=h
  rfl
 ·obtain ⟨p,l2,q,ys,l,xs,nss,rfl,⟨⟨dx,ht⟩,hl2⟩,hl,hls,hfl,hnl,kQ⟩:=h
  refine ⟨_,pss_one (ps_ret (pe_call G1 hr (by rfl) m1 k1 b1 .nil pass0 (pa_cons (pv 1) (pa_cons (pe_fld (pv 0) rfl) (pa_cons pe_int pa_nil))))),?_⟩
  try dsimp only [cx_of,cx_nox,cx_comp]
  exact ⟨_,rfl,_,rfl,p,CT,dx,_,_,rfl,ht,T.cl,T.nq,flds_q _ _,l,xs,nss,q,2,rfl,hl,hls,by omega,hfl,hnl,kQ⟩
inductive spMostByI (CT:Addr) (vs:List V) (H:Hp) (Q:VK) (E:XK):Prop
 | mk (p l2 ls:Addr) (q:Int) (ys:List V) (ps:PP) (bs:List Int) (l:Addr) (xs:List V) (nss:List (List Int)) (c:Nat):(vs=[.ref p,.ref ls,.int (c:Int),.ref l])→(TownAt CT H p l2 q ys)→(PV H ys ps)→(LI H ls bs)→(bs.length≤60)→((∀ b∈bs,0≤b∧b < (ps.length:Int)))→(H l=some (.lst xs))→(LS H xs nss)→(nss.length≤60)→((∀ g∈nss,g.length≤1000))→(c≤1000)→(∀ H',Same H H'→Q (.int (((freeB ps nss bs).length:Int)+(c:Int)*lessOne nss)) H')→spMostByI CT vs H Q E
def spMostBy (CT:Addr):Sp:=fun vs H Q E=>spMostByI CT vs H Q E
theorem scMostBy:FnScope ["town", "some", "crews", "huddles", "free"] ["town", "some", "crews", "huddles"] (defScope sMostBy):=⟨rfl,rfl,rfl,by decide +kernel,rfl,by decide +kernel,by decide +kernel⟩
theorem ok_mostBy {f f1:Addr} {fd fd1:FuncData} (T:Txt K mg CE CS CQ CT) (F:Fun K "most_by_huddles" "most_by_huddles" sMostBy f fd)
  (G1:FnOk P w K mg base CX0 1 f1 fd1 ["ends", "huddles"] spLies) (b1:Binds K fd1 ["ends", "huddles"] []) (m1:mg "lies_within" = some (.ref f1)) (k1:W.keepIn K (.ref f1)=true) :
  FnOk P w K mg base CX0 2 f fd ["town", "some", "crews", "huddles"] (spMostBy CT):=by
 refine F.ok scMostBy (fun vs H Q E h=>?_) (fun cdv A outer s H vs Q E hr h=>?_)
 ·obtain ⟨p,l2,ls,q,ys,ps,bs,l,xs,nss,c,rfl,_⟩:=h
  rfl
 ·obtain ⟨p,l2,ls,q,ys,ps,bs,l,xs,nss,c,rfl,ht,hpv,hbs,hb60,hbr,hl,hls,hn60,hgl,hc,kQ⟩:=h
  have nd0:((["bridge"]:List Str)++(["huddles", "town"]:List Str)).Nodup:=by decide +kernel
  have nd1:((["huddle"]:List Str)++([]:List Str)).Nodup:=by decide +kernel
  refine ⟨_, pss_cons (ps_comp (i := 4) (own := ["bridge"]) (caps := ["huddles", "town"]) (cs := [3, 0]) (sc := defScope sMostBy) ⟨rfl, rfl, by decide +kernel, by decide +kernel, by decide +kernel, by decide +kernel, rfl⟩ rfl scMostBy.nd rfl rfl rfl
        (pi_list (pv 1)) (fun _ _ _ _ _=>pg_name (i:=0) nd0 rfl (Or.inl rfl) (.inr rfl))
        (fun _ _ _ _ _=>pf_one (pt_not (pt_val (pe_call G1 hr (by rfl) m1 k1 b1 .nil pass0 (pa_cons (pe_ix ix_list (pe_fld (pv 2) rfl) (pv 0) (fun _ _=>rfl)) (pa_cons (pv 1) pa_nil)))))) (fun _ _ _ _ _=>pv 0))
   (pss_one (ps_ret (pe_op op_add (pe_callB c_len (by rfl) T.len PySem.boot_len (pa_cons (pv 4) pa_nil)) (pe_op op_mul (pv 2) (pe_callB (c_sum rfl) (by rfl) T.sum boot_sum (pa_cons (pe_comp (own:=["huddle"]) (caps:=[]) (cs:=[]) (sc:=defScope sMostBy) ⟨rfl,rfl,by decide +kernel,by decide +kernel,by decide +kernel,by decide +kernel,rfl⟩ rfl
     (pi_list (pv 3)) (fun _ _ _ _ _=>pg_name (i:=0) nd1 rfl (Or.inl rfl) (.inr rfl)) (fun _ _ _ _ _=>pf_nil)
     (fun _ _ _ _ _=>pe_op op_sub (pe_callB c_len (by rfl) T.len PySem.boot_len (pa_cons (pv 0) pa_nil)) pe_int)) pa_nil)))))),?_⟩
  try dsimp only [cx_of,cx_nox,cx_comp]
  have hlen:=hls.length
  have hpl:=hpv.length
  obtain ⟨dx,htw⟩:=ht.1
  refine ⟨_,rfl,ls,rfl,⟨_,SqL.of hbs⟩,fun D hD=>comp_ext (n:=bs.length) hD (fun i=>(freeB ps nss (bs.take i)).map V.int) rfl (fun i hi=>?_) (fun i H3 hi sm hD2=>?_) (fun H3 s3 hD3=>?_)⟩
  ·rw [List.length_map]
   have h1:(freeB ps nss (bs.take i)).length≤(bs.take i).length:=List.length_filter_le _ _
   rw [List.length_take] at h1
   exact small1000 (by omega)
  ·have q1:(bs.map V.int)[i]?=some (.int bs[i]):=by rw [List.getElem?_map,List.getElem?_eq_getElem hi];rfl
   refine ⟨⟨_,_,SqL.of (sm _ _ hbs),q1⟩,fun K1 K2 k1 k2 x H' yy=>?_⟩
   obtain ⟨rfl,e⟩:=yy
   have ex:=e _ (SqL.of (sm _ _ hbs))
   rw [q1] at ex
   cases ex
   obtain ⟨hb0,hb1⟩:=hbr bs[i] (List.getElem_mem hi)
   have hbl:bs[i].toNat < ys.length:=by omega
   obtain ⟨pr,hpr,pa,epa,hpa⟩:=hpv.get (List.getElem?_eq_getElem hbl)
   have hix:atI ys bs[i]=some (.ref pa):=by
    have:=atI_nat (xs:=ys) (j:=bs[i].toNat) (v:=.ref pa) (by rw [List.getElem?_eq_getElem hbl,epa])
    rwa [show ((bs[i].toNat:Nat):Int)=bs[i] by omega] at this
   have ebp:eb ps bs[i]=pr:=getD_at hpr
   refine ⟨rfl,_,rfl,p,CT,dx,_,_,rfl,sm _ _ htw,T.cl,T.nb,flds_b _ _,_,rfl,l2,_,_,.ref pa,rfl,rfl,SqL.of (sm _ _ ht.2),hix,_,rfl,pa,l,pr,xs,nss,rfl,sm _ _ hpa,sm _ _ hl,hls.same sm,hn60,fun H4 s4=>⟨_,rfl,?_⟩⟩
   have eo:outB ps nss bs[i]=!liesIn pr nss:=by unfold outB;rw [ebp]
   refine ite2 (fun h=>⟨_,rfl,k1 _ _ s4 ?_⟩) (fun h=>k2 _ s4 ?_)
   ·rw [take_snoc' (List.getElem?_eq_getElem hi),freeB,List.filter_append,List.map_append]
    rw [show [bs[i]].filter (outB ps nss)=[bs[i]] from by rw [List.filter_cons,if_pos (by rw [eo];exact h),List.filter_nil]]
    rfl
   ·rw [take_snoc' (List.getElem?_eq_getElem hi),freeB,List.filter_append]
    rw [show [bs[i]].filter (outB ps nss)=[] from by rw [List.filter_cons,if_neg (by rw [eo];exact h),List.filter_nil],List.append_nil]
    rfl
  refine ⟨⟨_,SqL.of (s3 _ _ hbs),by rw [List.length_map];omega⟩,?_⟩
  rw [List.take_length] at hD3
  have hD3':LI H3 D (freeB ps nss bs):=hD3
  have hl3:=s3 _ _ hl
  have hls3:=hls.same s3
  refine ⟨_,rfl,D,_,rfl,.inl (SqL.of hD3'),_,rfl,_,rfl,l,rfl,⟨_,SqL.of hl3⟩,fun D2 hD2=>comp_ext0 (n:=nss.length) hD2 (fun i=>(nss.take i).map fun g=>V.int ((g.length:Int) - 1)) rfl (fun i hi=>?_) (fun i H4 hi sm hD4=>?_) (fun H4 s4 hD4=>?_)⟩
  ·rw [List.length_map,List.length_take]
   exact small1000 (by omega)
  ·obtain ⟨x,hxi⟩:∃ x,xs[i]?=some x:=⟨_,List.getElem?_eq_getElem (by omega)⟩
   obtain ⟨g,hg,a,rfl,hag⟩:=hls3.get hxi
   refine ⟨⟨_,_,SqL.of (sm _ _ hl3),hxi⟩,fun K1 k1 x H' y=>?_⟩
   obtain ⟨rfl,e⟩:=y
   have ex:=e _ (SqL.of (sm _ _ hl3))
   rw [hxi] at ex
   cases ex
   refine ⟨rfl,_,rfl,a,_,rfl,.inl (SqL.of (sm _ _ hag)),_,_,rfl,rfl,k1 _ _ Same.rfl' ?_⟩
   rw [take_snoc hg,List.length_map]
  refine ⟨⟨_,SqL.of (s4 _ _ hl3),by omega⟩,?_⟩
  rw [List.take_length] at hD4
  have hD4':LI H4 D2 (nss.map fun g=>(g.length:Int) - 1):=by
   rw [LI,hD4,List.map_map]
   rfl
  refine ⟨D2,_,rfl,SqL.of hD4',_,_,rfl,rfl,.inl ⟨by omega,by omega⟩,_,_,rfl,rfl,?_⟩
  have:=kQ _ (s3.tr s4)
  unfold lessOne at this
  rw [List.length_map]
  exact this
inductive spTakesI (CT:Addr) (vs:List V) (H:Hp) (Q:VK) (E:XK):Prop
 | mk (p l2 ls ld l:Addr) (q:Int) (ys xd xs:List V) (ps:PP) (bs:List Int) (dss nss:List (List Int)):(vs=[.ref p,.ref ls,.ref ld,.ref l])→(TownAt CT H p l2 q ys)→(PV H ys ps)→(fits q ps=true)→(LI H ls bs)→(bs.length≤60)→(bs.Nodup)→((∀ b∈bs,0≤b∧b < (ps.length:Int)))→(H ld=some (.lst xd))→(LS H xd dss)→(dss.length≤60)→((∀ g∈dss,g.length≤100))→(dss.flatten.length≤1000)→(H l=some (.lst xs))→(LS H xs nss)→(nss.length≤60)→((∀ g∈nss,g.length≤1000))→(nss.flatten.length≤1000)→(∀ (H':Hp) (r:Bool),Same H H'→(r=true↔DealOk ps dss∧groupsOk nss q 2=true∧((bs.filter fun b=>dss.flatten.contains b).length:Int)=((freeB ps nss bs).length:Int)+(dss.length:Int)*lessOne nss)→Q (.bl r) H')→spTakesI CT vs H Q E
def spTakes (CT:Addr):Sp:=fun vs H Q E=>spTakesI CT vs H Q E
theorem scTakes:FnScope ["town", "some", "dealing", "huddles", "taken"] ["town", "some", "dealing", "huddles"] (defScope sTakes):=⟨rfl,rfl,rfl,by decide +kernel,rfl,by decide +kernel,by decide +kernel⟩
theorem ok_takes {f f1 f2 f3 f4:Addr} {fd fd1 fd2 fd3 fd4:FuncData} (T:Txt K mg CE CS CQ CT) (F:Fun K "takes_most_of" "takes_most_of" sTakes f fd)
  (G1:FnOk P w K mg base CX0 5 f1 fd1 ["town", "dealing"] (spIsDeal CT)) (b1:Binds K fd1 ["town", "dealing"] []) (m1:mg "is_dealing" = some (.ref f1)) (k1:W.keepIn K (.ref f1)=true)
  (G2:FnOk P w K mg base CX0 4 f2 fd2 ["town", "huddles"] (spAreHud CT)) (b2:Binds K fd2 ["town", "huddles"] []) (m2:mg "are_huddles" = some (.ref f2)) (k2:W.keepIn K (.ref f2)=true)
  (G3:FnOk P w K mg base CX0 2 f3 fd3 ["town", "some", "crews", "huddles"] (spMostBy CT)) (b3:Binds K fd3 ["town", "some", "crews", "huddles"] []) (m3:mg "most_by_huddles" = some (.ref f3)) (k3:W.keepIn K (.ref f3)=true)
  (G4:FnOk P w K mg base CX0 1 f4 fd4 ["lists"] spTogether) (b4:Binds K fd4 ["lists"] []) (m4:mg "put_together" = some (.ref f4)) (k4:W.keepIn K (.ref f4)=true) :
  FnOk P w K mg base CX0 6 f fd ["town", "some", "dealing", "huddles"] (spTakes CT):=by
 refine F.ok scTakes (fun vs H Q E h=>?_) (fun cdv A outer s H vs Q E hr h=>?_)
 ·obtain ⟨p,l2,ls,ld,l,q,ys,xd,xs,ps,bs,dss,nss,rfl,_⟩:=h
  rfl
 ·obtain ⟨p,l2,ls,ld,l,q,ys,xd,xs,ps,bs,dss,nss,rfl,ht,hpv,hft,hbs,hb60,hbn,hbr,hld,hlsd,hd60,hdg,hdf,hl,hls,hn60,hgl,hfl,kQ⟩:=h
  have r1:=hr.mono (j:=1) (by decide)
  have r2:=hr.mono (j:=2) (by decide)
  have r4:=hr.mono (j:=4) (by decide)
  refine ⟨_,pss_cons (ps_if (pw_or (pt_not (pt_val (pe_call G1 hr (by rfl) m1 k1 b1 .nil pass0 (pa_cons (pv 0) (pa_cons (pv 2) pa_nil))))) (pw_or1 (pt_not (pt_val (pe_call G2 r4 (by rfl) m2 k2 b2 .nil pass0 (pa_cons (pv 0) (pa_cons (pv 3) pa_nil))))))).pt (pss_one (ps_ret pe_bl)) pss_nil)
   (pss_cons (ps_set (i:=4) scTakes.nd rfl (Or.inl rfl) (pe_callB call_lenSet (by rfl) T.len PySem.boot_len (pa_cons (pe_op op_andSetN (pe_callTy (c_set rfl) (by rfl) T.set boot_set (pa_cons (pv 1) pa_nil)) (pe_callTy (c_set rfl) (by rfl) T.set boot_set (pa_cons (pe_call G4 r1 (by rfl) m4 k4 b4 .nil pass0 (pa_cons (pv 2) pa_nil)) pa_nil))) pa_nil)))
   (pss_one (ps_ret (pe_cmpR op_eq (pv 4) (pe_call G3 r2 (by rfl) m3 k3 b3 .nil pass0 (pa_cons (pv 0) (pa_cons (pv 1) (pa_cons (pe_callB c_len (by rfl) T.len PySem.boot_len (pa_cons (pv 2) pa_nil)) (pa_cons (pv 3) pa_nil))))) (nomark _))))),?_⟩
  try dsimp only [cx_of,cx_nox,cx_comp]
  have hlen:=hlsd.length
  refine ⟨_,rfl,_,rfl,p,l2,ld,q,ys,xd,ps,dss,rfl,ht,hpv,hft,hld,hlsd,hdg,hdf,fun H1 r1 s1 hr1=>⟨_,rfl,?_⟩⟩
  cases r1 with
  | false=>exact iteT (iteT (kQ _ false s1 ⟨fun z=>(by cases z),fun z=>hr1.mpr z.1⟩))
  | true=>
   have hD:=hr1.mp rfl
   refine iteF ⟨_,rfl,_,rfl,p,l2,q,ys,l,xs,nss,rfl,ht.same s1,s1 _ _ hl,hls.same s1,hfl,by omega,fun H2 s2=>⟨_,rfl,?_⟩⟩
   cases hg:groupsOk nss q 2 with
   | false=>exact iteT (kQ _ false (s1.tr s2) ⟨fun z=>(by cases z),fun z=>(by rw [hg] at z;cases z.2.1)⟩)
   | true=>
    have s12:=s1.tr s2
    refine iteF ⟨_,rfl,ls,bs,rfl,SqL.of (s12 _ _ hbs),by show bs.length+1 < 4096;omega,fun e1 he1=>?_⟩
    have t1:Same H2 (upd H2 e1 (.set (fun k=>(distinct bs).any (· == k)) (distinct bs).length)):=Same.rfl'.new he1
    have u1:=s12.tr t1
    refine ⟨_,rfl,ld,xd,dss,rfl,u1 _ _ hld,hlsd.same u1,hdf,fun H3 m s3 hm0 hm=>?_⟩
    have he3:=s3 _ _ (upd_same (H:=H2) (a:=e1) (o:=.set (fun k=>(distinct bs).any (· == k)) (distinct bs).length))
    refine ⟨m,dss.flatten,rfl,SqL.of hm,by show dss.flatten.length+1 < 4096;omega,fun e2 he2=>?_⟩
    have n12e:e1≠e2:=fun e=>by rw [← e,he3] at he2;cases he2
    refine ⟨e1,e2,_,_,_,_,rfl,rfl,n12e,by rw [upd_ne n12e];exact he3,upd_same,fun e4 mm L he4 hL1 hL2 hL3 hmb=>?_⟩
    have t4:=(u1.tr s3).tr ((Same.rfl'.new he2).tr (Same.rfl'.new he4 (o:=.set (fun k=>((distinct bs).any fun x=>x == k) && (distinct dss.flatten).any fun x=>x == k) mm)))
    have hcnt:=both_count hL1 hbn hL2
    refine ⟨e4,_,mm,rfl,upd_same,by have:scanBound=4096:=rfl;omega,?_⟩
    refine ⟨_,rfl,_,rfl,_,rfl,_,rfl,ld,_,rfl,.inl (SqL.of (t4 _ _ hld)),_,rfl,p,l2,ls,q,ys,ps,bs,l,xs,nss,xd.length,rfl,ht.same t4,hpv.same t4,t4 _ _ hbs,hb60,hbr,t4 _ _ hl,hls.same t4,hn60,hgl,by omega,fun H5 s5=>⟨rfl,?_⟩⟩
    refine kQ _ _ (t4.tr s5) ?_
    rw [dec_int,decide_eq_true_eq,hlen,← hL3,hcnt]
    exact ⟨fun z=>⟨hD,hg,z⟩,fun z=>z.2.2⟩
end
end K26
namespace K26
open PySem L2 XM
theorem fits_mk {q:Int} {ps:PP} (h1:1≤q) (h2:q≤24) (h3:ps.length≤60) (h4:∀ p∈ps,okPair q p=true):fits q ps=true:=by
 unfold fits
 rw [decide_eq_true h1,decide_eq_true h2,decide_eq_true h3,List.all_eq_true.mpr h4]
 rfl
theorem pair_ok {q o r:Int} (h1:0≤o) (h2:o < q) (h3:0≤r) (h4:r < q - 1):okPair q (o,(o+1+r) % q)=true:=by
 have e1:=Int.emod_nonneg (o+1+r) (b:=q) (by omega)
 have e2:=Int.emod_lt_of_pos (o+1+r) (b:=q) (by omega)
 have e3:o≠(o+1+r) % q:=fun z=>by
  by_cases h:o+1+r < q
  ·rw [Int.emod_eq_of_lt (by omega) h] at z;omega
  ·have:(o+1+r) % q=o+1+r - q:=by
    rw [← Int.sub_emod_right]
    exact Int.emod_eq_of_lt (by omega) (by omega)
   omega
 unfold okPair
 simp [h1,h2,e1,e2,e3]
theorem set_mem {cs:List Int} {i:Nat} {x c:Int} (h:c∈cs.set i x):c∈cs∨c=x:=by
 rcases List.mem_or_eq_of_mem_set h with h | h
 ·exact .inl h
 ·exact .inr h
section
variable {P:Program} {w:World} {K:W.Frag} {mg:Str→Option Value} {base:Heap} {CE CS CQ CT:Addr}
inductive spNumbersI (K:W.Frag) (vs:List V) (H:Hp) (Q:VK) (E:XK):Prop
 | mk (a:Addr) (ns:List Int) (m:Nat):(vs=[.ref a,.int (m:Int)])→(SqL K H a (ns.map V.int))→(ns.length≤63)→(1≤m)→(m≤63)→(∀ (H':Hp) (d:Addr) (cs:List Int),Same H H'→H d=none→LI H' d cs→cs.length=m→(∀ c∈cs,0≤c∧c < 1000000)→Q (.ref d) H')→spNumbersI K vs H Q E
def spNumbers (K:W.Frag):Sp:=fun vs H Q E=>spNumbersI K vs H Q E
theorem scNumbers:FnScope ["script", "many", "found", "step", "k"] ["script", "many"] (defScope sNumbers):=⟨rfl,rfl,rfl,by decide +kernel,rfl,by decide +kernel,by decide +kernel⟩
theorem ok_Numbers {f:Addr} {fd:FuncData} (T:Txt K mg CE CS CQ CT) (F:Fun K "_law_numbers" "_law_numbers" sNumbers f fd):FnOk P w K mg base CX0 1 f fd ["script", "many"] (spNumbers K):=by
 refine F.ok scNumbers (fun vs H Q E h=>?_) (fun cdv A outer s H vs Q E hr h=>?_)
 ·obtain ⟨a,ns,m,rfl,_⟩:=h
  rfl
 ·obtain ⟨a,ns,m,rfl,hS,hn,hm1,hm2,kQ⟩:=h
  refine ⟨_,pss_cons (ps_set (i:=2) scNumbers.nd rfl (Or.inl rfl) (pe_lst pa_nil))
   (pss_cons (ps_set (i:=3) scNumbers.nd rfl (Or.inl rfl) pe_int)
   (pss_cons (ps_mid (ps_if (pt_cmpR op_gt (pe_callB c_len (by rfl) T.len PySem.boot_len (pa_cons (pv 0) pa_nil)) pe_int (nomark _)) (pss_one (ps_set (i:=3) scNumbers.nd rfl (Or.inl rfl) (pe_op op_add pe_int (pe_op op_mod (pe_ix ix_list (pv 0) pe_int (fun _ _=>rfl)) pe_int)))) pss_nil))
   (pss_cons (ps_for PassesOwn.never rfl (pi_range1 (by rfl) T.range (pa_cons (pv 1) pa_nil)) (pg_name (i:=4) scNumbers.nd rfl (Or.inl rfl))
    (pss_cons (ps_set (i:=3) scNumbers.nd rfl (Or.inl rfl) (pe_op op_mod (pe_op op_mul (pv 3) pe_int) pe_int))
    (pss_one (ps_expr (pe_bm PySem.F.plainAttrs_list PySem.F.slot_list_append PySem.F.type_list_append mt_append (pv 2) (pa_cons (pe_op op_mod (pe_op op_fdiv (pv 3) pe_int) pe_int) pa_nil))))))
   (pss_cons (ps_for PassesOwn.never rfl (pi_range1 (by rfl) T.range (pa_cons (pe_callB c_len (by rfl) T.len PySem.boot_len (pa_cons (pv 0) pa_nil)) pa_nil)) (pg_name (i:=4) scNumbers.nd rfl (Or.inl rfl))
    (pss_one (ps_asg (pe_op op_mod (pe_op op_add (pe_ix ix_list (pv 2) (pe_op op_mod (pv 4) (pv 1)) (fun _ _=>rfl)) (pe_ix ix_list (pv 0) (pv 4) (fun _ _=>rfl))) pe_int) (pg_sub (pv 2) (pe_op op_mod (pv 4) (pv 1)) set_list))))
   (pss_one (ps_ret (pv 2))))))),?_⟩
  try dsimp only [cx_of,cx_nox,cx_comp]
  refine ⟨by show 0≤sizeLine;decide,fun d hd=>?_⟩
  have s0:=Same.rfl'.new hd (o:=.lst [])
  have hd0:LI (upd H d (.lst [])) d []:=upd_same
  generalize upd H d (.lst [])=H0 at s0 hd0
  refine ⟨fun σ' H'=>∃ st:Int,σ'=[some (.ref a),some (.int (m:Int)),some (.ref d),some (.int st),none]∧H'=H0∧0≤st∧st < 2147483648,?_,?_⟩
  rotate_left
  ·refine ⟨_,rfl,a,_,rfl,.inl (s0.seq hS),_,_,rfl,rfl,_,rfl,?_⟩
   rw [List.length_map]
   by_cases h:0 < ns.length
   ·rw [decide_eq_true (show (0:Int) < (ns.length:Int) by omega)]
    refine iteT ⟨_,rfl,a,_,_,.int ns[0],rfl,rfl,s0.seq hS,atI_nat (j:=0) (by rw [List.getElem?_map,List.getElem?_eq_getElem h];rfl),_,_,rfl,rfl,(by show (0:Int) < 2147483646;decide),_,_,rfl,rfl,1+ns[0] % 2147483646,rfl,rfl,by omega,by omega⟩
   ·rw [decide_eq_false (show ¬ (0:Int) < (ns.length:Int) by omega)]
    exact iteF ⟨1,rfl,rfl,by omega,by omega⟩
  rintro σ1 H1' ⟨st,rfl,e1,hst0,hst1⟩
  rw [e1]
  clear e1 H1'
  refine ⟨_,rfl,(m:Int),rfl,by omega,by omega,?_⟩
  refine for_range (lo:=(0:Int)) (n:=((m:Nat):Int).toNat) (fun i σ H2=>∃ (cs:List Int) (st:Int) (u:Option V),Same H H2∧LI H2 d cs∧cs.length=i∧(∀ c∈cs,0≤c∧c < 1000000)∧(0≤st∧st < 2147483648)∧σ=[some (.ref a),some (.int (m:Int)),some (.ref d),some (.int st),u]) ⟨[],st,_,s0,hd0,rfl,fun c hc=>(by cases hc),⟨hst0,hst1⟩,rfl⟩ ?_ ?_
  ·rintro i σ H2 hi ⟨cs,st,u,s2,hd2,hcl,hcb,⟨h0,h1⟩,rfl⟩
   refine ⟨_,rfl,_,_,rfl,rfl,.inl ⟨by omega,by omega⟩,_,_,rfl,rfl,(by show (0:Int) < 2147483647;decide),?_⟩
   obtain ⟨x,hx⟩:∃ x:Int,x=st*48271 % 2147483647:=⟨_,rfl⟩
   have x0:0≤x∧x < 2147483647:=by omega
   show gName 3 (V.int (st*48271 % 2147483647)) _ _ _
   rw [← hx]
   refine ⟨_,rfl,.inl ⟨rfl,_,SqL.of hd2⟩,_,rfl,_,_,rfl,rfl,⟨by decide,by decide⟩,_,_,rfl,rfl,(by show (0:Int) < 1000000;decide),d,_,_,rfl,rfl,hd2,by rw [List.length_map];exact small1000 (by omega),cs++[x / 16 % 1000000],x,_,fun b o e=>by rw [upd_ne (ne_of_none e hd)];exact s2 _ _ e,?_,by rw [List.length_append,hcl];rfl,fun c hc=>?_,⟨by omega,by omega⟩,rfl⟩
   ·rw [LI,upd_same,List.map_append]
    rfl
   ·rcases List.mem_append.mp hc with h | h
    ·exact hcb c h
    ·rw [List.mem_singleton.mp h]
     omega
  ·rintro σ H2 ⟨cs,st,u,s2,hd2,hcl,hcb,_,rfl⟩
   rw [Int.toNat_natCast] at hcl
   refine ⟨_,rfl,a,_,rfl,.inl (s2.seq hS),(ns.length:Int),by rw [List.length_map],by omega,by omega,?_⟩
   have hm0:(0:Int) < (m:Int):=by omega
   refine for_range (lo:=(0:Int)) (n:=((ns.length:Nat):Int).toNat) (fun i σ H2=>∃ (cs:List Int) (u:Option V),Same H H2∧LI H2 d cs∧cs.length=m∧(∀ c∈cs,0≤c∧c < 1000000)∧σ=[some (.ref a),some (.int (m:Int)),some (.ref d),some (.int st),u]) ⟨cs,_,s2,hd2,hcl,hcb,rfl⟩ ?_ ?_
   ·clear hd2 hcl hcb s2 H2 cs
    rintro i σ H2 hi ⟨cs,u,s2,hd2,hcl,hcb,rfl⟩
    have hil:i < ns.length:=by omega
    have him:i % m < cs.length:=by rw [hcl];exact Nat.mod_lt _ (by omega)
    rw [show (0:Int)+(i:Int)=(i:Int) by omega]
    have em:(i:Int) % (m:Int)=((i % m:Nat):Int):=(Int.natCast_emod i m).symm
    have g1:atI (cs.map V.int) ((i:Int) % (m:Int))=some (.int cs[i % m]):=by
     rw [em]
     exact atI_nat (by rw [List.getElem?_map,List.getElem?_eq_getElem him];rfl)
    have g2:atI (ns.map V.int) (i:Int)=some (.int ns[i]):=atI_nat (by rw [List.getElem?_map,List.getElem?_eq_getElem hil];rfl)
    have g3:ixN (cs.map V.int).length ((i:Int) % (m:Int))=some (i % m):=by
     rw [em]
     exact ixN_at (by rw [List.length_map];exact him)
    refine ⟨_,rfl,_,rfl,_,rfl,_,_,rfl,rfl,hm0,d,_,_,.int cs[i % m],rfl,rfl,SqL.of hd2,g1,_,rfl,_,rfl,a,_,_,.int ns[i],rfl,rfl,s2.seq hS,g2,_,_,rfl,rfl,_,_,rfl,rfl,(by show (0:Int) < 1000000;decide),?_⟩
    refine ⟨_,rfl,_,rfl,_,rfl,_,_,rfl,rfl,hm0,d,_,_,i % m,rfl,rfl,hd2,g3,?_⟩
    refine ⟨cs.set (i % m) ((cs[i % m]+ns[i]) % (1000000)),_,fun b o e=>by rw [upd_ne (ne_of_none e hd)];exact s2 _ _ e,?_,by rw [List.length_set];exact hcl,fun c hc=>?_,rfl⟩
    ·rw [LI,upd_same,List.map_set]
    ·rcases set_mem hc with h | h
     ·exact hcb c h
     ·rw [h]
      omega
   ·rintro σ H2 ⟨cs,u,s2,hd2,hcl,hcb,rfl⟩
    exact ⟨_,rfl,kQ H2 d cs s2 hd hd2 hcl hcb⟩
inductive spTownI  (vs:List V) (H:Hp) (Q:VK) (E:XK):Prop
 | mk (a:Addr) (ns:List Int) (m:Nat):(vs=[.ref a,.int (m:Int)])→(LI H a ns)→(ns.length=63)→(1≤m)→(m≤31)→(∀ (H':Hp) (t l:Addr) (r:Nat) (ps:PP) (xs:List V),Same H H'→H' t=some (.tup [.int ((r:Int)+1),.ref l])→H' l=some (.lst xs)→PV H' xs ps→(∀ p∈ps,okPair ((r:Int)+1) p=true)→r≤6→ps.length < m→(r=0→ps=[])→(r:Int)=ns.getD 0 0 % 7→Q (.ref t) H')→spTownI  vs H Q E
def spTown  : Sp:=fun vs H Q E=>spTownI  vs H Q E
theorem scTown:FnScope ["numbers", "most", "quarters", "many", "pairs", "k", "number", "one"] ["numbers", "most"] (defScope sTown):=⟨rfl,rfl,rfl,by decide +kernel,rfl,by decide +kernel,by decide +kernel⟩
theorem ok_town {f:Addr} {fd:FuncData} (T:Txt K mg CE CS CQ CT) (F:Fun K "_law_town" "_law_town" sTown f fd):FnOk P w K mg base CX0 1 f fd ["numbers", "most"] spTown:=by
 refine F.ok scTown (fun vs H Q E h=>?_) (fun cdv A outer s H vs Q E hr h=>?_)
 ·obtain ⟨a,ns,m,rfl,_⟩:=h
  rfl
 ·obtain ⟨a,ns,m,rfl,ha,hn,hm1,hm2,kQ⟩:=h
  refine ⟨_,pss_cons (ps_set (i:=2) scTown.nd rfl (Or.inl rfl) (pe_op op_add pe_int (pe_op op_mod (pe_ix ix_list (pv 0) pe_int (fun _ _=>rfl)) pe_int)))
   (pss_cons (ps_set (i:=3) scTown.nd rfl (Or.inl rfl) (pe_op op_mod (pe_ix ix_list (pv 0) pe_int (fun _ _=>rfl)) (pv 1)))
   (pss_cons (ps_mid (ps_if (pt_cmpR op_eq (pv 2) pe_int (nomark _)) (pss_one (ps_set (i:=3) scTown.nd rfl (Or.inl rfl) pe_int)) pss_nil))
   (pss_cons (ps_set (i:=4) scTown.nd rfl (Or.inl rfl) (pe_lst pa_nil))
   (pss_cons (ps_for PassesOwn.never rfl (pi_range1 (by rfl) T.range (pa_cons (pv 3) pa_nil)) (pg_name (i:=5) scTown.nd rfl (Or.inl rfl))
    (pss_cons (ps_set (i:=6) scTown.nd rfl (Or.inl rfl) (pe_ix ix_list (pv 0) (pe_op op_add pe_int (pv 5)) (fun _ _=>rfl)))
    (pss_cons (ps_set (i:=7) scTown.nd rfl (Or.inl rfl) (pe_op op_mod (pv 6) (pv 2)))
    (pss_one (ps_expr (pe_bm PySem.F.plainAttrs_list PySem.F.slot_list_append PySem.F.type_list_append mt_append (pv 4) (pa_cons (pe_tup (pa_cons (pv 7) (pa_cons (pe_op op_mod (pe_op op_add (pe_op op_add (pv 7) pe_int) (pe_op op_mod (pe_op op_fdiv (pv 6) pe_int) (pe_op op_sub (pv 2) pe_int))) (pv 2)) pa_nil))) pa_nil)))))))
   (pss_one (ps_ret (pe_tup (pa_cons (pv 2) (pa_cons (pv 4) pa_nil))))))))),?_⟩
  try dsimp only [cx_of,cx_nox,cx_comp]
  have at_:∀ (G:Hp) (j:Nat),LI G a ns→(h:j < 63)→atI (ns.map V.int) ((j:Nat):Int)=some (.int (ns[j]'(by omega))):=fun G j _ hj=>atI_nat (by rw [List.getElem?_map,List.getElem?_eq_getElem (by omega)];rfl)
  refine ⟨_,rfl,a,_,_,_,rfl,rfl,SqL.of ha,at_ H 0 ha (by omega),_,_,rfl,rfl,(by show (0:Int) < 7;decide),_,_,rfl,rfl,?_⟩
  refine ⟨_,rfl,a,_,_,_,rfl,rfl,SqL.of ha,at_ H 1 ha (by omega),_,rfl,_,_,rfl,rfl,(by show (0:Int) < (m:Int);omega),?_⟩
  obtain ⟨r,hr6,hrq⟩:∃ r:Nat,r≤6∧(r:Int)=(ns[0]'(by omega)) % 7:=⟨((ns[0]'(by omega)) % 7).toNat,by omega,by omega⟩
  have eq0:(1:Int)+(ns[0]'(by omega)) % 7=(r:Int)+1:=by omega
  have hx0:=Int.emod_nonneg (ns[1]'(by omega)) (b:=(m:Int)) (by omega)
  have hx1:=Int.emod_lt_of_pos (ns[1]'(by omega)) (b:=(m:Int)) (by omega)
  obtain ⟨y,hy⟩:∃ y:Nat,(y:Int)=(ns[1]'(by omega)) % (m:Int):=⟨((ns[1]'(by omega)) % (m:Int)).toNat,by omega⟩
  refine ⟨fun σ' H'=>∃ z:Nat,σ'=[some (.ref a),some (.int (m:Int)),some (.int ((r:Int)+1)),some (.int (z:Int)),none,none,none,none]∧H'=H∧z < m∧(r=0→z=0),?_,?_⟩
  rotate_left
  ·refine ⟨_,rfl,rfl,_,rfl,?_⟩
   rw [eq0,dec_int]
   by_cases h0:(r:Int)+1=1
   ·rw [decide_eq_true h0]
    refine iteT ⟨0,rfl,rfl,by omega,fun _=>rfl⟩
   ·rw [decide_eq_false h0]
    refine iteF ⟨y,?_,rfl,by omega,fun z=>by omega⟩
    rw [hy]
    rfl
  rintro σ1 H1' ⟨z,rfl,e1,hz,hz0⟩
  rw [e1]
  clear e1 H1'
  refine ⟨by show 0≤sizeLine;decide,fun d hd=>?_⟩
  have s0:=Same.rfl'.new hd (o:=.lst [])
  refine ⟨_,rfl,(z:Int),rfl,by omega,by omega,?_⟩
  refine for_range (lo:=(0:Int)) (n:=((z:Nat):Int).toNat) (fun i σ H2=>(∃ (xs:List V) (ps:PP),Same H H2∧H2 d=some (.lst xs)∧PV H2 xs ps∧ps.length=i∧∀ p∈ps,okPair ((r:Int)+1) p=true)∧∃ u v w,σ=[some (.ref a),some (.int (m:Int)),some (.int ((r:Int)+1)),some (.int (z:Int)),some (.ref d),u,v,w]) ⟨⟨[],[],s0,upd_same,.nil,rfl,fun p hp=>(by cases hp)⟩,_,_,_,rfl⟩ ?_ ?_
  ·rintro i σ H2 hi ⟨⟨xs,ps,s2,hd2,hpv,hpl,hok⟩,u,v,w,rfl⟩
   have hiz:i < z:=by omega
   have hr1:1≤r:=Nat.pos_of_ne_zero fun e=>by have:=hz0 e;omega
   have hxl:=hpv.length
   rw [show (0:Int)+(i:Int)=(i:Int) by omega]
   have e8:(8:Int)+(i:Int)=((8+i:Nat):Int):=by omega
   have g8:atI (ns.map V.int) ((8:Int)+(i:Int))=some (.int (ns[8+i]'(by omega))):=by
    rw [e8]
    exact at_ H2 (8+i) (s2 _ _ ha) (by omega)
   obtain ⟨x,hx⟩:∃ x,x=ns[8+i]'(by omega):=⟨_,rfl⟩
   rw [← hx] at g8
   refine ⟨_,rfl,_,rfl,_,_,rfl,rfl,a,_,_,_,rfl,rfl,SqL.of (s2 _ _ ha),g8,?_⟩
   have hq0:(0:Int) < (r:Int)+1:=by omega
   have hq1:(0:Int) < (r:Int)+1 - 1:=by omega
   refine ⟨_,rfl,_,rfl,_,_,rfl,rfl,hq0,?_⟩
   refine ⟨_,rfl,.inl ⟨rfl,_,SqL.of hd2⟩,_,rfl,_,rfl,_,_,rfl,rfl,_,rfl,_,_,rfl,rfl,⟨by decide,by decide⟩,_,rfl,_,_,rfl,rfl,_,_,rfl,rfl,hq1,_,_,rfl,rfl,_,rfl,_,_,rfl,rfl,hq0,by show 2≤sizeLine;decide,fun t ht=>?_⟩
   have o1:=Int.emod_nonneg x (b:=(r:Int)+1) (by omega)
   have o2:=Int.emod_lt_of_pos x (b:=(r:Int)+1) hq0
   have o3:=Int.emod_nonneg (x / 7) (b:=(r:Int)+1 - 1) (by omega)
   have o4:=Int.emod_lt_of_pos (x / 7) (b:=(r:Int)+1 - 1) hq1
   have okp:=pair_ok o1 o2 o3 o4
   have ut:=Same.rfl'.new ht (o:=.tup [.int (x % ((r:Int)+1)),.int ((x % ((r:Int)+1)+1+x / 7 % ((r:Int)+1 - 1)) % ((r:Int)+1))])
   have htt:(upd H2 t (.tup [.int (x % ((r:Int)+1)),.int ((x % ((r:Int)+1)+1+x / 7 % ((r:Int)+1 - 1)) % ((r:Int)+1))])) t=some (.tup [.int (x % ((r:Int)+1)),.int ((x % ((r:Int)+1)+1+x / 7 % ((r:Int)+1 - 1)) % ((r:Int)+1))]):=upd_same
   obtain ⟨pr,epr⟩:∃ pr:Int × Int,pr=(x % ((r:Int)+1),(x % ((r:Int)+1)+1+x / 7 % ((r:Int)+1 - 1)) % ((r:Int)+1)):=⟨_,rfl⟩
   rw [← epr] at okp
   have htt2:(upd H2 t (.tup [.int (x % ((r:Int)+1)),.int ((x % ((r:Int)+1)+1+x / 7 % ((r:Int)+1 - 1)) % ((r:Int)+1))])) t=some (.tup [.int pr.1,.int pr.2]):=by rw [epr];exact htt
   generalize upd H2 t (.tup [.int (x % ((r:Int)+1)),.int ((x % ((r:Int)+1)+1+x / 7 % ((r:Int)+1 - 1)) % ((r:Int)+1))])=H3 at ut htt htt2
   have hd3:=ut _ _ hd2
   refine ⟨d,_,_,rfl,rfl,hd3,small1000 (by omega),⟨xs++[.ref t],ps++[pr],fun b o e=>by rw [upd_ne (ne_of_none e hd)];exact ut _ _ (s2 _ _ e),upd_same,All2.append ((hpv.same ut).mono fun b ys' e=>?_) (.cons ⟨t,rfl,?_⟩ .nil),by rw [List.length_append,hpl];rfl,fun p hp=>?_⟩,_,_,_,rfl⟩
   ·rw [upd_ne (ne_of e hd3 (by intro z;cases z))]
    exact e
   ·rw [upd_ne (ne_of htt2 hd3 (by intro z;cases z))]
    exact htt2
   ·rcases List.mem_append.mp hp with h | h
    ·exact hok p h
    ·rw [List.mem_singleton.mp h]
     exact okp
  ·rintro σ H2 ⟨⟨xs,ps,s2,hd2,hpv,hpl,hok⟩,u,v,w,rfl⟩
   rw [Int.toNat_natCast] at hpl
   refine ⟨_,rfl,_,rfl,by show 2≤sizeLine;decide,fun t ht=>?_⟩
   have u3:=Same.rfl'.new ht (o:=.tup [.int ((r:Int)+1),.ref d])
   refine kQ _ t d r ps xs (s2.tr u3) upd_same (u3 _ _ hd2) (hpv.same u3) hok hr6 (by omega) (fun e=>List.eq_nil_of_length_eq_zero (by have:=hz0 e;omega)) ?_
   rw [hrq,List.getD_eq_getElem?_getD,List.getElem?_eq_getElem (by omega)]
   rfl
end
section
variable {P:Program} {w:World} {K:W.Frag} {mg:Str→Option Value} {base:Heap} {CE CS CQ CT:Addr}
inductive spWholeI  (vs:List V) (H:Hp) (Q:VK) (E:XK):Prop
 | mk (n:Int):(vs=[.int n])→(Q (.bl true) H)→spWholeI  vs H Q E
def spWhole  : Sp:=fun vs H Q E=>spWholeI  vs H Q E
theorem scWhole:FnScope ["found"] ["found"] (defScope sWholeN):=⟨rfl,rfl,rfl,by decide +kernel,rfl,by decide +kernel,by decide +kernel⟩
theorem ok_whole {f:Addr} {fd:FuncData} (T:Txt K mg CE CS CQ CT) (F:Fun K "_law_whole_number" "_law_whole_number" sWholeN f fd):FnOk P w K mg base CX0 1 f fd ["found"] spWhole:=by
 refine F.ok scWhole (fun vs H Q E h=>?_) (fun cdv A outer s H vs Q E hr h=>?_)
 ·obtain ⟨n,rfl,_⟩:=h
  rfl
 ·obtain ⟨n,rfl,kQ⟩:=h
  refine ⟨_,pss_one (ps_ret (pe_and (pe_callB c_isi (by rfl) T.isi boot_isi (pa_cons (pv 0) (pa_cons (pe_bltn (v:=.ty "int") (by rfl) T.int bt_int (by rfl)) pa_nil)))
   (pe_one (pe_not (pe_callB c_isi (by rfl) T.isi boot_isi (pa_cons (pv 0) (pa_cons (pe_bltn (v:=.ty "bool") (by rfl) T.bool bt_bool (by rfl)) pa_nil))))))),?_⟩
  try dsimp only [cx_of,cx_nox,cx_comp]
  refine ⟨_,rfl,_,_,_,_,_,rfl,rfl,.int n,kit_same _,_,rfl,?_⟩
  exact iteT ⟨_,rfl,_,_,_,_,_,rfl,rfl,.int n,kit_ib,_,rfl,kQ⟩
inductive spLRisesI  (vs:List V) (H:Hp) (Q:VK) (E:XK):Prop
 | mk (l:Addr) (ns:List Int) (m:Int):(vs=[.ref l,.int m])→(LI H l ns)→(Q (.bl (risesB ns m)) H)→spLRisesI  vs H Q E
def spLRises  : Sp:=fun vs H Q E=>spLRisesI  vs H Q E
theorem scLRises:FnScope ["found", "most", "last", "number"] ["found", "most"] (defScope sLRises):=⟨rfl,rfl,rfl,by decide +kernel,rfl,by decide +kernel,by decide +kernel⟩
theorem ok_lrises {f fW:Addr} {fd dW:FuncData} (T:Txt K mg CE CS CQ CT) (F:Fun K "_law_rises" "_law_rises" sLRises f fd)
  (GW:FnOk P w K mg base CX0 1 fW dW ["found"] spWhole) (bW:Binds K dW ["found"] []) (mW:mg "_law_whole_number" = some (.ref fW)) (kW:W.keepIn K (.ref fW)=true):FnOk P w K mg base CX0 2 f fd ["found", "most"] spLRises:=by
 refine F.ok scLRises (fun vs H Q E h=>?_) (fun cdv A outer s H vs Q E hr h=>?_)
 ·obtain ⟨l,ns,m,rfl,_⟩:=h
  rfl
 ·obtain ⟨l,ns,m,rfl,hl,kQ⟩:=h
  refine ⟨_,pss_cons (ps_if (pt_not (pt_val (pe_callB c_isi (by rfl) T.isi boot_isi (pa_cons (pv 0) (pa_cons (pe_bltn (v:=.ty "list") (by rfl) T.list bt_list (by rfl)) pa_nil))))) (pss_one (ps_ret pe_bl)) pss_nil)
   (pss_cons (ps_set (i:=2) scLRises.nd rfl (Or.inl rfl) (pe_un un_neg pe_int))
   (pss_cons (ps_for PassesOwn.never rfl (pi_list (pv 0)) (pg_name (i:=3) scLRises.nd rfl (Or.inl rfl))
    (pss_cons (ps_if (pw_or (pt_not (pt_val (pe_call GW hr (by rfl) mW kW bW .nil pass0 (pa_cons (pv 3) pa_nil))))
     (pw_or (pt_cmpR op_le (pv 3) (pv 2) (nomark _)) (pw_or1 (pt_cmpR op_ge (pv 3) (pv 1) (nomark _))))).pt (pss_one (ps_ret pe_bl)) pss_nil)
    (pss_one (ps_set (i:=2) scLRises.nd rfl (Or.inl rfl) (pv 3)))))
   (pss_one (ps_ret pe_bl)))),?_⟩
  try dsimp only [cx_of,cx_nox,cx_comp]
  rw [risesB_from] at kQ
  refine ⟨_,rfl,_,_,_,_,_,rfl,rfl,.lst hl,kit_same _,_,rfl,?_⟩
  refine iteF ⟨_,rfl,?_⟩
  refine ⟨_,rfl,l,rfl,⟨_,SqL.of hl⟩,for_list (K:=K) (a:=l) (xs:=ns.map V.int) (fun i σ H2=>H2=H∧∃ last u,σ=[some (.ref l),some (.int m),some (.int last),u]∧riseFrom (-1) m ns=riseFrom last m (ns.drop i))
   ⟨rfl,_,_,rfl,rfl⟩ (fun i σ H2 _ ⟨e,_⟩=>by subst e;exact SqL.of hl) ?_ ?_⟩
  ·rintro i x σ H2 hi ⟨rfl,last,u,rfl,er⟩
   rw [List.getElem?_map] at hi
   obtain ⟨n,hn,rfl⟩:=Option.map_eq_some_iff.mp hi
   have hil:=(List.getElem?_eq_some_iff.mp hn).1
   have ed:ns.drop i=n::ns.drop (i+1):=by
    rw [List.drop_eq_getElem_cons hil]
    congr 1
    exact (List.getElem?_eq_some_iff.mp hn).2
   rw [ed,show riseFrom last m (n::ns.drop (i+1))=((decide (last < n) && decide (n < m)) && riseFrom n m (ns.drop (i+1))) from rfl] at er
   refine ⟨_,rfl,n,rfl,_,rfl,?_⟩
   refine iteF ⟨_,rfl,_,rfl,_,_,rfl,rfl,_,rfl,?_⟩
   by_cases h1:n≤last
   ·rw [decide_eq_true h1]
    refine iteT (iteT ?_)
    rw [decide_eq_false (show ¬ last < n by omega)] at er
    rw [er] at kQ
    exact kQ
   ·rw [decide_eq_false h1]
    refine iteF ⟨_,rfl,_,rfl,_,_,rfl,rfl,_,rfl,?_⟩
    by_cases h2:m≤n
    ·rw [decide_eq_true h2]
     refine iteT ?_
     rw [decide_eq_false (show ¬ n < m by omega),Bool.and_false] at er
     rw [er] at kQ
     exact kQ
    ·rw [decide_eq_false h2]
     refine iteF ⟨_,rfl,rfl,_,_,rfl,?_⟩
     rw [decide_eq_true (show last < n by omega),decide_eq_true (show n < m by omega)] at er
     exact er
  ·rintro σ H2 ⟨rfl,last,u,rfl,er⟩
   rw [List.length_map,List.drop_length] at er
   rw [er] at kQ
   exact kQ
inductive spLDealingI  (vs:List V) (H:Hp) (Q:VK) (E:XK):Prop
 | mk (lp ld:Addr) (xs xd:List V) (ps:PP) (q:Int) (nss:List (List Int)) (c:Int):(vs=[.int q,.ref lp,.ref ld,.int c])→(H lp=some (.lst xs))→(PV H xs ps)→((∀ p∈ps,okPair q p=true))→(0≤q)→(q≤24)→(H ld=some (.lst xd))→(LS H xd nss)→(nss.flatten.length≤1000)→(c=(nss.length:Int))→(∀ (H':Hp) (r:Bool),Same H H'→(r=true↔DealOk ps nss)→Q (.bl r) H')→spLDealingI  vs H Q E
def spLDealing  : Sp:=fun vs H Q E=>spLDealingI  vs H Q E
theorem scLDealing:FnScope ["quarters", "pairs", "found", "crews", "taken", "held", "bridge"] ["quarters", "pairs", "found", "crews"] (defScope sDealing):=⟨rfl,rfl,rfl,by decide +kernel,rfl,by decide +kernel,by decide +kernel⟩
theorem ok_ldealing {f f1 f2:Addr} {fd fd1 fd2:FuncData} (T:Txt K mg CE CS CQ CT) (F:Fun K "_law_dealing" "_law_dealing" sDealing f fd)
  (G1:FnOk P w K mg base CX0 2 f1 fd1 ["found", "most"] spLRises) (b1:Binds K fd1 ["found", "most"] []) (m1:mg "_law_rises" = some (.ref f1)) (k1:W.keepIn K (.ref f1)=true)
  (G2:FnOk P w K mg base CX0 1 f2 fd2 ["quarters", "pairs", "held"] spRingless) (b2:Binds K fd2 ["quarters", "pairs", "held"] []) (m2:mg "_law_ringless" = some (.ref f2)) (k2:W.keepIn K (.ref f2)=true) :
  FnOk P w K mg base CX0 3 f fd ["quarters", "pairs", "found", "crews"] spLDealing:=by
 refine F.ok scLDealing (fun vs H Q E h=>?_) (fun cdv A outer s H vs Q E hr h=>?_)
 ·obtain ⟨lp,ld,xs,xd,ps,q,nss,c,rfl,_⟩:=h
  rfl
 ·obtain ⟨lp,ld,xs,xd,ps,q,nss,c,rfl,hlp,hpv,hok,hq0,hq,hld,hls,hfl,hc,kQ⟩:=h
  have r1:=hr.mono (show 1≤2 by omega)
  refine ⟨_,pss_cons (ps_if (pw_or (pt_not (pt_val (pe_callB c_isi (by rfl) T.isi boot_isi (pa_cons (pv 2) (pa_cons (pe_bltn (v:=.ty "list") (by rfl) T.list bt_list (by rfl)) pa_nil))))) (pw_or1 (pt_cmpR op_ne (pe_callB c_len (by rfl) T.len PySem.boot_len (pa_cons (pv 2) pa_nil)) (pv 3) (nomark _)))).pt (pss_one (ps_ret pe_bl)) pss_nil)
   (pss_cons (ps_set (i:=4) scLDealing.nd rfl (Or.inl rfl) (pe_lst pa_nil))
   (pss_cons (ps_for PassesOwn.never rfl (pi_list (pv 2)) (pg_name (i:=5) scLDealing.nd rfl (Or.inl rfl))
    (pss_cons (ps_if (pw_or (pt_not (pt_val (pe_call G1 hr (by rfl) m1 k1 b1 .nil pass0 (pa_cons (pv 5) (pa_cons (pe_callB c_len (by rfl) T.len PySem.boot_len (pa_cons (pv 1) pa_nil)) pa_nil)))))
      (pw_or1 (pt_not (pt_val (pe_call G2 r1 (by rfl) m2 k2 b2 .nil pass0 (pa_cons (pv 0) (pa_cons (pv 1) (pa_cons (pv 5) pa_nil)))))))).pt (pss_one (ps_ret pe_bl)) pss_nil)
    (pss_one (ps_for PassesOwn.never rfl (pi_list (pv 5)) (pg_name (i:=6) scLDealing.nd rfl (Or.inl rfl))
     (pss_cons (ps_if (pt_cmpR op_in_seq (pv 6) (pv 4) rfl) (pss_one (ps_ret pe_bl)) pss_nil)
     (pss_one (ps_expr (pe_bm PySem.F.plainAttrs_list PySem.F.slot_list_append PySem.F.type_list_append mt_append (pv 4) (pa_cons (pv 6) pa_nil)))))))))
   (pss_one (ps_ret pe_bl)))),?_⟩
  try dsimp only [cx_of,cx_nox,cx_comp]
  have hlen:=hls.length
  have hxl:=hpv.length
  refine ⟨_,rfl,_,_,_,_,_,rfl,rfl,.lst hld,kit_same _,_,rfl,?_⟩
  refine iteF ⟨_,rfl,ld,_,rfl,.inl (SqL.of hld),_,rfl,rfl,_,rfl,?_⟩
  rw [dec_int,decide_eq_true (show ((xd.length:Nat):Int)=c by rw [hc];omega)]
  refine iteF ⟨by show 0≤sizeLine;decide,fun d hd=>?_⟩
  have s0:Same H (upd H d (.lst [])):=Same.rfl'.new hd
  refine ⟨_,rfl,ld,rfl,⟨_,SqL.of (s0 _ _ hld)⟩,for_list (K:=K) (a:=ld) (xs:=xd) (fun i σ H2=>(Same H H2∧LI H2 d (nss.take i).flatten∧(∀ g∈nss.take i,risesB g ps.length=true∧∀ j,¬ Clo ps g j)∧(nss.take i).flatten.Nodup)∧
    ∃ u v,σ=[some (.int q),some (.ref lp),some (.ref ld),some (.int c),some (.ref d),u,v])
   ⟨⟨s0,by rw [LI,upd_same];rfl,fun g hg=>by simp at hg,by simp⟩,_,_,rfl⟩ (fun i σ H2 _ ⟨⟨e,_⟩,_⟩=>SqL.of (e _ _ hld)) ?_ ?_⟩
  ·rintro i x σ H2 hi ⟨⟨s2,hd2,hall,hnd⟩,u,v,rfl⟩
   obtain ⟨g,hg,a,rfl,hag⟩:=hls.get hi
   have hgm:=List.mem_of_getElem? hg
   have ha2:LI H2 a g:=s2 _ _ hag
   refine ⟨_,rfl,_,rfl,lp,xs,rfl,.inl (SqL.of (s2 _ _ hlp)),a,g,(xs.length:Int),rfl,ha2,_,rfl,?_⟩
   rw [hxl]
   cases hrb:risesB g (ps.length:Int) with
   | false=>exact iteT (iteT (kQ _ false s2 ⟨fun z=>(by cases z),fun z=>by rw [(z.1 g hgm).1] at hrb;cases hrb⟩))
   | true=>
    have hbs:=(risesB_iff.mp hrb).2
    refine iteF ⟨_,rfl,_,rfl,_,rfl,lp,a,xs,ps,q,g,rfl,s2 _ _ hlp,hpv.same s2,hok,hq0,hq,ha2,hbs,fun H3 r s3 hr3=>⟨_,rfl,?_⟩⟩
    have s23:=s2.tr s3
    cases r with
    | false=>exact iteT (kQ _ false s23 ⟨fun z=>(by cases z),fun z=>hr3.mpr (z.1 g hgm).2⟩)
    | true=>
     have hno:=hr3.mp rfl
     have ha3:LI H3 a g:=s3 _ _ ha2
     have hd3:LI H3 d (nss.take i).flatten:=s3 _ _ hd2
     have hgnd:g.Nodup:=(risesB_iff.mp hrb).1.imp fun h=>by omega
     have h1000:(nss.take i).flatten.length+g.length≤1000:=by
      have:=flat_split hg
      rw [this,List.length_append,List.length_append] at hfl
      omega
     refine iteF ⟨_,rfl,a,rfl,⟨_,SqL.of ha3⟩,for_list (K:=K) (a:=a) (xs:=g.map V.int) (fun j σ H4=>(Same H H4∧LI H4 d ((nss.take i).flatten++g.take j)∧∀ b∈g.take j,b ∉ (nss.take i).flatten)∧
       ∃ z,σ=[some (.int q),some (.ref lp),some (.ref ld),some (.int c),some (.ref d),some (.ref a),z])
      ⟨⟨s23,by rw [List.take_zero,List.append_nil];exact hd3,fun b hb=>by simp at hb⟩,_,rfl⟩ (fun j σ H4 _ ⟨⟨e,_⟩,_⟩=>SqL.of (e _ _ hag)) ?_ ?_⟩
     ·rintro j y σ H4 hj ⟨⟨s4,hd4,hn4⟩,z,rfl⟩
      rw [List.getElem?_map] at hj
      obtain ⟨b,hb,rfl⟩:=Option.map_eq_some_iff.mp hj
      refine ⟨_,rfl,_,rfl,d,_,rfl,.inl (SqL.of hd4),rfl,flat_ints _,_,rfl,?_⟩
      rw [show (if false=true then !inV (V.int b) (((nss.take i).flatten++g.take j).map V.int) else inV (V.int b) (((nss.take i).flatten++g.take j).map V.int))=((nss.take i).flatten++g.take j).contains b from by rw [if_neg Bool.false_ne_true,inV_ints]]
      by_cases hin:b∈(nss.take i).flatten++g.take j
      ·rw [show ((nss.take i).flatten++g.take j).contains b=true from by simpa using hin]
       refine iteT (kQ _ false s4 ⟨fun z=>(by cases z),fun z=>?_⟩)
       exact absurd z.2 (twice hg hb (List.mem_append.mp hin))
      ·rw [show ((nss.take i).flatten++g.take j).contains b=false from by rw [← Bool.not_eq_true,List.contains_iff_mem];exact hin]
       have hlt:(nss.take i).flatten.length+(g.take j).length≤1000:=by
        rw [List.length_take]
        omega
       refine iteF ⟨_,rfl,.inl ⟨rfl,_,SqL.of hd4⟩,_,rfl,d,_,_,rfl,rfl,hd4,by rw [List.length_map,List.length_append];exact small1000 hlt,⟨fun c o e=>by rw [upd_ne (ne_of_none e hd)];exact s4 _ _ e,?_,fun c hc=>?_⟩,_,rfl⟩
       ·rw [LI,upd_same,take_snoc' hb,← List.append_assoc,List.map_append (l₁:=(nss.take i).flatten++g.take j)]
        rfl
       ·rw [take_snoc' hb] at hc
        rcases List.mem_append.mp hc with h | h
        ·exact hn4 c h
        ·rw [List.mem_singleton.mp h]
         exact fun z=>hin (List.mem_append_left _ z)
     ·rintro σ H4 ⟨⟨s4,hd4,hn4⟩,z,rfl⟩
      rw [List.length_map,List.take_length] at hd4 hn4
      refine ⟨⟨s4,by rw [flat_take hg];exact hd4,fun g' hg'=>?_,?_⟩,_,_,rfl⟩
      ·rw [take_snoc' hg] at hg'
       rcases List.mem_append.mp hg' with h | h
       ·exact hall g' h
       ·rw [List.mem_singleton.mp h]
        exact ⟨hrb,hno⟩
      ·rw [flat_take hg]
       refine List.nodup_append.mpr ⟨hnd,hgnd,fun x hx y hy e=>?_⟩
       subst e
       exact hn4 x hy hx
  ·rintro σ H2 ⟨⟨s2,hd2,hall,hnd⟩,u,v,rfl⟩
   rw [hlen,List.take_length] at hall hnd
   exact kQ _ true s2 ⟨fun _=>⟨hall,hnd⟩,fun _=>rfl⟩
end
end K26
namespace K26
open PySem L2 XM
theorem groups_order {nss:List (List Int)} {q:Int} {i:Nat} {g:List Int} {y:Int} (hg:nss[i]?=some g) (hy:y∈(nss.take i).map (·.headD 0)) (hl:g.headD 0 < y):groupsOk nss q 2=false:=by
 rw [← Bool.not_eq_true]
 intro h
 unfold groupsOk at h
 rw [Bool.and_eq_true,Bool.and_eq_true] at h
 have hp:=(rising_iff _).mp h.2.2
 have hi:=(List.getElem?_eq_some_iff.mp hg).1
 have e:nss=nss.take i++g::nss.drop (i+1):=by
  have h1:nss.drop i=g::nss.drop (i+1):=by
   rw [List.drop_eq_getElem_cons hi]
   congr 1
   exact (List.getElem?_eq_some_iff.mp hg).2
  rw [← h1,List.take_append_drop]
 rw [e,List.map_append,List.map_cons,List.pairwise_append] at hp
 have:=hp.2.2 y hy (g.headD 0) List.mem_cons_self
 omega
theorem room_eb {ps:PP} {xs:List V} {H:Hp} (h:PV H xs ps) {b:Int} (h0:0≤b) (h1:b < (ps.length:Int)):∃ t,xs[b.toNat]?=some (.ref t)∧H t=some (.tup [.int (eb ps b).1,.int (eb ps b).2]):=by
 have hl:=h.length
 obtain ⟨x,hx⟩:∃ x,xs[b.toNat]?=some x:=⟨_,List.getElem?_eq_getElem (by omega)⟩
 obtain ⟨p,hp,t,rfl,ht⟩:=h.get hx
 refine ⟨t,hx,?_⟩
 have e:eb ps b=p:=by unfold eb;rw [List.getD_eq_getElem?_getD,hp];rfl
 rw [e]
 exact ht
theorem eqv_nilL (nss:List (List Int)):PyData.eqv (.list (nss.map ld)) (.list (([]:List (List Int)).map ld))=decide (nss=[]):=by
 cases nss with
 | nil=>rw [eqv_lists',decide_eq_true rfl]
 | cons g t=>rw [decide_eq_false (by simp)];simp [PyData.eqv,PyData.eqvAll]
theorem LS.sel {H:Hp} (p:List Int→Bool):∀ {xs:List V} {nss:List (List Int)},LS H xs nss→LS H (((xs.zip nss).filter fun z=>p z.2).map Prod.fst) (nss.filter p)
 | _,_,.nil=>.nil
 | _,_,.cons (x:=x) (y:=g) h t=>by
  rw [List.zip_cons_cons,List.filter_cons,List.filter_cons]
  by_cases hp:p g=true
  ·rw [if_pos hp,if_pos hp,List.map_cons]
   exact .cons h (LS.sel p t)
  ·rw [if_neg hp,if_neg hp]
   exact LS.sel p t
theorem zip_at {xs:List V} {nss:List (List Int)} {i:Nat} {x:V} {g:List Int} (h1:xs[i]?=some x) (h2:nss[i]?=some g):(xs.zip nss)[i]?=some (x,g):=by
 rw [List.getElem?_zip_eq_some]
 exact ⟨h1,h2⟩
section
variable {P:Program} {w:World} {K:W.Frag} {mg:Str→Option Value} {base:Heap} {CE CS CQ CT:Addr}
inductive spLHuddlesI  (vs:List V) (H:Hp) (Q:VK) (E:XK):Prop
 | mk (l:Addr) (xs:List V) (nss:List (List Int)) (q:Int):(vs=[.int q,.ref l])→(H l=some (.lst xs))→(LS H xs nss)→(nss.length≤60)→(nss.flatten.length≤1000)→(∀ H',Same H H'→Q (.bl (groupsOk nss q 2)) H')→spLHuddlesI  vs H Q E
def spLHuddles  : Sp:=fun vs H Q E=>spLHuddlesI  vs H Q E
theorem scLHuddles:FnScope ["quarters", "found", "taken", "least", "huddle", "quarter"] ["quarters", "found"] (defScope sLHuddles):=⟨rfl,rfl,rfl,by decide +kernel,rfl,by decide +kernel,by decide +kernel⟩
theorem ok_lhuddles {f f1:Addr} {fd fd1:FuncData} (T:Txt K mg CE CS CQ CT) (F:Fun K "_law_huddles" "_law_huddles" sLHuddles f fd)
  (G1:FnOk P w K mg base CX0 2 f1 fd1 ["found", "most"] spLRises) (b1:Binds K fd1 ["found", "most"] []) (m1:mg "_law_rises" = some (.ref f1)) (k1:W.keepIn K (.ref f1)=true) :
  FnOk P w K mg base CX0 3 f fd ["quarters", "found"] spLHuddles:=by
 refine F.ok scLHuddles (fun vs H Q E h=>?_) (fun cdv A outer s H vs Q E hr h=>?_)
 ·obtain ⟨l,xs,nss,q,rfl,_⟩:=h
  rfl
 ·obtain ⟨l,xs,nss,q,rfl,hl,hls,hn60,hfl,kQ⟩:=h
  refine ⟨_,pss_cons (ps_if (pt_not (pt_val (pe_callB c_isi (by rfl) T.isi boot_isi (pa_cons (pv 1) (pa_cons (pe_bltn (v:=.ty "list") (by rfl) T.list bt_list (by rfl)) pa_nil))))) (pss_one (ps_ret pe_bl)) pss_nil)
   (pss_cons (ps_set (i:=2) scLHuddles.nd rfl (Or.inl rfl) (pe_lst pa_nil))
   (pss_cons (ps_set (i:=3) scLHuddles.nd rfl (Or.inl rfl) (pe_un un_neg pe_int))
   (pss_cons (ps_for PassesOwn.never rfl (pi_list (pv 1)) (pg_name (i:=4) scLHuddles.nd rfl (Or.inl rfl))
    (pss_cons (ps_if (pw_or (pt_not (pt_val (pe_call G1 hr (by rfl) m1 k1 b1 .nil pass0 (pa_cons (pv 4) (pa_cons (pv 0) pa_nil))))) (pw_or (pt_cmpR op_lt (pe_callB c_len (by rfl) T.len PySem.boot_len (pa_cons (pv 4) pa_nil)) pe_int (nomark _)) (pw_or1 (pt_cmpR op_lt (pe_ix ix_list (pv 4) pe_int (fun _ _=>rfl)) (pv 3) (nomark _))))).pt (pss_one (ps_ret pe_bl)) pss_nil)
    (pss_cons (ps_for PassesOwn.never rfl (pi_list (pv 4)) (pg_name (i:=5) scLHuddles.nd rfl (Or.inl rfl)) (pss_cons (ps_if (pt_cmpR op_in_seq (pv 5) (pv 2) rfl) (pss_one (ps_ret pe_bl)) pss_nil) (pss_one (ps_expr (pe_bm PySem.F.plainAttrs_list PySem.F.slot_list_append PySem.F.type_list_append mt_append (pv 2) (pa_cons (pv 5) pa_nil))))))
    (pss_one (ps_set (i:=3) scLHuddles.nd rfl (Or.inl rfl) (pe_ix ix_list (pv 4) pe_int (fun _ _=>rfl)))))))
   (pss_one (ps_ret pe_bl))))),?_⟩
  try dsimp only [cx_of,cx_nox,cx_comp]
  have hlen:=hls.length
  refine ⟨_,rfl,_,_,_,_,_,rfl,rfl,.lst hl,kit_same _,_,rfl,?_⟩
  refine iteF ⟨by show 0≤sizeLine;decide,fun d hd=>⟨_,rfl,?_⟩⟩
  have s0:Same H (upd H d (.lst [])):=Same.rfl'.new hd
  refine ⟨_,rfl,l,rfl,⟨_,SqL.of (s0 _ _ hl)⟩,for_list (K:=K) (a:=l) (xs:=xs) (fun i σ H2=>∃ (least:Int),Same H H2∧LI H2 d (nss.take i).flatten∧(nss.take i).flatten.Nodup∧(∀ g∈nss.take i,grpOk q 2 g=true)∧((nss.take i).map (·.headD 0)).Pairwise (·≤·)∧(least=-1∨least∈(nss.take i).map (·.headD 0))∧(∀ x∈(nss.take i).map (·.headD 0),x≤least)∧∃ u v,σ=[some (.int q),some (.ref l),some (.ref d),some (.int least),u,v])
   ⟨-1,s0,by rw [LI,upd_same];rfl,by simp,fun g hg=>by simp at hg,by simp,.inl rfl,fun x hx=>by simp at hx,_,_,rfl⟩ (fun i σ H2 _ ⟨_,e,_⟩=>SqL.of (e _ _ hl)) ?_ ?_⟩
  ·rintro i x σ H2 hi ⟨least,s2,ht,hnd,hall,hpw,hle,hmx,u,v,rfl⟩
   obtain ⟨g,hg,a,rfl,hag⟩:=hls.get hi
   have hgm:=List.mem_of_getElem? hg
   have hag2:LI H2 a g:=s2 _ _ hag
   refine ⟨_,rfl,_,rfl,a,g,q,rfl,hag2,_,rfl,?_⟩
   cases hrs:risesB g q with
   | false=>
    refine iteT (iteT ?_)
    have:=kQ _ s2
    rw [groups_no hgm (by unfold grpOk;rw [hrs,Bool.and_false])] at this
    exact this
   | true=>
    refine iteF ⟨_,rfl,a,_,rfl,.inl (SqL.of hag2),_,_,rfl,rfl,_,rfl,?_⟩
    rw [List.length_map]
    by_cases h2:(g.length:Int) < 2
    ·rw [decide_eq_true h2]
     refine iteT (iteT ?_)
     have:=kQ _ s2
     rw [groups_no hgm (by unfold grpOk;rw [decide_eq_true h2];rfl)] at this
     exact this
    rw [decide_eq_false h2]
    have hg0:(g.map V.int)[0]?=some (.int (g.headD 0)):=by
     cases g with
     | nil=>simp at h2
     | cons y r=>rfl
    have hh0:0≤g.headD 0:=by
     cases g with
     | nil=>simp at h2
     | cons y r=>exact ((risesB_iff.mp hrs).2 y List.mem_cons_self).1
    refine iteF ⟨_,rfl,a,_,_,_,rfl,rfl,SqL.of hag2,atI_nat (j:=0) hg0,_,rfl,_,_,rfl,rfl,_,rfl,?_⟩
    by_cases h3:g.headD 0 < least
    ·rw [decide_eq_true h3]
     refine iteT ?_
     have:=kQ _ s2
     rcases hle with e | hm
     ·omega
     rw [groups_order hg hm h3] at this
     exact this
    rw [decide_eq_false h3]
    refine iteF ?_
    have hgn:g.Nodup:=(risesB_iff.mp hrs).1.imp fun h=>by omega
    have h1000:(nss.take i).flatten.length+g.length≤1000:=by
     have:=flat_split hg
     rw [this,List.length_append,List.length_append] at hfl
     omega
    refine ⟨_,rfl,a,rfl,⟨_,SqL.of hag2⟩,for_list (K:=K) (a:=a) (xs:=g.map V.int) (fun j σ H3=>Same H H3∧LI H3 d ((nss.take i).flatten++g.take j)∧(∀ y∈g.take j,y ∉ (nss.take i).flatten)∧∃ v,σ=[some (.int q),some (.ref l),some (.ref d),some (.int least),some (.ref a),v])
     ⟨s2,by rw [List.take_zero,List.append_nil];exact ht,fun y hy=>by simp at hy,_,rfl⟩ (fun j σ H3 _ ⟨e,_⟩=>SqL.of (e _ _ hag)) ?_ ?_⟩
    ·rintro j z σ H3 hj ⟨s3,hd3,hno,v,rfl⟩
     rw [List.getElem?_map] at hj
     obtain ⟨b,hb,rfl⟩:=Option.map_eq_some_iff.mp hj
     refine ⟨_,rfl,_,rfl,d,_,rfl,.inl (SqL.of hd3),rfl,flat_ints _,_,rfl,?_⟩
     rw [show (if false=true then !inV (V.int b) (((nss.take i).flatten++g.take j).map V.int) else inV (V.int b) (((nss.take i).flatten++g.take j).map V.int))=((nss.take i).flatten++g.take j).contains b from by rw [if_neg Bool.false_ne_true,inV_ints]]
     by_cases hc:b∈(nss.take i).flatten++g.take j
     ·rw [show ((nss.take i).flatten++g.take j).contains b=true from by rw [List.contains_iff_mem];exact hc]
      refine iteT ?_
      have:=kQ _ s3
      rw [groups_twice (twice hg hb (List.mem_append.mp hc))] at this
      exact this
     ·rw [show ((nss.take i).flatten++g.take j).contains b=false from by rw [← Bool.not_eq_true,List.contains_iff_mem];exact hc]
      have hlt:(nss.take i).flatten.length+(g.take j).length≤1000:=by
       rw [List.length_take]
       omega
      refine iteF ⟨_,rfl,.inl ⟨rfl,_,SqL.of hd3⟩,_,rfl,d,_,_,rfl,rfl,hd3,by rw [List.length_map,List.length_append];exact small1000 hlt,fun c o e=>by rw [upd_ne (ne_of_none e hd)];exact s3 _ _ e,?_,fun y hy=>?_,_,rfl⟩
      ·rw [LI,upd_same,take_snoc' hb,← List.append_assoc,List.map_append (l₁:=(nss.take i).flatten++g.take j)]
       rfl
      ·rw [take_snoc' hb] at hy
       rcases List.mem_append.mp hy with h | h
       ·exact hno y h
       ·rw [List.mem_singleton] at h
        rw [h]
        exact fun z=>hc (List.mem_append_left _ z)
    ·rintro σ H3 ⟨s3,hd3,hno,v,rfl⟩
     rw [List.length_map,List.take_length] at hno hd3
     refine ⟨_,rfl,a,_,_,_,rfl,rfl,SqL.of (s3 _ _ hag),atI_nat (j:=0) hg0,g.headD 0,s3,by rw [flat_snoc hg];exact hd3,?_,fun g' hg'=>?_,?_,?_,fun x hx=>?_,_,_,rfl⟩
     ·rw [flat_snoc hg]
      exact List.nodup_append.mpr ⟨hnd,hgn,fun x hx y hy e=>hno y hy (e ▸ hx)⟩
     ·rw [take_snoc' hg] at hg'
      rcases List.mem_append.mp hg' with h | h
      ·exact hall g' h
      ·rw [List.mem_singleton] at h
       rw [h]
       unfold grpOk
       rw [decide_eq_false h2,hrs]
       rfl
     ·rw [take_snoc' hg,List.map_append]
      refine List.pairwise_append.mpr ⟨hpw,by simp,fun x hx y hy=>?_⟩
      rw [List.map_singleton,List.mem_singleton] at hy
      rw [hy]
      have:=hmx x hx
      omega
     ·rw [take_snoc' hg,List.map_append]
      exact .inr (List.mem_append_right _ (by simp))
     ·rw [take_snoc' hg,List.map_append] at hx
      rcases List.mem_append.mp hx with h | h
      ·have:=hmx x h
       omega
      ·rw [List.map_singleton,List.mem_singleton] at h
       rw [h]
       exact Int.le_refl _
  ·rintro σ H2 ⟨least,s2,ht,hnd,hall,hpw,hle,hmx,u,v,rfl⟩
   rw [hlen,List.take_length] at hnd hall hpw
   have hne:∀ g∈nss,g≠[]:=fun g hg e=>by
    have:=hall g hg
    rw [e] at this
    cases this
   have:=kQ _ s2
   rw [show groupsOk nss q 2=true from by
    unfold groupsOk
    rw [show nss.all (grpOk q 2)=true from List.all_eq_true.mpr hall,show once nss=true from (once_iff nss).mpr hnd,Bool.true_and,Bool.true_and]
    exact (rising_iff _).mpr ((le_lt (heads_nodup hnd hne)).mp hpw)] at this
   exact this
inductive spLRoomI  (vs:List V) (H:Hp) (Q:VK) (E:XK):Prop
 | mk (lp ls l:Addr) (xp xs:List V) (ps:PP) (bs:List Int) (nss:List (List Int)) (c:Nat):(vs=[.ref lp,.ref ls,.int (c:Int),.ref l])→(H lp=some (.lst xp))→(PV H xp ps)→(LI H ls bs)→((∀ b∈bs,0≤b∧b < (ps.length:Int)))→(H l=some (.lst xs))→(LS H xs nss)→(nss.length≤60)→((∀ g∈nss,g.length≤1000))→(c≤60)→(∀ H',Same H H'→Q (.int (((freeB ps nss bs).length:Int)+(c:Int)*lessOne nss)) H')→spLRoomI  vs H Q E
def spLRoom  : Sp:=fun vs H Q E=>spLRoomI  vs H Q E
theorem scLRoom:FnScope ["pairs", "some", "crews", "huddles", "room", "huddle", "bridge", "inside"] ["pairs", "some", "crews", "huddles"] (defScope sLRoom):=⟨rfl,rfl,rfl,by decide +kernel,rfl,by decide +kernel,by decide +kernel⟩
theorem ok_lroom {f:Addr} {fd:FuncData} (T:Txt K mg CE CS CQ CT) (F:Fun K "_law_room" "_law_room" sLRoom f fd):FnOk P w K mg base CX0 1 f fd ["pairs", "some", "crews", "huddles"] spLRoom:=by
 refine F.ok scLRoom (fun vs H Q E h=>?_) (fun cdv A outer s H vs Q E hr h=>?_)
 ·obtain ⟨lp,ls,l,xp,xs,ps,bs,nss,c,rfl,_⟩:=h
  rfl
 ·obtain ⟨lp,ls,l,xp,xs,ps,bs,nss,c,rfl,hlp,hpv,hbs,hbr,hl,hls,hn60,hg1000,hc,kQ⟩:=h
  have hu:=hr.units
  have nd0:((["huddle"]:List Str)++(["bridge", "pairs"]:List Str)).Nodup:=by decide +kernel
  refine ⟨_,pss_cons (ps_set (i:=4) scLRoom.nd rfl (Or.inl rfl) pe_int)
   (pss_cons (ps_for PassesOwn.never rfl (pi_list (pv 3)) (pg_name (i:=5) scLRoom.nd rfl (Or.inl rfl))
    (pss_one (ps_set (i:=4) scLRoom.nd rfl (Or.inl rfl) (pe_op op_add (pv 4) (pe_op op_mul (pv 2) (pe_op op_sub (pe_callB c_len (by rfl) T.len PySem.boot_len (pa_cons (pv 5) pa_nil)) pe_int))))))
   (pss_cons (ps_for PassesOwn.never rfl (pi_list (pv 1)) (pg_name (i:=6) scLRoom.nd rfl (Or.inr rfl))
    (pss_cons (ps_comp (i:=7) (own:=["huddle"]) (caps:=["bridge", "pairs"]) (cs:=[6,0]) (sc:=defScope sLRoom) ⟨rfl,rfl,by decide +kernel,by decide +kernel,by decide +kernel,by decide +kernel,rfl⟩ rfl scLRoom.nd rfl rfl rfl
     (pi_list (pv 3)) (fun _ _ _ _ _=>pg_name (i:=0) nd0 rfl (Or.inl rfl) (.inr rfl))
     (fun _ _ _ _ _=>pf_one (pw_and (pt_cmpR op_in_seq (pe_ix ix_tup (pe_ix ix_list (pv 2) (pv 1) (fun _ _=>rfl)) pe_int (fun _ _=>rfl)) (pv 0) rfl) (pw_and1 (pt_cmpR op_in_seq (pe_ix ix_tup (pe_ix ix_list (pv 2) (pv 1) (fun _ _=>rfl)) pe_int (fun _ _=>rfl)) (pv 0) rfl))).pt) (fun _ _ _ _ _=>pv 0))
    (pss_one (ps_if (pt_cmpR (op_eqD hu) (pv 7) (pe_lst pa_nil) (nomark _)) (pss_one (ps_set (i:=4) scLRoom.nd rfl (Or.inl rfl) (pe_op op_add (pv 4) pe_int))) pss_nil))))
   (pss_one (ps_ret (pv 4))))),?_⟩
  try dsimp only [cx_of,cx_nox,cx_comp]
  have hxl:=hls.length
  have hpl:=hpv.length
  refine ⟨_,rfl,l,rfl,⟨_,SqL.of hl⟩,?_⟩
  refine for_list (K:=K) (a:=l) (xs:=xs) (fun i σ H1=>H1=H∧∃ u,σ=[some (.ref lp),some (.ref ls),some (.int (c:Int)),some (.ref l),some (.int ((c:Int)*lessOne (nss.take i))),u,none,none]) ⟨rfl,_,by rw [List.take_zero];show _=[_,_,_,_,some (V.int ((c:Int)*0)),_,_,_];rw [Int.mul_zero];rfl⟩ (fun i σ H1 _ ⟨e,_⟩=>by rw [e];exact SqL.of hl) ?_ ?_
  ·rintro i x σ H1 hi ⟨rfl,u,rfl⟩
   obtain ⟨g,hg,a,rfl,hag⟩:=hls.get hi
   refine ⟨_,rfl,_,rfl,_,rfl,a,_,rfl,.inl (SqL.of hag),_,_,rfl,rfl,_,_,rfl,rfl,.inl ⟨by omega,by omega⟩,_,_,rfl,rfl,rfl,some (.ref a),?_⟩
   have e:lessOne (nss.take (i+1))=lessOne (nss.take i)+((g.length:Int) - 1):=by
    unfold lessOne
    rw [take_snoc' hg,List.map_append,List.sum_append]
    simp
   rw [e,Int.mul_add,List.length_map]
   rfl
  rintro σ H1 ⟨rfl,u,rfl⟩
  rw [hxl,List.take_length]
  refine ⟨_,rfl,ls,rfl,⟨_,SqL.of hbs⟩,?_⟩
  refine for_list (K:=K) (a:=ls) (xs:=bs.map V.int) (fun i σ H2=>Same H1 H2∧∃ v z,σ=[some (.ref lp),some (.ref ls),some (.int (c:Int)),some (.ref l),some (.int (((freeB ps nss (bs.take i)).length:Int)+(c:Int)*lessOne nss)),u,v,z]) ⟨Same.rfl',_,_,by rw [List.take_zero];show _=[_,_,_,_,some (V.int ((0:Int)+(c:Int)*lessOne nss)),_,_,_];rw [Int.zero_add]⟩ (fun i σ H2 _ ⟨e,_⟩=>SqL.of (e _ _ hbs)) ?_ ?_
  ·rintro i x σ H2 hi ⟨s2,v,z,rfl⟩
   rw [List.getElem?_map] at hi
   obtain ⟨b,hb,rfl⟩:=Option.map_eq_some_iff.mp hi
   obtain ⟨hb0,hb1⟩:=hbr b (List.mem_of_getElem? hb)
   obtain ⟨t,hxt,ht⟩:=room_eb hpv hb0 hb1
   have hat:atI xp b=some (.ref t):=by
    have:=atI_nat (j:=b.toNat) hxt
    rwa [show ((b.toNat:Nat):Int)=b by omega] at this
   have ht1:=s2 _ _ ht
   have hlp1:=s2 _ _ hlp
   have hlg1:=s2 _ _ hl
   have hls1:=hls.same s2
   obtain ⟨p,hp⟩:∃ p,p=eb ps b:=⟨_,rfl⟩
   rw [← hp] at ht1
   refine ⟨_,rfl,l,rfl,⟨_,SqL.of hlg1⟩,fun D hD=>comp_ext (n:=nss.length) hD (fun j=>(((xs.zip nss).take j).filter fun z=>z.2.contains p.1 && z.2.contains p.2).map Prod.fst) rfl (fun j hj=>?_) (fun j H3 hj sm hD2=>?_) (fun H3 sm hD2=>?_)⟩
   ·rw [List.length_map]
    have:=List.length_filter_le (fun z:V × List Int=>z.2.contains p.1 && z.2.contains p.2) ((xs.zip nss).take j)
    rw [List.length_take] at this
    exact small1000 (by omega)
   ·obtain ⟨z,hz⟩:∃ z,xs[j]?=some z:=⟨_,List.getElem?_eq_getElem (by omega)⟩
    obtain ⟨g,hg,a,rfl,hag0⟩:=hls1.get hz
    have hag:LI H3 a g:=sm _ _ hag0
    have ht2:=sm _ _ ht1
    have hlp2:=sm _ _ hlp1
    refine ⟨⟨_,_,SqL.of (sm _ _ hlg1),hz⟩,fun K1 K2 k1 k2 x H' yy=>?_⟩
    obtain ⟨rfl,e⟩:=yy
    have ex':=e _ (SqL.of (sm _ _ hlg1))
    rw [hz] at ex'
    cases ex'
    have zt:=take_snoc' (zip_at hz hg)
    have kf:(g.contains p.1 && g.contains p.2)=false→K2 H':=fun hb=>k2 _ Same.rfl' (by rw [zt,List.filter_append,List.filter_cons,if_neg (by rw [hb];decide),List.filter_nil,List.append_nil])
    refine ⟨rfl,_,rfl,_,rfl,lp,_,_,_,rfl,rfl,SqL.of hlp2,hat,t,_,_,_,rfl,rfl,SqT.of ht2,atI_nat (j:=0) rfl,_,rfl,a,_,rfl,.inl (SqL.of hag),rfl,flat_ints _,_,rfl,?_⟩
    rw [show (if false=true then !inV (V.int p.1) (g.map V.int) else inV (V.int p.1) (g.map V.int))=g.contains p.1 from by rw [if_neg Bool.false_ne_true,inV_ints]]
    cases h1:g.contains p.1 with
    | false=>exact iteF (iteF (kf (by rw [h1];rfl)))
    | true=>
     refine iteT ⟨_,rfl,_,rfl,lp,_,_,_,rfl,rfl,SqL.of hlp2,hat,t,_,_,_,rfl,rfl,SqT.of ht2,atI_nat (j:=1) rfl,_,rfl,a,_,rfl,.inl (SqL.of hag),rfl,flat_ints _,_,rfl,?_⟩
     rw [show (if false=true then !inV (V.int p.2) (g.map V.int) else inV (V.int p.2) (g.map V.int))=g.contains p.2 from by rw [if_neg Bool.false_ne_true,inV_ints]]
     cases h2:g.contains p.2 with
     | false=>exact iteF (kf (by rw [h1,h2];rfl))
     | true=>exact iteT ⟨_,rfl,k1 _ _ Same.rfl' (by rw [zt,List.filter_append,List.filter_cons,if_pos (by show (g.contains p.1 && g.contains p.2)=true;rw [h1,h2];rfl),List.map_append];rfl)⟩
   ·refine ⟨⟨_,SqL.of (sm _ _ hlg1),by omega⟩,_,rfl,by show 0≤sizeLine;decide,fun e he=>?_⟩
    have u1:=Same.rfl'.new he (o:=.lst [])
    have he1:(upd H3 e (.lst [])) e=some (.lst []):=upd_same
    generalize upd H3 e (.lst [])=H4 at u1 he1
    have hD3:=u1 _ _ hD2
    rw [List.take_of_length_le (by rw [List.length_zip];omega)] at hD3
    refine ⟨_,_,den_lists hD3 (LS.sel (fun g=>g.contains p.1 && g.contains p.2) (hls1.same (sm.tr u1))),den_lists he1 .nil,sh_lists _,sh_lists _,_,rfl,?_⟩
    rw [eqv_nilL]
    have lies:(nss.filter fun g=>g.contains p.1 && g.contains p.2)=[]↔liesIn p nss=false:=by
     unfold liesIn
     rw [List.filter_eq_nil_iff,List.any_eq_false]
    have bt:=take_snoc' hb
    have s4:=(s2.tr sm).tr u1
    by_cases hl:liesIn p nss=false
    ·rw [decide_eq_true (lies.mpr hl)]
     refine iteT ⟨_,rfl,_,_,rfl,rfl,s4,some (.int b),some (.ref D),?_⟩
     have ef:((freeB ps nss (bs.take (i+1))).length:Int)=((freeB ps nss (bs.take i)).length:Int)+1:=by
      unfold freeB
      rw [bt,List.filter_append,List.filter_cons,if_pos (by unfold outB;rw [← hp,hl];rfl),List.length_append]
      rfl
     rw [ef,show ((freeB ps nss (bs.take i)).length:Int)+1+(c:Int)*lessOne nss=((freeB ps nss (bs.take i)).length:Int)+(c:Int)*lessOne nss+1 by omega]
     rfl
    ·rw [decide_eq_false fun z=>hl (lies.mp z)]
     refine iteF ⟨s4,some (.int b),some (.ref D),?_⟩
     have ef:(freeB ps nss (bs.take (i+1))).length=(freeB ps nss (bs.take i)).length:=by
      unfold freeB
      rw [bt,List.filter_append,List.filter_cons,if_neg (by unfold outB;rw [← hp,eq_true_of_ne_false hl];decide),List.filter_nil,List.append_nil]
     rw [ef]
     rfl
  ·rintro σ H2 ⟨s2,v,z,rfl⟩
   rw [List.length_map,List.take_length]
   exact ⟨_,rfl,kQ _ s2⟩
end
end K26
namespace K26
open PySem L2 XM
section
variable {P:Program} {w:World} {K:W.Frag} {mg:Str→Option Value} {base:Heap} {CE CS CQ CT:Addr}
def LvOk (ps:PP) (q:Int) (bs:List Int) (dss nss:List (List Int)):Prop:=DealOk ps dss∧groupsOk nss q 2=true∧((bs.filter fun b=>dss.flatten.contains b).length:Int)=((freeB ps nss bs).length:Int)+(dss.length:Int)*lessOne nss
structure LvIn (CT:Addr) (H:Hp) (p l2 ls ld l:Addr) (q:Int) (ys xd xs:List V) (ps:PP) (bs:List Int) (dss nss:List (List Int)):Prop where
 ht:TownAt CT H p l2 q ys
 hp:PV H ys ps
 hft:fits q ps=true
 hb:LI H ls bs
 b60:bs.length≤60
 hd:H ld=some (.lst xd)
 hds:LS H xd dss
 d60:dss.length≤60
 dg:∀ g∈dss,g.length≤100
 df:dss.flatten.length≤1000
 hl:H l=some (.lst xs)
 hls:LS H xs nss
 n60:nss.length≤60
 ng:∀ g∈nss,g.length≤1000
 nf:nss.flatten.length≤1000
theorem LvIn.same {H H':Hp} {CT p l2 ls ld l:Addr} {q:Int} {ys xd xs:List V} {ps:PP} {bs:List Int} {dss nss:List (List Int)} (h:LvIn CT H p l2 ls ld l q ys xd xs ps bs dss nss) (s:Same H H'):LvIn CT H' p l2 ls ld l q ys xd xs ps bs dss nss:=
 ⟨h.ht.same s,h.hp.same s,h.hft,s _ _ h.hb,h.b60,s _ _ h.hd,h.hds.same s,h.d60,h.dg,h.df,s _ _ h.hl,h.hls.same s,h.n60,h.ng,h.nf⟩
inductive spLevelI (CT CS:Addr) (vs:List V) (H:Hp) (Q:VK) (E:XK):Prop
 | mk (p l2 ls ld l:Addr) (q:Int) (ys xd xs:List V) (ps:PP) (bs:List Int) (dss nss:List (List Int)):(vs=[.ref p,.ref ls,.ref ld,.ref l])→(LvIn CT H p l2 ls ld l q ys xd xs ps bs dss nss)→((risesB bs ps.length=true→∀ (H':Hp) (r:Bool),Same H H'→(r=true↔LvOk ps q bs dss nss)→Q (.bl r) H'))→((risesB bs ps.length=false→∀ H',Same H H'→E (.ref CS) none H'))→spLevelI CT CS vs H Q E
def spLevel (CT CS:Addr):Sp:=fun vs H Q E=>spLevelI CT CS vs H Q E
theorem scLevel:FnScope ["town", "some", "dealing", "huddles"] ["town", "some", "dealing", "huddles"] (defScope sLevel):=⟨rfl,rfl,rfl,by decide +kernel,rfl,by decide +kernel,by decide +kernel⟩
theorem ok_level {f f1 f2:Addr} {fd fd1 fd2:FuncData} (T:Txt K mg CE CS CQ CT) (F:Fun K "level_shows" "level_shows" sLevel f fd)
  (G1:FnOk P w K mg base (CXE P w) 3 f1 fd1 ["some", "bridges"] (spCheckS CS)) (b1:Binds K fd1 ["some", "bridges"] []) (m1:mg "check_some" = some (.ref f1)) (k1:W.keepIn K (.ref f1)=true)
  (G2:FnOk P w K mg base CX0 6 f2 fd2 ["town", "some", "dealing", "huddles"] (spTakes CT)) (b2:Binds K fd2 ["town", "some", "dealing", "huddles"] []) (m2:mg "takes_most_of" = some (.ref f2)) (k2:W.keepIn K (.ref f2)=true) :
  FnOk P w K mg base (CXE P w) 7 f fd ["town", "some", "dealing", "huddles"] (spLevel CT CS):=by
 refine F.okE scLevel (fun vs H Q E h=>?_) (fun cdv A outer s H vs Q E hr h=>?_)
 ·obtain ⟨p,l2,ls,ld,l,q,ys,xd,xs,ps,bs,dss,nss,rfl,_⟩:=h
  rfl
 ·obtain ⟨p,l2,ls,ld,l,q,ys,xd,xs,ps,bs,dss,nss,rfl,I,kQ,kE⟩:=h
  have lets:=lets_cx (P:=P) (w:=w) (K:=K) (mg:=mg) (base:=base) (N:=["town", "some", "dealing", "huddles"]) (qual := "level_shows") (scope:=defScope sLevel) (f:=f) (cd:=cdv) (A:=A) (outer:=outer) (s:=s) (H:=H) (E:=E)
  have r3:=hr.mono (show 3≤6 by omega)
  refine ⟨_,pss_cons (ps_expr (pe_call G1 r3 (by rfl) m1 k1 b1 .nil lets.pass (pa_cons (pv 1) (pa_cons (pe_fld (pv 0) rfl) pa_nil))))
   (pss_one (ps_ret (pe_call G2 hr (by rfl) m2 k2 b2 .nil pass0 (pa_cons (pv 0) (pa_cons (pv 1) (pa_cons (pv 2) (pa_cons (pv 3) pa_nil))))))),?_⟩
  try dsimp only [cx_of,cx_nox,cx_comp]
  obtain ⟨dx,htw⟩:=I.ht.1
  have hpl:=I.hp.length
  refine ⟨_,rfl,_,rfl,p,CT,dx,_,_,rfl,htw,T.cl,T.nb,flds_b _ _,ls,l2,bs,ys,rfl,I.hb,I.ht.2,Nat.le_trans I.b60 (by omega),fun hb H1 s1=>?_,fun hb H' s'=>kE (by rw [← hpl];exact hb) H' s'⟩
  rw [hpl] at hb
  have J:=I.same s1
  obtain ⟨hb1,hb2⟩:=risesB_iff.mp hb
  exact ⟨_,rfl,_,rfl,_,rfl,_,rfl,p,l2,ls,ld,l,q,ys,xd,xs,ps,bs,dss,nss,rfl,J.ht,J.hp,J.hft,J.hb,J.b60,hb1.imp fun h=>by omega,hb2,J.hd,J.hds,J.d60,J.dg,J.df,J.hl,J.hls,J.n60,J.ng,J.nf,fun H' r s' hr'=>kQ hb H' r (s1.tr s') hr'⟩
inductive spCalledI (x:Str) (vs:List V) (H:Hp) (Q:VK) (E:XK):Prop
 | mk (v:_):(vs=[v])→(Q (.str x) H)→spCalledI x vs H Q E
def spCalled (x:Str):Sp:=fun vs H Q E=>spCalledI x vs H Q E
theorem scCalledS:FnScope ["self"] ["self"] (defScope sCalledS):=⟨rfl,rfl,rfl,by decide +kernel,rfl,by decide +kernel,by decide +kernel⟩
theorem ok_calledS {f:Addr} {fd:FuncData} (F:Fun K "called" "BadSome.called" sCalledS f fd):FnOk P w K mg base CX0 1 f fd ["self"] (spCalled "BadSome"):=by
 refine F.ok scCalledS (fun vs H Q E h=>?_) (fun cdv A outer s H vs Q E hr h=>?_)
 ·obtain ⟨v,rfl,_⟩:=h
  rfl
 ·obtain ⟨v,rfl,k⟩:=h
  exact ⟨_,pss_one (ps_ret pe_str),k⟩
inductive spRefusedI (CT:Addr) (vs:List V) (H:Hp) (Q:VK) (E:XK):Prop
 | mk (p l2 ls ld l:Addr) (q:Int) (ys xd xs:List V) (ps:PP) (bs:List Int) (dss nss:List (List Int)):(vs=[.ref p,.ref ls,.ref ld,.ref l])→(LvIn CT H p l2 ls ld l q ys xd xs ps bs dss nss)→((risesB bs ps.length=true→∀ (H':Hp) (t:Addr) (r:Bool),Same H H'→H' t=some (.tup [.bl false,.bl r])→(r=true↔LvOk ps q bs dss nss)→Q (.ref t) H'))→((risesB bs ps.length=false→∀ (H':Hp) (t:Addr),Same H H'→H' t=some (.tup [.bl true,.non])→Q (.ref t) H'))→spRefusedI CT vs H Q E
def spRefused (CT:Addr):Sp:=fun vs H Q E=>spRefusedI CT vs H Q E
theorem scRefused:FnScope ["town", "some", "dealing", "huddles", "caught", "found", "e", "good"] ["town", "some", "dealing", "huddles"] (defScope sRefused):=⟨rfl,rfl,rfl,by decide +kernel,rfl,by decide +kernel,by decide +kernel⟩
theorem ok_refused {f f1 f2:Addr} {fd fd1 fd2:FuncData} (T:Txt K mg CE CS CQ CT) (F:Fun K "_law_refused" "_law_refused" sRefused f fd)
  (G1:FnOk P w K mg base CX0 1 f1 fd1 ["self"] (spCalled "BadSome")) (b1:Binds K fd1 ["self"] []) (hf1:W.findIn K (.ref CS) "called" = some (some (.ref f1))) (ht1:W.isFn K (.ref f1)=true) (k1:W.keepIn K (.ref f1)=true)
  (G2:FnOk P w K mg base (CXE P w) 7 f2 fd2 ["town", "some", "dealing", "huddles"] (spLevel CT CS)) (b2:Binds K fd2 ["town", "some", "dealing", "huddles"] []) (m2:mg "level_shows" = some (.ref f2)) (k2:W.keepIn K (.ref f2)=true) :
  FnOk P w K mg base CX0 8 f fd ["town", "some", "dealing", "huddles"] (spRefused CT):=by
 refine F.ok scRefused (fun vs H Q E h=>?_) (fun cdv A outer s H vs Q E hr h=>?_)
 ·obtain ⟨p,l2,ls,ld,l,q,ys,xd,xs,ps,bs,dss,nss,rfl,_⟩:=h
  rfl
 ·obtain ⟨p,l2,ls,ld,l,q,ys,xd,xs,ps,bs,dss,nss,rfl,I,kQ,kE⟩:=h
  have r1:=hr.mono (show 1≤7 by omega)
  obtain ⟨ca,cb,ga,gb,f2k⟩:=T.two
  refine ⟨_,pss_cons (ps_set (i:=4) scRefused.nd rfl (Or.inl rfl) pe_non)
   (pss_cons (ps_set (i:=5) scRefused.nd rfl (Or.inl rfl) pe_non)
   (pss_cons (ps_try (i:=6) rfl rfl rfl (fun pn σ₀ E=>pss_one (ps_set (i:=5) scRefused.nd rfl (Or.inl rfl) (pe_callAt G2 hr (by rfl) m2 k2 b2 .nil passTry (pa_cons (pv 0) (pa_cons (pv 1) (pa_cons (pv 2) (pa_cons (pv 3) pa_nil)))))))
    (fun v=>pss_one (ps_set (i:=4) scRefused.nd rfl (Or.inl rfl) (pv 6))) scRefused.nd rfl rfl (by rfl) T.mgCE T.nmE)
   (pss_cons (ps_if (pt_cmp (pc_isN (pv 4))) (pss_one (ps_ret (pe_tup (pa_cons pe_bl (pa_cons (pv 5) pa_nil))))) pss_nil)
   (pss_cons (ps_set (i:=7) scRefused.nd rfl (Or.inl rfl) (pe_and (pe_callB call_isiE (by rfl) T.isi boot_isi (pa_cons (pv 4) (pa_cons (pe_glob (v:=.ref CS) (by rfl) T.mgBS (by rfl)) pa_nil))) (pe_one (pe_callB call_isiE (by rfl) T.isi boot_isi (pa_cons (pv 4) (pa_cons (pe_bltn (v:=.ty "ValueError") (by rfl) T.verr boot_verr (by rfl)) pa_nil))))))
   (pss_one (ps_ret (pe_tup (pa_cons (pe_and (pv 7) (pe_and (pe_not (pe_callB call_isiET (by rfl) T.isi boot_isi (pa_cons (pv 4) (pa_cons (pe_tup (pa_cons (pe_glob (v:=.ref ca) (by rfl) ga (by rfl)) (pa_cons (pe_glob (v:=.ref cb) (by rfl) gb (by rfl)) pa_nil))) pa_nil)))) (pe_one (pe_cmpR op_eq (pe_methE0 (pv 4) T.askS hf1 ht1 k1 G1 r1 b1 .nil pass0) pe_str (nomark _))))) (pa_cons pe_non pa_nil))))))))),?_⟩
  try dsimp only [cx_of,cx_nox,cx_comp]
  refine ⟨rfl,_,rfl,_,rfl,_,rfl,_,rfl,p,l2,ls,ld,l,q,ys,xd,xs,ps,bs,dss,nss,rfl,I,fun hb H1 r s1 hr1=>?_,fun hb H1 s1=>?_⟩
  ·refine ⟨_,rfl,_,rfl,?_⟩
   refine iteT ⟨_,rfl,by show 2≤sizeLine;decide,fun t ht=>?_⟩
   exact kQ hb _ t r (s1.tr (Same.rfl'.new ht)) upd_same hr1
  ·refine ⟨CS,rfl,T.subS,fun e he=>⟨_,rfl,?_⟩⟩
   have t1:Same H1 (upd H1 e (excO e (.ref CS))):=Same.rfl'.new he
   have he1:(upd H1 e (excO e (.ref CS))) e=some (excO e (.ref CS)):=upd_same
   generalize upd H1 e (excO e (.ref CS))=H2 at t1 he1
   refine ⟨_,rfl,_,rfl,?_⟩
   rw [show decide (V.ref e=V.non)=false from rfl]
   refine iteF ⟨_,rfl,e,CS,_,_,_,rfl,rfl,he1,T.askS,kit_same _,_,rfl,?_⟩
   refine iteT ⟨_,rfl,e,CS,_,_,_,rfl,rfl,he1,T.askS,T.sV,?_⟩
   refine ⟨_,rfl,_,rfl,?_⟩
   refine iteT ⟨_,rfl,by show 2≤sizeLine;decide,fun t4 ht4=>?_⟩
   have u4:Same H2 (upd H2 t4 (.tup [.ref ca,.ref cb])):=Same.rfl'.new ht4
   have ht4v:(upd H2 t4 (.tup [.ref ca,.ref cb])) t4=some (.tup [.ref ca,.ref cb]):=upd_same
   have he4:=u4 _ _ he1
   generalize upd H2 t4 (.tup [.ref ca,.ref cb])=H4 at u4 he4 ht4v
   refine ⟨e,CS,t4,_,[.ref ca,.ref cb],false,rfl,ht4v,.cons rfl (.cons rfl .nil),he4,T.askS,f2k,_,rfl,_,rfl,?_⟩
   refine iteT ⟨_,rfl,e,rfl,he4,_,rfl,rfl,?_⟩
   refine ⟨by show 2≤sizeLine;decide,fun t ht=>?_⟩
   exact kE hb _ t ((s1.tr t1).tr (u4.tr (Same.rfl'.new ht))) upd_same
end
end K26
namespace K26
open PySem L2 XM
def Itm (H:Hp) (k:Nat) (x:V):Prop:=∃ a g,x=.ref a∧LI H a g∧g.length≤k
theorem itm_ls {H:Hp} {k:Nat}:∀ {zs:List V},(∀ x∈zs,Itm H k x)→∃ hss,LS H zs hss∧∀ g∈hss,g.length≤k
 | [],_=>⟨[],.nil,fun g hg=>by simp at hg⟩
 | x::r,h=>by
  obtain ⟨hss,h1,h2⟩:=itm_ls fun y hy=>h y (List.mem_cons_of_mem _ hy)
  obtain ⟨a,g,e,hg,hl⟩:=h x List.mem_cons_self
  refine ⟨g::hss,.cons ⟨a,e,hg⟩ h1,fun g' hg'=>?_⟩
  rcases List.mem_cons.mp hg' with z | z
  ·rw [z]
   exact hl
  ·exact h2 g' z
theorem flat_le {k:Nat}:∀ {hss:List (List Int)},(∀ g∈hss,g.length≤k)→hss.flatten.length≤hss.length*k
 | [],_=>by simp
 | g::r,h=>by
  have h1:=h g List.mem_cons_self
  have h2:=flat_le fun g hg=>h g (List.mem_cons_of_mem _ hg)
  rw [List.flatten_cons,List.length_append,List.length_cons,Nat.succ_mul]
  omega
theorem mem_sel {zs:List V} {l:List Nat} (hl:l.Perm (List.range zs.length)) {x:V} (hx:x∈l.map fun i=>zs.getD i .non):x∈zs:=by
 obtain ⟨i,hi,rfl⟩:=List.mem_map.mp hx
 have hi:=List.mem_range.mp (hl.mem_iff.mp hi)
 rw [List.getD_eq_getElem?_getD,List.getElem?_eq_getElem hi]
 exact List.getElem_mem hi
section
variable {P:Program} {w:World} {K:W.Frag} {mg:Str→Option Value} {base:Heap} {CE CS CQ CT:Addr}
theorem itm_sorted {H:Hp} {k:Nat} {zs:List V} (h:∀ x∈zs,Itm H k x):∃ nss:List (List Int),zs.length=nss.length∧∀ (i:Nat) z ns,zs[i]?=some z→nss[i]?=some ns→∃ a,z=.ref a∧SqL K H a (ns.map V.int):=by
 obtain ⟨hss,h1,_⟩:=itm_ls h
 refine ⟨hss,h1.length,fun i z ns hz hn=>?_⟩
 obtain ⟨g,hg,a,rfl,ha⟩:=h1.get hz
 rw [hn] at hg
 cases hg
 exact ⟨a,rfl,SqL.of ha⟩
end
section
variable {P:Program} {w:World} {K:W.Frag} {mg:Str→Option Value} {base:Heap} {CE CS CQ CT:Addr}
def HI (H:Hp) (x:V):Prop:=∃ a g,x=.ref a∧LI H a g∧1≤g.length∧g.length≤24
inductive spDealtByI  (vs:List V) (H:Hp) (Q:VK) (E:XK):Prop
 | mk (lp dn:Addr) (xs:List V) (ps:PP) (q:Int) (cs:List Int) (cr:Nat):(vs=[.int q,.ref lp,.ref dn,.int (cr:Int)])→(H lp=some (.lst xs))→(PV H xs ps)→(fits q ps=true)→(ps.length≤20)→(LI H dn cs)→(cs.length=63)→(cr≤60)→(∀ (H':Hp) (l:Addr) (as:List Addr) (nss:List (List Int)),LM H H' l as nss→H l=none→nss.length=cr→nss.flatten.length≤20→Q (.ref l) H')→spDealtByI  vs H Q E
def spDealtBy  : Sp:=fun vs H Q E=>spDealtByI  vs H Q E
theorem scDealtBy:FnScope ["quarters", "pairs", "numbers", "crews", "held", "bridge", "crew"] ["quarters", "pairs", "numbers", "crews"] (defScope sDealtBy):=⟨rfl,rfl,rfl,by decide +kernel,rfl,by decide +kernel,by decide +kernel⟩
theorem ok_dealtBy {f f1:Addr} {fd fd1:FuncData} (T:Txt K mg CE CS CQ CT) (F:Fun K "_law_dealt_by" "_law_dealt_by" sDealtBy f fd)
  (G1:FnOk P w K mg base CX0 1 f1 fd1 ["quarters", "pairs", "held"] spRingless) (b1:Binds K fd1 ["quarters", "pairs", "held"] []) (m1:mg "_law_ringless" = some (.ref f1)) (k1:W.keepIn K (.ref f1)=true) :
  FnOk P w K mg base CX0 2 f fd ["quarters", "pairs", "numbers", "crews"] spDealtBy:=by
 refine F.ok scDealtBy (fun vs H Q E h=>?_) (fun cdv A outer s H vs Q E hr h=>?_)
 ·obtain ⟨lp,dn,xs,ps,q,cs,cr,rfl,_⟩:=h
  rfl
 ·obtain ⟨lp,dn,xs,ps,q,cs,cr,rfl,hlp,hpv,hft,hp20,hdn,hcl,hcr2,kQ⟩:=h
  have nd0:((["crew"]:List Str)++([]:List Str)).Nodup:=by decide +kernel
  refine ⟨_,pss_cons (ps_comp (i:=4) (own:=["crew"]) (caps:=[]) (cs:=[]) (sc:=defScope sDealtBy) ⟨rfl,rfl,by decide +kernel,by decide +kernel,by decide +kernel,by decide +kernel,rfl⟩ rfl scDealtBy.nd rfl rfl rfl
    (pi_range1 (by rfl) T.range (pa_cons (pv 3) pa_nil)) (fun _ _ _ _ _=>pg_name (i:=0) nd0 rfl (Or.inl rfl) (.inr rfl)) (fun _ _ _ _ _=>pf_nil) (fun _ _ _ _ _=>pe_lst pa_nil))
   (pss_cons (ps_for PassesOwn.never rfl (pi_range1 (by rfl) T.range (pa_cons (pe_callB c_len (by rfl) T.len PySem.boot_len (pa_cons (pv 1) pa_nil)) pa_nil)) (pg_name (i:=5) scDealtBy.nd rfl (Or.inl rfl))
    (pss_cons (ps_set (i:=6) scDealtBy.nd rfl (Or.inl rfl) (pe_op op_mod (pe_op op_fdiv (pe_ix ix_list (pv 2) (pe_op op_sub pe_int (pv 5)) (fun _ _=>rfl)) pe_int) (pe_op op_add (pv 3) pe_int)))
    (pss_one (ps_if (pw_and (pt_cmpR op_lt (pv 6) (pv 3) (nomark _)) (pw_and1 (pt_val (pe_call G1 hr (by rfl) m1 k1 b1 .nil pass0 (pa_cons (pv 0) (pa_cons (pv 1) (pa_cons (pe_op op_cat (pe_ix ix_list (pv 4) (pv 6) (fun _ _=>rfl)) (pe_lst (pa_cons (pv 5) pa_nil))) pa_nil))))))).pt
      (pss_one (ps_expr (pe_bm PySem.F.plainAttrs_list PySem.F.slot_list_append PySem.F.type_list_append mt_append (pe_ix ix_list (pv 4) (pv 6) (fun _ _=>rfl)) (pa_cons (pv 5) pa_nil)))) pss_nil))))
   (pss_one (ps_ret (pv 4)))),?_⟩
  try dsimp only [cx_of,cx_nox,cx_comp]
  obtain ⟨⟨hq1,hq2⟩,h60,hok⟩:=fits_iff hft
  have hlen:=hpv.length
  refine ⟨_,rfl,(cr:Int),rfl,by omega,by omega,fun la hla=>?_⟩
  refine comp_gen (n:=((cr:Int)).toNat) (fun i ys H2=>∃ as,ys=as.map V.ref∧as.length=i∧Same H H2∧H2 la=some (.lst ys)∧(∀ a∈as,H2 a=some (.lst [])∧H a=none∧a≠la)∧as.Nodup) ⟨[],rfl,rfl,Same.rfl'.new hla,upd_same,fun a ha=>by simp at ha,by simp⟩ (fun i ys H2 hi hv=>?_) (fun i ys H2 hi hv=>?_) (fun ys H1 hv=>?_)
  ·obtain ⟨as,rfl,hl,_⟩:=hv
   rw [List.length_map,hl]
   exact small1000 (by omega)
  ·obtain ⟨as,rfl,hl,s2,hl2,hfr,hnd⟩:=hv
   refine ⟨hi,fun K1 k1 y H' yy=>?_⟩
   obtain ⟨rfl,rfl⟩:=yy
   refine ⟨rfl,by show 0≤sizeLine;decide,fun t ht=>k1 _ _ ((Same.rfl'.new ht) _ _ hl2) ⟨as++[t],by rw [List.map_append];rfl,by rw [List.length_append,hl];rfl,?_,upd_same,fun a ha=>?_,?_⟩⟩
   ·exact (s2.tr (Same.rfl'.new ht)).new hla
   ·have nt:t≠la:=Ne.symm (ne_of_none hl2 ht)
    rcases List.mem_append.mp ha with ha | ha
    ·obtain ⟨f0,f1,f2⟩:=hfr a ha
     refine ⟨?_,f1,f2⟩
     rw [upd_ne f2]
     exact (Same.rfl'.new ht) _ _ f0
    ·rw [List.mem_singleton] at ha
     subst ha
     exact ⟨by rw [upd_ne nt];exact upd_same,s2.free ht,nt⟩
   ·refine List.nodup_append.mpr ⟨hnd,by simp,fun a ha b hb e=>?_⟩
    rw [List.mem_singleton] at hb
    subst hb
    subst e
    have:=(hfr a ha).1
    rw [ht] at this
    cases this
  obtain ⟨as,rfl,hl,s1,hl1,hfr,hnd⟩:=hv
  refine ⟨Nat.le_refl _,?_⟩
  have ecr:((cr:Int)).toNat=cr:=by omega
  have M0:LM H H1 la as (List.replicate cr []):=by
   refine ⟨s1,hl1,by rw [hl,List.length_replicate];omega,fun k a g h1 h2=>?_,fun a ha=>(hfr a ha).2,hnd⟩
   rw [List.getElem?_replicate] at h2
   split at h2
   ·cases h2
    exact (hfr a (List.mem_of_getElem? h1)).1
   ·cases h2
  refine ⟨_,rfl,lp,xs,rfl,.inl (SqL.of (s1 _ _ hlp)),(xs.length:Int),rfl,by omega,by omega,for_range (lo:=0) (n:=((xs.length:Int)).toNat) (fun i σ H2=>(∃ nss,LM H H2 la as nss∧nss.length=cr∧nss.flatten.length≤i∧∀ g∈nss,∀ b∈g,0≤b∧b < (i:Int))∧∃ u v,σ=[some (.int q),some (.ref lp),some (.ref dn),some (.int (cr:Int)),some (.ref la),u,v])
   ⟨⟨_,M0,by simp,by simp,fun g hg b hb=>by rw [List.eq_of_mem_replicate hg] at hb;simp at hb⟩,_,_,rfl⟩ ?_ ?_⟩
  ·rintro i σ H2 hi ⟨⟨nss,M,hnl,hfl,hrg⟩,u,v,rfl⟩
   have e0:(0:Int)+(i:Int)=(i:Int):=by omega
   rw [e0]
   have hi20:i < 20:=by omega
   have g62:atI (cs.map V.int) ((62:Int) - (i:Int))=some (.int (cs[62 - i]'(by omega))):=by
    rw [show (62:Int) - (i:Int)=((62 - i:Nat):Int) by omega]
    exact atI_nat (by rw [List.getElem?_map,List.getElem?_eq_getElem (by omega)];rfl)
   refine ⟨_,rfl,_,rfl,_,_,rfl,rfl,dn,_,_,_,rfl,rfl,SqL.of (M.same _ _ hdn),g62,_,_,rfl,rfl,⟨by decide,by decide⟩,_,rfl,_,_,rfl,rfl,_,_,rfl,rfl,(by show (0:Int) < (cr:Int)+1;omega),?_⟩
   obtain ⟨k,hk⟩:∃ k:Nat,(cs[62 - i]'(by omega)) / 5 % ((cr:Int)+1)=(k:Int):=⟨((cs[62 - i]'(by omega)) / 5 % ((cr:Int)+1)).toNat,(Int.toNat_of_nonneg (Int.emod_nonneg _ (by omega))).symm⟩
   show gName 6 (V.int ((cs[62 - i]'(by omega)) / 5 % ((cr:Int)+1))) _ _ _
   rw [hk]
   have no:∀ H3,Same H2 H3→∃ nss',LM H H3 la as nss'∧nss'.length=cr∧nss'.flatten.length≤i+1∧∀ g∈nss',∀ b∈g,0≤b∧b < ((i+1:Nat):Int):=fun H3 s3=>
    ⟨nss,M.same2 s3,hnl,by omega,fun g hg b hb=>by have:=hrg g hg b hb;omega⟩
   refine ⟨_,rfl,_,rfl,_,_,rfl,rfl,_,rfl,?_⟩
   by_cases hkc:(k:Int) < (cr:Int)
   rotate_left
   ·rw [decide_eq_false hkc]
    exact iteF (iteF ⟨no _ Same.rfl',_,_,rfl⟩)
   rw [decide_eq_true hkc]
   have hkl:k < nss.length:=by omega
   obtain ⟨a,hak⟩:∃ a,as[k]?=some a:=⟨_,List.getElem?_eq_getElem (by rw [M.len];exact hkl)⟩
   obtain ⟨g,hgk⟩:∃ g,nss[k]?=some g:=⟨_,List.getElem?_eq_getElem hkl⟩
   have hgm:=List.mem_of_getElem? hgk
   have hgl:=len_le_flat hgm
   have hix:atI (as.map V.ref) (k:Int)=some (.ref a):=atI_nat (by rw [List.getElem?_map,hak];rfl)
   have yes:∀ H3,Same H2 H3→∃ nss',LM H (upd H3 a (.lst (g.map V.int++[V.int (i:Int)]))) la as nss'∧nss'.length=cr∧nss'.flatten.length≤i+1∧∀ g∈nss',∀ b∈g,0≤b∧b < ((i+1:Nat):Int):=fun H3 s3=>by
    refine ⟨_,(M.same2 s3).push (b:=(i:Int)) hak hgk,by rw [List.length_set];exact hnl,?_,fun g' hg' b hb=>?_⟩
    ·have:=flat_len_set nss k g (g++[(i:Int)]) hgk
     rw [List.length_append,List.length_singleton] at this
     omega
    ·rcases List.mem_or_eq_of_mem_set hg' with h | h
     ·have:=hrg g' h b hb
      omega
     ·rw [h] at hb
      rcases List.mem_append.mp hb with h | h
      ·have:=hrg g hgm b h
       omega
      ·rw [List.mem_singleton] at h
       omega
   have ha2:LI H2 a g:=M.ls k a g hak hgk
   refine iteT ⟨_,rfl,_,rfl,_,rfl,_,rfl,la,_,_,_,rfl,rfl,SqL.of M.hl,hix,_,rfl,by show 1≤sizeLine;decide,fun p1 hp1=>⟨a,p1,_,_,rfl,rfl,by rw [upd_ne (ne_of_none ha2 hp1)];exact ha2,upd_same,?_,fun p2 hp2=>?_⟩⟩
   ·rw [List.length_map]
    exact Nat.le_of_lt (small1000 (by show g.length+1≤1000;omega))
   have t2:Same H2 (upd (upd H2 p1 (.lst [V.int (i:Int)])) p2 (.lst (g.map V.int++[V.int (i:Int)]))):=(Same.rfl'.new hp1).tr (Same.rfl'.new hp2)
   refine ⟨lp,p2,xs,ps,q,g++[(i:Int)],rfl,(M.same.tr t2) _ _ hlp,hpv.same (M.same.tr t2),hok,by omega,hq2,by rw [LI,upd_same,List.map_append];rfl,fun b hb=>?_,fun H4 r s4 _=>⟨_,rfl,?_⟩⟩
   ·rcases List.mem_append.mp hb with h | h
    ·have:=hrg g hgm b h
     omega
    ·rw [List.mem_singleton] at h
     omega
   have t3:=t2.tr s4
   cases r with
   | true=>
    have la3:=t3 _ _ M.hl
    have ha3:LI H4 a g:=t3 _ _ ha2
    refine iteT ⟨_,rfl,_,rfl,la,_,_,_,rfl,rfl,SqL.of la3,hix,.inl ⟨rfl,_,SqL.of ha3⟩,_,rfl,a,_,_,rfl,rfl,ha3,by rw [List.length_map];exact small1000 (by omega),?_⟩
    exact ⟨yes _ t3,_,_,rfl⟩
   | false=>exact iteF ⟨no _ t3,_,_,rfl⟩
  ·rintro σ H2 ⟨⟨nss,M,hnl,hfl,hrg⟩,u,v,rfl⟩
   exact ⟨_,rfl,kQ H2 la as nss M hla hnl (by omega)⟩
inductive spHudByI  (vs:List V) (H:Hp) (Q:VK) (E:XK):Prop
 | mk (dn:Addr) (q:Int) (cs:List Int):(vs=[.int q,.ref dn])→(0≤q)→(q≤24)→(LI H dn cs)→(cs.length=63)→(∀ (H':Hp) (d:Addr) (zs:List V),Same H H'→H' d=some (.lst zs)→zs.length≤3→(∀ x∈zs,HI H' x)→Q (.ref d) H')→spHudByI  vs H Q E
def spHudBy  : Sp:=fun vs H Q E=>spHudByI  vs H Q E
theorem scHudBy:FnScope ["quarters", "numbers", "marks", "huddles", "mark", "huddle"] ["quarters", "numbers"] (defScope sHuddledBy):=⟨rfl,rfl,rfl,by decide +kernel,rfl,by decide +kernel,by decide +kernel⟩
theorem ok_hudBy {f:Addr} {fd:FuncData} (T:Txt K mg CE CS CQ CT) (F:Fun K "_law_huddled_by" "_law_huddled_by" sHuddledBy f fd):FnOk P w K mg base CX0 1 f fd ["quarters", "numbers"] spHudBy:=by
 refine F.ok scHudBy (fun vs H Q E h=>?_) (fun cdv A outer s H vs Q E hr h=>?_)
 ·obtain ⟨dn,q,cs,rfl,_⟩:=h
  rfl
 ·obtain ⟨dn,q,cs,rfl,hq0,hq24,hdn,hcl,kQ⟩:=h
  have hu:=hr.units
  have nd1:((["quarter"]:List Str)++(["numbers"]:List Str)).Nodup:=by decide +kernel
  have nd0:((["quarter"]:List Str)++(["mark", "marks"]:List Str)).Nodup:=by decide +kernel
  refine ⟨_,pss_cons (ps_set (i:=2) scHudBy.nd rfl (Or.inr rfl) (pe_comp (own:=["quarter"]) (caps:=["numbers"]) (cs:=[1]) (sc:=defScope sHuddledBy) ⟨rfl,rfl,by decide +kernel,by decide +kernel,by decide +kernel,by decide +kernel,rfl⟩ rfl
    (pi_range1 (by rfl) T.range (pa_cons (pv 0) pa_nil)) (fun _ _ _ _ _=>pg_name (i:=0) nd1 rfl (Or.inl rfl) (.inr rfl)) (fun _ _ _ _ _=>pf_nil) (fun _ _ _ _ _=>pe_op op_mod (pe_op op_fdiv (pe_ix ix_list (pv 1) (pe_op op_add pe_int (pv 0)) (fun _ _=>rfl)) pe_int) pe_int)))
   (pss_cons (ps_set (i:=3) scHudBy.nd rfl (Or.inl rfl) (pe_lst pa_nil))
   (pss_cons (ps_for PassesOwn.never rfl (pi_range1 (by rfl) T.range (pa_cons pe_int pa_nil)) (pg_name (i:=4) scHudBy.nd rfl (Or.inr rfl))
    (pss_cons (ps_comp (i:=5) (own:=["quarter"]) (caps:=["mark", "marks"]) (cs:=[4,2]) (sc:=defScope sHuddledBy) ⟨rfl,rfl,by decide +kernel,by decide +kernel,by decide +kernel,by decide +kernel,rfl⟩ rfl scHudBy.nd rfl rfl rfl
     (pi_range1 (by rfl) T.range (pa_cons (pv 0) pa_nil)) (fun _ _ _ _ _=>pg_name (i:=0) nd0 rfl (Or.inl rfl) (.inr rfl))
     (fun _ _ _ _ _=>pf_one (pt_cmpR op_eq (pe_ix ix_list (pv 2) (pv 0) (fun _ _=>rfl)) (pv 1) (nomark _))) (fun _ _ _ _ _=>pv 0))
    (pss_one (ps_if (pt_cmpR op_gt (pe_callB c_len (by rfl) T.len PySem.boot_len (pa_cons (pv 5) pa_nil)) pe_int (nomark _))
     (pss_one (ps_expr (pe_bm PySem.F.plainAttrs_list PySem.F.slot_list_append PySem.F.type_list_append mt_append (pv 3) (pa_cons (pv 5) pa_nil)))) pss_nil))))
   (pss_one (ps_ret (pe_callB (c_sortL hu) (by rfl) T.sorted boot_sorted (pa_cons (pv 3) pa_nil)))))),?_⟩
  try dsimp only [cx_of,cx_nox,cx_comp]
  obtain ⟨n,rfl⟩:∃ n:Nat,q=(n:Int):=⟨q.toNat,by omega⟩
  have en:((n:Int)).toNat=n:=by omega
  refine ⟨_,rfl,(n:Int),rfl,by omega,by omega,fun ma hma=>comp_ext0 (n:=n) hma (fun i=>((List.range i).map fun k=>(cs.getD (30+k) 0) / 11 % 4).map V.int) rfl (fun i hi=>?_) (fun i H1 hi sm hD1=>?_) (fun H1 s1 hm1=>?_)⟩
  ·rw [List.length_map,List.length_map,List.length_range]
   exact small1000 (by omega)
  ·refine ⟨by show i < ((n:Int)).toNat;omega,fun K1 k1 y H' yy=>?_⟩
   obtain ⟨rfl,rfl⟩:=yy
   have e0:(0:Int)+(i:Int)=(i:Int):=by omega
   rw [e0]
   have g30:atI (cs.map V.int) ((30:Int)+(i:Int))=some (.int (cs.getD (30+i) 0)):=by
    rw [show (30:Int)+(i:Int)=((30+i:Nat):Int) by omega]
    exact atI_nat (by rw [List.getElem?_map,List.getD_eq_getElem?_getD,List.getElem?_eq_getElem (by omega)];rfl)
   refine ⟨rfl,_,rfl,_,rfl,_,_,rfl,rfl,dn,_,_,_,rfl,rfl,SqL.of (sm _ _ hdn),g30,_,_,rfl,rfl,⟨by decide,by decide⟩,_,_,rfl,rfl,(by show (0:Int) < 4;decide),k1 _ _ Same.rfl' ?_⟩
   rw [List.range_succ,List.map_append,List.map_append]
   rfl
  refine ⟨by show ((n:Int)).toNat≤n;omega,?_⟩
  obtain ⟨ms,hms⟩:∃ ms,ms=(List.range n).map fun k=>(cs.getD (30+k) 0) / 11 % 4:=⟨_,rfl⟩
  rw [← hms] at hm1
  have hml:ms.length=n:=by rw [hms,List.length_map,List.length_range]
  refine ⟨by show 0≤sizeLine;decide,fun gr hgr=>?_⟩
  have s0:Same H1 (upd H1 gr (.lst [])):=Same.rfl'.new hgr
  refine ⟨(3:Int),rfl,by decide,by decide,for_range (lo:=(0:Int)) (n:=(3:Int).toNat) (fun i σ H2=>(∃ zs:List V,Same H1 H2∧H2 gr=some (.lst zs)∧zs.length≤i∧(∀ x∈zs,∃ a g,x=.ref a∧LI H2 a g∧(1≤g.length∧g.length≤24)∧a≠gr))∧∃ u v,σ=[some (.int (n:Int)),some (.ref dn),some (.ref ma),some (.ref gr),u,v])
   ⟨⟨[],s0,upd_same,by simp,fun x hx=>by simp at hx⟩,_,_,rfl⟩ ?_ ?_⟩
  ·rintro i σ H2 hi ⟨⟨zs,s2,hz2,hzl,hit⟩,u,v,rfl⟩
   have hi3:i < 3:=hi
   have e0:(0:Int)+(i:Int)=(i:Int):=by omega
   rw [e0]
   have hm2:LI H2 ma ms:=s2 _ _ hm1
   refine ⟨_,rfl,(n:Int),rfl,by omega,by omega,fun D hD=>comp_ext (n:=n) hD (fun j=>(filtR j fun k=>decide (ms.getD k 0=(i:Int))).map V.int) rfl (fun j hj=>?_) (fun j H3 hj sm hD2=>?_) (fun H3 s3 hD3=>?_)⟩
   ·rw [List.length_map]
    have:=filtR_len j fun k=>decide (ms.getD k 0=(i:Int))
    exact small1000 (by omega)
   ·refine ⟨by show j < ((n:Int)).toNat;omega,fun K1 K2 k1 k2 y H' yy=>?_⟩
    obtain ⟨rfl,rfl⟩:=yy
    have e0:(0:Int)+(j:Int)=(j:Int):=by omega
    rw [e0]
    have hjl:j < ms.length:=by omega
    have q1:(ms.map V.int)[j]?=some (.int (ms.getD j 0)):=by rw [List.getElem?_map,List.getD_eq_getElem?_getD,List.getElem?_eq_getElem hjl];rfl
    refine ⟨rfl,_,rfl,_,rfl,ma,_,_,_,rfl,rfl,SqL.of (sm _ _ hm2),atI_nat q1,_,rfl,rfl,_,rfl,?_⟩
    rw [dec_int]
    refine ite2 (fun h=>⟨_,rfl,k1 _ _ Same.rfl' ?_⟩) (fun h=>k2 _ Same.rfl' ?_)
    ·rw [filtR_succ,if_pos h,List.map_append]
     rfl
    ·rw [filtR_succ,if_neg h,List.append_nil]
   refine ⟨by show ((n:Int)).toNat≤n;omega,?_⟩
   obtain ⟨g,hg⟩:∃ g,filtR n (fun k=>decide (ms.getD k 0=(i:Int)))=g:=⟨_,rfl⟩
   have hgl:g.length≤24:=by
    rw [← hg]
    have:=filtR_len n fun k=>decide (ms.getD k 0=(i:Int))
    omega
   rw [hg] at hD3
   have hz3:=s3 _ _ hz2
   have s23:=s2.tr s3
   refine ⟨_,rfl,D,_,rfl,.inl (SqL.of hD3),_,_,rfl,rfl,_,rfl,?_⟩
   refine ite2 (fun h1=>?_) (fun _=>?_)
   ·have h1':=of_decide_eq_true h1
    rw [List.length_map] at h1'
    refine ⟨_,rfl,.inl ⟨rfl,_,SqL.of hz3⟩,_,rfl,gr,_,_,rfl,rfl,hz3,small1000 (by omega),⟨zs++[.ref D],fun c o e=>by rw [upd_ne (ne_of_none e hgr)];exact s23 _ _ e,upd_same,by rw [List.length_append,List.length_singleton];omega,fun x hx=>?_⟩,_,_,rfl⟩
    rcases List.mem_append.mp hx with hx | hx
    ·obtain ⟨a,g',e,ha,hl',hne⟩:=hit x hx
     exact ⟨a,g',e,by rw [LI,upd_ne hne];exact s3 _ _ ha,hl',hne⟩
    ·rw [List.mem_singleton] at hx
     have hne:D≠gr:=Ne.symm (ne_of_none hz2 hD)
     exact ⟨D,g,hx,by rw [LI,upd_ne hne];exact hD3,⟨by omega,hgl⟩,hne⟩
   ·exact ⟨⟨zs,s23,hz3,by omega,fun x hx=>by
     obtain ⟨a,g',e,ha,hl',hne⟩:=hit x hx
     exact ⟨a,g',e,s3 _ _ ha,hl',hne⟩⟩,_,_,rfl⟩
  ·rintro σ H2 ⟨⟨zs,s2,hz2,hzl,hit⟩,u,v,rfl⟩
   have hzl3:zs.length≤3:=hzl
   have hI:∀ x∈zs,Itm H2 24 x:=fun x hx=>by
    obtain ⟨a,g',e,ha,hl',hne⟩:=hit x hx
    exact ⟨a,g',e,ha,hl'.2⟩
   obtain ⟨nss,hn1,hn2⟩:=itm_sorted (K:=K) hI
   refine ⟨_,rfl,gr,zs,nss,rfl,SqL.of hz2,hn1,hn2,by omega,fun d l hd hp=>?_⟩
   have t3:Same H2 (upd H2 d (.lst (l.map fun i=>zs.getD i .non))):=Same.rfl'.new hd
   refine kQ _ d _ ((s1.tr s2).tr t3) upd_same ?_ fun x hx=>?_
   ·rw [List.length_map,hp.length_eq,List.length_range]
    omega
   ·obtain ⟨a,g',e,ha,hl',hne⟩:=hit x (mem_sel hp hx)
    exact ⟨a,g',e,t3 _ _ ha,hl'.1,hl'.2⟩
end
end K26
namespace K26
open PySem L2 XM
structure Own (H H':Hp) (d:Addr) (zs:List V) (B:Nat):Prop where
 same:Same H H'
 fr:H d=none
 hl:H' d=some (.lst zs)
 it:∀ x∈zs,∃ a g,x=.ref a∧LI H' a g∧g.length≤B∧a≠d
theorem Own.up {H H' H'':Hp} {d:Addr} {zs:List V} {B B':Nat} (h:Own H H' d zs B) (s:Same H' H'') (hB:B≤B'):Own H H'' d zs B':=
 ⟨h.same.tr s,h.fr,s _ _ h.hl,fun x hx=>by
  obtain ⟨a,g,e,h1,h2,h3⟩:=h.it x hx
  exact ⟨a,g,e,s _ _ h1,by omega,h3⟩⟩
theorem Own.put {H H':Hp} {d:Addr} {zs:List V} {B B':Nat} (h:Own H H' d zs B) (hB:B≤B') (ys:List V) (hy:∀ x∈ys,x∈zs∨∃ a g,x=.ref a∧LI H' a g∧g.length≤B'∧a≠d):Own H (upd H' d (.lst ys)) d ys B':=
 ⟨fun b o e=>by rw [upd_ne (ne_of_none e h.fr)];exact h.same _ _ e,h.fr,upd_same,fun x hx=>by
  rcases hy x hx with hz | ⟨a,g,e,h1,h2,h3⟩
  ·obtain ⟨a,g,e,h1,h2,h3⟩:=h.it x hz
   exact ⟨a,g,e,by rw [LI,upd_ne h3];exact h1,by omega,h3⟩
  ·exact ⟨a,g,e,by rw [LI,upd_ne h3];exact h1,h2,h3⟩⟩
theorem Own.out {H H':Hp} {d:Addr} {zs:List V} {B:Nat} (h:Own H H' d zs B):∃ hss,LS H' zs hss∧∀ g∈hss,g.length≤B:=
 itm_ls fun x hx=>by
  obtain ⟨a,g,e,h1,h2,_⟩:=h.it x hx
  exact ⟨a,g,e,h1,h2⟩
theorem mem_set2 {zs:List V} {k:Nat} {y x:V} (h:x∈zs.set k y):x∈zs∨x=y:=List.mem_or_eq_of_mem_set h
theorem atI_pre {zs:List V} {k:Nat} (hk:k < zs.length):∃ x,atI zs ((k:Int) - 1)=some x∧x∈zs:=by
 cases k with
 | zero=>
  rcases List.eq_nil_or_concat zs with e | ⟨r,y,e⟩
  ·rw [e] at hk
   simp at hk
  ·rw [List.concat_eq_append] at e
   exact ⟨y,by rw [e];exact atI_last r y,by rw [e];simp⟩
 | succ j=>exact ⟨zs[j],by rw [show ((j+1:Nat):Int) - 1=(j:Int) by omega];exact atI_nat (List.getElem?_eq_getElem (by omega)),List.getElem_mem _⟩
section
variable {P:Program} {w:World} {K:W.Frag} {mg:Str→Option Value} {base:Heap} {CE CS CQ CT:Addr}
theorem cpow59:CPow 10 59:=⟨by decide,by decide,by decide⟩
inductive spSpDI  (vs:List V) (H:Hp) (Q:VK) (E:XK):Prop
 | mk (la dn:Addr) (xs:List V) (nss:List (List Int)) (fault:Int) (cs:List Int) (m:Nat):(vs=[.ref la,.int fault,.ref dn,.int (m:Int)])→(H la=some (.lst xs))→(LS H xs nss)→(nss.length≤60)→((∀ g∈nss,g.length≤30))→(LI H dn cs)→(cs.length=63)→(m≤30)→(∀ (H':Hp) (d:Addr) (zs:List V),Own H H' d zs 31→zs.length=nss.length→Q (.ref d) H')→spSpDI  vs H Q E
def spSpD  : Sp:=fun vs H Q E=>spSpDI  vs H Q E
theorem scSpD:FnScope ["held", "fault", "numbers", "many", "made", "at"] ["held", "fault", "numbers", "many"] (defScope sSpDealing):=⟨rfl,rfl,rfl,by decide +kernel,rfl,by decide +kernel,by decide +kernel⟩
theorem ok_spD {f:Addr} {fd:FuncData} (T:Txt K mg CE CS CQ CT) (F:Fun K "_law_spoilt_dealing" "_law_spoilt_dealing" sSpDealing f fd):FnOk P w K mg base CX0 1 f fd ["held", "fault", "numbers", "many"] spSpD:=by
 refine F.ok scSpD (fun vs H Q E h=>?_) (fun cdv A outer s H vs Q E hr h=>?_)
 ·obtain ⟨la,dn,xs,nss,fault,cs,m,rfl,_⟩:=h
  rfl
 ·obtain ⟨la,dn,xs,nss,fault,cs,m,rfl,hla,hls,hn60,hg30,hdn,hcl,hm,kQ⟩:=h
  have nd0:((["some"]:List Str)++([]:List Str)).Nodup:=by decide +kernel
  refine ⟨_,pss_cons (ps_comp (i:=4) (own:=["some"]) (caps:=[]) (cs:=[]) (sc:=defScope sSpDealing) ⟨rfl,rfl,by decide +kernel,by decide +kernel,by decide +kernel,by decide +kernel,rfl⟩ rfl scSpD.nd rfl rfl rfl
    (pi_list (pv 0)) (fun _ _ _ _ _=>pg_name (i:=0) nd0 rfl (Or.inl rfl) (.inr rfl)) (fun _ _ _ _ _=>pf_nil) (fun _ _ _ _ _=>pe_callTy c_list (by rfl) T.list bt_list (pa_cons (pv 0) pa_nil)))
   (pss_cons (ps_set (i:=5) scSpD.nd rfl (Or.inl rfl) (pe_op op_mod (pe_ix ix_list (pv 2) pe_int (fun _ _=>rfl)) (pe_callB (call_max2 rfl) (by rfl) T.max boot_max (pa_cons pe_int (pa_cons (pe_callB c_len (by rfl) T.len PySem.boot_len (pa_cons (pv 4) pa_nil)) pa_nil)))))
   (pss_cons (ps_mid (ps_if (pw_and (pt_cmpR op_eq (pv 1) pe_int (nomark _)) (pw_and (pt_cmpR op_gt (pv 3) pe_int (nomark _)) (pw_and1 (pt_cmpR op_gt (pe_callB c_len (by rfl) T.len PySem.boot_len (pa_cons (pv 4) pa_nil)) pe_int (nomark _))))).pt (pss_one (ps_asg (pe_listRange rfl (by rfl) T.list (by rfl) T.range (pv 3)) (pg_sub (pv 4) (pv 5) set_list))) pss_nil))
   (pss_cons (ps_mid (ps_if (pw_and (pt_cmpR op_eq (pv 1) pe_int (nomark _)) (pw_and1 (pt_cmpR op_gt (pe_callB c_len (by rfl) T.len PySem.boot_len (pa_cons (pv 4) pa_nil)) pe_int (nomark _)))).pt (pss_one (ps_asg (pe_op op_cat (pe_ix ix_list (pv 4) (pv 5) (fun _ _=>rfl)) (pe_lst (pa_cons (pe_ix ix_list (pe_lst (pa_cons (pv 3) (pa_cons (pe_op op_add (pe_op op_add (pv 3) (pe_op op_pow pe_int pe_int)) (pe_ix ix_list (pv 2) pe_int (fun _ _=>rfl))) (pa_cons (pe_op op_sub (pe_un un_neg pe_int) (pe_ix ix_list (pv 2) pe_int (fun _ _=>rfl))) pa_nil)))) (pe_op op_mod (pe_op op_fdiv (pe_ix ix_list (pv 2) pe_int (fun _ _=>rfl)) pe_int) pe_int) (fun _ _=>rfl)) pa_nil))) (pg_sub (pv 4) (pv 5) set_list))) pss_nil))
   (pss_cons (ps_mid (ps_if (pw_and (pt_cmpR op_eq (pv 1) pe_int (nomark _)) (pw_and1 (pt_cmpR op_gt (pe_callB c_len (by rfl) T.len PySem.boot_len (pa_cons (pv 4) pa_nil)) pe_int (nomark _)))).pt (pss_one (ps_asg (pe_listRev rfl (by rfl) T.list (by rfl) T.rev (pe_ix ix_list (pv 4) (pv 5) (fun _ _=>rfl))) (pg_sub (pv 4) (pv 5) set_list))) pss_nil))
   (pss_cons (ps_mid (ps_if (pw_and (pt_cmpR op_eq (pv 1) pe_int (nomark _)) (pw_and1 (pt_cmpR op_gt (pe_callB c_len (by rfl) T.len PySem.boot_len (pa_cons (pv 4) pa_nil)) pe_int (nomark _)))).pt (pss_one (ps_asg (pe_callTy c_list (by rfl) T.list bt_list (pa_cons (pe_ix ix_list (pv 4) (pe_op op_sub (pv 5) pe_int) (fun _ _=>rfl)) pa_nil)) (pg_sub (pv 4) (pv 5) set_list))) pss_nil))
   (pss_one (ps_ret (pv 4)))))))),?_⟩
  try dsimp only [cx_of,cx_nox,cx_comp]
  have hxl:=hls.length
  have cat:∀ j:Nat,(h:j < 63)→(cs.map V.int)[j]?=some (.int (cs[j]'(by omega))):=fun j h=>by rw [List.getElem?_map,List.getElem?_eq_getElem (by omega)];rfl
  refine ⟨_,rfl,la,rfl,⟨_,SqL.of hla⟩,fun d hd=>?_⟩
  refine comp_gen (n:=nss.length) (fun i ys H1=>Own H H1 d ys 30∧ys.length=i) ⟨⟨Same.rfl'.new hd,hd,upd_same,fun x hx=>by simp at hx⟩,rfl⟩ (fun i ys H1 hi hv=>?_) (fun i ys H1 hi hv=>?_) (fun ys H1 hv=>?_)
  ·rw [hv.2]
   exact small1000 (by omega)
  ·obtain ⟨O,hyl⟩:=hv
   obtain ⟨x,hxi⟩:∃ x,xs[i]?=some x:=⟨_,List.getElem?_eq_getElem (by omega)⟩
   obtain ⟨g,hg,a,rfl,hag⟩:=hls.get hxi
   have hgl:=hg30 g (List.mem_of_getElem? hg)
   refine ⟨⟨_,_,SqL.of (O.same _ _ hla),hxi⟩,fun K1 k1 x H' y=>?_⟩
   obtain ⟨rfl,e⟩:=y
   have ex:=e _ (SqL.of (O.same _ _ hla))
   rw [hxi] at ex
   cases ex
   refine ⟨rfl,_,rfl,a,_,rfl,.inl (SqL.of (O.same _ _ hag)),fun l hl=>k1 _ _ ((Same.rfl'.new hl) _ _ O.hl) ⟨?_,by rw [List.length_append,hyl];rfl⟩⟩
   have nl:l≠d:=Ne.symm (ne_of_none O.hl hl)
   refine (O.up (Same.rfl'.new hl) (Nat.le_refl _)).put (Nat.le_refl _) _ fun x hx=>?_
   rcases List.mem_append.mp hx with h | h
   ·exact .inl h
   ·exact .inr ⟨l,g,List.mem_singleton.mp h,upd_same,hgl,nl⟩
  obtain ⟨O1,hyl⟩:=hv
  refine ⟨⟨_,SqL.of (O1.same _ _ hla),by omega⟩,?_⟩
  refine ⟨_,rfl,dn,_,_,_,rfl,rfl,SqL.of (O1.same _ _ hdn),atI_nat (j:=6) (cat 6 (by omega)),_,rfl,d,_,rfl,.inl (SqL.of O1.hl),_,_,rfl,_,_,rfl,rfl,?_,?_⟩
  ·show (0:Int) < if ((ys.length:Nat):Int) > 1 then ((ys.length:Nat):Int) else 1
   split <;> omega
  obtain ⟨k,ek,hk⟩:∃ k:Nat,(cs[6]'(by omega)) % (if ((ys.length:Nat):Int) > 1 then ((ys.length:Nat):Int) else 1)=(k:Int)∧(0 < nss.length→k < nss.length):=by
   have hpos:(0:Int) < if ((ys.length:Nat):Int) > 1 then ((ys.length:Nat):Int) else 1:=by split <;> omega
   have h1:=Int.emod_nonneg (cs[6]'(by omega)) (Int.ne_of_gt hpos)
   have h2:=Int.emod_lt_of_pos (cs[6]'(by omega)) hpos
   refine ⟨((cs[6]'(by omega)) % (if ((ys.length:Nat):Int) > 1 then ((ys.length:Nat):Int) else 1)).toNat,by omega,fun hn=>?_⟩
   split at h2 <;> rename_i hc <;> simp only [hc,if_true,if_false] at h1 ⊢ <;> omega
  show gName 5 (V.int ((cs[6]'(by omega)) % (if ((ys.length:Nat):Int) > 1 then ((ys.length:Nat):Int) else 1))) _ _ _
  rw [ek]
  have len_pos:∀ {zs:List V},zs.length=nss.length→(decide ((0:Int) < ((zs.length:Nat):Int))=true)→0 < nss.length:=fun h1 h2=>by
   have:=of_decide_eq_true h2
   omega
  refine ⟨fun σ' H'=>∃ zs,σ'=[some (.ref la),some (.int fault),some (.ref dn),some (.int (m:Int)),some (.ref d),some (.int (k:Int))]∧Own H H' d zs 30∧zs.length=nss.length,?_,?_⟩
  rotate_left
  ·refine ⟨_,rfl,rfl,_,rfl,?_⟩
   refine ite2 (fun _=>⟨_,rfl,_,_,rfl,rfl,_,rfl,ite2 (fun _=>⟨_,rfl,d,_,rfl,.inl (SqL.of O1.hl),_,_,rfl,rfl,_,rfl,ite2 (fun h=>?_) (fun _=>⟨ys,rfl,O1,hyl⟩)⟩) (fun _=>iteF ⟨ys,rfl,O1,hyl⟩)⟩) (fun _=>iteF ⟨ys,rfl,O1,hyl⟩)
   refine ⟨_,rfl,m,rfl,by omega,fun t ht=>?_⟩
   have O2:=O1.up (Same.rfl'.new ht (o:=.lst ((List.range m).map fun k=>V.int ((k:Nat):Int)))) (Nat.le_refl _)
   have nt:t≠d:=Ne.symm (ne_of_none O1.hl ht)
   refine ⟨_,rfl,_,rfl,d,_,_,k,rfl,rfl,O2.hl,ixN_at (by rw [hyl];exact hk (len_pos hyl h)),_,rfl,O2.put (Nat.le_refl _) _ fun x hx=>?_,by rw [List.length_set];exact hyl⟩
   rcases mem_set2 hx with h | h
   ·exact .inl h
   ·exact .inr ⟨t,(List.range m).map fun k=>((k:Nat):Int),h,by rw [LI,upd_same,List.map_map];rfl,by rw [List.length_map,List.length_range];exact hm,nt⟩
  rintro σ2 H2 ⟨z2,rfl,O2,hl2⟩
  clear O1 hyl
  refine ⟨fun σ' H'=>∃ zs,σ'=[some (.ref la),some (.int fault),some (.ref dn),some (.int (m:Int)),some (.ref d),some (.int (k:Int))]∧Own H H' d zs 31∧zs.length=nss.length,?_,?_⟩
  rotate_left
  ·refine ⟨_,rfl,rfl,_,rfl,?_⟩
   refine ite2 (fun _=>⟨_,rfl,d,_,rfl,.inl (SqL.of O2.hl),_,_,rfl,rfl,_,rfl,ite2 (fun h=>?_) (fun _=>⟨z2,rfl,O2.up Same.rfl' (by omega),hl2⟩)⟩) (fun _=>iteF ⟨z2,rfl,O2.up Same.rfl' (by omega),hl2⟩)
   have hkn:=hk (len_pos hl2 h)
   obtain ⟨x,hx⟩:∃ x,z2[k]?=some x:=⟨_,List.getElem?_eq_getElem (by omega)⟩
   obtain ⟨a,g,rfl,hag,hgl,hne⟩:=O2.it x (List.mem_of_getElem? hx)
   have dn2:=O2.same _ _ hdn
   refine ⟨_,rfl,_,rfl,d,_,_,_,rfl,rfl,SqL.of O2.hl,atI_nat hx,_,rfl,_,rfl,_,_,rfl,rfl,cpow59,_,_,rfl,rfl,_,rfl,dn,_,_,_,rfl,rfl,SqL.of dn2,atI_nat (j:=7) (cat 7 (by omega)),_,_,rfl,rfl,_,rfl,_,rfl,dn,_,_,_,rfl,rfl,SqL.of dn2,atI_nat (j:=7) (cat 7 (by omega)),_,_,rfl,rfl,by show 3≤sizeLine;decide,fun t ht=>?_⟩
   obtain ⟨v1,v2,v3,hv⟩:∃ v1 v2 v3:Int,[V.int (m:Int),V.int ((m:Int)+10 ^ (59:Int).toNat+(cs[7]'(by omega))),V.int (-1 - (cs[7]'(by omega)))]=[V.int v1,V.int v2,V.int v3]:=⟨_,_,_,rfl⟩
   have htv:(upd H2 t (.lst [V.int (m:Int),V.int ((m:Int)+10 ^ (59:Int).toNat+(cs[7]'(by omega))),V.int (-1 - (cs[7]'(by omega)))])) t=some (.lst [V.int v1,V.int v2,V.int v3]):=by rw [upd_same,hv]
   have ut:=Same.rfl'.new ht (o:=.lst [V.int (m:Int),V.int ((m:Int)+10 ^ (59:Int).toNat+(cs[7]'(by omega))),V.int (-1 - (cs[7]'(by omega)))])
   have O3:=O2.up ut (Nat.le_refl _)
   have hag3:=ut _ _ hag
   have dn3:=ut _ _ dn2
   have ha3:a≠d:=hne
   obtain ⟨j,hj3,ej⟩:∃ j:Nat,j < 3∧(cs[5]'(by omega)) / 16 % 3=(j:Int):=⟨((cs[5]'(by omega)) / 16 % 3).toNat,by omega,by omega⟩
   obtain ⟨y,hy⟩:∃ y:Int,([V.int v1,V.int v2,V.int v3]:List V)[j]?=some (.int y):=by
    match j,hj3 with
    | 0,_=>exact ⟨_,rfl⟩
    | 1,_=>exact ⟨_,rfl⟩
    | 2,_=>exact ⟨_,rfl⟩
   have gj:atI ([V.int v1,V.int v2,V.int v3]:List V) ((cs[5]'(by omega)) / 16 % 3)=some (.int y):=by
    rw [ej]
    exact atI_nat hy
   refine ⟨_,rfl,dn,_,_,_,rfl,rfl,SqL.of dn3,atI_nat (j:=5) (cat 5 (by omega)),_,_,rfl,rfl,⟨by decide,by decide⟩,_,_,rfl,rfl,(by show (0:Int) < 3;decide),t,_,_,_,rfl,rfl,SqL.of htv,gj,by show 1≤sizeLine;decide,fun p1 hp1=>⟨a,p1,_,_,rfl,rfl,by rw [upd_ne (ne_of_none hag3 hp1)];exact hag3,upd_same,?_,fun p2 hp2=>?_⟩⟩
   ·rw [List.length_map]
    exact Nat.le_of_lt (small1000 (by show g.length+1≤1000;omega))
   have t2:=(Same.rfl'.new hp1 (o:=.lst [V.int y])).tr (Same.rfl'.new hp2 (o:=.lst (g.map V.int++[V.int y])))
   have O4:=O3.up t2 (Nat.le_refl _)
   have np:p2≠d:=Ne.symm (ne_of_none ((Same.rfl'.new hp1 (o:=.lst [V.int y])) _ _ O3.hl) hp2)
   refine ⟨_,rfl,_,rfl,d,_,_,k,rfl,rfl,O4.hl,ixN_at (by omega),_,rfl,O4.put (by omega) _ fun x hx=>?_,by rw [List.length_set];exact hl2⟩
   rcases mem_set2 hx with h | h
   ·exact .inl h
   ·exact .inr ⟨p2,g++[y],h,by rw [LI,upd_same,List.map_append];rfl,by rw [List.length_append];show g.length+1≤31;omega,np⟩
  rintro σ3 H3 ⟨z3,rfl,O3,hl3⟩
  clear O2 hl2
  refine ⟨fun σ' H'=>∃ zs,σ'=[some (.ref la),some (.int fault),some (.ref dn),some (.int (m:Int)),some (.ref d),some (.int (k:Int))]∧Own H H' d zs 31∧zs.length=nss.length,?_,?_⟩
  rotate_left
  ·refine ⟨_,rfl,rfl,_,rfl,?_⟩
   refine ite2 (fun _=>⟨_,rfl,d,_,rfl,.inl (SqL.of O3.hl),_,_,rfl,rfl,_,rfl,ite2 (fun h=>?_) (fun _=>⟨z3,rfl,O3,hl3⟩)⟩) (fun _=>iteF ⟨z3,rfl,O3,hl3⟩)
   have hkn:=hk (len_pos hl3 h)
   obtain ⟨x,hx⟩:∃ x,z3[k]?=some x:=⟨_,List.getElem?_eq_getElem (by omega)⟩
   obtain ⟨a,g,rfl,hag,hgl,hne⟩:=O3.it x (List.mem_of_getElem? hx)
   refine ⟨_,rfl,_,rfl,d,_,_,_,rfl,rfl,SqL.of O3.hl,atI_nat hx,a,_,rfl,SqL.of hag,fun t ht=>?_⟩
   have O4:=O3.up (Same.rfl'.new ht (o:=.lst (g.map V.int).reverse)) (Nat.le_refl _)
   have nt:t≠d:=Ne.symm (ne_of_none O3.hl ht)
   refine ⟨_,rfl,_,rfl,d,_,_,k,rfl,rfl,O4.hl,ixN_at (by omega),_,rfl,O4.put (Nat.le_refl _) _ fun x hx=>?_,by rw [List.length_set];exact hl3⟩
   rcases mem_set2 hx with h | h
   ·exact .inl h
   ·exact .inr ⟨t,g.reverse,h,by rw [LI,upd_same,List.map_reverse],by rw [List.length_reverse];exact hgl,nt⟩
  rintro σ4 H4 ⟨z4,rfl,O4,hl4⟩
  clear O3 hl3
  refine ⟨fun σ' H'=>∃ zs,σ'=[some (.ref la),some (.int fault),some (.ref dn),some (.int (m:Int)),some (.ref d),some (.int (k:Int))]∧Own H H' d zs 31∧zs.length=nss.length,?_,?_⟩
  rotate_left
  ·refine ⟨_,rfl,rfl,_,rfl,?_⟩
   refine ite2 (fun _=>⟨_,rfl,d,_,rfl,.inl (SqL.of O4.hl),_,_,rfl,rfl,_,rfl,ite2 (fun h=>?_) (fun _=>⟨z4,rfl,O4,hl4⟩)⟩) (fun _=>iteF ⟨z4,rfl,O4,hl4⟩)
   have hkn:=hk (by have:=of_decide_eq_true h;omega)
   obtain ⟨x,hx,hxm⟩:=atI_pre (zs:=z4) (k:=k) (by omega)
   obtain ⟨a,g,rfl,hag,hgl,hne⟩:=O4.it x hxm
   refine ⟨_,rfl,_,rfl,_,_,rfl,rfl,d,_,_,_,rfl,rfl,SqL.of O4.hl,hx,a,_,rfl,.inl (SqL.of hag),fun t ht=>?_⟩
   have O5:=O4.up (Same.rfl'.new ht (o:=.lst (g.map V.int))) (Nat.le_refl _)
   have nt:t≠d:=Ne.symm (ne_of_none O4.hl ht)
   refine ⟨_,rfl,_,rfl,d,_,_,k,rfl,rfl,O5.hl,ixN_at (by omega),_,rfl,O5.put (Nat.le_refl _) _ fun x hx=>?_,by rw [List.length_set];exact hl4⟩
   rcases mem_set2 hx with h | h
   ·exact .inl h
   ·exact .inr ⟨t,g,h,upd_same,hgl,nt⟩
  rintro σ5 H5 ⟨z5,rfl,O5,hl5⟩
  exact ⟨_,rfl,kQ _ d z5 O5 hl5⟩
end
end K26
namespace K26
open PySem L2 XM
section
variable {P:Program} {w:World} {K:W.Frag} {mg:Str→Option Value} {base:Heap} {CE CS CQ CT:Addr}
theorem cpow53:CPow 10 53:=⟨by decide,by decide,by decide⟩
theorem lim53:(0:Int) < 10 ^ (53:Int).toNat:=by decide +kernel
theorem lim59':(0:Int) < 10 ^ (59:Int).toNat:=by decide +kernel
theorem no_dup {bs:List Int} {k:Nat} {y m:Int} (hy:y∈bs):risesB (bs.take k++[y]++bs.drop k) m=false:=by
 rw [← Bool.not_eq_true]
 intro h
 have hp:=(risesB_iff.mp h).1
 rw [List.append_assoc,List.pairwise_append] at hp
 rw [← List.take_append_drop k bs] at hy
 rcases List.mem_append.mp hy with h1 | h1
 ·have:=hp.2.2 y h1 y (by simp)
  omega
 ·have h2:=hp.2.1
  rw [List.singleton_append,List.pairwise_cons] at h2
  have:=h2.1 y h1
  omega
theorem no_rev {bs:List Int} {m:Int} (h2:1 < bs.length) (hb:bs.Pairwise (· < ·)):risesB bs.reverse m=false:=by
 rw [← Bool.not_eq_true]
 intro h
 have hp:=(risesB_iff.mp h).1
 rw [List.pairwise_reverse] at hp
 match bs,h2 with
 | a::b::r,_=>
  have h1:=(List.pairwise_cons.mp hb).1 b (by simp)
  have h3:=(List.pairwise_cons.mp hp).1 b (by simp)
  omega
theorem no_out {ns:List Int} {y m:Int} (hy:y∈ns) (h:¬ (0≤y∧y < m)):risesB ns m=false:=by
 rw [← Bool.not_eq_true]
 intro z
 exact h ((risesB_iff.mp z).2 y hy)
inductive spSpSI  (vs:List V) (H:Hp) (Q:VK) (E:XK):Prop
 | mk (ls dn:Addr) (bs cs:List Int) (fault:Int) (m:Nat):(vs=[.ref ls,.int fault,.ref dn,.int (m:Int)])→(LI H ls bs)→(risesB bs (m:Int)=true)→(bs.length≤30)→(0≤fault)→(fault≤3)→(LI H dn cs)→(cs.length=63)→((∀ c∈cs,0≤c∧c < 1000000))→(∀ (H':Hp) (d:Addr) (ns:List Int),Same H H'→LI H' d ns→ns.length≤31→(fault=0→ns=bs)→(0 < fault→risesB ns (m:Int)=false)→Q (.ref d) H')→spSpSI  vs H Q E
def spSpS  : Sp:=fun vs H Q E=>spSpSI  vs H Q E
theorem scSpS:FnScope ["some", "fault", "numbers", "many", "at"] ["some", "fault", "numbers", "many"] (defScope sSpSome):=⟨rfl,rfl,rfl,by decide +kernel,rfl,by decide +kernel,by decide +kernel⟩
theorem ok_spS {f:Addr} {fd:FuncData} (T:Txt K mg CE CS CQ CT) (F:Fun K "_law_spoilt_some" "_law_spoilt_some" sSpSome f fd):FnOk P w K mg base CX0 1 f fd ["some", "fault", "numbers", "many"] spSpS:=by
 refine F.ok scSpS (fun vs H Q E h=>?_) (fun cdv A outer s H vs Q E hr h=>?_)
 ·obtain ⟨ls,dn,bs,cs,fault,m,rfl,_⟩:=h
  rfl
 ·obtain ⟨ls,dn,bs,cs,fault,m,rfl,hb,hrb,hb30,hf0,hf3,hdn,hcl,hcb,kQ⟩:=h
  refine ⟨_,pss_cons (ps_set (i:=4) scSpS.nd rfl (Or.inl rfl) (pe_op op_mod (pe_ix ix_list (pv 2) pe_int (fun _ _=>rfl)) (pe_op op_add (pe_callB c_len (by rfl) T.len PySem.boot_len (pa_cons (pv 0) pa_nil)) pe_int)))
   (pss_cons (ps_if (pw_and (pt_cmpR op_eq (pv 1) pe_int (nomark _)) (pw_and1 (pt_cmpR op_gt (pe_callB c_len (by rfl) T.len PySem.boot_len (pa_cons (pv 0) pa_nil)) pe_int (nomark _)))).pt
    (pss_one (ps_ret (pe_op op_cat (pe_op op_cat (pe_slice sl_list (pv 0) po_none (po_some (pv 4))) (pe_lst (pa_cons (pe_ix ix_list (pv 0) (pe_op op_sub (pv 4) pe_int) (fun _ _=>rfl)) pa_nil))) (pe_slice sl_list (pv 0) (po_some (pv 4)) po_none)))) pss_nil)
   (pss_cons (ps_if (pw_and (pt_cmpR op_eq (pv 1) pe_int (nomark _)) (pw_and1 (pt_cmpR op_gt (pe_callB c_len (by rfl) T.len PySem.boot_len (pa_cons (pv 0) pa_nil)) pe_int (nomark _)))).pt
    (pss_one (ps_ret (pe_listRev rfl (by rfl) T.list (by rfl) T.rev (pv 0)))) pss_nil)
   (pss_cons (ps_if (pt_cmpR op_gt (pv 1) pe_int (nomark _))
    (pss_one (ps_ret (pe_op op_cat (pe_op op_cat (pe_slice sl_list (pv 0) po_none (po_some (pv 4))) (pe_lst (pa_cons (pe_ix ix_list (pe_lst (pa_cons (pv 3) (pa_cons (pe_op op_add (pv 3) (pe_op op_pow pe_int pe_int)) (pa_cons (pe_op op_sub (pe_un un_neg pe_int) (pe_op op_mul (pe_ix ix_list (pv 2) pe_int (fun _ _=>rfl)) (pe_op op_pow pe_int pe_int))) pa_nil)))) (pe_op op_mod (pe_ix ix_list (pv 2) pe_int (fun _ _=>rfl)) pe_int) (fun _ _=>rfl)) pa_nil))) (pe_slice sl_list (pv 0) (po_some (pv 4)) po_none)))) pss_nil)
   (pss_one (ps_ret (pv 0)))))),?_⟩
  try dsimp only [cx_of,cx_nox,cx_comp]
  have cat:∀ j:Nat,(h:j < 63)→(cs.map V.int)[j]?=some (.int (cs[j]'(by omega))):=fun j h=>by rw [List.getElem?_map,List.getElem?_eq_getElem (by omega)];rfl
  have hpos:(0:Int) < (bs.length:Int)+1:=by omega
  refine ⟨_,rfl,dn,_,_,_,rfl,rfl,SqL.of hdn,atI_nat (j:=6) (cat 6 (by omega)),_,rfl,ls,_,rfl,.inl (SqL.of hb),_,_,rfl,rfl,_,_,rfl,rfl,(by rw [List.length_map];exact hpos),?_⟩
  rw [List.length_map]
  obtain ⟨k,ek,hk⟩:∃ k:Nat,(cs[6]'(by omega)) % ((bs.length:Int)+1)=(k:Int)∧k≤bs.length:=by
   have h1:=Int.emod_nonneg (cs[6]'(by omega)) (Int.ne_of_gt hpos)
   have h2:=Int.emod_lt_of_pos (cs[6]'(by omega)) hpos
   exact ⟨((cs[6]'(by omega)) % ((bs.length:Int)+1)).toNat,by omega,by omega⟩
  show gName 4 (V.int ((cs[6]'(by omega)) % ((bs.length:Int)+1))) _ _ _
  rw [ek]
  have ct:(bs.map V.int).take k=(bs.take k).map V.int:=(List.map_take ..).symm
  have cd:(bs.map V.int).drop k=(bs.drop k).map V.int:=(List.map_drop ..).symm
  have l1:((bs.map V.int).take k).length≤30:=by rw [List.length_take,List.length_map];omega
  have l2:((bs.map V.int).drop k).length≤30:=by rw [List.length_drop,List.length_map];omega
  have l3:∀ y:Int,(bs.take k++[y]++bs.drop k).length≤31:=fun y=>by rw [List.length_append,List.length_append,List.length_take,List.length_drop];show min k bs.length+1+(bs.length - k)≤31;omega
  have told:∀ {H3:Hp} {p1 p2:Addr} {y:Int},Same H H3→H3 p1=some (.lst ((bs.map V.int).take k))→H3 p2=some (.lst [V.int y])→(fault=0→False)→risesB (bs.take k++[y]++bs.drop k) (m:Int)=false→
    rCat (.ref p1) (.ref p2) H3 fun x H1=>tSl (rSlL K) (tVar 0) (tPart (tVar 4)) tNoPart [some (.ref ls),some (.int fault),some (.ref dn),some (.int (m:Int)),some (.int (k:Int))] H1 fun y H2=>rCat x y H2 Q:=fun {H3 p1 p2 y} s3 h1 h2 hf hr=>by
   refine ⟨p1,p2,_,_,rfl,rfl,h1,h2,Nat.le_of_lt (small1000 (by show ((bs.map V.int).take k).length+1≤1000;omega)),fun p3 hp3=>?_⟩
   have u3:=Same.rfl'.new hp3 (o:=.lst ((bs.map V.int).take k++[V.int y]))
   refine ⟨_,rfl,_,rfl,(k:Int),rfl,ls,_,rfl,SqL.of (u3 _ _ (s3 _ _ hb)),fun p4 hp4=>?_⟩
   rw [cut_drop]
   have u4:=Same.rfl'.new hp4 (o:=.lst ((bs.map V.int).drop k))
   refine ⟨p3,p4,_,_,rfl,rfl,u4 _ _ upd_same,upd_same,Nat.le_of_lt (small1000 (by rw [List.length_append];show ((bs.map V.int).take k).length+1+((bs.map V.int).drop k).length≤1000;omega)),fun p5 hp5=>?_⟩
   refine kQ _ p5 (bs.take k++[y]++bs.drop k) (s3.tr (u3.tr (u4.tr (Same.rfl'.new hp5)))) ?_ ?_ (fun z=>(hf z).elim) fun _=>hr
   ·rw [LI,upd_same,ct,cd,List.map_append,List.map_append]
    rfl
   ·exact l3 y
  refine ⟨_,rfl,rfl,_,rfl,ite2 (fun h1=>⟨_,rfl,ls,_,rfl,.inl (SqL.of hb),_,_,rfl,rfl,_,rfl,ite2 (fun h2=>?_) (fun _=>?_)⟩) (fun _=>iteF ?_)⟩
  ·have f1:fault=1:=by
    rw [dec_int] at h1
    exact of_decide_eq_true h1
   have h2:=of_decide_eq_true h2
   rw [List.length_map] at h2
   obtain ⟨y,hy,hym⟩:∃ y:Int,atI (bs.map V.int) ((k:Int) - 1)=some (.int y)∧y∈bs:=by
    by_cases hk0:k=0
    ·obtain ⟨r,y,e⟩:∃ r y,bs=r++[y]:=⟨bs.dropLast,bs.getLast (by intro z;rw [z] at h2;simp at h2),(List.dropLast_concat_getLast _).symm⟩
     refine ⟨y,?_,by rw [e];simp⟩
     rw [hk0,e,List.map_append]
     exact atI_last _ _
    ·refine ⟨bs[k - 1]'(by omega),?_,List.getElem_mem _⟩
     rw [show (k:Int) - 1=((k - 1:Nat):Int) by omega]
     exact atI_nat (by rw [List.getElem?_map,List.getElem?_eq_getElem (by omega)];rfl)
   refine ⟨_,rfl,_,rfl,(k:Int),rfl,ls,_,rfl,SqL.of hb,fun p1 hp1=>?_⟩
   rw [cut_take]
   have u1:=Same.rfl'.new hp1 (o:=.lst ((bs.map V.int).take k))
   refine ⟨_,rfl,_,rfl,_,_,rfl,rfl,ls,_,_,_,rfl,rfl,SqL.of (u1 _ _ hb),hy,by show 1≤sizeLine;decide,fun p2 hp2=>?_⟩
   have u2:=Same.rfl'.new hp2 (o:=.lst [V.int y])
   exact told (u1.tr u2) (u2 _ _ upd_same) upd_same (fun z=>by omega) (no_dup hym)
  all_goals
   refine ⟨_,rfl,rfl,_,rfl,ite2 (fun h1=>⟨_,rfl,ls,_,rfl,.inl (SqL.of hb),_,_,rfl,rfl,_,rfl,ite2 (fun h2=>?_) (fun _=>?_)⟩) (fun _=>iteF ?_)⟩
   ·have f1:fault=2:=by
     rw [dec_int] at h1
     exact of_decide_eq_true h1
    have h2:=of_decide_eq_true h2
    rw [List.length_map] at h2
    refine ⟨_,rfl,ls,_,rfl,SqL.of hb,fun d hd=>?_⟩
    exact kQ _ d bs.reverse (Same.rfl'.new hd) (by rw [LI,upd_same,List.map_reverse]) (by rw [List.length_reverse];omega) (fun z=>by omega) fun _=>no_rev (by omega) (risesB_iff.mp hrb).1
   all_goals
    refine ⟨_,rfl,_,_,rfl,rfl,_,rfl,ite2 (fun h1=>?_) (fun h1=>?_)⟩
    ·have f1:=of_decide_eq_true h1
     refine ⟨_,rfl,_,rfl,(k:Int),rfl,ls,_,rfl,SqL.of hb,fun p1 hp1=>?_⟩
     rw [cut_take]
     have u1:=Same.rfl'.new hp1 (o:=.lst ((bs.map V.int).take k))
     have hp1v:(upd H p1 (.lst ((bs.map V.int).take k))) p1=some (.lst ((bs.map V.int).take k)):=upd_same
     generalize upd H p1 (.lst ((bs.map V.int).take k))=H1 at u1 hp1v
     have c7:=hcb (cs[7]'(by omega)) (List.getElem_mem _)
     have dn1:=u1 _ _ hdn
     refine ⟨_,rfl,_,rfl,_,_,rfl,rfl,cpow59,_,_,rfl,rfl,_,rfl,_,rfl,dn,_,_,_,rfl,rfl,SqL.of dn1,atI_nat (j:=7) (cat 7 (by omega)),_,_,rfl,rfl,cpow53,_,_,rfl,rfl,.inl ⟨by omega,by omega⟩,_,_,rfl,rfl,by show 3≤sizeLine;decide,fun t ht=>?_⟩
     have hneg:(-1:Int) - (cs[7]'(by omega))*10 ^ (53:Int).toNat < 0:=by
      have:=Int.mul_nonneg c7.1 (Int.le_of_lt lim53)
      omega
     have hbig:=lim59'
     generalize (-1:Int) - (cs[7]'(by omega))*10 ^ (53:Int).toNat=v3 at hneg ht ⊢
     generalize (10:Int) ^ (59:Int).toNat=big at hbig ht ⊢
     have ut:=Same.rfl'.new ht (o:=.lst [V.int (m:Int),V.int ((m:Int)+big),V.int v3])
     have htv:(upd H1 t (.lst [V.int (m:Int),V.int ((m:Int)+big),V.int v3])) t=some (.lst [V.int (m:Int),V.int ((m:Int)+big),V.int v3]):=upd_same
     generalize upd H1 t (.lst [V.int (m:Int),V.int ((m:Int)+big),V.int v3])=H2 at ut htv
     obtain ⟨j,hj3,ej⟩:∃ j:Nat,j < 3∧(cs[7]'(by omega)) % 3=(j:Int):=⟨((cs[7]'(by omega)) % 3).toNat,by omega,by omega⟩
     obtain ⟨y,hy,hyo⟩:∃ y:Int,([V.int (m:Int),V.int ((m:Int)+big),V.int v3]:List V)[j]?=some (.int y)∧¬ (0≤y∧y < (m:Int)):=by
      match j,hj3 with
      | 0,_=>exact ⟨_,rfl,by omega⟩
      | 1,_=>exact ⟨_,rfl,by omega⟩
      | 2,_=>exact ⟨_,rfl,by omega⟩
     have gj:atI ([V.int (m:Int),V.int ((m:Int)+big),V.int v3]:List V) ((cs[7]'(by omega)) % 3)=some (.int y):=by
      rw [ej]
      exact atI_nat hy
     refine ⟨_,rfl,dn,_,_,_,rfl,rfl,SqL.of (ut _ _ dn1),atI_nat (j:=7) (cat 7 (by omega)),_,_,rfl,rfl,(by show (0:Int) < 3;decide),t,_,_,_,rfl,rfl,SqL.of htv,gj,by show 1≤sizeLine;decide,fun p2 hp2=>?_⟩
     have u2:=Same.rfl'.new hp2 (o:=.lst [V.int y])
     exact told ((u1.tr ut).tr u2) (u2 _ _ (ut _ _ hp1v)) upd_same (fun z=>by omega) (no_out (y:=y) (by simp) hyo)
    ·have f1:¬ 0 < fault:=fun z=>h1 (decide_eq_true z)
     exact ⟨_,rfl,kQ _ ls bs Same.rfl' hb (by omega) (fun _=>rfl) (fun z=>absurd z f1)⟩
end
end K26
namespace K26
open PySem L2 XM
structure Hd (H H':Hp) (d:Addr) (zs:List V):Prop where
 same:Same H H'
 fr:H d=none
 hl:H' d=some (.lst zs)
 it:∀ x∈zs,∃ a g,x=.ref a∧LI H' a g∧(1≤g.length∧g.length≤24)∧a≠d
theorem Hd.up {H H' H'':Hp} {d:Addr} {zs:List V} (h:Hd H H' d zs) (s:Same H' H''):Hd H H'' d zs:=
 ⟨h.same.tr s,h.fr,s _ _ h.hl,fun x hx=>by
  obtain ⟨a,g,e,h1,h2,h3⟩:=h.it x hx
  exact ⟨a,g,e,s _ _ h1,h2,h3⟩⟩
theorem Hd.put {H H':Hp} {d:Addr} {zs:List V} (h:Hd H H' d zs) (ys:List V) (hy:∀ x∈ys,x∈zs∨∃ a g,x=.ref a∧LI H' a g∧(1≤g.length∧g.length≤24)∧a≠d):Hd H (upd H' d (.lst ys)) d ys:=
 ⟨fun b o e=>by rw [upd_ne (ne_of_none e h.fr)];exact h.same _ _ e,h.fr,upd_same,fun x hx=>by
  rcases hy x hx with hz | ⟨a,g,e,h1,h2,h3⟩
  ·obtain ⟨a,g,e,h1,h2,h3⟩:=h.it x hz
   exact ⟨a,g,e,by rw [LI,upd_ne h3];exact h1,h2,h3⟩
  ·exact ⟨a,g,e,by rw [LI,upd_ne h3];exact h1,h2,h3⟩⟩
theorem Hd.new {H H':Hp} {d d':Addr} {zs:List V} (h:Hd H H' d zs) (hd:H' d'=none) (ys:List V) (hy:∀ x∈ys,x∈zs∨∃ a g,x=.ref a∧LI H' a g∧(1≤g.length∧g.length≤24)):Hd H (upd H' d' (.lst ys)) d' ys:=
 ⟨h.same.tr (Same.rfl'.new hd),h.same.free hd,upd_same,fun x hx=>by
  rcases hy x hx with hz | ⟨a,g,e,h1,h2⟩
  ·obtain ⟨a,g,e,h1,h2,_⟩:=h.it x hz
   have ne:=ne_of_none h1 hd
   exact ⟨a,g,e,by rw [LI,upd_ne ne];exact h1,h2,ne⟩
  ·have ne:=ne_of_none h1 hd
   exact ⟨a,g,e,by rw [LI,upd_ne ne];exact h1,h2,ne⟩⟩
theorem Hd.out {H H':Hp} {d:Addr} {zs:List V} (h:Hd H H' d zs):∃ hss,LS H' zs hss∧∀ g∈hss,g.length≤24:=
 itm_ls fun x hx=>by
  obtain ⟨a,g,e,h1,h2,_⟩:=h.it x hx
  exact ⟨a,g,e,h1,h2.2⟩
section
variable {P:Program} {w:World} {K:W.Frag} {mg:Str→Option Value} {base:Heap} {CE CS CQ CT:Addr}
inductive spSpHI  (vs:List V) (H:Hp) (Q:VK) (E:XK):Prop
 | mk (la dn:Addr) (xs:List V) (fault q:Int) (cs:List Int):(vs=[.ref la,.int fault,.ref dn,.int q])→(H la=some (.lst xs))→((∀ x∈xs,HI H x))→(xs.length≤10)→(LI H dn cs)→(cs.length=63)→(1≤q)→(∀ (H':Hp) (d:Addr) (zs:List V),Hd H H' d zs→zs.length≤20→Q (.ref d) H')→spSpHI  vs H Q E
def spSpH  : Sp:=fun vs H Q E=>spSpHI  vs H Q E
theorem scSpH:FnScope ["huddles", "fault", "numbers", "quarters", "made", "at", "quarter"] ["huddles", "fault", "numbers", "quarters"] (defScope sSpHuddles):=⟨rfl,rfl,rfl,by decide +kernel,rfl,by decide +kernel,by decide +kernel⟩
theorem ok_spH {f:Addr} {fd:FuncData} (T:Txt K mg CE CS CQ CT) (F:Fun K "_law_spoilt_huddles" "_law_spoilt_huddles" sSpHuddles f fd):FnOk P w K mg base CX0 1 f fd ["huddles", "fault", "numbers", "quarters"] spSpH:=by
 refine F.ok scSpH (fun vs H Q E h=>?_) (fun cdv A outer s H vs Q E hr h=>?_)
 ·obtain ⟨la,dn,xs,fault,q,cs,rfl,_⟩:=h
  rfl
 ·obtain ⟨la,dn,xs,fault,q,cs,rfl,hla,hit,hx10,hdn,hcl,hq1,kQ⟩:=h
  have hu:=hr.units
  have nd0:((["huddle"]:List Str)++([]:List Str)).Nodup:=by decide +kernel
  refine ⟨_,pss_cons (ps_comp (i:=4) (own:=["huddle"]) (caps:=[]) (cs:=[]) (sc:=defScope sSpHuddles) ⟨rfl,rfl,by decide +kernel,by decide +kernel,by decide +kernel,by decide +kernel,rfl⟩ rfl scSpH.nd rfl rfl rfl
    (pi_list (pv 0)) (fun _ _ _ _ _=>pg_name (i:=0) nd0 rfl (Or.inl rfl) (.inr rfl)) (fun _ _ _ _ _=>pf_nil) (fun _ _ _ _ _=>pe_callTy c_list (by rfl) T.list bt_list (pa_cons (pv 0) pa_nil)))
   (pss_cons (ps_set (i:=5) scSpH.nd rfl (Or.inl rfl) (pe_op op_mod (pe_ix ix_list (pv 2) pe_int (fun _ _=>rfl)) (pe_callB (call_max2 rfl) (by rfl) T.max boot_max (pa_cons pe_int (pa_cons (pe_callB c_len (by rfl) T.len PySem.boot_len (pa_cons (pv 4) pa_nil)) pa_nil)))))
   (pss_cons (ps_set (i:=6) scSpH.nd rfl (Or.inl rfl) (pe_op op_mod (pe_ix ix_list (pv 2) pe_int (fun _ _=>rfl)) (pv 3)))
   (pss_cons (ps_mid (ps_if (pt_cmpR op_eq (pv 1) pe_int (nomark _)) (pss_one (ps_expr (pe_bm PySem.F.plainAttrs_list PySem.F.slot_list_append PySem.F.type_list_append mt_append (pv 4) (pa_cons (pe_lst (pa_cons (pv 6) pa_nil)) pa_nil)))) pss_nil))
   (pss_cons (ps_mid (ps_if (pw_and (pt_cmpR op_eq (pv 1) pe_int (nomark _)) (pw_and1 (pt_cmpR op_gt (pe_callB c_len (by rfl) T.len PySem.boot_len (pa_cons (pv 4) pa_nil)) pe_int (nomark _)))).pt (pss_one (ps_expr (pe_bm PySem.F.plainAttrs_list PySem.F.slot_list_append PySem.F.type_list_append mt_append (pv 4) (pa_cons (pe_callTy c_list (by rfl) T.list bt_list (pa_cons (pe_ix ix_list (pv 4) (pv 5) (fun _ _=>rfl)) pa_nil)) pa_nil)))) pss_nil))
   (pss_cons (ps_mid (ps_if (pt_cmpR op_eq (pv 1) pe_int (nomark _)) (pss_one (ps_set (i:=4) scSpH.nd rfl (Or.inl rfl) (pe_listRev rfl (by rfl) T.list (by rfl) T.rev (pv 4)))) pss_nil))
   (pss_cons (ps_mid (ps_if (pt_cmpR op_eq (pv 1) pe_int (nomark _)) (pss_one (ps_set (i:=4) scSpH.nd rfl (Or.inl rfl) (pe_op op_cat (pv 4) (pe_lst (pa_cons (pe_lst (pa_cons (pv 6) (pa_cons (pe_op op_add (pv 3) (pe_op op_mod (pe_ix ix_list (pv 2) pe_int (fun _ _=>rfl)) pe_int)) pa_nil))) pa_nil))))) pss_nil))
   (pss_cons (ps_mid (ps_if (pw_and (pt_cmpR op_eq (pv 1) pe_int (nomark _)) (pw_and1 (pt_cmpR op_gt (pe_callB c_len (by rfl) T.len PySem.boot_len (pa_cons (pv 4) pa_nil)) pe_int (nomark _)))).pt (pss_one (ps_set (i:=4) scSpH.nd rfl (Or.inl rfl) (pe_callB (c_sortL hu) (by rfl) T.sorted boot_sorted (pa_cons (pe_op op_cat (pv 4) (pe_lst (pa_cons (pe_callB c_sortI (by rfl) T.sorted boot_sorted (pa_cons (pe_lst (pa_cons (pe_ix ix_list (pe_ix ix_list (pv 4) (pv 5) (fun _ _=>rfl)) (pe_un un_neg pe_int) (fun _ _=>rfl)) (pa_cons (pv 6) pa_nil))) pa_nil)) pa_nil))) pa_nil)))) pss_nil))
   (pss_cons (ps_mid (ps_if (pw_and (pt_cmpR op_eq (pv 1) pe_int (nomark _)) (pw_and1 (pt_cmpR op_gt (pe_callB c_len (by rfl) T.len PySem.boot_len (pa_cons (pv 4) pa_nil)) pe_int (nomark _)))).pt (pss_one (ps_asg (pe_listRev rfl (by rfl) T.list (by rfl) T.rev (pe_ix ix_list (pv 4) (pv 5) (fun _ _=>rfl))) (pg_sub (pv 4) (pv 5) set_list))) pss_nil))
   (pss_cons (ps_mid (ps_if (pt_cmpR op_eq (pv 1) pe_int (nomark _)) (pss_one (ps_set (i:=4) scSpH.nd rfl (Or.inl rfl) (pe_op op_cat (pe_lst (pa_cons (pe_lst (pa_cons (pe_op op_sub (pe_un un_neg pe_int) (pe_ix ix_list (pv 2) pe_int (fun _ _=>rfl))) (pa_cons (pv 6) pa_nil))) pa_nil)) (pv 4)))) pss_nil))
   (pss_one (ps_ret (pv 4)))))))))))),?_⟩
  try dsimp only [cx_of,cx_nox,cx_comp]
  have cat:∀ j:Nat,(h:j < 63)→(cs.map V.int)[j]?=some (.int (cs[j]'(by omega))):=fun j h=>by rw [List.getElem?_map,List.getElem?_eq_getElem (by omega)];rfl
  refine ⟨_,rfl,la,rfl,⟨_,SqL.of hla⟩,fun d hd=>?_⟩
  refine comp_gen (n:=xs.length) (fun i ys H1=>Hd H H1 d ys∧ys.length=i) ⟨⟨Same.rfl'.new hd,hd,upd_same,fun x hx=>by simp at hx⟩,rfl⟩ (fun i ys H1 hi hv=>?_) (fun i ys H1 hi hv=>?_) (fun ys H1 hv=>?_)
  ·rw [hv.2]
   exact small1000 (by omega)
  ·obtain ⟨O,hyl⟩:=hv
   have hxi:xs[i]?=some xs[i]:=List.getElem?_eq_getElem hi
   obtain ⟨a,g,ea,hag,hgl1,hgl2⟩:=hit _ (List.mem_of_getElem? hxi)
   rw [ea] at hxi
   refine ⟨⟨_,_,SqL.of (O.same _ _ hla),hxi⟩,fun K1 k1 x H' y=>?_⟩
   obtain ⟨rfl,e⟩:=y
   have ex:=e _ (SqL.of (O.same _ _ hla))
   rw [hxi] at ex
   cases ex
   refine ⟨rfl,_,rfl,a,_,rfl,.inl (SqL.of (O.same _ _ hag)),fun l hl=>k1 _ _ ((Same.rfl'.new hl) _ _ O.hl) ⟨?_,by rw [List.length_append,hyl];rfl⟩⟩
   have nl:l≠d:=Ne.symm (ne_of_none O.hl hl)
   refine (O.up (Same.rfl'.new hl)).put _ fun x hx=>?_
   rcases List.mem_append.mp hx with h | h
   ·exact .inl h
   ·exact .inr ⟨l,g,List.mem_singleton.mp h,upd_same,⟨hgl1,hgl2⟩,nl⟩
  obtain ⟨O1,hyl⟩:=hv
  refine ⟨⟨_,SqL.of (O1.same _ _ hla),by omega⟩,?_⟩
  refine ⟨_,rfl,dn,_,_,_,rfl,rfl,SqL.of (O1.same _ _ hdn),atI_nat (j:=6) (cat 6 (by omega)),_,rfl,d,_,rfl,.inl (SqL.of O1.hl),_,_,rfl,_,_,rfl,rfl,?_,?_⟩
  ·show (0:Int) < if ((ys.length:Nat):Int) > 1 then ((ys.length:Nat):Int) else 1
   split <;> omega
  obtain ⟨k,ek,hk⟩:∃ k:Nat,(cs[6]'(by omega)) % (if ((ys.length:Nat):Int) > 1 then ((ys.length:Nat):Int) else 1)=(k:Int)∧(k=0∨k < xs.length):=by
   have hpos:(0:Int) < if ((ys.length:Nat):Int) > 1 then ((ys.length:Nat):Int) else 1:=by split <;> omega
   have h1:=Int.emod_nonneg (cs[6]'(by omega)) (Int.ne_of_gt hpos)
   have h2:=Int.emod_lt_of_pos (cs[6]'(by omega)) hpos
   refine ⟨((cs[6]'(by omega)) % (if ((ys.length:Nat):Int) > 1 then ((ys.length:Nat):Int) else 1)).toNat,by omega,?_⟩
   split at h2 <;> rename_i hc <;> simp only [hc,if_true,if_false] at h1 ⊢ <;> omega
  show gName 5 (V.int ((cs[6]'(by omega)) % (if ((ys.length:Nat):Int) > 1 then ((ys.length:Nat):Int) else 1))) _ _ _
  rw [ek]
  refine ⟨_,rfl,dn,_,_,_,rfl,rfl,SqL.of (O1.same _ _ hdn),atI_nat (j:=7) (cat 7 (by omega)),_,rfl,_,_,rfl,rfl,(by show (0:Int) < q;omega),?_⟩
  obtain ⟨qr,hqr⟩:∃ qr,(cs[7]'(by omega)) % q=qr:=⟨_,rfl⟩
  show gName 6 (V.int ((cs[7]'(by omega)) % q)) _ _ _
  rw [hqr]
  refine ⟨fun σ' H'=>∃ d zs,σ'=[some (.ref la),some (.int fault),some (.ref dn),some (.int q),some (.ref d),some (.int (k:Int)),some (.int qr)]∧Hd H H' d zs∧xs.length≤zs.length∧zs.length≤11,?_,?_⟩
  rotate_left
  ·refine ⟨_,rfl,rfl,_,rfl,ite2 (fun _=>?_) (fun _=>⟨d,ys,rfl,O1,by omega,by omega⟩)⟩
   refine ⟨_,rfl,.inl ⟨rfl,_,SqL.of O1.hl⟩,_,rfl,by show 1≤sizeLine;decide,fun t ht=>?_⟩
   have O2:=O1.up (Same.rfl'.new ht (o:=.lst [V.int qr]))
   have nt:t≠d:=Ne.symm (ne_of_none O1.hl ht)
   refine ⟨d,_,_,rfl,rfl,O2.hl,small1000 (by omega),d,_,rfl,O2.put _ fun x hx=>?_,by rw [List.length_append];omega,by rw [List.length_append];show ys.length+1≤11;omega⟩
   rcases List.mem_append.mp hx with h | h
   ·exact .inl h
   ·exact .inr ⟨t,[qr],List.mem_singleton.mp h,upd_same,⟨Nat.le_refl _,by show 1≤24;omega⟩,nt⟩
  rintro σ2 H2 ⟨d2,z2,rfl,O2,la2,lb2⟩
  clear O1 hyl
  refine ⟨fun σ' H'=>∃ d zs,σ'=[some (.ref la),some (.int fault),some (.ref dn),some (.int q),some (.ref d),some (.int (k:Int)),some (.int qr)]∧Hd H H' d zs∧xs.length≤zs.length∧zs.length≤12,?_,?_⟩
  rotate_left
  ·refine ⟨_,rfl,rfl,_,rfl,ite2 (fun _=>⟨_,rfl,d2,_,rfl,.inl (SqL.of O2.hl),_,_,rfl,rfl,_,rfl,ite2 (fun h=>?_) (fun _=>⟨d2,z2,rfl,O2,la2,by omega⟩)⟩) (fun _=>iteF ⟨d2,z2,rfl,O2,la2,by omega⟩)⟩
   have h:=of_decide_eq_true h
   obtain ⟨x,hx⟩:∃ x,z2[k]?=some x:=⟨_,List.getElem?_eq_getElem (by omega)⟩
   obtain ⟨a,g,rfl,hag,hgl,hne⟩:=O2.it x (List.mem_of_getElem? hx)
   refine ⟨_,rfl,.inl ⟨rfl,_,SqL.of O2.hl⟩,_,rfl,_,rfl,d2,_,_,_,rfl,rfl,SqL.of O2.hl,atI_nat hx,a,_,rfl,.inl (SqL.of hag),fun t ht=>?_⟩
   have O3:=O2.up (Same.rfl'.new ht (o:=.lst (g.map V.int)))
   have nt:t≠d2:=Ne.symm (ne_of_none O2.hl ht)
   refine ⟨d2,_,_,rfl,rfl,O3.hl,small1000 (by omega),d2,_,rfl,O3.put _ fun x hx=>?_,by rw [List.length_append];omega,by rw [List.length_append];show z2.length+1≤12;omega⟩
   rcases List.mem_append.mp hx with h | h
   ·exact .inl h
   ·exact .inr ⟨t,g,List.mem_singleton.mp h,upd_same,hgl,nt⟩
  rintro σ3 H3 ⟨d3,z3,rfl,O3,la3,lb3⟩
  clear O2 la2 lb2
  refine ⟨fun σ' H'=>∃ d zs,σ'=[some (.ref la),some (.int fault),some (.ref dn),some (.int q),some (.ref d),some (.int (k:Int)),some (.int qr)]∧Hd H H' d zs∧xs.length≤zs.length∧zs.length≤12,?_,?_⟩
  rotate_left
  ·refine ⟨_,rfl,rfl,_,rfl,ite2 (fun _=>?_) (fun _=>⟨d3,z3,rfl,O3,la3,lb3⟩)⟩
   refine ⟨_,rfl,d3,_,rfl,SqL.of O3.hl,fun t ht=>?_⟩
   exact ⟨t,_,rfl,O3.new ht _ fun x hx=>.inl (List.mem_reverse.mp hx),by rw [List.length_reverse];exact la3,by rw [List.length_reverse];exact lb3⟩
  rintro σ4 H4 ⟨d4,z4,rfl,O4,la4,lb4⟩
  clear O3 la3 lb3
  refine ⟨fun σ' H'=>∃ d zs,σ'=[some (.ref la),some (.int fault),some (.ref dn),some (.int q),some (.ref d),some (.int (k:Int)),some (.int qr)]∧Hd H H' d zs∧xs.length≤zs.length∧zs.length≤13,?_,?_⟩
  rotate_left
  ·refine ⟨_,rfl,rfl,_,rfl,ite2 (fun _=>?_) (fun _=>⟨d4,z4,rfl,O4,la4,by omega⟩)⟩
   refine ⟨_,rfl,_,rfl,_,rfl,_,rfl,dn,_,_,_,rfl,rfl,SqL.of (O4.same _ _ hdn),atI_nat (j:=6) (cat 6 (by omega)),_,_,rfl,rfl,(by show (0:Int) < 3;decide),_,_,rfl,rfl,by show 2≤sizeLine;decide,fun p1 hp1=>⟨by show 1≤sizeLine;decide,fun p2 hp2=>?_⟩⟩
   have O5:=(O4.up (Same.rfl'.new hp1 (o:=.lst [V.int qr,V.int (q+(cs[6]'(by omega)) % 3)]))).up (Same.rfl'.new hp2 (o:=.lst [V.ref p1]))
   refine ⟨d4,p2,_,_,rfl,rfl,O5.hl,upd_same,Nat.le_of_lt (small1000 (by show z4.length+1≤1000;omega)),fun p3 hp3=>?_⟩
   refine ⟨p3,_,rfl,O5.new hp3 _ fun x hx=>?_,by rw [List.length_append];omega,by rw [List.length_append];show z4.length+1≤13;omega⟩
   rcases List.mem_append.mp hx with h | h
   ·exact .inl h
   ·exact .inr ⟨p1,[qr,q+(cs[6]'(by omega)) % 3],List.mem_singleton.mp h,(Same.rfl'.new hp2 (o:=.lst [V.ref p1])) _ _ upd_same,by show 1≤2;omega,by show 2≤24;omega⟩
  rintro σ5 H5 ⟨d5,z5,rfl,O5,la5,lb5⟩
  clear O4 la4 lb4
  refine ⟨fun σ' H'=>∃ d zs,σ'=[some (.ref la),some (.int fault),some (.ref dn),some (.int q),some (.ref d),some (.int (k:Int)),some (.int qr)]∧Hd H H' d zs∧xs.length≤zs.length∧zs.length≤14,?_,?_⟩
  rotate_left
  ·refine ⟨_,rfl,rfl,_,rfl,ite2 (fun _=>⟨_,rfl,d5,_,rfl,.inl (SqL.of O5.hl),_,_,rfl,rfl,_,rfl,ite2 (fun h=>?_) (fun _=>⟨d5,z5,rfl,O5,la5,by omega⟩)⟩) (fun _=>iteF ⟨d5,z5,rfl,O5,la5,by omega⟩)⟩
   have h:=of_decide_eq_true h
   obtain ⟨x,hx⟩:∃ x,z5[k]?=some x:=⟨_,List.getElem?_eq_getElem (by omega)⟩
   obtain ⟨a,g,rfl,hag,hgl,hne⟩:=O5.it x (List.mem_of_getElem? hx)
   obtain ⟨r,y,e⟩:∃ r y,g=r++[y]:=⟨g.dropLast,g.getLast (by intro z;rw [z] at hgl;simp at hgl),(List.dropLast_concat_getLast _).symm⟩
   have hlast:atI (g.map V.int) (-1)=some (.int y):=by
    rw [e,List.map_append]
    exact atI_last _ _
   refine ⟨_,rfl,_,rfl,_,rfl,d5,_,_,_,rfl,rfl,SqL.of O5.hl,atI_nat hx,_,rfl,a,_,_,_,rfl,rfl,SqL.of hag,hlast,_,rfl,by show 2≤sizeLine;decide,fun p0 hp0=>?_⟩
   have O6:=O5.up (Same.rfl'.new hp0 (o:=.lst [V.int y,V.int qr]))
   refine ⟨p0,[y,qr],rfl,SqL.of upd_same,by show 2 < 64;decide,fun p1 ns' hp1 hpm _=>⟨by show 1≤sizeLine;decide,fun p2 hp2=>?_⟩⟩
   have O7:=(O6.up (Same.rfl'.new hp1 (o:=.lst (ns'.map V.int)))).up (Same.rfl'.new hp2 (o:=.lst [V.ref p1]))
   refine ⟨d5,p2,_,_,rfl,rfl,O7.hl,upd_same,Nat.le_of_lt (small1000 (by show z5.length+1≤1000;omega)),fun p3 hp3=>?_⟩
   have hnl:ns'.length=2:=by rw [hpm.length_eq];rfl
   have O8:=O7.new hp3 (z5++[V.ref p1]) fun x hx=>by
    rcases List.mem_append.mp hx with h | h
    ·exact .inl h
    ·exact .inr ⟨p1,ns',List.mem_singleton.mp h,(Same.rfl'.new hp2 (o:=.lst [V.ref p1])) _ _ upd_same,by omega,by omega⟩
   have hI:∀ x∈z5++[V.ref p1],Itm _ 24 x:=fun x hx=>by
    obtain ⟨a,g',e,ha,hl',hne⟩:=O8.it x hx
    exact ⟨a,g',e,ha,hl'.2⟩
   obtain ⟨nss,hn1,hn2⟩:=itm_sorted (K:=K) hI
   refine ⟨p3,_,nss,rfl,SqL.of O8.hl,hn1,hn2,by rw [List.length_append];show z5.length+1 < 64;omega,fun t l ht hp=>?_⟩
   refine ⟨t,_,rfl,O8.new ht _ fun x hx=>.inl (mem_sel hp hx),?_,?_⟩
   ·rw [List.length_map,hp.length_eq,List.length_range,List.length_append]
    omega
   ·rw [List.length_map,hp.length_eq,List.length_range,List.length_append]
    show z5.length+1≤14
    omega
  rintro σ6 H6 ⟨d6,z6,rfl,O6,la6,lb6⟩
  clear O5 la5 lb5
  refine ⟨fun σ' H'=>∃ d zs,σ'=[some (.ref la),some (.int fault),some (.ref dn),some (.int q),some (.ref d),some (.int (k:Int)),some (.int qr)]∧Hd H H' d zs∧xs.length≤zs.length∧zs.length≤14,?_,?_⟩
  rotate_left
  ·refine ⟨_,rfl,rfl,_,rfl,ite2 (fun _=>⟨_,rfl,d6,_,rfl,.inl (SqL.of O6.hl),_,_,rfl,rfl,_,rfl,ite2 (fun h=>?_) (fun _=>⟨d6,z6,rfl,O6,la6,lb6⟩)⟩) (fun _=>iteF ⟨d6,z6,rfl,O6,la6,lb6⟩)⟩
   have h:=of_decide_eq_true h
   obtain ⟨x,hx⟩:∃ x,z6[k]?=some x:=⟨_,List.getElem?_eq_getElem (by omega)⟩
   obtain ⟨a,g,rfl,hag,hgl,hne⟩:=O6.it x (List.mem_of_getElem? hx)
   refine ⟨_,rfl,_,rfl,d6,_,_,_,rfl,rfl,SqL.of O6.hl,atI_nat hx,a,_,rfl,SqL.of hag,fun t ht=>?_⟩
   have O7:=O6.up (Same.rfl'.new ht (o:=.lst (g.map V.int).reverse))
   have nt:t≠d6:=Ne.symm (ne_of_none O6.hl ht)
   refine ⟨_,rfl,_,rfl,d6,_,_,k,rfl,rfl,O7.hl,ixN_at (by omega),d6,_,rfl,O7.put _ fun x hx=>?_,by rw [List.length_set];exact la6,by rw [List.length_set];exact lb6⟩
   rcases mem_set2 hx with h | h
   ·exact .inl h
   ·exact .inr ⟨t,g.reverse,h,by rw [LI,upd_same,List.map_reverse],by rw [List.length_reverse];exact hgl,nt⟩
  rintro σ7 H7 ⟨d7,z7,rfl,O7,la7,lb7⟩
  clear O6 la6 lb6
  refine ⟨fun σ' H'=>∃ d zs,σ'=[some (.ref la),some (.int fault),some (.ref dn),some (.int q),some (.ref d),some (.int (k:Int)),some (.int qr)]∧Hd H H' d zs∧zs.length≤15,?_,?_⟩
  rotate_left
  ·refine ⟨_,rfl,rfl,_,rfl,ite2 (fun _=>?_) (fun _=>⟨d7,z7,rfl,O7,by omega⟩)⟩
   refine ⟨_,rfl,_,rfl,dn,_,_,_,rfl,rfl,SqL.of (O7.same _ _ hdn),atI_nat (j:=6) (cat 6 (by omega)),_,_,rfl,rfl,_,rfl,by show 2≤sizeLine;decide,fun p1 hp1=>⟨by show 1≤sizeLine;decide,fun p2 hp2=>?_⟩⟩
   have O8:=(O7.up (Same.rfl'.new hp1 (o:=.lst [V.int (-1 - (cs[6]'(by omega))),V.int qr]))).up (Same.rfl'.new hp2 (o:=.lst [V.ref p1]))
   refine ⟨_,rfl,p2,d7,_,_,rfl,rfl,upd_same,O8.hl,Nat.le_of_lt (small1000 (by show 1+z7.length≤1000;omega)),fun p3 hp3=>?_⟩
   refine ⟨p3,_,rfl,O8.new hp3 _ fun x hx=>?_,by rw [List.length_append];show 1+z7.length≤15;omega⟩
   rcases List.mem_append.mp hx with h | h
   ·exact .inr ⟨p1,[-1 - (cs[6]'(by omega)),qr],List.mem_singleton.mp h,(Same.rfl'.new hp2 (o:=.lst [V.ref p1])) _ _ upd_same,by show 1≤2;omega,by show 2≤24;omega⟩
   ·exact .inl h
  rintro σ8 H8 ⟨d8,z8,rfl,O8,lb8⟩
  exact ⟨_,rfl,kQ _ d8 z8 O8 (by omega)⟩
end
end K26
namespace K26
open PySem L2 XM
def scIn:Scope:={ kind:=.function,names:=[(".0",.local),("bridge",.cell),("any",.globalImplicit),("dealing",.cell)],isGenerator:=false,isCoroutine:=false,more:=[] }
theorem kit2 {K:W.Frag} {t a b:Value} (h1:W.kitOne K t a=some false) (h2:W.kitOne K t b=some false):W.kitAny K t [a,b]=some false:=kitAny_no fun x hx=>by
 simp only [List.mem_cons,List.not_mem_nil,or_false] at hx
 rcases hx with rfl | rfl <;> assumption
def inD (dss:List (List Int)) (b:Int):Bool:=dss.any fun g=>g.contains b
theorem inD_flat (dss:List (List Int)) (b:Int):inD dss b=dss.flatten.contains b:=by
 unfold inD
 rw [Bool.eq_iff_iff,List.any_eq_true,List.contains_iff_mem,List.mem_flatten]
 exact ⟨fun ⟨g,h1,h2⟩=>⟨g,h1,List.contains_iff_mem.mp h2⟩,fun ⟨g,h1,h2⟩=>⟨g,h1,List.contains_iff_mem.mpr h2⟩⟩
theorem filtR_rb (n:Nat) (p:Nat→Bool):risesB (filtR n p) (n:Int)=true:=by
 rw [risesB_iff]
 unfold filtR
 refine ⟨?_,fun x hx=>?_⟩
 ·rw [List.pairwise_map]
  exact (List.pairwise_lt_range.sublist List.filter_sublist).imp fun h=>by omega
 ·obtain ⟨k,hk,rfl⟩:=List.mem_map.mp hx
  have:=List.mem_range.mp (List.mem_filter.mp hk).1
  omega
theorem filter_rb {bs:List Int} {m:Int} (p:Int→Bool) (h:risesB bs m=true):risesB (bs.filter p) m=true:=by
 rw [risesB_iff] at h ⊢
 exact ⟨h.1.sublist List.filter_sublist,fun x hx=>h.2 x (List.mem_filter.mp hx).1⟩
structure Cal (P:Program) (w:World) (K:W.Frag) (mg:Str→Option Value) (base:Heap) (lv:Nat) (nm:Str) (f:Addr) (fd:FuncData) (ns:List Str) (sp:Sp):Prop where
 ok:FnOk P w K mg base CX0 lv f fd ns sp
 bi:Binds K fd ns []
 nm:mg nm=some (.ref f)
 kp:W.keepIn K (.ref f)=true
structure Fs (P:Program) (w:World) (K:W.Frag) (mg:Str→Option Value) (base:Heap) (CT fI fN fT fD fH fE fG fS fR fZ fK fM fO:Addr) (dI dN dT dD dH dE dG dS dR dZ dK dM dO:FuncData):Prop where
 gI:FnOk P w K mg base CX0 4 fI dI ["self", "quarters", "bridges"] (spInit CT)
 bI:Binds K dI ["self", "quarters", "bridges"] []
 mkT:Mk K CT fI
 cN:Cal P w K mg base 1 "_law_numbers" fN dN ["script", "many"] (spNumbers K)
 cT:Cal P w K mg base 1 "_law_town" fT dT ["numbers", "most"] spTown
 cD:Cal P w K mg base 2 "_law_dealt_by" fD dD ["quarters", "pairs", "numbers", "crews"] spDealtBy
 cH:Cal P w K mg base 1 "_law_huddled_by" fH dH ["quarters", "numbers"] spHudBy
 cE:Cal P w K mg base 1 "_law_spoilt_dealing" fE dE ["held", "fault", "numbers", "many"] spSpD
 cG:Cal P w K mg base 1 "_law_spoilt_huddles" fG dG ["huddles", "fault", "numbers", "quarters"] spSpH
 cS:Cal P w K mg base 1 "_law_spoilt_some" fS dS ["some", "fault", "numbers", "many"] spSpS
 cR:Cal P w K mg base 8 "_law_refused" fR dR ["town", "some", "dealing", "huddles"] (spRefused CT)
 cZ:Cal P w K mg base 2 "_law_rises" fZ dZ ["found", "most"] spLRises
 cK:Cal P w K mg base 3 "_law_dealing" fK dK ["quarters", "pairs", "found", "crews"] spLDealing
 cM:Cal P w K mg base 3 "_law_huddles" fM dM ["quarters", "found"] spLHuddles
 cO:Cal P w K mg base 1 "_law_room" fO dO ["pairs", "some", "crews", "huddles"] spLRoom
section
variable {P:Program} {w:World} {K:W.Frag} {mg:Str→Option Value} {base:Heap} {CE CS CQ CT:Addr}
inductive spLawI (K:W.Frag) (vs:List V) (H:Hp) (Q:VK) (E:XK):Prop
 | mk (a:Addr) (ns:List Int):(vs=[.ref a])→(SqL K H a (ns.map V.int))→(ns.length≤63)→(∀ H',Q (.bl true) H')→spLawI K vs H Q E
def spLaw (K:W.Frag):Sp:=fun vs H Q E=>spLawI K vs H Q E
theorem scLaw:FnScope ["script", "numbers", "quarters", "pairs", "crews", "fault", "dealing", "huddles", "some", "handed", "town", "given", "found", "count"] ["script"] (defScope sLaw):=⟨rfl,rfl,rfl,by decide +kernel,rfl,by decide +kernel,by decide +kernel⟩
theorem ok_law {f fI fN fT fD fH fE fG fS fR fZ fK fM fO:Addr} {fd dI dN dT dD dH dE dG dS dR dZ dK dM dO:FuncData} (T:Txt K mg CE CS CQ CT) (F:Fun K "law" "law" sLaw f fd) (S:Fs P w K mg base CT fI fN fT fD fH fE fG fS fR fZ fK fM fO dI dN dT dD dH dE dG dS dR dZ dK dM dO) :
  FnOk P w K mg base CX0 9 f fd ["script"] (spLaw K):=by
 refine F.ok scLaw (fun vs H Q E h=>?_) (fun cdv A outer s H vs Q E hr h=>?_)
 ·obtain ⟨a,ns,rfl,_⟩:=h
  rfl
 ·obtain ⟨sc,ns0,rfl,hS,hn63,kQ⟩:=h
  have r1:=hr.mono (show 1≤8 by omega)
  have r2:=hr.mono (show 2≤8 by omega)
  have r3:=hr.mono (show 3≤8 by omega)
  have r5:=hr.mono (show 5≤8 by omega)
  have hu:=hr.units
  have nd0:((["bridge"]:List Str)++(["dealing"]:List Str)).Nodup:=by decide +kernel
  have nd1:((["held"]:List Str)++(["bridge"]:List Str)).Nodup:=by decide +kernel
  have nd2:((["bridge"]:List Str)++(["numbers"]:List Str)).Nodup:=by decide +kernel
  have nd3:((["held"]:List Str)++([]:List Str)).Nodup:=by decide +kernel
  have nd4:((["huddle"]:List Str)++([]:List Str)).Nodup:=by decide +kernel
  refine ⟨_,pss_cons (ps_set (i:=1) scLaw.nd rfl (Or.inr rfl) (pe_call S.cN.ok r1 (by rfl) S.cN.nm S.cN.kp S.cN.bi .nil pass0 (pa_cons (pv 0) (pa_cons pe_int pa_nil))))
   (pss_cons (ps_asg (pe_call S.cT.ok r1 (by rfl) S.cT.nm S.cT.kp S.cT.bi .nil pass0 (pa_cons (pv 1) (pa_cons pe_int pa_nil))) (pg_tup (n:=2) rfl (pgs_cons (pg_name (i:=2) scLaw.nd rfl (Or.inl rfl)) (pgs_cons (pg_name (i:=3) scLaw.nd rfl (Or.inl rfl)) pgs_nil))))
   (pss_cons (ps_set (i:=4) scLaw.nd rfl (Or.inl rfl) (pe_op op_mod (pe_ix ix_list (pv 1) pe_int (fun _ _=>rfl)) pe_int))
   (pss_cons (ps_set (i:=5) scLaw.nd rfl (Or.inl rfl) (pe_callB (call_max2 rfl) (by rfl) T.max boot_max (pa_cons pe_int (pa_cons (pe_op op_sub (pe_op op_mod (pe_ix ix_list (pv 1) pe_int (fun _ _=>rfl)) pe_int) pe_int) pa_nil))))
   (pss_cons (ps_set (i:=6) scLaw.nd rfl (Or.inr rfl) (pe_call S.cD.ok r2 (by rfl) S.cD.nm S.cD.kp S.cD.bi .nil pass0 (pa_cons (pv 2) (pa_cons (pv 3) (pa_cons (pv 1) (pa_cons (pv 4) pa_nil))))))
   (pss_cons (ps_set (i:=7) scLaw.nd rfl (Or.inl rfl) (pe_call S.cH.ok r1 (by rfl) S.cH.nm S.cH.kp S.cH.bi .nil pass0 (pa_cons (pv 2) (pa_cons (pv 1) pa_nil))))
   (pss_cons (ps_comp (i:=8) (own:=["bridge"]) (caps:=["numbers"]) (cs:=[1]) (sc:=defScope sLaw) ⟨rfl,rfl,by decide +kernel,by decide +kernel,by decide +kernel,by decide +kernel,rfl⟩ rfl scLaw.nd rfl rfl rfl
    (pi_range1 (by rfl) T.range (pa_cons (pe_callB c_len (by rfl) T.len PySem.boot_len (pa_cons (pv 3) pa_nil)) pa_nil)) (fun _ _ _ _ _=>pg_name (i:=0) nd2 rfl (Or.inl rfl) (.inr rfl))
    (fun _ _ _ _ _=>pf_one (pt_cmpR op_gt (pe_op op_mod (pe_op op_fdiv (pe_ix ix_list (pv 1) (pe_op op_add pe_int (pv 0)) (fun _ _=>rfl)) pe_int) pe_int) pe_int (nomark _))) (fun _ _ _ _ _=>pv 0))
   (pss_cons (ps_mid (ps_if (pt_cmpR op_eq (pe_op op_mod (pe_ix ix_list (pv 1) pe_int (fun _ _=>rfl)) pe_int) pe_int (nomark _)) (pss_cons (ps_set (i:=7) scLaw.nd rfl (Or.inl rfl) (pe_lst pa_nil)) (pss_one (ps_compN (i:=8) (own:=["bridge"]) (caps:=["dealing"]) (cs:=[6]) (sc:=defScope sLaw) ⟨rfl,rfl,by decide +kernel,by decide +kernel,by decide +kernel,by decide +kernel,rfl⟩ rfl scLaw.nd rfl rfl rfl
    (pi_list (pv 8)) (fun _ _ _ _ _=>pg_name (i:=0) nd0 rfl (Or.inr rfl) (.inl rfl))
    (fun _ _ _ _ _=>pf_one (pt_val (pe_callB (call_anyB rfl) (by rfl) T.any boot_any' (pa_cons (pe_comp (own:=["held"]) (caps:=["bridge"]) (cs:=[0]) (sc:=scIn) ⟨rfl,rfl,by decide +kernel,by decide +kernel,by decide +kernel,by decide +kernel,rfl⟩ rfl
     (pi_list (pv 1)) (fun _ _ _ _ _=>pg_name (i:=0) nd1 rfl (Or.inl rfl) (.inr rfl)) (fun _ _ _ _ _=>pf_nil) (fun _ _ _ _ _=>pe_cmpR op_in_seq (pv 1) (pv 0) rfl)) pa_nil))))
    (fun _ _ _ _ _=>pv 0)))) pss_nil))
   (pss_cons (ps_set (i:=6) scLaw.nd rfl (Or.inr rfl) (pe_call S.cE.ok r1 (by rfl) S.cE.nm S.cE.kp S.cE.bi .nil pass0 (pa_cons (pv 6) (pa_cons (pv 5) (pa_cons (pv 1) (pa_cons (pe_callB c_len (by rfl) T.len PySem.boot_len (pa_cons (pv 3) pa_nil)) pa_nil))))))
   (pss_cons (ps_set (i:=7) scLaw.nd rfl (Or.inl rfl) (pe_call S.cG.ok r1 (by rfl) S.cG.nm S.cG.kp S.cG.bi .nil pass0 (pa_cons (pv 7) (pa_cons (pv 5) (pa_cons (pv 1) (pa_cons (pv 2) pa_nil))))))
   (pss_cons (ps_set (i:=5) scLaw.nd rfl (Or.inl rfl) (pe_callB (call_max2 rfl) (by rfl) T.max boot_max (pa_cons pe_int (pa_cons (pe_op op_sub (pe_op op_mod (pe_op op_fdiv (pe_ix ix_list (pv 1) pe_int (fun _ _=>rfl)) pe_int) pe_int) pe_int) pa_nil))))
   (pss_cons (ps_set (i:=9) scLaw.nd rfl (Or.inl rfl) (pe_lst (pa_cons (pe_call S.cS.ok r1 (by rfl) S.cS.nm S.cS.kp S.cS.bi .nil pass0 (pa_cons (pv 8) (pa_cons (pv 5) (pa_cons (pv 1) (pa_cons (pe_callB c_len (by rfl) T.len PySem.boot_len (pa_cons (pv 3) pa_nil)) pa_nil))))) (pa_cons (pe_comp (own:=["held"]) (caps:=[]) (cs:=[]) (sc:=defScope sLaw) ⟨rfl,rfl,by decide +kernel,by decide +kernel,by decide +kernel,by decide +kernel,rfl⟩ rfl
    (pi_list (pv 6)) (fun _ _ _ _ _=>pg_name (i:=0) nd3 rfl (Or.inl rfl) (.inr rfl)) (fun _ _ _ _ _=>pf_nil) (fun _ _ _ _ _=>pe_callTy c_list (by rfl) T.list bt_list (pa_cons (pv 0) pa_nil))) pa_nil))))
   (pss_cons (ps_expr (pe_bm PySem.F.plainAttrs_list PySem.F.slot_list_append PySem.F.type_list_append mt_append (pv 9) (pa_cons (pe_comp (own:=["huddle"]) (caps:=[]) (cs:=[]) (sc:=defScope sLaw) ⟨rfl,rfl,by decide +kernel,by decide +kernel,by decide +kernel,by decide +kernel,rfl⟩ rfl
    (pi_list (pv 7)) (fun _ _ _ _ _=>pg_name (i:=0) nd4 rfl (Or.inl rfl) (.inr rfl)) (fun _ _ _ _ _=>pf_nil) (fun _ _ _ _ _=>pe_callTy c_list (by rfl) T.list bt_list (pa_cons (pv 0) pa_nil))) pa_nil)))
   (pss_cons (ps_set (i:=10) scLaw.nd rfl (Or.inl rfl) (pe_make S.mkT S.gI r5 (by rfl) T.mgT S.bI .nil pass0 (pa_cons (pv 2) (pa_cons (pe_callTy c_list (by rfl) T.list bt_list (pa_cons (pv 3) pa_nil)) pa_nil))))
   (pss_cons (ps_set (i:=11) scLaw.nd rfl (Or.inl rfl) (pe_callTy c_list (by rfl) T.list bt_list (pa_cons (pe_ix ix_list (pv 9) pe_int (fun _ _=>rfl)) pa_nil)))
   (pss_cons (ps_set (i:=12) scLaw.nd rfl (Or.inl rfl) (pe_call S.cR.ok hr (by rfl) S.cR.nm S.cR.kp S.cR.bi .nil pass0 (pa_cons (pv 10) (pa_cons (pv 11) (pa_cons (pe_ix ix_list (pv 9) pe_int (fun _ _=>rfl)) (pa_cons (pe_ix ix_list (pv 9) pe_int (fun _ _=>rfl)) pa_nil))))))
   (pss_cons (ps_if (pw_or (pt_cmpR (op_neD hu) (pv 11) (pe_ix ix_list (pv 9) pe_int (fun _ _=>rfl)) (nomark _)) (pw_or (pt_cmpR (op_neD hu) (pe_ix ix_list (pv 9) pe_int (fun _ _=>rfl)) (pv 6) (nomark _)) (pw_or (pt_cmpR (op_neD hu) (pe_ix ix_list (pv 9) pe_int (fun _ _=>rfl)) (pv 7) (nomark _)) (pw_or1 (pt_cmpR (op_neD hu) (pe_fld (pv 10) rfl) (pv 3) (nomark _)))))).pt (pss_one (ps_ret pe_bl)) pss_nil)
   (pss_cons (ps_if (pt_not (pt_val (pe_call S.cZ.ok r2 (by rfl) S.cZ.nm S.cZ.kp S.cZ.bi .nil pass0 (pa_cons (pe_ix ix_list (pv 9) pe_int (fun _ _=>rfl)) (pa_cons (pe_callB c_len (by rfl) T.len PySem.boot_len (pa_cons (pv 3) pa_nil)) pa_nil))))) (pss_one (ps_ret (pe_and (pe_ix ix_tup (pv 12) pe_int (fun _ _=>rfl)) (pe_one (pe_cmp (pc_notN (pe_ix ix_tup (pe_call S.cR.ok hr (by rfl) S.cR.nm S.cR.kp S.cR.bi .nil pass0 (pa_cons (pv 10) (pa_cons (pv 8) (pa_cons (pv 6) (pa_cons (pv 7) pa_nil))))) pe_int (fun _ _=>rfl)))))))) pss_nil)
   (pss_cons (ps_if (pw_or (pt_val (pe_ix ix_tup (pv 12) pe_int (fun _ _=>rfl))) (pw_or1 (pt_not (pt_val (pe_callB c_isi (by rfl) T.isi boot_isi (pa_cons (pe_ix ix_tup (pv 12) pe_int (fun _ _=>rfl)) (pa_cons (pe_bltn (v:=.ty "bool") (by rfl) T.bool bt_bool (by rfl)) pa_nil))))))).pt (pss_one (ps_ret pe_bl)) pss_nil)
   (pss_cons (ps_if (pw_or (pt_not (pt_val (pe_call S.cK.ok r3 (by rfl) S.cK.nm S.cK.kp S.cK.bi .nil pass0 (pa_cons (pv 2) (pa_cons (pv 3) (pa_cons (pv 6) (pa_cons (pv 4) pa_nil))))))) (pw_or1 (pt_not (pt_val (pe_call S.cM.ok r3 (by rfl) S.cM.nm S.cM.kp S.cM.bi .nil pass0 (pa_cons (pv 2) (pa_cons (pv 7) pa_nil))))))).pt (pss_one (ps_ret (pe_not (pe_ix ix_tup (pv 12) pe_int (fun _ _=>rfl))))) pss_nil)
   (pss_cons (ps_set (i:=13) scLaw.nd rfl (Or.inl rfl) (pe_callB c_len (by rfl) T.len PySem.boot_len (pa_cons (pe_compN (own:=["bridge"]) (caps:=["dealing"]) (cs:=[6]) (sc:=defScope sLaw) ⟨rfl,rfl,by decide +kernel,by decide +kernel,by decide +kernel,by decide +kernel,rfl⟩ rfl
    (pi_list (pv 8)) (fun _ _ _ _ _=>pg_name (i:=0) nd0 rfl (Or.inr rfl) (.inl rfl))
    (fun _ _ _ _ _=>pf_one (pt_val (pe_callB (call_anyB rfl) (by rfl) T.any boot_any' (pa_cons (pe_comp (own:=["held"]) (caps:=["bridge"]) (cs:=[0]) (sc:=scIn) ⟨rfl,rfl,by decide +kernel,by decide +kernel,by decide +kernel,by decide +kernel,rfl⟩ rfl
     (pi_list (pv 1)) (fun _ _ _ _ _=>pg_name (i:=0) nd1 rfl (Or.inl rfl) (.inr rfl)) (fun _ _ _ _ _=>pf_nil) (fun _ _ _ _ _=>pe_cmpR op_in_seq (pv 1) (pv 0) rfl)) pa_nil))))
    (fun _ _ _ _ _=>pv 0)) pa_nil)))
   (pss_one (ps_ret (pe_cmpR op_eq (pe_ix ix_tup (pv 12) pe_int (fun _ _=>rfl)) (pe_cmpR op_eq (pv 13) (pe_call S.cO.ok r1 (by rfl) S.cO.nm S.cO.kp S.cO.bi .nil pass0 (pa_cons (pv 3) (pa_cons (pv 8) (pa_cons (pv 4) (pa_cons (pv 7) pa_nil))))) (nomark _)) (nomark _)))))))))))))))))))))))),?_⟩
  try dsimp only [cx_of,cx_nox,cx_comp]
  refine ⟨_,rfl,sc,ns0,63,rfl,hS,hn63,by omega,by omega,fun H1 dn cs s1 _ hdn hcl hcb=>?_⟩
  refine ⟨_,rfl,dn,cs,17,rfl,hdn,hcl,by omega,by omega,fun H2 t lp r ps xs s2 ht hlp hpv hok hr6 hp17 hr0 _=>?_⟩
  refine ⟨t,_,rfl,SqT.of ht,rfl,_,_,rfl,_,_,rfl,rfl,?_⟩
  have hdn2:=s2 _ _ hdn
  have hxl:=hpv.length
  have hft:fits ((r:Int)+1) ps=true:=fits_mk (by omega) (by omega) (by omega) hok
  have cat:∀ j:Nat,(h:j < 63)→(cs.map V.int)[j]?=some (.int (cs[j]'(by omega))):=fun j h=>by rw [List.getElem?_map,List.getElem?_eq_getElem (by omega)];rfl
  refine ⟨_,rfl,dn,_,_,_,rfl,rfl,SqL.of hdn2,atI_nat (j:=4) (cat 4 (by omega)),_,_,rfl,rfl,(by show (0:Int) < 4;decide),?_⟩
  obtain ⟨cr,hcr3,hcr⟩:∃ cr:Nat,cr≤3∧(cs[4]'(by omega)) % 4=(cr:Int):=⟨((cs[4]'(by omega)) % 4).toNat,by omega,by omega⟩
  show gName 4 (V.int ((cs[4]'(by omega)) % 4)) _ _ _
  rw [hcr]
  refine ⟨_,rfl,dn,_,_,_,rfl,rfl,SqL.of hdn2,atI_nat (j:=5) (cat 5 (by omega)),_,_,rfl,rfl,(by show (0:Int) < 16;decide),_,_,rfl,rfl,_,_,rfl,?_⟩
  obtain ⟨f1,hf1⟩:∃ f1:Int,(if (cs[5]'(by omega)) % 16 - 4 > 0 then (cs[5]'(by omega)) % 16 - 4 else 0)=f1:=⟨_,rfl⟩
  rw [hf1]
  refine ⟨_,rfl,_,rfl,_,rfl,_,rfl,lp,dn,xs,ps,_,cs,cr,rfl,hlp,hpv,hft,by omega,hdn2,hcl,by omega,fun H3 la as nss0 M hlaN hn0 hfl0=>?_⟩
  refine ⟨_,rfl,_,rfl,dn,_,cs,rfl,by omega,by omega,M.same _ _ hdn2,hcl,fun H4 dh zh s4 hdh hzl hHI=>?_⟩
  have s24:=M.same.tr s4
  have hlp4:=s24 _ _ hlp
  have hdn4:=s24 _ _ hdn2
  refine ⟨_,rfl,lp,_,rfl,.inl (SqL.of hlp4),_,rfl,by omega,by omega,fun D0 hD0=>comp_ext (n:=ps.length) hD0 (fun i=>(filtR i fun k=>decide ((0:Int) < (cs.getD (40+k) 0) / 3 % 3)).map V.int) rfl (fun j hj=>?_) (fun j Hx hj sm hD2=>?_) (fun H5 s5 hD5=>?_)⟩
  ·rw [List.length_map]
   have:=filtR_len j fun k=>decide ((0:Int) < (cs.getD (40+k) 0) / 3 % 3)
   exact small1000 (by omega)
  ·refine ⟨by show j < ((xs.length:Nat):Int).toNat;omega,fun K1 K2 k1 k2 y H' yy=>?_⟩
   obtain ⟨rfl,rfl⟩:=yy
   have e0:(0:Int)+(j:Int)=(j:Int):=by omega
   rw [e0]
   have g40:atI (cs.map V.int) ((40:Int)+(j:Int))=some (.int (cs.getD (40+j) 0)):=by
    rw [show (40:Int)+(j:Int)=((40+j:Nat):Int) by omega]
    exact atI_nat (by rw [List.getElem?_map,List.getD_eq_getElem?_getD,List.getElem?_eq_getElem (by omega)];rfl)
   refine ⟨rfl,_,rfl,_,rfl,_,_,rfl,rfl,dn,_,_,_,rfl,rfl,SqL.of (sm _ _ hdn4),g40,_,_,rfl,rfl,⟨by decide,by decide⟩,_,_,rfl,rfl,(by show (0:Int) < 3;decide),_,_,rfl,rfl,_,rfl,?_⟩
   refine ite2 (fun h=>⟨_,rfl,k1 _ _ Same.rfl' ?_⟩) (fun h=>k2 _ Same.rfl' ?_)
   ·rw [filtR_succ,if_pos h,List.map_append]
    rfl
   ·rw [filtR_succ,if_neg h,List.append_nil]
  refine ⟨by first | (show ((xs.length:Nat):Int).toNat≤ps.length;omega) | (show ps.length≤((xs.length:Nat):Int).toNat;omega),?_⟩
  obtain ⟨b0,hb0⟩:∃ b0,filtR ps.length (fun k=>decide ((0:Int) < (cs.getD (40+k) 0) / 3 % 3))=b0:=⟨_,rfl⟩
  have hb0r:risesB b0 (ps.length:Int)=true:=by rw [← hb0];exact filtR_rb _ _
  have hb0l:b0.length≤17:=by
   rw [← hb0]
   have:=filtR_len ps.length fun k=>decide ((0:Int) < (cs.getD (40+k) 0) / 3 % 3)
   omega
  rw [hb0] at hD5
  have s25:=s24.tr s5
  refine ⟨fun σ' H'=>∃ (hl ls:Addr) (hz:List V) (bs:List Int),σ'=[some (.ref sc),some (.ref dn),some (.int ((r:Int)+1)),some (.ref lp),some (.int (cr:Int)),some (.int f1),some (.ref la),some (.ref hl),some (.ref ls),none,none,none,none,none]∧Same H5 H'∧H' hl=some (.lst hz)∧hz.length≤3∧(∀ x∈hz,HI H' x)∧LI H' ls bs∧risesB bs (ps.length:Int)=true∧bs.length≤17,?_,?_⟩
  rotate_left
  ·have hHI5:∀ x∈zh,HI H5 x:=fun x hx=>by
    obtain ⟨a,g,e,h1,h2⟩:=hHI x hx
    exact ⟨a,g,e,s5 _ _ h1,h2⟩
   refine ⟨_,rfl,dn,_,_,_,rfl,rfl,SqL.of (s5 _ _ hdn4),atI_nat (j:=2) (cat 2 (by omega)),_,_,rfl,rfl,(by show (0:Int) < 3;decide),rfl,_,rfl,ite2 (fun _=>?_) (fun _=>⟨dh,D0,zh,b0,rfl,Same.rfl',s5 _ _ hdh,hzl,hHI5,hD5,hb0r,hb0l⟩)⟩
   refine ⟨by show 0≤sizeLine;decide,fun e0 he0=>?_⟩
   have u6:=Same.rfl'.new he0 (o:=.lst [])
   have he6:(upd H5 e0 (.lst [])) e0=some (.lst []):=upd_same
   generalize upd H5 e0 (.lst [])=H6 at u6 he6
   have hb6:=u6 _ _ hD5
   have M6:=(M.same2 (s4.tr s5)).same2 u6
   have hla6:=M6.hl
   have hls6:=M6.out
   refine ⟨_,rfl,D0,rfl,⟨_,SqL.of hb6⟩,fun D hD=>comp_ext (n:=b0.length) hD (fun j=>((b0.take j).filter (inD nss0)).map V.int) rfl (fun j hj=>?_) (fun j Ha hj sm hDa=>?_) (fun Ha sm hDa=>?_)⟩
   ·rw [List.length_map]
    have:=List.length_filter_le (inD nss0) (b0.take j)
    rw [List.length_take] at this
    exact small1000 (by omega)
   ·have q1:(b0.map V.int)[j]?=some (.int b0[j]):=by rw [List.getElem?_map,List.getElem?_eq_getElem hj];rfl
    refine ⟨⟨_,_,SqL.of (sm _ _ hb6),q1⟩,fun K1 K2 k1 k2 x H' yy=>?_⟩
    obtain ⟨rfl,e⟩:=yy
    have ex':=e _ (SqL.of (sm _ _ hb6))
    rw [q1] at ex'
    cases ex'
    have hld2:=sm _ _ hla6
    have hls2:=hls6.same sm
    have hxl2:=hls2.length
    refine ⟨rfl,_,rfl,la,rfl,⟨_,SqL.of hld2⟩,fun D2 hD2=>comp_ext (n:=nss0.length) hD2 (fun i=>(nss0.take i).map fun g=>V.bl (g.contains b0[j])) rfl (fun i hi=>?_) (fun i Hb hi sm3 hD3=>?_) (fun Hb sm3 hD3=>?_)⟩
    ·rw [List.length_map,List.length_take]
     exact small1000 (by omega)
    ·obtain ⟨z,hz⟩:∃ z,(as.map V.ref)[i]?=some z:=⟨_,List.getElem?_eq_getElem (by omega)⟩
     obtain ⟨g,hg,a,rfl,hag0⟩:=hls2.get hz
     have hag:LI Hb a g:=sm3 _ _ hag0
     refine ⟨⟨_,_,SqL.of (sm3 _ _ hld2),hz⟩,fun L1 L2 l1 l2 x Hc yy=>?_⟩
     obtain ⟨rfl,e⟩:=yy
     have ex':=e _ (SqL.of (sm3 _ _ hld2))
     rw [hz] at ex'
     cases ex'
     refine ⟨rfl,noIf (A:=fun _ H3=>_) (B:=fun _ H3=>L2 H3) ?_⟩
     refine ⟨_,rfl,_,rfl,a,_,rfl,.inl (SqL.of hag),rfl,flat_ints _,?_⟩
     rw [show (if false=true then !inV (V.int b0[j]) (g.map V.int) else inV (V.int b0[j]) (g.map V.int))=g.contains b0[j] from by rw [if_neg Bool.false_ne_true,inV_ints]]
     exact l1 _ _ Same.rfl' (by rw [take_snoc' hg,List.map_append];rfl)
    ·have hrd:Hb D2=some (.lst ((nss0.map fun g=>g.contains b0[j]).map V.bl)):=by
      rw [hD3,List.take_length,List.map_map]
      rfl
     refine ⟨⟨_,SqL.of (sm3 _ _ hld2),by omega⟩,D2,_,rfl,SqL.of hrd,_,rfl,?_⟩
     have ea:(nss0.map fun g=>g.contains b0[j]).any id=inD nss0 b0[j]:=by
      rw [List.any_map]
      rfl
     rw [ea]
     have bt:=take_snoc' (List.getElem?_eq_getElem hj)
     refine ite2 (fun h=>⟨_,rfl,k1 _ _ sm3 ?_⟩) (fun h=>k2 _ sm3 ?_)
     ·rw [bt,List.filter_append,List.filter_cons,if_pos h,List.map_append]
      rfl
     ·rw [bt,List.filter_append,List.filter_cons,if_neg h,List.filter_nil,List.append_nil]
   ·refine ⟨⟨_,SqL.of (sm _ _ hb6),by rw [List.length_map];exact Nat.le_refl _⟩,e0,D,[],b0.filter (inD nss0),rfl,u6.tr sm,sm _ _ he6,by simp,fun x hx=>by simp at hx,?_,filter_rb _ hb0r,Nat.le_trans (List.length_filter_le _ _) hb0l⟩
    rw [LI,hDa,List.take_length]
  rintro σ6 H6 ⟨hl,ls,hz,bs,rfl,s6,hhl,hz3,hzI,hb,hbr,hb17⟩
  have s26:=s25.tr s6
  have M6:=((M.same2 s4).same2 s5).same2 s6
  have hlp6:=s26 _ _ hlp
  have hdn6:=s26 _ _ hdn2
  refine ⟨_,rfl,_,rfl,_,rfl,_,rfl,lp,_,rfl,.inl (SqL.of hlp6),la,dn,_,nss0,f1,cs,xs.length,rfl,M6.hl,M6.out,by omega,fun g hg=>by have:=len_le_flat hg;omega,hdn6,hcl,by omega,fun H7 ld zd O7 hzd=>?_⟩
  obtain ⟨dss,hds7,hdg⟩:=O7.out
  have hdsl:dss.length=cr:=by have:=hds7.length;omega
  have hld7:=O7.hl
  have s7:=O7.same
  clear O7 M6 M
  refine ⟨_,rfl,_,rfl,_,rfl,_,rfl,hl,dn,hz,f1,_,cs,rfl,s7 _ _ hhl,fun x hx=>?_,by omega,s7 _ _ hdn6,hcl,by omega,fun H8 lh zh8 O8 hzh=>?_⟩
  ·obtain ⟨a,g,e,h1,h2⟩:=hzI x hx
   exact ⟨a,g,e,s7 _ _ h1,h2⟩
  obtain ⟨hss,hhs8,hhg⟩:=O8.out
  have hhsl:hss.length≤20:=by have:=hhs8.length;omega
  have hlh8:=O8.hl
  have s8:=O8.same
  clear O8
  have s68:=s7.tr s8
  have hb8:=s68 _ _ hb
  have hdn8:=s68 _ _ hdn6
  have hlp8:=s68 _ _ hlp6
  have hpv8:=hpv.same (s26.tr s68)
  have hld8:=s8 _ _ hld7
  have hds8:=hds7.same s8
  have hdf:dss.flatten.length≤1000:=by
   have:=flat_le hdg
   have h2:dss.length*31≤3*31:=Nat.mul_le_mul_right _ (by omega)
   omega
  have hhf:hss.flatten.length≤1000:=by
   have:=flat_le hhg
   have h2:hss.length*24≤20*24:=Nat.mul_le_mul_right _ (by omega)
   omega
  refine ⟨_,rfl,dn,_,_,_,rfl,rfl,SqL.of hdn8,atI_nat (j:=2) (cat 2 (by omega)),_,_,rfl,rfl,⟨by decide,by decide⟩,_,_,rfl,rfl,(by show (0:Int) < 6;decide),_,_,rfl,rfl,_,_,rfl,?_⟩
  obtain ⟨f2,hf2,hf20,hf23⟩:∃ f2:Int,(if (cs[2]'(by omega)) / 3 % 6 - 2 > 0 then (cs[2]'(by omega)) / 3 % 6 - 2 else 0)=f2∧0≤f2∧f2≤3:=⟨_,rfl,by split <;> omega,by split <;> omega⟩
  rw [hf2]
  refine ⟨_,rfl,_,rfl,_,rfl,_,rfl,lp,_,rfl,.inl (SqL.of hlp8),ls,dn,bs,cs,f2,xs.length,rfl,hb8,by rw [hxl];exact hbr,by omega,hf20,hf23,hdn8,hcl,hcb,fun H9 dg gs s9 hgs hgl hg0 hg1=>?_⟩
  rw [hxl] at hg1
  have hld9:=s9 _ _ hld8
  have hds9:=hds8.same s9
  refine ⟨_,rfl,ld,rfl,⟨_,SqL.of hld9⟩,fun hh hhn=>?_⟩
  refine comp_gen (n:=dss.length) (fun i ys Ha=>Same H9 Ha∧Ha hh=some (.lst ys)∧All2 (fun x g=>∃ a,x=V.ref a∧LI Ha a g∧a≠hh) ys (dss.take i)) ⟨Same.rfl'.new hhn,upd_same,.nil⟩ (fun i ys Ha hi hv=>?_) (fun i ys Ha hi hv=>?_) (fun yhh H10 hv=>?_)
  ·have:=hv.2.2.length
   rw [List.length_take] at this
   exact small1000 (by omega)
  ·obtain ⟨sm,hy,hA⟩:=hv
   have hxl':=hds9.length
   obtain ⟨x,hxi⟩:∃ x,zd[i]?=some x:=⟨_,List.getElem?_eq_getElem (by omega)⟩
   obtain ⟨g,hg,a,rfl,hag⟩:=hds9.get hxi
   refine ⟨⟨_,_,SqL.of (sm _ _ hld9),hxi⟩,fun K1 k1 x H' y=>?_⟩
   obtain ⟨rfl,e⟩:=y
   have ex:=e _ (SqL.of (sm _ _ hld9))
   rw [hxi] at ex
   cases ex
   refine ⟨rfl,_,rfl,a,_,rfl,.inl (SqL.of (sm _ _ hag)),fun l hl=>k1 _ _ ((Same.rfl'.new hl) _ _ hy) ⟨?_,upd_same,?_⟩⟩
   ·exact (sm.tr (Same.rfl'.new hl)).new hhn
   ·have nl:l≠hh:=Ne.symm (ne_of_none hy hl)
    rw [take_snoc' hg]
    have last:LI (upd (upd H' l (.lst (g.map V.int))) hh (.lst (ys++[V.ref l]))) l g:=by
     rw [LI,upd_ne nl,upd_same]
    refine All2.append (hA.imp fun x g' ⟨b,eb',hb,nb⟩=>⟨b,eb',?_,nb⟩) (.cons ⟨l,rfl,last,nl⟩ .nil)
    rw [LI,upd_ne nb]
    exact (Same.rfl'.new hl) _ _ hb
  obtain ⟨s10,hhh,hA⟩:=hv
  rw [List.take_length] at hA
  have hLhh:LS H10 yhh dss:=hA.imp fun x g ⟨a,e,q,_⟩=>⟨a,e,q⟩
  clear hA
  refine ⟨⟨_,SqL.of (s10 _ _ hld9),by have:=hds9.length;omega⟩,by show 2≤sizeLine;decide,fun lhd hlhd=>?_⟩
  have u11:=Same.rfl'.new hlhd (o:=.lst [V.ref dg,V.ref hh])
  have hlh11:(upd H10 lhd (.lst [V.ref dg,V.ref hh])) lhd=some (.lst [V.ref dg,V.ref hh]):=upd_same
  generalize upd H10 lhd (.lst [V.ref dg,V.ref hh])=H11 at u11 hlh11
  have s911:=s9.tr (s10.tr u11)
  have hlh8':=s911 _ _ hlh8
  have hhs11:=hhs8.same s911
  refine ⟨_,rfl,.inl ⟨rfl,_,SqL.of hlh11⟩,?_⟩
  refine ⟨_,rfl,lh,rfl,⟨_,SqL.of hlh8'⟩,fun oh ohn=>?_⟩
  refine comp_gen (n:=hss.length) (fun i ys Ha=>Same H11 Ha∧Ha oh=some (.lst ys)∧All2 (fun x g=>∃ a,x=V.ref a∧LI Ha a g∧a≠oh) ys (hss.take i)) ⟨Same.rfl'.new ohn,upd_same,.nil⟩ (fun i ys Ha hi hv=>?_) (fun i ys Ha hi hv=>?_) (fun yoh H12 hv=>?_)
  ·have:=hv.2.2.length
   rw [List.length_take] at this
   exact small1000 (by omega)
  ·obtain ⟨sm,hy,hA⟩:=hv
   have hxl':=hhs11.length
   obtain ⟨x,hxi⟩:∃ x,zh8[i]?=some x:=⟨_,List.getElem?_eq_getElem (by omega)⟩
   obtain ⟨g,hg,a,rfl,hag⟩:=hhs11.get hxi
   refine ⟨⟨_,_,SqL.of (sm _ _ hlh8'),hxi⟩,fun K1 k1 x H' y=>?_⟩
   obtain ⟨rfl,e⟩:=y
   have ex:=e _ (SqL.of (sm _ _ hlh8'))
   rw [hxi] at ex
   cases ex
   refine ⟨rfl,_,rfl,a,_,rfl,.inl (SqL.of (sm _ _ hag)),fun l hl=>k1 _ _ ((Same.rfl'.new hl) _ _ hy) ⟨?_,upd_same,?_⟩⟩
   ·exact (sm.tr (Same.rfl'.new hl)).new ohn
   ·have nl:l≠oh:=Ne.symm (ne_of_none hy hl)
    rw [take_snoc' hg]
    have last:LI (upd (upd H' l (.lst (g.map V.int))) oh (.lst (ys++[V.ref l]))) l g:=by
     rw [LI,upd_ne nl,upd_same]
    refine All2.append (hA.imp fun x g' ⟨b,eb',hb,nb⟩=>⟨b,eb',?_,nb⟩) (.cons ⟨l,rfl,last,nl⟩ .nil)
    rw [LI,upd_ne nb]
    exact (Same.rfl'.new hl) _ _ hb
  obtain ⟨s12,hoh,hA⟩:=hv
  rw [List.take_length] at hA
  have hLoh:LS H12 yoh hss:=hA.imp fun x g ⟨a,e,q,_⟩=>⟨a,e,q⟩
  clear hA
  refine ⟨⟨_,SqL.of (s12 _ _ hlh8'),by have:=hhs11.length;omega⟩,lhd,_,_,rfl,rfl,s12 _ _ hlh11,by show 2 < sizeLine;exact small1000 (by omega),?_⟩
  have hlh12:=s12 _ _ hlh11
  have s13:Same H10 (upd H12 lhd (.lst ([V.ref dg,V.ref hh]++[V.ref oh]))):=fun b o e=>by
   rw [upd_ne (ne_of_none e hlhd)]
   exact s12 _ _ (u11 _ _ e)
  have hne:oh≠lhd:=fun z=>by rw [z,hlh11] at ohn;cases ohn
  have hoh13:(upd H12 lhd (.lst ([V.ref dg,V.ref hh]++[V.ref oh]))) oh=some (.lst yoh):=by rw [upd_ne hne];exact hoh
  have hLoh13:LS (upd H12 lhd (.lst ([V.ref dg,V.ref hh]++[V.ref oh]))) yoh hss:=hLoh.imp fun x g ⟨a,e,h1⟩=>⟨a,e,by
   have:a≠lhd:=fun z=>by
    rw [z,LI,hlh12] at h1
    cases g <;> simp at h1
   rw [LI,upd_ne this]
   exact h1⟩
  have hh13:(upd H12 lhd (.lst ([V.ref dg,V.ref hh]++[V.ref oh]))) lhd=some (.lst [V.ref dg,V.ref hh,V.ref oh]):=upd_same
  generalize upd H12 lhd (.lst ([V.ref dg,V.ref hh]++[V.ref oh]))=H13 at s13 hoh13 hLoh13 hh13
  have s913:=s10.tr s13
  have s813:=s9.tr s913
  have hlp13:=s813 _ _ hlp8
  have hpv13:=hpv8.same s813
  refine ⟨_,rfl,_,rfl,lp,xs,rfl,.inl (SqL.of hlp13),fun lt hlt p dx np ndx npd=>?_⟩
  have t3:Same H13 (upd H13 lt (.lst xs)):=Same.rfl'.new hlt
  have t4:Same (upd H13 lt (.lst xs)) (upd (upd (upd H13 lt (.lst xs)) dx (.own p)) p (.ins CT dx [])):=fun b o e=>by
   rw [upd_ne (ne_of_none e np),upd_ne (ne_of_none e ndx)]
   exact e
  refine ⟨p,dx,_,lt,xs,ps,rfl,upd_same,t4 _ _ upd_same,(hpv13.same t3).same t4,hft,fun l2 H14 nl2 twn keep=>⟨rfl,?_⟩⟩
  have s14:Same H13 H14:=t3.tr fun b o e=>keep b o (t4 b o e) (ne_of_none e np)
  clear nl2 keep np ndx npd t3 t4 hlt
  have hh14:=s14 _ _ hh13
  have s814:=s813.tr s14
  have s914:=s913.tr s14
  have hgs14:LI H14 dg gs:=s914 _ _ hgs
  refine ⟨_,rfl,lhd,_,_,_,rfl,rfl,SqL.of hh14,atI_nat (j:=0) rfl,dg,_,rfl,.inl (SqL.of hgs14),fun gv hgv=>?_⟩
  have u15:=Same.rfl'.new hgv (o:=.lst (gs.map V.int))
  have hgv15:LI (upd H14 gv (.lst (gs.map V.int))) gv gs:=upd_same
  generalize upd H14 gv (.lst (gs.map V.int))=H15 at u15 hgv15
  have s815:=s814.tr u15
  have s915:=s914.tr u15
  have hh15:=u15 _ _ hh14
  have hhh15:=((s13.tr s14).tr u15) _ _ hhh
  have hLhh15:=((hLhh.same s13).same s14).same u15
  have hoh15:=u15 _ _ (s14 _ _ hoh13)
  have hLoh15:=(hLoh13.same s14).same u15
  have tw15:=twn.same u15
  have hpv15:=hpv8.same s815
  have I1:LvIn CT H15 p l2 gv hh oh ((r:Int)+1) xs yhh yoh ps gs dss hss:=⟨tw15,hpv15,hft,hgv15,by omega,hhh15,hLhh15,by omega,fun g hg=>Nat.le_trans (hdg g hg) (by omega),hdf,hoh15,hLoh15,by omega,fun g hg=>Nat.le_trans (hhg g hg) (by omega),hhf⟩
  have I2:LvIn CT H15 p l2 ls ld lh ((r:Int)+1) xs zd zh8 ps bs dss hss:=⟨tw15,hpv15,hft,s815 _ _ hb8,by omega,s815 _ _ hld8,hds8.same s815,by omega,fun g hg=>Nat.le_trans (hdg g hg) (by omega),hdf,s815 _ _ hlh8,hhs8.same s815,by omega,fun g hg=>Nat.le_trans (hhg g hg) (by omega),hhf⟩
  have hgs15:LI H15 dg gs:=u15 _ _ hgs14
  have hlp15:=s815 _ _ hlp8
  obtain ⟨⟨dx',htp⟩,hl2⟩:=id tw15
  refine ⟨_,rfl,_,rfl,_,rfl,lhd,_,_,_,rfl,rfl,SqL.of hh15,atI_nat (j:=1) rfl,_,rfl,lhd,_,_,_,rfl,rfl,SqL.of hh15,atI_nat (j:=2) rfl,p,l2,gv,hh,oh,_,xs,yhh,yoh,ps,gs,dss,hss,rfl,I1,fun hrs H16 t16 rr s16 ht16 hrr=>?_,fun hrs H16 t16 s16 ht16=>?_⟩
  ·have J:=I1.same s16
   have J2:=I2.same s16
   have hh16:=s16 _ _ hh15
   have htw16:=s16 _ _ htp
   refine ⟨_,rfl,_,rfl,lhd,_,_,_,rfl,rfl,SqL.of hh16,atI_nat (j:=0) rfl,_,_,den_ints J.hb,den_ints (s16 _ _ hgs15),sh_ints _,sh_ints _,_,rfl,?_⟩
   rw [eqv_lints,decide_eq_true rfl]
   refine iteF ⟨_,rfl,lhd,_,_,_,rfl,rfl,SqL.of hh16,atI_nat (j:=1) rfl,_,rfl,_,_,den_lists J.hd J.hds,den_lists J2.hd J2.hds,sh_lists _,sh_lists _,_,rfl,?_⟩
   rw [eqv_lists']
   refine iteF ⟨_,rfl,lhd,_,_,_,rfl,rfl,SqL.of hh16,atI_nat (j:=2) rfl,_,rfl,_,_,den_lists J.hl J.hls,den_lists J2.hl J2.hls,sh_lists _,sh_lists _,_,rfl,?_⟩
   rw [eqv_lists']
   refine iteF ⟨_,rfl,p,CT,dx',_,_,rfl,htw16,T.cl,T.nb,flds_b _ _,_,rfl,_,_,den_pairs (s16 _ _ hl2) J.hp,den_pairs (s16 _ _ hlp15) J.hp,sh_pairs _,sh_pairs _,_,rfl,?_⟩
   rw [eqv_pairs']
   refine iteF ⟨_,rfl,lhd,_,_,_,rfl,rfl,SqL.of hh16,atI_nat (j:=0) rfl,_,rfl,lp,_,rfl,.inl (SqL.of (s16 _ _ hlp15)),dg,gs,_,rfl,s16 _ _ hgs15,_,rfl,?_⟩
   rw [show risesB gs ((xs.length:Nat):Int)=true from by rw [hxl];exact hrs]
   have f20:f2=0:=Classical.byContradiction fun z=>by
    rw [hg1 (by omega)] at hrs
    cases hrs
   have egs:=hg0 f20
   subst egs
   refine iteF ⟨_,rfl,t16,_,_,_,rfl,rfl,SqT.of ht16,atI_nat (j:=0) rfl,_,rfl,?_⟩
   refine iteF ⟨_,rfl,t16,_,_,_,rfl,rfl,SqT.of ht16,atI_nat (j:=1) rfl,_,_,_,_,_,rfl,rfl,.bl rr,kit_same _,_,rfl,?_⟩
   refine iteF ⟨_,rfl,_,rfl,_,rfl,_,rfl,lp,ld,xs,zd,ps,_,dss,_,rfl,s16 _ _ hlp15,J.hp,hok,by omega,by omega,J2.hd,J2.hds,hdf,by rw [hdsl],fun H17 ra s17 hra=>⟨_,rfl,?_⟩⟩
   have no:¬ LvOk ps ((r:Int)+1) gs dss hss→rr=false:=fun z=>by
    cases rr with
    | false=>rfl
    | true=>exact absurd (hrr.mp rfl) z
   have ht17:=s17 _ _ ht16
   cases ra with
   | false=>
    have e:=no fun z=>by
     have:=hra.mpr z.1
     cases this
    refine iteT (iteT ⟨_,rfl,t16,_,_,_,rfl,rfl,SqT.of ht17,atI_nat (j:=1) rfl,_,rfl,?_⟩)
    rw [e]
    exact kQ _
   | true=>
    have J3:=J2.same s17
    refine iteF ⟨_,rfl,_,rfl,lh,zh8,hss,_,rfl,J3.hl,J3.hls,by omega,hhf,fun H18 s18=>⟨_,rfl,?_⟩⟩
    have ht18:=s18 _ _ ht17
    have J4:=J3.same s18
    cases hgo:groupsOk hss ((r:Int)+1) 2 with
    | false=>
     have e:=no fun z=>by
      rw [z.2.1] at hgo
      cases hgo
     refine iteT ⟨_,rfl,t16,_,_,_,rfl,rfl,SqT.of ht18,atI_nat (j:=1) rfl,_,rfl,?_⟩
     rw [e]
     exact kQ _
    | true=>
     refine iteF ?_
     have hbx:=J4.hb
     have hdx:=J4.hd
     have hlx:=J4.hds
     refine ⟨_,rfl,ls,rfl,⟨_,SqL.of hbx⟩,fun D hD=>comp_ext (n:=gs.length) hD (fun j=>((gs.take j).filter (inD dss)).map V.int) rfl (fun j hj=>?_) (fun j Ha hj sm hDa=>?_) (fun Ha sm hDa=>?_)⟩
     ·rw [List.length_map]
      have:=List.length_filter_le (inD dss) (gs.take j)
      rw [List.length_take] at this
      exact small1000 (by omega)
     ·have q1:(gs.map V.int)[j]?=some (.int gs[j]):=by rw [List.getElem?_map,List.getElem?_eq_getElem hj];rfl
      refine ⟨⟨_,_,SqL.of (sm _ _ hbx),q1⟩,fun K1 K2 k1 k2 x H' yy=>?_⟩
      obtain ⟨rfl,e⟩:=yy
      have ex':=e _ (SqL.of (sm _ _ hbx))
      rw [q1] at ex'
      cases ex'
      have hld2:=sm _ _ hdx
      have hls2:=hlx.same sm
      have hxl2:=hls2.length
      refine ⟨rfl,_,rfl,ld,rfl,⟨_,SqL.of hld2⟩,fun D2 hD2=>comp_ext (n:=dss.length) hD2 (fun i=>(dss.take i).map fun g=>V.bl (g.contains gs[j])) rfl (fun i hi=>?_) (fun i Hb hi sm3 hD3=>?_) (fun Hb sm3 hD3=>?_)⟩
      ·rw [List.length_map,List.length_take]
       exact small1000 (by omega)
      ·obtain ⟨z,hz⟩:∃ z,zd[i]?=some z:=⟨_,List.getElem?_eq_getElem (by omega)⟩
       obtain ⟨g,hg,a,rfl,hag0⟩:=hls2.get hz
       have hag:LI Hb a g:=sm3 _ _ hag0
       refine ⟨⟨_,_,SqL.of (sm3 _ _ hld2),hz⟩,fun L1 L2 l1 l2 x Hc yy=>?_⟩
       obtain ⟨rfl,e⟩:=yy
       have ex':=e _ (SqL.of (sm3 _ _ hld2))
       rw [hz] at ex'
       cases ex'
       refine ⟨rfl,noIf (A:=fun _ H3=>_) (B:=fun _ H3=>L2 H3) ?_⟩
       refine ⟨_,rfl,_,rfl,a,_,rfl,.inl (SqL.of hag),rfl,flat_ints _,?_⟩
       rw [show (if false=true then !inV (V.int gs[j]) (g.map V.int) else inV (V.int gs[j]) (g.map V.int))=g.contains gs[j] from by rw [if_neg Bool.false_ne_true,inV_ints]]
       exact l1 _ _ Same.rfl' (by rw [take_snoc' hg,List.map_append];rfl)
      ·have hrd:Hb D2=some (.lst ((dss.map fun g=>g.contains gs[j]).map V.bl)):=by
        rw [hD3,List.take_length,List.map_map]
        rfl
       refine ⟨⟨_,SqL.of (sm3 _ _ hld2),by omega⟩,D2,_,rfl,SqL.of hrd,_,rfl,?_⟩
       have ea:(dss.map fun g=>g.contains gs[j]).any id=inD dss gs[j]:=by
        rw [List.any_map]
        rfl
       rw [ea]
       have bt:=take_snoc' (List.getElem?_eq_getElem hj)
       refine ite2 (fun h=>⟨_,rfl,k1 _ _ sm3 ?_⟩) (fun h=>k2 _ sm3 ?_)
       ·rw [bt,List.filter_append,List.filter_cons,if_pos h,List.map_append]
        rfl
       ·rw [bt,List.filter_append,List.filter_cons,if_neg h,List.filter_nil,List.append_nil]
     ·refine ⟨⟨_,SqL.of (sm _ _ hbx),by rw [List.length_map];exact Nat.le_refl _⟩,D,_,rfl,.inl (SqL.of hDa),?_⟩
      rw [List.take_length,List.length_map]
      have J5:=J4.same sm
      refine ⟨_,rfl,t16,_,_,_,rfl,rfl,SqT.of (sm _ _ ht18),atI_nat (j:=1) rfl,_,rfl,_,rfl,_,rfl,_,rfl,_,rfl,lp,ls,lh,xs,zh8,ps,gs,hss,cr,rfl,(((s16.tr s17).tr s18).tr sm) _ _ hlp15,J5.hp,J5.hb,(risesB_iff.mp hrs).2,J5.hl,J5.hls,by omega,fun g hg=>Nat.le_trans (hhg g hg) (by omega),by omega,fun H20 s20=>⟨rfl,rfl,?_⟩⟩
      have key:rr=decide (((gs.filter (inD dss)).length:Int)=((freeB ps hss gs).length:Int)+(cr:Int)*lessOne hss):=by
       rw [Bool.eq_iff_iff,hrr,decide_eq_true_eq]
       unfold LvOk
       have ef:(gs.filter fun b=>dss.flatten.contains b)=gs.filter (inD dss):=List.filter_congr fun b _=>(inD_flat dss b).symm
       rw [ef,hdsl]
       exact ⟨fun z=>z.2.2,fun z=>⟨hra.mp rfl,hgo,z⟩⟩
      rw [dec_int,← key,decide_eq_true rfl]
      exact kQ _
  ·have J:=I1.same s16
   have J2:=I2.same s16
   have hh16:=s16 _ _ hh15
   have htw16:=s16 _ _ htp
   refine ⟨_,rfl,_,rfl,lhd,_,_,_,rfl,rfl,SqL.of hh16,atI_nat (j:=0) rfl,_,_,den_ints J.hb,den_ints (s16 _ _ hgs15),sh_ints _,sh_ints _,_,rfl,?_⟩
   rw [eqv_lints,decide_eq_true rfl]
   refine iteF ⟨_,rfl,lhd,_,_,_,rfl,rfl,SqL.of hh16,atI_nat (j:=1) rfl,_,rfl,_,_,den_lists J.hd J.hds,den_lists J2.hd J2.hds,sh_lists _,sh_lists _,_,rfl,?_⟩
   rw [eqv_lists']
   refine iteF ⟨_,rfl,lhd,_,_,_,rfl,rfl,SqL.of hh16,atI_nat (j:=2) rfl,_,rfl,_,_,den_lists J.hl J.hls,den_lists J2.hl J2.hls,sh_lists _,sh_lists _,_,rfl,?_⟩
   rw [eqv_lists']
   refine iteF ⟨_,rfl,p,CT,dx',_,_,rfl,htw16,T.cl,T.nb,flds_b _ _,_,rfl,_,_,den_pairs (s16 _ _ hl2) J.hp,den_pairs (s16 _ _ hlp15) J.hp,sh_pairs _,sh_pairs _,_,rfl,?_⟩
   rw [eqv_pairs']
   refine iteF ⟨_,rfl,lhd,_,_,_,rfl,rfl,SqL.of hh16,atI_nat (j:=0) rfl,_,rfl,lp,_,rfl,.inl (SqL.of (s16 _ _ hlp15)),dg,gs,_,rfl,s16 _ _ hgs15,_,rfl,?_⟩
   rw [show risesB gs ((xs.length:Nat):Int)=false from by rw [hxl];exact hrs]
   refine iteT ⟨_,rfl,t16,_,_,_,rfl,rfl,SqT.of ht16,atI_nat (j:=0) rfl,_,rfl,?_⟩
   refine iteT ⟨_,rfl,_,rfl,_,rfl,_,rfl,p,l2,ls,ld,lh,_,xs,zd,zh8,ps,bs,dss,hss,rfl,J2,fun _ H17 t17 r17 s17 ht17 _=>?_,fun z=>by rw [hbr] at z;cases z⟩
   exact ⟨t17,_,_,_,rfl,rfl,SqT.of ht17,atI_nat (j:=1) rfl,kQ _⟩
end
end K26
namespace K26
open PySem L2 XM
theorem all_mk {l:W.OpenLaw} {w:World} {K:W.Frag} {h:Heap} {mg:Str→Option Value} {fa CE CS C1 C2 CT:Addr} {t_aMQ t_aMB:Tok} {f60 f61 f1 f2 f3 f4 f5 f6 f7 f8 f9 f10 f11 f12 f13 f14 f15 f16 f17 f18 f19 f81 f20 f21 f22 f23 f24 f25 f26 f27 f28 f29 f30 f31 f32 f33 f35:Addr} {od60 an60 od61 an61 od1 an1 od2 an2 od3 an3 od4 an4 od5 an5 od6 an6 od7 an7 od8 an8 od9 an9 od10 an10 od11 an11 od12 an12 od13 an13 od14 an14 od15 an15 od16 an16 od17 an17 od18 an18 od19 an19 od81 an81 od20 an20 od21 an21 od22 an22 od23 an23 od24 an24 od25 an25 od26 an26 od27 an27 od28 an28 od29 an29 od30 an30 od31 an31 od32 an32 od33 an33 od35 an35:Option Addr} {sl60 sl61 sl1 sl2 sl3 sl4 sl5 sl6 sl7 sl8 sl9 sl10 sl11 sl12 sl13 sl14 sl15 sl16 sl17 sl18 sl19 sl81 sl20 sl21 sl22 sl23 sl24 sl25 sl26 sl27 sl28 sl29 sl30 sl31 sl32 sl33 sl35:Array (Option Value)} {oc60 kV60 dc60 pm60 cd60 ct60 oc61 kV61 dc61 pm61 cd61 ct61 oc1 kV1 dc1 pm1 cd1 ct1 oc2 kV2 dc2 pm2 cd2 ct2 oc3 kV3 dc3 pm3 cd3 ct3 oc4 kV4 dc4 pm4 cd4 ct4 oc5 kV5 dc5 pm5 cd5 ct5 oc6 kV6 dc6 pm6 cd6 ct6 oc7 kV7 dc7 pm7 cd7 ct7 oc8 kV8 dc8 pm8 cd8 ct8 oc9 kV9 dc9 pm9 cd9 ct9 oc10 kV10 dc10 pm10 cd10 ct10 oc11 kV11 dc11 pm11 cd11 ct11 oc12 kV12 dc12 pm12 cd12 ct12 oc13 kV13 dc13 pm13 cd13 ct13 oc14 kV14 dc14 pm14 cd14 ct14 oc15 kV15 dc15 pm15 cd15 ct15 oc16 kV16 dc16 pm16 cd16 ct16 oc17 kV17 dc17 pm17 cd17 ct17 oc18 kV18 dc18 pm18 cd18 ct18 oc19 kV19 dc19 pm19 cd19 ct19 oc81 kV81 dc81 pm81 cd81 ct81 oc20 kV20 dc20 pm20 cd20 ct20 oc21 kV21 dc21 pm21 cd21 ct21 oc22 kV22 dc22 pm22 cd22 ct22 oc23 kV23 dc23 pm23 cd23 ct23 oc24 kV24 dc24 pm24 cd24 ct24 oc25 kV25 dc25 pm25 cd25 ct25 oc26 kV26 dc26 pm26 cd26 ct26 oc27 kV27 dc27 pm27 cd27 ct27 oc28 kV28 dc28 pm28 cd28 ct28 oc29 kV29 dc29 pm29 cd29 ct29 oc30 kV30 dc30 pm30 cd30 ct30 oc31 kV31 dc31 pm31 cd31 ct31 oc32 kV32 dc32 pm32 cd32 ct32 oc33 kV33 dc33 pm33 cd33 ct33 oc35 kV35 dc35 pm35 cd35 ct35:Value} (X:K.In h) (G:h.Ns mainGlobals mg) (hfa:mg "law" = some (.ref fa))
  (aCE:W.nsIn K mainGlobals "CrewError" = some (some (.ref CE)))
  (aCS:W.nsIn K mainGlobals "BadSome" = some (some (.ref CS)))
  (aC1:W.nsIn K mainGlobals "BadCount" = some (some (.ref C1)))
  (aC2:W.nsIn K mainGlobals "BadWages" = some (some (.ref C2)))
  (aCT:W.nsIn K mainGlobals "Town" = some (some (.ref CT)))
  (aMQ:W.nsIn K mainGlobals "MOST_QUARTERS" = some (some (.int 24 t_aMQ)))
  (aMB:W.nsIn K mainGlobals "MOST_BRIDGES" = some (some (.int 60 t_aMB)))
  (a60:W.nsIn K mainGlobals "way_to" = some (some (.ref f60)))
  (l60:K.lookup f60=some ⟨oc60,od60,.func (W.fnOf "way_to" "way_to" (defArgs sWayTo) (defBody sWayTo) (defScope sWayTo) .none kV60 dc60 pm60 an60 cd60 ct60),sl60⟩)
  (c60:W.codeIn K cd60 "way_to" = true)
  (k60:W.keepIn K (.ref f60)=true)
  (a61:W.nsIn K mainGlobals "put_together" = some (some (.ref f61)))
  (l61:K.lookup f61=some ⟨oc61,od61,.func (W.fnOf "put_together" "put_together" (defArgs sTogether) (defBody sTogether) (defScope sTogether) .none kV61 dc61 pm61 an61 cd61 ct61),sl61⟩)
  (c61:W.codeIn K cd61 "put_together" = true)
  (k61:W.keepIn K (.ref f61)=true)
  (a1:W.nsIn K mainGlobals "is_quarter" = some (some (.ref f1)))
  (l1:K.lookup f1=some ⟨oc1,od1,.func (W.fnOf "is_quarter" "is_quarter" (defArgs sIsq) (defBody sIsq) (defScope sIsq) .none kV1 dc1 pm1 an1 cd1 ct1),sl1⟩)
  (c1:W.codeIn K cd1 "is_quarter" = true)
  (k1:W.keepIn K (.ref f1)=true)
  (a2:W.nsIn K mainGlobals "joins_two" = some (some (.ref f2)))
  (l2:K.lookup f2=some ⟨oc2,od2,.func (W.fnOf "joins_two" "joins_two" (defArgs sJoin) (defBody sJoin) (defScope sJoin) .none kV2 dc2 pm2 an2 cd2 ct2),sl2⟩)
  (c2:W.codeIn K cd2 "joins_two" = true)
  (k2:W.keepIn K (.ref f2)=true)
  (a3:W.nsIn K mainGlobals "rises" = some (some (.ref f3)))
  (l3:K.lookup f3=some ⟨oc3,od3,.func (W.fnOf "rises" "rises" (defArgs sRises) (defBody sRises) (defScope sRises) .none kV3 dc3 pm3 an3 cd3 ct3),sl3⟩)
  (c3:W.codeIn K cd3 "rises" = true)
  (k3:W.keepIn K (.ref f3)=true)
  (a4:W.nsIn K mainGlobals "rises_below" = some (some (.ref f4)))
  (l4:K.lookup f4=some ⟨oc4,od4,.func (W.fnOf "rises_below" "rises_below" (defArgs sRisesB) (defBody sRisesB) (defScope sRisesB) .none kV4 dc4 pm4 an4 cd4 ct4),sl4⟩)
  (c4:W.codeIn K cd4 "rises_below" = true)
  (k4:W.keepIn K (.ref f4)=true)
  (a5:W.nsIn K mainGlobals "check_town" = some (some (.ref f5)))
  (l5:K.lookup f5=some ⟨oc5,od5,.func (W.fnOf "check_town" "check_town" (defArgs sCheck) (defBody sCheck) (defScope sCheck) .none kV5 dc5 pm5 an5 cd5 ct5),sl5⟩)
  (c5:W.codeIn K cd5 "check_town" = true)
  (k5:W.keepIn K (.ref f5)=true)
  (a6:W.nsIn K mainGlobals "check_some" = some (some (.ref f6)))
  (l6:K.lookup f6=some ⟨oc6,od6,.func (W.fnOf "check_some" "check_some" (defArgs sCheckS) (defBody sCheckS) (defScope sCheckS) .none kV6 dc6 pm6 an6 cd6 ct6),sl6⟩)
  (c6:W.codeIn K cd6 "check_some" = true)
  (k6:W.keepIn K (.ref f6)=true)
  (a7:W.nsIn K mainGlobals "each_once" = some (some (.ref f7)))
  (l7:K.lookup f7=some ⟨oc7,od7,.func (W.fnOf "each_once" "each_once" (defArgs sOnce) (defBody sOnce) (defScope sOnce) .none kV7 dc7 pm7 an7 cd7 ct7),sl7⟩)
  (c7:W.codeIn K cd7 "each_once" = true)
  (k7:W.keepIn K (.ref f7)=true)
  (a8:W.nsIn K mainGlobals "are_groups" = some (some (.ref f8)))
  (l8:K.lookup f8=some ⟨oc8,od8,.func (W.fnOf "are_groups" "are_groups" (defArgs sGroups) (defBody sGroups) (defScope sGroups) .none kV8 dc8 pm8 an8 cd8 ct8),sl8⟩)
  (c8:W.codeIn K cd8 "are_groups" = true)
  (k8:W.keepIn K (.ref f8)=true)
  (a9:W.nsIn K mainGlobals "lies_within" = some (some (.ref f9)))
  (l9:K.lookup f9=some ⟨oc9,od9,.func (W.fnOf "lies_within" "lies_within" (defArgs sLies) (defBody sLies) (defScope sLies) .none kV9 dc9 pm9 an9 cd9 ct9),sl9⟩)
  (c9:W.codeIn K cd9 "lies_within" = true)
  (k9:W.keepIn K (.ref f9)=true)
  (a10:W.nsIn K mainGlobals "takes_most_of" = some (some (.ref f10)))
  (l10:K.lookup f10=some ⟨oc10,od10,.func (W.fnOf "takes_most_of" "takes_most_of" (defArgs sTakes) (defBody sTakes) (defScope sTakes) .none kV10 dc10 pm10 an10 cd10 ct10),sl10⟩)
  (c10:W.codeIn K cd10 "takes_most_of" = true)
  (k10:W.keepIn K (.ref f10)=true)
  (a11:W.nsIn K mainGlobals "steps_over" = some (some (.ref f11)))
  (l11:K.lookup f11=some ⟨oc11,od11,.func (W.fnOf "steps_over" "steps_over" (defArgs sSteps) (defBody sSteps) (defScope sSteps) .none kV11 dc11 pm11 an11 cd11 ct11),sl11⟩)
  (c11:W.codeIn K cd11 "steps_over" = true)
  (k11:W.keepIn K (.ref f11)=true)
  (a12:W.nsIn K mainGlobals "reached_from" = some (some (.ref f12)))
  (l12:K.lookup f12=some ⟨oc12,od12,.func (W.fnOf "reached_from" "reached_from" (defArgs sReach) (defBody sReach) (defScope sReach) .none kV12 dc12 pm12 an12 cd12 ct12),sl12⟩)
  (c12:W.codeIn K cd12 "reached_from" = true)
  (k12:W.keepIn K (.ref f12)=true)
  (a13:W.nsIn K mainGlobals "way_between" = some (some (.ref f13)))
  (l13:K.lookup f13=some ⟨oc13,od13,.func (W.fnOf "way_between" "way_between" (defArgs sBetween) (defBody sBetween) (defScope sBetween) .none kV13 dc13 pm13 an13 cd13 ct13),sl13⟩)
  (c13:W.codeIn K cd13 "way_between" = true)
  (k13:W.keepIn K (.ref f13)=true)
  (a14:W.nsIn K mainGlobals "ring_over" = some (some (.ref f14)))
  (l14:K.lookup f14=some ⟨oc14,od14,.func (W.fnOf "ring_over" "ring_over" (defArgs sRing) (defBody sRing) (defScope sRing) .none kV14 dc14 pm14 an14 cd14 ct14),sl14⟩)
  (c14:W.codeIn K cd14 "ring_over" = true)
  (k14:W.keepIn K (.ref f14)=true)
  (a15:W.nsIn K mainGlobals "is_dealing" = some (some (.ref f15)))
  (l15:K.lookup f15=some ⟨oc15,od15,.func (W.fnOf "is_dealing" "is_dealing" (defArgs sIsDeal) (defBody sIsDeal) (defScope sIsDeal) .none kV15 dc15 pm15 an15 cd15 ct15),sl15⟩)
  (c15:W.codeIn K cd15 "is_dealing" = true)
  (k15:W.keepIn K (.ref f15)=true)
  (a16:W.nsIn K mainGlobals "are_huddles" = some (some (.ref f16)))
  (l16:K.lookup f16=some ⟨oc16,od16,.func (W.fnOf "are_huddles" "are_huddles" (defArgs sAreHud) (defBody sAreHud) (defScope sAreHud) .none kV16 dc16 pm16 an16 cd16 ct16),sl16⟩)
  (c16:W.codeIn K cd16 "are_huddles" = true)
  (k16:W.keepIn K (.ref f16)=true)
  (a17:W.nsIn K mainGlobals "most_by_huddles" = some (some (.ref f17)))
  (l17:K.lookup f17=some ⟨oc17,od17,.func (W.fnOf "most_by_huddles" "most_by_huddles" (defArgs sMostBy) (defBody sMostBy) (defScope sMostBy) .none kV17 dc17 pm17 an17 cd17 ct17),sl17⟩)
  (c17:W.codeIn K cd17 "most_by_huddles" = true)
  (k17:W.keepIn K (.ref f17)=true)
  (a18:W.nsIn K mainGlobals "level_shows" = some (some (.ref f18)))
  (l18:K.lookup f18=some ⟨oc18,od18,.func (W.fnOf "level_shows" "level_shows" (defArgs sLevel) (defBody sLevel) (defScope sLevel) .none kV18 dc18 pm18 an18 cd18 ct18),sl18⟩)
  (c18:W.codeIn K cd18 "level_shows" = true)
  (k18:W.keepIn K (.ref f18)=true)
  (a19:W.findIn K (.ref CT) "__init__" = some (some (.ref f19)))
  (l19:K.lookup f19=some ⟨oc19,od19,.func (W.fnOf "__init__" "Town.__init__" (defArgs sInit) (defBody sInit) (defScope sInit) .none kV19 dc19 pm19 an19 cd19 ct19),sl19⟩)
  (c19:W.codeIn K cd19 "Town.__init__" = true)
  (k19:W.keepIn K (.ref f19)=true)
  (a81:W.findIn K (.ref CS) "called" = some (some (.ref f81)))
  (l81:K.lookup f81=some ⟨oc81,od81,.func (W.fnOf "called" "BadSome.called" (defArgs sCalledS) (defBody sCalledS) (defScope sCalledS) .none kV81 dc81 pm81 an81 cd81 ct81),sl81⟩)
  (c81:W.codeIn K cd81 "BadSome.called" = true)
  (k81:W.keepIn K (.ref f81)=true)
  (a20:W.nsIn K mainGlobals "_law_numbers" = some (some (.ref f20)))
  (l20:K.lookup f20=some ⟨oc20,od20,.func (W.fnOf "_law_numbers" "_law_numbers" (defArgs sNumbers) (defBody sNumbers) (defScope sNumbers) .none kV20 dc20 pm20 an20 cd20 ct20),sl20⟩)
  (c20:W.codeIn K cd20 "_law_numbers" = true)
  (k20:W.keepIn K (.ref f20)=true)
  (a21:W.nsIn K mainGlobals "_law_town" = some (some (.ref f21)))
  (l21:K.lookup f21=some ⟨oc21,od21,.func (W.fnOf "_law_town" "_law_town" (defArgs sTown) (defBody sTown) (defScope sTown) .none kV21 dc21 pm21 an21 cd21 ct21),sl21⟩)
  (c21:W.codeIn K cd21 "_law_town" = true)
  (k21:W.keepIn K (.ref f21)=true)
  (a22:W.nsIn K mainGlobals "_law_whole_number" = some (some (.ref f22)))
  (l22:K.lookup f22=some ⟨oc22,od22,.func (W.fnOf "_law_whole_number" "_law_whole_number" (defArgs sWholeN) (defBody sWholeN) (defScope sWholeN) .none kV22 dc22 pm22 an22 cd22 ct22),sl22⟩)
  (c22:W.codeIn K cd22 "_law_whole_number" = true)
  (k22:W.keepIn K (.ref f22)=true)
  (a23:W.nsIn K mainGlobals "_law_rises" = some (some (.ref f23)))
  (l23:K.lookup f23=some ⟨oc23,od23,.func (W.fnOf "_law_rises" "_law_rises" (defArgs sLRises) (defBody sLRises) (defScope sLRises) .none kV23 dc23 pm23 an23 cd23 ct23),sl23⟩)
  (c23:W.codeIn K cd23 "_law_rises" = true)
  (k23:W.keepIn K (.ref f23)=true)
  (a24:W.nsIn K mainGlobals "_law_ringless" = some (some (.ref f24)))
  (l24:K.lookup f24=some ⟨oc24,od24,.func (W.fnOf "_law_ringless" "_law_ringless" (defArgs sRingless) (defBody sRingless) (defScope sRingless) .none kV24 dc24 pm24 an24 cd24 ct24),sl24⟩)
  (c24:W.codeIn K cd24 "_law_ringless" = true)
  (k24:W.keepIn K (.ref f24)=true)
  (a25:W.nsIn K mainGlobals "_law_dealing" = some (some (.ref f25)))
  (l25:K.lookup f25=some ⟨oc25,od25,.func (W.fnOf "_law_dealing" "_law_dealing" (defArgs sDealing) (defBody sDealing) (defScope sDealing) .none kV25 dc25 pm25 an25 cd25 ct25),sl25⟩)
  (c25:W.codeIn K cd25 "_law_dealing" = true)
  (k25:W.keepIn K (.ref f25)=true)
  (a26:W.nsIn K mainGlobals "_law_huddles" = some (some (.ref f26)))
  (l26:K.lookup f26=some ⟨oc26,od26,.func (W.fnOf "_law_huddles" "_law_huddles" (defArgs sLHuddles) (defBody sLHuddles) (defScope sLHuddles) .none kV26 dc26 pm26 an26 cd26 ct26),sl26⟩)
  (c26:W.codeIn K cd26 "_law_huddles" = true)
  (k26:W.keepIn K (.ref f26)=true)
  (a27:W.nsIn K mainGlobals "_law_room" = some (some (.ref f27)))
  (l27:K.lookup f27=some ⟨oc27,od27,.func (W.fnOf "_law_room" "_law_room" (defArgs sLRoom) (defBody sLRoom) (defScope sLRoom) .none kV27 dc27 pm27 an27 cd27 ct27),sl27⟩)
  (c27:W.codeIn K cd27 "_law_room" = true)
  (k27:W.keepIn K (.ref f27)=true)
  (a28:W.nsIn K mainGlobals "_law_dealt_by" = some (some (.ref f28)))
  (l28:K.lookup f28=some ⟨oc28,od28,.func (W.fnOf "_law_dealt_by" "_law_dealt_by" (defArgs sDealtBy) (defBody sDealtBy) (defScope sDealtBy) .none kV28 dc28 pm28 an28 cd28 ct28),sl28⟩)
  (c28:W.codeIn K cd28 "_law_dealt_by" = true)
  (k28:W.keepIn K (.ref f28)=true)
  (a29:W.nsIn K mainGlobals "_law_huddled_by" = some (some (.ref f29)))
  (l29:K.lookup f29=some ⟨oc29,od29,.func (W.fnOf "_law_huddled_by" "_law_huddled_by" (defArgs sHuddledBy) (defBody sHuddledBy) (defScope sHuddledBy) .none kV29 dc29 pm29 an29 cd29 ct29),sl29⟩)
  (c29:W.codeIn K cd29 "_law_huddled_by" = true)
  (k29:W.keepIn K (.ref f29)=true)
  (a30:W.nsIn K mainGlobals "_law_spoilt_dealing" = some (some (.ref f30)))
  (l30:K.lookup f30=some ⟨oc30,od30,.func (W.fnOf "_law_spoilt_dealing" "_law_spoilt_dealing" (defArgs sSpDealing) (defBody sSpDealing) (defScope sSpDealing) .none kV30 dc30 pm30 an30 cd30 ct30),sl30⟩)
  (c30:W.codeIn K cd30 "_law_spoilt_dealing" = true)
  (k30:W.keepIn K (.ref f30)=true)
  (a31:W.nsIn K mainGlobals "_law_spoilt_huddles" = some (some (.ref f31)))
  (l31:K.lookup f31=some ⟨oc31,od31,.func (W.fnOf "_law_spoilt_huddles" "_law_spoilt_huddles" (defArgs sSpHuddles) (defBody sSpHuddles) (defScope sSpHuddles) .none kV31 dc31 pm31 an31 cd31 ct31),sl31⟩)
  (c31:W.codeIn K cd31 "_law_spoilt_huddles" = true)
  (k31:W.keepIn K (.ref f31)=true)
  (a32:W.nsIn K mainGlobals "_law_spoilt_some" = some (some (.ref f32)))
  (l32:K.lookup f32=some ⟨oc32,od32,.func (W.fnOf "_law_spoilt_some" "_law_spoilt_some" (defArgs sSpSome) (defBody sSpSome) (defScope sSpSome) .none kV32 dc32 pm32 an32 cd32 ct32),sl32⟩)
  (c32:W.codeIn K cd32 "_law_spoilt_some" = true)
  (k32:W.keepIn K (.ref f32)=true)
  (a33:W.nsIn K mainGlobals "_law_refused" = some (some (.ref f33)))
  (l33:K.lookup f33=some ⟨oc33,od33,.func (W.fnOf "_law_refused" "_law_refused" (defArgs sRefused) (defBody sRefused) (defScope sRefused) .none kV33 dc33 pm33 an33 cd33 ct33),sl33⟩)
  (c33:W.codeIn K cd33 "_law_refused" = true)
  (k33:W.keepIn K (.ref f33)=true)
  (a35:W.nsIn K mainGlobals "law" = some (some (.ref f35)))
  (l35:K.lookup f35=some ⟨oc35,od35,.func (W.fnOf "law" "law" (defArgs sLaw) (defBody sLaw) (defScope sLaw) .none kV35 dc35 pm35 an35 cd35 ct35),sl35⟩)
  (c35:W.codeIn K cd35 "law" = true)
  (k35:W.keepIn K (.ref f35)=true)
  (i19:W.isFn K (.ref f19)=true)
  (i81:W.isFn K (.ref f81)=true)
  (pg:W.plainGet K CT Str.empty=true)
  (hd:W.hasDictIn K CT=true)
  (po:W.plainOver K CT=true)
  (sa:W.findIn K (.ref CT) "__setattr__" = some (some (.builtin "object.__setattr__")))
  (mkT:W.makesIn K CT=true)
  (kT:W.keepIn K (.ref CT)=true)
  (nf0:W.findIn K (.ref CT) "quarters" = some none)
  (nf1:W.findIn K (.ref CT) "bridges" = some none)
  (eS:W.excIn K CS [.type "ValueError",.type "Exception",.type "BaseException",.type "object"] "ValueError.__new__" = true)
  (b1S:W.findIn K (.ref CS) "__getattribute__" = some (some (.builtin "BaseException.__getattribute__")))
  (b2S:W.findIn K (.ref CS) "__getattr__" = some none)
  (b3S:W.isClsIn K CS=true)
  (b4S:W.findIn K (.ref CS) "__class__" = some (some (.builtin "object.__class__")))
  (b7S:W.mroIn K CS (.type "object")=some true)
  (b8S:W.mroIn K CS (.type "BaseException")=some true)
  (s1S:W.mroIn K CS (.ref CE)=some true)
  (b5:W.specialIn K (.builtin "object.__class__") "__get__" = some (some (.builtin "getset_descriptor.__get__")))
  (b6:W.takesIn K (.builtin "object.__class__")=some true)
  (n1:W.isClsIn K CE=true)
  (n2:W.typeIn K (.ref CE)=some (.type "type"))
  (n3:W.mroIn K CE (.type "BaseException")=some true)
  (sV:W.kitOne K (.ref CS) (.type "ValueError")=some true)
  (x1:W.kitOne K (.ref CS) (.ref C1)=some false)
  (x2:W.kitOne K (.ref CS) (.ref C2)=some false)
  (z0:W.nsIn K mainGlobals "len" = some none)
  (z1:W.nsIn K mainGlobals "list" = some none)
  (z2:W.nsIn K mainGlobals "range" = some none)
  (z3:W.nsIn K mainGlobals "isinstance" = some none)
  (z4:W.nsIn K mainGlobals "int" = some none)
  (z5:W.nsIn K mainGlobals "bool" = some none)
  (z6:W.nsIn K mainGlobals "all" = some none)
  (z7:W.nsIn K mainGlobals "any" = some none)
  (z8:W.nsIn K mainGlobals "zip" = some none)
  (z9:W.nsIn K mainGlobals "max" = some none)
  (z10:W.nsIn K mainGlobals "min" = some none)
  (z11:W.nsIn K mainGlobals "set" = some none)
  (z12:W.nsIn K mainGlobals "sum" = some none)
  (z13:W.nsIn K mainGlobals "reversed" = some none)
  (z14:W.nsIn K mainGlobals "sorted" = some none)
  (z15:W.nsIn K mainGlobals "enumerate" = some none)
  (z16:W.nsIn K mainGlobals "ValueError" = some none) :
  ∃ fd:FuncData,(∀ (s:Shared) (v:Value),BindsTo s fd ⟨[v],[]⟩ [("script",v)])∧∀ base:Heap,K.In base→base.Ns mainGlobals mg→FnOk l.prog w K mg base CX0 9 fa fd ["script"] (spLaw K):=by
 have e:=hfa.symm.trans (W.mg_of X G a35)
 cases e
 have T:Txt K mg CE CS CS CT:=⟨W.mg_of X G aCE,W.mg_of X G aCS,W.mg_of X G aCT,⟨eS,PySem.F.excBase_ValueError⟩,⟨b1S,b2S,b3S,b4S,b5,b6,b7S,b8S⟩,⟨n1,n2,n3⟩,s1S,sV,⟨_,_,W.mg_of X G aC1,W.mg_of X G aC2,kit2 x1 x2⟩,⟨pg,hd,po,sa⟩,nf0,nf1,⟨_,W.mg_of X G aMQ⟩,⟨_,W.mg_of X G aMB⟩,W.mg_none_of X G z0,W.mg_none_of X G z1,W.mg_none_of X G z2,W.mg_none_of X G z3,W.mg_none_of X G z4,W.mg_none_of X G z5,W.mg_none_of X G z6,W.mg_none_of X G z7,W.mg_none_of X G z8,W.mg_none_of X G z9,W.mg_none_of X G z10,W.mg_none_of X G z11,W.mg_none_of X G z12,W.mg_none_of X G z13,W.mg_none_of X G z14,W.mg_none_of X G z15,W.mg_none_of X G z16⟩
 have F60:=fun_mk (st:=sWayTo) l60 c60 k60
 have B60:=F60.binds (ps:=["quarter", "came_by"]) fun _ _ _ _ _ _ us hl=>len2 (fun _ _=>rfl) us hl
 have F61:=fun_mk (st:=sTogether) l61 c61 k61
 have B61:=F61.binds (ps:=["lists"]) fun _ _ _ _ _ _ us hl=>len1 (fun _=>rfl) us hl
 have F1:=fun_mk (st:=sIsq) l1 c1 k1
 have B1:=F1.binds (ps:=["number", "quarters"]) fun _ _ _ _ _ _ us hl=>len2 (fun _ _=>rfl) us hl
 have F2:=fun_mk (st:=sJoin) l2 c2 k2
 have B2:=F2.binds (ps:=["one", "other", "quarters"]) fun _ _ _ _ _ _ us hl=>len3 (fun _ _ _=>rfl) us hl
 have F3:=fun_mk (st:=sRises) l3 c3 k3
 have B3:=F3.binds (ps:=["numbers"]) fun _ _ _ _ _ _ us hl=>len1 (fun _=>rfl) us hl
 have F4:=fun_mk (st:=sRisesB) l4 c4 k4
 have B4:=F4.binds (ps:=["numbers", "count"]) fun _ _ _ _ _ _ us hl=>len2 (fun _ _=>rfl) us hl
 have F5:=fun_mk (st:=sCheck) l5 c5 k5
 have B5:=F5.binds (ps:=["quarters", "bridges"]) fun _ _ _ _ _ _ us hl=>len2 (fun _ _=>rfl) us hl
 have F6:=fun_mk (st:=sCheckS) l6 c6 k6
 have B6:=F6.binds (ps:=["some", "bridges"]) fun _ _ _ _ _ _ us hl=>len2 (fun _ _=>rfl) us hl
 have F7:=fun_mk (st:=sOnce) l7 c7 k7
 have B7:=F7.binds (ps:=["lists"]) fun _ _ _ _ _ _ us hl=>len1 (fun _=>rfl) us hl
 have F8:=fun_mk (st:=sGroups) l8 c8 k8
 have B8:=F8.binds (ps:=["groups", "quarters", "fewest"]) fun _ _ _ _ _ _ us hl=>len3 (fun _ _ _=>rfl) us hl
 have F9:=fun_mk (st:=sLies) l9 c9 k9
 have B9:=F9.binds (ps:=["ends", "huddles"]) fun _ _ _ _ _ _ us hl=>len2 (fun _ _=>rfl) us hl
 have F10:=fun_mk (st:=sTakes) l10 c10 k10
 have B10:=F10.binds (ps:=["town", "some", "dealing", "huddles"]) fun _ _ _ _ _ _ us hl=>len4 (fun _ _ _ _=>rfl) us hl
 have F11:=fun_mk (st:=sSteps) l11 c11 k11
 have B11:=F11.binds (ps:=["town", "some"]) fun _ _ _ _ _ _ us hl=>len2 (fun _ _=>rfl) us hl
 have F12:=fun_mk (st:=sReach) l12 c12 k12
 have B12:=F12.binds (ps:=["steps", "start"]) fun _ _ _ _ _ _ us hl=>len2 (fun _ _=>rfl) us hl
 have F13:=fun_mk (st:=sBetween) l13 c13 k13
 have B13:=F13.binds (ps:=["town", "some", "one", "other"]) fun _ _ _ _ _ _ us hl=>len4 (fun _ _ _ _=>rfl) us hl
 have F14:=fun_mk (st:=sRing) l14 c14 k14
 have B14:=F14.binds (ps:=["town", "some"]) fun _ _ _ _ _ _ us hl=>len2 (fun _ _=>rfl) us hl
 have F15:=fun_mk (st:=sIsDeal) l15 c15 k15
 have B15:=F15.binds (ps:=["town", "dealing"]) fun _ _ _ _ _ _ us hl=>len2 (fun _ _=>rfl) us hl
 have F16:=fun_mk (st:=sAreHud) l16 c16 k16
 have B16:=F16.binds (ps:=["town", "huddles"]) fun _ _ _ _ _ _ us hl=>len2 (fun _ _=>rfl) us hl
 have F17:=fun_mk (st:=sMostBy) l17 c17 k17
 have B17:=F17.binds (ps:=["town", "some", "crews", "huddles"]) fun _ _ _ _ _ _ us hl=>len4 (fun _ _ _ _=>rfl) us hl
 have F18:=fun_mk (st:=sLevel) l18 c18 k18
 have B18:=F18.binds (ps:=["town", "some", "dealing", "huddles"]) fun _ _ _ _ _ _ us hl=>len4 (fun _ _ _ _=>rfl) us hl
 have F19:=fun_mk (st:=sInit) l19 c19 k19
 have B19:=F19.binds (ps:=["self", "quarters", "bridges"]) fun _ _ _ _ _ _ us hl=>len3 (fun _ _ _=>rfl) us hl
 have F81:=fun_mk (st:=sCalledS) l81 c81 k81
 have B81:=F81.binds (ps:=["self"]) fun _ _ _ _ _ _ us hl=>len1 (fun _=>rfl) us hl
 have F20:=fun_mk (st:=sNumbers) l20 c20 k20
 have B20:=F20.binds (ps:=["script", "many"]) fun _ _ _ _ _ _ us hl=>len2 (fun _ _=>rfl) us hl
 have F21:=fun_mk (st:=sTown) l21 c21 k21
 have B21:=F21.binds (ps:=["numbers", "most"]) fun _ _ _ _ _ _ us hl=>len2 (fun _ _=>rfl) us hl
 have F22:=fun_mk (st:=sWholeN) l22 c22 k22
 have B22:=F22.binds (ps:=["found"]) fun _ _ _ _ _ _ us hl=>len1 (fun _=>rfl) us hl
 have F23:=fun_mk (st:=sLRises) l23 c23 k23
 have B23:=F23.binds (ps:=["found", "most"]) fun _ _ _ _ _ _ us hl=>len2 (fun _ _=>rfl) us hl
 have F24:=fun_mk (st:=sRingless) l24 c24 k24
 have B24:=F24.binds (ps:=["quarters", "pairs", "held"]) fun _ _ _ _ _ _ us hl=>len3 (fun _ _ _=>rfl) us hl
 have F25:=fun_mk (st:=sDealing) l25 c25 k25
 have B25:=F25.binds (ps:=["quarters", "pairs", "found", "crews"]) fun _ _ _ _ _ _ us hl=>len4 (fun _ _ _ _=>rfl) us hl
 have F26:=fun_mk (st:=sLHuddles) l26 c26 k26
 have B26:=F26.binds (ps:=["quarters", "found"]) fun _ _ _ _ _ _ us hl=>len2 (fun _ _=>rfl) us hl
 have F27:=fun_mk (st:=sLRoom) l27 c27 k27
 have B27:=F27.binds (ps:=["pairs", "some", "crews", "huddles"]) fun _ _ _ _ _ _ us hl=>len4 (fun _ _ _ _=>rfl) us hl
 have F28:=fun_mk (st:=sDealtBy) l28 c28 k28
 have B28:=F28.binds (ps:=["quarters", "pairs", "numbers", "crews"]) fun _ _ _ _ _ _ us hl=>len4 (fun _ _ _ _=>rfl) us hl
 have F29:=fun_mk (st:=sHuddledBy) l29 c29 k29
 have B29:=F29.binds (ps:=["quarters", "numbers"]) fun _ _ _ _ _ _ us hl=>len2 (fun _ _=>rfl) us hl
 have F30:=fun_mk (st:=sSpDealing) l30 c30 k30
 have B30:=F30.binds (ps:=["held", "fault", "numbers", "many"]) fun _ _ _ _ _ _ us hl=>len4 (fun _ _ _ _=>rfl) us hl
 have F31:=fun_mk (st:=sSpHuddles) l31 c31 k31
 have B31:=F31.binds (ps:=["huddles", "fault", "numbers", "quarters"]) fun _ _ _ _ _ _ us hl=>len4 (fun _ _ _ _=>rfl) us hl
 have F32:=fun_mk (st:=sSpSome) l32 c32 k32
 have B32:=F32.binds (ps:=["some", "fault", "numbers", "many"]) fun _ _ _ _ _ _ us hl=>len4 (fun _ _ _ _=>rfl) us hl
 have F33:=fun_mk (st:=sRefused) l33 c33 k33
 have B33:=F33.binds (ps:=["town", "some", "dealing", "huddles"]) fun _ _ _ _ _ _ us hl=>len4 (fun _ _ _ _=>rfl) us hl
 have F35:=fun_mk (st:=sLaw) l35 c35 k35
 refine ⟨W.fnOf "law" "law" (defArgs sLaw) (defBody sLaw) (defScope sLaw) .none kV35 dc35 pm35 an35 cd35 ct35,fun s v=>.of_eq rfl,fun base _ _=>?_⟩
 have G60:=ok_wayTo (P:=l.prog) (w:=w) (base:=base) T F60
 have G61:=ok_together (P:=l.prog) (w:=w) (base:=base) T F61
 have G2:=ok_join (P:=l.prog) (w:=w) (base:=base) F2 F1 B1 (W.mg_of X G a1)
 have G3:=ok_rises (P:=l.prog) (w:=w) (base:=base) T F3
 have G4:=ok_risesB T F4 G3 B3 (W.mg_of X G a3) k3
 have G5:=ok_check T F5 G2 B2 (W.mg_of X G a2) k2
 have G6:=ok_checkS T F6 G4 B4 (W.mg_of X G a4) k4
 have G7:=ok_once T F7 G61 B61 (W.mg_of X G a61) k61
 have G8:=ok_groups T F8 G4 B4 (W.mg_of X G a4) k4 G7 B7 (W.mg_of X G a7) k7 G3 B3 (W.mg_of X G a3) k3
 have G9:=ok_lies (P:=l.prog) (w:=w) (base:=base) T F9
 have G11:=ok_steps (P:=l.prog) (w:=w) (base:=base) T F11
 have G12:=ok_reach (P:=l.prog) (w:=w) (base:=base) T F12
 have G13:=ok_between T F13 G11 B11 (W.mg_of X G a11) k11 G12 B12 (W.mg_of X G a12) k12 G60 B60 (W.mg_of X G a60) k60
 have G14:=ok_ring T F14 G6 B6 (W.mg_of X G a6) k6 G13 B13 (W.mg_of X G a13) k13
 have G15:=ok_isDeal T F15 G4 B4 (W.mg_of X G a4) k4 G14 B14 (W.mg_of X G a14) k14 G7 B7 (W.mg_of X G a7) k7
 have G16:=ok_areHud T F16 G8 B8 (W.mg_of X G a8) k8
 have G17:=ok_mostBy T F17 G9 B9 (W.mg_of X G a9) k9
 have G10:=ok_takes T F10 G15 B15 (W.mg_of X G a15) k15 G16 B16 (W.mg_of X G a16) k16 G17 B17 (W.mg_of X G a17) k17 G61 B61 (W.mg_of X G a61) k61
 have G18:=ok_level T F18 G6 B6 (W.mg_of X G a6) k6 G10 B10 (W.mg_of X G a10) k10
 have G19:=ok_init T F19 G5 B5 (W.mg_of X G a5) k5
 have G81:=ok_calledS (P:=l.prog) (w:=w) (mg:=mg) (base:=base) F81
 have G20:=ok_Numbers (P:=l.prog) (w:=w) (base:=base) T F20
 have G21:=ok_town (P:=l.prog) (w:=w) (base:=base) T F21
 have G22:=ok_whole (P:=l.prog) (w:=w) (base:=base) T F22
 have G23:=ok_lrises T F23 G22 B22 (W.mg_of X G a22) k22
 have G24:=ok_ringless (P:=l.prog) (w:=w) (base:=base) T F24
 have G25:=ok_ldealing T F25 G23 B23 (W.mg_of X G a23) k23 G24 B24 (W.mg_of X G a24) k24
 have G26:=ok_lhuddles T F26 G23 B23 (W.mg_of X G a23) k23
 have G27:=ok_lroom (P:=l.prog) (w:=w) (base:=base) T F27
 have G28:=ok_dealtBy T F28 G24 B24 (W.mg_of X G a24) k24
 have G29:=ok_hudBy (P:=l.prog) (w:=w) (base:=base) T F29
 have G30:=ok_spD (P:=l.prog) (w:=w) (base:=base) T F30
 have G31:=ok_spH (P:=l.prog) (w:=w) (base:=base) T F31
 have G32:=ok_spS (P:=l.prog) (w:=w) (base:=base) T F32
 have G33:=ok_refused T F33 G81 B81 a81 i81 k81 G18 B18 (W.mg_of X G a18) k18
 exact ok_law T F35 ⟨G19,B19,⟨mkT,a19,i19,kT⟩,⟨G20,B20,(W.mg_of X G a20),k20⟩,⟨G21,B21,(W.mg_of X G a21),k21⟩,⟨G28,B28,(W.mg_of X G a28),k28⟩,⟨G29,B29,(W.mg_of X G a29),k29⟩,⟨G30,B30,(W.mg_of X G a30),k30⟩,⟨G31,B31,(W.mg_of X G a31),k31⟩,⟨G32,B32,(W.mg_of X G a32),k32⟩,⟨G33,B33,(W.mg_of X G a33),k33⟩,⟨G23,B23,(W.mg_of X G a23),k23⟩,⟨G25,B25,(W.mg_of X G a25),k25⟩,⟨G26,B26,(W.mg_of X G a26),k26⟩,⟨G27,B27,(W.mg_of X G a27),k27⟩⟩
theorem walk {l:W.OpenLaw} {q:Program} {loose:List Str} {XP:(Str→Option Value)→Heap→Prop} {YP:World→Heap→Prop} {d:DefRec} {K:Params→W.Frag} (hn:l.most=some 63) (hdf:d.params.defaults=[])
  (hY:∀ (w:World) (h:Heap),YP w h→(K w.params).In h)
  (F:∀ (w:World) (mg:Str→Option Value) (fa:Addr) (h:Heap),(K w.params).In h→h.Ns mainGlobals mg→mg d.name=some (.ref fa)→
   ∃ fd:FuncData,(∀ (s:Shared) (u:Value),BindsTo s fd ⟨[u],[]⟩ [("script",u)])∧∀ base:Heap,(K w.params).In base→base.Ns mainGlobals mg→FnOk l.prog w (K w.params) mg base CX0 9 fa fd ["script"] (spLaw (K w.params))) :
  W.WalkO q loose XP YP l.row.toRowW d [] (fun f vs=>PySem.call f vs):=
 L2.walk_of (n:=63) (k:=9) (x := "script") (CX:=fun _=>CX0) (sp:=fun w=>spLaw (K w.params)) hn (by decide) hdf ⟨rfl,by decide,by decide⟩ hY F (fun _ _ a ns hl _ hS=>⟨a,ns,rfl,hS,hl,fun _=>rfl⟩) fun _ _ _ _ _ z=>z
end K26
def PySem.W.Fast.tw10293036175729571846 : Unit := ()
def PySem.W.Fast.tw13287003882666438243 : Unit := ()
def PySem.W.Fast.tw14575124866458006342 : Unit := ()
def PySem.W.Fast.tw1469671389179841538 : Unit := ()
def PySem.W.Fast.tw1478170346536018558 : Unit := ()
def PySem.W.Fast.tw15184518317228757722 : Unit := ()
def PySem.W.Fast.tw15503632485115682358 : Unit := ()
def PySem.W.Fast.tw16337077515738816644 : Unit := ()
def PySem.W.Fast.tw17308085864576961866 : Unit := ()
def PySem.W.Fast.tw2289173299927413229 : Unit := ()
def PySem.W.Fast.tw3143960603809868636 : Unit := ()
def PySem.W.Fast.tw3683398757250464639 : Unit := ()
def PySem.W.Fast.tw5235891753987681284 : Unit := ()
def PySem.W.Fast.tw5915998587427041508 : Unit := ()
def PySem.W.Fast.tw6708787305000329022 : Unit := ()
def PySem.W.Fast.tw7162977746688421182 : Unit := ()
def PySem.W.Fast.tw7775314197640987424 : Unit := ()
def PySem.W.Fast.tw7913296078344857578 : Unit := ()
def PySem.W.Fast.tw7986490581284639832 : Unit := ()
def PySem.W.Fast.tw8067190460938316659 : Unit := ()
def PySem.W.Fast.tw8528336147937168951 : Unit := ()
def PySem.W.Fast.tw8937553401347130220 : Unit := ()
def PySem.W.Fast.tw9477318589754412853 : Unit := ()
def PySem.W.Fast.tw9584007204065807197 : Unit := ()
open PySem PySem.W PyProof.Rows
set_option maxRecDepth 100000 in
set_option maxHeartbeats 0 in
theorem PySem.Challenge.cw_bridgecrews_k26_levels_looked_at_holds : PySem.Challenge.rw_bridgecrews_k26_levels_looked_at.Holds := by
 w_on;o_law;k_head;(case hw=>w_witness2)
 k_fill
 refine K26.walk (l:=PySem.Challenge.rw_bridgecrews_k26_levels_looked_at) rfl rfl (fun w h Y=>PySem.W.kIn_of Y) ?F
 case F=>
  intro w mg fa h KX G hmg
  refine' K26.all_mk KX G hmg ?aCE ?aCS ?aC1 ?aC2 ?aCT ?aMQ ?aMB ?a60 ?l60 ?c60 ?k60 ?a61 ?l61 ?c61 ?k61 ?a1 ?l1 ?c1 ?k1 ?a2 ?l2 ?c2 ?k2 ?a3 ?l3 ?c3 ?k3 ?a4 ?l4 ?c4 ?k4 ?a5 ?l5 ?c5 ?k5 ?a6 ?l6 ?c6 ?k6 ?a7 ?l7 ?c7 ?k7 ?a8 ?l8 ?c8 ?k8 ?a9 ?l9 ?c9 ?k9 ?a10 ?l10 ?c10 ?k10 ?a11 ?l11 ?c11 ?k11 ?a12 ?l12 ?c12 ?k12 ?a13 ?l13 ?c13 ?k13 ?a14 ?l14 ?c14 ?k14 ?a15 ?l15 ?c15 ?k15 ?a16 ?l16 ?c16 ?k16 ?a17 ?l17 ?c17 ?k17 ?a18 ?l18 ?c18 ?k18 ?a19 ?l19 ?c19 ?k19 ?a81 ?l81 ?c81 ?k81 ?a20 ?l20 ?c20 ?k20 ?a21 ?l21 ?c21 ?k21 ?a22 ?l22 ?c22 ?k22 ?a23 ?l23 ?c23 ?k23 ?a24 ?l24 ?c24 ?k24 ?a25 ?l25 ?c25 ?k25 ?a26 ?l26 ?c26 ?k26 ?a27 ?l27 ?c27 ?k27 ?a28 ?l28 ?c28 ?k28 ?a29 ?l29 ?c29 ?k29 ?a30 ?l30 ?c30 ?k30 ?a31 ?l31 ?c31 ?k31 ?a32 ?l32 ?c32 ?k32 ?a33 ?l33 ?c33 ?k33 ?a35 ?l35 ?c35 ?k35 ?i19 ?i81 ?pg ?hd ?po ?sa ?mkT ?kT ?nf0 ?nf1 ?eS ?b1S ?b2S ?b3S ?b4S ?b7S ?b8S ?s1S ?b5 ?b6 ?n1 ?n2 ?n3 ?sV ?x1 ?x2 ?z0 ?z1 ?z2 ?z3 ?z4 ?z5 ?z6 ?z7 ?z8 ?z9 ?z10 ?z11 ?z12 ?z13 ?z14 ?z15 ?z16
  (case aCE=>k_is)
  (case aCS=>k_is)
  (case aC1=>k_is)
  (case aC2=>k_is)
  (case aCT=>k_is)
  (case aMQ=>k_is)
  (case aMB=>k_is)
  (case a60=>k_is)
  (case l60=>k_is)
  (case c60=>k_is)
  (case k60=>k_is)
  (case a61=>k_is)
  (case l61=>k_is)
  (case c61=>k_is)
  (case k61=>k_is)
  (case a1=>k_is)
  (case l1=>k_is)
  (case c1=>k_is)
  (case k1=>k_is)
  (case a2=>k_is)
  (case l2=>k_is)
  (case c2=>k_is)
  (case k2=>k_is)
  (case a3=>k_is)
  (case l3=>k_is)
  (case c3=>k_is)
  (case k3=>k_is)
  (case a4=>k_is)
  (case l4=>k_is)
  (case c4=>k_is)
  (case k4=>k_is)
  (case a5=>k_is)
  (case l5=>k_is)
  (case c5=>k_is)
  (case k5=>k_is)
  (case a6=>k_is)
  (case l6=>k_is)
  (case c6=>k_is)
  (case k6=>k_is)
  (case a7=>k_is)
  (case l7=>k_is)
  (case c7=>k_is)
  (case k7=>k_is)
  (case a8=>k_is)
  (case l8=>k_is)
  (case c8=>k_is)
  (case k8=>k_is)
  (case a9=>k_is)
  (case l9=>k_is)
  (case c9=>k_is)
  (case k9=>k_is)
  (case a10=>k_is)
  (case l10=>k_is)
  (case c10=>k_is)
  (case k10=>k_is)
  (case a11=>k_is)
  (case l11=>k_is)
  (case c11=>k_is)
  (case k11=>k_is)
  (case a12=>k_is)
  (case l12=>k_is)
  (case c12=>k_is)
  (case k12=>k_is)
  (case a13=>k_is)
  (case l13=>k_is)
  (case c13=>k_is)
  (case k13=>k_is)
  (case a14=>k_is)
  (case l14=>k_is)
  (case c14=>k_is)
  (case k14=>k_is)
  (case a15=>k_is)
  (case l15=>k_is)
  (case c15=>k_is)
  (case k15=>k_is)
  (case a16=>k_is)
  (case l16=>k_is)
  (case c16=>k_is)
  (case k16=>k_is)
  (case a17=>k_is)
  (case l17=>k_is)
  (case c17=>k_is)
  (case k17=>k_is)
  (case a18=>k_is)
  (case l18=>k_is)
  (case c18=>k_is)
  (case k18=>k_is)
  (case a19=>k_is)
  (case l19=>k_is)
  (case c19=>k_is)
  (case k19=>k_is)
  (case a81=>k_is)
  (case l81=>k_is)
  (case c81=>k_is)
  (case k81=>k_is)
  (case a20=>k_is)
  (case l20=>k_is)
  (case c20=>k_is)
  (case k20=>k_is)
  (case a21=>k_is)
  (case l21=>k_is)
  (case c21=>k_is)
  (case k21=>k_is)
  (case a22=>k_is)
  (case l22=>k_is)
  (case c22=>k_is)
  (case k22=>k_is)
  (case a23=>k_is)
  (case l23=>k_is)
  (case c23=>k_is)
  (case k23=>k_is)
  (case a24=>k_is)
  (case l24=>k_is)
  (case c24=>k_is)
  (case k24=>k_is)
  (case a25=>k_is)
  (case l25=>k_is)
  (case c25=>k_is)
  (case k25=>k_is)
  (case a26=>k_is)
  (case l26=>k_is)
  (case c26=>k_is)
  (case k26=>k_is)
  (case a27=>k_is)
  (case l27=>k_is)
  (case c27=>k_is)
  (case k27=>k_is)
  (case a28=>k_is)
  (case l28=>k_is)
  (case c28=>k_is)
  (case k28=>k_is)
  (case a29=>k_is)
  (case l29=>k_is)
  (case c29=>k_is)
  (case k29=>k_is)
  (case a30=>k_is)
  (case l30=>k_is)
  (case c30=>k_is)
  (case k30=>k_is)
  (case a31=>k_is)
  (case l31=>k_is)
  (case c31=>k_is)
  (case k31=>k_is)
  (case a32=>k_is)
  (case l32=>k_is)
  (case c32=>k_is)
  (case k32=>k_is)
  (case a33=>k_is)
  (case l33=>k_is)
  (case c33=>k_is)
  (case k33=>k_is)
  (case a35=>k_is)
  (case l35=>k_is)
  (case c35=>k_is)
  (case k35=>k_is)
  (case i19=>k_is)
  (case i81=>k_is)
  (case pg=>k_is)
  (case hd=>k_is)
  (case po=>k_is)
  (case sa=>k_is)
  (case mkT=>k_is)
  (case kT=>k_is)
  (case nf0=>k_is)
  (case nf1=>k_is)
  (case eS=>k_exc)
  (case b1S=>k_is)
  (case b2S=>k_is)
  (case b3S=>k_is)
  (case b4S=>k_is)
  (case b7S=>k_is)
  (case b8S=>k_is)
  (case s1S=>k_is)
  (case b5=>k_is)
  (case b6=>k_is)
  (case n1=>k_is)
  (case n2=>k_is)
  (case n3=>k_is)
  (case sV=>kit_is)
  (case x1=>kit_is)
  (case x2=>kit_is)
  (case z0=>k_is)
  (case z1=>k_is)
  (case z2=>k_is)
  (case z3=>k_is)
  (case z4=>k_is)
  (case z5=>k_is)
  (case z6=>k_is)
  (case z7=>k_is)
  (case z8=>k_is)
  (case z9=>k_is)
  (case z10=>k_is)
  (case z11=>k_is)
  (case z12=>k_is)
  (case z13=>k_is)
  (case z14=>k_is)
  (case z15=>k_is)
  (case z16=>k_is)
#print axioms PySem.Challenge.cw_bridgecrews_k26_levels_looked_at_holds
